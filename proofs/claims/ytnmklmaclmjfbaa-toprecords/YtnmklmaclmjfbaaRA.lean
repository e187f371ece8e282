/- The contract of record.Read. Conditions: those written in each theorem. -/
import Derived.Test.YtnmklmaclmjfbaaL
import Derived.Test.YtnmklmaclmjfbaaOK
namespace Go.Proofs.Ytnmklmaclmjfbaa
open Go.RowKit
/-- Where the k-th field begins. -/
def offN (F : List Int) : Nat → Nat
  | 0 => 0
  | k + 1 => offN F k + (F.getD k 0).toNat
/-- The k-th field's number. -/
def numAt (big : Bool) (F : List Int) (s : List UInt8) (k : Nat) : Nat := Num.getN big ((s.drop (offN F k)).take (F.getD k 0).toNat)
/-- The first k fields' numbers. -/
def numsTo (big : Bool) (F : List Int) (s : List UInt8) (k : Nat) : List Nat := (List.range k).map (numAt big F s)
theorem numsTo_length (big : Bool) (F : List Int) (s : List UInt8) (k : Nat) : (numsTo big F s k).length = k := by simp [numsTo]
theorem numsTo_succ (big : Bool) (F : List Int) (s : List UInt8) (k : Nat) : numsTo big F s (k + 1) = numsTo big F s k ++ [numAt big F s k] := by simp [numsTo, List.range_succ]
theorem numsTo_getD (big : Bool) (F : List Int) (s : List UInt8) (l k : Nat) (h : k < l) : (numsTo big F s l).getD k 0 = numAt big F s k := by
  simp [numsTo, List.getD_eq_getElem?_getD, h]
theorem offN_mono (F : List Int) (i j : Nat) (h : i ≤ j) : offN F i ≤ offN F j := by
  induction j with
  | zero => obtain rfl : i = 0 := by omega
            exact Nat.le_refl _
  | succ j ih =>
    by_cases he : i = j + 1
    · subst he; exact Nat.le_refl _
    · have := ih (by omega); show _ ≤ offN F j + (F.getD j 0).toNat; omega
def rowU64 (l : List Nat) : Array Value := (l.map fun n : Nat => Value.int .u64 (n : Int)).toArray
theorem info22 : (Try.prog.info? 29).map (fun i => (i.zero, i.size, i.bytes)) = some (some (.int .u64 0), 1, 8) := by kernel_rfl
theorem madeCells_zeroU (n : Nat) : madeCells (Value.int .u64 0).cells n = rowU64 (List.replicate n 0) := by
  apply Array.ext
  · simp [madeCells, rowU64]
  · intro i h1 h2
    simp [madeCells, rowU64, Value.cells, Nat.mod_one]
theorem make_u64 (n : Nat) (h : n ≤ 100) (w : World) : (Instr.makeSlice 76 (.int .i64 (n : Int)) (.int .i64 (n : Int))).run Try.prog w = .ok (.slice (some ⟨w.heap.size, 0, none⟩) n n) (w.alloc (.cells (rowU64 (List.replicate n 0)) 29)) := by
  obtain ⟨i0, hi, hz0, hz1, hz2⟩ := info_parts info22
  have := run_make w 76 29 i0 (.int .u64 0) Try.underlying76 hi hz0 .i64 .i64 n n (by omega) (by omega) (by rw [hz2]; omega) (by omega)
  rw [this, hz1]
  simp [madeCells_zeroU]
theorem cell_of_rowU {w : World} {b : Nat} {l : List Nat} (h : w.heap[b]? = some (.cells (rowU64 l) 29 (0, 0))) (j : Nat) (hj : j < l.length) : w.cell? ⟨b, j, none⟩ = some (.int .u64 (l[j] : Nat)) := by
  simp [World.cell?, h, rowU64, hj]
theorem free_of_rowU {w : World} {b : Nat} {l : List Nat} (h : w.heap[b]? = some (.cells (rowU64 l) 29 (0, 0))) (j : Nat) : w.frozen? ⟨b, j, none⟩ = false := by
  simp [World.frozen?, h]
theorem rowU_set {wr : World} {b : Nat} {l : List Nat} (h : wr.heap[b]? = some (.cells (rowU64 l) 29 (0, 0))) (j : Nat) (n : Nat) :
    (wr.setCell ⟨b, j, none⟩ (.int .u64 (n : Int))).heap[b]? = some (.cells (rowU64 (l.set j n)) 29 (0, 0)) := by
  rw [heap_setCell_same wr b j _ 29 _ h]
  congr 2
  simp [rowU64, List.map_set]
/-- The row while it is being filled. -/
def numsRow (big : Bool) (F : List Int) (s : List UInt8) (l k : Nat) : List Nat := numsTo big F s k ++ List.replicate (l - k) 0
theorem numsRow_length (big : Bool) (F : List Int) (s : List UInt8) (l k : Nat) (h : k ≤ l) : (numsRow big F s l k).length = l := by simp only [numsRow, List.length_append, numsTo_length, List.length_replicate]; omega
theorem numsRow_step (big : Bool) (F : List Int) (s : List UInt8) (l k : Nat) (h : k < l) : (numsRow big F s l k).set k (numAt big F s k) = numsRow big F s l (k + 1) := by
  unfold numsRow
  rw [List.set_append_right _ _ (by rw [numsTo_length]; omega), numsTo_length, Nat.sub_self, show l - k = (l - (k + 1)) + 1 by omega, List.replicate_succ, List.set_cons_zero, numsTo_succ]
  simp
theorem IsRd.other {w : World} {R R' j : Nat} {big : Bool} {s : ByteArray} {at_ : Nat} {err : Int} {v : Value} (h : IsRd w R big s at_ err) (hn : R ≠ R') : IsRd (w.setCell ⟨R', j, none⟩ v) R big s at_ err := by
  unfold IsRd at h ⊢
  rw [heap_setCell_other _ _ _ _ hn]
  exact h
/-- What record.Read answers where all is there: a new row of the fields' numbers, and true. -/
def RecRead (big : Bool) (F : List Int) (s : ByteArray) (l : Nat) (w : World) (e : Ending) (w' : World) : Prop :=
  ∃ b, w.heap.size ≤ b ∧ b < w'.heap.size ∧ e = .returned (.tuple #[.slice (some ⟨b, 0, none⟩) l l, .bool true]) ∧ w'.heap[b]? = some (.cells (rowU64 (numsTo big F s.data.toList l)) 29 (0, 0)) ∧ Below w.heap.size w w'
/-- All sizes may be. -/
def sizesOk (wide : Bool) (zs : List Int) (l : Nat) : Prop := ∀ k, k < l → 1 ≤ fullZ wide (zs.getD k 0) ∧ fullZ wide (zs.getD k 0) ≤ 8
set_option maxRecDepth 100000 in
set_option maxHeartbeats 1000000 in
theorem recRead_yes (big wide : Bool) (a : Option Addr) (l c : Nat) (zs : List Int) (s : ByteArray) (w : World) (hl : l ≤ 20) (hs : s.size ≤ 1048576) (r : RowI w a l zs) (hz : sizesOk wide zs l)
    (hsz : offN (fullL wide zs l) l ≤ s.size) :
    Calls Try.prog 85 #[.agg #[.bool big, .bool wide], .string s, .slice a l c] w (RecRead big (fullL wide zs l) s l w) := by
  have R := Lib.hid r; clear r
  have HZ := Lib.hid hz; clear hz
  go_enter Try.func85, Try.ntmps85
  go_wp2_with fail
  refine (sizes_any big wide a l c zs _ hl (R.out.kept ((Below.refl _ _).alloc (Nat.le_refl _) _) (Nat.le_refl _))).mono ?_
  rintro e w1 ⟨b, hb1, hb2, rfl, hrow, hg0⟩
  have hg : Below w.heap.size w w1 := ((Below.refl _ _).alloc (Nat.le_refl _) _).trans (hg0.mono (by simp))
  have hbox0 : w1.cell? ⟨w.heap.size, 0, none⟩ = some (.bool big) := by rw [hg0.cell (by simp)]; simp
  have hbw : w.heap.size < w1.heap.size := by have := hg0.size; simp at this; omega
  clear hg0
  simp only [World.size_alloc] at hb1
  have HR := Lib.hid hrow; clear hrow
  generalize sumZ wide zs l = S
  have hmk := make_u64 l (by omega)
  go_wp2_with fail
  refine (read_any big s 0 _).mono ?_
  rintro e w2 ⟨rfl, hI, hB, hsz2⟩
  clear hmk
  simp only [World.size_alloc] at hI hsz2 ⊢
  have hrow2 : w2.heap[w1.heap.size]? = some (.cells (rowU64 (numsRow big (fullL wide zs l) s.data.toList l 0)) 29 (0, 0)) := by
    rw [hB.block _ (by simp), heap_alloc_new]; simp [numsRow, numsTo]
  have hfull2 : w2.heap[b]? = some (.cells (rowI64 (fullL wide zs l)) 3 (0, 0)) := by
    rw [hB.block _ (by simp; omega), Below.heap_alloc _ _ _ hb2]; exact HR.out
  have hg2 : Below w.heap.size w w2 := (hg.alloc hg.size _).trans (hB.mono (by simp; omega))
  have HI := Lib.hid hI; clear hI
  have HROW := Lib.hid hrow2; clear hrow2
  have HFULL := Lib.hid hfull2; clear hfull2
  have HSZ2 := Lib.hid hsz2; clear hsz2
  clear hB hbox0 HR hg
  go_wp2
  go_loopw [12, 13, 29] (fun _ _ i wr => ∃ k : Nat, k ≤ l ∧ i = .int .i64 k ∧ IsRd wr (w1.heap.size + 1 + 1) big s (offN (fullL wide zs l) k) 0 ∧ wr.heap[w1.heap.size]? = some (.cells (rowU64 (numsRow big (fullL wide zs l) s.data.toList l k)) 29 (0, 0)) ∧ wr.heap[b]? = some (.cells (rowI64 (fullL wide zs l)) 3 (0, 0)) ∧ w1.heap.size + 1 + 1 < wr.heap.size ∧ Below w.heap.size w wr) (fun _ _ i _ => l - (intOf i).toNat)
  case atStart => exact ⟨0, Nat.zero_le _, rfl, HI.out, HROW.out, HFULL.out, by rw [HSZ2.out]; omega, hg2⟩
  case round =>
    obtain ⟨k, hk, rfl, hI, hrow, hfull, hszr, hg⟩ := hrel
    clear hg2
    by_cases hlt : k < l
    · have hcf : wr.cell? ⟨b, k, none⟩ = some (.int .i64 (fullZ wide (zs.getD k 0))) := by
        rw [cell_of_rowI hfull k (by rw [fullL_length]; exact hlt)]
        have := fullL_getD wide zs l k hlt
        rw [List.getD_eq_getElem?_getD, List.getElem?_eq_getElem (by rw [fullL_length]; exact hlt)] at this
        rw [← this]; rfl
      obtain ⟨hz1, hz8⟩ := HZ.out k hlt
      have hoff : offN (fullL wide zs l) (k + 1) = offN (fullL wide zs l) k + (fullZ wide (zs.getD k 0)).toNat := by
        show offN (fullL wide zs l) k + ((fullL wide zs l).getD k 0).toNat = _
        rw [fullL_getD wide zs l k hlt]
      have hmono := offN_mono (fullL wide zs l) (k + 1) l (by omega)
      have hnum : numAt big (fullL wide zs l) s.data.toList k = Num.getN big ((s.data.toList.drop (offN (fullL wide zs l) k)).take (fullZ wide (zs.getD k 0)).toNat) := by
        unfold numAt; rw [fullL_getD wide zs l k hlt]
      generalize fullZ wide (zs.getD k 0) = f at *
      obtain ⟨m, rfl⟩ := Int.eq_ofNat_of_zero_le (show 0 ≤ f by omega)
      rw [Int.toNat_natCast] at hoff hnum
      have hfr := free_of_rowU hrow k
      have hcl := cell_of_rowU hrow k (by rw [numsRow_length _ _ _ _ _ hk]; exact hlt)
      generalize ((numsRow big (fullL wide zs l) s.data.toList l k)[k]'(by rw [numsRow_length _ _ _ _ _ hk]; exact hlt)) = y at hcl
      have hst := numsRow_step big (fullL wide zs l) s.data.toList l k hlt
      rw [hnum] at hst
      have HST := Lib.hid hst; clear hst hnum
      have HF := Lib.hid hfull; clear hfull
      have HR := Lib.hid hrow; clear hrow
      have HI' := Lib.hid hI; clear hI
      have o1 : offN (fullL wide zs l) k ≤ s.size := by omega
      have o2 : m ≤ s.size - offN (fullL wide zs l) k := by omega
      have HOFF := Lib.hid hoff; clear hoff hmono
      have hi0 : (0 : Int) ≤ (k : Int) := by omega
      have hi1 : (k : Int) < (l : Int) := by omega
      go_wp2_with fail
      refine (next_yes _ big s _ m _ HI'.out hs (by omega) (by omega) o1 o2).mono ?_
      rintro e w3 ⟨rfl, hI3, hO⟩
      have hbw3 := hO.size
      have hcl3 : w3.cell? ⟨w1.heap.size, k, none⟩ = some (.int .u64 (y : Nat)) := by rw [hO.cell (by show w1.heap.size < _; omega) (by show w1.heap.size ≠ _; omega)]; exact hcl
      have hrow3 : w3.heap[w1.heap.size]? = some (.cells (rowU64 (numsRow big (fullL wide zs l) s.data.toList l k)) 29 (0, 0)) := by rw [hO.block _ (by omega) (by omega)]; exact HR.out
      have hfull3 : w3.heap[b]? = some (.cells (rowI64 (fullL wide zs l)) 3 (0, 0)) := by rw [hO.block _ (by omega) (by omega)]; exact HF.out
      have hg3 : Below w.heap.size w w3 := hg.trans (hO.below hg.size (by omega))
      have hfr3 := free_of_rowU hrow3 k
      rw [← HOFF.out] at hI3
      generalize Num.getN big (List.take m (List.drop (offN (fullL wide zs l) k) s.data.toList)) = nn at *
      have R3 := rowU_set hrow3 k nn
      rw [HST.out] at R3
      have HR3 := Lib.hid R3; clear R3 hrow3
      have HF3 := Lib.hid hfull3; clear hfull3
      have HI3 := Lib.hid hI3; clear hI3
      clear hcl hfr hcf hO
      go_wp2
      go_roundw
      case rel => exact ⟨k + 1, by omega, by go_num, IsRd.other HI3.out (by omega), HR3.out, by rw [heap_setCell_other _ _ _ _ (by show b ≠ w1.heap.size; omega)]; exact HF3.out, by simp; omega, hg3.setCell (by show w.heap.size ≤ w1.heap.size; omega) _⟩
      case measure => simp [intOf]; omega
    · obtain rfl : k = l := by omega
      have e : numsRow big (fullL wide zs k) s.data.toList k k = numsTo big (fullL wide zs k) s.data.toList k := by simp [numsRow]
      rw [e] at hrow
      have HR := Lib.hid hrow; clear hrow e
      have HI' := Lib.hid hI; clear hI
      clear hfull
      go_wp2_with fail
      refine (err_any _ big s _ 0 _ HI'.out).mono ?_
      rintro e w3 ⟨rfl, rfl⟩
      go_wp2
      go_ret2
      exact ⟨w1.heap.size, by omega, by omega, rfl, HR.out, hg⟩
end Go.Proofs.Ytnmklmaclmjfbaa
