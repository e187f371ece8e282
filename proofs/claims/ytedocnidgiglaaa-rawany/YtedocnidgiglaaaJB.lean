/- Contracts of class's fits, Fits and Sizes. Conditions: those written in each theorem. The contract of class's Sizes. Conditions: those written in each theorem. The contract of class's Record. Conditions: those written in each theorem. The contract of the reference's Record. Conditions: those written in each theorem. The contract of the reference's Record where a number may not be in its field. Conditions: those written in each theorem. What Record, the reference's Record and Fits answer, each in one contract. Conditions: those written in each theorem. Contracts of order's Get, at every text. Conditions: those written in each theorem. Contracts of order's Reader: Read, Bytes, Next, At, Err. Conditions: those written in each theorem. The contract of record.Read. Conditions: those written in each theorem. The contract of record.Read where bytes are missing. Conditions: those written in each theorem. Contracts of a header's package, by gen_hdr.py. Conditions: those written in each theorem. Plain facts on records: what is put is read again, and what is read is put again. Conditions: those written in each theorem. -/
import Derived.Test.YtedocnidgiglaaaJA
import Derived.Laws.BitsAllLaws
namespace Go.Proofs.Ytedocnidgiglaaa
open Go.RowKit
theorem toList_data (s : ByteArray) : s.toList = s.data.toList := ByteArray.toList_eq s
theorem word_any (big wide : Bool) (w : World) :
    Calls Try.prog 19 #[.agg #[.bool big, .bool wide]] w fun e w' => e = .returned (.int .i64 (if wide then 8 else 4)) ∧ w' = w.alloc (.cells #[.bool big, .bool wide] 34) := by
  cases wide
  all_goals
    go_enter Try.func19, Try.ntmps19
    go_wp2
    go_ret
    exact ⟨rfl, rfl⟩
theorem fits_num (n m : Nat) : ((n : Int) / 2 ^ (8 * m) == 0) = decide (n < 256 ^ m) := by
  have hp : 2 ^ (8 * m) = 256 ^ m := by rw [Nat.pow_mul]
  have e2 : ((2 : Int) ^ (8 * m)) = ((256 ^ m : Nat) : Int) := by rw [← hp]; simp
  rw [e2, ← Int.natCast_ediv]
  have h0 : 0 < 256 ^ m := Nat.pow_pos (by decide)
  rw [Bool.eq_iff_iff, beq_iff_eq, decide_eq_true_iff]
  have h2 : n / 256 ^ m = 0 ↔ n < 256 ^ m := by rw [Nat.div_eq_zero_iff]; omega
  rw [← h2]
  generalize n / 256 ^ m = q at *
  omega
theorem ret_bool {a b : Bool} (h : a = b) : Ending.returned (.bool a) = .returned (.bool b) := by rw [h]
theorem fits_any (n m : Nat) (w : World) (hm : m ≤ 8) :
    Calls Try.prog 122 #[.int .u64 n, .int .i64 m] w fun e w' => e = .returned (.bool (decide (n < 256 ^ m))) ∧ w = w' := by
  have hmi : (m : Int) ≤ 8 := by omega
  go_enter Try.func122, Try.ntmps122
  go_wp2
  go_ret
  exact ⟨ret_bool (fits_num n m), rfl⟩
theorem fits_is (b : Bool) (n : Nat) (m : Int) (w : World) (h0 : 0 ≤ m) (hm : m ≤ 8) (hb : decide (n < 256 ^ m.toNat) = b) :
    Calls Try.prog 122 #[.int .u64 n, .int .i64 m] w fun e w' => e = .returned (.bool b) ∧ w = w' := by
  obtain ⟨k, rfl⟩ := Int.eq_ofNat_of_zero_le h0
  rw [Int.toNat_natCast] at hb
  have := fits_any n k w (by omega)
  rwa [hb] at this
def wordN (wide : Bool) : Nat := if wide then 8 else 4
theorem word_int (wide : Bool) : (if wide then (8 : Int) else 4) = (wordN wide : Int) := by cases wide <;> rfl
theorem word_is (big wide : Bool) (w : World) :
    Calls Try.prog 19 #[.agg #[.bool big, .bool wide]] w fun e w' => e = .returned (.int .i64 (wordN wide : Int)) ∧ w' = w.alloc (.cells #[.bool big, .bool wide] 34) := by
  have := word_any big wide w
  rwa [word_int] at this
/-- Whether a word can hold the k-th number. -/
def fitAt (wide : Bool) (ns : List Nat) (k : Nat) : Bool := decide (ns.getD k 0 < 256 ^ wordN wide)
/-- The size of a field: a word's for 0. -/
def fullZ (wide : Bool) (z : Int) : Int := if z = 0 then (wordN wide : Int) else z
def fullL (wide : Bool) (zs : List Int) (l : Nat) : List Int := (List.range l).map fun k => fullZ wide (zs.getD k 0)
/-- The sum of the first sizes, as an int. -/
def sumZ (wide : Bool) (zs : List Int) : Nat → Int
  | 0 => 0
  | k + 1 => wrap64 (sumZ wide zs k + fullZ wide (zs.getD k 0))
theorem fullL_getD (wide : Bool) (zs : List Int) (l k : Nat) (h : k < l) : (fullL wide zs l).getD k 0 = fullZ wide (zs.getD k 0) := by
  unfold fullL
  rw [List.getD_eq_getElem?_getD, List.getElem?_map, List.getElem?_range h]
  rfl
def rowI64 (l : List Int) : Array Value := (l.map fun z => Value.int .i64 z).toArray
theorem info3 : (Try.prog.info? 3).map (fun i => (i.zero, i.size, i.bytes)) = some (some (.int .i64 0), 1, 8) := by kernel_rfl
theorem madeCells_zeroI (n : Nat) : madeCells (Value.int .i64 0).cells n = rowI64 (List.replicate n 0) := by
  apply Array.ext
  · simp [madeCells, rowI64]
  · intro i h1 h2
    simp [madeCells, rowI64, Value.cells, Nat.mod_one]
theorem make_i64 (n : Nat) (h : n ≤ 100) (w : World) : (Instr.makeSlice 68 (.int .i64 (n : Int)) (.int .i64 (n : Int))).run Try.prog w = .ok (.slice (some ⟨w.heap.size, 0, none⟩) n n) (w.alloc (.cells (rowI64 (List.replicate n 0)) 3)) := by
  obtain ⟨i0, hi, hz0, hz1, hz2⟩ := info_parts info3
  have := run_make w 68 3 i0 (.int .i64 0) Try.underlying68 hi hz0 .i64 .i64 n n (by omega) (by omega) (by rw [hz2]; omega) (by omega)
  rw [this, hz1]
  simp [madeCells_zeroI]
theorem cell_of_rowI {w : World} {b : Nat} {l : List Int} (h : w.heap[b]? = some (.cells (rowI64 l) 3 (0, 0))) (j : Nat) (hj : j < l.length) : w.cell? ⟨b, j, none⟩ = some (.int .i64 l[j]) := by
  simp [World.cell?, h, rowI64, hj]
theorem free_of_rowI {w : World} {b : Nat} {l : List Int} (h : w.heap[b]? = some (.cells (rowI64 l) 3 (0, 0))) (j : Nat) : w.frozen? ⟨b, j, none⟩ = false := by
  simp [World.frozen?, h]
theorem rowI_set {wr : World} {b : Nat} {l : List Int} (h : wr.heap[b]? = some (.cells (rowI64 l) 3 (0, 0))) (j : Nat) (z : Int) :
    (wr.setCell ⟨b, j, none⟩ (.int .i64 z)).heap[b]? = some (.cells (rowI64 (l.set j z)) 3 (0, 0)) := by
  rw [heap_setCell_same wr b j _ 3 _ h]
  congr 2
  simp [rowI64, List.map_set]
/-- The sizes' row after k rounds. -/
def fullTo (wide : Bool) (zs : List Int) (l k : Nat) : List Int := fullL wide zs k ++ List.replicate (l - k) 0
theorem fullTo_length (wide : Bool) (zs : List Int) (l k : Nat) (h : k ≤ l) : (fullTo wide zs l k).length = l := by simp [fullTo, fullL]; omega
theorem fullTo_step (wide : Bool) (zs : List Int) (l k : Nat) (h : k < l) : (fullTo wide zs l k).set k (fullZ wide (zs.getD k 0)) = fullTo wide zs l (k + 1) := by
  unfold fullTo fullL
  rw [List.set_append_right _ _ (by simp), show l - k = (l - (k + 1)) + 1 by omega, List.replicate_succ]
  simp [List.range_succ]
end Go.Proofs.Ytedocnidgiglaaa
namespace Go.Proofs.Ytedocnidgiglaaa
open Go.RowKit
/-- What Sizes answers: a new row of the full sizes, and their sum. -/
def SizesOut (wide : Bool) (l : Nat) (zs : List Int) (w : World) (e : Ending) (w' : World) : Prop :=
  ∃ b, w.heap.size ≤ b ∧ b < w'.heap.size ∧ e = .returned (.tuple #[.slice (some ⟨b, 0, none⟩) l l, .int .i64 (sumZ wide zs l)]) ∧ w'.heap[b]? = some (.cells (rowI64 (fullL wide zs l)) 3 (0, 0)) ∧ Below w.heap.size w w'
theorem cell_set_other {w : World} {b b' o o' : Nat} {v : Value} (h : b ≠ b') : (w.setCell ⟨b', o', none⟩ v).cell? ⟨b, o, none⟩ = w.cell? ⟨b, o, none⟩ :=
  World.cell?_of_block (w := w) (Below.heap_setCell w ⟨b', o', none⟩ v b h)
theorem cell_alloc_old {w : World} {b o : Nat} {x : Obj} (h : b < w.heap.size) : (w.alloc x).cell? ⟨b, o, none⟩ = w.cell? ⟨b, o, none⟩ :=
  World.cell?_of_block (w := w) (Below.heap_alloc w x b h)
set_option maxRecDepth 100000 in
set_option maxHeartbeats 1000000 in
theorem sizes_any (big wide : Bool) (a : Option Addr) (l c : Nat) (zs : List Int) (w : World) (hl : l ≤ 20) (r : RowI w a l zs) :
    Calls Try.prog 84 #[.agg #[.bool big, .bool wide], .slice a l c] w (SizesOut wide l zs w) := by
  have R := Lib.hid r; clear r
  have hmk := make_i64 l (by omega)
  go_enter Try.func84, Try.ntmps84
  go_wp2
  clear hmk
  go_loopw [7, 8, 9, 15] (fun s _ _ i wr => ∃ k : Nat, k ≤ l ∧ i = .int .i64 k ∧ s = .int .i64 (sumZ wide zs k) ∧ wr.cell? ⟨w.heap.size, 0, none⟩ = some (.bool big) ∧ wr.cell? ⟨w.heap.size, 1, none⟩ = some (.bool wide) ∧ w.heap.size + 1 < wr.heap.size ∧ wr.heap[w.heap.size + 1]? = some (.cells (rowI64 (fullTo wide zs l k)) 3 (0, 0)) ∧ Below w.heap.size w wr) (fun _ _ _ i _ => l - (intOf i).toNat)
  case atStart =>
    refine ⟨0, Nat.zero_le _, rfl, rfl, by simp, by simp, by simp, ?_, ((Below.refl _ _).alloc (Nat.le_refl _) _).alloc (by simp) _⟩
    simpa [fullTo, fullL] using two_new w (.cells #[.bool big, .bool wide] 34) (.cells (rowI64 (List.replicate l 0)) 3)
  case round =>
    obtain ⟨k, hk, rfl, rfl, hb0, hb1, hsz, hrow, hg⟩ := hrel
    by_cases hlt : k < l
    · obtain ⟨b, off, rfl, hb, hc⟩ := R.out k hlt
      have hcw : wr.cell? ⟨b, off + k, none⟩ = some (.int .i64 (zs.getD k 0)) := by rw [hg.cell (by exact hb)]; exact hc
      clear hc
      have hstep : sumZ wide zs (k + 1) = wrap64 (sumZ wide zs k + fullZ wide (zs.getD k 0)) := rfl
      have hst2 := fullTo_step wide zs l k hlt
      have hfr := free_of_rowI hrow k
      have hcl := cell_of_rowI hrow k (by rw [fullTo_length _ _ _ _ hk]; exact hlt)
      generalize (fullTo wide zs l k)[k]'(by rw [fullTo_length _ _ _ _ hk]; exact hlt) = y at hcl
      generalize zs.getD k 0 = z at *
      generalize sumZ wide zs k = sk at *
      have HST := Lib.hid hstep; clear hstep
      have HS2 := Lib.hid hst2; clear hst2
      have HR := Lib.hid hrow; clear hrow
      have hi0 : (0 : Int) ≤ (k : Int) := by omega
      have hi1 : (k : Int) < (l : Int) := by omega
      by_cases hz : z = 0
      · have hzb : (z == 0) = true := by simp [hz]
        have hf : fullZ wide z = (wordN wide : Int) := by unfold fullZ; rw [if_pos hz]
        have HF := Lib.hid hf; clear hf
        have HZ := Lib.hid hz; clear hz
        go_wp2_with (go_at_call 19; refine (word_is big wide _).mono ?_; rintro e w2 ⟨rfl, rfl⟩)
        have R1 := rowI_set HR.out k (wordN wide : Int)
        rw [← HF.out, HS2.out] at R1
        refine ⟨⟨k + 1, by omega, by go_num, int_eq (by rw [HST.out, HF.out]), by rw [cell_alloc_old (by simp; omega), cell_set_other (by omega)]; exact hb0, by rw [cell_alloc_old (by simp; omega), cell_set_other (by omega)]; exact hb1, by simp; omega, ?_, (hg.setCell (by simp) _).alloc (by simpa using hg.size) _⟩, by simp [intOf]; omega⟩
        rw [Below.heap_alloc _ _ _ (by simpa using hsz), ← HF.out]
        exact R1
      · have hzb : (z == 0) = false := by simp [hz]
        have hf : fullZ wide z = z := by unfold fullZ; rw [if_neg hz]
        have HF := Lib.hid hf; clear hf
        have HZ := Lib.hid hz; clear hz
        go_wp2
        have R1 := rowI_set HR.out k z
        rw [HF.out] at HS2
        rw [HS2.out] at R1
        refine ⟨⟨k + 1, by omega, by go_num, int_eq (by rw [HST.out, HF.out]), by rw [cell_set_other (by omega)]; exact hb0, by rw [cell_set_other (by omega)]; exact hb1, by simp; omega, R1, hg.setCell (by simp) _⟩, by simp [intOf]; omega⟩
    · obtain rfl : k = l := by omega
      have e : fullTo wide zs k k = fullL wide zs k := by simp [fullTo]
      rw [e] at hrow
      have HR := Lib.hid hrow; clear hrow e
      go_wp2
      go_ret2
      exact ⟨w.heap.size + 1, by omega, hsz, rfl, HR.out, hg⟩
end Go.Proofs.Ytedocnidgiglaaa
namespace Go.Proofs.Ytedocnidgiglaaa
open Go.RowKit
/-- Whether the k-th number may be in the k-th field. -/
def okAt (wide : Bool) (zs : List Int) (ns : List Nat) (k : Nat) : Prop :=
  0 ≤ fullZ wide (zs.getD k 0) ∧ fullZ wide (zs.getD k 0) ≤ 8 ∧ ns.getD k 0 < 256 ^ (fullZ wide (zs.getD k 0)).toNat
theorem RowI.of_row {w : World} {b : Nat} {L : List Int} (hb : b < w.heap.size) (h : w.heap[b]? = some (.cells (rowI64 L) 3 (0, 0))) : RowI w (some ⟨b, 0, none⟩) L.length L := fun k hk =>
  ⟨b, 0, rfl, hb, by rw [Nat.zero_add, cell_of_rowI h k hk, List.getD_eq_getElem?_getD, List.getElem?_eq_getElem hk]; rfl⟩
theorem RowI.kept {w w' : World} {a : Option Addr} {len l : Nat} {zs : List Int} (h : RowI w a len zs) (hb : Below w.heap.size w w') (hl : l ≤ len) : RowI w' a l zs := fun k hk => by
  obtain ⟨b, off, e, h1, h2⟩ := h k (by omega)
  exact ⟨b, off, e, Nat.lt_of_lt_of_le h1 hb.size, by rw [hb.cell (by exact h1)]; exact h2⟩
theorem RowN.kept {w w' : World} {a : Option Addr} {len l : Nat} {ns : List Nat} (h : RowN w a len ns) (hb : Below w.heap.size w w') (hl : l ≤ len) : RowN w' a l ns := fun k hk => by
  obtain ⟨b, off, e, h1, h2, h3⟩ := h k (by omega)
  exact ⟨b, off, e, Nat.lt_of_lt_of_le h1 hb.size, by rw [hb.cell (by exact h1)]; exact h2, h3⟩
theorem fullL_length (wide : Bool) (zs : List Int) (l : Nat) : (fullL wide zs l).length = l := by simp [fullL]
set_option maxRecDepth 100000 in
theorem record_len (big wide : Bool) (a1 a2 : Option Addr) (l1 c1 l2 c2 : Nat) (w : World) (h : l1 ≠ l2) :
    Calls Try.prog 86 #[.agg #[.bool big, .bool wide], .slice a1 l1 c1, .slice a2 l2 c2] w fun e w' => e = .returned (.tuple #[.string ⟨#[]⟩, .bool false]) ∧ Below w.heap.size w w' := by
  have hb : ((l1 : Int) != (l2 : Int)) = true := by simp; omega
  go_enter Try.func86, Try.ntmps86
  go_wp2
  go_ret2
  exact ⟨rfl, (Below.refl _ _).alloc (Nat.le_refl _) _⟩
set_option maxRecDepth 100000 in
set_option maxHeartbeats 1000000 in
theorem record_yes (big wide : Bool) (a1 a2 : Option Addr) (l c1 c2 : Nat) (zs : List Int) (ns : List Nat) (w : World) (hl : l ≤ 20) (r1 : RowI w a1 l zs) (r2 : RowN w a2 l ns)
    (hok : ∀ k, k < l → okAt wide zs ns k) :
    Calls Try.prog 86 #[.agg #[.bool big, .bool wide], .slice a1 l c1, .slice a2 l c2] w fun e w' => e = .returned (.tuple #[.string ⟨(fieldsL big (fullL wide zs l) ns l).toArray⟩, .bool true]) ∧ Below w.heap.size w w' := by
  have R1 := Lib.hid r1; clear r1
  have R2 := Lib.hid r2; clear r2
  have HOK := Lib.hid hok; clear hok
  go_enter Try.func86, Try.ntmps86
  go_wp2_with fail
  refine (sizes_any big wide a1 l c1 zs _ hl (R1.out.kept ((Below.refl _ _).alloc (Nat.le_refl _) _) (Nat.le_refl _))).mono ?_
  rintro e w1 ⟨b, hb1, hb2, rfl, hrow, hg0⟩
  have hg : Below w.heap.size w w1 := ((Below.refl _ _).alloc (Nat.le_refl _) _).trans (hg0.mono (by simp))
  have hbox0 : w1.cell? ⟨w.heap.size, 0, none⟩ = some (.bool big) := by rw [hg0.cell (by simp)]; simp
  have hbox1 : w1.cell? ⟨w.heap.size, 1, none⟩ = some (.bool wide) := by rw [hg0.cell (by simp)]; simp
  clear hg0
  have HR := Lib.hid hrow; clear hrow
  generalize sumZ wide zs l = S
  go_wp2
  go_loop [10, 11, 25] (fun _ _ i => ∃ k : Nat, k ≤ l ∧ i = .int .i64 k) (fun _ _ i => l - (intOf i).toNat)
  case atStart => exact ⟨0, Nat.zero_le _, rfl⟩
  case round =>
    obtain ⟨k, hk, rfl⟩ := hrel
    by_cases hlt : k < l
    · obtain ⟨b2, off2, rfl, hbb, hc2, hn2⟩ := R2.out k hlt
      have hc2w : w1.cell? ⟨b2, off2 + k, none⟩ = some (.int .u64 (ns.getD k 0 : Nat)) := by rw [hg.cell (by exact hbb)]; exact hc2
      clear hc2
      have hcf : w1.cell? ⟨b, k, none⟩ = some (.int .i64 (fullZ wide (zs.getD k 0))) := by
        rw [cell_of_rowI HR.out k (by rw [fullL_length]; exact hlt)]
        have := fullL_getD wide zs l k hlt
        rw [List.getD_eq_getElem?_getD, List.getElem?_eq_getElem (by rw [fullL_length]; exact hlt)] at this
        rw [← this]; rfl
      obtain ⟨ho0, ho8, hof⟩ := HOK.out k hlt
      generalize fullZ wide (zs.getD k 0) = f at *
      generalize ns.getD k 0 = y at *
      have HOF := Lib.hid (show decide (y < 256 ^ f.toNat) = true by simpa using hof); clear hof
      have HN := Lib.hid hn2; clear hn2
      have hi0 : (0 : Int) ≤ (k : Int) := by omega
      have hi1 : (k : Int) < (l : Int) := by omega
      have hd0 : decide (f < 0) = false := by simp; omega
      have hd8 : decide ((8 : Int) < f) = false := by simp; omega
      go_wp2_with (go_at_call 122; refine (fits_is true y f _ ho0 ho8 HOF.out).mono ?_; rintro e w3 ⟨rfl, rfl⟩)
      go_round
      case rel => exact ⟨k + 1, by omega, by go_num⟩
      case measure => simp [intOf]; omega
    · obtain rfl : k = l := by omega
      go_wp2_with fail
      have hR := RowI.of_row hb2 HR.out
      rw [fullL_length] at hR
      refine (fields_any big _ a2 k k k c2 _ ns _ hl hl hR (R2.out.kept hg (Nat.le_refl _))).mono ?_
      rintro e w2 ⟨rfl, h2⟩
      rw [Nat.min_self]
      go_wp2
      go_ret2
      exact ⟨rfl, hg.trans (h2.mono hg.size)⟩
set_option maxRecDepth 100000 in
set_option maxHeartbeats 1000000 in
theorem record_no (big wide : Bool) (a1 a2 : Option Addr) (l c1 c2 : Nat) (zs : List Int) (ns : List Nat) (w : World) (hl : l ≤ 20) (r1 : RowI w a1 l zs) (r2 : RowN w a2 l ns)
    (k0 : Nat) (hk0 : k0 < l) (hok : ∀ k, k < k0 → okAt wide zs ns k) (hno : ¬ okAt wide zs ns k0) :
    Calls Try.prog 86 #[.agg #[.bool big, .bool wide], .slice a1 l c1, .slice a2 l c2] w fun e w' => e = .returned (.tuple #[.string ⟨#[]⟩, .bool false]) ∧ Below w.heap.size w w' := by
  have R1 := Lib.hid r1; clear r1
  have R2 := Lib.hid r2; clear r2
  have HOK := Lib.hid hok; clear hok
  have HNO := Lib.hid hno; clear hno
  go_enter Try.func86, Try.ntmps86
  go_wp2_with fail
  refine (sizes_any big wide a1 l c1 zs _ hl (R1.out.kept ((Below.refl _ _).alloc (Nat.le_refl _) _) (Nat.le_refl _))).mono ?_
  rintro e w1 ⟨b, hb1, hb2, rfl, hrow, hg0⟩
  have hg : Below w.heap.size w w1 := ((Below.refl _ _).alloc (Nat.le_refl _) _).trans (hg0.mono (by simp))
  have hbox0 : w1.cell? ⟨w.heap.size, 0, none⟩ = some (.bool big) := by rw [hg0.cell (by simp)]; simp
  have hbox1 : w1.cell? ⟨w.heap.size, 1, none⟩ = some (.bool wide) := by rw [hg0.cell (by simp)]; simp
  clear hg0
  have HR := Lib.hid hrow; clear hrow
  generalize sumZ wide zs l = S
  go_wp2
  go_loop [10, 11, 25] (fun _ _ i => ∃ k : Nat, k ≤ k0 ∧ i = .int .i64 k) (fun _ _ i => l - (intOf i).toNat)
  case atStart => exact ⟨0, Nat.zero_le _, rfl⟩
  case round =>
    obtain ⟨k, hk, rfl⟩ := hrel
    by_cases hlt : k < k0
    · obtain ⟨b2, off2, rfl, hbb, hc2, hn2⟩ := R2.out k (by omega)
      have hc2w : w1.cell? ⟨b2, off2 + k, none⟩ = some (.int .u64 (ns.getD k 0 : Nat)) := by rw [hg.cell (by exact hbb)]; exact hc2
      clear hc2
      have hcf : w1.cell? ⟨b, k, none⟩ = some (.int .i64 (fullZ wide (zs.getD k 0))) := by
        rw [cell_of_rowI HR.out k (by rw [fullL_length]; omega)]
        have := fullL_getD wide zs l k (by omega)
        rw [List.getD_eq_getElem?_getD, List.getElem?_eq_getElem (by rw [fullL_length]; omega)] at this
        rw [← this]; rfl
      obtain ⟨ho0, ho8, hof⟩ := HOK.out k hlt
      generalize fullZ wide (zs.getD k 0) = f at *
      generalize ns.getD k 0 = y at *
      have HOF := Lib.hid (show decide (y < 256 ^ f.toNat) = true by simpa using hof); clear hof
      have HN := Lib.hid hn2; clear hn2
      have hi0 : (0 : Int) ≤ (k : Int) := by omega
      have hi1 : (k : Int) < (l : Int) := by omega
      have hd0 : decide (f < 0) = false := by simp; omega
      have hd8 : decide ((8 : Int) < f) = false := by simp; omega
      go_wp2_with (go_at_call 122; refine (fits_is true y f _ ho0 ho8 HOF.out).mono ?_; rintro e w3 ⟨rfl, rfl⟩)
      go_round
      case rel => exact ⟨k + 1, by omega, by go_num⟩
      case measure => simp [intOf]; omega
    · obtain rfl : k = k0 := by omega
      obtain ⟨b2, off2, rfl, hbb, hc2, hn2⟩ := R2.out k (by omega)
      have hc2w : w1.cell? ⟨b2, off2 + k, none⟩ = some (.int .u64 (ns.getD k 0 : Nat)) := by rw [hg.cell (by exact hbb)]; exact hc2
      clear hc2
      have hcf : w1.cell? ⟨b, k, none⟩ = some (.int .i64 (fullZ wide (zs.getD k 0))) := by
        rw [cell_of_rowI HR.out k (by rw [fullL_length]; omega)]
        have := fullL_getD wide zs l k (by omega)
        rw [List.getD_eq_getElem?_getD, List.getElem?_eq_getElem (by rw [fullL_length]; omega)] at this
        rw [← this]; rfl
      have hno := HNO.out
      unfold okAt at hno
      generalize fullZ wide (zs.getD k 0) = f at *
      generalize ns.getD k 0 = y at *
      have HN := Lib.hid hn2; clear hn2
      have hi0 : (0 : Int) ≤ (k : Int) := by omega
      have hi1 : (k : Int) < (l : Int) := by omega
      have hcases : decide (f < 0) = true ∨ decide (f < 0) = false ∧ decide ((8 : Int) < f) = true ∨ decide (f < 0) = false ∧ decide ((8 : Int) < f) = false ∧ decide (y < 256 ^ f.toNat) = false := by
        by_cases h0 : f < 0
        · left; simpa using h0
        · right
          by_cases h8 : 8 < f
          · left; exact ⟨by simpa using h0, by simpa using h8⟩
          · right
            refine ⟨by simpa using h0, by simpa using h8, ?_⟩
            simp
            exact Nat.le_of_not_lt fun h => hno ⟨by omega, by omega, h⟩
      clear hno
      rcases hcases with hd0 | ⟨hd0, hd8⟩ | ⟨hd0, hd8, hf⟩
      · go_wp2
        go_ret2
        exact ⟨rfl, hg⟩
      · go_wp2
        go_ret2
        exact ⟨rfl, hg⟩
      · have HOF := Lib.hid hf; clear hf
        have ho0 : 0 ≤ f := by simpa using hd0
        have ho8 : f ≤ 8 := by simpa using hd8
        go_wp2_with (go_at_call 122; refine (fits_is false y f _ ho0 ho8 HOF.out).mono ?_; rintro e w3 ⟨rfl, rfl⟩)
        go_ret2
        exact ⟨rfl, hg⟩
end Go.Proofs.Ytedocnidgiglaaa
namespace Go.Proofs.Ytedocnidgiglaaa
open Go.RowKit
namespace Num
theorem horner_leB (n k : Nat) : horner (leB n k).reverse = n % 256 ^ k := by
  induction k with
  | zero => simp [leB, horner, Nat.mod_one]
  | succ k ih =>
    rw [leB, List.reverse_append, List.reverse_singleton, List.singleton_append, horner_cons, List.length_reverse, leB_length, ih, Nat.mod_pow_succ, UInt8.toNat_ofNat', Nat.mul_comm, Nat.add_comm]
theorem getN_putL (big : Bool) (n k : Nat) (h1 : 1 ≤ k) (h8 : k ≤ 8) : getN big (putL big n (k : Int)) = n % 256 ^ k := by
  unfold getN putL
  rw [if_pos (show 1 ≤ (k : Int) ∧ (k : Int) ≤ 8 by omega), Int.toNat_natCast]
  cases big
  · simp [leB_length, h8, horner_leB]
  · simp [leB_length, h8, horner_leB]
theorem putL_pos (big : Bool) (n k : Nat) (h1 : 1 ≤ k) (h8 : k ≤ 8) : putL big n (k : Int) ≠ [] := by
  unfold putL
  rw [if_pos (by omega), Int.toNat_natCast]
  intro h
  have := congrArg List.length h
  cases big <;> simp [leB_length] at this <;> omega
end Num
theorem add_str (S P : ByteArray) (h : S.size + P.size ≤ 9223372036854775807) : ∀ W, (Op.stringOp .add S P).run Try.prog W = .ok (.string (S ++ P)) W := fun W => run_string_add_sum W S P h
theorem fullZ_pos (wide : Bool) (z : Int) (h : 0 ≤ fullZ wide z) : 1 ≤ fullZ wide z := by
  unfold fullZ at *
  split
  · cases wide <;> decide
  · rename_i hz
    rw [if_neg hz] at h
    omega
/-- What is put and read again is the number just where it may be there. -/
theorem ok_back (big wide : Bool) (z : Int) (y : Nat) : (0 ≤ fullZ wide z ∧ fullZ wide z ≤ 8 ∧ y < 256 ^ (fullZ wide z).toNat) ↔ (Num.putL big y (fullZ wide z) ≠ [] ∧ Num.getN big (Num.putL big y (fullZ wide z)) = y) := by
  by_cases h : 1 ≤ fullZ wide z ∧ fullZ wide z ≤ 8
  · obtain ⟨k, hk⟩ := Int.eq_ofNat_of_zero_le (show 0 ≤ fullZ wide z by omega)
    rw [hk] at h ⊢
    rw [Num.getN_putL big y k (by omega) (by omega), Int.toNat_natCast]
    have h0 : 0 < 256 ^ k := Nat.pow_pos (by decide)
    constructor
    · rintro ⟨_, _, h3⟩
      exact ⟨Num.putL_pos big y k (by omega) (by omega), Nat.mod_eq_of_lt h3⟩
    · rintro ⟨_, h3⟩
      have := Nat.mod_lt y h0
      exact ⟨by omega, by omega, by omega⟩
  · constructor
    · rintro ⟨h1, h2, _⟩
      exact absurd ⟨fullZ_pos wide z h1, h2⟩ h
    · rintro ⟨h1, _⟩
      exact absurd (by unfold Num.putL; rw [if_neg h]) h1
theorem fields_snoc (big : Bool) (F : List Int) (ns : List Nat) (k : Nat) (f : Int) (y : Nat) (hf : F.getD k 0 = f) (hy : ns.getD k 0 = y) :
    (⟨(fieldsL big F ns k).toArray⟩ : ByteArray) ++ ⟨(Num.putL big y f).toArray⟩ = ⟨(fieldsL big F ns (k + 1)).toArray⟩ := by
  subst hf hy
  apply ByteArray.ext
  simp [fieldsL]
end Go.Proofs.Ytedocnidgiglaaa
namespace Go.Proofs.Ytedocnidgiglaaa
open Go.RowKit
end Go.Proofs.Ytedocnidgiglaaa
namespace Go.Proofs.Ytedocnidgiglaaa
open Go.RowKit
theorem first_fail (p : Nat → Prop) (l : Nat) : (∀ k, k < l → p k) ∨ ∃ k0, k0 < l ∧ (∀ k, k < k0 → p k) ∧ ¬ p k0 := by
  induction l with
  | zero => exact Or.inl fun k hk => absurd hk (Nat.not_lt_zero k)
  | succ l ih =>
    rcases ih with h | ⟨k0, h1, h2, h3⟩
    · by_cases hp : p l
      · left
        intro k hk
        by_cases he : k = l
        · subst he; exact hp
        · exact h k (by omega)
      · exact Or.inr ⟨l, by omega, h, hp⟩
    · exact Or.inr ⟨k0, by omega, h2, h3⟩
/-- What a record is: its bytes, and whether it may be. -/
def RecIs (big wide : Bool) (zs : List Int) (ns : List Nat) (m1 m2 : Nat) (S : ByteArray) (ok : Bool) : Prop :=
  (m1 ≠ m2 ∧ S = ⟨#[]⟩ ∧ ok = false) ∨ (m1 = m2 ∧ (∀ k, k < m1 → okAt wide zs ns k) ∧ S = ⟨(fieldsL big (fullL wide zs m1) ns m1).toArray⟩ ∧ ok = true) ∨
  (m1 = m2 ∧ (∃ k0, k0 < m1 ∧ (∀ k, k < k0 → okAt wide zs ns k) ∧ ¬ okAt wide zs ns k0) ∧ S = ⟨#[]⟩ ∧ ok = false)
theorem recIs_exists (big wide : Bool) (zs : List Int) (ns : List Nat) (m1 m2 : Nat) : ∃ S ok, RecIs big wide zs ns m1 m2 S ok := by
  by_cases h : m1 = m2
  · rcases first_fail (okAt wide zs ns) m1 with h1 | h1
    · exact ⟨_, _, Or.inr (Or.inl ⟨h, h1, rfl, rfl⟩)⟩
    · exact ⟨_, _, Or.inr (Or.inr ⟨h, h1, rfl, rfl⟩)⟩
  · exact ⟨_, _, Or.inl ⟨h, rfl, rfl⟩⟩
theorem record_is (big wide : Bool) (a1 a2 : Option Addr) (m1 c1 m2 c2 : Nat) (zs : List Int) (ns : List Nat) (S : ByteArray) (ok : Bool) (w : World) (hl : m1 ≤ 20) (r1 : RowI w a1 m1 zs) (r2 : RowN w a2 m2 ns) (h : RecIs big wide zs ns m1 m2 S ok) :
    Calls Try.prog 86 #[.agg #[.bool big, .bool wide], .slice a1 m1 c1, .slice a2 m2 c2] w fun e w' => e = .returned (.tuple #[.string S, .bool ok]) ∧ Below w.heap.size w w' := by
  rcases h with ⟨h, rfl, rfl⟩ | ⟨rfl, h, rfl, rfl⟩ | ⟨rfl, ⟨k0, h1, h2, h3⟩, rfl, rfl⟩
  · exact record_len big wide a1 a2 m1 c1 m2 c2 w h
  · exact record_yes big wide a1 a2 m1 c1 c2 zs ns w hl r1 r2 h
  · exact record_no big wide a1 a2 m1 c1 c2 zs ns w hl r1 r2 k0 h1 h2 h3
theorem putL_len (big : Bool) (n : Nat) (f : Int) (h1 : 1 ≤ f) (h8 : f ≤ 8) : ((Num.putL big n f).length : Int) = f := by
  obtain ⟨k, rfl⟩ := Int.eq_ofNat_of_zero_le (show 0 ≤ f by omega)
  unfold Num.putL
  rw [if_pos ⟨h1, h8⟩, Int.toNat_natCast]
  cases big <;> simp [Num.leB_length]
theorem fields_size (big wide : Bool) (zs : List Int) (ns : List Nat) (m : Nat) (hm : m ≤ 20) (h : ∀ k, k < m → okAt wide zs ns k) (k : Nat) (hk : k ≤ m) :
    ((fieldsL big (fullL wide zs m) ns k).length : Int) = sumZ wide zs k ∧ 0 ≤ sumZ wide zs k ∧ sumZ wide zs k ≤ 8 * k := by
  induction k with
  | zero => simp [fieldsL, sumZ]
  | succ k ih =>
    obtain ⟨e1, e2, e3⟩ := ih (by omega)
    obtain ⟨h0, h8, _⟩ := h k (by omega)
    have h1 := fullZ_pos wide _ h0
    have hp := putL_len big (ns.getD k 0) _ h1 h8
    have hw : sumZ wide zs (k + 1) = sumZ wide zs k + fullZ wide (zs.getD k 0) := by
      show wrap64 (sumZ wide zs k + fullZ wide (zs.getD k 0)) = _
      unfold wrap64
      generalize sumZ wide zs k = x at *
      generalize fullZ wide (zs.getD k 0) = f at *
      omega
    rw [hw]
    unfold fieldsL
    rw [List.length_append, fullL_getD wide zs m k (by omega)]
    refine ⟨?_, by omega, by omega⟩
    push_cast
    rw [hp, e1]
theorem recIs_size {big wide : Bool} {zs : List Int} {ns : List Nat} {m1 m2 : Nat} {S : ByteArray} {ok : Bool} (h : RecIs big wide zs ns m1 m2 S ok) (hm : m1 ≤ 20) : ok = true → ((S.size : Int) == sumZ wide zs m1) = true := by
  intro hok
  rcases h with ⟨_, _, h⟩ | ⟨_, h, rfl, _⟩ | ⟨_, _, _, h⟩
  · rw [hok] at h; cases h
  · have := (fields_size big wide zs ns m1 hm h m1 (Nat.le_refl _)).1
    rw [← this]
    simp [ByteArray.size]
  · rw [hok] at h; cases h
/-- Whether a word can hold the first k numbers. -/
def fitsTo (wide : Bool) (ns : List Nat) : Nat → Bool
  | 0 => true
  | k + 1 => fitsTo wide ns k && fitAt wide ns k
theorem fitsTo_true (wide : Bool) (ns : List Nat) (l : Nat) (h : ∀ k, k < l → fitAt wide ns k = true) : fitsTo wide ns l = true := by
  induction l with
  | zero => rfl
  | succ l ih => unfold fitsTo; rw [ih fun k hk => h k (by omega), h l (by omega)]; rfl
theorem fitsTo_false (wide : Bool) (ns : List Nat) (l k0 : Nat) (hk : k0 < l) (h : fitAt wide ns k0 = false) : fitsTo wide ns l = false := by
  induction l with
  | zero => omega
  | succ l ih =>
    unfold fitsTo
    by_cases he : k0 = l
    · subst he; rw [h]; simp
    · rw [ih (by omega)]; rfl
theorem fit_wide (ns : List Nat) (k : Nat) (h : ns.getD k 0 < 2 ^ 64) : fitAt true ns k = true := by
  unfold fitAt
  have : (256 : Nat) ^ wordN true = 2 ^ 64 := by decide
  rw [this]
  simpa using h
theorem fit_narrow (ns : List Nat) (k : Nat) : fitAt false ns k = decide (ns.getD k 0 < 4294967296) := rfl
end Go.Proofs.Ytedocnidgiglaaa
namespace Go.Proofs.Ytedocnidgiglaaa
open Go.RowKit
theorem or_step (L : List UInt8) (k : Nat) (hk : k < L.length) (h8 : L.length ≤ 8) (x : Nat) (hx : Num.horner (L.take k).reverse = x) (b : UInt8) (hb : L[k] = b) :
    bits .or .u64 (x : Int) (IntKind.u64.wrap (IntKind.u64.wrap (b.toNat : Int) * 2 ^ (8 * k))) = ((Num.horner (L.take (k + 1)).reverse : Nat) : Int) := by
  subst hx hb
  have h2 := pow_le_8 (show k < 8 by omega)
  have hp : 2 ^ (8 * k) = 256 ^ k := by rw [Nat.pow_mul]
  have hx := Num.horner_lt (L.take k).reverse
  rw [List.length_reverse, List.length_take, Nat.min_eq_left (by omega)] at hx
  rw [take_snoc L k hk, List.reverse_append, List.reverse_singleton, List.singleton_append, Num.horner_cons, List.length_reverse, List.length_take, Nat.min_eq_left (by omega)]
  generalize Num.horner (L.take k).reverse = x at *
  have hb := L[k].toNat_lt
  generalize L[k].toNat = b at *
  have hm : b * 256 ^ k ≤ 255 * 256 ^ k := Nat.mul_le_mul_right _ (by omega)
  rw [Nat.pow_succ] at h2
  have e1 : IntKind.u64.wrap (b : Int) = (b : Int) := by rw [IntKind.wrap_u64]; omega
  have e2 : ((2 : Int) ^ (8 * k)) = ((256 ^ k : Nat) : Int) := by rw [← hp]; simp
  have e3 : ((b : Int) * ((256 ^ k : Nat) : Int)) = ((b * 256 ^ k : Nat) : Int) := by simp
  have e4 : IntKind.u64.wrap ((b * 256 ^ k : Nat) : Int) = ((b * 256 ^ k : Nat) : Int) := by
    rw [IntKind.wrap_u64]
    generalize b * 256 ^ k = y at *
    generalize 256 ^ k = z at *
    omega
  have e5 : x ||| b * 256 ^ k = b * 256 ^ k + x := by
    rw [Nat.or_comm, Nat.mul_comm b, ← hp]
    exact (Nat.two_pow_add_eq_or_of_lt (by rw [hp]; exact hx) b).symm
  rw [e1, e2, e3, e4, u64_or_nat _ _ (by generalize 256 ^ k = z at *; omega) (by generalize b * 256 ^ k = y at *; generalize 256 ^ k = z at *; omega), e5]
set_option maxRecDepth 100000 in
set_option maxHeartbeats 400000 in
theorem get_big (s : ByteArray) (w : World) (h1 : 1 ≤ s.size) (h8 : s.size ≤ 8) :
    Calls Try.prog 160 #[.agg #[.bool true], .string s] w fun e w' => e = .returned (.int .u64 (Num.horner s.data.toList : Nat)) ∧ Below w.heap.size w w' := by
  have hi1 : (1 : Int) ≤ (s.size : Int) := by omega
  have hi8 : (s.size : Int) ≤ 8 := by omega
  go_enter Try.func160, Try.ntmps160
  go_wp2_with (go_at_call 158; refine (isSize_yes _ _ (by omega) (by omega)).mono ?_; rintro e w' ⟨rfl, rfl⟩)
  go_loopw [5, 6, 13] (fun n _ i wr => ∃ k : Nat, k ≤ s.size ∧ i = .int .i64 k ∧ n = .int .u64 (Num.horner ((s.data.toList.reverse.take k).reverse) : Nat) ∧ wr.cell? ⟨w.heap.size, 0, none⟩ = some (.bool true) ∧ w.heap.size < wr.heap.size ∧ Below w.heap.size w wr) (fun _ _ i _ => s.size - (intOf i).toNat)
  case atStart => exact ⟨0, Nat.zero_le _, rfl, rfl, by simp, by simp, (Below.refl _ _).alloc (Nat.le_refl _) _⟩
  case round =>
    obtain ⟨k, hk, rfl, rfl, hcell, hsz, hg⟩ := hrel
    by_cases hlt : k < s.size
    · generalize hx : Num.horner ((s.data.toList.reverse.take k).reverse) = x
      have HX := Lib.hid hx; clear hx
      go_wp2_with (go_at_call 159; refine (index_big _ _ _ (by omega) (by omega) (by omega)).mono ?_; rintro e w' ⟨rfl, rfl⟩)
      go_roundw
      case rel => exact ⟨k + 1, by omega, by go_num, int_eq (or_step s.data.toList.reverse k (by simpa using hlt) (by simpa using h8) x HX.out _ (by rw [List.getElem_reverse]; rfl)), by rw [World.cell?_alloc_past _ _ _ hsz]; exact hcell, by simp; omega, hg.alloc hg.size _⟩
      case measure => simp [intOf]; omega
    · go_wp2
      go_ret
      exact ⟨ret_int (by rw [List.take_of_length_le (by simp; omega), List.reverse_reverse]), hg⟩
set_option maxRecDepth 100000 in
set_option maxHeartbeats 400000 in
theorem get_little (s : ByteArray) (w : World) (h1 : 1 ≤ s.size) (h8 : s.size ≤ 8) :
    Calls Try.prog 160 #[.agg #[.bool false], .string s] w fun e w' => e = .returned (.int .u64 (Num.horner s.data.toList.reverse : Nat)) ∧ Below w.heap.size w w' := by
  have hi1 : (1 : Int) ≤ (s.size : Int) := by omega
  have hi8 : (s.size : Int) ≤ 8 := by omega
  go_enter Try.func160, Try.ntmps160
  go_wp2_with (go_at_call 158; refine (isSize_yes _ _ (by omega) (by omega)).mono ?_; rintro e w' ⟨rfl, rfl⟩)
  go_loopw [5, 6, 13] (fun n _ i wr => ∃ k : Nat, k ≤ s.size ∧ i = .int .i64 k ∧ n = .int .u64 (Num.horner ((s.data.toList.take k).reverse) : Nat) ∧ wr.cell? ⟨w.heap.size, 0, none⟩ = some (.bool false) ∧ w.heap.size < wr.heap.size ∧ Below w.heap.size w wr) (fun _ _ i _ => s.size - (intOf i).toNat)
  case atStart => exact ⟨0, Nat.zero_le _, rfl, rfl, by simp, by simp, (Below.refl _ _).alloc (Nat.le_refl _) _⟩
  case round =>
    obtain ⟨k, hk, rfl, rfl, hcell, hsz, hg⟩ := hrel
    by_cases hlt : k < s.size
    · generalize hx : Num.horner ((s.data.toList.take k).reverse) = x
      have HX := Lib.hid hx; clear hx
      go_wp2_with (go_at_call 159; refine (index_little _ _ _).mono ?_; rintro e w' ⟨rfl, rfl⟩)
      go_roundw
      case rel => exact ⟨k + 1, by omega, by go_num, int_eq (or_step s.data.toList k (by simpa using hlt) (by simpa using h8) x HX.out _ rfl), by rw [World.cell?_alloc_past _ _ _ hsz]; exact hcell, by simp; omega, hg.alloc hg.size _⟩
      case measure => simp [intOf]; omega
    · go_wp2
      go_ret
      exact ⟨ret_int (by rw [List.take_of_length_le (by simp; omega)]), hg⟩
theorem get_none (big : Bool) (s : ByteArray) (w : World) (h : s.size < 1 ∨ 8 < s.size) :
    Calls Try.prog 160 #[.agg #[.bool big], .string s] w fun e w' => e = .returned (.int .u64 0) ∧ Below w.heap.size w w' := by
  have hi : (s.size : Int) < 1 ∨ (8 : Int) < (s.size : Int) := by omega
  go_enter Try.func160, Try.ntmps160
  go_wp2_with (go_at_call 158; refine (isSize_no _ _ hi).mono ?_; rintro e w' ⟨rfl, rfl⟩)
  go_ret
  exact ⟨rfl, (Below.refl _ _).alloc (Nat.le_refl _) _⟩
/-- Get, at every argument. -/
theorem get_any (big : Bool) (s : ByteArray) (w : World) :
    Calls Try.prog 160 #[.agg #[.bool big], .string s] w fun e w' => e = .returned (.int .u64 (Num.getN big s.data.toList : Nat)) ∧ Below w.heap.size w w' := by
  by_cases h : s.size ≤ 8
  · have h' : s.data.toList.length ≤ 8 := by simpa using h
    simp only [Num.getN, if_pos h']
    by_cases h1 : 1 ≤ s.size
    · cases big
      · exact get_little s w h1 h
      · exact get_big s w h1 h
    · have h0 : s.data.toList = [] := by
        apply List.eq_nil_of_length_eq_zero; have : s.data.toList.length = s.size := by simp
        omega
      rw [h0]
      simp only [List.reverse_nil, Num.horner_nil, ite_self]
      exact get_none big s w (by omega)
  · have h' : ¬ s.data.toList.length ≤ 8 := by simpa using h
    simp only [Num.getN, if_neg h']
    exact get_none big s w (by omega)
end Go.Proofs.Ytedocnidgiglaaa
namespace Go.Proofs.Ytedocnidgiglaaa
open Go.RowKit
/-- Block R holds a reader. -/
def IsRd (w : World) (R : Nat) (big : Bool) (s : ByteArray) (at_ : Nat) (err : Int) : Prop :=
  w.heap[R]? = some (.cells #[.bool big, .string s, .int .u64 at_, .int .i64 err] 272 (0, 0))
/-- Of the blocks that there were, R alone may have changed. -/
structure OnlyAt (R : Nat) (w w' : World) : Prop where
  os : w'.os = w.os
  tape : w'.tape = w.tape
  output : w'.output = w.output
  size : w.heap.size ≤ w'.heap.size
  block : ∀ k, k < w.heap.size → k ≠ R → w'.heap[k]? = w.heap[k]?
theorem OnlyAt.refl (R : Nat) (w : World) : OnlyAt R w w := ⟨rfl, rfl, rfl, Nat.le_refl _, fun _ _ _ => rfl⟩
theorem OnlyAt.trans {R : Nat} {a b c : World} (h : OnlyAt R a b) (k : OnlyAt R b c) : OnlyAt R a c :=
  ⟨k.os.trans h.os, k.tape.trans h.tape, k.output.trans h.output, Nat.le_trans h.size k.size, fun i hi hn => (k.block i (Nat.lt_of_lt_of_le hi h.size) hn).trans (h.block i hi hn)⟩
theorem OnlyAt.of_below {R : Nat} {a b : World} (h : Below a.heap.size a b) : OnlyAt R a b := ⟨h.os, h.tape, h.output, h.size, fun k hk _ => h.block k hk⟩
theorem OnlyAt.below {R B : Nat} {a b : World} (h : OnlyAt R a b) (hB : B ≤ a.heap.size) (hR : B ≤ R) : Below B a b :=
  ⟨h.os, h.tape, h.output, h.size, fun k hk => h.block k (by omega) (by omega)⟩
theorem OnlyAt.setCell (R j : Nat) (w : World) (v : Value) : OnlyAt R w (w.setCell ⟨R, j, none⟩ v) :=
  ⟨rfl, rfl, rfl, by simp, fun k _ hn => heap_setCell_other w _ k v hn⟩
theorem OnlyAt.drew {R : Nat} {w w' : World} (h : OnlyAt R w w') : OnlyAt R w w'.drew := ⟨h.os, h.tape, h.output, h.size, h.block⟩
theorem OnlyAt.drewN {R : Nat} {w w' : World} (h : OnlyAt R w w') (n : Nat) : OnlyAt R w (w'.drewN n) := by
  have := below_drewN (B := w'.heap.size) (Below.refl w'.heap.size w') (n := n)
  exact h.trans (OnlyAt.of_below this)
theorem OnlyAt.cell {R : Nat} {w w' : World} (h : OnlyAt R w w') {p : Addr} (hp : p.block < w.heap.size) (hR : p.block ≠ R) : w'.cell? p = w.cell? p := World.cell?_of_block (w := w) (h.block p.block hp hR)
theorem IsRd.lt {w : World} {R : Nat} {big : Bool} {s : ByteArray} {at_ : Nat} {err : Int} (h : IsRd w R big s at_ err) : R < w.heap.size := by
  unfold IsRd at h
  exact (Array.getElem?_eq_some_iff.1 h).1
theorem IsRd.cells {w : World} {R : Nat} {big : Bool} {s : ByteArray} {at_ : Nat} {err : Int} (h : IsRd w R big s at_ err) :
    w.cell? ⟨R, 0, none⟩ = some (.bool big) ∧ w.cell? ⟨R, 1, none⟩ = some (.string s) ∧ w.cell? ⟨R, 2, none⟩ = some (.int .u64 at_) ∧ w.cell? ⟨R, 3, none⟩ = some (.int .i64 err) ∧ ∀ j, w.frozen? ⟨R, j, none⟩ = false := by
  unfold IsRd at h
  simp [World.cell?, World.frozen?, h]
theorem IsRd.setAt {w : World} {R : Nat} {big : Bool} {s : ByteArray} {at_ : Nat} {err : Int} (h : IsRd w R big s at_ err) (n : Nat) : IsRd (w.setCell ⟨R, 2, none⟩ (.int .u64 n)) R big s n err := by
  unfold IsRd at h ⊢
  rw [heap_setCell_same w R 2 _ 272 _ h]
  simp
theorem IsRd.setErr {w : World} {R : Nat} {big : Bool} {s : ByteArray} {at_ : Nat} {err : Int} (h : IsRd w R big s at_ err) (n : Int) : IsRd (w.setCell ⟨R, 3, none⟩ (.int .i64 n)) R big s at_ n := by
  unfold IsRd at h ⊢
  rw [heap_setCell_same w R 3 _ 272 _ h]
  simp
theorem IsRd.only {w w' : World} {R : Nat} {big : Bool} {s : ByteArray} {at_ : Nat} {err : Int} (h : IsRd w R big s at_ err) (hb : Below w.heap.size w w') : IsRd w' R big s at_ err := by
  have hl := h.lt
  unfold IsRd at h ⊢
  rw [hb.block R hl]
  exact h
theorem read_any (big : Bool) (s : ByteArray) (n : Nat) (w : World) :
    Calls Try.prog 142 #[.agg #[.bool big], .string s, .int .u64 n] w fun e w' => e = .returned (.pointer (some ⟨w.heap.size + 1, 0, none⟩)) ∧ IsRd w' (w.heap.size + 1) big s n 0 ∧ Below w.heap.size w w' ∧ w'.heap.size = w.heap.size + 2 := by
  go_enter Try.func142, Try.ntmps142
  go_wp2
  go_ret
  refine ⟨rfl, ?_, ((Below.refl _ _).alloc (Nat.le_refl _) _).alloc (by simp) _, by simp⟩
  exact two_new _ _ _
theorem err_any (R : Nat) (big : Bool) (s : ByteArray) (n : Nat) (err : Int) (w : World) (h : IsRd w R big s n err) :
    Calls Try.prog 144 #[.pointer (some ⟨R, 0, none⟩)] w fun e w' => e = .returned (.int .i64 err) ∧ w = w' := by
  obtain ⟨c0, c1, c2, c3, hf⟩ := h.cells
  clear h
  go_enter Try.func144, Try.ntmps144
  go_wp2
  go_ret
  exact ⟨rfl, rfl⟩
set_option maxRecDepth 100000 in
set_option maxHeartbeats 400000 in
theorem bytes_yes (R : Nat) (big : Bool) (s : ByteArray) (n m : Nat) (w : World) (h : IsRd w R big s n 0) (hs : s.size ≤ 1048576) (h1 : n ≤ s.size) (h2 : m ≤ s.size - n) :
    Calls Try.prog 161 #[.pointer (some ⟨R, 0, none⟩), .int .u64 m] w fun e w' => e = .returned (.string (s.extract n (n + m))) ∧ IsRd w' R big s (n + m) 0 ∧ OnlyAt R w w' := by
  obtain ⟨c0, c1, c2, c3, hf⟩ := h.cells
  have hf3 := hf 3
  have hf2 := hf 2
  have HI := Lib.hid h; clear h hf
  have hw : IntKind.u64.wrap (s.size : Int) = (s.size : Int) := by rw [IntKind.wrap_u64]; omega
  have hsub : IntKind.u64.wrap ((s.size : Int) - (n : Int)) = ((s.size - n : Nat) : Int) := by rw [IntKind.wrap_u64]; omega
  have hadd : IntKind.u64.wrap ((n : Int) + (m : Int)) = ((n + m : Nat) : Int) := by rw [IntKind.wrap_u64]; omega
  have hd1 : decide (s.size < n) = false := by simp; omega
  have hd2 : decide (s.size - n < m) = false := by simp; omega
  go_enter Try.func161, Try.ntmps161
  go_wp2
  have hb0 : (0 : Int) ≤ (n : Int) := by omega
  have hb1 : (n : Int) ≤ (n : Int) + (m : Int) := by omega
  have hb2 : (n : Int) + (m : Int) ≤ (s.size : Int) := by omega
  clear hw hsub hadd hd1 hd2
  go_quiet (fail)
  go_wp2
  go_ret
  have hI := HI.out.setAt (n + m)
  rw [Int.natCast_add] at hI
  exact ⟨rfl, hI.only (below_drewN (Below.refl _ _) _), (OnlyAt.setCell R 2 w _).drewN _⟩
set_option maxRecDepth 100000 in
set_option maxHeartbeats 400000 in
theorem bytes_bad (R : Nat) (big : Bool) (s : ByteArray) (n m : Nat) (w : World) (h : IsRd w R big s n 3) :
    Calls Try.prog 161 #[.pointer (some ⟨R, 0, none⟩), .int .u64 m] w fun e w' => e = .returned (.string ⟨#[]⟩) ∧ IsRd w' R big s n 3 ∧ OnlyAt R w w' := by
  obtain ⟨c0, c1, c2, c3, hf⟩ := h.cells
  have HI := Lib.hid h; clear h hf
  go_enter Try.func161, Try.ntmps161
  go_wp2
  go_ret
  exact ⟨rfl, HI.out, OnlyAt.refl _ _⟩
set_option maxRecDepth 100000 in
set_option maxHeartbeats 400000 in
theorem bytes_beyond (R : Nat) (big : Bool) (s : ByteArray) (n m : Nat) (w : World) (h : IsRd w R big s n 0) (hs : s.size ≤ 1048576) (h1 : s.size < n) :
    Calls Try.prog 161 #[.pointer (some ⟨R, 0, none⟩), .int .u64 m] w fun e w' => e = .returned (.string ⟨#[]⟩) ∧ IsRd w' R big s n 3 ∧ OnlyAt R w w' := by
  obtain ⟨c0, c1, c2, c3, hf⟩ := h.cells
  have hf3 := hf 3
  have HI := Lib.hid h; clear h hf
  have hw : IntKind.u64.wrap (s.size : Int) = (s.size : Int) := by rw [IntKind.wrap_u64]; omega
  have hd1 : decide (s.size < n) = true := by simp; omega
  go_enter Try.func161, Try.ntmps161
  go_wp2
  go_ret
  exact ⟨rfl, HI.out.setErr 3, OnlyAt.setCell R 3 w _⟩
set_option maxRecDepth 100000 in
set_option maxHeartbeats 400000 in
theorem bytes_short (R : Nat) (big : Bool) (s : ByteArray) (n m : Nat) (w : World) (h : IsRd w R big s n 0) (hs : s.size ≤ 1048576) (h1 : n ≤ s.size) (h2 : s.size - n < m) :
    Calls Try.prog 161 #[.pointer (some ⟨R, 0, none⟩), .int .u64 m] w fun e w' => e = .returned (.string ⟨#[]⟩) ∧ IsRd w' R big s n 3 ∧ OnlyAt R w w' := by
  obtain ⟨c0, c1, c2, c3, hf⟩ := h.cells
  have hf3 := hf 3
  have HI := Lib.hid h; clear h hf
  have hw : IntKind.u64.wrap (s.size : Int) = (s.size : Int) := by rw [IntKind.wrap_u64]; omega
  have hsub : IntKind.u64.wrap ((s.size : Int) - (n : Int)) = ((s.size - n : Nat) : Int) := by rw [IntKind.wrap_u64]; omega
  have hd1 : decide (s.size < n) = false := by simp; omega
  have hd2 : decide (s.size - n < m) = true := by simp; omega
  go_enter Try.func161, Try.ntmps161
  go_wp2
  go_ret
  exact ⟨rfl, HI.out.setErr 3, OnlyAt.setCell R 3 w _⟩
/-- May so many bytes be read? -/
def may (s : ByteArray) (n m : Nat) (err : Int) : Prop := err = 0 ∧ n ≤ s.size ∧ m ≤ s.size - n
theorem bytes_no (R : Nat) (big : Bool) (s : ByteArray) (n m : Nat) (err : Int) (w : World) (h : IsRd w R big s n err) (he : err = 0 ∨ err = 3) (hs : s.size ≤ 1048576) (hno : ¬ may s n m err) :
    Calls Try.prog 161 #[.pointer (some ⟨R, 0, none⟩), .int .u64 m] w fun e w' => e = .returned (.string ⟨#[]⟩) ∧ IsRd w' R big s n 3 ∧ OnlyAt R w w' := by
  rcases he with rfl | rfl
  · by_cases h1 : n ≤ s.size
    · exact bytes_short R big s n m w h hs h1 (by unfold may at hno; omega)
    · exact bytes_beyond R big s n m w h hs (by omega)
  · exact bytes_bad R big s n m w h
set_option maxRecDepth 100000 in
set_option maxHeartbeats 400000 in
theorem next_size (R : Nat) (big : Bool) (s : ByteArray) (n : Nat) (x : Int) (err : Int) (w : World) (h : IsRd w R big s n err) (hx : x < 1 ∨ 8 < x) :
    Calls Try.prog 143 #[.pointer (some ⟨R, 0, none⟩), .int .i64 x] w fun e w' => e = .returned (.int .u64 0) ∧ IsRd w' R big s n 3 ∧ OnlyAt R w w' := by
  obtain ⟨c0, c1, c2, c3, hf⟩ := h.cells
  have hf3 := hf 3
  have HI := Lib.hid h; clear h hf
  go_enter Try.func143, Try.ntmps143
  go_wp2_with (go_at_call 158; refine (isSize_no _ _ hx).mono ?_; rintro e w' ⟨rfl, rfl⟩)
  go_ret
  exact ⟨rfl, HI.out.setErr 3, OnlyAt.setCell R 3 w _⟩
set_option maxRecDepth 100000 in
set_option maxHeartbeats 400000 in
theorem next_yes (R : Nat) (big : Bool) (s : ByteArray) (n m : Nat) (w : World) (h : IsRd w R big s n 0) (hs : s.size ≤ 1048576) (hm1 : 1 ≤ m) (hm8 : m ≤ 8) (h1 : n ≤ s.size) (h2 : m ≤ s.size - n) :
    Calls Try.prog 143 #[.pointer (some ⟨R, 0, none⟩), .int .i64 m] w fun e w' => e = .returned (.int .u64 (Num.getN big ((s.data.toList.drop n).take m) : Nat)) ∧ IsRd w' R big s (n + m) 0 ∧ OnlyAt R w w' := by
  obtain ⟨c0, c1, c2, c3, hf⟩ := h.cells
  have HI := Lib.hid h; clear h hf
  have hi1 : (1 : Int) ≤ (m : Int) := by omega
  have hi8 : (m : Int) ≤ 8 := by omega
  have hw : IntKind.u64.wrap (m : Int) = (m : Int) := by rw [IntKind.wrap_u64]; omega
  go_enter Try.func143, Try.ntmps143
  go_wp2_with (go_at_call 158; refine (isSize_yes _ _ (by omega) (by omega)).mono ?_; rintro e w' ⟨rfl, rfl⟩)
  go_region_held3 (fun w' => w'.cell? ⟨R, 0, none⟩ = some (.bool big)) (first | go_keep | exact (IsRd.cells hI1).1 | exact (IsRd.cells hI2).1)
    (first | (go_at_call 161; refine (bytes_yes R big s n m _ ?_ hs h1 h2).mono ?_; exact HI.out; rintro e w1 ⟨rfl, hI1, hO1⟩) | (go_at_call 160; refine (get_any big _ _).mono ?_; rintro e w2 ⟨rfl, hB2⟩; have hI2 := hI1.only hB2))
  go_wp2
  go_ret
  exact ⟨rfl, hI2, ((OnlyAt.refl R w).drew.trans hO1).trans (OnlyAt.of_below hB2)⟩
set_option maxRecDepth 100000 in
set_option maxHeartbeats 400000 in
theorem next_short (R : Nat) (big : Bool) (s : ByteArray) (n m : Nat) (err : Int) (w : World) (h : IsRd w R big s n err) (he : err = 0 ∨ err = 3) (hs : s.size ≤ 1048576) (hm1 : 1 ≤ m) (hm8 : m ≤ 8) (hno : ¬ may s n m err) :
    Calls Try.prog 143 #[.pointer (some ⟨R, 0, none⟩), .int .i64 m] w fun e w' => e = .returned (.int .u64 0) ∧ IsRd w' R big s n 3 ∧ OnlyAt R w w' := by
  obtain ⟨c0, c1, c2, c3, hf⟩ := h.cells
  have HI := Lib.hid h; clear h hf
  have HE := Lib.hid he; clear he
  have HNO := Lib.hid hno; clear hno
  have hi1 : (1 : Int) ≤ (m : Int) := by omega
  have hi8 : (m : Int) ≤ 8 := by omega
  have hw : IntKind.u64.wrap (m : Int) = (m : Int) := by rw [IntKind.wrap_u64]; omega
  go_enter Try.func143, Try.ntmps143
  go_wp2_with (go_at_call 158; refine (isSize_yes _ _ (by omega) (by omega)).mono ?_; rintro e w' ⟨rfl, rfl⟩)
  go_region_held3 (fun w' => w'.cell? ⟨R, 0, none⟩ = some (.bool big)) (first | go_keep | exact (IsRd.cells hI1).1 | exact (IsRd.cells hI2).1)
    (first | (go_at_call 161; refine (bytes_no R big s n m err _ ?_ HE.out hs HNO.out).mono ?_; exact HI.out; rintro e w1 ⟨rfl, hI1, hO1⟩) | (go_at_call 160; refine (get_none big _ _ ?_).mono ?_; (left; decide); rintro e w2 ⟨rfl, hB2⟩; have hI2 := hI1.only hB2))
  go_wp2
  go_ret
  exact ⟨rfl, hI2, ((OnlyAt.refl R w).drew.trans hO1).trans (OnlyAt.of_below hB2)⟩
theorem next_no (R : Nat) (big : Bool) (s : ByteArray) (n : Nat) (x : Int) (err : Int) (w : World) (h : IsRd w R big s n err) (he : err = 0 ∨ err = 3) (hs : s.size ≤ 1048576) (hno : ¬ (1 ≤ x ∧ x ≤ 8 ∧ may s n x.toNat err)) :
    Calls Try.prog 143 #[.pointer (some ⟨R, 0, none⟩), .int .i64 x] w fun e w' => e = .returned (.int .u64 0) ∧ IsRd w' R big s n 3 ∧ OnlyAt R w w' := by
  by_cases hx : 1 ≤ x ∧ x ≤ 8
  · obtain ⟨m, rfl⟩ := Int.eq_ofNat_of_zero_le (show 0 ≤ x by omega)
    exact next_short R big s n m err w h he hs (by omega) (by omega) (fun hm => hno ⟨hx.1, hx.2, by simpa using hm⟩)
  · exact next_size R big s n x err w h (by omega)
theorem nil_next (x : Int) (w : World) : Calls Try.prog 143 #[.pointer none, .int .i64 x] w fun e w' => e = .returned (.int .u64 0) ∧ w = w' := by
  go_enter Try.func143, Try.ntmps143
  go_wp2
  go_ret
  exact ⟨rfl, rfl⟩
theorem nil_bytes (x : Int) (w : World) : Calls Try.prog 161 #[.pointer none, .int .u64 x] w fun e w' => e = .returned (.string ⟨#[]⟩) ∧ w = w' := by
  go_enter Try.func161, Try.ntmps161
  go_wp2
  go_ret
  exact ⟨rfl, rfl⟩
theorem nil_err (w : World) : Calls Try.prog 144 #[.pointer none] w fun e w' => e = .returned (.int .i64 1) ∧ w = w' := by
  go_enter Try.func144, Try.ntmps144
  go_wp2
  go_ret
  exact ⟨rfl, rfl⟩
end Go.Proofs.Ytedocnidgiglaaa
namespace Go.Proofs.Ytedocnidgiglaaa
open Go.RowKit
/-- Where the k-th field begins. -/
def offN (F : List Int) : Nat → Nat
  | 0 => 0
  | k + 1 => offN F k + (F.getD k 0).toNat
/-- The k-th field's number. -/
def numAt (big : Bool) (F : List Int) (s : List UInt8) (k : Nat) : Nat := Num.getN big ((s.drop (offN F k)).take (F.getD k 0).toNat)
/-- The first k fields' numbers. -/
def numsTo (big : Bool) (F : List Int) (s : List UInt8) (k : Nat) : List Nat := (List.range k).map (numAt big F s)
theorem numsTo_length (big : Bool) (F : List Int) (s : List UInt8) (k : Nat) : (numsTo big F s k).length = k := by simp [numsTo]
theorem numsTo_succ (big : Bool) (F : List Int) (s : List UInt8) (k : Nat) : numsTo big F s (k + 1) = numsTo big F s k ++ [numAt big F s k] := by simp [numsTo, List.range_succ]
theorem numsTo_getD (big : Bool) (F : List Int) (s : List UInt8) (l k : Nat) (h : k < l) : (numsTo big F s l).getD k 0 = numAt big F s k := by
  simp [numsTo, List.getD_eq_getElem?_getD, h]
theorem offN_mono (F : List Int) (i j : Nat) (h : i ≤ j) : offN F i ≤ offN F j := by
  induction j with
  | zero => obtain rfl : i = 0 := by omega
            exact Nat.le_refl _
  | succ j ih =>
    by_cases he : i = j + 1
    · subst he; exact Nat.le_refl _
    · have := ih (by omega); show _ ≤ offN F j + (F.getD j 0).toNat; omega
def rowU64 (l : List Nat) : Array Value := (l.map fun n : Nat => Value.int .u64 (n : Int)).toArray
theorem info22 : (Try.prog.info? 29).map (fun i => (i.zero, i.size, i.bytes)) = some (some (.int .u64 0), 1, 8) := by kernel_rfl
theorem madeCells_zeroU (n : Nat) : madeCells (Value.int .u64 0).cells n = rowU64 (List.replicate n 0) := by
  apply Array.ext
  · simp [madeCells, rowU64]
  · intro i h1 h2
    simp [madeCells, rowU64, Value.cells, Nat.mod_one]
theorem make_u64 (n : Nat) (h : n ≤ 100) (w : World) : (Instr.makeSlice 76 (.int .i64 (n : Int)) (.int .i64 (n : Int))).run Try.prog w = .ok (.slice (some ⟨w.heap.size, 0, none⟩) n n) (w.alloc (.cells (rowU64 (List.replicate n 0)) 29)) := by
  obtain ⟨i0, hi, hz0, hz1, hz2⟩ := info_parts info22
  have := run_make w 76 29 i0 (.int .u64 0) Try.underlying76 hi hz0 .i64 .i64 n n (by omega) (by omega) (by rw [hz2]; omega) (by omega)
  rw [this, hz1]
  simp [madeCells_zeroU]
theorem cell_of_rowU {w : World} {b : Nat} {l : List Nat} (h : w.heap[b]? = some (.cells (rowU64 l) 29 (0, 0))) (j : Nat) (hj : j < l.length) : w.cell? ⟨b, j, none⟩ = some (.int .u64 (l[j] : Nat)) := by
  simp [World.cell?, h, rowU64, hj]
theorem free_of_rowU {w : World} {b : Nat} {l : List Nat} (h : w.heap[b]? = some (.cells (rowU64 l) 29 (0, 0))) (j : Nat) : w.frozen? ⟨b, j, none⟩ = false := by
  simp [World.frozen?, h]
theorem rowU_set {wr : World} {b : Nat} {l : List Nat} (h : wr.heap[b]? = some (.cells (rowU64 l) 29 (0, 0))) (j : Nat) (n : Nat) :
    (wr.setCell ⟨b, j, none⟩ (.int .u64 (n : Int))).heap[b]? = some (.cells (rowU64 (l.set j n)) 29 (0, 0)) := by
  rw [heap_setCell_same wr b j _ 29 _ h]
  congr 2
  simp [rowU64, List.map_set]
/-- The row while it is being filled. -/
def numsRow (big : Bool) (F : List Int) (s : List UInt8) (l k : Nat) : List Nat := numsTo big F s k ++ List.replicate (l - k) 0
theorem numsRow_length (big : Bool) (F : List Int) (s : List UInt8) (l k : Nat) (h : k ≤ l) : (numsRow big F s l k).length = l := by simp only [numsRow, List.length_append, numsTo_length, List.length_replicate]; omega
theorem numsRow_step (big : Bool) (F : List Int) (s : List UInt8) (l k : Nat) (h : k < l) : (numsRow big F s l k).set k (numAt big F s k) = numsRow big F s l (k + 1) := by
  unfold numsRow
  rw [List.set_append_right _ _ (by rw [numsTo_length]; omega), numsTo_length, Nat.sub_self, show l - k = (l - (k + 1)) + 1 by omega, List.replicate_succ, List.set_cons_zero, numsTo_succ]
  simp
theorem IsRd.other {w : World} {R R' j : Nat} {big : Bool} {s : ByteArray} {at_ : Nat} {err : Int} {v : Value} (h : IsRd w R big s at_ err) (hn : R ≠ R') : IsRd (w.setCell ⟨R', j, none⟩ v) R big s at_ err := by
  unfold IsRd at h ⊢
  rw [heap_setCell_other _ _ _ _ hn]
  exact h
/-- What record.Read answers where all is there: a new row of the fields' numbers, and true. -/
def RecRead (big : Bool) (F : List Int) (s : ByteArray) (l : Nat) (w : World) (e : Ending) (w' : World) : Prop :=
  ∃ b, w.heap.size ≤ b ∧ b < w'.heap.size ∧ e = .returned (.tuple #[.slice (some ⟨b, 0, none⟩) l l, .bool true]) ∧ w'.heap[b]? = some (.cells (rowU64 (numsTo big F s.data.toList l)) 29 (0, 0)) ∧ Below w.heap.size w w'
/-- All sizes may be. -/
def sizesOk (wide : Bool) (zs : List Int) (l : Nat) : Prop := ∀ k, k < l → 1 ≤ fullZ wide (zs.getD k 0) ∧ fullZ wide (zs.getD k 0) ≤ 8
set_option maxRecDepth 100000 in
set_option maxHeartbeats 1000000 in
theorem recRead_yes (big wide : Bool) (a : Option Addr) (l c : Nat) (zs : List Int) (s : ByteArray) (w : World) (hl : l ≤ 20) (hs : s.size ≤ 1048576) (r : RowI w a l zs) (hz : sizesOk wide zs l)
    (hsz : offN (fullL wide zs l) l ≤ s.size) :
    Calls Try.prog 125 #[.agg #[.bool big, .bool wide], .string s, .slice a l c] w (RecRead big (fullL wide zs l) s l w) := by
  have R := Lib.hid r; clear r
  have HZ := Lib.hid hz; clear hz
  go_enter Try.func125, Try.ntmps125
  go_wp2_with fail
  refine (sizes_any big wide a l c zs _ hl (R.out.kept ((Below.refl _ _).alloc (Nat.le_refl _) _) (Nat.le_refl _))).mono ?_
  rintro e w1 ⟨b, hb1, hb2, rfl, hrow, hg0⟩
  have hg : Below w.heap.size w w1 := ((Below.refl _ _).alloc (Nat.le_refl _) _).trans (hg0.mono (by simp))
  have hbox0 : w1.cell? ⟨w.heap.size, 0, none⟩ = some (.bool big) := by rw [hg0.cell (by simp)]; simp
  have hbw : w.heap.size < w1.heap.size := by have := hg0.size; simp at this; omega
  clear hg0
  simp only [World.size_alloc] at hb1
  have HR := Lib.hid hrow; clear hrow
  generalize sumZ wide zs l = S
  have hmk := make_u64 l (by omega)
  go_wp2_with fail
  refine (read_any big s 0 _).mono ?_
  rintro e w2 ⟨rfl, hI, hB, hsz2⟩
  clear hmk
  simp only [World.size_alloc] at hI hsz2 ⊢
  have hrow2 : w2.heap[w1.heap.size]? = some (.cells (rowU64 (numsRow big (fullL wide zs l) s.data.toList l 0)) 29 (0, 0)) := by
    rw [hB.block _ (by simp), heap_alloc_new]; simp [numsRow, numsTo]
  have hfull2 : w2.heap[b]? = some (.cells (rowI64 (fullL wide zs l)) 3 (0, 0)) := by
    rw [hB.block _ (by simp; omega), Below.heap_alloc _ _ _ hb2]; exact HR.out
  have hg2 : Below w.heap.size w w2 := (hg.alloc hg.size _).trans (hB.mono (by simp; omega))
  have HI := Lib.hid hI; clear hI
  have HROW := Lib.hid hrow2; clear hrow2
  have HFULL := Lib.hid hfull2; clear hfull2
  have HSZ2 := Lib.hid hsz2; clear hsz2
  clear hB hbox0 HR hg
  go_wp2
  go_loopw [12, 13, 29] (fun _ _ i wr => ∃ k : Nat, k ≤ l ∧ i = .int .i64 k ∧ IsRd wr (w1.heap.size + 1 + 1) big s (offN (fullL wide zs l) k) 0 ∧ wr.heap[w1.heap.size]? = some (.cells (rowU64 (numsRow big (fullL wide zs l) s.data.toList l k)) 29 (0, 0)) ∧ wr.heap[b]? = some (.cells (rowI64 (fullL wide zs l)) 3 (0, 0)) ∧ w1.heap.size + 1 + 1 < wr.heap.size ∧ Below w.heap.size w wr) (fun _ _ i _ => l - (intOf i).toNat)
  case atStart => exact ⟨0, Nat.zero_le _, rfl, HI.out, HROW.out, HFULL.out, by rw [HSZ2.out]; omega, hg2⟩
  case round =>
    obtain ⟨k, hk, rfl, hI, hrow, hfull, hszr, hg⟩ := hrel
    clear hg2
    by_cases hlt : k < l
    · have hcf : wr.cell? ⟨b, k, none⟩ = some (.int .i64 (fullZ wide (zs.getD k 0))) := by
        rw [cell_of_rowI hfull k (by rw [fullL_length]; exact hlt)]
        have := fullL_getD wide zs l k hlt
        rw [List.getD_eq_getElem?_getD, List.getElem?_eq_getElem (by rw [fullL_length]; exact hlt)] at this
        rw [← this]; rfl
      obtain ⟨hz1, hz8⟩ := HZ.out k hlt
      have hoff : offN (fullL wide zs l) (k + 1) = offN (fullL wide zs l) k + (fullZ wide (zs.getD k 0)).toNat := by
        show offN (fullL wide zs l) k + ((fullL wide zs l).getD k 0).toNat = _
        rw [fullL_getD wide zs l k hlt]
      have hmono := offN_mono (fullL wide zs l) (k + 1) l (by omega)
      have hnum : numAt big (fullL wide zs l) s.data.toList k = Num.getN big ((s.data.toList.drop (offN (fullL wide zs l) k)).take (fullZ wide (zs.getD k 0)).toNat) := by
        unfold numAt; rw [fullL_getD wide zs l k hlt]
      generalize fullZ wide (zs.getD k 0) = f at *
      obtain ⟨m, rfl⟩ := Int.eq_ofNat_of_zero_le (show 0 ≤ f by omega)
      rw [Int.toNat_natCast] at hoff hnum
      have hfr := free_of_rowU hrow k
      have hcl := cell_of_rowU hrow k (by rw [numsRow_length _ _ _ _ _ hk]; exact hlt)
      generalize ((numsRow big (fullL wide zs l) s.data.toList l k)[k]'(by rw [numsRow_length _ _ _ _ _ hk]; exact hlt)) = y at hcl
      have hst := numsRow_step big (fullL wide zs l) s.data.toList l k hlt
      rw [hnum] at hst
      have HST := Lib.hid hst; clear hst hnum
      have HF := Lib.hid hfull; clear hfull
      have HR := Lib.hid hrow; clear hrow
      have HI' := Lib.hid hI; clear hI
      have o1 : offN (fullL wide zs l) k ≤ s.size := by omega
      have o2 : m ≤ s.size - offN (fullL wide zs l) k := by omega
      have HOFF := Lib.hid hoff; clear hoff hmono
      have hi0 : (0 : Int) ≤ (k : Int) := by omega
      have hi1 : (k : Int) < (l : Int) := by omega
      go_wp2_with fail
      refine (next_yes _ big s _ m _ HI'.out hs (by omega) (by omega) o1 o2).mono ?_
      rintro e w3 ⟨rfl, hI3, hO⟩
      have hbw3 := hO.size
      have hcl3 : w3.cell? ⟨w1.heap.size, k, none⟩ = some (.int .u64 (y : Nat)) := by rw [hO.cell (by show w1.heap.size < _; omega) (by show w1.heap.size ≠ _; omega)]; exact hcl
      have hrow3 : w3.heap[w1.heap.size]? = some (.cells (rowU64 (numsRow big (fullL wide zs l) s.data.toList l k)) 29 (0, 0)) := by rw [hO.block _ (by omega) (by omega)]; exact HR.out
      have hfull3 : w3.heap[b]? = some (.cells (rowI64 (fullL wide zs l)) 3 (0, 0)) := by rw [hO.block _ (by omega) (by omega)]; exact HF.out
      have hg3 : Below w.heap.size w w3 := hg.trans (hO.below hg.size (by omega))
      have hfr3 := free_of_rowU hrow3 k
      rw [← HOFF.out] at hI3
      generalize Num.getN big (List.take m (List.drop (offN (fullL wide zs l) k) s.data.toList)) = nn at *
      have R3 := rowU_set hrow3 k nn
      rw [HST.out] at R3
      have HR3 := Lib.hid R3; clear R3 hrow3
      have HF3 := Lib.hid hfull3; clear hfull3
      have HI3 := Lib.hid hI3; clear hI3
      clear hcl hfr hcf hO
      go_wp2
      go_roundw
      case rel => exact ⟨k + 1, by omega, by go_num, IsRd.other HI3.out (by omega), HR3.out, by rw [heap_setCell_other _ _ _ _ (by show b ≠ w1.heap.size; omega)]; exact HF3.out, by simp; omega, hg3.setCell (by show w.heap.size ≤ w1.heap.size; omega) _⟩
      case measure => simp [intOf]; omega
    · obtain rfl : k = l := by omega
      have e : numsRow big (fullL wide zs k) s.data.toList k k = numsTo big (fullL wide zs k) s.data.toList k := by simp [numsRow]
      rw [e] at hrow
      have HR := Lib.hid hrow; clear hrow e
      have HI' := Lib.hid hI; clear hI
      clear hfull
      go_wp2_with fail
      refine (err_any _ big s _ 0 _ HI'.out).mono ?_
      rintro e w3 ⟨rfl, rfl⟩
      go_wp2
      go_ret2
      exact ⟨w1.heap.size, by omega, by omega, rfl, HR.out, hg⟩
end Go.Proofs.Ytedocnidgiglaaa
namespace Go.Proofs.Ytedocnidgiglaaa
open Go.RowKit
set_option maxRecDepth 100000 in
set_option maxHeartbeats 1000000 in
theorem recRead_no (big wide : Bool) (a : Option Addr) (l c : Nat) (zs : List Int) (s : ByteArray) (w : World) (hl : l ≤ 20) (hs : s.size ≤ 1048576) (r : RowI w a l zs) (hz : sizesOk wide zs l)
    (hsz : s.size < offN (fullL wide zs l) l) :
    Calls Try.prog 125 #[.agg #[.bool big, .bool wide], .string s, .slice a l c] w fun e w' => e = .returned (.tuple #[.slice none 0 0, .bool false]) ∧ Below w.heap.size w w' := by
  have R := Lib.hid r; clear r
  have HZ := Lib.hid hz; clear hz
  go_enter Try.func125, Try.ntmps125
  go_wp2_with fail
  refine (sizes_any big wide a l c zs _ hl (R.out.kept ((Below.refl _ _).alloc (Nat.le_refl _) _) (Nat.le_refl _))).mono ?_
  rintro e w1 ⟨b, hb1, hb2, rfl, hrow, hg0⟩
  have hg : Below w.heap.size w w1 := ((Below.refl _ _).alloc (Nat.le_refl _) _).trans (hg0.mono (by simp))
  have hbox0 : w1.cell? ⟨w.heap.size, 0, none⟩ = some (.bool big) := by rw [hg0.cell (by simp)]; simp
  have hbw : w.heap.size < w1.heap.size := by have := hg0.size; simp at this; omega
  clear hg0
  simp only [World.size_alloc] at hb1
  have HR := Lib.hid hrow; clear hrow
  generalize sumZ wide zs l = S
  have hmk := make_u64 l (by omega)
  go_wp2_with fail
  refine (read_any big s 0 _).mono ?_
  rintro e w2 ⟨rfl, hI, hB, hsz2⟩
  clear hmk
  simp only [World.size_alloc] at hI hsz2 ⊢
  have hrow2 : w2.heap[w1.heap.size]? = some (.cells (rowU64 (List.replicate l 0)) 29 (0, 0)) := by
    rw [hB.block _ (by simp), heap_alloc_new]
  have hfull2 : w2.heap[b]? = some (.cells (rowI64 (fullL wide zs l)) 3 (0, 0)) := by
    rw [hB.block _ (by simp; omega), Below.heap_alloc _ _ _ hb2]; exact HR.out
  have hg2 : Below w.heap.size w w2 := (hg.alloc hg.size _).trans (hB.mono (by simp; omega))
  have HI := Lib.hid hI; clear hI
  have HROW := Lib.hid hrow2; clear hrow2
  have HFULL := Lib.hid hfull2; clear hfull2
  have HSZ2 := Lib.hid hsz2; clear hsz2
  clear hB hbox0 HR hg
  go_wp2
  go_loopw [12, 13, 29] (fun _ _ i wr => ∃ (k n : Nat) (err : Int) (L : List Nat), k ≤ l ∧ i = .int .i64 k ∧ IsRd wr (w1.heap.size + 1 + 1) big s n err ∧ ((err = 0 ∧ n = offN (fullL wide zs l) k ∧ n ≤ s.size) ∨ err = 3) ∧ L.length = l ∧ wr.heap[w1.heap.size]? = some (.cells (rowU64 L) 29 (0, 0)) ∧ wr.heap[b]? = some (.cells (rowI64 (fullL wide zs l)) 3 (0, 0)) ∧ w1.heap.size + 1 + 1 < wr.heap.size ∧ Below w.heap.size w wr) (fun _ _ i _ => l - (intOf i).toNat)
  case atStart => exact ⟨0, 0, 0, List.replicate l 0, Nat.zero_le _, rfl, HI.out, Or.inl ⟨rfl, rfl, Nat.zero_le _⟩, by simp, HROW.out, HFULL.out, by rw [HSZ2.out]; omega, hg2⟩
  case round =>
    obtain ⟨k, n, err, L, hk, rfl, hI, hst, hL, hrow, hfull, hszr, hg⟩ := hrel
    clear hg2
    by_cases hlt : k < l
    · have hcf : wr.cell? ⟨b, k, none⟩ = some (.int .i64 (fullZ wide (zs.getD k 0))) := by
        rw [cell_of_rowI hfull k (by rw [fullL_length]; exact hlt)]
        have := fullL_getD wide zs l k hlt
        rw [List.getD_eq_getElem?_getD, List.getElem?_eq_getElem (by rw [fullL_length]; exact hlt)] at this
        rw [← this]; rfl
      obtain ⟨hz1, hz8⟩ := HZ.out k hlt
      have hoff : offN (fullL wide zs l) (k + 1) = offN (fullL wide zs l) k + (fullZ wide (zs.getD k 0)).toNat := by
        show offN (fullL wide zs l) k + ((fullL wide zs l).getD k 0).toNat = _
        rw [fullL_getD wide zs l k hlt]
      generalize fullZ wide (zs.getD k 0) = f at *
      obtain ⟨m, rfl⟩ := Int.eq_ofNat_of_zero_le (show 0 ≤ f by omega)
      rw [Int.toNat_natCast] at hoff
      have HF := Lib.hid hfull; clear hfull
      have HR := Lib.hid hrow; clear hrow
      have HI' := Lib.hid hI; clear hI
      have HOFF := Lib.hid hoff; clear hoff
      have HLL := Lib.hid hL; clear hL
      have hi0 : (0 : Int) ≤ (k : Int) := by omega
      have hi1 : (k : Int) < (l : Int) := by omega
      have hcase : (may s n m err) ∨ ¬ may s n m err := Classical.em _
      have hnx : Calls Try.prog 143 #[.pointer (some ⟨w1.heap.size + 1 + 1, 0, none⟩), .int .i64 (m : Int)] wr fun e w' => ∃ (nn n' : Nat) (err' : Int), e = .returned (.int .u64 (nn : Int)) ∧ IsRd w' (w1.heap.size + 1 + 1) big s n' err' ∧ ((err' = 0 ∧ n' = offN (fullL wide zs l) (k + 1) ∧ n' ≤ s.size) ∨ err' = 3) ∧ OnlyAt (w1.heap.size + 1 + 1) wr w' := by
        rcases hcase with ⟨rfl, h1, h2⟩ | hno
        · rcases hst with ⟨_, rfl, _⟩ | h
          · exact (next_yes _ big s _ m _ HI'.out hs (by omega) (by omega) h1 h2).mono fun e w' ⟨he, hI, hO⟩ => ⟨_, _, _, he, hI, Or.inl ⟨rfl, HOFF.out.symm, by omega⟩, hO⟩
          · omega
        · exact (next_short _ big s n m err _ HI'.out (by omega) hs (by omega) (by omega) hno).mono fun e w' ⟨he, hI, hO⟩ => ⟨0, _, _, by rw [he]; rfl, hI, Or.inr rfl, hO⟩
      have HNX := Lib.hid hnx; clear hnx hcase hst
      go_wp2_with fail
      refine HNX.out.mono ?_
      rintro e w3 ⟨nn, n', err', rfl, hI3, hst3, hO⟩
      have hbw3 := hO.size
      have hrow3 : w3.heap[w1.heap.size]? = some (.cells (rowU64 L) 29 (0, 0)) := by rw [hO.block _ (by omega) (by omega)]; exact HR.out
      have hfull3 : w3.heap[b]? = some (.cells (rowI64 (fullL wide zs l)) 3 (0, 0)) := by rw [hO.block _ (by omega) (by omega)]; exact HF.out
      have hg3 : Below w.heap.size w w3 := hg.trans (hO.below hg.size (by omega))
      have hfr3 := free_of_rowU hrow3 k
      have hcl3 := cell_of_rowU hrow3 k (by rw [HLL.out]; exact hlt)
      generalize (L[k]'(by rw [HLL.out]; exact hlt)) = y at hcl3
      have R3 := rowU_set hrow3 k nn
      have HR3 := Lib.hid R3; clear R3 hrow3
      have HF3 := Lib.hid hfull3; clear hfull3
      have HI3 := Lib.hid hI3; clear hI3
      have HS3 := Lib.hid hst3; clear hst3
      clear hcf hO HNX
      go_wp2
      go_roundw
      case rel => exact ⟨k + 1, n', err', L.set k nn, by omega, by go_num, IsRd.other HI3.out (by omega), HS3.out, by rw [List.length_set]; exact HLL.out, HR3.out, by rw [heap_setCell_other _ _ _ _ (by show b ≠ w1.heap.size; omega)]; exact HF3.out, by simp; omega, hg3.setCell (by show w.heap.size ≤ w1.heap.size; omega) _⟩
      case measure => simp [intOf]; omega
    · obtain rfl : k = l := by omega
      have he3 : err = 3 := by rcases hst with ⟨_, rfl, h⟩ | h <;> omega
      subst he3
      have HI' := Lib.hid hI; clear hI
      clear hfull hrow hst hL
      go_wp2_with fail
      refine (err_any _ big s _ 3 _ HI'.out).mono ?_
      rintro e w3 ⟨rfl, rfl⟩
      go_wp2
      go_ret2
      exact ⟨rfl, hg⟩
end Go.Proofs.Ytedocnidgiglaaa
namespace Go.Proofs.Ytedocnidgiglaaa
open Go.RowKit
theorem RowI.of_rowT {w : World} {b : Nat} {L : List Int} {t : TypeId} (hb : b < w.heap.size) (h : w.heap[b]? = some (.cells (rowI64 L) t (0, 0))) : RowI w (some ⟨b, 0, none⟩) L.length L := fun k hk =>
  ⟨b, 0, rfl, hb, by rw [Nat.zero_add, List.getD_eq_getElem?_getD, List.getElem?_eq_getElem hk]; simp [World.cell?, h, rowI64, hk]⟩
theorem RowN.of_rowT {w : World} {b : Nat} {L : List Nat} {t : TypeId} (hb : b < w.heap.size) (h : w.heap[b]? = some (.cells (rowU64 L) t (0, 0))) (hn : ∀ n ∈ L, n < 2 ^ 64) : RowN w (some ⟨b, 0, none⟩) L.length L := fun k hk =>
  ⟨b, 0, rfl, hb, by rw [Nat.zero_add, List.getD_eq_getElem?_getD, List.getElem?_eq_getElem hk]; simp [World.cell?, h, rowU64, hk], by rw [List.getD_eq_getElem?_getD, List.getElem?_eq_getElem hk]; exact hn _ (List.getElem_mem hk)⟩
end Go.Proofs.Ytedocnidgiglaaa
namespace Go.Proofs.Ytedocnidgiglaaa
open Go.RowKit
namespace Num
theorem getN_lt (big : Bool) (t : List UInt8) (h8 : t.length ≤ 8) : getN big t < 256 ^ t.length := by
  unfold getN
  rw [if_pos h8]
  cases big
  · have := horner_lt t.reverse
    simpa using this
  · exact horner_lt t
theorem putL_getN (big : Bool) (t : List UInt8) (h1 : 1 ≤ t.length) (h8 : t.length ≤ 8) : putL big (getN big t) (t.length : Int) = t := by
  unfold putL getN
  rw [if_pos (by omega), if_pos h8, Int.toNat_natCast]
  cases big
  · have := leB_horner t.reverse
    rw [List.length_reverse, List.reverse_reverse] at this
    simpa using this
  · have := leB_horner t
    simp [this]
end Num
theorem offN_succ (F : List Int) (k : Nat) : offN F (k + 1) = offN F k + (F.getD k 0).toNat := rfl
theorem fieldsL_len (big : Bool) (F : List Int) (ns : List Nat) (l : Nat) (hF : ∀ k, k < l → 1 ≤ F.getD k 0 ∧ F.getD k 0 ≤ 8) (k : Nat) (hk : k ≤ l) : (fieldsL big F ns k).length = offN F k := by
  induction k with
  | zero => rfl
  | succ k ih =>
    obtain ⟨h1, h8⟩ := hF k (by omega)
    have := putL_len big (ns.getD k 0) _ h1 h8
    unfold fieldsL
    rw [List.length_append, ih (by omega), offN_succ]
    omega
theorem fieldsL_pre (big : Bool) (F : List Int) (ns : List Nat) (j l : Nat) (h : j ≤ l) : ∃ t, fieldsL big F ns l = fieldsL big F ns j ++ t := by
  induction l with
  | zero => obtain rfl : j = 0 := by omega
            exact ⟨[], by simp⟩
  | succ l ih =>
    by_cases he : j = l + 1
    · subst he; exact ⟨[], by simp⟩
    · obtain ⟨t, ht⟩ := ih (by omega)
      exact ⟨t ++ Num.putL big (ns.getD l 0) (F.getD l 0), by rw [fieldsL, ht, List.append_assoc]⟩
/-- The k-th number is read again. -/
theorem numAt_fields (big : Bool) (F : List Int) (ns : List Nat) (l : Nat) (hF : ∀ k, k < l → 1 ≤ F.getD k 0 ∧ F.getD k 0 ≤ 8) (r : List UInt8) (k : Nat) (hk : k < l) (hn : ns.getD k 0 < 256 ^ (F.getD k 0).toNat) :
    numAt big F (fieldsL big F ns l ++ r) k = ns.getD k 0 := by
  obtain ⟨t, ht⟩ := fieldsL_pre big F ns (k + 1) l hk
  obtain ⟨h1, h8⟩ := hF k hk
  have hlen := fieldsL_len big F ns l hF k (by omega)
  have hp := putL_len big (ns.getD k 0) _ h1 h8
  unfold numAt
  rw [ht, fieldsL, List.append_assoc, List.append_assoc, ← hlen, List.drop_left]
  obtain ⟨m, hm⟩ := Int.eq_ofNat_of_zero_le (show 0 ≤ F.getD k 0 by omega)
  rw [hm] at hp hn ⊢
  rw [Int.toNat_natCast] at hn ⊢
  have hp' : (Num.putL big (ns.getD k 0) (m : Int)).length = m := by omega
  rw [List.take_append_of_le_length (by omega), List.take_of_length_le (by omega), Num.getN_putL big _ m (by omega) (by omega), Nat.mod_eq_of_lt hn]
theorem numAt_lt (big : Bool) (F : List Int) (s : List UInt8) (k : Nat) (h8 : F.getD k 0 ≤ 8) : numAt big F s k < 256 ^ (F.getD k 0).toNat := by
  unfold numAt
  have hl : (List.take (F.getD k 0).toNat (List.drop (offN F k) s)).length ≤ (F.getD k 0).toNat := List.length_take_le _ _
  have h := Num.getN_lt big (List.take (F.getD k 0).toNat (List.drop (offN F k) s)) (by omega)
  exact Nat.lt_of_lt_of_le h (Nat.pow_le_pow_right (by decide) hl)
theorem numAt_64 (big : Bool) (F : List Int) (s : List UInt8) (k : Nat) (h8 : F.getD k 0 ≤ 8) : numAt big F s k < 2 ^ 64 := by
  have h := numAt_lt big F s k h8
  have : 256 ^ (F.getD k 0).toNat ≤ 256 ^ 8 := Nat.pow_le_pow_right (by decide) (by omega)
  have e : (256 : Nat) ^ 8 = 2 ^ 64 := by decide
  omega
/-- The numbers that are read are these bytes again. -/
theorem fields_numAt (big : Bool) (F : List Int) (s : List UInt8) (ns : List Nat) (l : Nat) (hF : ∀ k, k < l → 1 ≤ F.getD k 0 ∧ F.getD k 0 ≤ 8) (hs : offN F l ≤ s.length) (hns : ∀ k, k < l → ns.getD k 0 = numAt big F s k) (k : Nat) (hk : k ≤ l) :
    fieldsL big F ns k = s.take (offN F k) := by
  induction k with
  | zero => simp [fieldsL, offN]
  | succ k ih =>
    obtain ⟨h1, h8⟩ := hF k (by omega)
    have hm := offN_mono F (k + 1) l hk
    rw [offN_succ] at hm
    rw [fieldsL, ih (by omega), hns k (by omega), offN_succ]
    obtain ⟨m, hm'⟩ := Int.eq_ofNat_of_zero_le (show 0 ≤ F.getD k 0 by omega)
    unfold numAt
    rw [hm'] at h1 h8 hm ⊢
    rw [Int.toNat_natCast] at hm ⊢
    have hl : (List.take m (List.drop (offN F k) s)).length = m := by simp; omega
    have := Num.putL_getN big (List.take m (List.drop (offN F k) s)) (by omega) (by omega)
    rw [hl] at this
    rw [this, ← List.take_add]
theorem full_ok {wide : Bool} {zs : List Int} {l : Nat} (h : sizesOk wide zs l) : ∀ k, k < l → 1 ≤ (fullL wide zs l).getD k 0 ∧ (fullL wide zs l).getD k 0 ≤ 8 := fun k hk => by
  rw [fullL_getD wide zs l k hk]
  exact h k hk
/-- A record that may be, and bytes behind it: its length, and its numbers. -/
theorem recIs_read {big wide : Bool} {zs : List Int} {ns : List Nat} {l : Nat} {S : ByteArray} (h : RecIs big wide zs ns l l S true) (hz : sizesOk wide zs l) (M : ByteArray) :
    S.size = offN (fullL wide zs l) l ∧ ∀ k, k < l → numAt big (fullL wide zs l) (S ++ M).data.toList k = ns.getD k 0 := by
  rcases h with ⟨_, _, h⟩ | ⟨_, h, rfl, _⟩ | ⟨_, _, _, h⟩
  · cases h
  · constructor
    · rw [← fieldsL_len big (fullL wide zs l) ns l (full_ok hz) l (Nat.le_refl _)]
      simp [ByteArray.size]
    · intro k hk
      have e : (ByteArray.mk (fieldsL big (fullL wide zs l) ns l).toArray ++ M).data.toList = fieldsL big (fullL wide zs l) ns l ++ M.data.toList := by simp
      rw [e]
      refine numAt_fields big _ ns l (full_ok hz) _ k hk ?_
      rw [fullL_getD wide zs l k hk]
      exact (h k hk).2.2
  · cases h
theorem recIs_no {big wide : Bool} {zs : List Int} {ns : List Nat} {l : Nat} {S : ByteArray} (h : RecIs big wide zs ns l l S false) : S = ⟨#[]⟩ := by
  rcases h with ⟨_, h, _⟩ | ⟨_, _, _, h⟩ | ⟨_, _, h, _⟩
  · exact h
  · cases h
  · exact h
/-- The numbers that are read make a record that may be: the bytes that they were read from. -/
theorem recIs_back {big wide : Bool} {zs : List Int} {ns : List Nat} {l : Nat} (s : ByteArray) (hz : sizesOk wide zs l) (hs : offN (fullL wide zs l) l ≤ s.size) (hns : ∀ k, k < l → ns.getD k 0 = numAt big (fullL wide zs l) s.data.toList k) :
    RecIs big wide zs ns l l (s.extract 0 (offN (fullL wide zs l) l)) true := by
  have hF := full_ok hz
  right; left
  refine ⟨rfl, ?_, ?_, rfl⟩
  · intro k hk
    obtain ⟨h1, h8⟩ := hz k hk
    refine ⟨by omega, h8, ?_⟩
    rw [hns k hk, ← fullL_getD wide zs l k hk]
    exact numAt_lt big _ _ k (hF k hk).2
  · rw [fields_numAt big _ s.data.toList ns l hF (by simpa using hs) hns l (Nat.le_refl _)]
    apply ByteArray.ext
    apply Array.toList_inj.1
    simp
end Go.Proofs.Ytedocnidgiglaaa
