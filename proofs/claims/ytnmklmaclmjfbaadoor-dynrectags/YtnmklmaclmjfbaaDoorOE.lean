/- Contracts of order's Put, at every number and size. Conditions: those written in each theorem. -/
import Derived.Test.YtnmklmaclmjfbaaDoorOC
import Derived.Laws.MakeOwn
import Derived.Laws.Rows
namespace Go.Proofs.YtnmklmaclmjfbaaDoor
open Go.RowKit
def rowU8 (l : List UInt8) : Array Value := (l.map fun b => Value.int .u8 b.toNat).toArray
theorem info5 : (Tryd.prog.info? 5).map (fun i => (i.zero, i.size, i.bytes)) = some (some (.int .u8 0), 1, 1) := by kernel_rfl
theorem madeCells_zero (n : Nat) : madeCells (Value.int .u8 0).cells n = rowU8 (List.replicate n 0) := by
  apply Array.ext
  · simp [madeCells, rowU8]
  · intro i h1 h2
    simp [madeCells, rowU8, Value.cells, Nat.mod_one]
theorem make_u8 (n : Nat) (h : n ≤ 8) (w : World) : (Instr.makeSlice 56 (.int .i64 (n : Int)) (.int .i64 (n : Int))).run Tryd.prog w = .ok (.slice (some ⟨w.heap.size, 0, none⟩) n n) (w.alloc (.cells (rowU8 (List.replicate n 0)) 5)) := by
  obtain ⟨i0, hi, hz0, hz1, hz2⟩ := info_parts info5
  have := run_make w 56 5 i0 (.int .u8 0) Tryd.underlying56 hi hz0 .i64 .i64 n n (by omega) (by omega) (by rw [hz2]; omega) (by omega)
  rw [this, hz1]
  simp [madeCells_zero]
theorem cell_of_row {w : World} {b : Nat} {l : List UInt8} (h : w.heap[b]? = some (.cells (rowU8 l) 5 (0, 0))) (j : Nat) (hj : j < l.length) : w.cell? ⟨b, j, none⟩ = some (.int .u8 (l[j].toNat : Int)) := by
  simp [World.cell?, h, rowU8, hj]
theorem free_of_row {w : World} {b : Nat} {l : List UInt8} (h : w.heap[b]? = some (.cells (rowU8 l) 5 (0, 0))) (j : Nat) : w.frozen? ⟨b, j, none⟩ = false := by
  simp [World.frozen?, h]
theorem byte_at (n k : Nat) : IntKind.u8.wrap ((n : Int) / 2 ^ (8 * k)) = ((UInt8.ofNat (n / 256 ^ k)).toNat : Int) := by
  have hp : 2 ^ (8 * k) = 256 ^ k := by rw [Nat.pow_mul]
  have e2 : ((2 : Int) ^ (8 * k)) = ((256 ^ k : Nat) : Int) := by rw [← hp]; simp
  rw [e2, ← Int.natCast_ediv, IntKind.wrap_u8', UInt8.toNat_ofNat']
  simp
theorem row_set {wr : World} {b : Nat} {l : List UInt8} (h : wr.heap[b]? = some (.cells (rowU8 l) 5 (0, 0))) (hb : b < wr.heap.size) (n k j : Nat) (o : Obj) :
    ((wr.setCell ⟨b, j, none⟩ (.int .u8 (IntKind.u8.wrap ((n : Int) / 2 ^ (8 * k))))).alloc o).drew.heap[b]? = some (.cells (rowU8 (l.set j (UInt8.ofNat (n / 256 ^ k)))) 5 (0, 0)) := by
  show ((wr.setCell ⟨b, j, none⟩ (.int .u8 (IntKind.u8.wrap ((n : Int) / 2 ^ (8 * k))))).alloc o).heap[b]? = _
  rw [Below.heap_alloc _ _ _ (by simpa using hb), heap_setCell_same wr b j _ 5 _ h, byte_at]
  congr 2
  simp [rowU8, List.map_set]
def putS (n size k : Nat) : List UInt8 := Num.leB n k ++ List.replicate (size - k) 0
def putB (n size k : Nat) : List UInt8 := List.replicate (size - k) 0 ++ (Num.leB n k).reverse
theorem putS_length (n size k : Nat) (h : k ≤ size) : (putS n size k).length = size := by simp [putS, Num.leB_length]; omega
theorem putB_length (n size k : Nat) (h : k ≤ size) : (putB n size k).length = size := by simp [putB, Num.leB_length]; omega
theorem putS_step (n size k : Nat) (h : k < size) : (putS n size k).set k (UInt8.ofNat (n / 256 ^ k)) = putS n size (k + 1) := by
  unfold putS
  rw [List.set_append_right _ _ (by rw [Num.leB_length]; omega), Num.leB_length, Nat.sub_self, show size - k = (size - (k + 1)) + 1 by omega, List.replicate_succ, List.set_cons_zero, Num.leB]
  simp
theorem putB_step (n size k j : Nat) (h : j + 1 + k = size) : (putB n size k).set j (UInt8.ofNat (n / 256 ^ k)) = putB n size (k + 1) := by
  unfold putB
  subst h
  rw [show j + 1 + k - k = j + 1 by omega, show j + 1 + k - (k + 1) = j by omega, List.replicate_succ', List.append_assoc, List.set_append_right _ _ (by simp), List.length_replicate, Nat.sub_self]
  simp [Num.leB]
theorem index_bigN (k size j : Nat) (w : World) (h : j + 1 + k = size) (h8 : size ≤ 8) :
    Calls Tryd.prog 52 #[.agg #[.bool true], .int .i64 k, .int .i64 size] w fun e w' => e = .returned (.int .i64 j) ∧ w' = w.alloc (.cells #[.bool true] 25) := by
  refine (index_big k size w (by omega) (by omega) (by omega)).mono fun e w' ⟨he, hw⟩ => ⟨?_, hw⟩
  rw [he]
  exact ret_int (by omega)
theorem two_new (w : World) (a b : Obj) : ((w.alloc a).alloc b).heap[w.heap.size + 1]? = some b := by
  have h := heap_alloc_new (w.alloc a) b
  have e : (w.alloc a).heap.size = w.heap.size + 1 := by simp
  rw [e] at h
  exact h
theorem conv_row (w : World) (b n : Nat) (l : List UInt8) (hl : l.length = n) (h : w.heap[b]? = some (.cells (rowU8 l) 5 (0, 0))) :
    (convert 56 9 (.slice (some ⟨b, 0, none⟩) n n)).run Tryd.prog w = .ok (.string ⟨l.toArray⟩) w := by
  subst hl
  exact run_convert_bytes_back w 56 9 5 ⟨b, 0, none⟩ _ l Tryd.underlying56 Tryd.underlying5 Tryd.underlying9 (fun j hj => by
    have hc := cell_of_row h j hj
    by_cases h0 : j = 0
    · subst h0; simpa [Addr.add] using hc
    · simpa [Addr.add, h0] using hc)
set_option maxRecDepth 100000 in
set_option maxHeartbeats 400000 in
theorem put_little (n size : Nat) (w : World) (hn : n < 2 ^ 64) (h1 : 1 ≤ size) (h8 : size ≤ 8) :
    Calls Tryd.prog 53 #[.agg #[.bool false], .int .u64 n, .int .i64 size] w fun e w' => e = .returned (.string ⟨(Num.leB n size).toArray⟩) ∧ Below w.heap.size w w' := by
  have HN := Lib.hid hn; clear hn
  have hi1 : (1 : Int) ≤ (size : Int) := by omega
  have hi8 : (size : Int) ≤ 8 := by omega
  have hmk := make_u8 size h8
  go_enter Tryd.func53, Tryd.ntmps53
  go_wp2_with (go_at_call 38; refine (isSize_yes _ _ (by omega) (by omega)).mono ?_; rintro e w' ⟨rfl, rfl⟩)
  clear hmk
  go_loopw [8, 15] (fun _ i wr => ∃ k : Nat, k ≤ size ∧ i = .int .i64 k ∧ wr.cell? ⟨w.heap.size, 0, none⟩ = some (.bool false) ∧ w.heap.size + 1 < wr.heap.size ∧ wr.heap[w.heap.size + 1]? = some (.cells (rowU8 (putS n size k)) 5 (0, 0)) ∧ Below w.heap.size w wr) (fun _ i _ => size - (intOf i).toNat)
  case atStart =>
    refine ⟨0, Nat.zero_le _, rfl, by simp, by simp, ?_, ((Below.refl _ _).alloc (Nat.le_refl _) _).alloc (by simp) _⟩
    simpa [putS, Num.leB] using two_new w (.cells #[.bool false] 25) (.cells (rowU8 (List.replicate size 0)) 5)
  case round =>
    obtain ⟨k, hk, rfl, hcell, hsz, hrow, hg⟩ := hrel
    by_cases hlt : k < size
    · have hfr := free_of_row hrow k
      have hcl := cell_of_row hrow k (by rw [putS_length _ _ _ hk]; exact hlt)
      generalize ((putS n size k)[k]'(by rw [putS_length _ _ _ hk]; exact hlt)).toNat = y at hcl
      have HR := Lib.hid hrow; clear hrow
      go_wp2
      have hw8 : IntKind.i64.wrap (8 * (k : Int)) = 8 * (k : Int) := IntWalk.i64_in _ (by omega)
      have hk0 : (0 : Int) ≤ 8 * (k : Int) := by omega
      have hk64 : 8 * (k : Int) ≤ 64 := by omega
      have hkk : (0 : Int) ≤ (k : Int) := by omega
      have hks : (k : Int) < (size : Int) := by omega
      have htn : (8 * (k : Int)).toNat = 8 * k := by omega
      go_region_held3 (fun w' => w'.cell? ⟨w.heap.size, 0, none⟩ = some (.bool false)) (go_keep) (first | (go_at_call 52; refine (index_little _ _ _).mono ?_; rintro e w' ⟨rfl, rfl⟩))
      rename_i hheld
      clear hw8 hk0 hk64 hkk hks htn
      have R1 := row_set HR.out (by omega) n k k (.cells #[.bool false] 25)
      rw [putS_step n size k hlt] at R1
      have HR1 := Lib.hid R1; clear R1
      have HH := Lib.hid hheld; clear hheld
      clear hcl hfr hcell
      go_wp2
      go_roundw
      case rel => exact ⟨k + 1, by omega, by go_num, HH.out, by simp; omega, HR1.out, ((hg.setCell (by simp) _).alloc (by simpa using hg.size) _).drew⟩
      case measure => simp [intOf]; omega
    · obtain rfl : k = size := by omega
      have hcv := conv_row wr (w.heap.size + 1) k _ (putS_length n k k hk) hrow
      have e : putS n k k = Num.leB n k := by simp [putS]
      rw [e] at hcv
      clear hrow e
      go_wp2
      go_ret
      exact ⟨rfl, hg⟩
set_option maxRecDepth 100000 in
set_option maxHeartbeats 400000 in
theorem put_big (n size : Nat) (w : World) (hn : n < 2 ^ 64) (h1 : 1 ≤ size) (h8 : size ≤ 8) :
    Calls Tryd.prog 53 #[.agg #[.bool true], .int .u64 n, .int .i64 size] w fun e w' => e = .returned (.string ⟨(Num.leB n size).reverse.toArray⟩) ∧ Below w.heap.size w w' := by
  have HN := Lib.hid hn; clear hn
  have hi1 : (1 : Int) ≤ (size : Int) := by omega
  have hi8 : (size : Int) ≤ 8 := by omega
  have hmk := make_u8 size h8
  go_enter Tryd.func53, Tryd.ntmps53
  go_wp2_with (go_at_call 38; refine (isSize_yes _ _ (by omega) (by omega)).mono ?_; rintro e w' ⟨rfl, rfl⟩)
  clear hmk
  go_loopw [8, 15] (fun _ i wr => ∃ k : Nat, k ≤ size ∧ i = .int .i64 k ∧ wr.cell? ⟨w.heap.size, 0, none⟩ = some (.bool true) ∧ w.heap.size + 1 < wr.heap.size ∧ wr.heap[w.heap.size + 1]? = some (.cells (rowU8 (putB n size k)) 5 (0, 0)) ∧ Below w.heap.size w wr) (fun _ i _ => size - (intOf i).toNat)
  case atStart =>
    refine ⟨0, Nat.zero_le _, rfl, by simp, by simp, ?_, ((Below.refl _ _).alloc (Nat.le_refl _) _).alloc (by simp) _⟩
    simpa [putB, Num.leB] using two_new w (.cells #[.bool true] 25) (.cells (rowU8 (List.replicate size 0)) 5)
  case round =>
    obtain ⟨k, hk, rfl, hcell, hsz, hrow, hg⟩ := hrel
    by_cases hlt : k < size
    · obtain ⟨j, hj⟩ : ∃ j, j + 1 + k = size := ⟨size - 1 - k, by omega⟩
      have hjs : j < size := by omega
      have hfr := free_of_row hrow j
      have hcl := cell_of_row hrow j (by rw [putB_length _ _ _ hk]; exact hjs)
      generalize ((putB n size k)[j]'(by rw [putB_length _ _ _ hk]; exact hjs)).toNat = y at hcl
      have HR := Lib.hid hrow; clear hrow
      have HJ := Lib.hid hj; clear hj
      go_wp2
      have hw8 : IntKind.i64.wrap (8 * (k : Int)) = 8 * (k : Int) := IntWalk.i64_in _ (by omega)
      have hk0 : (0 : Int) ≤ 8 * (k : Int) := by omega
      have hk64 : 8 * (k : Int) ≤ 64 := by omega
      have hkk : (0 : Int) ≤ (j : Int) := by omega
      have hks : (j : Int) < (size : Int) := by omega
      have htn : (8 * (k : Int)).toNat = 8 * k := by omega
      go_region_held3 (fun w' => w'.cell? ⟨w.heap.size, 0, none⟩ = some (.bool true)) (go_keep) (first | (go_at_call 52; refine (index_bigN k size j _ HJ.out h8).mono ?_; rintro e w' ⟨rfl, rfl⟩))
      rename_i hheld
      clear hw8 hk0 hk64 hkk hks htn
      have R1 := row_set HR.out (by omega) n k j (.cells #[.bool true] 25)
      rw [putB_step n size k j HJ.out] at R1
      have HR1 := Lib.hid R1; clear R1
      have HH := Lib.hid hheld; clear hheld
      clear hcl hfr hcell
      go_wp2
      go_roundw
      case rel => exact ⟨k + 1, by omega, by go_num, HH.out, by simp; omega, HR1.out, ((hg.setCell (by simp) _).alloc (by simpa using hg.size) _).drew⟩
      case measure => simp [intOf]; omega
    · obtain rfl : k = size := by omega
      have hcv := conv_row wr (w.heap.size + 1) k _ (putB_length n k k hk) hrow
      have e : putB n k k = (Num.leB n k).reverse := by simp [putB]
      rw [e] at hcv
      clear hrow e
      go_wp2
      go_ret
      exact ⟨rfl, hg⟩
theorem put_none (big : Bool) (n size : Int) (w : World) (h : size < 1 ∨ 8 < size) :
    Calls Tryd.prog 53 #[.agg #[.bool big], .int .u64 n, .int .i64 size] w fun e w' => e = .returned (.string ⟨#[]⟩) ∧ Below w.heap.size w w' := by
  go_enter Tryd.func53, Tryd.ntmps53
  go_wp2_with (go_at_call 38; refine (isSize_no _ _ h).mono ?_; rintro e w' ⟨rfl, rfl⟩)
  go_ret
  exact ⟨rfl, (Below.refl _ _).alloc (Nat.le_refl _) _⟩
/-- Put, at every argument. -/
theorem put_any (big : Bool) (n : Nat) (size : Int) (w : World) (hn : n < 2 ^ 64) :
    Calls Tryd.prog 53 #[.agg #[.bool big], .int .u64 n, .int .i64 size] w fun e w' => e = .returned (.string ⟨(Num.putL big n size).toArray⟩) ∧ Below w.heap.size w w' := by
  by_cases h : 1 ≤ size ∧ size ≤ 8
  · obtain ⟨k, rfl⟩ := Int.eq_ofNat_of_zero_le (show 0 ≤ size by omega)
    simp only [Num.putL, if_pos h, Int.toNat_natCast]
    cases big
    · exact put_little n k w hn (by omega) (by omega)
    · exact put_big n k w hn (by omega) (by omega)
  · simp only [Num.putL, if_neg h]
    exact put_none big n size w (by omega)
end Go.Proofs.YtnmklmaclmjfbaaDoor
