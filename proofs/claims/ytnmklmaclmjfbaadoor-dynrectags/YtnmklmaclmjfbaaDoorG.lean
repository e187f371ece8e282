/- Contracts of class's fits, Fits and Sizes. Conditions: those written in each theorem. -/
import Derived.Test.YtnmklmaclmjfbaaDoorOQ
namespace Go.Proofs.YtnmklmaclmjfbaaDoor
open Go.RowKit
theorem toList_data (s : ByteArray) : s.toList = s.data.toList := ByteArray.toList_eq s
theorem word_any (big wide : Bool) (w : World) :
    Calls Tryd.prog 24 #[.agg #[.bool big, .bool wide]] w fun e w' => e = .returned (.int .i64 (if wide then 8 else 4)) ∧ w' = w.alloc (.cells #[.bool big, .bool wide] 27) := by
  cases wide
  all_goals
    go_enter Tryd.func24, Tryd.ntmps24
    go_wp2
    go_ret
    exact ⟨rfl, rfl⟩
theorem fits_num (n m : Nat) : ((n : Int) / 2 ^ (8 * m) == 0) = decide (n < 256 ^ m) := by
  have hp : 2 ^ (8 * m) = 256 ^ m := by rw [Nat.pow_mul]
  have e2 : ((2 : Int) ^ (8 * m)) = ((256 ^ m : Nat) : Int) := by rw [← hp]; simp
  rw [e2, ← Int.natCast_ediv]
  have h0 : 0 < 256 ^ m := Nat.pow_pos (by decide)
  rw [Bool.eq_iff_iff, beq_iff_eq, decide_eq_true_iff]
  have h2 : n / 256 ^ m = 0 ↔ n < 256 ^ m := by rw [Nat.div_eq_zero_iff]; omega
  rw [← h2]
  generalize n / 256 ^ m = q at *
  omega
theorem ret_bool {a b : Bool} (h : a = b) : Ending.returned (.bool a) = .returned (.bool b) := by rw [h]
theorem fits_any (n m : Nat) (w : World) (hm : m ≤ 8) :
    Calls Tryd.prog 41 #[.int .u64 n, .int .i64 m] w fun e w' => e = .returned (.bool (decide (n < 256 ^ m))) ∧ w = w' := by
  have hmi : (m : Int) ≤ 8 := by omega
  go_enter Tryd.func41, Tryd.ntmps41
  go_wp2
  go_ret
  exact ⟨ret_bool (fits_num n m), rfl⟩
theorem fits_is (b : Bool) (n : Nat) (m : Int) (w : World) (h0 : 0 ≤ m) (hm : m ≤ 8) (hb : decide (n < 256 ^ m.toNat) = b) :
    Calls Tryd.prog 41 #[.int .u64 n, .int .i64 m] w fun e w' => e = .returned (.bool b) ∧ w = w' := by
  obtain ⟨k, rfl⟩ := Int.eq_ofNat_of_zero_le h0
  rw [Int.toNat_natCast] at hb
  have := fits_any n k w (by omega)
  rwa [hb] at this
def wordN (wide : Bool) : Nat := if wide then 8 else 4
theorem word_int (wide : Bool) : (if wide then (8 : Int) else 4) = (wordN wide : Int) := by cases wide <;> rfl
theorem word_is (big wide : Bool) (w : World) :
    Calls Tryd.prog 24 #[.agg #[.bool big, .bool wide]] w fun e w' => e = .returned (.int .i64 (wordN wide : Int)) ∧ w' = w.alloc (.cells #[.bool big, .bool wide] 27) := by
  have := word_any big wide w
  rwa [word_int] at this
/-- Whether a word can hold the k-th number. -/
def fitAt (wide : Bool) (ns : List Nat) (k : Nat) : Bool := decide (ns.getD k 0 < 256 ^ wordN wide)
/-- The size of a field: a word's for 0. -/
def fullZ (wide : Bool) (z : Int) : Int := if z = 0 then (wordN wide : Int) else z
def fullL (wide : Bool) (zs : List Int) (l : Nat) : List Int := (List.range l).map fun k => fullZ wide (zs.getD k 0)
/-- The sum of the first sizes, as an int. -/
def sumZ (wide : Bool) (zs : List Int) : Nat → Int
  | 0 => 0
  | k + 1 => wrap64 (sumZ wide zs k + fullZ wide (zs.getD k 0))
theorem fullL_getD (wide : Bool) (zs : List Int) (l k : Nat) (h : k < l) : (fullL wide zs l).getD k 0 = fullZ wide (zs.getD k 0) := by
  unfold fullL
  rw [List.getD_eq_getElem?_getD, List.getElem?_map, List.getElem?_range h]
  rfl
def rowI64 (l : List Int) : Array Value := (l.map fun z => Value.int .i64 z).toArray
theorem info3 : (Tryd.prog.info? 3).map (fun i => (i.zero, i.size, i.bytes)) = some (some (.int .i64 0), 1, 8) := by kernel_rfl
theorem madeCells_zeroI (n : Nat) : madeCells (Value.int .i64 0).cells n = rowI64 (List.replicate n 0) := by
  apply Array.ext
  · simp [madeCells, rowI64]
  · intro i h1 h2
    simp [madeCells, rowI64, Value.cells, Nat.mod_one]
theorem make_i64 (n : Nat) (h : n ≤ 100) (w : World) : (Instr.makeSlice 74 (.int .i64 (n : Int)) (.int .i64 (n : Int))).run Tryd.prog w = .ok (.slice (some ⟨w.heap.size, 0, none⟩) n n) (w.alloc (.cells (rowI64 (List.replicate n 0)) 3)) := by
  obtain ⟨i0, hi, hz0, hz1, hz2⟩ := info_parts info3
  have := run_make w 74 3 i0 (.int .i64 0) Tryd.underlying74 hi hz0 .i64 .i64 n n (by omega) (by omega) (by rw [hz2]; omega) (by omega)
  rw [this, hz1]
  simp [madeCells_zeroI]
theorem cell_of_rowI {w : World} {b : Nat} {l : List Int} (h : w.heap[b]? = some (.cells (rowI64 l) 3 (0, 0))) (j : Nat) (hj : j < l.length) : w.cell? ⟨b, j, none⟩ = some (.int .i64 l[j]) := by
  simp [World.cell?, h, rowI64, hj]
theorem free_of_rowI {w : World} {b : Nat} {l : List Int} (h : w.heap[b]? = some (.cells (rowI64 l) 3 (0, 0))) (j : Nat) : w.frozen? ⟨b, j, none⟩ = false := by
  simp [World.frozen?, h]
theorem rowI_set {wr : World} {b : Nat} {l : List Int} (h : wr.heap[b]? = some (.cells (rowI64 l) 3 (0, 0))) (j : Nat) (z : Int) :
    (wr.setCell ⟨b, j, none⟩ (.int .i64 z)).heap[b]? = some (.cells (rowI64 (l.set j z)) 3 (0, 0)) := by
  rw [heap_setCell_same wr b j _ 3 _ h]
  congr 2
  simp [rowI64, List.map_set]
/-- The sizes' row after k rounds. -/
def fullTo (wide : Bool) (zs : List Int) (l k : Nat) : List Int := fullL wide zs k ++ List.replicate (l - k) 0
theorem fullTo_length (wide : Bool) (zs : List Int) (l k : Nat) (h : k ≤ l) : (fullTo wide zs l k).length = l := by simp [fullTo, fullL]; omega
theorem fullTo_step (wide : Bool) (zs : List Int) (l k : Nat) (h : k < l) : (fullTo wide zs l k).set k (fullZ wide (zs.getD k 0)) = fullTo wide zs l (k + 1) := by
  unfold fullTo fullL
  rw [List.set_append_right _ _ (by simp), show l - k = (l - (k + 1)) + 1 by omega, List.replicate_succ]
  simp [List.range_succ]
end Go.Proofs.YtnmklmaclmjfbaaDoor
