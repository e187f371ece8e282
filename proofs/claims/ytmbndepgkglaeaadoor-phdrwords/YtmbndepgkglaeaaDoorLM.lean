/- Contracts of a header's package, by gen_hdr.py. Conditions: those written in each theorem. -/
import Derived.Laws.CopyOwn
import Derived.Laws.Tables
import Derived.Lib.SlBytesConst
import Derived.Lib.BufferMore
import Derived.Test.YtmbndepgkglaeaaDoorLT
import Derived.Test.YtmbndepgkglaeaaDoorLF
namespace Go.Proofs.YtmbndepgkglaeaaDoor
open Go.RowKit
theorem toList_mkS (l : List UInt8) : (ByteArray.mk l.toArray).toList = l := by rw [toList_data]
theorem and_zeroP (r k : Nat) (h : r.testBit k = false) : r &&& 2 ^ k = 0 := by
  apply Nat.eq_of_testBit_eq
  intro i
  rw [Nat.testBit_and, Nat.testBit_two_pow, Nat.zero_testBit]
  by_cases he : k = i
  · subst he; simp [h]
  · simp [he]
theorem and_posP (r k : Nat) (h : r.testBit k = true) : r &&& 2 ^ k ≠ 0 := fun h0 => by
  have := congrArg (fun x => Nat.testBit x k) h0
  simp [Nat.testBit_and, h] at this
theorem and_bitP (r k : Nat) (hr : r < 2 ^ 64) (hk : k < 3) (c : Bool) (hc : r.testBit k = c) : (bits BinOp.and IntKind.u64 (r : Int) ((2 ^ k : Nat) : Int) == 0) = !c := by
  have hp : 2 ^ k ≤ 4 := by have : 2 ^ k ≤ 2 ^ 2 := Nat.pow_le_pow_right (by decide) (by omega)
                            simpa using this
  rw [u64_and_nat r (2 ^ k) (by omega) (by omega)]
  cases c
  · rw [and_zeroP r k hc]; rfl
  · have := and_posP r k hc
    simp; omega
theorem andNotP (r k : Nat) (hr : r < 2 ^ 64) (hk : k < 3) : bits BinOp.andNot IntKind.u64 (r : Int) ((2 ^ k : Nat) : Int) = ((r &&& (2 ^ 64 - (2 ^ k + 1)) : Nat) : Int) := by
  have hp : 2 ^ k ≤ 4 := by have : 2 ^ k ≤ 2 ^ 2 := Nat.pow_le_pow_right (by decide) (by omega)
                            simpa using this
  rw [u64_andNot_nat r (2 ^ k) (by omega) (by omega)]
  congr 2
  omega
def rowP (n k : Nat) : List UInt8 := [Let.cell n k 0, Let.cell n k 1, Let.cell n k 2]
theorem rowP_no (n k : Nat) (hk : k < 3) (h : n.testBit (2 - k) = false) : (rowP n k).set k 45 = rowP n (k + 1) := by
  match k, hk with
  | 0, _ => first | (simp at h; simp [rowP, Let.cell, h]) | simp [rowP, Let.cell, h]
  | 1, _ => first | (simp at h; simp [rowP, Let.cell, h]) | simp [rowP, Let.cell, h]
  | 2, _ => first | (simp at h; simp [rowP, Let.cell, h]) | simp [rowP, Let.cell, h]
theorem rowP_yes (n k : Nat) (hk : k < 3) (h : n.testBit (2 - k) = true) : rowP n k = rowP n (k + 1) := by
  match k, hk with
  | 0, _ => first | (simp at h; simp [rowP, Let.cell, h]) | simp [rowP, Let.cell, h]
  | 1, _ => first | (simp at h; simp [rowP, Let.cell, h]) | simp [rowP, Let.cell, h]
  | 2, _ => first | (simp at h; simp [rowP, Let.cell, h]) | simp [rowP, Let.cell, h]
def cellL (n i j : Nat) : UInt8 := if decide (2 - j < i) && n.testBit (2 - j) then Let.ch j else 45
def rowL (n i : Nat) : List UInt8 := [cellL n i 0, cellL n i 1, cellL n i 2]
theorem rowL_no (n k : Nat) (hk : k < 3) (h : n.testBit k = false) : rowL n k = rowL n (k + 1) := by
  match k, hk with
  | 0, _ => first | (simp at h; simp [rowL, cellL, h]) | simp [rowL, cellL, h]
  | 1, _ => first | (simp at h; simp [rowL, cellL, h]) | simp [rowL, cellL, h]
  | 2, _ => first | (simp at h; simp [rowL, cellL, h]) | simp [rowL, cellL, h]
theorem rowL_yes (n k : Nat) (hk : k < 3) (h : n.testBit k = true) : (rowL n k).set (2 - k) (Let.ch (2 - k)) = rowL n (k + 1) := by
  match k, hk with
  | 0, _ => first | (simp at h; simp [rowL, cellL, h]) | simp [rowL, cellL, h]
  | 1, _ => first | (simp at h; simp [rowL, cellL, h]) | simp [rowL, cellL, h]
  | 2, _ => first | (simp at h; simp [rowL, cellL, h]) | simp [rowL, cellL, h]
theorem rowL_end (n : Nat) : rowL n 3 = rowP n 3 := by
  unfold rowL rowP cellL Let.cell
  cases n.testBit 0 <;> cases n.testBit 1 <;> cases n.testBit 2 <;> rfl
theorem cellM {w : World} {b : Nat} {l : List UInt8} {t : TypeId} (h : w.heap[b]? = some (.cells (rowU8 l) t (3, 4))) (j : Nat) (hj : j < l.length) : w.cell? ⟨b, j, none⟩ = some (.int .u8 (l[j].toNat : Int)) := by
  simp [World.cell?, h, rowU8, hj]
theorem freeM {w : World} {b : Nat} {l : List UInt8} {t : TypeId} (h : w.heap[b]? = some (.cells (rowU8 l) t (3, 4))) (j : Nat) (hj : j < 3) : w.frozen? ⟨b, j, none⟩ = false := by
  simp [World.frozen?, h]; omega
theorem setM {wr : World} {b : Nat} {l : List UInt8} {t : TypeId} (h : wr.heap[b]? = some (.cells (rowU8 l) t (3, 4))) (j : Nat) (c : UInt8) :
    (wr.setCell ⟨b, j, none⟩ (.int .u8 (c.toNat : Int))).heap[b]? = some (.cells (rowU8 (l.set j c)) t (3, 4)) := by
  rw [Go.Lib.heap_setCell_same h]
  congr 2
  simp [rowU8, List.map_set]
theorem convP (w : World) (b : Nat) (l : List UInt8) (t : TypeId) (cap : Nat) (hl : l.length = 3) (h : w.heap[b]? = some (.cells (rowU8 l) t (3, 4))) :
    (convert 26 9 (.slice (some ⟨b, 0, none⟩) 3 cap)).run Tryd.prog w = .ok (.string ⟨l.toArray⟩) w := by
  have hd : 3 = l.length := hl.symm
  rw [hd]
  exact run_convert_bytes_back w 26 9 5 ⟨b, 0, none⟩ _ l Tryd.underlying26 Tryd.underlying5 Tryd.underlying9 (fun i hi => by
    have hc := cellM h i hi
    by_cases h0 : i = 0
    · subst h0; simpa [Addr.add] using hc
    · simpa [Addr.add, h0] using hc)
theorem rowKeptP {w w' : World} {b : Nat} {x : Obj} (h : w.heap[b]? = some x) (hb : Below w.heap.size w w') : w'.heap[b]? = some x := by
  have hlt : b < w.heap.size := (Array.getElem?_eq_some_iff.1 h).1
  rw [hb.block b hlt]; exact h
theorem shr_bitP (a k : Nat) (ha : a < 2 ^ 64) : (bits BinOp.and IntKind.u64 ((a : Int) / 2 ^ k) 1 == 1) = a.testBit k := by
  have e : ((a : Int) / 2 ^ k) = ((a / 2 ^ k : Nat) : Int) := by simp
  have hl : a / 2 ^ k < 2 ^ 64 := Nat.lt_of_le_of_lt (Nat.div_le_self _ _) ha
  rw [e, show (1 : Int) = ((1 : Nat) : Int) from rfl, u64_and_nat _ 1 (by omega) (by decide), Nat.and_one_is_mod, Nat.testBit_eq_decide_div_mod_eq, Bool.eq_iff_iff]
  simp
  omega
theorem wordsP_cell (a : Nat) (h : a < 8) (w : World) : (w.alloc (.cells #[.string ⟨#[78, 85, 76, 76]⟩, .string ⟨#[76, 79, 65, 68]⟩, .string ⟨#[68, 89, 78, 65, 77, 73, 67]⟩, .string ⟨#[73, 78, 84, 69, 82, 80]⟩, .string ⟨#[78, 79, 84, 69]⟩, .string ⟨#[83, 72, 76, 73, 66]⟩, .string ⟨#[80, 72, 68, 82]⟩, .string ⟨#[84, 76, 83]⟩] 9)).cell? ⟨w.heap.size, a, none⟩ = some (.string ⟨(Hex.look segTab a).toArray⟩) := by
  match a, h with
  | 0, _ => simp; rfl
  | 1, _ => simp; rfl
  | 2, _ => simp; rfl
  | 3, _ => simp; rfl
  | 4, _ => simp; rfl
  | 5, _ => simp; rfl
  | 6, _ => simp; rfl
  | 7, _ => simp; rfl
  | n + 8, h => omega
end Go.Proofs.YtmbndepgkglaeaaDoor
