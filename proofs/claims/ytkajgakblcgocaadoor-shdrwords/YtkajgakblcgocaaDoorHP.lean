/- Contracts of a header's package, by gen_hdr.py. Conditions: those written in each theorem. -/
import Derived.Laws.CopyOwn
import Derived.Laws.Tables
import Derived.Test.YtkajgakblcgocaaDoorHG
import Derived.Test.YtkajgakblcgocaaDoorSF
namespace Go.Proofs.YtkajgakblcgocaaDoor
open Go.RowKit
theorem toList_mkS (l : List UInt8) : (ByteArray.mk l.toArray).toList = l := by rw [toList_data]
theorem words_cell (a : Nat) (h : a < 19) (w : World) : (w.alloc (.cells #[.string ⟨#[78, 85, 76, 76]⟩, .string ⟨#[80, 82, 79, 71, 66, 73, 84, 83]⟩, .string ⟨#[83, 89, 77, 84, 65, 66]⟩, .string ⟨#[83, 84, 82, 84, 65, 66]⟩, .string ⟨#[82, 69, 76, 65]⟩, .string ⟨#[72, 65, 83, 72]⟩, .string ⟨#[68, 89, 78, 65, 77, 73, 67]⟩, .string ⟨#[78, 79, 84, 69]⟩, .string ⟨#[78, 79, 66, 73, 84, 83]⟩, .string ⟨#[82, 69, 76]⟩, .string ⟨#[83, 72, 76, 73, 66]⟩, .string ⟨#[68, 89, 78, 83, 89, 77]⟩, .string ⟨#[48, 120, 99]⟩, .string ⟨#[48, 120, 100]⟩, .string ⟨#[73, 78, 73, 84, 95, 65, 82, 82, 65, 89]⟩, .string ⟨#[70, 73, 78, 73, 95, 65, 82, 82, 65, 89]⟩, .string ⟨#[80, 82, 69, 73, 78, 73, 84, 95, 65, 82, 82, 65, 89]⟩, .string ⟨#[71, 82, 79, 85, 80]⟩, .string ⟨#[83, 89, 77, 84, 65, 66, 95, 83, 72, 78, 68, 88]⟩] 9)).cell? ⟨w.heap.size, a, none⟩ = some (.string ⟨(Hex.look secTab a).toArray⟩) := by
  match a, h with
  | 0, _ => simp; rfl
  | 1, _ => simp; rfl
  | 2, _ => simp; rfl
  | 3, _ => simp; rfl
  | 4, _ => simp; rfl
  | 5, _ => simp; rfl
  | 6, _ => simp; rfl
  | 7, _ => simp; rfl
  | 8, _ => simp; rfl
  | 9, _ => simp; rfl
  | 10, _ => simp; rfl
  | 11, _ => simp; rfl
  | 12, _ => simp; rfl
  | 13, _ => simp; rfl
  | 14, _ => simp; rfl
  | 15, _ => simp; rfl
  | 16, _ => simp; rfl
  | 17, _ => simp; rfl
  | 18, _ => simp; rfl
  | n + 19, h => omega
theorem let_cut (k : Nat) (h : k < 12) (h3 : k ≠ 3) : (ByteArray.mk #[87, 65, 88, 46, 77, 83, 73, 76, 79, 71, 84, 67]).extract k (k + 1) = ⟨#[Flag.ch k]⟩ := by
  match k, h, h3 with
  | 0, _, _ => rfl
  | 1, _, _ => rfl
  | 2, _, _ => rfl
  | 4, _, _ => rfl
  | 5, _, _ => rfl
  | 6, _, _ => rfl
  | 7, _, _ => rfl
  | 8, _, _ => rfl
  | 9, _, _ => rfl
  | 10, _, _ => rfl
  | 11, _, _ => rfl
  | 3, _, h3 => exact absurd rfl h3
theorem shr_bit (a k : Nat) (ha : a < 2 ^ 64) : (bits BinOp.and IntKind.u64 ((a : Int) / 2 ^ k) 1 == 1) = a.testBit k := by
  have e : ((a : Int) / 2 ^ k) = ((a / 2 ^ k : Nat) : Int) := by simp
  have hl : a / 2 ^ k < 2 ^ 64 := Nat.lt_of_le_of_lt (Nat.div_le_self _ _) ha
  rw [e, show (1 : Int) = ((1 : Nat) : Int) from rfl, u64_and_nat _ 1 (by omega) (by decide), Nat.and_one_is_mod, Nat.testBit_eq_decide_div_mod_eq, Bool.eq_iff_iff]
  simp
  omega
end Go.Proofs.YtkajgakblcgocaaDoor
