/- Contracts of a header's package, by gen_hdr.py. Conditions: those written in each theorem. -/
import Derived.Laws.CopyOwn
import Derived.Laws.Tables
import Derived.Test.YtmbndepgkglaeaaDoorSB
import Derived.Test.YtmbndepgkglaeaaDoorYF
namespace Go.Proofs.YtmbndepgkglaeaaDoor
open Go.RowKit
theorem toList_mkY (l : List UInt8) : (ByteArray.mk l.toArray).toList = l := by rw [toList_data]
theorem bind_cell (a : Nat) (h : a < 3) (w : World) (o : Obj) : ((w.alloc (.cells #[.string ⟨#[76, 79, 67, 65, 76]⟩, .string ⟨#[71, 76, 79, 66, 65, 76]⟩, .string ⟨#[87, 69, 65, 75]⟩] 9)).alloc o).cell? ⟨w.heap.size, a, none⟩ = some (.string ⟨(Dec.look bindTab a).toArray⟩) := by
  match a, h with
  | 0, _ => simp; rfl
  | 1, _ => simp; rfl
  | 2, _ => simp; rfl
  | n + 3, h => omega
theorem kind_cell (a : Nat) (h : a < 7) (w : World) : (w.alloc (.cells #[.string ⟨#[78, 79, 84, 89, 80, 69]⟩, .string ⟨#[79, 66, 74, 69, 67, 84]⟩, .string ⟨#[70, 85, 78, 67]⟩, .string ⟨#[83, 69, 67, 84, 73, 79, 78]⟩, .string ⟨#[70, 73, 76, 69]⟩, .string ⟨#[67, 79, 77, 77, 79, 78]⟩, .string ⟨#[84, 76, 83]⟩] 9)).cell? ⟨w.heap.size, a, none⟩ = some (.string ⟨(Dec.look kindTab a).toArray⟩) := by
  match a, h with
  | 0, _ => simp; rfl
  | 1, _ => simp; rfl
  | 2, _ => simp; rfl
  | 3, _ => simp; rfl
  | 4, _ => simp; rfl
  | 5, _ => simp; rfl
  | 6, _ => simp; rfl
  | n + 7, h => omega
end Go.Proofs.YtmbndepgkglaeaaDoor
