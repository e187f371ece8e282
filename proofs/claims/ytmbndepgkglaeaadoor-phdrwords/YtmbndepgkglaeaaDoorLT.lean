/- Contracts of a header's package, by gen_hdr.py. Conditions: those written in each theorem. -/
import Derived.Laws.CopyOwn
import Derived.Laws.Tables
import Derived.Lib.SlBytesConst
import Derived.Lib.BufferMore
import Derived.Test.YtmbndepgkglaeaaDoorHB
namespace Go.Proofs.YtmbndepgkglaeaaDoor
open Go.RowKit
def segTab : List (Nat × List UInt8) := [(0, [78, 85, 76, 76]), (1, [76, 79, 65, 68]), (2, [68, 89, 78, 65, 77, 73, 67]), (3, [73, 78, 84, 69, 82, 80]), (4, [78, 79, 84, 69]), (5, [83, 72, 76, 73, 66]), (6, [80, 72, 68, 82]), (7, [84, 76, 83])]
def segCells : List Value := [.string ⟨#[78, 85, 76, 76]⟩, .string ⟨#[76, 79, 65, 68]⟩, .string ⟨#[68, 89, 78, 65, 77, 73, 67]⟩, .string ⟨#[73, 78, 84, 69, 82, 80]⟩, .string ⟨#[78, 79, 84, 69]⟩, .string ⟨#[83, 72, 76, 73, 66]⟩, .string ⟨#[80, 72, 68, 82]⟩, .string ⟨#[84, 76, 83]⟩]
theorem segTab_ok : Hex.tabOk segTab = true := by decide
/-- The package variables as they are laid: phdr's table and the one of math/bits. -/
structure TabsP (w : World) : Prop where
  size : 5 < w.heap.size
  db : w.cell? ⟨5, 15, none⟩ = some (.int .u8 4)
  types : w.rangeAt 0 0 segCells
theorem TabsP.kept {w w' : World} (h : TabsP w) (hb : Below w.heap.size w w') : TabsP w' where
  size := Nat.lt_of_lt_of_le h.size hb.size
  db := by rw [hb.cell (by exact h.size)]; exact h.db
  types := fun j v hv => by rw [hb.cell (by have := h.size; show 0 < _; omega)]; exact h.types j v hv
theorem seg0 (w : World) (h : TabsP w) : Calls Tryd.prog 6 #[.int .u64 0] w fun e w' => e = .returned (.string ⟨#[78, 85, 76, 76]⟩) ∧ Below w.heap.size w w' := by
  have h1 : w.cell? ⟨0, 0, none⟩ = some (.string ⟨#[78, 85, 76, 76]⟩) := h.types 0 _ rfl
  clear h
  go_enter Tryd.func6, Tryd.ntmps6
  go_wp2
  go_ret
  exact ⟨rfl, Below.refl _ _⟩
theorem seg1 (w : World) (h : TabsP w) : Calls Tryd.prog 6 #[.int .u64 1] w fun e w' => e = .returned (.string ⟨#[76, 79, 65, 68]⟩) ∧ Below w.heap.size w w' := by
  have h1 : w.cell? ⟨0, 1, none⟩ = some (.string ⟨#[76, 79, 65, 68]⟩) := h.types 1 _ rfl
  clear h
  go_enter Tryd.func6, Tryd.ntmps6
  go_wp2
  go_ret
  exact ⟨rfl, Below.refl _ _⟩
theorem seg2 (w : World) (h : TabsP w) : Calls Tryd.prog 6 #[.int .u64 2] w fun e w' => e = .returned (.string ⟨#[68, 89, 78, 65, 77, 73, 67]⟩) ∧ Below w.heap.size w w' := by
  have h1 : w.cell? ⟨0, 2, none⟩ = some (.string ⟨#[68, 89, 78, 65, 77, 73, 67]⟩) := h.types 2 _ rfl
  clear h
  go_enter Tryd.func6, Tryd.ntmps6
  go_wp2
  go_ret
  exact ⟨rfl, Below.refl _ _⟩
theorem seg3 (w : World) (h : TabsP w) : Calls Tryd.prog 6 #[.int .u64 3] w fun e w' => e = .returned (.string ⟨#[73, 78, 84, 69, 82, 80]⟩) ∧ Below w.heap.size w w' := by
  have h1 : w.cell? ⟨0, 3, none⟩ = some (.string ⟨#[73, 78, 84, 69, 82, 80]⟩) := h.types 3 _ rfl
  clear h
  go_enter Tryd.func6, Tryd.ntmps6
  go_wp2
  go_ret
  exact ⟨rfl, Below.refl _ _⟩
theorem seg4 (w : World) (h : TabsP w) : Calls Tryd.prog 6 #[.int .u64 4] w fun e w' => e = .returned (.string ⟨#[78, 79, 84, 69]⟩) ∧ Below w.heap.size w w' := by
  have h1 : w.cell? ⟨0, 4, none⟩ = some (.string ⟨#[78, 79, 84, 69]⟩) := h.types 4 _ rfl
  clear h
  go_enter Tryd.func6, Tryd.ntmps6
  go_wp2
  go_ret
  exact ⟨rfl, Below.refl _ _⟩
theorem seg5 (w : World) (h : TabsP w) : Calls Tryd.prog 6 #[.int .u64 5] w fun e w' => e = .returned (.string ⟨#[83, 72, 76, 73, 66]⟩) ∧ Below w.heap.size w w' := by
  have h1 : w.cell? ⟨0, 5, none⟩ = some (.string ⟨#[83, 72, 76, 73, 66]⟩) := h.types 5 _ rfl
  clear h
  go_enter Tryd.func6, Tryd.ntmps6
  go_wp2
  go_ret
  exact ⟨rfl, Below.refl _ _⟩
theorem seg6 (w : World) (h : TabsP w) : Calls Tryd.prog 6 #[.int .u64 6] w fun e w' => e = .returned (.string ⟨#[80, 72, 68, 82]⟩) ∧ Below w.heap.size w w' := by
  have h1 : w.cell? ⟨0, 6, none⟩ = some (.string ⟨#[80, 72, 68, 82]⟩) := h.types 6 _ rfl
  clear h
  go_enter Tryd.func6, Tryd.ntmps6
  go_wp2
  go_ret
  exact ⟨rfl, Below.refl _ _⟩
theorem seg7 (w : World) (h : TabsP w) : Calls Tryd.prog 6 #[.int .u64 7] w fun e w' => e = .returned (.string ⟨#[84, 76, 83]⟩) ∧ Below w.heap.size w w' := by
  have h1 : w.cell? ⟨0, 7, none⟩ = some (.string ⟨#[84, 76, 83]⟩) := h.types 7 _ rfl
  clear h
  go_enter Tryd.func6, Tryd.ntmps6
  go_wp2
  go_ret
  exact ⟨rfl, Below.refl _ _⟩
theorem seg_else (n : Nat) (hn : n < 2 ^ 64) (h8 : 8 ≤ n) (w : World) (h : TabsP w) : Calls Tryd.prog 6 #[.int .u64 n] w fun e w' => e = .returned (.string (hexS n)) ∧ Below w.heap.size w w' := by
  have HT := Lib.hid h; clear h
  have HN := Lib.hid hn; clear hn
  have hd : decide ((n : Int) < 8) = false := by simp; omega
  have hd2 : ¬ (n : Int) < 8 := by omega
  go_enter Tryd.func6, Tryd.ntmps6
  go_wp2_with fail
  refine (hex_any n _ HN.out HT.out.db HT.out.size).mono ?_
  rintro e w1 ⟨rfl, h1⟩
  go_wp2
  go_ret
  exact ⟨rfl, h1⟩
theorem segName (n : Nat) (hn : n < 2 ^ 64) (w : World) (h : TabsP w) : Calls Tryd.prog 6 #[.int .u64 n] w fun e w' => e = .returned (.string ⟨(Hex.look segTab n).toArray⟩) ∧ Below w.heap.size w w' := by
  match n with
  | 0 => exact seg0 w h
  | 1 => exact seg1 w h
  | 2 => exact seg2 w h
  | 3 => exact seg3 w h
  | 4 => exact seg4 w h
  | 5 => exact seg5 w h
  | 6 => exact seg6 w h
  | 7 => exact seg7 w h
  | n + 8 =>
    have e : Hex.look segTab (n + 8) = 48 :: 120 :: Hex.hexL (n + 8) := Hex.look_none (by simp [segTab])
    rw [e]
    exact seg_else (n + 8) hn (by omega) w h
end Go.Proofs.YtmbndepgkglaeaaDoor
