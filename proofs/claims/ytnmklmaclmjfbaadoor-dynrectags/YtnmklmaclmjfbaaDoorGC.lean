/- The contract of dynrec's TagName. Conditions: those written in each theorem. -/
import Derived.Test.YtnmklmaclmjfbaaDoorGB
namespace Go.Proofs.YtnmklmaclmjfbaaDoor
open Go.RowKit
def tagTab : List (Nat × List UInt8) := [(0, [78, 85, 76, 76]), (1, [78, 69, 69, 68, 69, 68]), (2, [80, 76, 84, 82, 69, 76, 83, 90]), (3, [80, 76, 84, 71, 79, 84]), (4, [72, 65, 83, 72]), (5, [83, 84, 82, 84, 65, 66]), (6, [83, 89, 77, 84, 65, 66]), (7, [82, 69, 76, 65]), (8, [82, 69, 76, 65, 83, 90]), (9, [82, 69, 76, 65, 69, 78, 84]), (10, [83, 84, 82, 83, 90]), (11, [83, 89, 77, 69, 78, 84]), (12, [73, 78, 73, 84]), (13, [70, 73, 78, 73]), (14, [83, 79, 78, 65, 77, 69]), (15, [82, 80, 65, 84, 72]), (16, [83, 89, 77, 66, 79, 76, 73, 67]), (17, [82, 69, 76]), (18, [82, 69, 76, 83, 90]), (19, [82, 69, 76, 69, 78, 84]), (20, [80, 76, 84, 82, 69, 76]), (21, [68, 69, 66, 85, 71]), (22, [84, 69, 88, 84, 82, 69, 76]), (23, [74, 77, 80, 82, 69, 76]), (24, [66, 73, 78, 68, 95, 78, 79, 87])]
def tagCells : List Value := [.string ⟨#[78, 85, 76, 76]⟩, .string ⟨#[78, 69, 69, 68, 69, 68]⟩, .string ⟨#[80, 76, 84, 82, 69, 76, 83, 90]⟩, .string ⟨#[80, 76, 84, 71, 79, 84]⟩, .string ⟨#[72, 65, 83, 72]⟩, .string ⟨#[83, 84, 82, 84, 65, 66]⟩, .string ⟨#[83, 89, 77, 84, 65, 66]⟩, .string ⟨#[82, 69, 76, 65]⟩, .string ⟨#[82, 69, 76, 65, 83, 90]⟩, .string ⟨#[82, 69, 76, 65, 69, 78, 84]⟩, .string ⟨#[83, 84, 82, 83, 90]⟩, .string ⟨#[83, 89, 77, 69, 78, 84]⟩, .string ⟨#[73, 78, 73, 84]⟩, .string ⟨#[70, 73, 78, 73]⟩, .string ⟨#[83, 79, 78, 65, 77, 69]⟩, .string ⟨#[82, 80, 65, 84, 72]⟩, .string ⟨#[83, 89, 77, 66, 79, 76, 73, 67]⟩, .string ⟨#[82, 69, 76]⟩, .string ⟨#[82, 69, 76, 83, 90]⟩, .string ⟨#[82, 69, 76, 69, 78, 84]⟩, .string ⟨#[80, 76, 84, 82, 69, 76]⟩, .string ⟨#[68, 69, 66, 85, 71]⟩, .string ⟨#[84, 69, 88, 84, 82, 69, 76]⟩, .string ⟨#[74, 77, 80, 82, 69, 76]⟩, .string ⟨#[66, 73, 78, 68, 95, 78, 79, 87]⟩]
theorem tagTab_ok : Hex.tabOk tagTab = true := by decide
/-- The package variables as they are laid: dynrec's table and the one of math/bits. -/
structure TabsD (w : World) : Prop where
  size : 6 < w.heap.size
  db : w.cell? ⟨6, 15, none⟩ = some (.int .u8 4)
  tags : w.rangeAt 0 0 tagCells
theorem TabsD.kept {w w' : World} (h : TabsD w) (hb : Below w.heap.size w w') : TabsD w' where
  size := Nat.lt_of_lt_of_le h.size hb.size
  db := by rw [hb.cell (by exact h.size)]; exact h.db
  tags := fun j v hv => by rw [hb.cell (by have := h.size; show 0 < _; omega)]; exact h.tags j v hv
theorem look_lt (n : Nat) (h : n < 25) : tagCells[n]? = some (.string ⟨(Hex.look tagTab n).toArray⟩) := by
  match n, h with
  | 0, _ => exact rfl
  | 1, _ => exact rfl
  | 2, _ => exact rfl
  | 3, _ => exact rfl
  | 4, _ => exact rfl
  | 5, _ => exact rfl
  | 6, _ => exact rfl
  | 7, _ => exact rfl
  | 8, _ => exact rfl
  | 9, _ => exact rfl
  | 10, _ => exact rfl
  | 11, _ => exact rfl
  | 12, _ => exact rfl
  | 13, _ => exact rfl
  | 14, _ => exact rfl
  | 15, _ => exact rfl
  | 16, _ => exact rfl
  | 17, _ => exact rfl
  | 18, _ => exact rfl
  | 19, _ => exact rfl
  | 20, _ => exact rfl
  | 21, _ => exact rfl
  | 22, _ => exact rfl
  | 23, _ => exact rfl
  | 24, _ => exact rfl
  | n + 25, h => exact absurd h (by omega)
theorem tag_lt (n : Nat) (hn : n < 25) (w : World) (h : TabsD w) : Calls Tryd.prog 17 #[.int .u64 n] w fun e w' => e = .returned (.string ⟨(Hex.look tagTab n).toArray⟩) ∧ Below w.heap.size w w' := by
  have h1 : w.cell? ⟨0, n, none⟩ = some (.string ⟨(Hex.look tagTab n).toArray⟩) := by
    have := h.tags n _ (look_lt n hn)
    simpa using this
  clear h
  generalize (⟨(Hex.look tagTab n).toArray⟩ : ByteArray) = X at *
  have k0 : (0 : Int) ≤ (n : Int) := by omega
  have k1 : (n : Int) < 25 := by omega
  go_enter Tryd.func17, Tryd.ntmps17
  go_wp2
  go_ret
  exact ⟨rfl, Below.refl _ _⟩
theorem tag_else (n : Nat) (hn : n < 2 ^ 64) (h8 : 25 ≤ n) (w : World) (h : TabsD w) : Calls Tryd.prog 17 #[.int .u64 n] w fun e w' => e = .returned (.string (hexS n)) ∧ Below w.heap.size w w' := by
  have HT := Lib.hid h; clear h
  have HN := Lib.hid hn; clear hn
  have hd : decide ((n : Int) < 25) = false := by simp; omega
  have hd2 : ¬ (n : Int) < 25 := by omega
  go_enter Tryd.func17, Tryd.ntmps17
  go_wp2_with fail
  refine (hex_any n _ HN.out HT.out.db HT.out.size).mono ?_
  rintro e w1 ⟨rfl, h1⟩
  go_wp2
  go_ret
  exact ⟨rfl, h1⟩
theorem look_else (n : Nat) (h : 25 ≤ n) : Hex.look tagTab n = 48 :: 120 :: Hex.hexL n := by
  obtain ⟨m, rfl⟩ : ∃ m, n = m + 25 := ⟨n - 25, by omega⟩
  exact Hex.look_none (by simp [tagTab])
theorem tagName (n : Nat) (hn : n < 2 ^ 64) (w : World) (h : TabsD w) : Calls Tryd.prog 17 #[.int .u64 n] w fun e w' => e = .returned (.string ⟨(Hex.look tagTab n).toArray⟩) ∧ Below w.heap.size w w' := by
  by_cases h8 : n < 25
  · exact tag_lt n h8 w h
  · rw [look_else n (by omega)]
    exact tag_else n hn (by omega) w h
/-- The first two letters of a name tell whether it is a number's. -/
theorem look_two (n : Nat) : 2 ≤ (ByteArray.mk (Hex.look tagTab n).toArray).size ∧ ((ByteArray.mk (Hex.look tagTab n).toArray).extract 0 2 = ⟨#[48, 120]⟩ ↔ 25 ≤ n) := by
  by_cases h : n < 25
  · refine (fun h2 : 2 ≤ (ByteArray.mk (Hex.look tagTab n).toArray).size ∧ ¬ (ByteArray.mk (Hex.look tagTab n).toArray).extract 0 2 = ⟨#[48, 120]⟩ => ⟨h2.1, fun h3 => absurd h3 h2.2, fun h3 => by omega⟩) ?_
    match n, h with
    | 0, _ => exact ⟨by decide, by decide⟩
    | 1, _ => exact ⟨by decide, by decide⟩
    | 2, _ => exact ⟨by decide, by decide⟩
    | 3, _ => exact ⟨by decide, by decide⟩
    | 4, _ => exact ⟨by decide, by decide⟩
    | 5, _ => exact ⟨by decide, by decide⟩
    | 6, _ => exact ⟨by decide, by decide⟩
    | 7, _ => exact ⟨by decide, by decide⟩
    | 8, _ => exact ⟨by decide, by decide⟩
    | 9, _ => exact ⟨by decide, by decide⟩
    | 10, _ => exact ⟨by decide, by decide⟩
    | 11, _ => exact ⟨by decide, by decide⟩
    | 12, _ => exact ⟨by decide, by decide⟩
    | 13, _ => exact ⟨by decide, by decide⟩
    | 14, _ => exact ⟨by decide, by decide⟩
    | 15, _ => exact ⟨by decide, by decide⟩
    | 16, _ => exact ⟨by decide, by decide⟩
    | 17, _ => exact ⟨by decide, by decide⟩
    | 18, _ => exact ⟨by decide, by decide⟩
    | 19, _ => exact ⟨by decide, by decide⟩
    | 20, _ => exact ⟨by decide, by decide⟩
    | 21, _ => exact ⟨by decide, by decide⟩
    | 22, _ => exact ⟨by decide, by decide⟩
    | 23, _ => exact ⟨by decide, by decide⟩
    | 24, _ => exact ⟨by decide, by decide⟩
    | n + 25, h => exact absurd h (by omega)
  · rw [look_else n (by omega)]
    refine ⟨by simp [ByteArray.size], fun _ => by omega, fun _ => ?_⟩
    apply ByteArray.ext
    simp
end Go.Proofs.YtnmklmaclmjfbaaDoor
