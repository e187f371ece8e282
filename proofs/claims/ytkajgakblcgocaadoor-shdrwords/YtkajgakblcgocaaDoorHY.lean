/- Contracts of shdr's TypeName and of digits.Rest. Conditions: those written in each theorem (the listed variables lie as laid). -/
import Derived.Test.YtkajgakblcgocaaDoorHB
import Derived.Deep.MidRow
namespace Go.Proofs.YtkajgakblcgocaaDoor
open Go.RowKit
def secTab : List (Nat × List UInt8) := [(0, [78, 85, 76, 76]), (1, [80, 82, 79, 71, 66, 73, 84, 83]), (2, [83, 89, 77, 84, 65, 66]), (3, [83, 84, 82, 84, 65, 66]), (4, [82, 69, 76, 65]), (5, [72, 65, 83, 72]), (6, [68, 89, 78, 65, 77, 73, 67]), (7, [78, 79, 84, 69]), (8, [78, 79, 66, 73, 84, 83]), (9, [82, 69, 76]), (10, [83, 72, 76, 73, 66]), (11, [68, 89, 78, 83, 89, 77]), (14, [73, 78, 73, 84, 95, 65, 82, 82, 65, 89]), (15, [70, 73, 78, 73, 95, 65, 82, 82, 65, 89]), (16, [80, 82, 69, 73, 78, 73, 84, 95, 65, 82, 82, 65, 89]), (17, [71, 82, 79, 85, 80]), (18, [83, 89, 77, 84, 65, 66, 95, 83, 72, 78, 68, 88])]
def secCells : List Value := [.string ⟨#[78, 85, 76, 76]⟩, .string ⟨#[80, 82, 79, 71, 66, 73, 84, 83]⟩, .string ⟨#[83, 89, 77, 84, 65, 66]⟩, .string ⟨#[83, 84, 82, 84, 65, 66]⟩, .string ⟨#[82, 69, 76, 65]⟩, .string ⟨#[72, 65, 83, 72]⟩, .string ⟨#[68, 89, 78, 65, 77, 73, 67]⟩, .string ⟨#[78, 79, 84, 69]⟩, .string ⟨#[78, 79, 66, 73, 84, 83]⟩, .string ⟨#[82, 69, 76]⟩, .string ⟨#[83, 72, 76, 73, 66]⟩, .string ⟨#[68, 89, 78, 83, 89, 77]⟩, .string ⟨#[]⟩, .string ⟨#[]⟩, .string ⟨#[73, 78, 73, 84, 95, 65, 82, 82, 65, 89]⟩, .string ⟨#[70, 73, 78, 73, 95, 65, 82, 82, 65, 89]⟩, .string ⟨#[80, 82, 69, 73, 78, 73, 84, 95, 65, 82, 82, 65, 89]⟩, .string ⟨#[71, 82, 79, 85, 80]⟩, .string ⟨#[83, 89, 77, 84, 65, 66, 95, 83, 72, 78, 68, 88]⟩]
theorem secTab_ok : Hex.tabOk secTab = true := by decide
/-- The package variables as they are laid: shdr's table and the one of math/bits. -/
structure TabsS (w : World) : Prop where
  size : 5 < w.heap.size
  db : w.cell? ⟨5, 15, none⟩ = some (.int .u8 4)
  types : w.rangeAt 2 0 secCells
theorem TabsS.kept {w w' : World} (h : TabsS w) (hb : Below w.heap.size w w') : TabsS w' where
  size := Nat.lt_of_lt_of_le h.size hb.size
  db := by rw [hb.cell (by exact h.size)]; exact h.db
  types := fun j v hv => by rw [hb.cell (by have := h.size; show 2 < _; omega)]; exact h.types j v hv
theorem sec0 (w : World) (h : TabsS w) : Calls Tryd.prog 9 #[.int .u64 0] w fun e w' => e = .returned (.string ⟨#[78, 85, 76, 76]⟩) ∧ Below w.heap.size w w' := by
  have h1 : w.cell? ⟨2, 0, none⟩ = some (.string ⟨#[78, 85, 76, 76]⟩) := h.types 0 _ rfl
  clear h
  go_enter Tryd.func9, Tryd.ntmps9
  go_wp2
  go_ret
  exact ⟨rfl, Below.refl _ _⟩
theorem sec1 (w : World) (h : TabsS w) : Calls Tryd.prog 9 #[.int .u64 1] w fun e w' => e = .returned (.string ⟨#[80, 82, 79, 71, 66, 73, 84, 83]⟩) ∧ Below w.heap.size w w' := by
  have h1 : w.cell? ⟨2, 1, none⟩ = some (.string ⟨#[80, 82, 79, 71, 66, 73, 84, 83]⟩) := h.types 1 _ rfl
  clear h
  go_enter Tryd.func9, Tryd.ntmps9
  go_wp2
  go_ret
  exact ⟨rfl, Below.refl _ _⟩
theorem sec2 (w : World) (h : TabsS w) : Calls Tryd.prog 9 #[.int .u64 2] w fun e w' => e = .returned (.string ⟨#[83, 89, 77, 84, 65, 66]⟩) ∧ Below w.heap.size w w' := by
  have h1 : w.cell? ⟨2, 2, none⟩ = some (.string ⟨#[83, 89, 77, 84, 65, 66]⟩) := h.types 2 _ rfl
  clear h
  go_enter Tryd.func9, Tryd.ntmps9
  go_wp2
  go_ret
  exact ⟨rfl, Below.refl _ _⟩
theorem sec3 (w : World) (h : TabsS w) : Calls Tryd.prog 9 #[.int .u64 3] w fun e w' => e = .returned (.string ⟨#[83, 84, 82, 84, 65, 66]⟩) ∧ Below w.heap.size w w' := by
  have h1 : w.cell? ⟨2, 3, none⟩ = some (.string ⟨#[83, 84, 82, 84, 65, 66]⟩) := h.types 3 _ rfl
  clear h
  go_enter Tryd.func9, Tryd.ntmps9
  go_wp2
  go_ret
  exact ⟨rfl, Below.refl _ _⟩
theorem sec4 (w : World) (h : TabsS w) : Calls Tryd.prog 9 #[.int .u64 4] w fun e w' => e = .returned (.string ⟨#[82, 69, 76, 65]⟩) ∧ Below w.heap.size w w' := by
  have h1 : w.cell? ⟨2, 4, none⟩ = some (.string ⟨#[82, 69, 76, 65]⟩) := h.types 4 _ rfl
  clear h
  go_enter Tryd.func9, Tryd.ntmps9
  go_wp2
  go_ret
  exact ⟨rfl, Below.refl _ _⟩
theorem sec5 (w : World) (h : TabsS w) : Calls Tryd.prog 9 #[.int .u64 5] w fun e w' => e = .returned (.string ⟨#[72, 65, 83, 72]⟩) ∧ Below w.heap.size w w' := by
  have h1 : w.cell? ⟨2, 5, none⟩ = some (.string ⟨#[72, 65, 83, 72]⟩) := h.types 5 _ rfl
  clear h
  go_enter Tryd.func9, Tryd.ntmps9
  go_wp2
  go_ret
  exact ⟨rfl, Below.refl _ _⟩
theorem sec6 (w : World) (h : TabsS w) : Calls Tryd.prog 9 #[.int .u64 6] w fun e w' => e = .returned (.string ⟨#[68, 89, 78, 65, 77, 73, 67]⟩) ∧ Below w.heap.size w w' := by
  have h1 : w.cell? ⟨2, 6, none⟩ = some (.string ⟨#[68, 89, 78, 65, 77, 73, 67]⟩) := h.types 6 _ rfl
  clear h
  go_enter Tryd.func9, Tryd.ntmps9
  go_wp2
  go_ret
  exact ⟨rfl, Below.refl _ _⟩
theorem sec7 (w : World) (h : TabsS w) : Calls Tryd.prog 9 #[.int .u64 7] w fun e w' => e = .returned (.string ⟨#[78, 79, 84, 69]⟩) ∧ Below w.heap.size w w' := by
  have h1 : w.cell? ⟨2, 7, none⟩ = some (.string ⟨#[78, 79, 84, 69]⟩) := h.types 7 _ rfl
  clear h
  go_enter Tryd.func9, Tryd.ntmps9
  go_wp2
  go_ret
  exact ⟨rfl, Below.refl _ _⟩
theorem sec8 (w : World) (h : TabsS w) : Calls Tryd.prog 9 #[.int .u64 8] w fun e w' => e = .returned (.string ⟨#[78, 79, 66, 73, 84, 83]⟩) ∧ Below w.heap.size w w' := by
  have h1 : w.cell? ⟨2, 8, none⟩ = some (.string ⟨#[78, 79, 66, 73, 84, 83]⟩) := h.types 8 _ rfl
  clear h
  go_enter Tryd.func9, Tryd.ntmps9
  go_wp2
  go_ret
  exact ⟨rfl, Below.refl _ _⟩
theorem sec9 (w : World) (h : TabsS w) : Calls Tryd.prog 9 #[.int .u64 9] w fun e w' => e = .returned (.string ⟨#[82, 69, 76]⟩) ∧ Below w.heap.size w w' := by
  have h1 : w.cell? ⟨2, 9, none⟩ = some (.string ⟨#[82, 69, 76]⟩) := h.types 9 _ rfl
  clear h
  go_enter Tryd.func9, Tryd.ntmps9
  go_wp2
  go_ret
  exact ⟨rfl, Below.refl _ _⟩
theorem sec10 (w : World) (h : TabsS w) : Calls Tryd.prog 9 #[.int .u64 10] w fun e w' => e = .returned (.string ⟨#[83, 72, 76, 73, 66]⟩) ∧ Below w.heap.size w w' := by
  have h1 : w.cell? ⟨2, 10, none⟩ = some (.string ⟨#[83, 72, 76, 73, 66]⟩) := h.types 10 _ rfl
  clear h
  go_enter Tryd.func9, Tryd.ntmps9
  go_wp2
  go_ret
  exact ⟨rfl, Below.refl _ _⟩
theorem sec11 (w : World) (h : TabsS w) : Calls Tryd.prog 9 #[.int .u64 11] w fun e w' => e = .returned (.string ⟨#[68, 89, 78, 83, 89, 77]⟩) ∧ Below w.heap.size w w' := by
  have h1 : w.cell? ⟨2, 11, none⟩ = some (.string ⟨#[68, 89, 78, 83, 89, 77]⟩) := h.types 11 _ rfl
  clear h
  go_enter Tryd.func9, Tryd.ntmps9
  go_wp2
  go_ret
  exact ⟨rfl, Below.refl _ _⟩
theorem sec14 (w : World) (h : TabsS w) : Calls Tryd.prog 9 #[.int .u64 14] w fun e w' => e = .returned (.string ⟨#[73, 78, 73, 84, 95, 65, 82, 82, 65, 89]⟩) ∧ Below w.heap.size w w' := by
  have h1 : w.cell? ⟨2, 14, none⟩ = some (.string ⟨#[73, 78, 73, 84, 95, 65, 82, 82, 65, 89]⟩) := h.types 14 _ rfl
  clear h
  go_enter Tryd.func9, Tryd.ntmps9
  go_wp2
  go_ret
  exact ⟨rfl, Below.refl _ _⟩
theorem sec15 (w : World) (h : TabsS w) : Calls Tryd.prog 9 #[.int .u64 15] w fun e w' => e = .returned (.string ⟨#[70, 73, 78, 73, 95, 65, 82, 82, 65, 89]⟩) ∧ Below w.heap.size w w' := by
  have h1 : w.cell? ⟨2, 15, none⟩ = some (.string ⟨#[70, 73, 78, 73, 95, 65, 82, 82, 65, 89]⟩) := h.types 15 _ rfl
  clear h
  go_enter Tryd.func9, Tryd.ntmps9
  go_wp2
  go_ret
  exact ⟨rfl, Below.refl _ _⟩
theorem sec16 (w : World) (h : TabsS w) : Calls Tryd.prog 9 #[.int .u64 16] w fun e w' => e = .returned (.string ⟨#[80, 82, 69, 73, 78, 73, 84, 95, 65, 82, 82, 65, 89]⟩) ∧ Below w.heap.size w w' := by
  have h1 : w.cell? ⟨2, 16, none⟩ = some (.string ⟨#[80, 82, 69, 73, 78, 73, 84, 95, 65, 82, 82, 65, 89]⟩) := h.types 16 _ rfl
  clear h
  go_enter Tryd.func9, Tryd.ntmps9
  go_wp2
  go_ret
  exact ⟨rfl, Below.refl _ _⟩
theorem sec17 (w : World) (h : TabsS w) : Calls Tryd.prog 9 #[.int .u64 17] w fun e w' => e = .returned (.string ⟨#[71, 82, 79, 85, 80]⟩) ∧ Below w.heap.size w w' := by
  have h1 : w.cell? ⟨2, 17, none⟩ = some (.string ⟨#[71, 82, 79, 85, 80]⟩) := h.types 17 _ rfl
  clear h
  go_enter Tryd.func9, Tryd.ntmps9
  go_wp2
  go_ret
  exact ⟨rfl, Below.refl _ _⟩
theorem sec18 (w : World) (h : TabsS w) : Calls Tryd.prog 9 #[.int .u64 18] w fun e w' => e = .returned (.string ⟨#[83, 89, 77, 84, 65, 66, 95, 83, 72, 78, 68, 88]⟩) ∧ Below w.heap.size w w' := by
  have h1 : w.cell? ⟨2, 18, none⟩ = some (.string ⟨#[83, 89, 77, 84, 65, 66, 95, 83, 72, 78, 68, 88]⟩) := h.types 18 _ rfl
  clear h
  go_enter Tryd.func9, Tryd.ntmps9
  go_wp2
  go_ret
  exact ⟨rfl, Below.refl _ _⟩
theorem sec12 (w : World) (h : TabsS w) : Calls Tryd.prog 9 #[.int .u64 12] w fun e w' => e = .returned (.string (hexS 12)) ∧ Below w.heap.size w w' := by
  have h1 : w.cell? ⟨2, 12, none⟩ = some (.string ⟨#[]⟩) := h.types 12 _ rfl
  have HT := Lib.hid h; clear h
  go_enter Tryd.func9, Tryd.ntmps9
  go_wp2_with fail
  refine (hex_any 12 _ (by decide) HT.out.db HT.out.size).mono ?_
  rintro e w1 ⟨rfl, h2⟩
  go_wp2
  go_ret
  exact ⟨rfl, h2⟩
theorem sec13 (w : World) (h : TabsS w) : Calls Tryd.prog 9 #[.int .u64 13] w fun e w' => e = .returned (.string (hexS 13)) ∧ Below w.heap.size w w' := by
  have h1 : w.cell? ⟨2, 13, none⟩ = some (.string ⟨#[]⟩) := h.types 13 _ rfl
  have HT := Lib.hid h; clear h
  go_enter Tryd.func9, Tryd.ntmps9
  go_wp2_with fail
  refine (hex_any 13 _ (by decide) HT.out.db HT.out.size).mono ?_
  rintro e w1 ⟨rfl, h2⟩
  go_wp2
  go_ret
  exact ⟨rfl, h2⟩
theorem sec_else (n : Nat) (hn : n < 2 ^ 64) (h19 : 19 ≤ n) (w : World) (h : TabsS w) : Calls Tryd.prog 9 #[.int .u64 n] w fun e w' => e = .returned (.string (hexS n)) ∧ Below w.heap.size w w' := by
  have HT := Lib.hid h; clear h
  have HN := Lib.hid hn; clear hn
  have hd : decide ((n : Int) < 19) = false := by simp; omega
  have hd2 : ¬ (n : Int) < 19 := by omega
  go_enter Tryd.func9, Tryd.ntmps9
  go_wp2_with fail
  refine (hex_any n _ HN.out HT.out.db HT.out.size).mono ?_
  rintro e w1 ⟨rfl, h1⟩
  go_wp2
  go_ret
  exact ⟨rfl, h1⟩
theorem secName (n : Nat) (hn : n < 2 ^ 64) (w : World) (h : TabsS w) : Calls Tryd.prog 9 #[.int .u64 n] w fun e w' => e = .returned (.string ⟨(Hex.look secTab n).toArray⟩) ∧ Below w.heap.size w w' := by
  match n with
  | 0 => exact sec0 w h
  | 1 => exact sec1 w h
  | 2 => exact sec2 w h
  | 3 => exact sec3 w h
  | 4 => exact sec4 w h
  | 5 => exact sec5 w h
  | 6 => exact sec6 w h
  | 7 => exact sec7 w h
  | 8 => exact sec8 w h
  | 9 => exact sec9 w h
  | 10 => exact sec10 w h
  | 11 => exact sec11 w h
  | 12 => exact sec12 w h
  | 13 => exact sec13 w h
  | 14 => exact sec14 w h
  | 15 => exact sec15 w h
  | 16 => exact sec16 w h
  | 17 => exact sec17 w h
  | 18 => exact sec18 w h
  | n + 19 =>
    have e : Hex.look secTab (n + 19) = 48 :: 120 :: Hex.hexL (n + 19) := Hex.look_none (by simp [secTab])
    rw [e]
    exact sec_else (n + 19) hn (by omega) w h
/-- What follows the letters. -/
def restL (m : Nat) : List UInt8 := if m = 0 then [] else 43 :: 48 :: 120 :: Hex.hexL m
theorem rest_zero (w : World) : Calls Tryd.prog 22 #[.int .u64 0] w fun e w' => e = .returned (.string ⟨#[]⟩) ∧ Below w.heap.size w w' := by
  go_enter Tryd.func22, Tryd.ntmps22
  go_wp2
  go_ret
  exact ⟨rfl, Below.refl _ _⟩
theorem rest_any (m : Nat) (hm : m < 2 ^ 64) (w : World) (hdb : w.cell? ⟨5, 15, none⟩ = some (.int .u8 4)) (h5 : 5 < w.heap.size) :
    Calls Tryd.prog 22 #[.int .u64 m] w fun e w' => e = .returned (.string ⟨(restL m).toArray⟩) ∧ Below w.heap.size w w' := by
  by_cases h0 : m = 0
  · subst h0
    exact rest_zero w
  · have hr : restL m = 43 :: 48 :: 120 :: Hex.hexL m := by simp [restL, h0]
    rw [hr]
    have HM := Lib.hid hm; clear hm
    have HDB := Lib.hid hdb; clear hdb
    have hz : ((m : Int) == 0) = false := by simp; omega
    have hl := Hex.hexL_len m
    have hsz : (hexS m).size = (Hex.hexL m).length + 2 := by simp [hexS, ByteArray.size]
    have hap : (ByteArray.mk #[43]) ++ hexS m = ⟨(43 :: 48 :: 120 :: Hex.hexL m).toArray⟩ := by apply ByteArray.ext; simp [hexS]
    have hadd : ∀ W, (Op.stringOp .add (ByteArray.mk #[43]) (hexS m)).run Tryd.prog W = .ok (.string ⟨(43 :: 48 :: 120 :: Hex.hexL m).toArray⟩) W := fun W => by
      rw [← hap]; exact run_string_add_sum W _ _ (by rw [hsz]; show 1 + _ ≤ _; omega)
    have HADD := Lib.hid hadd; clear hadd hap hsz hl
    go_enter Tryd.func22, Tryd.ntmps22
    go_wp2_with fail
    refine (hex_any m _ HM.out HDB.out h5).mono ?_
    rintro e w1 ⟨rfl, h1⟩
    have hadd := HADD.out w1
    go_wp2
    go_ret
    exact ⟨rfl, h1⟩
end Go.Proofs.YtkajgakblcgocaaDoor
