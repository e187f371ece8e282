/- The map that EhdrWords makes. Conditions: those written in each theorem. -/
import Derived.Maps.OwnSet
import Derived.Maps.OwnOps
import Derived.Maps.StringElems
import Derived.Test.YtkajgakblcgocaaDoorHW
namespace Go.Proofs.YtkajgakblcgocaaDoor
open Go.RowKit Go.Maps
theorem law22 : Keyed Tryd.prog 22 := int_keyed Tryd.underlying22
theorem zero9 (w : World) : (zeroValue 9).run Tryd.prog w = .ok (.string ⟨#[]⟩) w := Tryd.zeroValue9 w
theorem grown_below {W w' w'' : World} {b : Nat} (h : Below W.heap.size W w') (hb : W.heap.size ≤ b) (hg : w'.grownBy w'' (some b)) : Below W.heap.size W w'' :=
  ⟨hg.os.trans h.os, hg.tape.trans h.tape, hg.output.trans h.output, Nat.le_trans h.size hg.size, fun k hk => (hg.block k (Nat.lt_of_lt_of_le hk h.size) (by intro e; cases e; omega)).trans (h.block k hk)⟩
def knownD1 : DataW Unit := (DataW.map [] : DataW Unit).put (.int .u64 0) (.lit (.string [110, 111, 110, 101]))
def knownD2 : DataW Unit := knownD1.put (.int .u64 3) (.lit (.string [51, 56, 54]))
def knownD3 : DataW Unit := knownD2.put (.int .u64 8) (.lit (.string [77, 73, 80, 83]))
def knownD4 : DataW Unit := knownD3.put (.int .u64 20) (.lit (.string [80, 111, 119, 101, 114, 80, 67]))
def knownD5 : DataW Unit := knownD4.put (.int .u64 21) (.lit (.string [80, 111, 119, 101, 114, 80, 67, 54, 52]))
def knownD6 : DataW Unit := knownD5.put (.int .u64 22) (.lit (.string [83, 51, 57, 48]))
def knownD7 : DataW Unit := knownD6.put (.int .u64 40) (.lit (.string [65, 82, 77]))
def knownD8 : DataW Unit := knownD7.put (.int .u64 62) (.lit (.string [88, 56, 54, 45, 54, 52]))
def knownD9 : DataW Unit := knownD8.put (.int .u64 183) (.lit (.string [65, 65, 114, 99, 104, 54, 52]))
def knownD10 : DataW Unit := knownD9.put (.int .u64 243) (.lit (.string [82, 73, 83, 67, 45, 86]))
def knownD11 : DataW Unit := knownD10.put (.int .u64 258) (.lit (.string [76, 111, 111, 110, 103, 65, 114, 99, 104]))
theorem known (W : World) : ∃ u1 u2 u3 u4 u5 u6 u7 u8 u9 u10 u11 : World, (Instr.mapUpdate 26 (.map (some W.heap.size)) (.int .u64 0) (.string ⟨#[110, 111, 110, 101]⟩)).run Tryd.prog (W.alloc (.map #[] 0)) = .ok () u1 ∧ (Instr.mapUpdate 26 (.map (some W.heap.size)) (.int .u64 3) (.string ⟨#[51, 56, 54]⟩)).run Tryd.prog u1 = .ok () u2 ∧ (Instr.mapUpdate 26 (.map (some W.heap.size)) (.int .u64 8) (.string ⟨#[77, 73, 80, 83]⟩)).run Tryd.prog u2 = .ok () u3 ∧ (Instr.mapUpdate 26 (.map (some W.heap.size)) (.int .u64 20) (.string ⟨#[80, 111, 119, 101, 114, 80, 67]⟩)).run Tryd.prog u3 = .ok () u4 ∧ (Instr.mapUpdate 26 (.map (some W.heap.size)) (.int .u64 21) (.string ⟨#[80, 111, 119, 101, 114, 80, 67, 54, 52]⟩)).run Tryd.prog u4 = .ok () u5 ∧ (Instr.mapUpdate 26 (.map (some W.heap.size)) (.int .u64 22) (.string ⟨#[83, 51, 57, 48]⟩)).run Tryd.prog u5 = .ok () u6 ∧ (Instr.mapUpdate 26 (.map (some W.heap.size)) (.int .u64 40) (.string ⟨#[65, 82, 77]⟩)).run Tryd.prog u6 = .ok () u7 ∧ (Instr.mapUpdate 26 (.map (some W.heap.size)) (.int .u64 62) (.string ⟨#[88, 56, 54, 45, 54, 52]⟩)).run Tryd.prog u7 = .ok () u8 ∧ (Instr.mapUpdate 26 (.map (some W.heap.size)) (.int .u64 183) (.string ⟨#[65, 65, 114, 99, 104, 54, 52]⟩)).run Tryd.prog u8 = .ok () u9 ∧ (Instr.mapUpdate 26 (.map (some W.heap.size)) (.int .u64 243) (.string ⟨#[82, 73, 83, 67, 45, 86]⟩)).run Tryd.prog u9 = .ok () u10 ∧ (Instr.mapUpdate 26 (.map (some W.heap.size)) (.int .u64 258) (.string ⟨#[76, 111, 111, 110, 103, 65, 114, 99, 104]⟩)).run Tryd.prog u10 = .ok () u11 ∧ u11.ownsMap Tryd.prog 22 (plainElem Tryd.prog 9) W.heap.size 11 knownD11 ∧ Below W.heap.size W u11 := by
  have m0 := World.ownsMap_made (H := Unit) W Tryd.prog 22 (plainElem Tryd.prog 9)
  have b0 : Below W.heap.size W (W.alloc (.map #[] 0)) := (Below.refl _ _).alloc (Nat.le_refl _) _
  obtain ⟨u1, r1, m1, g1⟩ := m0.update law22 Tryd.underlying26 (by decide) (keyOf_int_mk Tryd.underlying22 (a := 0) (by decide)) (plainElem_string Tryd.underlying9 (s := ⟨#[110, 111, 110, 101]⟩) (by decide))
  have b1 := grown_below b0 (Nat.le_refl _) g1
  obtain ⟨u2, r2, m2, g2⟩ := m1.update law22 Tryd.underlying26 (by decide) (keyOf_int_mk Tryd.underlying22 (a := 3) (by decide)) (plainElem_string Tryd.underlying9 (s := ⟨#[51, 56, 54]⟩) (by decide))
  have b2 := grown_below b1 (Nat.le_refl _) g2
  obtain ⟨u3, r3, m3, g3⟩ := m2.update law22 Tryd.underlying26 (by decide) (keyOf_int_mk Tryd.underlying22 (a := 8) (by decide)) (plainElem_string Tryd.underlying9 (s := ⟨#[77, 73, 80, 83]⟩) (by decide))
  have b3 := grown_below b2 (Nat.le_refl _) g3
  obtain ⟨u4, r4, m4, g4⟩ := m3.update law22 Tryd.underlying26 (by decide) (keyOf_int_mk Tryd.underlying22 (a := 20) (by decide)) (plainElem_string Tryd.underlying9 (s := ⟨#[80, 111, 119, 101, 114, 80, 67]⟩) (by decide))
  have b4 := grown_below b3 (Nat.le_refl _) g4
  obtain ⟨u5, r5, m5, g5⟩ := m4.update law22 Tryd.underlying26 (by decide) (keyOf_int_mk Tryd.underlying22 (a := 21) (by decide)) (plainElem_string Tryd.underlying9 (s := ⟨#[80, 111, 119, 101, 114, 80, 67, 54, 52]⟩) (by decide))
  have b5 := grown_below b4 (Nat.le_refl _) g5
  obtain ⟨u6, r6, m6, g6⟩ := m5.update law22 Tryd.underlying26 (by decide) (keyOf_int_mk Tryd.underlying22 (a := 22) (by decide)) (plainElem_string Tryd.underlying9 (s := ⟨#[83, 51, 57, 48]⟩) (by decide))
  have b6 := grown_below b5 (Nat.le_refl _) g6
  obtain ⟨u7, r7, m7, g7⟩ := m6.update law22 Tryd.underlying26 (by decide) (keyOf_int_mk Tryd.underlying22 (a := 40) (by decide)) (plainElem_string Tryd.underlying9 (s := ⟨#[65, 82, 77]⟩) (by decide))
  have b7 := grown_below b6 (Nat.le_refl _) g7
  obtain ⟨u8, r8, m8, g8⟩ := m7.update law22 Tryd.underlying26 (by decide) (keyOf_int_mk Tryd.underlying22 (a := 62) (by decide)) (plainElem_string Tryd.underlying9 (s := ⟨#[88, 56, 54, 45, 54, 52]⟩) (by decide))
  have b8 := grown_below b7 (Nat.le_refl _) g8
  obtain ⟨u9, r9, m9, g9⟩ := m8.update law22 Tryd.underlying26 (by decide) (keyOf_int_mk Tryd.underlying22 (a := 183) (by decide)) (plainElem_string Tryd.underlying9 (s := ⟨#[65, 65, 114, 99, 104, 54, 52]⟩) (by decide))
  have b9 := grown_below b8 (Nat.le_refl _) g9
  obtain ⟨u10, r10, m10, g10⟩ := m9.update law22 Tryd.underlying26 (by decide) (keyOf_int_mk Tryd.underlying22 (a := 243) (by decide)) (plainElem_string Tryd.underlying9 (s := ⟨#[82, 73, 83, 67, 45, 86]⟩) (by decide))
  have b10 := grown_below b9 (Nat.le_refl _) g10
  obtain ⟨u11, r11, m11, g11⟩ := m10.update law22 Tryd.underlying26 (by decide) (keyOf_int_mk Tryd.underlying22 (a := 258) (by decide)) (plainElem_string Tryd.underlying9 (s := ⟨#[76, 111, 111, 110, 103, 65, 114, 99, 104]⟩) (by decide))
  have b11 := grown_below b10 (Nat.le_refl _) g11
  exact ⟨u1, u2, u3, u4, u5, u6, u7, u8, u9, u10, u11, r1, r2, r3, r4, r5, r6, r7, r8, r9, r10, r11, m11, b11⟩
theorem key_ne {a b : Int} (h : a ≠ b) : Lit.int .u64 a ≠ Lit.int .u64 b := fun e => h (by simpa using e)
theorem known_out (a : Nat) (h : ∀ j, j < 11 → numM j ≠ a) : Maps.has knownD11 (.int .u64 (a : Int)) = false := by
  rw [knownD11, Maps.has_put_other (key_ne (by have := h 10 (by omega); have e : numM 10 = 258 := rfl; omega))]
  rw [knownD10, Maps.has_put_other (key_ne (by have := h 9 (by omega); have e : numM 9 = 243 := rfl; omega))]
  rw [knownD9, Maps.has_put_other (key_ne (by have := h 8 (by omega); have e : numM 8 = 183 := rfl; omega))]
  rw [knownD8, Maps.has_put_other (key_ne (by have := h 7 (by omega); have e : numM 7 = 62 := rfl; omega))]
  rw [knownD7, Maps.has_put_other (key_ne (by have := h 6 (by omega); have e : numM 6 = 40 := rfl; omega))]
  rw [knownD6, Maps.has_put_other (key_ne (by have := h 5 (by omega); have e : numM 5 = 22 := rfl; omega))]
  rw [knownD5, Maps.has_put_other (key_ne (by have := h 4 (by omega); have e : numM 4 = 21 := rfl; omega))]
  rw [knownD4, Maps.has_put_other (key_ne (by have := h 3 (by omega); have e : numM 3 = 20 := rfl; omega))]
  rw [knownD3, Maps.has_put_other (key_ne (by have := h 2 (by omega); have e : numM 2 = 8 := rfl; omega))]
  rw [knownD2, Maps.has_put_other (key_ne (by have := h 1 (by omega); have e : numM 1 = 3 := rfl; omega))]
  rw [knownD1, Maps.has_put_other (key_ne (by have := h 0 (by omega); have e : numM 0 = 0 := rfl; omega))]
  rfl
theorem known_in0 : Maps.has knownD11 (.int .u64 0) = true ∧ knownD11.atKey (.int .u64 0) (.lit (.string [])) = .lit (.string [110, 111, 110, 101]) := ⟨by kernel_rfl, by kernel_rfl⟩
theorem known_in1 : Maps.has knownD11 (.int .u64 3) = true ∧ knownD11.atKey (.int .u64 3) (.lit (.string [])) = .lit (.string [51, 56, 54]) := ⟨by kernel_rfl, by kernel_rfl⟩
theorem known_in2 : Maps.has knownD11 (.int .u64 8) = true ∧ knownD11.atKey (.int .u64 8) (.lit (.string [])) = .lit (.string [77, 73, 80, 83]) := ⟨by kernel_rfl, by kernel_rfl⟩
theorem known_in3 : Maps.has knownD11 (.int .u64 20) = true ∧ knownD11.atKey (.int .u64 20) (.lit (.string [])) = .lit (.string [80, 111, 119, 101, 114, 80, 67]) := ⟨by kernel_rfl, by kernel_rfl⟩
theorem known_in4 : Maps.has knownD11 (.int .u64 21) = true ∧ knownD11.atKey (.int .u64 21) (.lit (.string [])) = .lit (.string [80, 111, 119, 101, 114, 80, 67, 54, 52]) := ⟨by kernel_rfl, by kernel_rfl⟩
theorem known_in5 : Maps.has knownD11 (.int .u64 22) = true ∧ knownD11.atKey (.int .u64 22) (.lit (.string [])) = .lit (.string [83, 51, 57, 48]) := ⟨by kernel_rfl, by kernel_rfl⟩
theorem known_in6 : Maps.has knownD11 (.int .u64 40) = true ∧ knownD11.atKey (.int .u64 40) (.lit (.string [])) = .lit (.string [65, 82, 77]) := ⟨by kernel_rfl, by kernel_rfl⟩
theorem known_in7 : Maps.has knownD11 (.int .u64 62) = true ∧ knownD11.atKey (.int .u64 62) (.lit (.string [])) = .lit (.string [88, 56, 54, 45, 54, 52]) := ⟨by kernel_rfl, by kernel_rfl⟩
theorem known_in8 : Maps.has knownD11 (.int .u64 183) = true ∧ knownD11.atKey (.int .u64 183) (.lit (.string [])) = .lit (.string [65, 65, 114, 99, 104, 54, 52]) := ⟨by kernel_rfl, by kernel_rfl⟩
theorem known_in9 : Maps.has knownD11 (.int .u64 243) = true ∧ knownD11.atKey (.int .u64 243) (.lit (.string [])) = .lit (.string [82, 73, 83, 67, 45, 86]) := ⟨by kernel_rfl, by kernel_rfl⟩
theorem known_in10 : Maps.has knownD11 (.int .u64 258) = true ∧ knownD11.atKey (.int .u64 258) (.lit (.string [])) = .lit (.string [76, 111, 111, 110, 103, 65, 114, 99, 104]) := ⟨by kernel_rfl, by kernel_rfl⟩
theorem known_in (k : Nat) (hk : k < 11) : Maps.has knownD11 (.int .u64 (numM k : Int)) = true ∧ knownD11.atKey (.int .u64 (numM k : Int)) (.lit (.string [])) = .lit (.string (machTab.getD k (0, [])).2) := by
  match k, hk with
  | 0, _ => exact known_in0
  | 1, _ => exact known_in1
  | 2, _ => exact known_in2
  | 3, _ => exact known_in3
  | 4, _ => exact known_in4
  | 5, _ => exact known_in5
  | 6, _ => exact known_in6
  | 7, _ => exact known_in7
  | 8, _ => exact known_in8
  | 9, _ => exact known_in9
  | 10, _ => exact known_in10
end Go.Proofs.YtkajgakblcgocaaDoor
