/- Plain mathematics: the three letters of a segment's flags, and the number of those that have none. No Go here but restL. -/
import Derived.Test.YtmbndepgkglaeaaDoorHB
namespace Go.Proofs.YtmbndepgkglaeaaDoor
namespace Let
/-- The letter at place k, which stands for bit 2 - k. -/
def ch (k : Nat) : UInt8 := ([82, 87, 88] : List UInt8).getD k 0
/-- The number without the bits of the first k places. -/
def rem (n : Nat) : Nat → Nat
  | 0 => n
  | k + 1 => rem n k &&& (2 ^ 64 - (2 ^ (2 - k) + 1))
theorem rem_le (n k : Nat) : rem n k ≤ n := by
  induction k with
  | zero => exact Nat.le_refl _
  | succ k ih => exact Nat.le_trans Nat.and_le_left ih
theorem rem_bit (n k i : Nat) (hk : k ≤ 3) (hi : i < 64) : (rem n k).testBit i = (n.testBit i && !(decide (3 - k ≤ i) && decide (i < 3))) := by
  induction k with
  | zero =>
    have e : (decide (3 - 0 ≤ i) && decide (i < 3)) = false := by simp
    rw [e]; simp [rem]
  | succ k ih =>
    have ih := ih (by omega)
    have hp : 2 ^ (2 - k) < 2 ^ 64 := Nat.pow_lt_pow_right (by decide) (by omega)
    rw [rem, Nat.testBit_and, ih, Nat.testBit_two_pow_sub_succ hp, Nat.testBit_two_pow]
    by_cases he : 2 - k = i
    · have e : (decide (3 - (k + 1) ≤ i) && decide (i < 3)) = true := by simp; omega
      rw [e]; simp [he]
    · have e : (decide (3 - (k + 1) ≤ i) && decide (i < 3)) = (decide (3 - k ≤ i) && decide (i < 3)) := by rw [Bool.eq_iff_iff]; simp; omega
      rw [e]; simp [he, hi]
/-- The letter at place j when the first k places are done. -/
def cell (n k j : Nat) : UInt8 := if decide (j < k) && !n.testBit (2 - j) then 45 else ch j
def text (n : Nat) : List UInt8 := [cell n 3 0, cell n 3 1, cell n 3 2] ++ restL (rem n 3)
theorem rest_inj (a b : Nat) (ha : a < 2 ^ 64) (hb : b < 2 ^ 64) (h : restL a = restL b) : a = b := by
  unfold restL at h
  by_cases h0 : a = 0 <;> by_cases h1 : b = 0
  · omega
  · simp [h0, h1] at h
  · simp [h0, h1] at h
  · simp [h0, h1] at h
    exact Hex.hexL_inj a b ha hb h
theorem big_bit (a i : Nat) (ha : a < 2 ^ 64) (hi : 64 ≤ i) : a.testBit i = false := Nat.testBit_lt_two_pow (Nat.lt_of_lt_of_le ha (Nat.pow_le_pow_right (by decide) hi))
theorem cell_inj (a b j : Nat) (hj : j < 3) (h : cell a 3 j = cell b 3 j) : a.testBit (2 - j) = b.testBit (2 - j) := by
  unfold cell at h
  have hd : decide (j < 3) = true := by simpa using hj
  rw [hd, Bool.true_and, Bool.true_and] at h
  have hc : (45 : UInt8) ≠ ch j := by
    have : ∀ j : Fin 3, (45 : UInt8) ≠ ch j.1 := by decide
    exact this ⟨j, hj⟩
  cases ha : a.testBit (2 - j) <;> cases hb : b.testBit (2 - j) <;> rw [ha, hb] at h
  · exact absurd h hc
  · exact absurd h.symm hc
theorem text_inj (a b : Nat) (ha : a < 2 ^ 64) (hb : b < 2 ^ 64) (h : text a = text b) : a = b := by
  unfold text at h
  simp only [List.cons_append, List.nil_append, List.cons.injEq] at h
  obtain ⟨h0, h1, h2, hr⟩ := h
  have hr := rest_inj _ _ (Nat.lt_of_le_of_lt (rem_le a 3) ha) (Nat.lt_of_le_of_lt (rem_le b 3) hb) hr
  apply Nat.eq_of_testBit_eq
  intro i
  by_cases h64 : i < 64
  · by_cases hi : i < 3
    · match i, hi with
      | 0, _ => exact cell_inj a b 2 (by decide) h2
      | 1, _ => exact cell_inj a b 1 (by decide) h1
      | 2, _ => exact cell_inj a b 0 (by decide) h0
    · have e1 := rem_bit a 3 i (by omega) h64
      have e2 := rem_bit b 3 i (by omega) h64
      have hf : (decide (3 - 3 ≤ i) && decide (i < 3)) = false := by simp; omega
      rw [hf] at e1 e2
      simp at e1 e2
      rw [← e1, ← e2, hr]
  · rw [big_bit a i ha (by omega), big_bit b i hb (by omega)]
theorem text_beq (a b : Nat) (ha : a < 2 ^ 64) (hb : b < 2 ^ 64) : (text a == text b) = ((a : Int) == (b : Int)) := by
  rw [Bool.eq_iff_iff, beq_iff_eq, beq_iff_eq]
  constructor
  · intro h; rw [text_inj a b ha hb h]
  · intro h; rw [show a = b by omega]
theorem rem_zero (a : Nat) (ha : a < 2 ^ 64) : rem a 3 = 0 ↔ a < 8 := by
  constructor
  · intro h
    show a < 2 ^ 3
    apply Nat.lt_pow_two_of_testBit
    intro i hi
    by_cases h64 : i < 64
    · have e := rem_bit a 3 i (by omega) h64
      have hf : (decide (3 - 3 ≤ i) && decide (i < 3)) = false := by simp; omega
      rw [h, hf] at e
      simpa using e.symm
    · exact big_bit a i ha (by omega)
  · intro h1
    apply Nat.eq_of_testBit_eq
    intro i
    rw [Nat.zero_testBit]
    by_cases h64 : i < 64
    · rw [rem_bit a 3 i (by omega) h64]
      by_cases h3 : i < 3
      · simp [h3]
      · have : a.testBit i = false := Nat.testBit_lt_two_pow (Nat.lt_of_lt_of_le (show a < 2 ^ 3 by omega) (Nat.pow_le_pow_right (by decide) (by omega)))
        rw [this]; rfl
    · exact big_bit _ i (Nat.lt_of_le_of_lt (rem_le a 3) ha) (by omega)
theorem rest_len (m : Nat) : (restL m).length = 0 ↔ m = 0 := by unfold restL; by_cases h0 : m = 0 <;> simp [h0]
theorem text_len (a : Nat) (ha : a < 2 ^ 64) : 3 ≤ (text a).length ∧ (3 < (text a).length ↔ 7 < a) ∧ (text a).length ≤ 40 := by
  have h1 := rest_len (rem a 3)
  have h2 := rem_zero a ha
  have h3 : (restL (rem a 3)).length ≤ 20 := by
    unfold restL
    have := (Hex.hexL_len (rem a 3)).2
    split <;> simp <;> omega
  have h4 : (text a).length = 3 + (restL (rem a 3)).length := by simp [text]; omega
  omega
end Let
end Go.Proofs.YtmbndepgkglaeaaDoor
