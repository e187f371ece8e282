/- Plain mathematics: the letters of flags, and the number of those that have none. No Go here but restL. -/
import Derived.Test.YtkajgakblcgocaaDoorHY
namespace Go.Proofs.YtkajgakblcgocaaDoor
namespace Flag
def ch (i : Nat) : UInt8 := ([87, 65, 88, 32, 77, 83, 73, 76, 79, 71, 84, 67] : List UInt8).getD i 0
def cond (n i : Nat) : Bool := n.testBit i && i != 3
/-- The letters of the first k bits. -/
def letL (n k : Nat) : List UInt8 := ((List.range k).filter (cond n)).map ch
theorem letL_succ (n k : Nat) : letL n (k + 1) = letL n k ++ (if cond n k then [ch k] else []) := by
  unfold letL
  rw [List.range_succ, List.filter_append, List.map_append]
  congr 1
  by_cases h : cond n k = true
  · simp [h]
  · simp [h]
theorem letL_len (n k : Nat) : (letL n k).length ≤ k := by
  unfold letL
  rw [List.length_map]
  have := List.length_filter_le (cond n) (List.range k)
  simpa using this
/-- The number without the bits below k that have a letter. -/
def rem (n : Nat) : Nat → Nat
  | 0 => n
  | k + 1 => if cond n k then rem n k &&& (2 ^ 64 - (2 ^ k + 1)) else rem n k
theorem rem_le (n k : Nat) : rem n k ≤ n := by
  induction k with
  | zero => exact Nat.le_refl _
  | succ k ih =>
    unfold rem
    split
    · exact Nat.le_trans Nat.and_le_left ih
    · exact ih
theorem rem_bit (n k i : Nat) (hk : k ≤ 12) (hi : i < 64) : (rem n k).testBit i = (n.testBit i && !(decide (i < k) && i != 3)) := by
  induction k with
  | zero => simp [rem]
  | succ k ih =>
    have ih := ih (by omega)
    have hp : 2 ^ k < 2 ^ 64 := Nat.pow_lt_pow_right (by decide) (by omega)
    by_cases hc : cond n k = true
    · rw [rem, if_pos hc, Nat.testBit_and, ih, Nat.testBit_two_pow_sub_succ hp, Nat.testBit_two_pow]
      have hk3 : k ≠ 3 := by unfold cond at hc; simp at hc; exact hc.2
      by_cases he : k = i
      · subst he; simp [hi, hk3]
      · have e1 : decide (i < k + 1) = decide (i < k) := by rw [Bool.eq_iff_iff]; simp; omega
        rw [e1]
        simp [he, hi]
    · rw [rem, if_neg hc, ih]
      by_cases he : i = k
      · subst he
        have hc' : cond n i = false := by simpa using hc
        unfold cond at hc'
        cases hb : n.testBit i
        · simp
        · rw [hb] at hc'
          simp at hc'
          subst hc'
          simp
      · have e1 : decide (i < k + 1) = decide (i < k) := by rw [Bool.eq_iff_iff]; simp; omega
        rw [e1]
theorem ch_inj (i j : Nat) (hi : i < 12) (hj : j < 12) (h : ch i = ch j) : i = j := by
  have : ∀ i j : Fin 12, ch i.1 = ch j.1 → i.1 = j.1 := by decide
  exact this ⟨i, hi⟩ ⟨j, hj⟩ h
theorem ch_plus (i : Nat) (hi : i < 12) : ch i ≠ 43 := by
  have : ∀ i : Fin 12, ch i.1 ≠ 43 := by decide
  exact this ⟨i, hi⟩
theorem mem_letL (n i : Nat) (hi : i < 12) : ch i ∈ letL n 12 ↔ cond n i = true := by
  unfold letL
  simp only [List.mem_map, List.mem_filter, List.mem_range]
  constructor
  · rintro ⟨j, ⟨hj, hc⟩, he⟩
    rw [ch_inj j i hj hi he] at hc
    exact hc
  · intro h; exact ⟨i, ⟨hi, h⟩, rfl⟩
theorem no_plus (n : Nat) : ∀ c ∈ letL n 12, (c != 43) = true := by
  intro c hc
  unfold letL at hc
  simp only [List.mem_map, List.mem_filter, List.mem_range] at hc
  obtain ⟨j, ⟨hj, _⟩, rfl⟩ := hc
  simpa using ch_plus j hj
/-- The text of flags. -/
def text (n : Nat) : List UInt8 := letL n 12 ++ restL (rem n 12)
theorem take_text (n : Nat) : (text n).takeWhile (· != 43) = letL n 12 := by
  unfold text
  rw [List.takeWhile_append_of_pos (no_plus n)]
  unfold restL
  split <;> simp
theorem rest_inj (a b : Nat) (ha : a < 2 ^ 64) (hb : b < 2 ^ 64) (h : restL a = restL b) : a = b := by
  unfold restL at h
  by_cases h0 : a = 0 <;> by_cases h1 : b = 0
  · omega
  · simp [h0, h1] at h
  · simp [h0, h1] at h
  · simp [h0, h1] at h
    exact Hex.hexL_inj a b ha hb h
theorem big_bit (a i : Nat) (ha : a < 2 ^ 64) (hi : 64 ≤ i) : a.testBit i = false := Nat.testBit_lt_two_pow (Nat.lt_of_lt_of_le ha (Nat.pow_le_pow_right (by decide) hi))
theorem text_inj (a b : Nat) (ha : a < 2 ^ 64) (hb : b < 2 ^ 64) (h : text a = text b) : a = b := by
  have hl : letL a 12 = letL b 12 := by rw [← take_text a, ← take_text b, h]
  have hr : rem a 12 = rem b 12 := by
    unfold text at h
    rw [hl] at h
    exact rest_inj _ _ (Nat.lt_of_le_of_lt (rem_le a 12) ha) (Nat.lt_of_le_of_lt (rem_le b 12) hb) (List.append_cancel_left h)
  apply Nat.eq_of_testBit_eq
  intro i
  by_cases h64 : i < 64
  · by_cases hi : i < 12 ∧ i ≠ 3
    · have e1 := mem_letL a i hi.1
      have e2 := mem_letL b i hi.1
      rw [hl] at e1
      have e3 : cond a i = cond b i := by rw [Bool.eq_iff_iff]; exact e1.symm.trans e2
      unfold cond at e3
      have h3 : (i != 3) = true := by simpa using hi.2
      rw [h3, Bool.and_true, Bool.and_true] at e3
      exact e3
    · have e1 := rem_bit a 12 i (by omega) h64
      have e2 := rem_bit b 12 i (by omega) h64
      have hf : (decide (i < 12) && i != 3) = false := by
        by_cases h12 : i < 12
        · have : i = 3 := Classical.byContradiction fun h3 => hi ⟨h12, h3⟩
          simp [this]
        · simp [h12]
      rw [hf] at e1 e2
      simp at e1 e2
      rw [← e1, ← e2, hr]
  · rw [big_bit a i ha (by omega), big_bit b i hb (by omega)]
theorem text_beq (a b : Nat) (ha : a < 2 ^ 64) (hb : b < 2 ^ 64) : (text a == text b) = ((a : Int) == (b : Int)) := by
  rw [Bool.eq_iff_iff, beq_iff_eq, beq_iff_eq]
  constructor
  · intro h; rw [text_inj a b ha hb h]
  · intro h; rw [show a = b by omega]
theorem bit3 (a : Nat) : a.testBit 3 = decide (a / 8 % 2 = 1) := by rw [Nat.testBit_eq_decide_div_mod_eq]
theorem rem_zero (a : Nat) (ha : a < 2 ^ 64) : rem a 12 = 0 ↔ a / 4096 = 0 ∧ a / 8 % 2 = 0 := by
  constructor
  · intro h
    have hb : ∀ i, i < 64 → (decide (i < 12) && i != 3) = false → a.testBit i = false := fun i hi hf => by
      have e := rem_bit a 12 i (by omega) hi
      rw [h, hf] at e
      simpa using e.symm
    constructor
    · have hlt : a < 2 ^ 12 := by
        apply Nat.lt_pow_two_of_testBit
        intro i hi
        by_cases h64 : i < 64
        · exact hb i h64 (by simp; omega)
        · exact big_bit a i ha (by omega)
      omega
    · have := hb 3 (by decide) (by decide)
      rw [bit3] at this
      simp at this
      omega
  · rintro ⟨h1, h2⟩
    apply Nat.eq_of_testBit_eq
    intro i
    rw [Nat.zero_testBit]
    by_cases h64 : i < 64
    · rw [rem_bit a 12 i (by omega) h64]
      by_cases h12 : i < 12
      · by_cases h3 : i = 3
        · subst h3
          rw [bit3]
          simp; omega
        · simp [h12, h3]
      · have : a.testBit i = false := Nat.testBit_lt_two_pow (Nat.lt_of_lt_of_le (show a < 2 ^ 12 by omega) (Nat.pow_le_pow_right (by decide) (by omega)))
        rw [this]; rfl
    · exact big_bit _ i (Nat.lt_of_le_of_lt (rem_le a 12) ha) (by omega)
end Flag
end Go.Proofs.YtkajgakblcgocaaDoor
