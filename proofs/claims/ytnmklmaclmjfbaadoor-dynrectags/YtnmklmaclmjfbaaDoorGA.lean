/- Plain mathematics: numbers in hexadecimal digits, and names of numbers by a table. No Go here. -/
namespace Go.Proofs.YtnmklmaclmjfbaaDoor
namespace Hex
def digs : List UInt8 := [48, 49, 50, 51, 52, 53, 54, 55, 56, 57, 97, 98, 99, 100, 101, 102, 103, 104, 105, 106, 107, 108, 109, 110, 111, 112, 113, 114, 115, 116, 117, 118, 119, 120, 121, 122]
def hexD (d : Nat) : UInt8 := digs.getD d 0
/-- The k lowest digits, highest first. -/
def lowD (n : Nat) : Nat → List UInt8
  | 0 => []
  | k + 1 => hexD (n / 16 ^ k % 16) :: lowD n k
theorem lowD_length (n k : Nat) : (lowD n k).length = k := by
  induction k with
  | zero => rfl
  | succ k ih => simp [lowD, ih]
def hexF : Nat → Nat → List UInt8
  | 0, n => [hexD n]
  | f + 1, n => if n < 16 then [hexD n] else hexF f (n / 16) ++ [hexD (n % 16)]
/-- The digits of a number of 64 bits. -/
def hexL (n : Nat) : List UInt8 := hexF 15 n
theorem hexF_small (f u : Nat) (h : u < 16) : hexF f u = [hexD u] := by
  cases f with
  | zero => rfl
  | succ f => simp [hexF, h]
theorem hexL_inv (n k : Nat) (hk : k ≤ 15) (h : ∀ j, j < k → 16 ≤ n / 16 ^ j) : hexL n = hexF (15 - k) (n / 16 ^ k) ++ lowD n k := by
  induction k with
  | zero => simp [hexL, lowD]
  | succ k ih =>
    rw [ih (by omega) (fun j hj => h j (by omega))]
    have hk' := h k (by omega)
    obtain ⟨f, hf⟩ : ∃ f, 15 - k = f + 1 := ⟨14 - k, by omega⟩
    rw [hf, show 15 - (k + 1) = f by omega, hexF, if_neg (by omega), lowD, Nat.pow_succ, ← Nat.div_div_eq_div_mul]
    simp
theorem hexL_end (n k : Nat) (hk : k ≤ 15) (h : ∀ j, j < k → 16 ≤ n / 16 ^ j) (hu : n / 16 ^ k < 16) : hexL n = hexD (n / 16 ^ k) :: lowD n k := by
  rw [hexL_inv n k hk h, hexF_small _ _ hu]; rfl
theorem div15 (n k : Nat) (hn : n < 2 ^ 64) (hu : 16 ≤ n / 16 ^ k) : k < 15 := by
  apply Classical.byContradiction
  intro hk
  have h1 : 16 ^ 15 ≤ 16 ^ k := Nat.pow_le_pow_right (by decide) (by omega)
  have h2 : n / 16 ^ k ≤ n / 16 ^ 15 := Nat.div_le_div_left h1 (by decide)
  have h3 : n / 16 ^ 15 < 16 := by
    rw [Nat.div_lt_iff_lt_mul (by decide)]
    have : (16 : Nat) * 16 ^ 15 = 2 ^ 64 := by decide
    omega
  omega
def unD (c : UInt8) : Nat := digs.idxOf c
theorem unD_hexD (d : Nat) (h : d < 16) : unD (hexD d) = d := by
  have : ∀ d : Fin 16, unD (hexD d.1) = d.1 := by decide
  exact this ⟨d, h⟩
def valH (l : List UInt8) : Nat := l.foldl (fun a c => 16 * a + unD c) 0
theorem valH_snoc (l : List UInt8) (c : UInt8) : valH (l ++ [c]) = 16 * valH l + unD c := by simp [valH]
theorem valH_hexF (f n : Nat) (h : n < 16 ^ (f + 1)) : valH (hexF f n) = n := by
  induction f generalizing n with
  | zero =>
    have : n < 16 := by simpa using h
    simp [hexF, valH, unD_hexD n this]
  | succ f ih =>
    by_cases hs : n < 16
    · rw [hexF_small _ _ hs]; simp [valH, unD_hexD n hs]
    · rw [hexF, if_neg hs, valH_snoc, ih (n / 16) (by rw [Nat.div_lt_iff_lt_mul (by decide)]; rw [Nat.pow_succ] at h; exact h), unD_hexD _ (Nat.mod_lt _ (by decide))]
      omega
theorem hexL_inj (a b : Nat) (ha : a < 2 ^ 64) (hb : b < 2 ^ 64) (h : hexL a = hexL b) : a = b := by
  have e : (2 : Nat) ^ 64 = 16 ^ (15 + 1) := by decide
  rw [← valH_hexF 15 a (by omega), ← valH_hexF 15 b (by omega)]
  show valH (hexL a) = valH (hexL b)
  rw [h]
theorem hexF_len (f n : Nat) : 1 ≤ (hexF f n).length ∧ (hexF f n).length ≤ f + 1 := by
  induction f generalizing n with
  | zero => simp [hexF]
  | succ f ih =>
    unfold hexF
    split
    · simp
    · have := ih (n / 16); simp; omega
theorem hexL_len (n : Nat) : 1 ≤ (hexL n).length ∧ (hexL n).length ≤ 16 := hexF_len 15 n
/-- A number's name: the table's, or its digits. -/
def look (tab : List (Nat × List UInt8)) (n : Nat) : List UInt8 := ((tab.find? fun p => p.1 == n).map (·.2)).getD (48 :: 120 :: hexL n)
def tabOk (tab : List (Nat × List UInt8)) : Bool := tab.all fun p => p.2.head? != some 48 && tab.all fun q => p.2 != q.2 || p.1 == q.1
theorem look_some {tab : List (Nat × List UInt8)} {n : Nat} {p : Nat × List UInt8} (h : tab.find? (fun p => p.1 == n) = some p) : look tab n = p.2 := by simp [look, h]
theorem look_none {tab : List (Nat × List UInt8)} {n : Nat} (h : tab.find? (fun p => p.1 == n) = none) : look tab n = 48 :: 120 :: hexL n := by simp [look, h]
theorem look_inj (tab : List (Nat × List UInt8)) (ok : tabOk tab = true) (a b : Nat) (ha : a < 2 ^ 64) (hb : b < 2 ^ 64) (h : look tab a = look tab b) : a = b := by
  have hall := List.all_eq_true.1 ok
  cases ea : tab.find? (fun p => p.1 == a) with
  | none =>
    rw [look_none ea] at h
    cases eb : tab.find? (fun p => p.1 == b) with
    | none =>
      rw [look_none eb] at h
      simp only [List.cons.injEq, true_and] at h
      exact hexL_inj a b ha hb h
    | some q =>
      rw [look_some eb] at h
      have hq := hall q (List.mem_of_find?_eq_some eb)
      rw [← h] at hq
      simp at hq
  | some p =>
    rw [look_some ea] at h
    have hp := hall p (List.mem_of_find?_eq_some ea)
    cases eb : tab.find? (fun p => p.1 == b) with
    | none =>
      rw [look_none eb] at h
      rw [h] at hp
      simp at hp
    | some q =>
      rw [look_some eb] at h
      have hpa : p.1 = a := by simpa using List.find?_some ea
      have hqb : q.1 = b := by simpa using List.find?_some eb
      simp only [Bool.and_eq_true] at hp
      have h2 := List.all_eq_true.1 hp.2 q (List.mem_of_find?_eq_some eb)
      rw [h] at h2
      simp at h2
      omega
theorem look_beq (tab : List (Nat × List UInt8)) (ok : tabOk tab = true) (a b : Nat) (ha : a < 2 ^ 64) (hb : b < 2 ^ 64) : (look tab a == look tab b) = ((a : Int) == (b : Int)) := by
  rw [Bool.eq_iff_iff, beq_iff_eq, beq_iff_eq]
  constructor
  · intro h; rw [look_inj tab ok a b ha hb h]
  · intro h; rw [show a = b by omega]
end Hex
end Go.Proofs.YtnmklmaclmjfbaaDoor
