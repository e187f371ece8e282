/- Plain mathematics: the tails of sorted names. No Go here. -/
import Derived.Test.YtddlflabdlgnbaaUA
namespace Go.Proofs.Ytddlflabdlgnbaa
open Go.RowKit Go.Sort
/-- The name at a place. -/
def nth (S : List (List UInt8)) (i : Nat) : List UInt8 := S.getD i []
/-- From t on down the chain T to the first name with which x ends. -/
def climb (S : List (List UInt8)) (T : List Int) (x : List UInt8) : Nat → Int → Int
  | 0, t => t
  | f + 1, t => if t < 0 then t else if (nth S t.toNat).reverse.isPrefixOf x.reverse then t else climb S T x f (T.getD t.toNat (-1))
/-- The tails of the first k names. -/
def tails (S : List (List UInt8)) : Nat → List Int
  | 0 => []
  | k + 1 => tails S k ++ [climb S (tails S k) (nth S k) (k + 1) ((k : Int) - 1)]
theorem tails_succ (S : List (List UInt8)) (k : Nat) : tails S (k + 1) = tails S k ++ [climb S (tails S k) (nth S k) (k + 1) ((k : Int) - 1)] := rfl
theorem tails_length (S : List (List UInt8)) (k : Nat) : (tails S k).length = k := by
  induction k with
  | zero => rfl
  | succ k ih => simp [tails, ih]
theorem climb_bd (S : List (List UInt8)) (T : List Int) (x : List UInt8) (hT : ∀ j, j < T.length → -1 ≤ T.getD j 0 ∧ T.getD j 0 < j) : ∀ (f : Nat) (t : Int), -1 ≤ t → t < T.length → -1 ≤ climb S T x f t ∧ climb S T x f t ≤ t
  | 0, t, h, _ => ⟨h, Int.le_refl _⟩
  | f + 1, t, h, hl => by
    unfold climb
    split
    · exact ⟨h, Int.le_refl _⟩
    · split
      · exact ⟨h, Int.le_refl _⟩
      · have ht : t.toNat < T.length := by omega
        have h1 := hT t.toNat ht
        have e : T.getD t.toNat (-1) = T.getD t.toNat 0 := by simp [List.getD, ht]
        have := climb_bd S T x hT f (T.getD t.toNat (-1)) (by rw [e]; exact h1.1) (by rw [e]; omega)
        rw [e] at this ⊢
        omega
theorem tails_bd (S : List (List UInt8)) (k : Nat) : ∀ j, j < k → -1 ≤ (tails S k).getD j 0 ∧ (tails S k).getD j 0 < j := by
  induction k with
  | zero => intro j hj; omega
  | succ k ih =>
    intro j hj
    have hl := tails_length S k
    rw [tails_succ]
    by_cases h : j < k
    · rw [List.getD_eq_getElem?_getD, List.getElem?_append_left (by omega), ← List.getD_eq_getElem?_getD]
      exact ih j h
    · obtain rfl : j = k := by omega
      rw [List.getD_eq_getElem?_getD, List.getElem?_append_right (by omega), hl, Nat.sub_self]
      have := climb_bd S (tails S j) (nth S j) (fun i hi => ih i (by omega)) (j + 1) ((j : Int) - 1) (by omega) (by omega)
      simp only [List.getElem?_cons_zero, Option.getD_some]
      omega
/-- The entries when the tails of the first k are known. -/
def entsK (S : List (List UInt8)) (L : List UInt8 → Int) (k : Nat) : List Ent := (List.range S.length).map fun i => ⟨nth S i, L (nth S i), 0, (tails S k).getD i 0⟩
theorem entsK_length (S : List (List UInt8)) (L : List UInt8 → Int) (k : Nat) : (entsK S L k).length = S.length := by simp [entsK]
theorem entsK_at (S : List (List UInt8)) (L : List UInt8 → Int) (k i : Nat) (h : i < (entsK S L k).length) : (entsK S L k)[i] = ⟨nth S i, L (nth S i), 0, (tails S k).getD i 0⟩ := by simp [entsK]
theorem tails_old (S : List (List UInt8)) (k i : Nat) (h : i < k) : (tails S (k + 1)).getD i 0 = (tails S k).getD i 0 := by
  have hl := tails_length S k
  rw [tails_succ]
  rw [List.getD_eq_getElem?_getD, List.getElem?_append_left (by omega), ← List.getD_eq_getElem?_getD]
theorem tails_new (S : List (List UInt8)) (k : Nat) : (tails S (k + 1)).getD k 0 = climb S (tails S k) (nth S k) (k + 1) ((k : Int) - 1) := by
  have hl := tails_length S k
  rw [tails_succ]
  rw [List.getD_eq_getElem?_getD, List.getElem?_append_right (by omega), hl, Nat.sub_self]
  rfl
theorem tails_beyond (S : List (List UInt8)) (k i : Nat) (h : k ≤ i) : (tails S k).getD i 0 = 0 := by
  have hl := tails_length S k
  rw [List.getD_eq_getElem?_getD, List.getElem?_eq_none (by omega)]
  rfl
theorem entsK_succ (S : List (List UInt8)) (L : List UInt8 → Int) (k : Nat) (t : Int) (ht : t = climb S (tails S k) (nth S k) (k + 1) ((k : Int) - 1)) :
    (entsK S L k).set k ⟨nth S k, L (nth S k), 0, t⟩ = entsK S L (k + 1) := by
  apply List.ext_getElem
  · simp [entsK]
  · intro i h1 h2
    rw [entsK_at, List.getElem_set]
    by_cases h : k = i
    · subst h
      rw [if_pos rfl, tails_new, ht]
    · rw [if_neg h, entsK_at]
      congr 1
      by_cases hlt : i < k
      · rw [tails_old S k i hlt]
      · rw [tails_beyond S k i (by omega), tails_beyond S (k + 1) i (by omega)]
/-- An entry before its tail is known. -/
def ent0 (L : List UInt8 → Int) (x : List UInt8) : Ent := ⟨x, L x, 0, 0⟩
theorem entsK_zero (S : List (List UInt8)) (L : List UInt8 → Int) : entsK S L 0 = S.map (ent0 L) := by
  apply List.ext_getElem
  · simp [entsK]
  · intro i h1 h2
    rw [entsK_at]
    have hi : i < S.length := by simpa [entsK] using h1
    simp [ent0, tails, nth, List.getD, hi]
end Go.Proofs.Ytddlflabdlgnbaa
