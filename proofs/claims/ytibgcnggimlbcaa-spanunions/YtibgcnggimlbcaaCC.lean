/- Sets of small numbers in a map of bools, and how many bytes a list of spans has. Conditions: those written in each theorem. -/
import Derived.Maps.OwnSet
import Derived.Maps.OwnOps
import Derived.Test.YtibgcnggimlbcaaCB
namespace Go.Proofs.Ytibgcnggimlbcaa
open Go.RowKit Go.Shelf Go.Sort
namespace Spans
open Go.Maps (Keyed Tidy IsMap)
def key (b : Nat) : Lit := .int .u64 (b : Int)
def cnt (p : Nat → Bool) : Nat := (List.range 512).countP p
theorem countP_or (p : Nat → Bool) (b n : Nat) : (List.range n).countP (fun c => p c || c == b) = (List.range n).countP p + (if b < n ∧ p b = false then 1 else 0) := by
  induction n with
  | zero => simp
  | succ n ih =>
    rw [List.range_succ, List.countP_append, List.countP_append, ih, List.countP_singleton, List.countP_singleton]
    by_cases h : n = b
    · subst h
      cases hp : p n <;> simp
    · have e : (n == b) = false := by simpa using h
      rw [e, Bool.or_false]
      by_cases hb : b < n
      · have hb2 : b < n + 1 := by omega
        simp only [hb, hb2, true_and]; omega
      · have hb2 : ¬ b < n + 1 := by omega
        simp only [hb, hb2, false_and, if_false]; omega
theorem cnt_put (p : Nat → Bool) (b : Nat) (hb : b < 512) : cnt (fun c => p c || c == b) = if p b then cnt p else cnt p + 1 := by
  unfold cnt
  rw [countP_or]
  cases h : p b <;> simp [hb]
theorem countP_disj (l : List Nat) (p q : Nat → Bool) (h : ∀ b ∈ l, ¬ (p b = true ∧ q b = true)) : l.countP (fun b => p b || q b) = l.countP p + l.countP q := by
  induction l with
  | nil => rfl
  | cons a r ih =>
    have hh := h a (by simp)
    have ih' := ih (fun b hb => h b (by simp [hb]))
    simp only [List.countP_cons, ih']
    cases hp : p a <;> cases hq : q a <;> simp_all <;> omega
theorem countP_has (x y n : Nat) : (List.range n).countP (fun b => hasB (x, y) b) = min n (x + y) - min n x := by
  induction n with
  | zero => simp
  | succ n ih =>
    rw [List.range_succ, List.countP_append, ih, List.countP_singleton]
    by_cases h : hasB (x, y) n = true
    · have := (hasB_iff _ _).1 h
      unfold has at this
      simp only at this
      rw [if_pos h]; omega
    · have : ¬ has (x, y) n := fun hh => h ((hasB_iff _ _).2 hh)
      unfold has at this
      simp only at this
      rw [if_neg h]; omega
def covB (l : List Sp) (b : Nat) : Bool := l.any fun s => hasB s b
theorem covB_iff (l : List Sp) (b : Nat) : covB l b = true ↔ cov l b := by
  unfold covB cov
  rw [List.any_eq_true]
  constructor
  · rintro ⟨s, hs, h⟩; exact ⟨s, hs, (hasB_iff _ _).1 h⟩
  · rintro ⟨s, hs, h⟩; exact ⟨s, hs, (hasB_iff _ _).2 h⟩
def lens (l : List Sp) : Nat := (l.map (·.2)).sum
theorem cnt_canon (n : Nat) : ∀ (l : List Sp) (lo : Nat), Canon lo l → (∀ t ∈ l, t.1 + t.2 ≤ n) → (List.range n).countP (covB l) = lens l
  | [], _, _, _ => by
    have : covB [] = fun _ => false := by funext b; rfl
    rw [this]; simp [lens]
  | s :: r, lo, h, hb => by
    have e : covB (s :: r) = fun b => hasB (s.1, s.2) b || covB r b := by funext b; rfl
    rw [e, countP_disj, countP_has, cnt_canon n r _ h.2.2 (fun t ht => hb t (by simp [ht]))]
    · have := hb s (by simp)
      simp only [lens, List.map_cons, List.sum_cons]
      omega
    · rintro b _ ⟨h1, h2⟩
      have h3 := (hasB_iff _ _).1 h1
      have h4 := h.2.2.ge ((covB_iff _ _).1 h2)
      unfold has at h3
      simp only at h3
      omega
/-- A map of bools that is a set of numbers below 512. -/
structure SetD (D : DataW Unit) (p : Nat → Bool) : Prop where
  tidy : Tidy D
  has : ∀ b, Maps.has D (key b) = p b
  yes : ∀ b, p b = true → D.atKey (key b) (.lit (.bool false)) = .lit (.bool true)
  size : Maps.size D = cnt p
  small : ∀ b, p b = true → b < 512
theorem SetD.start : SetD (.map []) (fun _ => false) := ⟨Maps.tidy_empty, fun _ => rfl, fun _ h => by simp at h, by simp [Maps.size_eq, cnt], fun _ h => by simp at h⟩
theorem SetD.congr {D : DataW Unit} {p p' : Nat → Bool} (h : SetD D p) (he : ∀ b, p' b = p b) : SetD D p' := by
  have e : p' = p := funext he
  rw [e]; exact h
theorem key_ne {b c : Nat} (h : c ≠ b) : key c ≠ key b := fun e => by
  have e2 : (c : Int) = (b : Int) := by simpa [key] using e
  omega
theorem SetD.put {D : DataW Unit} {p : Nat → Bool} (h : SetD D p) (b : Nat) (hb : b < 512) : SetD (D.put (key b) (.lit (.bool true))) (fun c => p c || c == b) := by
  have hk : WideAt.IsKeyLit (key b) := by trivial
  refine ⟨h.tidy.put hk _, ?_, ?_, ?_, ?_⟩
  · intro c
    by_cases hc : c = b
    · subst hc; rw [Maps.has_put_same h.tidy.isMap hk]; simp
    · rw [Maps.has_put_other (key_ne hc), h.has]; simp [hc]
  · intro c hc
    by_cases hcb : c = b
    · subst hcb; exact Maps.atKey_put_same h.tidy.isMap hk _ _
    · rw [Maps.atKey_put_other (key_ne hcb)]; exact h.yes c (by simpa [hcb] using hc)
  · rw [Maps.size_put h.tidy, h.has, h.size, cnt_put p b hb]
  · intro c hc
    by_cases hcb : c = b
    · omega
    · exact h.small c (by simpa [hcb] using hc)
end Spans
/-- A look-up in a map of bools: some bool, of which it is said what it is in the datum. -/
theorem lookup_bool {P : Program} {w : World} {k e t : TypeId} {b n : Nat} {D : DataW Unit} (h : w.ownsMap P k (plainElem P e) b n D) (K : Maps.Keyed P k) (ht : P.underlying t = some (.map k e)) (he : P.underlying e = some .bool)
    (hz : (zeroValue e).run P w = .ok (.bool false) w) {kv : Value} {kl : Lit} (hkey : keyOf P k kv = some kl) :
    ∃ c, (Instr.lookup t (.map (some b)) kv false).run P w = .ok (.bool c) w ∧ D.atKey kl (.lit (.bool false)) = .lit (.bool c) := by
  obtain ⟨v, ps, hrun, hv⟩ := h.lookup K ht hz (plainElem_bool he false) hkey
  cases v <;> simp [plainElem, he] at hv
  rename_i c
  exact ⟨c, hrun, hv.1.symm⟩
end Go.Proofs.Ytibgcnggimlbcaa
