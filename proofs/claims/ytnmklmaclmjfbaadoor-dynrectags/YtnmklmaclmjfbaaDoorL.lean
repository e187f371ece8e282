/- What Record, the reference's Record and Fits answer, each in one contract. Conditions: those written in each theorem. -/
import Derived.Test.YtnmklmaclmjfbaaDoorK
namespace Go.Proofs.YtnmklmaclmjfbaaDoor
open Go.RowKit
theorem first_fail (p : Nat → Prop) (l : Nat) : (∀ k, k < l → p k) ∨ ∃ k0, k0 < l ∧ (∀ k, k < k0 → p k) ∧ ¬ p k0 := by
  induction l with
  | zero => exact Or.inl fun k hk => absurd hk (Nat.not_lt_zero k)
  | succ l ih =>
    rcases ih with h | ⟨k0, h1, h2, h3⟩
    · by_cases hp : p l
      · left
        intro k hk
        by_cases he : k = l
        · subst he; exact hp
        · exact h k (by omega)
      · exact Or.inr ⟨l, by omega, h, hp⟩
    · exact Or.inr ⟨k0, by omega, h2, h3⟩
/-- What a record is: its bytes, and whether it may be. -/
def RecIs (big wide : Bool) (zs : List Int) (ns : List Nat) (m1 m2 : Nat) (S : ByteArray) (ok : Bool) : Prop :=
  (m1 ≠ m2 ∧ S = ⟨#[]⟩ ∧ ok = false) ∨ (m1 = m2 ∧ (∀ k, k < m1 → okAt wide zs ns k) ∧ S = ⟨(fieldsL big (fullL wide zs m1) ns m1).toArray⟩ ∧ ok = true) ∨
  (m1 = m2 ∧ (∃ k0, k0 < m1 ∧ (∀ k, k < k0 → okAt wide zs ns k) ∧ ¬ okAt wide zs ns k0) ∧ S = ⟨#[]⟩ ∧ ok = false)
theorem recIs_exists (big wide : Bool) (zs : List Int) (ns : List Nat) (m1 m2 : Nat) : ∃ S ok, RecIs big wide zs ns m1 m2 S ok := by
  by_cases h : m1 = m2
  · rcases first_fail (okAt wide zs ns) m1 with h1 | h1
    · exact ⟨_, _, Or.inr (Or.inl ⟨h, h1, rfl, rfl⟩)⟩
    · exact ⟨_, _, Or.inr (Or.inr ⟨h, h1, rfl, rfl⟩)⟩
  · exact ⟨_, _, Or.inl ⟨h, rfl, rfl⟩⟩
theorem record_is (big wide : Bool) (a1 a2 : Option Addr) (m1 c1 m2 c2 : Nat) (zs : List Int) (ns : List Nat) (S : ByteArray) (ok : Bool) (w : World) (hl : m1 ≤ 20) (r1 : RowI w a1 m1 zs) (r2 : RowN w a2 m2 ns) (h : RecIs big wide zs ns m1 m2 S ok) :
    Calls Tryd.prog 26 #[.agg #[.bool big, .bool wide], .slice a1 m1 c1, .slice a2 m2 c2] w fun e w' => e = .returned (.tuple #[.string S, .bool ok]) ∧ Below w.heap.size w w' := by
  rcases h with ⟨h, rfl, rfl⟩ | ⟨rfl, h, rfl, rfl⟩ | ⟨rfl, ⟨k0, h1, h2, h3⟩, rfl, rfl⟩
  · exact record_len big wide a1 a2 m1 c1 m2 c2 w h
  · exact record_yes big wide a1 a2 m1 c1 c2 zs ns w hl r1 r2 h
  · exact record_no big wide a1 a2 m1 c1 c2 zs ns w hl r1 r2 k0 h1 h2 h3
theorem refRecord_is (big wide : Bool) (a1 a2 : Option Addr) (m1 c1 m2 c2 : Nat) (zs : List Int) (ns : List Nat) (S : ByteArray) (ok : Bool) (w : World) (hl : m1 ≤ 20) (r1 : RowI w a1 m1 zs) (r2 : RowN w a2 m2 ns) (h : RecIs big wide zs ns m1 m2 S ok) :
    Calls Tryd.prog 21 #[.bool wide, .bool big, .slice a1 m1 c1, .slice a2 m2 c2] w fun e w' => e = .returned (.tuple #[.string S, .bool ok]) ∧ Below w.heap.size w w' := by
  rcases h with ⟨h, rfl, rfl⟩ | ⟨rfl, h, rfl, rfl⟩ | ⟨rfl, ⟨k0, h1, h2, h3⟩, rfl, rfl⟩
  · exact refRecord_len big wide a1 a2 m1 c1 m2 c2 w h
  · exact refRecord_yes big wide a1 a2 m1 c1 c2 zs ns w hl r1 r2 h
  · exact refRecord_no big wide a1 a2 m1 c1 c2 zs ns w hl r1 r2 k0 h1 h2 h3
theorem putL_len (big : Bool) (n : Nat) (f : Int) (h1 : 1 ≤ f) (h8 : f ≤ 8) : ((Num.putL big n f).length : Int) = f := by
  obtain ⟨k, rfl⟩ := Int.eq_ofNat_of_zero_le (show 0 ≤ f by omega)
  unfold Num.putL
  rw [if_pos ⟨h1, h8⟩, Int.toNat_natCast]
  cases big <;> simp [Num.leB_length]
theorem fields_size (big wide : Bool) (zs : List Int) (ns : List Nat) (m : Nat) (hm : m ≤ 20) (h : ∀ k, k < m → okAt wide zs ns k) (k : Nat) (hk : k ≤ m) :
    ((fieldsL big (fullL wide zs m) ns k).length : Int) = sumZ wide zs k ∧ 0 ≤ sumZ wide zs k ∧ sumZ wide zs k ≤ 8 * k := by
  induction k with
  | zero => simp [fieldsL, sumZ]
  | succ k ih =>
    obtain ⟨e1, e2, e3⟩ := ih (by omega)
    obtain ⟨h0, h8, _⟩ := h k (by omega)
    have h1 := fullZ_pos wide _ h0
    have hp := putL_len big (ns.getD k 0) _ h1 h8
    have hw : sumZ wide zs (k + 1) = sumZ wide zs k + fullZ wide (zs.getD k 0) := by
      show wrap64 (sumZ wide zs k + fullZ wide (zs.getD k 0)) = _
      unfold wrap64
      generalize sumZ wide zs k = x at *
      generalize fullZ wide (zs.getD k 0) = f at *
      omega
    rw [hw]
    unfold fieldsL
    rw [List.length_append, fullL_getD wide zs m k (by omega)]
    refine ⟨?_, by omega, by omega⟩
    push_cast
    rw [hp, e1]
theorem recIs_size {big wide : Bool} {zs : List Int} {ns : List Nat} {m1 m2 : Nat} {S : ByteArray} {ok : Bool} (h : RecIs big wide zs ns m1 m2 S ok) (hm : m1 ≤ 20) : ok = true → ((S.size : Int) == sumZ wide zs m1) = true := by
  intro hok
  rcases h with ⟨_, _, h⟩ | ⟨_, h, rfl, _⟩ | ⟨_, _, _, h⟩
  · rw [hok] at h; cases h
  · have := (fields_size big wide zs ns m1 hm h m1 (Nat.le_refl _)).1
    rw [← this]
    simp [ByteArray.size]
  · rw [hok] at h; cases h
/-- Whether a word can hold the first k numbers. -/
def fitsTo (wide : Bool) (ns : List Nat) : Nat → Bool
  | 0 => true
  | k + 1 => fitsTo wide ns k && fitAt wide ns k
theorem fitsTo_true (wide : Bool) (ns : List Nat) (l : Nat) (h : ∀ k, k < l → fitAt wide ns k = true) : fitsTo wide ns l = true := by
  induction l with
  | zero => rfl
  | succ l ih => unfold fitsTo; rw [ih fun k hk => h k (by omega), h l (by omega)]; rfl
theorem fitsTo_false (wide : Bool) (ns : List Nat) (l k0 : Nat) (hk : k0 < l) (h : fitAt wide ns k0 = false) : fitsTo wide ns l = false := by
  induction l with
  | zero => omega
  | succ l ih =>
    unfold fitsTo
    by_cases he : k0 = l
    · subst he; rw [h]; simp
    · rw [ih (by omega)]; rfl
theorem fit_wide (ns : List Nat) (k : Nat) (h : ns.getD k 0 < 2 ^ 64) : fitAt true ns k = true := by
  unfold fitAt
  have : (256 : Nat) ^ wordN true = 2 ^ 64 := by decide
  rw [this]
  simpa using h
theorem fit_narrow (ns : List Nat) (k : Nat) : fitAt false ns k = decide (ns.getD k 0 < 4294967296) := rfl
end Go.Proofs.YtnmklmaclmjfbaaDoor
