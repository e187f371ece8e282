/- Plain facts on dynamic entries: reading one of them, and what is put is read again. Conditions: those written in each theorem. -/
import Derived.Test.YtnmklmaclmjfbaaDoorDA
namespace Go.Proofs.YtnmklmaclmjfbaaDoor
open Go.RowKit
theorem wordN_pos (wide : Bool) : 1 ≤ wordN wide ∧ wordN wide ≤ 8 := by cases wide <;> decide
theorem putLW (big wide : Bool) (n : Nat) : (Num.putL big n (wordN wide : Nat)).length = wordN wide := by
  have hw := wordN_pos wide
  have := putL_len big n (wordN wide : Nat) (by omega) (by omega)
  omega
/-- An entry's bytes. -/
def encE (big wide : Bool) (t v : Nat) : List UInt8 := Num.putL big t (wordN wide : Nat) ++ Num.putL big v (wordN wide : Nat)
theorem encE_length (big wide : Bool) (t v : Nat) : (encE big wide t v).length = 2 * wordN wide := by
  simp only [encE, List.length_append, putLW]; omega
/-- What a record of an entry is. -/
theorem recE {big wide : Bool} {t v : Nat} {S : ByteArray} {ok : Bool} (h : RecIs big wide [0, 0] [t, v] 2 2 S ok) :
    (ok = true → S.data.toList = encE big wide t v ∧ t < 256 ^ wordN wide ∧ v < 256 ^ wordN wide) ∧ (ok = false → S = ⟨#[]⟩) := by
  refine ⟨fun ho => ?_, fun ho => ?_⟩
  · subst ho
    rcases h with ⟨h, _⟩ | ⟨_, h1, h2, _⟩ | ⟨_, _, _, h⟩
    · exact absurd rfl h
    · have k0 := (h1 0 (by decide)).2.2
      have k1 := (h1 1 (by decide)).2.2
      have hf : fullZ wide 0 = (wordN wide : Int) := by unfold fullZ; rw [if_pos rfl]
      simp only [List.getD_cons_zero, List.getD_cons_succ, hf, Int.toNat_natCast] at k0 k1
      refine ⟨?_, k0, k1⟩
      subst h2
      show fieldsL big (fullL wide [0, 0] 2) [t, v] 2 = _
      have g0 : (fullL wide [0, 0] 2).getD 0 0 = (wordN wide : Int) := by rw [fullL_getD _ _ _ _ (by decide)]; exact hf
      have g1 : (fullL wide [0, 0] 2).getD 1 0 = (wordN wide : Int) := by rw [fullL_getD _ _ _ _ (by decide)]; exact hf
      simp only [fieldsL, g0, g1, List.getD_cons_zero, List.getD_cons_succ, List.nil_append, encE]
    · cases h
  · subst ho
    rcases h with ⟨_, h, _⟩ | ⟨_, _, _, h⟩ | ⟨_, _, h, _⟩
    · exact h
    · cases h
    · exact h
/-- What one round reads: tag, value, where it goes on, whether something wasn't there. -/
structure StE where
  t : Nat
  v : Nat
  p : Nat
  bad : Bool
def stepE (big wide : Bool) (s : ByteArray) (p : Nat) : StE :=
  let t := nxV big s p (wordN wide) false
  let p1 := nxP s p (wordN wide) false
  let b1 := nxB s p (wordN wide) false
  ⟨t, nxV big s p1 (wordN wide) b1, nxP s p1 (wordN wide) b1, nxB s p1 (wordN wide) b1⟩
theorem getNW (big wide : Bool) (n : Nat) (h : n < 256 ^ wordN wide) : Num.getN big (Num.putL big n (wordN wide : Nat)) = n := by
  have hw := wordN_pos wide
  have := Num.getN_putL big n (wordN wide) hw.1 hw.2
  rw [Nat.mod_eq_of_lt h] at this
  exact this
theorem stepE_enc {big wide : Bool} {t v : Nat} (ht : t < 256 ^ wordN wide) (hv : v < 256 ^ wordN wide) {s : ByteArray} {p : Nat} {rest : List UInt8} (hd : s.data.toList.drop p = encE big wide t v ++ rest) :
    stepE big wide s p = ⟨t, v, p + 2 * wordN wide, false⟩ := by
  have hlen : p + 2 * wordN wide ≤ s.size := by
    have h1 := congrArg List.length hd
    rw [List.length_drop, List.length_append, encE_length, ba_len] at h1
    have := wordN_pos wide
    omega
  have h0 : s.data.toList.drop p = Num.putL big t (wordN wide : Nat) ++ (Num.putL big v (wordN wide : Nat) ++ rest) := by
    rw [hd]; simp only [encE, List.append_assoc]
  have h1 := dropN h0 (putLW _ _ _)
  have t0 := takeN h0 (putLW _ _ _)
  have t1 := takeN h1 (putLW _ _ _)
  have e1 : nxV big s p (wordN wide) false = t := by rw [nxV_yes (by omega), t0, getNW _ _ _ ht]
  have e2 : nxV big s (p + wordN wide) (wordN wide) false = v := by rw [nxV_yes (by omega), t1, getNW _ _ _ hv]
  have q1 : nxP s p (wordN wide) false = p + wordN wide := nxP_yes (by omega)
  have r1 : nxB s p (wordN wide) false = false := nxB_yes (by omega)
  have q2 : nxP s (p + wordN wide) (wordN wide) false = p + 2 * wordN wide := by rw [nxP_yes (by omega)]; omega
  have r2 : nxB s (p + wordN wide) (wordN wide) false = false := nxB_yes (by omega)
  unfold stepE
  simp only [e1, q1, r1, e2, q2, r2]
theorem stepE_fit {big wide : Bool} {s : ByteArray} {p : Nat} (h : (stepE big wide s p).bad = false) : p + 2 * wordN wide ≤ s.size ∧ (stepE big wide s p).p = p + 2 * wordN wide := by
  unfold stepE at h ⊢
  dsimp only at h ⊢
  obtain ⟨b2, s2, q2⟩ := nxB_fit h
  obtain ⟨b1, s1, q1⟩ := nxB_fit b2
  omega
/-- The first rounds: where it stands, the entries so far. -/
def runE (big wide : Bool) (s : ByteArray) : Nat → Option (Nat × List (Nat × Nat))
  | 0 => some (0, [])
  | k + 1 => match runE big wide s k with
    | none => none
    | some (p, l) => if (stepE big wide s p).bad = false ∧ (stepE big wide s p).t ≠ 0 then some ((stepE big wide s p).p, l ++ [((stepE big wide s p).t, (stepE big wide s p).v)]) else none
theorem runE_succ {big wide : Bool} {s : ByteArray} {k p : Nat} {l : List (Nat × Nat)} (h : runE big wide s k = some (p, l)) (h1 : (stepE big wide s p).bad = false) (h2 : (stepE big wide s p).t ≠ 0) :
    runE big wide s (k + 1) = some ((stepE big wide s p).p, l ++ [((stepE big wide s p).t, (stepE big wide s p).v)]) := by
  unfold runE
  rw [h]
  dsimp only
  rw [if_pos ⟨h1, h2⟩]
theorem runE_stop {big wide : Bool} {s : ByteArray} {k p : Nat} {l : List (Nat × Nat)} (h : runE big wide s k = some (p, l)) (h1 : ¬ ((stepE big wide s p).bad = false ∧ (stepE big wide s p).t ≠ 0)) : ∀ j, runE big wide s (k + 1 + j) = none
  | 0 => by
    show runE big wide s (k + 1) = none
    unfold runE
    rw [h]
    dsimp only
    rw [if_neg h1]
  | j + 1 => by
    show runE big wide s (k + 1 + j + 1) = none
    unfold runE
    rw [runE_stop h h1 j]
theorem runE_end {big wide : Bool} {s : ByteArray} {k k' p p' : Nat} {l l' : List (Nat × Nat)} (h : runE big wide s k = some (p, l)) (h' : runE big wide s k' = some (p', l'))
    (he : ¬ ((stepE big wide s p).bad = false ∧ (stepE big wide s p).t ≠ 0)) (he' : ¬ ((stepE big wide s p').bad = false ∧ (stepE big wide s p').t ≠ 0)) : k = k' := by
  rcases Nat.lt_trichotomy k k' with hlt | heq | hlt
  · have := runE_stop h he (k' - (k + 1))
    rw [show k + 1 + (k' - (k + 1)) = k' by omega, h'] at this
    cases this
  · exact heq
  · have := runE_stop h' he' (k - (k' + 1))
    rw [show k' + 1 + (k - (k' + 1)) = k by omega, h] at this
    cases this
theorem runE_at {big wide : Bool} {s : ByteArray} : ∀ (k : Nat) {p : Nat} {l : List (Nat × Nat)}, runE big wide s k = some (p, l) → p = k * (2 * wordN wide) ∧ p ≤ s.size ∧ l.length = k
  | 0, p, l, h => by
    unfold runE at h
    cases h
    exact ⟨by simp, Nat.zero_le _, rfl⟩
  | k + 1, p, l, h => by
    unfold runE at h
    cases hr : runE big wide s k with
    | none => rw [hr] at h; cases h
    | some q =>
      obtain ⟨p0, l0⟩ := q
      rw [hr] at h
      dsimp only at h
      by_cases hc : (stepE big wide s p0).bad = false ∧ (stepE big wide s p0).t ≠ 0
      · rw [if_pos hc] at h
        obtain ⟨i1, i2, i3⟩ := runE_at k hr
        obtain ⟨f1, f2⟩ := stepE_fit hc.1
        cases h
        rw [f2, i1, Nat.succ_mul k (2 * wordN wide)]
        exact ⟨rfl, by rw [← i1]; exact f1, by simp [i3]⟩
      · rw [if_neg hc] at h; cases h
def catE (big wide : Bool) (R : Nat → Nat × Nat) : Nat → List UInt8
  | 0 => []
  | k + 1 => catE big wide R k ++ encE big wide (R k).1 (R k).2
theorem catE_len (big wide : Bool) (R : Nat → Nat × Nat) : ∀ k, (catE big wide R k).length = k * (2 * wordN wide)
  | 0 => by simp [catE]
  | k + 1 => by rw [catE, List.length_append, catE_len big wide R k, encE_length, Nat.succ_mul k (2 * wordN wide)]
theorem catE_split (big wide : Bool) (R : Nat → Nat × Nat) (k n : Nat) (h : k < n) : ∃ t, catE big wide R n = catE big wide R k ++ (encE big wide (R k).1 (R k).2 ++ t) := by
  induction n with
  | zero => omega
  | succ n ih =>
    by_cases hk : k = n
    · subst hk; exact ⟨[], by simp [catE]⟩
    · obtain ⟨t, ht⟩ := ih (by omega)
      exact ⟨t ++ encE big wide (R n).1 (R n).2, by simp [catE, ht]⟩
theorem runE_put {big wide : Bool} {R : Nat → Nat × Nat} {n : Nat} (hR : ∀ i, i < n → (R i).1 < 256 ^ wordN wide ∧ (R i).2 < 256 ^ wordN wide ∧ (R i).1 ≠ 0) {s : ByteArray} {tail : List UInt8} (hs : s.data.toList = catE big wide R n ++ tail) :
    ∀ k, k ≤ n → runE big wide s k = some (k * (2 * wordN wide), (List.range k).map R)
  | 0, _ => by simp [runE]
  | k + 1, hk => by
    have ih := runE_put hR hs k (by omega)
    obtain ⟨t, ht⟩ := catE_split big wide R k n (by omega)
    have hd : s.data.toList.drop (k * (2 * wordN wide)) = encE big wide (R k).1 (R k).2 ++ (t ++ tail) := by
      rw [hs, ht, List.append_assoc, List.append_assoc, ← catE_len big wide R k, List.drop_left]
    obtain ⟨h1, h2, h3⟩ := hR k (by omega)
    have hst := stepE_enc h1 h2 hd
    rw [runE_succ ih (by rw [hst]) (by rw [hst]; exact h3), hst]
    dsimp only
    rw [Nat.succ_mul k (2 * wordN wide), List.range_succ, List.map_append]
    rfl
/-- The entry of zeros is the end. -/
theorem stepE_zero {big wide : Bool} {s : ByteArray} {p : Nat} {rest : List UInt8} (hd : s.data.toList.drop p = zeroL (2 * wordN wide) ++ rest) : stepE big wide s p = ⟨0, 0, p + 2 * wordN wide, false⟩ := by
  refine stepE_enc (Nat.pow_pos (by decide)) (Nat.pow_pos (by decide)) (rest := rest) ?_
  rw [hd]
  congr 1
  cases big <;> cases wide <;> decide
end Go.Proofs.YtnmklmaclmjfbaaDoor
