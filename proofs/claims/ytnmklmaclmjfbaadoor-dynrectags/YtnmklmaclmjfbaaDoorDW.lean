/- What Dynamic answers on what PutDynamic puts. Conditions: those written in each theorem. -/
import Derived.Test.YtnmklmaclmjfbaaDoorDH
namespace Go.Proofs.YtnmklmaclmjfbaaDoor
open Go.RowKit
theorem dyn_back {big wide : Bool} {R : Nat → Nat × Nat} {n : Nat} (hR : ∀ i, i < n → (R i).1 < 256 ^ wordN wide ∧ (R i).2 < 256 ^ wordN wide ∧ (R i).1 ≠ 0) {s : ByteArray} {junk : List UInt8} (hs : s.data.toList = catE big wide R n ++ (zeroL (2 * wordN wide) ++ junk))
    {w w' : World} {e : Ending} (h : DynPost big wide s w e w') : Below w.heap.size w w' ∧ ∃ v, e = .returned (.tuple #[v, .int .i64 0]) ∧ w'.ownsRow w.heap.size 34 2 v n (flatE ((List.range n).map R)) := by
  obtain ⟨hB, k, p, l, hr, hc⟩ := h
  have hn := runE_put hR hs n (Nat.le_refl _)
  have hst : stepE big wide s (n * (2 * wordN wide)) = ⟨0, 0, n * (2 * wordN wide) + 2 * wordN wide, false⟩ := stepE_zero (rest := junk) (by rw [hs, ← catE_len big wide R n, List.drop_left])
  have he : ¬ ((stepE big wide s (n * (2 * wordN wide))).bad = false ∧ (stepE big wide s (n * (2 * wordN wide))).t ≠ 0) := by rw [hst]; simp
  have he' : ¬ ((stepE big wide s p).bad = false ∧ (stepE big wide s p).t ≠ 0) := by
    rcases hc with ⟨h1, _⟩ | ⟨_, h2, _⟩
    · rw [h1]; simp
    · rw [h2]; simp
  have hk := runE_end hn hr he he'
  subst hk
  rw [hn] at hr
  cases hr
  rcases hc with ⟨h1, _⟩ | ⟨_, _, v, h3, h4⟩
  · rw [hst] at h1; cases h1
  · exact ⟨hB, v, h3, h4⟩
theorem dyn_cut {big wide : Bool} {R : Nat → Nat × Nat} {n : Nat} (hR : ∀ i, i < n → (R i).1 < 256 ^ wordN wide ∧ (R i).2 < 256 ^ wordN wide ∧ (R i).1 ≠ 0) {s : ByteArray} {tail : List UInt8} (hs : s.data.toList = catE big wide R n ++ tail) (ht : tail.length < 2 * wordN wide)
    {w w' : World} {e : Ending} (h : DynPost big wide s w e w') : Below w.heap.size w w' ∧ e = .returned (.tuple #[.slice none 0 0, .int .i64 24]) := by
  obtain ⟨hB, k, p, l, hr, hc⟩ := h
  have hn := runE_put hR hs n (Nat.le_refl _)
  have hsz : s.size = n * (2 * wordN wide) + tail.length := by rw [← ba_len, hs, List.length_append, catE_len]
  have hbad : (stepE big wide s (n * (2 * wordN wide))).bad = true := by
    cases hb : (stepE big wide s (n * (2 * wordN wide))).bad
    · have := (stepE_fit hb).1
      omega
    · rfl
  have he : ¬ ((stepE big wide s (n * (2 * wordN wide))).bad = false ∧ (stepE big wide s (n * (2 * wordN wide))).t ≠ 0) := by rw [hbad]; simp
  have he' : ¬ ((stepE big wide s p).bad = false ∧ (stepE big wide s p).t ≠ 0) := by
    rcases hc with ⟨h1, _⟩ | ⟨_, h2, _⟩
    · rw [h1]; simp
    · rw [h2]; simp
  have hk := runE_end hn hr he he'
  subst hk
  rw [hn] at hr
  cases hr
  rcases hc with ⟨_, h3⟩ | ⟨h1, _⟩
  · exact ⟨hB, h3⟩
  · rw [hbad] at h1; cases h1
end Go.Proofs.YtnmklmaclmjfbaaDoor
