/- PutDynamic and the reference's, together. Conditions: those written in each theorem. -/
import Derived.Test.YtnmklmaclmjfbaaDoorDK
import Derived.Test.YtnmklmaclmjfbaaDoorDR
import Derived.Test.YtnmklmaclmjfbaaDoorDW
namespace Go.Proofs.YtnmklmaclmjfbaaDoor
open Go.RowKit
theorem encE_zero (big wide : Bool) : encE big wide 0 0 = zeroL (2 * wordN wide) := by cases big <;> cases wide <;> decide
theorem allOk_at {ok : Nat → Bool} {n : Nat} (h : allOk ok n = true) (i : Nat) (hi : i < n) : ok i = true := by
  unfold allOk at h
  rw [List.all_eq_true] at h
  exact h i (List.mem_range.2 hi)
theorem rec_size {big wide : Bool} {t v : Nat} {S : ByteArray} {ok : Bool} (h : RecIs big wide [0, 0] [t, v] 2 2 S ok) : S.size ≤ 16 := by
  have hw := wordN_pos wide
  cases ok
  · rw [(recE h).2 rfl]; decide
  · rw [← ba_len, ((recE h).1 rfl).1, encE_length]; omega
/-- Both put the same; and what they put, when they do. -/
theorem dyn_same (big wide : Bool) (n : Nat) (hn : n ≤ 20) (R : Nat → Nat × Nat) (h64 : ∀ i, i < n → (R i).1 < 2 ^ 64 ∧ (R i).2 < 2 ^ 64) : ∃ (S : ByteArray) (ok : Bool),
    (∀ A cap w, RowP w A n R → Calls Tryd.prog 9 #[.agg #[.bool big, .bool wide], .slice A n cap] w fun e w' => e = .returned (.tuple #[.string S, .bool ok]) ∧ Below w.heap.size w w') ∧
    (∀ A cap w, RowP w A n R → Calls Tryd.prog 10 #[.bool wide, .bool big, .slice A n cap] w fun e w' => e = .returned (.tuple #[.string S, .bool ok]) ∧ Below w.heap.size w w') ∧
    S.size ≤ 336 ∧ (ok = true → S.data.toList = catE big wide R n ++ zeroL (2 * wordN wide) ∧ ∀ i, i < n → (R i).1 < 256 ^ wordN wide ∧ (R i).2 < 256 ^ wordN wide ∧ (R i).1 ≠ 0) := by
  obtain ⟨Z, hz, hd, hc⟩ := putZ big wide
  have hw := wordN_pos wide
  have hZ : Z = ⟨(zeroL (2 * wordN wide)).toArray⟩ := by apply ba_ext; rw [hd, encE_zero]
  let S : Nat → ByteArray := fun i => (recIs_exists big wide [0, 0] [(R i).1, (R i).2] 2 2).choose
  let ok : Nat → Bool := fun i => (recIs_exists big wide [0, 0] [(R i).1, (R i).2] 2 2).choose_spec.choose
  have hrec : ∀ i, RecIs big wide [0, 0] [(R i).1, (R i).2] 2 2 (S i) (ok i) := fun i => (recIs_exists big wide [0, 0] [(R i).1, (R i).2] 2 2).choose_spec.choose_spec
  clear_value S ok
  have hS : ∀ i, i < n → (S i).size ≤ 16 := fun i _ => rec_size (hrec i)
  have hput := fun A cap w hR => putDyn_any big wide A cap n R S ok Z hn hS (by omega) (fun i hi w => putEntry_is big wide _ _ (h64 i hi).1 (h64 i hi).2 (S i) (ok i) (hrec i) w) hc w hR
  have href := fun A cap w hR => refDyn_any big wide A cap n R S ok hn hS h64 (fun i _ => hrec i) w hR
  rw [← hZ] at href
  cases ha : allOk (okE R ok) n
  · refine ⟨⟨#[]⟩, false, ?_, ?_, by decide, fun h => by cases h⟩
    · unfold putDV at hput; rw [ha] at hput; exact hput
    · unfold putDV at href; rw [ha] at href; exact href
  · have hcl := catR_len S 16 n hS
    refine ⟨(ByteArray.mk (catR S n).toArray) ++ Z, true, ?_, ?_, ?_, fun _ => ?_⟩
    · unfold putDV at hput; rw [ha] at hput; exact hput
    · unfold putDV at href; rw [ha] at href; exact href
    · have : (ByteArray.mk (catR S n).toArray).size = (catR S n).length := by simp [ByteArray.size]
      rw [ByteArray.size_append]; omega
    · have hi : ∀ i, i < n → ok i = true ∧ (R i).1 ≠ 0 := fun i hi => by
        have := allOk_at ha i hi
        unfold okE at this
        simpa using this
      have hf : ∀ i, i < n → (S i).data.toList = encE big wide (R i).1 (R i).2 ∧ (R i).1 < 256 ^ wordN wide ∧ (R i).2 < 256 ^ wordN wide := fun i h => (recE (hrec i)).1 (hi i h).1
      refine ⟨?_, fun i h => ⟨(hf i h).2.1, (hf i h).2.2, (hi i h).2⟩⟩
      have hcat : ∀ k, k ≤ n → catR S k = catE big wide R k := by
        intro k
        induction k with
        | zero => intro _; rfl
        | succ k ih => intro hk; simp only [catR, catE]; rw [ih (by omega), (hf k (by omega)).1]
      have e : ((ByteArray.mk (catR S n).toArray) ++ Z).data.toList = catR S n ++ Z.data.toList := by simp
      rw [e, hd, encE_zero, hcat n (Nat.le_refl _)]
end Go.Proofs.YtnmklmaclmjfbaaDoor
