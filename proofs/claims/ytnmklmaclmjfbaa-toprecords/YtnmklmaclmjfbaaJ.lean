/- The contract of the reference's Record. Conditions: those written in each theorem. -/
import Derived.Test.YtnmklmaclmjfbaaI
namespace Go.Proofs.Ytnmklmaclmjfbaa
open Go.RowKit
namespace Num
theorem horner_leB (n k : Nat) : horner (leB n k).reverse = n % 256 ^ k := by
  induction k with
  | zero => simp [leB, horner, Nat.mod_one]
  | succ k ih =>
    rw [leB, List.reverse_append, List.reverse_singleton, List.singleton_append, horner_cons, List.length_reverse, leB_length, ih, Nat.mod_pow_succ, UInt8.toNat_ofNat', Nat.mul_comm, Nat.add_comm]
theorem getN_putL (big : Bool) (n k : Nat) (h1 : 1 ≤ k) (h8 : k ≤ 8) : getN big (putL big n (k : Int)) = n % 256 ^ k := by
  unfold getN putL
  rw [if_pos (show 1 ≤ (k : Int) ∧ (k : Int) ≤ 8 by omega), Int.toNat_natCast]
  cases big
  · simp [leB_length, h8, horner_leB]
  · simp [leB_length, h8, horner_leB]
theorem putL_pos (big : Bool) (n k : Nat) (h1 : 1 ≤ k) (h8 : k ≤ 8) : putL big n (k : Int) ≠ [] := by
  unfold putL
  rw [if_pos (by omega), Int.toNat_natCast]
  intro h
  have := congrArg List.length h
  cases big <;> simp [leB_length] at this <;> omega
end Num
theorem add_str (S P : ByteArray) (h : S.size + P.size ≤ 9223372036854775807) : ∀ W, (Op.stringOp .add S P).run Try.prog W = .ok (.string (S ++ P)) W := fun W => run_string_add_sum W S P h
theorem fullZ_pos (wide : Bool) (z : Int) (h : 0 ≤ fullZ wide z) : 1 ≤ fullZ wide z := by
  unfold fullZ at *
  split
  · cases wide <;> decide
  · rename_i hz
    rw [if_neg hz] at h
    omega
/-- What is put and read again is the number just where it may be there. -/
theorem ok_back (big wide : Bool) (z : Int) (y : Nat) : (0 ≤ fullZ wide z ∧ fullZ wide z ≤ 8 ∧ y < 256 ^ (fullZ wide z).toNat) ↔ (Num.putL big y (fullZ wide z) ≠ [] ∧ Num.getN big (Num.putL big y (fullZ wide z)) = y) := by
  by_cases h : 1 ≤ fullZ wide z ∧ fullZ wide z ≤ 8
  · obtain ⟨k, hk⟩ := Int.eq_ofNat_of_zero_le (show 0 ≤ fullZ wide z by omega)
    rw [hk] at h ⊢
    rw [Num.getN_putL big y k (by omega) (by omega), Int.toNat_natCast]
    have h0 : 0 < 256 ^ k := Nat.pow_pos (by decide)
    constructor
    · rintro ⟨_, _, h3⟩
      exact ⟨Num.putL_pos big y k (by omega) (by omega), Nat.mod_eq_of_lt h3⟩
    · rintro ⟨_, h3⟩
      have := Nat.mod_lt y h0
      exact ⟨by omega, by omega, by omega⟩
  · constructor
    · rintro ⟨h1, h2, _⟩
      exact absurd ⟨fullZ_pos wide z h1, h2⟩ h
    · rintro ⟨h1, _⟩
      exact absurd (by unfold Num.putL; rw [if_neg h]) h1
theorem fields_snoc (big : Bool) (F : List Int) (ns : List Nat) (k : Nat) (f : Int) (y : Nat) (hf : F.getD k 0 = f) (hy : ns.getD k 0 = y) :
    (⟨(fieldsL big F ns k).toArray⟩ : ByteArray) ++ ⟨(Num.putL big y f).toArray⟩ = ⟨(fieldsL big F ns (k + 1)).toArray⟩ := by
  subst hf hy
  apply ByteArray.ext
  simp [fieldsL]
end Go.Proofs.Ytnmklmaclmjfbaa
