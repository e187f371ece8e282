/- Bits of a number of 64, for EhdrChecks. Conditions: those written in each theorem. -/
import Derived.Test.YtkajgakblcgocaaEK
import Derived.Laws.BitsLemmas
namespace Go.Proofs.Ytkajgakblcgocaa
open Go.RowKit
theorem i64_and1 (n : Int) : bits .and .i64 n 1 = n % 2 := by
  have h1 : (BitVec.ofInt 64 1).toNat = 2 ^ 1 - 1 := by decide
  have key : (BitVec.ofInt 64 n &&& BitVec.ofInt 64 1).toNat = (n % ((2 ^ 64 : Nat) : Int)).toNat % 2 ^ 1 := by
    rw [BitVec.toNat_and, BitVec.toNat_ofInt, h1, Nat.and_two_pow_sub_one_eq_mod]
  show IntKind.i64.wrap ((BitVec.ofInt 64 n &&& BitVec.ofInt 64 1).toNat : Nat) = n % 2
  rw [key, IntKind.wrap_i64]
  omega
theorem nat_and2 (x : Nat) : x &&& 2 = 2 * (x / 2 % 2) := by
  have h1 : (x &&& 2) / 2 = x / 2 % 2 := by rw [Nat.and_div_two]; exact Nat.and_one_is_mod _
  have h2 : (x &&& 2) % 2 ^ 1 = 0 := by rw [Nat.and_mod_two_pow]; simp
  omega
theorem i64_and2 (n : Int) : bits .and .i64 n 2 = 2 * (n / 2 % 2) := by
  have h1 : (BitVec.ofInt 64 2).toNat = 2 := by decide
  have key : (BitVec.ofInt 64 n &&& BitVec.ofInt 64 2).toNat = 2 * ((n % ((2 ^ 64 : Nat) : Int)).toNat / 2 % 2) := by
    rw [BitVec.toNat_and, BitVec.toNat_ofInt, h1, nat_and2]
  show IntKind.i64.wrap ((BitVec.ofInt 64 n &&& BitVec.ofInt 64 2).toNat : Nat) = 2 * (n / 2 % 2)
  rw [key, IntKind.wrap_i64]
  omega
/-- Whether the second bit is set, by the number's half. -/
theorem wide_bit (n : Int) (wide : Bool) (h : (bits BinOp.and IntKind.i64 n 2 == 2) = wide) : (wide = true ∧ n / 2 % 2 = 1) ∨ (wide = false ∧ n / 2 % 2 = 0) := by
  rw [i64_and2] at h
  cases wide
  · right
    simp only [beq_eq_false_iff_ne, ne_eq] at h
    exact ⟨rfl, by omega⟩
  · left
    simp only [beq_iff_eq] at h
    exact ⟨rfl, by omega⟩
end Go.Proofs.Ytkajgakblcgocaa
