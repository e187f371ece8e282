/- The walk of the law OrderSigned: it returns true at every order, text and number. Conditions: those written in each theorem. -/
import Derived.Test.YtibgcnggimlbcaaH
namespace Go.Proofs.Ytibgcnggimlbcaa
open Go.RowKit
namespace Num
theorem putL_length (big : Bool) (n : Nat) (k : Nat) (h1 : 1 ≤ k) (h8 : k ≤ 8) : (putL big n (k : Int)).length = k := by
  unfold putL
  rw [if_pos (by omega), Int.toNat_natCast]
  cases big <;> simp [leB_length]
theorem swap_a (n k : Nat) (h1 : 1 ≤ k) (h8 : k ≤ 8) : putL true (getN true (putL false n (k : Int))) (k : Int) = putL false n (k : Int) := by
  have hl := putL_length false n k h1 h8
  have h := putL_getN true (putL false n (k : Int)) (by omega) (by omega) 0
  rw [hl] at h
  simpa using h
theorem swap_b (n k : Nat) (h1 : 1 ≤ k) (h8 : k ≤ 8) : getN true (putL false (getN true (putL false n (k : Int))) (k : Int)) = getN false (putL false n (k : Int)) := by
  have hl := putL_length false n k h1 h8
  generalize putL false n (k : Int) = l at *
  subst hl
  have e : getN true l = horner l := by unfold getN; rw [if_pos h8]; rfl
  have e2 : putL false (horner l) (l.length : Int) = l.reverse := by
    unfold putL
    rw [if_pos (by omega), Int.toNat_natCast]
    simpa using leB_horner l
  rw [e, e2]
  unfold getN
  simp [h8]
theorem getN_putL_lt (big b2 : Bool) (n : Nat) (k : Nat) (h1 : 1 ≤ k) (h8 : k ≤ 8) : getN big (putL b2 n (k : Int)) < 2 ^ 64 := by
  have hl := putL_length b2 n k h1 h8
  have h := getN_lt big (putL b2 n (k : Int)) (by omega)
  rw [hl] at h
  have : 256 ^ k ≤ 256 ^ 8 := Nat.pow_le_pow_right (by omega) h8
  have e : (256 : Nat) ^ 8 = 2 ^ 64 := by decide
  omega
end Num
theorem swap_none (n : Nat) (size : Int) (w : World) (hn : n < 2 ^ 64) (h : size < 1 ∨ 8 < size) :
    Calls Try.prog 23 #[.int .u64 n, .int .i64 size] w fun e w' => e = .returned (.int .u64 0) ∧ Below w.heap.size w w' := by
  have h' := swap_any n size w hn
  have e : Num.putL false n size = [] := by unfold Num.putL; rw [if_neg (by omega)]
  rw [e] at h'
  exact h'
set_option maxRecDepth 100000 in
set_option maxHeartbeats 1000000 in
theorem signed_short (big : Bool) (s : ByteArray) (n : Nat) (w : World) (hn : n < 2 ^ 64) (h0 : s.size < 1 ∨ 8 < s.size) (hs : s.size ≤ 10) :
    Calls Try.prog 6 #[.bool big, .string s, .int .u64 n] w fun e w' => e = .returned (.bool true) ∧ Below w.heap.size w w' := by
  have HN := Lib.hid hn; clear hn
  have h10 : (s.size : Int) ≤ 10 := by omega
  have ht : ((s.size : Int) == 0) = true ∨ ((s.size : Int) == 0) = false ∧ decide ((8 : Int) < (s.size : Int)) = true := by
    rcases h0 with h | h
    · left; rw [beq_iff_eq]; omega
    · right; exact ⟨by rw [beq_eq_false_iff_ne]; omega, by simp; omega⟩
  rcases ht with ht | ⟨ht, ht2⟩
  all_goals
    go_enter Try.func6, Try.ntmps6
    go_wp2_with fail
    refine (speaks1 _).mono ?_
    rintro e w1 ⟨rfl, hb1⟩
    go_wp2_with fail
    refine (signed_no big _ _ (by assumption)).mono ?_
    rintro e w2 ⟨rfl, hb2⟩
    go_wp2
    go_ret
    exact ⟨by simp, (hb1.alloc hb1.size _).trans (hb2.mono (by have := hb1.size; simp; omega))⟩
end Go.Proofs.Ytibgcnggimlbcaa
