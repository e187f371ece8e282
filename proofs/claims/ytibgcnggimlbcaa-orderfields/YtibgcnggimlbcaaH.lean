/- Plain mathematics for signed numbers and swapped bytes, and the contracts of order's Signed and Swap. Conditions: those written in each theorem. -/
import Derived.Test.YtibgcnggimlbcaaG
namespace Go.Proofs.Ytibgcnggimlbcaa
open Go.RowKit
namespace Num
/-- A text of bytes as a number that may be below 0. -/
def sgn (big : Bool) (l : List UInt8) : Int := if 2 * getN big l < 256 ^ l.length then (getN big l : Int) else (getN big l : Int) - ((256 ^ l.length : Nat) : Int)
theorem getN_lt (big : Bool) (l : List UInt8) (h : l.length ≤ 8) : getN big l < 256 ^ l.length := by
  unfold getN
  rw [if_pos h]
  cases big
  · have := horner_lt l.reverse
    simpa using this
  · exact horner_lt l
theorem leB_add (n c k : Nat) : leB (n + c * 256 ^ k) k = leB n k := by
  induction k generalizing n c with
  | zero => rfl
  | succ k ih =>
    rw [leB_cons, leB_cons]
    have e1 : (n + c * 256 ^ (k + 1)) / 256 = n / 256 + c * 256 ^ k := by
      rw [Nat.pow_succ, ← Nat.mul_assoc, Nat.add_mul_div_right _ _ (by decide)]
    have e2 : UInt8.ofNat (n + c * 256 ^ (k + 1)) = UInt8.ofNat n := by
      apply UInt8.toNat_inj.1
      rw [UInt8.toNat_ofNat', UInt8.toNat_ofNat', Nat.pow_succ, ← Nat.mul_assoc]
      omega
    rw [e1, e2, ih]
theorem putL_getN (big : Bool) (l : List UInt8) (h1 : 1 ≤ l.length) (h8 : l.length ≤ 8) (c : Nat) : putL big (getN big l + c * 256 ^ l.length) (l.length : Int) = l := by
  unfold putL getN
  rw [if_pos (by omega), if_pos h8, Int.toNat_natCast, leB_add]
  cases big
  · have := leB_horner l.reverse
    simp at this
    simp [this]
  · simp [leB_horner]
/-- What is signed, as a number of 64 bits, has the same lowest bytes. -/
theorem put_sgn (big : Bool) (l : List UInt8) (h1 : 1 ≤ l.length) (h8 : l.length ≤ 8) : ∃ m : Nat, (sgn big l) % 18446744073709551616 = (m : Int) ∧ m < 2 ^ 64 ∧ putL big m (l.length : Int) = l := by
  have hlt := getN_lt big l h8
  have hpow : ∃ d, 18446744073709551616 = (d + 1) * 256 ^ l.length := by
    have : 18446744073709551616 = 256 ^ (8 - l.length) * 256 ^ l.length := by rw [← Nat.pow_add, show 8 - l.length + l.length = 8 by omega]
    refine ⟨256 ^ (8 - l.length) - 1, ?_⟩
    rw [Nat.sub_add_cancel (Nat.pow_pos (by decide))]
    exact this
  obtain ⟨d, hd⟩ := hpow
  have hd' : (18446744073709551616 : Nat) = d * 256 ^ l.length + 256 ^ l.length := by rw [hd, Nat.add_mul, Nat.one_mul]
  unfold sgn
  split
  · refine ⟨getN big l, ?_, ?_, ?_⟩
    · generalize getN big l = u at *
      generalize 256 ^ l.length = z at *
      generalize d * z = y at *
      omega
    · generalize getN big l = u at *
      generalize 256 ^ l.length = z at *
      generalize d * z = y at *
      omega
    · have := putL_getN big l h1 h8 0
      simpa using this
  · refine ⟨getN big l + d * 256 ^ l.length, ?_, ?_, putL_getN big l h1 h8 d⟩
    · generalize getN big l = u at *
      generalize 256 ^ l.length = z at *
      generalize d * z = y at *
      omega
    · generalize getN big l = u at *
      generalize 256 ^ l.length = z at *
      generalize d * z = y at *
      omega
theorem sgn_neg (big : Bool) (l : List UInt8) (h8 : l.length ≤ 8) (top : UInt8) (htop : (if big then l.head? else l.getLast?) = some top) : (sgn big l < 0) ↔ 128 ≤ top.toNat := by
  have hlt := getN_lt big l h8
  have key : ∃ r m, r < 256 ^ m ∧ getN big l = top.toNat * 256 ^ m + r ∧ 256 ^ l.length = 256 ^ m * 256 := by
    unfold getN
    rw [if_pos h8]
    cases big
    · simp only [Bool.false_eq_true, if_false] at htop ⊢
      rcases List.eq_nil_or_concat l with rfl | ⟨r, b, rfl⟩
      · simp at htop
      · simp at htop
        subst htop
        refine ⟨horner r.reverse, r.length, by simpa using horner_lt r.reverse, ?_, by simp [Nat.pow_succ]⟩
        simp [horner_cons]
    · simp only [if_true] at htop ⊢
      cases l with
      | nil => simp at htop
      | cons b r =>
        simp at htop
        subst htop
        exact ⟨horner r, r.length, horner_lt r, horner_cons b r, by simp [Nat.pow_succ]⟩
  obtain ⟨r, m, hr, hg, hp⟩ := key
  unfold sgn
  rw [hg] at hlt ⊢
  rw [hp] at hlt ⊢
  have hb := top.toNat_lt
  generalize top.toNat = t at *
  generalize 256 ^ m = z at *
  by_cases ht : 128 ≤ t
  · have : 128 * z ≤ t * z := Nat.mul_le_mul_right _ ht
    rw [if_neg (by omega)]
    generalize t * z = y at *
    omega
  · have : t * z ≤ 127 * z := Nat.mul_le_mul_right _ (by omega)
    rw [if_pos (by omega)]
    generalize t * z = y at *
    omega
theorem sgn_pos (big : Bool) (l : List UInt8) (h8 : l.length ≤ 8) (h : 0 ≤ sgn big l) : sgn big l = (getN big l : Int) := by
  have hlt := getN_lt big l h8
  unfold sgn at h ⊢
  split
  · rfl
  · rename_i hn
    rw [if_neg hn] at h
    omega
end Num
theorem shift_sgn (u m : Nat) (h1 : 1 ≤ m) (h8 : m ≤ 8) (hu : u < 256 ^ m) :
    wrap64 (IntKind.u64.wrap ((u : Int) * 2 ^ (8 * (8 - m)))) / 2 ^ (8 * (8 - m)) = (if 2 * u < 256 ^ m then (u : Int) else (u : Int) - ((256 ^ m : Nat) : Int)) := by
  unfold wrap64
  rw [IntKind.wrap_u64]
  have hm : m = 1 ∨ m = 2 ∨ m = 3 ∨ m = 4 ∨ m = 5 ∨ m = 6 ∨ m = 7 ∨ m = 8 := by omega
  rcases hm with rfl | rfl | rfl | rfl | rfl | rfl | rfl | rfl <;> simp only [Nat.reducePow, Nat.reduceSub, Nat.reduceMul, Int.reducePow] at hu ⊢ <;> split <;> omega
set_option maxRecDepth 100000 in
set_option maxHeartbeats 400000 in
theorem signed_yes (big : Bool) (s : ByteArray) (w : World) (h1 : 1 ≤ s.size) (h8 : s.size ≤ 8) :
    Calls Try.prog 22 #[.agg #[.bool big], .string s] w fun e w' => e = .returned (.int .i64 (Num.sgn big s.data.toList)) ∧ Below w.heap.size w w' := by
  have hi1 : (1 : Int) ≤ (s.size : Int) := by omega
  have hi8 : (s.size : Int) ≤ 8 := by omega
  go_enter Try.func22, Try.ntmps22
  go_wp2_with (go_at_call 38; refine (isSize_yes _ _ (by omega) (by omega)).mono ?_; rintro e w' ⟨rfl, rfl⟩)
  refine (get_any big _ _).mono ?_
  rintro e w1 ⟨rfl, h1⟩
  generalize hG : Num.getN big _ = g
  have HG := Lib.hid hG; clear hG
  go_wp2
  go_ret
  have hl : s.data.toList.length = s.size := by simp
  refine ⟨ret_int ?_, ((Below.refl _ _).alloc (Nat.le_refl _) _).trans (h1.mono (by simp))⟩
  have h9 : s.data.toList.length ≤ 8 := by omega
  have hlt := Num.getN_lt big s.data.toList h9
  rw [HG.out, hl] at hlt
  rw [shift_sgn g s.size (by omega) (by omega) hlt]
  unfold Num.sgn
  rw [HG.out, hl]
theorem signed_no (big : Bool) (s : ByteArray) (w : World) (h : s.size < 1 ∨ 8 < s.size) :
    Calls Try.prog 22 #[.agg #[.bool big], .string s] w fun e w' => e = .returned (.int .i64 0) ∧ Below w.heap.size w w' := by
  have hi : (s.size : Int) < 1 ∨ (8 : Int) < (s.size : Int) := by omega
  go_enter Try.func22, Try.ntmps22
  go_wp2_with (go_at_call 38; refine (isSize_no _ _ hi).mono ?_; rintro e w' ⟨rfl, rfl⟩)
  go_ret
  exact ⟨rfl, (Below.refl _ _).alloc (Nat.le_refl _) _⟩
/-- Swap, at every argument. -/
theorem swap_any (n : Nat) (size : Int) (w : World) (hn : n < 2 ^ 64) :
    Calls Try.prog 23 #[.int .u64 n, .int .i64 size] w fun e w' => e = .returned (.int .u64 (Num.getN true (Num.putL false n size) : Nat)) ∧ Below w.heap.size w w' := by
  have HN := Lib.hid hn; clear hn
  go_enter Try.func23, Try.ntmps23
  go_wp2_with fail
  refine (put_any false n size _ HN.out).mono ?_
  rintro e w1 ⟨rfl, h1⟩
  generalize hP : Num.putL false n size = l
  have HP := Lib.hid hP; clear hP
  go_wp2_with fail
  refine (get_any true _ _).mono ?_
  rintro e w2 ⟨rfl, h2⟩
  go_wp2
  go_ret
  exact ⟨ret_int (by rw [HP.out]), h1.trans (h2.mono h1.size)⟩
end Go.Proofs.Ytibgcnggimlbcaa
