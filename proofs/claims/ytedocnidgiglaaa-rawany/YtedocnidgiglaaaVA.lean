/- Small functions of the reference: Num, there, power. Conditions: those written in each theorem. -/
import Derived.Test.YtedocnidgiglaaaJC
namespace Go.Proofs.Ytedocnidgiglaaa
open Go.RowKit
set_option linter.unusedVariables false
/-- The number of some bytes of a text. -/
def numV (big : Bool) (s : ByteArray) (at_ n : Nat) : Nat := Num.getN big ((s.data.toList.drop at_).take n)
set_option maxHeartbeats 1000000 in
theorem num_any (big : Bool) (s : ByteArray) (at_ n : Nat) (w : World) (hs : s.size ≤ 1048576) (h : at_ + n ≤ s.size) : Calls Try.prog 57 #[.bool big, .string s, .int .u64 (at_ : Nat), .int .u64 (n : Nat)] w fun e w' => e = .returned (.int .u64 (numV big s at_ n : Nat)) ∧ w = w' := by
  have hM : s.size ≤ maxLen := by unfold maxLen; omega
  have a0 : IntKind.u64.wrap ((at_ : Int) + (n : Int)) = ((at_ + n : Nat) : Int) := by rw [IntKind.wrap_u64]; omega
  have a1 : (0 : Int) ≤ (at_ : Int) := by omega
  have a2 : (at_ : Int) ≤ ((at_ + n : Nat) : Int) := by omega
  have a3 : ((at_ + n : Nat) : Int) ≤ (s.size : Int) := by omega
  go_enter Try.func57, Try.ntmps57
  go_wp2_with fail
  refine (refGet_any big (s.extract at_ (at_ + n)) w).mono ?_
  rintro e w' ⟨rfl, rfl⟩
  have HN := Lib.hid (show numV big s at_ n = Num.getN big ((s.data.toList.drop at_).take n) from rfl)
  go_wp2
  go_ret
  exact ⟨by rw [HN.out]; rfl, rfl⟩
set_option maxHeartbeats 1000000 in
theorem there_any (s : ByteArray) (at_ n : Nat) (w : World) (hs : s.size ≤ 1048576) (ha : at_ < 18446744073709551616) (hn : n < 18446744073709551616) : Calls Try.prog 58 #[.string s, .int .u64 (at_ : Nat), .int .u64 (n : Nat)] w fun e w' => e = .returned (.bool (decide (at_ + n ≤ s.size))) ∧ w = w' := by
  have hM : s.size ≤ maxLen := by unfold maxLen; omega
  have a0 : IntKind.u64.wrap (s.size : Int) = (s.size : Int) := by rw [IntKind.wrap_u64]; omega
  by_cases h : at_ ≤ s.size
  · have a1 : (at_ : Int) ≤ (s.size : Int) := by omega
    have a2 : IntKind.u64.wrap ((s.size : Int) - (at_ : Int)) = ((s.size - at_ : Nat) : Int) := by rw [IntKind.wrap_u64]; omega
    have a3 : decide (n ≤ s.size - at_) = decide (at_ + n ≤ s.size) := by rw [decide_eq_decide]; omega
    have A3 := Lib.hid a3; clear a3
    generalize hd : s.size - at_ = d at *
    clear hd
    go_enter Try.func58, Try.ntmps58
    go_wp2
    go_ret
    exact ⟨by rw [← A3.out]; rfl, rfl⟩
  · have a1 : ¬ (at_ : Int) ≤ (s.size : Int) := by omega
    have a3 : decide (at_ + n ≤ s.size) = false := decide_eq_false (by omega)
    rw [a3]
    go_enter Try.func58, Try.ntmps58
    go_wp2
    go_ret
    exact ⟨rfl, rfl⟩
theorem powB_halv (n : Nat) (h : n < 18446744073709551616) : decide (Pop.halv 64 n < 2) = Pop.powB n := by
  unfold Pop.powB
  rw [decide_eq_decide]
  exact (Pop.pop_halv 64 n h).symm
set_option maxHeartbeats 1000000 in
theorem power_any (n : Nat) (w : World) (hn : n < 18446744073709551616) : Calls Try.prog 59 #[.int .u64 (n : Nat)] w fun e w' => e = .returned (.bool (Pop.powB n)) ∧ w = w' := by
  rw [← powB_halv n hn]
  obtain ⟨r, hr⟩ : ∃ r, r = Pop.halv 64 n := ⟨_, rfl⟩
  rw [← hr]
  obtain ⟨g, hg⟩ : ∃ g, g = 64 := ⟨_, rfl⟩
  rw [← hg] at hr
  have hng : n < 2 ^ g := by rw [hg]; exact hn
  have HR := Lib.hid hr; have HG := Lib.hid hng
  clear hr hng hg
  go_enter Try.func59, Try.ntmps59
  go_wp2
  go_loopw [0] (fun i wr => ∃ m f : Nat, i = .int .u64 (m : Int) ∧ m < 18446744073709551616 ∧ m < 2 ^ f ∧ r = Pop.halv f m ∧ wr = w) (fun i _ => (intOf i).toNat)
  case atStart => exact ⟨n, g, rfl, hn, HG.out, HR.out, rfl⟩
  case round =>
    obtain ⟨m, f, rfl, hm, hmf, hr, rfl⟩ := hrel
    by_cases hc : 1 < m ∧ m % 2 = 0
    · obtain ⟨h1, h2⟩ := hc
      have HN : Hid (∃ f', m / 2 < 2 ^ f' ∧ r = Pop.halv f' (m / 2)) := Lib.hid (by
        cases f with
        | zero => simp at hmf; omega
        | succ f =>
          refine ⟨f, by rw [Nat.pow_succ] at hmf; omega, ?_⟩
          rw [hr, Pop.halv, if_pos ⟨h1, h2⟩])
      clear hr hmf
      have b1 : (1 : Int) < (m : Int) := by omega
      have b2 : Int.tmod (m : Int) 2 = 0 := by rw [Int.tmod_eq_emod_of_nonneg (by omega)]; omega
      have b3 : Int.tdiv (m : Int) 2 = ((m / 2 : Nat) : Int) := by rw [Int.tdiv_eq_ediv_of_nonneg (by omega)]; omega
      have b4 : IntKind.u64.wrap ((m / 2 : Nat) : Int) = ((m / 2 : Nat) : Int) := by rw [IntKind.wrap_u64]; omega
      go_wp2
      obtain ⟨f', q1, q2⟩ := HN.out
      exact ⟨⟨m / 2, f', by go_num, by omega, q1, q2, trivial⟩, by simp [intOf]; omega⟩
    · have hm' : Pop.halv f m = m := by
        cases f with
        | zero => rfl
        | succ f => rw [Pop.halv, if_neg hc]
      have Q := Lib.hid (show decide ((m : Int) < 2) = decide (r < 2) by rw [decide_eq_decide, hr, hm']; omega)
      clear hr hm' hmf HR HG
      by_cases h1 : 1 < m
      · have b1 : (1 : Int) < (m : Int) := by omega
        have b2 : Int.tmod (m : Int) 2 = 1 := by rw [Int.tmod_eq_emod_of_nonneg (by omega)]; omega
        clear hc
        go_wp2
        go_ret
        exact ⟨by rw [← Q.out]; rfl, rfl⟩
      · have b1 : ¬ (1 : Int) < (m : Int) := by omega
        clear hc
        go_wp2
        go_ret
        exact ⟨by rw [← Q.out]; rfl, rfl⟩
end Go.Proofs.Ytedocnidgiglaaa
