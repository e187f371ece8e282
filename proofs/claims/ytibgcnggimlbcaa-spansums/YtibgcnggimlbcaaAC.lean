/- The walk of the law SpanSums: it returns true at every three numbers. Conditions: those written in each theorem. -/
import Derived.Test.YtibgcnggimlbcaaAB
namespace Go.Proofs.Ytibgcnggimlbcaa
open Go.RowKit Go.Shelf Go.Sort
theorem sums_yes (a b c : Nat) (h : a + b < 2 ^ 64) : sumN [a, b] = a + b ∧ sumOk [a, b] = true ∧ sumN [a, b, c] = sumN [a + b, c] ∧ sumOk [a, b, c] = sumOk [a + b, c] := by
  have e : [a, b, c].sum = [a + b, c].sum := by simp [Nat.add_assoc]
  refine ⟨by simp [sumN, h], by simp [sumOk, h], ?_, ?_⟩
  · unfold sumN; rw [e]
  · unfold sumOk; rw [e]
theorem sums_no (a b c : Nat) (h : ¬ a + b < 2 ^ 64) : sumN [a, b] = 0 ∧ sumOk [a, b] = false ∧ sumN [a, b, c] = 0 ∧ sumOk [a, b, c] = false := by
  have : ¬ a + (b + c) < 2 ^ 64 := by omega
  simp [sumN, sumOk, h, this]
theorem mul_case (a b : Nat) : ∃ (p : Nat) (isb : Bool), (if a * b < 2 ^ 64 then a * b else 0 : Nat) = p ∧ decide (a * b < 2 ^ 64) = isb ∧
    ((((a : Int) == 0) = true ∧ isb = true ∧ IntKind.u64.wrap ((a : Int) * (b : Int)) = (p : Int)) ∨
     (((a : Int) == 0) = false ∧ ¬ a = 0 ∧ isb = true ∧ decide ((b : Int) ≤ 18446744073709551615 / (a : Int)) = true ∧ IntKind.u64.wrap ((a : Int) * (b : Int)) = (p : Int)) ∨
     (((a : Int) == 0) = false ∧ ¬ a = 0 ∧ isb = false ∧ decide ((b : Int) ≤ 18446744073709551615 / (a : Int)) = false ∧ ((p : Int) != 0) = false)) := by
  refine ⟨_, _, rfl, rfl, ?_⟩
  by_cases h : a * b < 2 ^ 64
  · have hw : IntKind.u64.wrap ((a : Int) * (b : Int)) = ((a * b : Nat) : Int) := by
      rw [← Int.natCast_mul, IntKind.wrap_u64]; omega
    by_cases h0 : a = 0
    · left
      exact ⟨by rw [beq_iff_eq]; omega, by simpa using h, by rw [if_pos h]; exact hw⟩
    · right; left
      refine ⟨by rw [beq_eq_false_iff_ne]; omega, h0, by simpa using h, ?_, by rw [if_pos h]; exact hw⟩
      have hq : b ≤ 18446744073709551615 / a := by
        rw [Nat.le_div_iff_mul_le (by omega), Nat.mul_comm]; omega
      rw [decide_eq_true_eq]
      have e : (18446744073709551615 : Int) / (a : Int) = ((18446744073709551615 / a : Nat) : Int) := by rw [Int.natCast_ediv]; rfl
      rw [e]
      exact_mod_cast hq
  · have h0 : ¬ a = 0 := by intro e; subst e; simp at h
    right; right
    refine ⟨by rw [beq_eq_false_iff_ne]; omega, h0, by simpa using h, ?_, by rw [if_neg h]; rfl⟩
    have hq : ¬ b ≤ 18446744073709551615 / a := by
      rw [Nat.le_div_iff_mul_le (by omega), Nat.mul_comm]; omega
    rw [decide_eq_false_iff_not]
    have e : (18446744073709551615 : Int) / (a : Int) = ((18446744073709551615 / a : Nat) : Int) := by rw [Int.natCast_ediv]; rfl
    rw [e]
    exact_mod_cast hq
theorem round_case (a b : Nat) (ha : a < 2 ^ 64) (hb : b < 2 ^ 64) :
    (decide ((b : Int) < 2) = true ∧ sumN (roundL a b) = a ∧ sumOk (roundL a b) = true) ∨
    (¬ b = 0 ∧ decide ((b : Int) < 2) = false ∧ ((a : Int) % (b : Int) == 0) = true ∧ sumN (roundL a b) = a ∧ sumOk (roundL a b) = true) ∨
    (¬ b = 0 ∧ decide ((b : Int) < 2) = false ∧ ∃ r : Nat, (a : Int) % (b : Int) = (r : Int) ∧ ((r : Int) == 0) = false ∧ ∃ d : Nat, IntKind.u64.wrap ((b : Int) - (r : Int)) = (d : Int) ∧ d < 2 ^ 64 ∧ sumN (roundL a b) = sumN [a, d] ∧ sumOk (roundL a b) = sumOk [a, d]) := by
  have one : sumN [a] = a ∧ sumOk [a] = true := by simp [sumN, sumOk, ha]
  by_cases h2 : b < 2
  · left
    have hm : max b 1 = 1 := by omega
    have hr : roundL a b = [a] := by unfold roundL; rw [hm]; simp [Nat.mod_one]
    rw [hr]
    exact ⟨by simp; omega, one.1, one.2⟩
  · have hm : max b 1 = b := by omega
    by_cases h0 : a % b = 0
    · right; left
      have hr : roundL a b = [a] := by unfold roundL; rw [hm, if_pos h0]
      rw [hr]
      exact ⟨by omega, by simp; omega, by rw [beq_iff_eq]; omega, one.1, one.2⟩
    · right; right
      have hr : roundL a b = [a, b - a % b] := by unfold roundL; rw [hm, if_neg h0]
      have hlt : a % b < b := Nat.mod_lt _ (by omega)
      rw [hr]
      exact ⟨by omega, by simp; omega, a % b, by omega, by rw [beq_eq_false_iff_ne]; omega, b - a % b, u64_sub' b (a % b) (by omega) hb, by omega, rfl, rfl⟩
set_option maxRecDepth 100000 in
set_option maxHeartbeats 4000000 in
theorem sums_walk (a b c : Nat) (w : World) (ha : a < 2 ^ 64) (hb : b < 2 ^ 64) (hc : c < 2 ^ 64) :
    Calls Try.prog 7 #[.int .u64 (a : Int), .int .u64 (b : Int), .int .u64 (c : Int)] w fun e w' => e = .returned (.bool true) ∧ Below w.heap.size w w' := by
  have A3 := Lib.hid (fun bk W hbk => add_three bk W hbk a b c ha hb hc)
  have R2 := Lib.hid (fun W => refAdd_any a b W ha)
  have M2 := Lib.hid (fun W => mul_any a b W ha hb)
  have RN := Lib.hid (fun W => round_any a b W ha hb)
  have EN := Lib.hid (fun W => end_any a b W ha hb)
  obtain ⟨p, isb, mp, mi, mq⟩ := mul_case a b
  have MP := Lib.hid mp
  have MI := Lib.hid mi
  have MQ := Lib.hid mq
  have RQ := Lib.hid (round_case a b ha hb)
  have HA := Lib.hid ha
  have hcase : (sumOk [a, b] = true ∧ ∃ t, sumN [a, b] = t ∧ t < 2 ^ 64 ∧ sumN [a, b, c] = sumN [t, c] ∧ sumOk [a, b, c] = sumOk [t, c]) ∨ (sumOk [a, b] = false ∧ sumN [a, b] = 0 ∧ sumN [a, b, c] = 0 ∧ sumOk [a, b, c] = false) := by
    by_cases h : a + b < 2 ^ 64
    · obtain ⟨h1, h2, h3, h4⟩ := sums_yes a b c h
      exact .inl ⟨h2, a + b, h1, h, h3, h4⟩
    · obtain ⟨h1, h2, h3, h4⟩ := sums_no a b c h
      exact .inr ⟨h2, h1, h3, h4⟩
  clear ha hb hc mp mi mq
  rcases hcase with ⟨s1, t, s2, st, s3, s4⟩ | ⟨s1, s2, s3, s4⟩
  · have RT := Lib.hid (fun W => refAdd_any t c W st)
    have S1 := Lib.hid s1
    have S2 := Lib.hid s2
    have S3 := Lib.hid s3
    have S4 := Lib.hid s4
    clear s1 s2 s3 s4 st
    go_enter Try.func7, Try.ntmps7
    go_wp2_with fail
    refine (speaks2 _).mono ?_
    rintro e w1 ⟨rfl, hb1⟩
    go_wp2_with fail
    refine (A3.out _ _ (by simp)).mono ?_
    rintro e w2 ⟨rfl, rfl⟩
    rw [S3.out, S4.out]
    go_wp2_with fail
    refine (R2.out _).mono ?_
    rintro e w3 ⟨rfl, rfl⟩
    rw [S1.out, S2.out]
    go_wp2_with fail
    refine (RT.out _).mono ?_
    rintro e w3 ⟨rfl, rfl⟩
    generalize sumN [t, c] = u at *
    generalize sumOk [t, c] = o at *
    go_wp2_with fail
    refine (M2.out _).mono ?_
    rintro e w3 ⟨rfl, rfl⟩
    rw [MP.out, MI.out]
    have hmq := MQ.out
    rcases hmq with ⟨m0, rfl, mw⟩ | ⟨m0, mn, rfl, md, mw⟩ | ⟨m0, mn, rfl, md, mz⟩
    all_goals
      go_wp2_with fail
      refine (RN.out _).mono ?_
      rintro e w3 ⟨rfl, hb3⟩
      have hB3 : Below w.heap.size w w3 := (hb1.alloc hb1.size _).trans (hb3.mono (by have := hb1.size; simp; omega))
      clear m0
      try clear mw
      try clear md
      try clear mz
      have hrq := RQ.out
      rcases hrq with ⟨r0, r1, r2⟩ | ⟨rb, r0, rz, r1, r2⟩ | ⟨rb, r0, r, rm, rz, d, rs, dl, r1, r2⟩
      · rw [r1, r2]
        clear r1 r2
        go_wp2
        go_ret
        exact ⟨by simp, hB3⟩
      · rw [r1, r2]
        clear r1 r2
        go_wp2
        go_ret
        exact ⟨by simp, hB3⟩
      · rw [r1, r2]
        have RD := Lib.hid (fun W => refAdd_any a d W HA.out)
        clear r1 r2 dl
        generalize sumN [a, d] = nn at *
        generalize sumOk [a, d] = oo at *
        go_wp2_with fail
        refine (RD.out _).mono ?_
        rintro e w4 ⟨rfl, rfl⟩
        go_wp2_with fail
        refine (EN.out _).mono ?_
        rintro e w5 ⟨rfl, hb5⟩
        rw [S1.out, S2.out]
        clear rs rm rz
        go_wp2
        go_ret
        exact ⟨by simp, hB3.trans (hb5.mono hB3.size)⟩
  · have S1 := Lib.hid s1
    have S2 := Lib.hid s2
    have S3 := Lib.hid s3
    have S4 := Lib.hid s4
    clear s1 s2 s3 s4
    go_enter Try.func7, Try.ntmps7
    go_wp2_with fail
    refine (speaks2 _).mono ?_
    rintro e w1 ⟨rfl, hb1⟩
    go_wp2_with fail
    refine (A3.out _ _ (by simp)).mono ?_
    rintro e w2 ⟨rfl, rfl⟩
    rw [S3.out, S4.out]
    go_wp2_with fail
    refine (R2.out _).mono ?_
    rintro e w3 ⟨rfl, rfl⟩
    rw [S1.out, S2.out]
    go_wp2_with fail
    refine (M2.out _).mono ?_
    rintro e w3 ⟨rfl, rfl⟩
    rw [MP.out, MI.out]
    have hmq := MQ.out
    rcases hmq with ⟨m0, rfl, mw⟩ | ⟨m0, mn, rfl, md, mw⟩ | ⟨m0, mn, rfl, md, mz⟩
    all_goals
      go_wp2_with fail
      refine (RN.out _).mono ?_
      rintro e w3 ⟨rfl, hb3⟩
      have hB3 : Below w.heap.size w w3 := (hb1.alloc hb1.size _).trans (hb3.mono (by have := hb1.size; simp; omega))
      clear m0
      try clear mw
      try clear md
      try clear mz
      have hrq := RQ.out
      rcases hrq with ⟨r0, r1, r2⟩ | ⟨rb, r0, rz, r1, r2⟩ | ⟨rb, r0, r, rm, rz, d, rs, dl, r1, r2⟩
      · rw [r1, r2]
        clear r1 r2
        go_wp2
        go_ret
        exact ⟨by simp, hB3⟩
      · rw [r1, r2]
        clear r1 r2
        go_wp2
        go_ret
        exact ⟨by simp, hB3⟩
      · rw [r1, r2]
        have RD := Lib.hid (fun W => refAdd_any a d W HA.out)
        clear r1 r2 dl
        generalize sumN [a, d] = nn at *
        generalize sumOk [a, d] = oo at *
        go_wp2_with fail
        refine (RD.out _).mono ?_
        rintro e w4 ⟨rfl, rfl⟩
        go_wp2_with fail
        refine (EN.out _).mono ?_
        rintro e w5 ⟨rfl, hb5⟩
        rw [S1.out, S2.out]
        clear rs rm rz
        go_wp2
        go_ret
        exact ⟨by simp, hB3.trans (hb5.mono hB3.size)⟩

theorem sums_wf (a b c : Int) (h0 : (Lit.int .u64 a).wf = true) (h1 : (Lit.int .u64 b).wf = true) (h2 : (Lit.int .u64 c).wf = true) (w : World) :
    Calls Try.prog 7 #[.int .u64 a, .int .u64 b, .int .u64 c] w fun e w' => e = .returned (.bool true) ∧ Below w.heap.size w w' := by
  obtain ⟨x, rfl, hx⟩ := nat_of_wf' h0
  obtain ⟨y, rfl, hy⟩ := nat_of_wf' h1
  obtain ⟨z, rfl, hz⟩ := nat_of_wf' h2
  exact sums_walk x y z w hx hy hz
end Go.Proofs.Ytibgcnggimlbcaa
