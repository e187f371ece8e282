/- The reference's word on the first bytes. Conditions: those written in each theorem. -/
import Derived.Test.YtedocnidgiglaaaNM
namespace Go.Proofs.Ytedocnidgiglaaa
open Go.RowKit
set_option linter.unusedVariables false
set_option maxHeartbeats 2000000 in
theorem refWhy_any (s : ByteArray) (hm : s.size ≤ 1048576) (w : World) : Calls Try.prog 56 #[.string s] w fun e w' => e = .returned (.int .i64 (idErr s : Nat)) ∧ w = w' := by
  have hM : s.size ≤ maxLen := by unfold maxLen; omega
  by_cases h : s.size < 16
  · have e1 : idErr s = 3 := by unfold idErr; rw [if_pos h]
    have h1 : (s.size : Int) < 16 := by omega
    rw [e1]
    go_enter Try.func56, Try.ntmps56
    go_wp2
    go_ret
    exact ⟨rfl, rfl⟩
  · have h1 : ¬ (s.size : Int) < 16 := by omega
    have h4 : (4 : Int) ≤ (s.size : Int) := by omega
    have g4 : (4 : Int) < (s.size : Int) := by omega
    have g5 : (5 : Int) < (s.size : Int) := by omega
    have g6 : (6 : Int) < (s.size : Int) := by omega
    have b4 := byteN_at s 4 (by omega); have b5 := byteN_at s 5 (by omega); have b6 := byteN_at s 6 (by omega)
    cases hb : isMagic s
    · have hbm : ((s.extract 0 4).toList == [127, 69, 76, 70]) = false := hb
      have e1 : idErr s = 4 := by unfold idErr; rw [if_neg h, if_pos hb]
      rw [e1]
      clear e1
      go_enter Try.func56, Try.ntmps56
      go_wp2
      go_ret
      exact ⟨rfl, rfl⟩
    · have hbm : ((s.extract 0 4).toList == [127, 69, 76, 70]) = true := hb
      have hb' : ¬ isMagic s = false := by rw [hb]; simp
      by_cases h4' : byteN s 4 = 1 ∨ byteN s 4 = 2
      · by_cases h5' : byteN s 5 = 1 ∨ byteN s 5 = 2
        · by_cases h6' : byteN s 6 = 1
          · have e1 : idErr s = 0 := by unfold idErr; rw [if_neg h, if_neg hb', if_neg (fun q => q h4'), if_neg (fun q => q h5'), if_neg (fun q => q h6')]
            rw [e1]
            clear e1
            have q4 : ((s[4].toNat : Int) != 1) = false ∨ ((s[4].toNat : Int) != 1) = true ∧ ((s[4].toNat : Int) != 2) = false := by rw [b4]; simp; omega
            have q5 : ((s[5].toNat : Int) != 1) = false ∨ ((s[5].toNat : Int) != 1) = true ∧ ((s[5].toNat : Int) != 2) = false := by rw [b5]; simp; omega
            have q6 : ((s[6].toNat : Int) != 1) = false := by rw [b6]; simp; omega
            clear b4 b5 b6 hb hb' h4' h5' h6'
            rcases q4 with q4 | ⟨q4, q4'⟩
            · rcases q5 with q5 | ⟨q5, q5'⟩
              · go_enter Try.func56, Try.ntmps56
                go_wp2
                go_ret
                exact ⟨rfl, rfl⟩
              · go_enter Try.func56, Try.ntmps56
                go_wp2
                go_ret
                exact ⟨rfl, rfl⟩
            · rcases q5 with q5 | ⟨q5, q5'⟩
              · go_enter Try.func56, Try.ntmps56
                go_wp2
                go_ret
                exact ⟨rfl, rfl⟩
              · go_enter Try.func56, Try.ntmps56
                go_wp2
                go_ret
                exact ⟨rfl, rfl⟩
          · have e1 : idErr s = 7 := by unfold idErr; rw [if_neg h, if_neg hb', if_neg (fun q => q h4'), if_neg (fun q => q h5'), if_pos h6']
            rw [e1]
            clear e1
            have q4 : ((s[4].toNat : Int) != 1) = false ∨ ((s[4].toNat : Int) != 1) = true ∧ ((s[4].toNat : Int) != 2) = false := by rw [b4]; simp; omega
            have q5 : ((s[5].toNat : Int) != 1) = false ∨ ((s[5].toNat : Int) != 1) = true ∧ ((s[5].toNat : Int) != 2) = false := by rw [b5]; simp; omega
            have q6 : ((s[6].toNat : Int) != 1) = true := by rw [b6]; simp; omega
            clear b4 b5 b6 hb hb' h4' h5' h6'
            rcases q4 with q4 | ⟨q4, q4'⟩
            · rcases q5 with q5 | ⟨q5, q5'⟩
              · go_enter Try.func56, Try.ntmps56
                go_wp2
                go_ret
                exact ⟨rfl, rfl⟩
              · go_enter Try.func56, Try.ntmps56
                go_wp2
                go_ret
                exact ⟨rfl, rfl⟩
            · rcases q5 with q5 | ⟨q5, q5'⟩
              · go_enter Try.func56, Try.ntmps56
                go_wp2
                go_ret
                exact ⟨rfl, rfl⟩
              · go_enter Try.func56, Try.ntmps56
                go_wp2
                go_ret
                exact ⟨rfl, rfl⟩
        · have e1 : idErr s = 6 := by unfold idErr; rw [if_neg h, if_neg hb', if_neg (fun q => q h4'), if_pos h5']
          rw [e1]
          clear e1
          have q4 : ((s[4].toNat : Int) != 1) = false ∨ ((s[4].toNat : Int) != 1) = true ∧ ((s[4].toNat : Int) != 2) = false := by rw [b4]; simp; omega
          have q5 : ((s[5].toNat : Int) != 1) = true := by rw [b5]; simp; omega
          have q5' : ((s[5].toNat : Int) != 2) = true := by rw [b5]; simp; omega
          clear b4 b5 b6 hb hb' h4' h5'
          rcases q4 with q4 | ⟨q4, q4'⟩
          · go_enter Try.func56, Try.ntmps56
            go_wp2
            go_ret
            exact ⟨rfl, rfl⟩
          · go_enter Try.func56, Try.ntmps56
            go_wp2
            go_ret
            exact ⟨rfl, rfl⟩
      · have e1 : idErr s = 5 := by unfold idErr; rw [if_neg h, if_neg hb', if_pos h4']
        rw [e1]
        clear e1
        have q4 : ((s[4].toNat : Int) != 1) = true := by rw [b4]; simp; omega
        have q4' : ((s[4].toNat : Int) != 2) = true := by rw [b4]; simp; omega
        clear b4 b5 b6 hb hb' h4'
        go_enter Try.func56, Try.ntmps56
        go_wp2
        go_ret
        exact ⟨rfl, rfl⟩
end Go.Proofs.Ytedocnidgiglaaa
