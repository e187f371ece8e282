/- The walk of the law OrderSigned, second part: it returns true at every order, text and number. Conditions: those written in each theorem. -/
import Derived.Test.YtibgcnggimlbcaaI
namespace Go.Proofs.Ytibgcnggimlbcaa
open Go.RowKit
set_option maxRecDepth 100000 in
set_option maxHeartbeats 1000000 in
theorem signed_long (big : Bool) (s : ByteArray) (n : Nat) (w : World) (hs : 10 < s.size) (hm : s.size ≤ maxLen) :
    Calls Try.prog 6 #[.bool big, .string s, .int .u64 n] w fun e w' => e = .returned (.bool true) ∧ Below w.heap.size w w' := by
  unfold maxLen at hm
  have h10 : (10 : Int) < (s.size : Int) := by omega
  go_enter Try.func6, Try.ntmps6
  go_wp2_with fail
  refine (speaks1 _).mono ?_
  rintro e w1 ⟨rfl, hb1⟩
  go_wp2_with fail
  refine (signed_no big _ _ (by right; simp; omega)).mono ?_
  rintro e w2 ⟨rfl, hb2⟩
  have hsz : (s.extract 0 10).size = 10 := by simp; omega
  generalize s.extract 0 10 = t at *
  go_wp2
  go_ret
  exact ⟨by simp, (hb1.alloc hb1.size _).trans (hb2.mono (by have := hb1.size; simp; omega))⟩

theorem top_big (s : ByteArray) (h1 : 1 ≤ s.size) : (if true then s.data.toList.head? else s.data.toList.getLast?) = some s[0] := by
  simp only [if_true]
  rw [List.head?_eq_getElem?, List.getElem?_eq_getElem (by simp; omega)]
  rfl
theorem top_little (s : ByteArray) (h1 : 1 ≤ s.size) : (if false then s.data.toList.head? else s.data.toList.getLast?) = some s[s.size - 1] := by
  simp only [Bool.false_eq_true, if_false]
  rw [List.getLast?_eq_getElem?, List.getElem?_eq_getElem (by simp; omega)]
  rfl
theorem signed_case (big : Bool) (s : ByteArray) (h1 : 1 ≤ s.size) (h8 : s.size ≤ 8) :
    ∃ m : Nat, IntKind.u64.wrap (Num.sgn big s.data.toList) = (m : Int) ∧ m < 2 ^ 64 ∧ Num.putL big m (s.size : Int) = s.data.toList ∧ (0 ≤ Num.sgn big s.data.toList → (m : Int) = (Num.getN big s.data.toList : Int)) := by
  have hl : s.data.toList.length = s.size := by simp
  obtain ⟨m, h, hm, hp⟩ := Num.put_sgn big s.data.toList (by omega) (by omega)
  rw [hl] at hp
  refine ⟨m, by rw [IntKind.wrap_u64]; exact h, hm, hp, fun h0 => ?_⟩
  have hs := Num.sgn_pos big s.data.toList (by omega) h0
  have hlt := Num.getN_lt big s.data.toList (by omega)
  have : 256 ^ s.data.toList.length ≤ 256 ^ 8 := Nat.pow_le_pow_right (by omega) (by omega)
  have e : (256 : Nat) ^ 8 = 18446744073709551616 := by decide
  rw [hs] at h
  generalize Num.getN big s.data.toList = u at *
  omega

set_option maxRecDepth 100000 in
set_option maxHeartbeats 2000000 in
theorem signed_mid_big (s : ByteArray) (n : Nat) (w : World) (hn : n < 2 ^ 64) (h1 : 1 ≤ s.size) (h8 : s.size ≤ 8) :
    Calls Try.prog 6 #[.bool true, .string s, .int .u64 n] w fun e w' => e = .returned (.bool true) ∧ Below w.heap.size w w' := by
  have HN := Lib.hid hn; clear hn
  have h10 : (s.size : Int) ≤ 10 := by omega
  have hi1 : (1 : Int) ≤ (s.size : Int) := by omega
  have hi8 : (s.size : Int) ≤ 8 := by omega
  have ht0 : ((s.size : Int) == 0) = false := by rw [beq_eq_false_iff_ne]; omega
  have ht8 : decide ((8 : Int) < (s.size : Int)) = false := by simp; omega
  have htop : Num.sgn true s.data.toList < 0 ↔ 128 ≤ s[0].toNat := Num.sgn_neg true _ (by simpa using h8) _ (top_big s h1)
  have hcase : ∃ m : Nat, IntKind.u64.wrap (Num.sgn true s.data.toList) = (m : Int) ∧ m < 2 ^ 64 ∧ Num.putL true m (s.size : Int) = s.data.toList ∧ (0 ≤ Num.sgn true s.data.toList → (m : Int) = (Num.getN true s.data.toList : Int)) := signed_case true s h1 h8
  obtain ⟨m, hw, hm, hput, hu⟩ := hcase
  have HM := Lib.hid hm; clear hm
  have HP := Lib.hid hput; clear hput
  have HU := Lib.hid hu; clear hu
  have HT := Lib.hid htop; clear htop
  have HW := Lib.hid hw; clear hw
  go_enter Try.func6, Try.ntmps6
  go_wp2_with fail
  refine (speaks1 _).mono ?_
  rintro e w1 ⟨rfl, hb1⟩
  go_wp2_with fail
  refine (signed_yes true _ _ h1 h8).mono ?_
  rintro e w2 ⟨rfl, hb2⟩
  generalize Num.sgn true s.data.toList = k at *
  go_wp2_with fail
  refine (refGet_any true _ _).mono ?_
  rintro e w3 ⟨rfl, rfl⟩
  generalize Num.getN true s.data.toList = u at *
  have hw := HW.out
  have hb12 : Below w.heap.size w w2 := (hb1.alloc hb1.size _).trans (hb2.mono (by have := hb1.size; simp; omega))
  have hkn : (k < 0 ∧ decide (k < 0) = true ∧ decide ((128 : Int) ≤ (s[0].toNat : Int)) = true ∧ decide ((0 : Int) ≤ k) = false) ∨ (0 ≤ k ∧ decide (k < 0) = false ∧ decide ((128 : Int) ≤ (s[0].toNat : Int)) = false ∧ decide ((0 : Int) ≤ k) = true) := by
    have ht := HT.out
    by_cases hk : k < 0
    · left
      have := ht.1 hk
      exact ⟨hk, by simp; omega, by simp; omega, by simp; omega⟩
    · right
      have h' : ¬ 128 ≤ s[0].toNat := fun h => hk (ht.2 h)
      exact ⟨by omega, by simp; omega, by simp; omega, by simp; omega⟩
  rcases hkn with ⟨hk, hk1, hk2, hk3⟩ | ⟨hk, hk1, hk2, hk3⟩
  all_goals
    first
      | (have hmu : (((m : Int) != (u : Int)) = false) := by rw [HU.out hk]; simp)
      | skip
    go_wp2_with fail
    refine (refPut_any true m _ _ HM.out).mono ?_
    rintro e w3 ⟨rfl, hb3⟩
    rw [HP.out]
    by_cases hs8 : s.size < 8
    all_goals
      have hs8b : decide ((s.size : Int) < 8) = true ∨ decide ((s.size : Int) < 8) = false := by simp; omega
      go_wp2_with fail
      go_loopw [11, 12] (fun i _ wr => ∃ j : Nat, j ≤ 10 ∧ i = .int .i64 j ∧ Below w.heap.size w wr) (fun i _ _ => (10 - intOf i).toNat)
      case atStart => exact ⟨0, by omega, rfl, hb12.trans (hb3.mono hb12.size)⟩
      case round =>
        obtain ⟨j, hj, rfl, hg⟩ := hrel
        clear hk hk1 hk2 hk3 hs8b hb2 hb12 hb3
        by_cases hj10 : j < 10
        · by_cases hjs : 1 ≤ j ∧ j ≤ 8
          · obtain ⟨hj1, hj8⟩ := hjs
            have hd1 : decide ((j : Int) < 1) = false := by simp; omega
            have hd8 : decide ((8 : Int) < (j : Int)) = false := by simp; omega
            have hlt := Num.getN_putL_lt true false n j hj1 hj8
            have ea := Num.swap_a n j hj1 hj8
            have eb := Num.swap_b n j hj1 hj8
            generalize hQ : Num.getN true (Num.putL false n (j : Int)) = q at hlt ea eb
            have HQ := Lib.hid hQ; clear hQ
            have HLT := Lib.hid hlt; clear hlt
            have EA := Lib.hid ea; clear ea
            have EB := Lib.hid eb; clear eb
            go_wp2_with fail
            refine (swap_any n _ _ HN.out).mono ?_
            rintro e w4 ⟨rfl, hb4⟩
            rw [HQ.out]
            go_wp2_with fail
            refine (refPut_any true q _ _ HLT.out).mono ?_
            rintro e w5 ⟨rfl, hb5⟩
            rw [EA.out]
            go_wp2_with fail
            refine (refPut_any false n _ _ HN.out).mono ?_
            rintro e w6 ⟨rfl, hb6⟩
            generalize hL : Num.putL false n (j : Int) = l at *
            have HL := Lib.hid hL; clear hL
            go_wp2_with fail
            refine (swap_any q _ _ HLT.out).mono ?_
            rintro e w7 ⟨rfl, hb7⟩
            rw [EB.out]
            go_wp2_with fail
            refine (refPut_any false n _ _ HN.out).mono ?_
            rintro e w8 ⟨rfl, hb8⟩
            rw [HL.out]
            go_wp2_with fail
            refine (refGet_any false _ _).mono ?_
            rintro e w9 ⟨rfl, rfl⟩
            rw [str_self]
            generalize Num.getN false l = g
            have hg' := hg.trans (hb4.mono hg.size)
            have hg' := hg'.trans (hb5.mono hg'.size)
            have hg' := hg'.trans (hb6.mono hg'.size)
            have hg' := hg'.trans (hb7.mono hg'.size)
            have hg' := hg'.trans (hb8.mono hg'.size)
            go_wp2
            go_roundw
            case rel => exact ⟨j + 1, by omega, by go_num, hg'⟩
            case measure => simp [intOf]; omega
          · have hd : (decide ((j : Int) < 1) = true) ∨ (decide ((j : Int) < 1) = false ∧ decide ((8 : Int) < (j : Int)) = true) := by simp; omega
            rcases hd with hd1 | ⟨hd1, hd8⟩
            all_goals
              go_wp2_with fail
              refine (swap_none n _ _ HN.out (by omega)).mono ?_
              rintro e w4 ⟨rfl, hb4⟩
              go_wp2
              go_roundw
              case rel => exact ⟨j + 1, by omega, by go_num, hg.trans (hb4.mono hg.size)⟩
              case measure => simp [intOf]; omega
        · go_wp2
          go_ret
          exact ⟨rfl, hg⟩

set_option maxRecDepth 100000 in
set_option maxHeartbeats 2000000 in
theorem signed_mid_little (s : ByteArray) (n : Nat) (w : World) (hn : n < 2 ^ 64) (h1 : 1 ≤ s.size) (h8 : s.size ≤ 8) :
    Calls Try.prog 6 #[.bool false, .string s, .int .u64 n] w fun e w' => e = .returned (.bool true) ∧ Below w.heap.size w w' := by
  have HN := Lib.hid hn; clear hn
  have h10 : (s.size : Int) ≤ 10 := by omega
  have hi1 : (1 : Int) ≤ (s.size : Int) := by omega
  have hi8 : (s.size : Int) ≤ 8 := by omega
  have ht0 : ((s.size : Int) == 0) = false := by rw [beq_eq_false_iff_ne]; omega
  have ht8 : decide ((8 : Int) < (s.size : Int)) = false := by simp; omega
  have htop : Num.sgn false s.data.toList < 0 ↔ 128 ≤ s[s.size - 1].toNat := Num.sgn_neg false _ (by simpa using h8) _ (top_little s h1)
  have hcase : ∃ m : Nat, IntKind.u64.wrap (Num.sgn false s.data.toList) = (m : Int) ∧ m < 2 ^ 64 ∧ Num.putL false m (s.size : Int) = s.data.toList ∧ (0 ≤ Num.sgn false s.data.toList → (m : Int) = (Num.getN false s.data.toList : Int)) := signed_case false s h1 h8
  obtain ⟨m, hw, hm, hput, hu⟩ := hcase
  have HM := Lib.hid hm; clear hm
  have HP := Lib.hid hput; clear hput
  have HU := Lib.hid hu; clear hu
  have HT := Lib.hid htop; clear htop
  have HW := Lib.hid hw; clear hw
  go_enter Try.func6, Try.ntmps6
  go_wp2_with fail
  refine (speaks1 _).mono ?_
  rintro e w1 ⟨rfl, hb1⟩
  go_wp2_with fail
  refine (signed_yes false _ _ h1 h8).mono ?_
  rintro e w2 ⟨rfl, hb2⟩
  generalize Num.sgn false s.data.toList = k at *
  go_wp2_with fail
  refine (refGet_any false _ _).mono ?_
  rintro e w3 ⟨rfl, rfl⟩
  generalize Num.getN false s.data.toList = u at *
  have hw := HW.out
  have hb12 : Below w.heap.size w w2 := (hb1.alloc hb1.size _).trans (hb2.mono (by have := hb1.size; simp; omega))
  have hkn : (k < 0 ∧ decide (k < 0) = true ∧ decide ((128 : Int) ≤ (s[s.size - 1].toNat : Int)) = true ∧ decide ((0 : Int) ≤ k) = false) ∨ (0 ≤ k ∧ decide (k < 0) = false ∧ decide ((128 : Int) ≤ (s[s.size - 1].toNat : Int)) = false ∧ decide ((0 : Int) ≤ k) = true) := by
    have ht := HT.out
    by_cases hk : k < 0
    · left
      have := ht.1 hk
      exact ⟨hk, by simp; omega, by simp; omega, by simp; omega⟩
    · right
      have h' : ¬ 128 ≤ s[s.size - 1].toNat := fun h => hk (ht.2 h)
      exact ⟨by omega, by simp; omega, by simp; omega, by simp; omega⟩
  rcases hkn with ⟨hk, hk1, hk2, hk3⟩ | ⟨hk, hk1, hk2, hk3⟩
  all_goals
    first
      | (have hmu : (((m : Int) != (u : Int)) = false) := by rw [HU.out hk]; simp)
      | skip
    go_wp2_with fail
    refine (refPut_any false m _ _ HM.out).mono ?_
    rintro e w3 ⟨rfl, hb3⟩
    rw [HP.out]
    by_cases hs8 : s.size < 8
    all_goals
      have hs8b : decide ((s.size : Int) < 8) = true ∨ decide ((s.size : Int) < 8) = false := by simp; omega
      go_wp2_with fail
      go_loopw [11, 12] (fun i _ wr => ∃ j : Nat, j ≤ 10 ∧ i = .int .i64 j ∧ Below w.heap.size w wr) (fun i _ _ => (10 - intOf i).toNat)
      case atStart => exact ⟨0, by omega, rfl, hb12.trans (hb3.mono hb12.size)⟩
      case round =>
        obtain ⟨j, hj, rfl, hg⟩ := hrel
        clear hk hk1 hk2 hk3 hs8b hb2 hb12 hb3
        by_cases hj10 : j < 10
        · by_cases hjs : 1 ≤ j ∧ j ≤ 8
          · obtain ⟨hj1, hj8⟩ := hjs
            have hd1 : decide ((j : Int) < 1) = false := by simp; omega
            have hd8 : decide ((8 : Int) < (j : Int)) = false := by simp; omega
            have hlt := Num.getN_putL_lt true false n j hj1 hj8
            have ea := Num.swap_a n j hj1 hj8
            have eb := Num.swap_b n j hj1 hj8
            generalize hQ : Num.getN true (Num.putL false n (j : Int)) = q at hlt ea eb
            have HQ := Lib.hid hQ; clear hQ
            have HLT := Lib.hid hlt; clear hlt
            have EA := Lib.hid ea; clear ea
            have EB := Lib.hid eb; clear eb
            go_wp2_with fail
            refine (swap_any n _ _ HN.out).mono ?_
            rintro e w4 ⟨rfl, hb4⟩
            rw [HQ.out]
            go_wp2_with fail
            refine (refPut_any true q _ _ HLT.out).mono ?_
            rintro e w5 ⟨rfl, hb5⟩
            rw [EA.out]
            go_wp2_with fail
            refine (refPut_any false n _ _ HN.out).mono ?_
            rintro e w6 ⟨rfl, hb6⟩
            generalize hL : Num.putL false n (j : Int) = l at *
            have HL := Lib.hid hL; clear hL
            go_wp2_with fail
            refine (swap_any q _ _ HLT.out).mono ?_
            rintro e w7 ⟨rfl, hb7⟩
            rw [EB.out]
            go_wp2_with fail
            refine (refPut_any false n _ _ HN.out).mono ?_
            rintro e w8 ⟨rfl, hb8⟩
            rw [HL.out]
            go_wp2_with fail
            refine (refGet_any false _ _).mono ?_
            rintro e w9 ⟨rfl, rfl⟩
            rw [str_self]
            generalize Num.getN false l = g
            have hg' := hg.trans (hb4.mono hg.size)
            have hg' := hg'.trans (hb5.mono hg'.size)
            have hg' := hg'.trans (hb6.mono hg'.size)
            have hg' := hg'.trans (hb7.mono hg'.size)
            have hg' := hg'.trans (hb8.mono hg'.size)
            go_wp2
            go_roundw
            case rel => exact ⟨j + 1, by omega, by go_num, hg'⟩
            case measure => simp [intOf]; omega
          · have hd : (decide ((j : Int) < 1) = true) ∨ (decide ((j : Int) < 1) = false ∧ decide ((8 : Int) < (j : Int)) = true) := by simp; omega
            rcases hd with hd1 | ⟨hd1, hd8⟩
            all_goals
              go_wp2_with fail
              refine (swap_none n _ _ HN.out (by omega)).mono ?_
              rintro e w4 ⟨rfl, hb4⟩
              go_wp2
              go_roundw
              case rel => exact ⟨j + 1, by omega, by go_num, hg.trans (hb4.mono hg.size)⟩
              case measure => simp [intOf]; omega
        · go_wp2
          go_ret
          exact ⟨rfl, hg⟩

theorem signed_wf (big : Bool) (s : ByteArray) (a : Int) (h0 : s.size ≤ maxLen) (h2 : (Lit.int .u64 a).wf = true) (w : World) :
    Calls Try.prog 6 #[.bool big, .string s, .int .u64 a] w fun e w' => e = .returned (.bool true) ∧ Below w.heap.size w w' := by
  obtain ⟨n, rfl, hn⟩ := nat_of_wf h2
  by_cases hl : 10 < s.size
  · exact signed_long big s n w hl h0
  · by_cases hm : 1 ≤ s.size ∧ s.size ≤ 8
    · cases big
      · exact signed_mid_little s n w hn hm.1 hm.2
      · exact signed_mid_big s n w hn hm.1 hm.2
    · exact signed_short big s n w hn (by omega) (by omega)
end Go.Proofs.Ytibgcnggimlbcaa
