/- The contract of the reference's Text of layer 3. Conditions: those written in each theorem. -/
import Derived.Test.YtddlflabdlgnbaaTA
namespace Go.Proofs.Ytddlflabdlgnbaa
open Go.RowKit
theorem ext_list (t : ByteArray) (n : Nat) : (t.extract n t.size).data.toList = t.data.toList.drop n := by
  have e : (t.extract n t.size).data.toList = (t.data.toList.drop n).take (t.size - n) := by simp
  rw [e, List.take_of_length_le (by simp)]
theorem ext_one (t : ByteArray) (j : Nat) (h : j < t.size) : t.extract j (j + 1) = ⟨#[t[j]]⟩ := by
  apply ByteArray.ext
  apply Array.toList_inj.1
  have e : (t.extract j (j + 1)).data.toList = (t.data.toList.drop j).take 1 := by simp
  rw [e, List.drop_eq_getElem_cons (by simpa using h)]
  rfl
theorem u64_le (m : Nat) (h : m ≤ 9223372036854775807) : IntKind.u64.wrap (m : Int) = (m : Int) := by rw [IntKind.wrap_u64]; omega
set_option maxRecDepth 100000 in
set_option maxHeartbeats 2000000 in
theorem refText_any (t : ByteArray) (n : Nat) (w : World) (hm : t.size ≤ maxLen) :
    Calls Try.prog 18 #[.string t, .int .u64 n] w fun e w' => e = .returned (textAt t n) ∧ w = w' := by
  unfold maxLen at hm
  have hw := u64_le t.size (by omega)
  by_cases h1 : n < t.size
  · obtain ⟨l, hl⟩ : ∃ l, t.data.toList.drop n = l := ⟨_, rfl⟩
    have hlen : l.length = t.size - n := by rw [← hl]; simp
    have hz := Zero.z_le l
    obtain ⟨hz1, hz2⟩ := Zero.z_spec l
    have hat : ∀ k, k < l.length → ∀ h : n + k < t.size, l.getD k 0 = t[n + k] := fun k hk h => by
      rw [← hl, List.getD_eq_getElem?_getD, List.getElem?_drop, List.getElem?_eq_getElem (by simpa using h)]; rfl
    have hta : textAt t n = if Zero.z l < l.length then .tuple #[.string ⟨(l.take (Zero.z l)).toArray⟩, .bool true] else .tuple #[.string ⟨#[]⟩, .bool false] := by
      unfold textAt
      have e1 : (t.extract n t.size).data.toList = l := (ext_list t n).trans hl
      have e2 : (t.extract n t.size).size = l.length := by rw [← e1]; simp
      rw [e1, e2]
      by_cases h2 : Zero.z l < l.length
      · rw [if_pos ⟨h1, h2⟩, if_pos h2]
        congr 3
        congr 1
        apply ByteArray.ext
        apply Array.toList_inj.1
        have e3 : ∀ u : ByteArray, (u.extract 0 (Zero.z l)).data.toList = u.data.toList.take (Zero.z l) := fun u => by simp
        rw [e3, e1]
      · rw [if_neg (fun h => h2 h.2), if_neg h2]
    have HTA := Lib.hid hta; clear hta
    have HZ1 := Lib.hid hz1; clear hz1
    have HZ2 := Lib.hid hz2; clear hz2
    have HAT := Lib.hid hat; clear hat
    have HL := Lib.hid hl; clear hl
    go_enter Try.func18, Try.ntmps18
    go_wp2
    go_loop [6, 7] (fun s i => ∃ k : Nat, k ≤ Zero.z l ∧ i = .int .u64 ((n + k : Nat) : Int) ∧ s = .string ⟨(l.take k).toArray⟩) (fun _ i => t.size - (intOf i).toNat)
    case atStart => exact ⟨0, Nat.zero_le _, rfl, rfl⟩
    case round =>
      obtain ⟨k, hk, rfl, rfl⟩ := hrel
      by_cases hk2 : k < l.length
      · have hj : n + k < t.size := by omega
        have hd : decide (n + k < t.size) = true := by simpa using hj
        have hb := HAT.out k hk2 hj
        by_cases hk3 : k < Zero.z l
        · have hne := HZ1.out k hk3
          rw [hb] at hne
          have hnz : ((t[n + k].toNat : Int) == 0) = false := by
            have : t[n + k].toNat ≠ 0 := fun h => hne (UInt8.toNat_inj.1 h)
            simp; omega
          have hx1 := ext_one t (n + k) hj
          have hap : (ByteArray.mk (l.take k).toArray) ++ (ByteArray.mk #[t[n + k]]) = ⟨(l.take (k + 1)).toArray⟩ := by
            apply ByteArray.ext
            rw [take_snoc l k hk2]
            have : l[k] = t[n + k] := by rw [← hb, List.getD_eq_getElem?_getD, List.getElem?_eq_getElem hk2]; rfl
            rw [this]; simp
          have hsz : (ByteArray.mk (l.take k).toArray).size ≤ k := by show (l.take k).toArray.size ≤ _; rw [List.size_toArray, List.length_take]; omega
          have hadd : ∀ W, (Op.stringOp .add (ByteArray.mk (l.take k).toArray) (ByteArray.mk #[t[n + k]])).run Try.prog W = .ok (.string ⟨(l.take (k + 1)).toArray⟩) W := fun W => by
            rw [← hap]; exact run_string_add_sum W _ _ (by show _ + 1 ≤ _; omega)
          have hws := u64_le (n + k + 1) (by omega)
          have hws' : IntKind.u64.wrap (((n + k : Nat) : Int) + 1) = ((n + k : Nat) : Int) + 1 := by have := hws; push_cast at this ⊢; exact this
          have HK : Hid (n + k + 1 = n + (k + 1)) := Lib.hid rfl
          have hmeas : t.size - (n + k + 1) < t.size - (n + k) := by omega
          clear hap hsz hws hne hb
          generalize hX : (ByteArray.mk (l.take k).toArray) = X at *
          generalize hY : (ByteArray.mk (l.take (k + 1)).toArray) = Y at *
          have HY := Lib.hid hY; clear hY hX
          generalize hjj : n + k = j at *
          have HJ := Lib.hid hjj; clear hjj
          have hi0 : (0 : Int) ≤ (j : Int) := by omega
          have hi1 : (j : Int) ≤ (j : Int) + 1 := by omega
          have hi2 : (j : Int) + 1 ≤ (t.size : Int) := by omega
          go_wp2
          refine ⟨⟨k + 1, by omega, int_eq (by have := HJ.out; omega), by rw [HY.out]⟩, ?_⟩
          simp only [intOf]
          omega
        · obtain rfl : k = Zero.z l := by omega
          have hze := HZ2.out hk2
          have hbz : t[n + Zero.z l] = 0 := by
            rw [← hb]
            rw [List.getD_eq_getElem?_getD, List.getElem?_eq_getElem hk2] at hze ⊢
            exact hze
          have hnz : ((t[n + Zero.z l].toNat : Int) == 0) = true := by rw [hbz]; rfl
          have HE : Hid (textAt t n = .tuple #[.string ⟨(l.take (Zero.z l)).toArray⟩, .bool true]) := Lib.hid (by rw [HTA.out, if_pos hk2])
          clear hb hze hbz HTA
          generalize (ByteArray.mk (l.take (Zero.z l)).toArray) = X at *
          generalize n + Zero.z l = j at *
          have hi0 : (0 : Int) ≤ (j : Int) := by omega
          have hi1 : (j : Int) < (t.size : Int) := by omega
          go_wp2
          go_ret2
          exact ⟨by rw [HE.out]; rfl, rfl⟩
      · have hkz : ¬ Zero.z l < l.length := by omega
        have hd : decide (n + k < t.size) = false := by simp; omega
        have HE : Hid (textAt t n = .tuple #[.string ⟨#[]⟩, .bool false]) := Lib.hid (by rw [HTA.out, if_neg hkz])
        generalize n + k = j at *
        generalize (ByteArray.mk (l.take k).toArray) = X at *
        go_wp2
        go_ret2
        exact ⟨by rw [HE.out]; rfl, rfl⟩
  · have hd : decide (n < t.size) = false := by simp; omega
    have e : textAt t n = .tuple #[.string ⟨#[]⟩, .bool false] := by unfold textAt; rw [if_neg (fun h => h1 h.1)]
    rw [e]
    go_enter Try.func18, Try.ntmps18
    go_wp2
    refine wp_loop_rounds 1 ?_
    rw [rounds_succ]
    go_wp2
    go_ret2
    exact ⟨rfl, rfl⟩
end Go.Proofs.Ytddlflabdlgnbaa
