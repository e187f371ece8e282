/- Contracts of strings.IndexByte and strings.Cut at the byte 0, of strtab's Text, and of the reference's Text. Conditions: those written in each theorem. The contract of the reference's Text of layer 3. Conditions: those written in each theorem. Texts of a table at places; rows of strings, of numbers. Conditions: those written in each theorem. The contract of names' All. Conditions: those written in each theorem. The contract of the reference's Names. Conditions: those written in each theorem. The contract of names' Find. Conditions: those written in each theorem. Rows that come in; the first of a name. Conditions: those written in each theorem. -/
import Derived.Test.YtedocnidgiglaaaJA
import Derived.Laws.Externs
import Derived.RegionTactic
import Derived.Test.YtedocnidgiglaaaJC
import Derived.Laws.MakeOwn
import Derived.Laws.OwnMore
import Derived.ProofKit
import Derived.PlainAid
import Derived.OpenShut
namespace Go.Proofs.Ytedocnidgiglaaa
open Go.RowKit
namespace Zero
/-- Where the first byte 0 is; the length if there is none. -/
def z (l : List UInt8) : Nat := (l.takeWhile (· != 0)).length
theorem z_le (l : List UInt8) : z l ≤ l.length := (List.takeWhile_sublist _).length_le
theorem z_spec : ∀ l : List UInt8, (∀ j, j < z l → l.getD j 0 ≠ 0) ∧ (z l < l.length → l.getD (z l) 1 = 0)
  | [] => by simp [z]
  | c :: l => by
    obtain ⟨h1, h2⟩ := z_spec l
    by_cases hc : c = 0
    · subst hc
      simp [z]
    · have e : z (c :: l) = z l + 1 := by simp [z, hc]
      rw [e]
      constructor
      · intro j hj
        cases j with
        | zero => simpa using hc
        | succ j => have := h1 j (by omega); simpa using this
      · intro h
        have := h2 (by simpa using h)
        simpa using this
theorem take_z : ∀ l : List UInt8, l.take (z l) = l.takeWhile (· != 0)
  | [] => by simp [z]
  | c :: l => by
    by_cases hc : c = 0
    · subst hc; simp [z]
    · have e : z (c :: l) = z l + 1 := by simp [z, hc]
      rw [e]
      simp [hc, take_z l]
end Zero
theorem get_bang (s : ByteArray) (i : Nat) (h : i < s.size) : s[i]! = s.data.toList.getD i 0 := by
  rw [getElem!_pos s i h, List.getD_eq_getElem?_getD, List.getElem?_eq_getElem (by simpa using h)]
  rfl
theorem first_yes (s : ByteArray) (h : Zero.z s.data.toList < s.size) : firstIdx s 0 = (Zero.z s.data.toList : Int) := by
  obtain ⟨h1, h2⟩ := Zero.z_spec s.data.toList
  have hl : s.data.toList.length = s.size := by simp
  have : (List.range s.size).find? (fun i => s[i]! == 0) = some (Zero.z s.data.toList) := by
    rw [List.find?_range_eq_some]
    refine ⟨?_, by simpa using h, ?_⟩
    · have h3 := h2 (by omega)
      rw [get_bang s _ h]
      rw [List.getD_eq_getElem?_getD, List.getElem?_eq_getElem (by omega)] at h3 ⊢
      simpa using h3
    · intro j hj
      have h3 := h1 j hj
      rw [get_bang s j (by omega)]
      simpa using h3
  unfold firstIdx
  rw [this]
theorem first_no (s : ByteArray) (h : ¬ Zero.z s.data.toList < s.size) : firstIdx s 0 = -1 := by
  obtain ⟨h1, _⟩ := Zero.z_spec s.data.toList
  have : (List.range s.size).find? (fun i => s[i]! == 0) = none := by
    rw [List.find?_range_eq_none]
    intro j hj
    have h3 := h1 j (by omega)
    rw [get_bang s j (by omega)]
    simpa using h3
  unfold firstIdx
  rw [this]
set_option maxRecDepth 100000 in
theorem ib_any (s : ByteArray) (w : World) : Calls Try.prog 147 #[.string s, .int .u8 0] w fun e w' => e = .returned (.int .i64 (firstIdx s 0)) ∧ w = w' := by
  have h := run_indexByte_string (P := Try.prog) s 0 w
  have e0 : (0 : Int).toNat.toUInt8 = 0 := rfl
  rw [e0] at h
  go_enter Try.func147, Try.ntmps147
  go_wp2
  rw [run_callFunc_extern Try.func166 (by kernel_rfl) (by kernel_rfl) (by kernel_rfl) (e := Extern.BytealgIndexByte.indexByte) (by kernel_rfl)]
  rw [h]
  simp only [Result.andThen]
  rw [Oper.upon_value]
  generalize hi : firstIdx s 0 = i at *
  have HI := Lib.hid hi; clear h hi
  go_wp2
  go_ret
  exact ⟨by rw [HI.out]; rfl, rfl⟩
set_option maxRecDepth 100000 in
theorem ix_any (s : ByteArray) (w : World) : Calls Try.prog 146 #[.string s, .string ⟨#[0]⟩] w fun e w' => e = .returned (.int .i64 (firstIdx s 0)) ∧ w = w' := by
  by_cases hs : s = ⟨#[0]⟩
  · subst hs
    have e : firstIdx ⟨#[0]⟩ 0 = 0 := by kernel_rfl
    rw [e]
    go_enter Try.func146, Try.ntmps146
    go_wp2
    go_ret
    exact ⟨rfl, rfl⟩
  · have hne : ([0] == s.toList) = false := by
      rw [Bool.eq_false_iff]
      intro h
      have h2 : [0] = s.toList := by simpa using h
      apply hs
      rw [ByteArray.toList_eq] at h2
      apply ByteArray.ext
      apply Array.toList_inj.1
      exact h2.symm
    have hne2 : ¬ [0] = s.toList := by simpa using hne
    go_enter Try.func146, Try.ntmps146
    go_wp2_with (go_at_call 147; refine (ib_any _ _).mono ?_; rintro e w' ⟨rfl, rfl⟩)
    go_ret
    exact ⟨rfl, rfl⟩
theorem sib_any (s : ByteArray) (w : World) : Calls Try.prog 129 #[.string s, .int .u8 0] w fun e w' => e = .returned (.int .i64 (firstIdx s 0)) ∧ w = w' := by
  go_enter Try.func129, Try.ntmps129
  go_wp2_with (go_at_call 147; refine (ib_any _ _).mono ?_; rintro e w' ⟨rfl, rfl⟩)
  go_ret
  exact ⟨rfl, rfl⟩
/-- What Cut answers at the byte 0. -/
theorem lcut_yes (s : ByteArray) (w : World) (hm : s.size ≤ maxLen) (h : Zero.z s.data.toList < s.size) :
    Calls Try.prog 127 #[.string s, .string ⟨#[0]⟩] w fun e w' => e = .returned (.tuple #[.string (s.extract 0 (Zero.z s.data.toList)), .string (s.extract (Zero.z s.data.toList + 1) s.size), .bool true]) ∧ ∃ n, w' = w.drewN n := by
  unfold maxLen at hm
  have hf := first_yes s h
  have hx := ix_any s
  rw [hf] at hx
  have HX := Lib.hid hx; clear hx hf
  generalize Zero.z s.data.toList = k at *
  have h1 : (0 : Int) ≤ (k : Int) := by omega
  have h2 : (k : Int) ≤ (s.size : Int) := by omega
  have h3 : (0 : Int) ≤ (k : Int) + 1 := by omega
  have h4 : (k : Int) + 1 ≤ (s.size : Int) := by omega
  go_enter Try.func127, Try.ntmps127
  go_wp2_with fail
  refine (HX.out _).mono ?_
  rintro e w1 ⟨rfl, rfl⟩
  go_wp2
  have hw : IntKind.i64.wrap ((k : Int) + 1) = (k : Int) + 1 := IntWalk.i64_in _ (by omega)
  go_quiet (fail)
  go_wp2
  exact bodyPost_ret (v := .tuple #[.string (s.extract 0 k), .string (s.extract (k + 1) s.size), .bool true]) (by simp [results, Try.results127, go_sem]) rfl ⟨rfl, nq, rfl⟩
theorem lcut_no (s : ByteArray) (w : World) (h : ¬ Zero.z s.data.toList < s.size) :
    Calls Try.prog 127 #[.string s, .string ⟨#[0]⟩] w fun e w' => e = .returned (.tuple #[.string s, .string ⟨#[]⟩, .bool false]) ∧ w = w' := by
  have hf := first_no s h
  have hx := ix_any s
  rw [hf] at hx
  have HX := Lib.hid hx; clear hx hf
  go_enter Try.func127, Try.ntmps127
  go_wp2_with fail
  refine (HX.out _).mono ?_
  rintro e w1 ⟨rfl, rfl⟩
  go_wp2
  exact bodyPost_ret (v := .tuple #[.string s, .string ⟨#[]⟩, .bool false]) (by simp [results, Try.results127, go_sem]) rfl ⟨rfl, rfl⟩
theorem cut_yes (s : ByteArray) (w : World) (hm : s.size ≤ maxLen) (h : Zero.z s.data.toList < s.size) :
    Calls Try.prog 101 #[.string s, .string ⟨#[0]⟩] w fun e w' => e = .returned (.tuple #[.string (s.extract 0 (Zero.z s.data.toList)), .string (s.extract (Zero.z s.data.toList + 1) s.size), .bool true]) ∧ ∃ n, w' = w.drewN n := by
  have hx := lcut_yes s w hm h
  have HX := Lib.hid hx; clear hx
  generalize (s.extract 0 (Zero.z s.data.toList)) = A at *
  generalize (s.extract (Zero.z s.data.toList + 1) s.size) = B at *
  go_enter Try.func101, Try.ntmps101
  go_wp2_with fail
  refine HX.out.mono ?_
  rintro e w1 ⟨rfl, n, rfl⟩
  go_wp2
  exact bodyPost_ret (v := .tuple #[.string A, .string B, .bool true]) (by simp [results, Try.results101, go_sem]) rfl ⟨rfl, n, rfl⟩
theorem cut_no (s : ByteArray) (w : World) (h : ¬ Zero.z s.data.toList < s.size) :
    Calls Try.prog 101 #[.string s, .string ⟨#[0]⟩] w fun e w' => e = .returned (.tuple #[.string s, .string ⟨#[]⟩, .bool false]) ∧ w = w' := by
  have hx := lcut_no s w h
  have HX := Lib.hid hx; clear hx
  go_enter Try.func101, Try.ntmps101
  go_wp2_with fail
  refine HX.out.mono ?_
  rintro e w1 ⟨rfl, rfl⟩
  go_wp2
  exact bodyPost_ret (v := .tuple #[.string s, .string ⟨#[]⟩, .bool false]) (by simp [results, Try.results101, go_sem]) rfl ⟨rfl, rfl⟩
/-- What Text answers: its bytes, and whether there is one. -/
def textAt (t : ByteArray) (n : Nat) : Value :=
  if n < t.size ∧ Zero.z (t.extract n t.size).data.toList < (t.extract n t.size).size then .tuple #[.string ((t.extract n t.size).extract 0 (Zero.z (t.extract n t.size).data.toList)), .bool true] else .tuple #[.string ⟨#[]⟩, .bool false]
theorem text_any (t : ByteArray) (n : Nat) (w : World) (hm : t.size ≤ maxLen) :
    Calls Try.prog 70 #[.string t, .int .u64 n] w fun e w' => e = .returned (textAt t n) ∧ ∃ m, w' = w.drewN m := by
  have hm0 := hm
  unfold maxLen at hm
  have hw : IntKind.u64.wrap (t.size : Int) = (t.size : Int) := by rw [IntKind.wrap_u64]; omega
  by_cases h1 : n < t.size
  · have hd : decide (t.size ≤ n) = false := by simp; omega
    have hi0 : (0 : Int) ≤ (n : Int) := by omega
    have hi1 : (n : Int) ≤ (t.size : Int) := by omega
    have hsz : (t.extract n t.size).size ≤ maxLen := by unfold maxLen; simp; omega
    by_cases h2 : Zero.z (t.extract n t.size).data.toList < (t.extract n t.size).size
    · have e : textAt t n = .tuple #[.string ((t.extract n t.size).extract 0 (Zero.z (t.extract n t.size).data.toList)), .bool true] := by unfold textAt; rw [if_pos ⟨h1, h2⟩]
      rw [e]
      have hc := cut_yes (t.extract n t.size) w hsz h2
      have HC := Lib.hid hc; clear hc e h2 hsz
      generalize ((t.extract n t.size).extract 0 (Zero.z (t.extract n t.size).data.toList)) = A at *
      generalize ((t.extract n t.size).extract (Zero.z (t.extract n t.size).data.toList + 1) (t.extract n t.size).size) = B at *
      go_enter Try.func70, Try.ntmps70
      go_wp2_with fail
      refine HC.out.mono ?_
      rintro e w1 ⟨rfl, m, rfl⟩
      go_wp2
      go_ret2
      exact ⟨rfl, m, rfl⟩
    · have e : textAt t n = .tuple #[.string ⟨#[]⟩, .bool false] := by unfold textAt; rw [if_neg (fun h => h2 h.2)]
      rw [e]
      have hc := cut_no (t.extract n t.size) w h2
      have HC := Lib.hid hc; clear hc e h2 hsz
      go_enter Try.func70, Try.ntmps70
      go_wp2_with fail
      refine HC.out.mono ?_
      rintro e w1 ⟨rfl, rfl⟩
      go_wp2
      go_ret2
      exact ⟨rfl, 0, rfl⟩
  · have hd : decide (t.size ≤ n) = true := by simp; omega
    have e : textAt t n = .tuple #[.string ⟨#[]⟩, .bool false] := by unfold textAt; rw [if_neg (fun h => h1 h.1)]
    rw [e]
    go_enter Try.func70, Try.ntmps70
    go_wp2
    go_ret2
    exact ⟨rfl, 0, rfl⟩
end Go.Proofs.Ytedocnidgiglaaa
namespace Go.Proofs.Ytedocnidgiglaaa
open Go.RowKit
theorem ext_list (t : ByteArray) (n : Nat) : (t.extract n t.size).data.toList = t.data.toList.drop n := by
  have e : (t.extract n t.size).data.toList = (t.data.toList.drop n).take (t.size - n) := by simp
  rw [e, List.take_of_length_le (by simp)]
theorem ext_one (t : ByteArray) (j : Nat) (h : j < t.size) : t.extract j (j + 1) = ⟨#[t[j]]⟩ := by
  apply ByteArray.ext
  apply Array.toList_inj.1
  have e : (t.extract j (j + 1)).data.toList = (t.data.toList.drop j).take 1 := by simp
  rw [e, List.drop_eq_getElem_cons (by simpa using h)]
  rfl
theorem u64_le (m : Nat) (h : m ≤ 9223372036854775807) : IntKind.u64.wrap (m : Int) = (m : Int) := by rw [IntKind.wrap_u64]; omega
set_option maxRecDepth 100000 in
set_option maxHeartbeats 2000000 in
theorem refText_any (t : ByteArray) (n : Nat) (w : World) (hm : t.size ≤ maxLen) :
    Calls Try.prog 69 #[.string t, .int .u64 n] w fun e w' => e = .returned (textAt t n) ∧ w = w' := by
  unfold maxLen at hm
  have hw := u64_le t.size (by omega)
  by_cases h1 : n < t.size
  · obtain ⟨l, hl⟩ : ∃ l, t.data.toList.drop n = l := ⟨_, rfl⟩
    have hlen : l.length = t.size - n := by rw [← hl]; simp
    have hz := Zero.z_le l
    obtain ⟨hz1, hz2⟩ := Zero.z_spec l
    have hat : ∀ k, k < l.length → ∀ h : n + k < t.size, l.getD k 0 = t[n + k] := fun k hk h => by
      rw [← hl, List.getD_eq_getElem?_getD, List.getElem?_drop, List.getElem?_eq_getElem (by simpa using h)]; rfl
    have hta : textAt t n = if Zero.z l < l.length then .tuple #[.string ⟨(l.take (Zero.z l)).toArray⟩, .bool true] else .tuple #[.string ⟨#[]⟩, .bool false] := by
      unfold textAt
      have e1 : (t.extract n t.size).data.toList = l := (ext_list t n).trans hl
      have e2 : (t.extract n t.size).size = l.length := by rw [← e1]; simp
      rw [e1, e2]
      by_cases h2 : Zero.z l < l.length
      · rw [if_pos ⟨h1, h2⟩, if_pos h2]
        congr 3
        congr 1
        apply ByteArray.ext
        apply Array.toList_inj.1
        have e3 : ∀ u : ByteArray, (u.extract 0 (Zero.z l)).data.toList = u.data.toList.take (Zero.z l) := fun u => by simp
        rw [e3, e1]
      · rw [if_neg (fun h => h2 h.2), if_neg h2]
    have HTA := Lib.hid hta; clear hta
    have HZ1 := Lib.hid hz1; clear hz1
    have HZ2 := Lib.hid hz2; clear hz2
    have HAT := Lib.hid hat; clear hat
    have HL := Lib.hid hl; clear hl
    go_enter Try.func69, Try.ntmps69
    go_wp2
    go_loop [6, 7] (fun s i => ∃ k : Nat, k ≤ Zero.z l ∧ i = .int .u64 ((n + k : Nat) : Int) ∧ s = .string ⟨(l.take k).toArray⟩) (fun _ i => t.size - (intOf i).toNat)
    case atStart => exact ⟨0, Nat.zero_le _, rfl, rfl⟩
    case round =>
      obtain ⟨k, hk, rfl, rfl⟩ := hrel
      by_cases hk2 : k < l.length
      · have hj : n + k < t.size := by omega
        have hd : decide (n + k < t.size) = true := by simpa using hj
        have hb := HAT.out k hk2 hj
        by_cases hk3 : k < Zero.z l
        · have hne := HZ1.out k hk3
          rw [hb] at hne
          have hnz : ((t[n + k].toNat : Int) == 0) = false := by
            have : t[n + k].toNat ≠ 0 := fun h => hne (UInt8.toNat_inj.1 h)
            simp; omega
          have hx1 := ext_one t (n + k) hj
          have hap : (ByteArray.mk (l.take k).toArray) ++ (ByteArray.mk #[t[n + k]]) = ⟨(l.take (k + 1)).toArray⟩ := by
            apply ByteArray.ext
            rw [take_snoc l k hk2]
            have : l[k] = t[n + k] := by rw [← hb, List.getD_eq_getElem?_getD, List.getElem?_eq_getElem hk2]; rfl
            rw [this]; simp
          have hsz : (ByteArray.mk (l.take k).toArray).size ≤ k := by show (l.take k).toArray.size ≤ _; rw [List.size_toArray, List.length_take]; omega
          have hadd : ∀ W, (Op.stringOp .add (ByteArray.mk (l.take k).toArray) (ByteArray.mk #[t[n + k]])).run Try.prog W = .ok (.string ⟨(l.take (k + 1)).toArray⟩) W := fun W => by
            rw [← hap]; exact run_string_add_sum W _ _ (by show _ + 1 ≤ _; omega)
          have hws := u64_le (n + k + 1) (by omega)
          have hws' : IntKind.u64.wrap (((n + k : Nat) : Int) + 1) = ((n + k : Nat) : Int) + 1 := by have := hws; push_cast at this ⊢; exact this
          have HK : Hid (n + k + 1 = n + (k + 1)) := Lib.hid rfl
          have hmeas : t.size - (n + k + 1) < t.size - (n + k) := by omega
          clear hap hsz hws hne hb
          generalize hX : (ByteArray.mk (l.take k).toArray) = X at *
          generalize hY : (ByteArray.mk (l.take (k + 1)).toArray) = Y at *
          have HY := Lib.hid hY; clear hY hX
          generalize hjj : n + k = j at *
          have HJ := Lib.hid hjj; clear hjj
          have hi0 : (0 : Int) ≤ (j : Int) := by omega
          have hi1 : (j : Int) ≤ (j : Int) + 1 := by omega
          have hi2 : (j : Int) + 1 ≤ (t.size : Int) := by omega
          go_wp2
          refine ⟨⟨k + 1, by omega, int_eq (by have := HJ.out; omega), by rw [HY.out]⟩, ?_⟩
          simp only [intOf]
          omega
        · obtain rfl : k = Zero.z l := by omega
          have hze := HZ2.out hk2
          have hbz : t[n + Zero.z l] = 0 := by
            rw [← hb]
            rw [List.getD_eq_getElem?_getD, List.getElem?_eq_getElem hk2] at hze ⊢
            exact hze
          have hnz : ((t[n + Zero.z l].toNat : Int) == 0) = true := by rw [hbz]; rfl
          have HE : Hid (textAt t n = .tuple #[.string ⟨(l.take (Zero.z l)).toArray⟩, .bool true]) := Lib.hid (by rw [HTA.out, if_pos hk2])
          clear hb hze hbz HTA
          generalize (ByteArray.mk (l.take (Zero.z l)).toArray) = X at *
          generalize n + Zero.z l = j at *
          have hi0 : (0 : Int) ≤ (j : Int) := by omega
          have hi1 : (j : Int) < (t.size : Int) := by omega
          go_wp2
          go_ret2
          exact ⟨by rw [HE.out]; rfl, rfl⟩
      · have hkz : ¬ Zero.z l < l.length := by omega
        have hd : decide (n + k < t.size) = false := by simp; omega
        have HE : Hid (textAt t n = .tuple #[.string ⟨#[]⟩, .bool false]) := Lib.hid (by rw [HTA.out, if_neg hkz])
        generalize n + k = j at *
        generalize (ByteArray.mk (l.take k).toArray) = X at *
        go_wp2
        go_ret2
        exact ⟨by rw [HE.out]; rfl, rfl⟩
  · have hd : decide (n < t.size) = false := by simp; omega
    have e : textAt t n = .tuple #[.string ⟨#[]⟩, .bool false] := by unfold textAt; rw [if_neg (fun h => h1 h.1)]
    rw [e]
    go_enter Try.func69, Try.ntmps69
    go_wp2
    refine wp_loop_rounds 1 ?_
    rw [rounds_succ]
    go_wp2
    go_ret2
    exact ⟨rfl, rfl⟩
end Go.Proofs.Ytedocnidgiglaaa
namespace Go.Proofs.Ytedocnidgiglaaa
open Go.RowKit
set_option linter.unusedVariables false
def okT (t : ByteArray) (n : Nat) : Bool := decide (n < t.size ∧ Zero.z (t.extract n t.size).data.toList < (t.extract n t.size).size)
def strAt (t : ByteArray) (n : Nat) : ByteArray := if okT t n = true then (t.extract n t.size).extract 0 (Zero.z (t.extract n t.size).data.toList) else ⟨#[]⟩
theorem textAt_is (t : ByteArray) (n : Nat) : textAt t n = .tuple #[.string (strAt t n), .bool (okT t n)] := by
  unfold textAt strAt
  by_cases h : n < t.size ∧ Zero.z (t.extract n t.size).data.toList < (t.extract n t.size).size
  · have h1 : okT t n = true := decide_eq_true h
    rw [if_pos h, if_pos h1, h1]
  · have h1 : okT t n = false := decide_eq_false h
    rw [if_neg h, h1, if_neg Bool.false_ne_true]
theorem text_b (t : ByteArray) (n : Nat) (w : World) (hm : t.size ≤ maxLen) :
    Calls Try.prog 70 #[.string t, .int .u64 n] w fun e w' => e = .returned (.tuple #[.string (strAt t n), .bool (okT t n)]) ∧ Below w.heap.size w w' := by
  refine (text_any t n w hm).mono ?_
  rintro e w' ⟨rfl, m, rfl⟩
  exact ⟨by rw [textAt_is], (Below.refl _ _).trans ⟨rfl, rfl, rfl, Nat.le_refl _, fun _ _ => rfl⟩⟩
theorem refText_b (t : ByteArray) (n : Nat) (w : World) (hm : t.size ≤ maxLen) :
    Calls Try.prog 69 #[.string t, .int .u64 n] w fun e w' => e = .returned (.tuple #[.string (strAt t n), .bool (okT t n)]) ∧ w = w' := by
  refine (refText_any t n w hm).mono ?_
  rintro e w' ⟨rfl, rfl⟩
  exact ⟨by rw [textAt_is], rfl⟩
/-- Numbers that can be read. -/
def RowU (w : World) (A : Option Addr) (n : Nat) (R : Nat → Nat) : Prop := ∀ i, i < n → ∃ b o, A = some ⟨b, o, none⟩ ∧ b < w.heap.size ∧ w.cell? ⟨b, o + i, none⟩ = some (.int .u64 (R i : Nat))
theorem RowU.low {w w' : World} {A : Option Addr} {n : Nat} {R : Nat → Nat} (h : RowU w A n R) (hb : Below w.heap.size w w') : RowU w' A n R := fun i hi => by
  obtain ⟨b, o, e, hl, h0⟩ := h i hi
  exact ⟨b, o, e, Nat.lt_of_lt_of_le hl hb.size, (hb.cell (p := ⟨b, _, none⟩) hl).trans h0⟩
/-- Strings that can be read. -/
def RowS (w : World) (A : Option Addr) (n : Nat) (f : Nat → ByteArray) : Prop := ∀ i, i < n → ∃ b o, A = some ⟨b, o, none⟩ ∧ b < w.heap.size ∧ w.cell? ⟨b, o + i, none⟩ = some (.string (f i))
theorem RowS.low {w w' : World} {A : Option Addr} {n : Nat} {R : Nat → ByteArray} (h : RowS w A n R) (hb : Below w.heap.size w w') : RowS w' A n R := fun i hi => by
  obtain ⟨b, o, e, hl, h0⟩ := h i hi
  exact ⟨b, o, e, Nat.lt_of_lt_of_le hl hb.size, (hb.cell (p := ⟨b, _, none⟩) hl).trans h0⟩
/-- A row of n strings of which the first k are told. -/
def rowT (f : Nat → ByteArray) (n k : Nat) : Array Value := ((List.range n).map fun i => Value.string (if i < k then f i else ⟨#[]⟩)).toArray
theorem rowT_at (f : Nat → ByteArray) (n k i : Nat) : (rowT f n k)[i]? = if i < n then some (.string (if i < k then f i else ⟨#[]⟩)) else none := by
  unfold rowT
  rw [List.getElem?_toArray, List.getElem?_map]
  by_cases h : i < n
  · rw [List.getElem?_range h, if_pos h]; rfl
  · rw [List.getElem?_eq_none (by simp; omega), if_neg h]; rfl
theorem rowT_size (f : Nat → ByteArray) (n k : Nat) : (rowT f n k).size = n := by simp [rowT]
theorem rowT_set (f : Nat → ByteArray) (n k : Nat) (h : k < n) : (rowT f n k).setIfInBounds k (.string (f k)) = rowT f n (k + 1) := by
  apply Array.ext_getElem?
  intro i
  rw [Array.getElem?_setIfInBounds, rowT_at, rowT_at, rowT_size]
  by_cases h1 : k = i
  · subst h1
    rw [if_pos rfl, if_pos h, if_pos h, if_pos (by omega)]
  · rw [if_neg h1]
    by_cases h2 : i < n
    · rw [if_pos h2, if_pos h2]
      by_cases h3 : i < k
      · rw [if_pos h3, if_pos (by omega)]
      · rw [if_neg h3, if_neg (by omega)]
    · rw [if_neg h2, if_neg h2]
theorem infoS : (Try.prog.info? 9).map (fun i => (i.zero, i.size, i.bytes)) = some (some (.string ⟨#[]⟩), 1, 16) := by kernel_rfl
theorem mkS (f : Nat → ByteArray) (n : Nat) (hn : n ≤ 100000) (w : World) : (Instr.makeSlice 79 (.int .i64 (n : Int)) (.int .i64 (n : Int))).run Try.prog w = .ok (.slice (some ⟨w.heap.size, 0, none⟩) n n) (w.alloc (.cells (rowT f n 0) 9)) := by
  obtain ⟨i0, hi, hz0, hz1, hz2⟩ := info_parts infoS
  have := run_make w 79 9 i0 (.string ⟨#[]⟩) Try.underlying79 hi hz0 .i64 .i64 n n (by omega) (by omega) (by rw [hz2]; omega) (by omega)
  rw [this, hz1]
  simp only [Int.toNat_natCast, Nat.mul_one]
  have e : madeCells (Value.string ⟨#[]⟩).cells n = rowT f n 0 := by
    apply Array.ext_getElem?
    intro i
    rw [rowT_at]
    unfold madeCells
    by_cases h : i < n
    · simp [h, Value.cells, Nat.mod_one]
    · simp [h]
  rw [e]
theorem infoU : (Try.prog.info? 29).map (fun i => (i.zero, i.size, i.bytes)) = some (some (.int .u64 0), 1, 8) := by kernel_rfl
/-- A row of n numbers of which the first k are told. -/
def rowV (f : Nat → Nat) (n k : Nat) : Array Value := ((List.range n).map fun i => Value.int .u64 ((if i < k then f i else 0 : Nat) : Int)).toArray
theorem rowV_at (f : Nat → Nat) (n k i : Nat) : (rowV f n k)[i]? = if i < n then some (.int .u64 ((if i < k then f i else 0 : Nat) : Int)) else none := by
  unfold rowV
  rw [List.getElem?_toArray, List.getElem?_map]
  by_cases h : i < n
  · rw [List.getElem?_range h, if_pos h]; rfl
  · rw [List.getElem?_eq_none (by simp; omega), if_neg h]; rfl
theorem rowV_size (f : Nat → Nat) (n k : Nat) : (rowV f n k).size = n := by simp [rowV]
theorem rowV_set (f : Nat → Nat) (n k : Nat) (h : k < n) : (rowV f n k).setIfInBounds k (.int .u64 (f k : Nat)) = rowV f n (k + 1) := by
  apply Array.ext_getElem?
  intro i
  rw [Array.getElem?_setIfInBounds, rowV_at, rowV_at, rowV_size]
  by_cases h1 : k = i
  · subst h1
    rw [if_pos rfl, if_pos h, if_pos h, if_pos (by omega)]
  · rw [if_neg h1]
    by_cases h2 : i < n
    · rw [if_pos h2, if_pos h2]
      by_cases h3 : i < k
      · rw [if_pos h3, if_pos (by omega)]
      · rw [if_neg h3, if_neg (by omega)]
    · rw [if_neg h2, if_neg h2]
theorem mkU (f : Nat → Nat) (n : Nat) (hn : n ≤ 100000) (w : World) : (Instr.makeSlice 76 (.int .i64 (n : Int)) (.int .i64 (n : Int))).run Try.prog w = .ok (.slice (some ⟨w.heap.size, 0, none⟩) n n) (w.alloc (.cells (rowV f n 0) 29)) := by
  obtain ⟨i0, hi, hz0, hz1, hz2⟩ := info_parts infoU
  have := run_make w 76 29 i0 (.int .u64 0) Try.underlying76 hi hz0 .i64 .i64 n n (by omega) (by omega) (by rw [hz2]; omega) (by omega)
  rw [this, hz1]
  simp only [Int.toNat_natCast, Nat.mul_one]
  have e : madeCells (Value.int .u64 0).cells n = rowV f n 0 := by
    apply Array.ext_getElem?
    intro i
    rw [rowV_at]
    unfold madeCells
    by_cases h : i < n
    · simp [h, Value.cells, Nat.mod_one]
    · simp [h]
  rw [e]
theorem rowS_of_block {w : World} {b n : Nat} {f : Nat → ByteArray} (h : w.heap[b]? = some (.cells (rowT f n n) 9 (0, 0))) : RowS w (some ⟨b, 0, none⟩) n f := fun i hi => by
  refine ⟨b, 0, rfl, heap_lt h, ?_⟩
  rw [Lib.cell_of_heap h, Nat.zero_add]
  show (rowT f n n)[i]? = _
  rw [rowT_at, if_pos hi, if_pos hi]
theorem rowU_of_block {w : World} {b n : Nat} {f : Nat → Nat} (h : w.heap[b]? = some (.cells (rowV f n n) 29 (0, 0))) : RowU w (some ⟨b, 0, none⟩) n f := fun i hi => by
  refine ⟨b, 0, rfl, heap_lt h, ?_⟩
  rw [Lib.cell_of_heap h, Nat.zero_add]
  show (rowV f n n)[i]? = _
  rw [rowV_at, if_pos hi, if_pos hi]
theorem cells_new (w : World) (l : List Value) (t : TypeId) : ∀ j u, l[j]? = some u → (w.alloc (.cells l.toArray t)).cell? ((⟨w.heap.size, 0, none⟩ : Addr).add j) = some u := fun j u h => by
  rw [Go.WideShapes.add_plain, Nat.zero_add, Lib.cell_of_heap (heap_alloc_new w _)]
  simpa using h
theorem own_floor {w : World} {B e size n : Nat} {v : Value} {xs : List Value} (h : w.ownsRow B e size v n xs) : ∀ k, v.ownBlock = some k → B ≤ k := fun k hk => by
  rcases h.2 with ⟨rfl, _⟩ | ⟨g, cap, cur, rfl, h2, _⟩
  · cases hk
  · cases hk; exact h2
def strV (f : Nat → ByteArray) (n : Nat) : List Value := (List.range n).map fun i => .string (f i)
theorem strV_len (f : Nat → ByteArray) (n : Nat) : (strV f n).length = n := by simp [strV]
theorem strV_snoc (f : Nat → ByteArray) (n : Nat) : strV f (n + 1) = strV f n ++ [.string (f n)] := by simp [strV, List.range_succ]
theorem own_rowS {w : World} {base n : Nat} {v : Value} {f : Nat → ByteArray} (h : w.ownsRow base 9 1 v n (strV f n)) : ∃ A c, v = .slice A n c ∧ RowS w A n f := by
  rcases h.2 with ⟨rfl, rfl⟩ | ⟨g, cap, cur, rfl, _, hb, _, _, _, ht⟩
  · exact ⟨none, 0, rfl, fun i hi => absurd hi (Nat.not_lt_zero _)⟩
  · refine ⟨_, cap, rfl, fun i hi => ⟨g, 0, rfl, heap_lt hb, ?_⟩⟩
    rw [Lib.cell_of_heap hb, Nat.zero_add]
    show cur[i]? = _
    have h4 : cur.toList[i]? = (cur.toList.take (n * 1))[i]? := (List.getElem?_take_of_lt (by omega)).symm
    rw [← Array.getElem?_toList, h4, ht, strV, List.getElem?_map, List.getElem?_range hi]; rfl
/-- Are all of the first n places ones of a text? -/
def allB (t : ByteArray) (R : Nat → Nat) (n : Nat) : Bool := (List.range n).all fun i => okT t (R i)
theorem allB_zero (t : ByteArray) (R : Nat → Nat) : allB t R 0 = true := rfl
theorem allB_yes {t : ByteArray} {R : Nat → Nat} {n : Nat} (h : allB t R n = true) (i : Nat) (hi : i < n) : okT t (R i) = true := by
  unfold allB at h
  rw [List.all_eq_true] at h
  exact h i (List.mem_range.2 hi)
theorem allB_no {t : ByteArray} {R : Nat → Nat} {n : Nat} (i : Nat) (hi : i < n) (h : okT t (R i) = false) : allB t R n = false := by
  rcases hb : allB t R n with _ | _
  · rfl
  · have := allB_yes hb i hi
    rw [h] at this; exact absurd this (by decide)
theorem allB_snoc {t : ByteArray} {R : Nat → Nat} {n : Nat} (h : allB t R n = true) (h2 : okT t (R n) = true) : allB t R (n + 1) = true := by
  unfold allB at *
  rw [List.range_succ, List.all_append, h]
  simp [h2]
end Go.Proofs.Ytedocnidgiglaaa
namespace Go.Proofs.Ytedocnidgiglaaa
open Go.RowKit
set_option linter.unusedVariables false
def AllPost (t : ByteArray) (R : Nat → Nat) (n : Nat) (w : World) (e : Ending) (w' : World) : Prop :=
  Below w.heap.size w w' ∧ ((allB t R n = true ∧ ∃ b, w.heap.size ≤ b ∧ e = .returned (.tuple #[.slice (some ⟨b, 0, none⟩) n n, .int .i64 0]) ∧ w'.heap[b]? = some (.cells (rowT (fun i => strAt t (R i)) n n) 9 (0, 0))) ∨
    (allB t R n = false ∧ e = .returned (.tuple #[.slice none 0 0, .int .i64 12])))
set_option maxRecDepth 100000 in
set_option maxHeartbeats 2000000 in
theorem all_any (t : ByteArray) (A : Option Addr) (n cap : Nat) (R : Nat → Nat) (hn : n ≤ 100000) (hm : t.size ≤ maxLen) (w : World) (hR : RowU w A n R) :
    Calls Try.prog 34 #[.string t, .slice A n cap] w (AllPost t R n w) := by
  have HR := Lib.hid hR; clear hR
  have HT := Lib.hid (fun k u => text_b t k u hm); clear hm
  have hmk := mkS (fun i => strAt t (R i)) n hn w
  go_enter Try.func34, Try.ntmps34
  go_upto_block 0 with (fail)
  clear hmk
  have hr0 := heap_alloc_new w (.cells (rowT (fun i => strAt t (R i)) n 0) 9)
  have hB0 : Below w.heap.size w (w.alloc (.cells (rowT (fun i => strAt t (R i)) n 0) 9)) := below_more (Below.refl _ _) _
  generalize w.alloc (.cells (rowT (fun i => strAt t (R i)) n 0) 9) = W1 at *
  have HR0 := Lib.hid hr0; have HB0 := Lib.hid hB0; clear hr0 hB0
  obtain ⟨b, hb⟩ : ∃ b, b = w.heap.size := ⟨_, rfl⟩
  rw [← hb] at HR0 ⊢
  have hbw : w.heap.size ≤ b := by omega
  clear hb
  go_wp2
  go_loopw [16] (fun i wr => ∃ k : Nat, k ≤ n ∧ i = .int .i64 (k : Int) ∧ allB t R k = true ∧ wr.heap[b]? = some (.cells (rowT (fun i => strAt t (R i)) n k) 9 (0, 0)) ∧ Below w.heap.size w wr) (fun i _ => n - (intOf i).toNat)
  case atStart => exact ⟨0, Nat.zero_le _, rfl, allB_zero _ _, HR0.out, HB0.out⟩
  case round =>
    obtain ⟨k, hk, rfl, hall, hrow, hB⟩ := hrel
    have HROW := Lib.hid hrow; have HB := Lib.hid hB; have HALL := Lib.hid hall; clear hrow hB hall
    by_cases hlt : k < n
    · obtain ⟨bb, o, rfl, hbl, hc0⟩ := HR.out.low HB.out k hlt
      have k0 : (0 : Int) ≤ (k : Int) := by omega
      have k1 : (k : Int) < (n : Int) := by omega
      have k2 : k + 1 ≤ 1048576 := by omega
      have HT1 := Lib.hid (HT.out (R k))
      have hst : Hid (rowT (fun i => strAt t (R i)) n (k + 1) = (rowT (fun i => strAt t (R i)) n k).setIfInBounds k (.string (strAt t (R k)))) := Lib.hid (rowT_set (fun i => strAt t (R i)) n k hlt).symm
      rcases hok : okT t (R k) with _ | _
      · rw [hok] at HT1
        have HNO := Lib.hid (allB_no k hlt hok)
        clear hok
        generalize strAt t (R k) = z at *
        go_wp2_with (go_at_call 70; with_reducible refine (HT1.out _).mono ?_; rintro e w5 ⟨rfl, b5⟩)
        go_ret2
        exact ⟨HB.out.trans (b5.mono HB.out.size), .inr ⟨HNO.out, rfl⟩⟩
      · rw [hok] at HT1
        have HYES := Lib.hid (allB_snoc HALL.out hok)
        clear hok
        generalize strAt t (R k) = z at *
        go_upto_region 6 with (go_at_call 70; with_reducible refine (HT1.out _).mono ?_; rintro e w5 ⟨rfl, b5⟩)
        have hrow5 := heap_low HROW.out b5
        have HB5 := Lib.hid (HB.out.trans (b5.mono HB.out.size))
        have hst5 := heap_lt hrow5
        have HT5 : Hid ((w5.setCell ⟨b, k, none⟩ (.string z)).heap[b]? = some (.cells ((rowT (fun i => strAt t (R i)) n k).setIfInBounds k (.string z)) 9 (0, 0))) := Lib.hid (Lib.heap_setCell_same hrow5 _)
        have hc5 : w5.cell? ⟨b, k, none⟩ = some (.string ⟨#[]⟩) := by rw [Lib.cell_of_heap hrow5]; show (rowT _ n k)[k]? = _; rw [rowT_at, if_pos hlt, if_neg (by omega)]
        have hf5 : w5.frozen? ⟨b, k, none⟩ = false := Lib.frozen_of_heap hrow5 _
        clear b5 hrow5
        go_wp2
        refine ⟨⟨k + 1, by omega, by go_num, HYES.out, by rw [hst.out]; exact HT5.out, HB5.out.setCell (p := ⟨b, k, none⟩) hbw _⟩, by simp [intOf]; omega⟩
    · obtain rfl : k = n := by omega
      go_wp2
      go_ret2
      exact ⟨HB.out, .inl ⟨HALL.out, b, hbw, rfl, HROW.out⟩⟩
end Go.Proofs.Ytedocnidgiglaaa
namespace Go.Proofs.Ytedocnidgiglaaa
open Go.RowKit
set_option linter.unusedVariables false
def NamesPost (t : ByteArray) (R : Nat → Nat) (n : Nat) (w : World) (e : Ending) (w' : World) : Prop :=
  Below w.heap.size w w' ∧ ((allB t R n = true ∧ ∃ A c, e = .returned (.tuple #[.slice A n c, .bool true]) ∧ RowS w' A n (fun i => strAt t (R i))) ∨
    (allB t R n = false ∧ e = .returned (.tuple #[.slice none 0 0, .bool false])))
set_option maxRecDepth 100000 in
set_option maxHeartbeats 2000000 in
theorem refNames_any (t : ByteArray) (A : Option Addr) (n cap : Nat) (R : Nat → Nat) (hn : n ≤ 100000) (hm : t.size ≤ maxLen) (w : World) (hR : RowU w A n R) :
    Calls Try.prog 33 #[.string t, .slice A n cap] w (NamesPost t R n w) := by
  obtain ⟨i0, hi, hz0, hz1, hz2⟩ := info_parts infoS
  have HR := Lib.hid hR; clear hR
  have HT := Lib.hid (fun k u => refText_b t k u hm); clear hm
  go_enter Try.func33, Try.ntmps33
  go_wp2
  go_loopw [6, 7] (fun v i wr => ∃ k : Nat, k ≤ n ∧ i = .int .i64 (k : Int) ∧ allB t R k = true ∧ wr.ownsRow w.heap.size 9 1 v k (strV (fun i => strAt t (R i)) k) ∧ Below w.heap.size w wr) (fun _ i _ => n - (intOf i).toNat)
  case atStart => exact ⟨0, Nat.zero_le _, rfl, allB_zero _ _, World.ownsRow_nil _ _ _ _, Below.refl _ _⟩
  case round =>
    obtain ⟨k, hk, rfl, hall, hown, hB⟩ := hrel
    have HOWN := Lib.hid hown; have HB := Lib.hid hB; have HALL := Lib.hid hall; clear hown hB hall
    by_cases hlt : k < n
    · obtain ⟨bb, o, rfl, hbl, hc0⟩ := HR.out.low HB.out k hlt
      have k0 : (0 : Int) ≤ (k : Int) := by omega
      have k1 : (k : Int) < (n : Int) := by omega
      have k2 : k + 1 ≤ 1048576 := by omega
      have HT1 := Lib.hid (HT.out (R k))
      have hst : Hid (strV (fun i => strAt t (R i)) (k + 1) = strV (fun i => strAt t (R i)) k ++ [.string (strAt t (R k))]) := Lib.hid (strV_snoc (fun i => strAt t (R i)) k)
      have hsz := HB.out.size
      rcases hok : okT t (R k) with _ | _
      · rw [hok] at HT1
        have HNO := Lib.hid (allB_no k hlt hok)
        clear hok
        generalize strAt t (R k) = z at *
        go_wp2_with (go_at_call 69; with_reducible refine (HT1.out _).mono ?_; rintro e w5 ⟨rfl, rfl⟩)
        go_ret2
        exact ⟨HB.out, .inr ⟨HNO.out, rfl⟩⟩
      · rw [hok] at HT1
        have HYES := Lib.hid (allB_snoc HALL.out hok)
        clear hok
        generalize strAt t (R k) = z at *
        have HCN := Lib.hid (cells_new wr [.string z] 9)
        go_upto_region 6 with (go_at_call 69; with_reducible refine (HT1.out _).mono ?_; rintro e w5 ⟨rfl, rfl⟩)
        go_wp2_with (first
          | (at_builtin; (refine wpList_append_own _ rfl _ _ 79 rfl w.heap.size 9 i0 (.string ⟨#[]⟩) 1 16 Try.underlying79 hi hz0 hz1 hz2 rfl (by decide) _ _ _ rfl (own_stay HOWN.out ((Below.refl _ _).alloc (Nat.le_refl _) _)) _ 1 1 [.string z] rfl rfl HCN.out (by simp [Value.oneCell']) (by unfold maxLen; omega) (by omega) (by simp; omega) ?_; intro v' w12 hown' hg12 hnil12))
          | go_in)
        have hfl := own_floor HOWN.out
        have hB12 : Below w.heap.size w w12 := (HB.out.alloc HB.out.size _).grown hg12 (by simp; omega) (fun i hi => hfl i hi)
        refine ⟨⟨k + 1, by omega, by go_num, HYES.out, by rw [hst.out]; exact hown', hB12⟩, by simp [intOf]; omega⟩
    · obtain rfl : k = n := by omega
      obtain ⟨A', c', hv, hrs⟩ := own_rowS HOWN.out
      cases hv
      have HRS := Lib.hid hrs; clear hrs
      go_wp2
      go_ret2
      exact ⟨HB.out, .inl ⟨HALL.out, A', c', rfl, HRS.out⟩⟩
end Go.Proofs.Ytedocnidgiglaaa
namespace Go.Proofs.Ytedocnidgiglaaa
open Go.RowKit
set_option linter.unusedVariables false
/-- The first of k places at which a name is; k if there is none. -/
def findN (f : Nat → ByteArray) (s : ByteArray) : Nat → Nat
  | 0 => 0
  | k + 1 => if findN f s k < k then findN f s k else if f k = s then k else k + 1
theorem findN_le (f : Nat → ByteArray) (s : ByteArray) : ∀ k, findN f s k ≤ k
  | 0 => Nat.le_refl _
  | k + 1 => by
    unfold findN
    have := findN_le f s k
    split
    · omega
    · split <;> omega
theorem findN_stop {f : Nat → ByteArray} {s : ByteArray} {k : Nat} (h : findN f s k = k) (hk : f k = s) : ∀ n, k < n → findN f s n = k
  | n + 1, hn => by
    by_cases e : n = k
    · subst e
      unfold findN
      rw [if_neg (by omega), if_pos hk]
    · have := findN_stop h hk n (by omega)
      unfold findN
      rw [this, if_pos (by omega)]
theorem findN_next {f : Nat → ByteArray} {s : ByteArray} {k : Nat} (h : findN f s k = k) (hk : ¬ f k = s) : findN f s (k + 1) = k + 1 := by
  unfold findN
  rw [if_neg (by omega), if_neg hk]
/-- What Index answers. -/
def idxV (f : Nat → ByteArray) (s : ByteArray) (n : Nat) : Int := if findN f s n < n then (findN f s n : Int) else -1
theorem str_ne {a b : ByteArray} (h : ¬ a = b) : (a.toList == b.toList) = false := by
  rw [Bool.eq_false_iff]
  intro h2
  apply h
  have h3 : a.toList = b.toList := by simpa using h2
  rw [ByteArray.toList_eq, ByteArray.toList_eq] at h3
  exact ByteArray.ext (Array.toList_inj.1 h3)
set_option maxRecDepth 100000 in
set_option maxHeartbeats 2000000 in
theorem index_any (A : Option Addr) (n cap : Nat) (f : Nat → ByteArray) (s : ByteArray) (hn : n ≤ 100000) (w : World) (hR : RowS w A n f) :
    Calls Try.prog 71 #[.slice A n cap, .string s] w fun e w' => e = .returned (.int .i64 (idxV f s n)) ∧ w = w' := by
  have HR := Lib.hid hR; clear hR
  go_enter Try.func71, Try.ntmps71
  go_wp2
  go_loop [8] (fun i => ∃ k : Nat, k ≤ n ∧ i = .int .i64 (k : Int) ∧ findN f s k = k) (fun i => n - (intOf i).toNat)
  case atStart => exact ⟨0, Nat.zero_le _, rfl, rfl⟩
  case round =>
    obtain ⟨k, hk, rfl, hf⟩ := hrel
    have HF := Lib.hid hf; clear hf
    by_cases hlt : k < n
    · obtain ⟨bb, o, rfl, hbl, hc0⟩ := HR.out k hlt
      have k0 : (0 : Int) ≤ (k : Int) := by omega
      have k1 : (k : Int) < (n : Int) := by omega
      have k2 : k + 1 ≤ 1048576 := by omega
      by_cases he : f k = s
      · have HE : Hid (idxV f s n = k) := Lib.hid (by unfold idxV; rw [findN_stop HF.out he n hlt, if_pos hlt])
        rw [he] at hc0
        clear he
        go_wp2
        go_ret
        exact ⟨by rw [HE.out]; rfl, rfl⟩
      · have HN : Hid (findN f s (k + 1) = k + 1) := Lib.hid (findN_next HF.out he)
        have he2 := str_ne (fun h => he h.symm)
        have he3 := str_ne he
        clear he
        generalize f k = z at *
        go_wp2
        exact ⟨⟨k + 1, by omega, by go_num, HN.out⟩, by simp [intOf]; omega⟩
    · obtain rfl : k = n := by omega
      go_wp2
      go_ret
      exact ⟨by rw [show idxV f s k = -1 by unfold idxV; rw [HF.out, if_neg (Nat.lt_irrefl _)]]; rfl, rfl⟩
set_option maxRecDepth 100000 in
theorem find_any (A : Option Addr) (n cap : Nat) (f : Nat → ByteArray) (s : ByteArray) (hn : n ≤ 100000) (w : World) (hR : RowS w A n f) :
    Calls Try.prog 35 #[.slice A n cap, .string s] w fun e w' => e = .returned (.tuple #[.int .i64 ((if findN f s n < n then findN f s n else 0 : Nat) : Int), .bool (decide (findN f s n < n))]) ∧ w = w' := by
  have hI := index_any A n cap f s hn w hR; clear hR; unfold idxV at hI; have HI := Lib.hid hI; clear hI
  by_cases h : findN f s n < n
  · rw [if_pos h] at HI
    rw [if_pos h, decide_eq_true h]
    clear h
    generalize findN f s n = k at *
    have k0 : (0 : Int) ≤ (k : Int) := by omega
    go_enter Try.func35, Try.ntmps35
    go_wp2_with (go_at_call 71; with_reducible refine HI.out.mono ?_; rintro e w5 ⟨rfl, rfl⟩)
    go_ret2
    exact ⟨by first | rfl | (congr 1 <;> simp <;> omega), rfl⟩
  · rw [if_neg h] at HI
    rw [if_neg h, decide_eq_false h]
    clear h
    go_enter Try.func35, Try.ntmps35
    go_wp2_with (go_at_call 71; with_reducible refine HI.out.mono ?_; rintro e w5 ⟨rfl, rfl⟩)
    go_ret2
    exact ⟨rfl, rfl⟩
end Go.Proofs.Ytedocnidgiglaaa
namespace Go.Proofs.Ytedocnidgiglaaa
open Go.RowKit Go.WideShapes Go.ChangeShapes Go.ChangeAt
set_option linter.unusedVariables false
/-- What is told of a slice of integers that came in. -/
def IsRow (k : IntKind) (w : World) (a : Option Addr) (len cap : Nat) (zs : List Int) : Prop :=
  (a = none ∧ len = 0 ∧ cap = 0 ∧ zs = []) ∨
  ∃ x, a = some x ∧ len ≤ cap ∧ cap ≤ maxLen ∧ zs.length = cap ∧ (∀ i, i < zs.length → w.cell? (x.add i) = some (.int k (zs.getD i 0))) ∧ ∀ n ∈ zs, (Lit.int k n).wf = true
theorem IsRow.at {k : IntKind} {w : World} {a : Option Addr} {len cap : Nat} {zs : List Int} (h : IsRow k w a len cap zs) (i : Nat) (hi : i < len) :
    ∃ b off, a = some ⟨b, off, none⟩ ∧ b < w.heap.size ∧ w.cell? ⟨b, off + i, none⟩ = some (.int k (zs.getD i 0)) ∧ (Lit.int k (zs.getD i 0)).wf = true := by
  rcases h with ⟨rfl, rfl, rfl, rfl⟩ | ⟨x, rfl, hl, hm, hz, hcell, hwz⟩
  · omega
  · obtain ⟨b, off, rfl, hc⟩ := ints_at hcell (by omega)
    have hci := hc i (by omega)
    refine ⟨b, off, rfl, World.block_lt_of_cell? w _ hci, hci, ?_⟩
    have : zs.getD i 0 ∈ zs := by
      rw [List.getD_eq_getElem?_getD, List.getElem?_eq_getElem (by omega)]
      exact List.getElem_mem _
    exact hwz _ this
theorem IsRow.le_cap {k : IntKind} {w : World} {a : Option Addr} {len cap : Nat} {zs : List Int} (h : IsRow k w a len cap zs) : len ≤ cap := by
  rcases h with ⟨rfl, rfl, rfl, rfl⟩ | ⟨x, rfl, hl, hm, hz, hcell, hwz⟩
  · exact Nat.le_refl _
  · exact hl
theorem IsRow.rowU {w : World} {a : Option Addr} {len cap : Nat} {zs : List Int} (h : IsRow .u64 w a len cap zs) : RowU w a len (fun i => (zs.getD i 0).toNat) := fun i hi => by
  obtain ⟨b, off, e1, e2, e3, e4⟩ := h.at i hi
  have hb := bounds_u64 e4
  refine ⟨b, off, e1, e2, ?_⟩
  rw [e3]
  show some (Value.int .u64 (zs.getD i 0)) = some (.int .u64 (((zs.getD i 0).toNat : Nat) : Int))
  rw [Int.toNat_of_nonneg hb.1]
theorem IsRow.rowU64 {w : World} {a : Option Addr} {len cap : Nat} {zs : List Int} (h : IsRow .u64 w a len cap zs) (i : Nat) (hi : i < len) : (zs.getD i 0).toNat < 18446744073709551616 := by
  obtain ⟨b, off, e1, e2, e3, e4⟩ := h.at i hi
  have hb := bounds_u64 e4
  omega
theorem RowU.less {w : World} {A : Option Addr} {n m : Nat} {R : Nat → Nat} (h : RowU w A n R) (hm : m ≤ n) : RowU w A m R := fun i hi => h i (by omega)
/-- The first of the last d of m places at which a name is; -1 if there is none. -/
def fstD (f : Nat → ByteArray) (nm : ByteArray) (m : Nat) : Nat → Int
  | 0 => -1
  | d + 1 => if f (m - (d + 1)) = nm then ((m - (d + 1) : Nat) : Int) else fstD f nm m d
def fstZ (f : Nat → ByteArray) (nm : ByteArray) (m : Nat) (z : Int) : Int := fstD f nm m (m - (z + 1).toNat)
theorem fstZ_start (f : Nat → ByteArray) (nm : ByteArray) (m : Nat) : fstZ f nm m ((m : Int) - 1) = -1 := by
  unfold fstZ
  rw [show m - ((m : Int) - 1 + 1).toNat = 0 by omega]; rfl
theorem fstZ_step (f : Nat → ByteArray) (nm : ByteArray) (m k : Nat) (h : k < m) : fstZ f nm m ((k : Int) - 1) = if f k = nm then (k : Int) else fstZ f nm m k := by
  unfold fstZ
  rw [show m - ((k : Int) - 1 + 1).toNat = (m - ((k : Int) + 1).toNat) + 1 by omega]
  unfold fstD
  rw [show m - (m - ((k : Int) + 1).toNat + 1) = k by omega]
  by_cases hk : f k = nm
  · rw [if_pos hk, if_pos hk]
  · rw [if_neg hk, if_neg hk]
    cases m - ((k : Int) + 1).toNat <;> rfl
theorem fstZ_idx (f : Nat → ByteArray) (nm : ByteArray) (m : Nat) : ∀ j, j ≤ m → findN f nm j = j → fstZ f nm m ((j : Int) - 1) = idxV f nm m → fstZ f nm m (-1) = idxV f nm m
  | 0, _, _, h => by simpa using h
  | j + 1, hj, h1, h2 => by
    have hj1 : findN f nm j = j := by
      have q := findN_le f nm j
      unfold findN at h1
      split at h1
      · omega
      · omega
    have hne : ¬ f j = nm := fun e => by
      have := findN_stop hj1 e (j + 1) (by omega)
      omega
    have h3 : fstZ f nm m ((j : Int) - 1) = idxV f nm m := by
      rw [fstZ_step f nm m j (by omega), if_neg hne, ← h2]
      congr 1
      omega
    exact fstZ_idx f nm m j (by omega) hj1 h3
theorem fstZ_end (f : Nat → ByteArray) (nm : ByteArray) (m : Nat) : fstZ f nm m (-1) = idxV f nm m := by
  by_cases h : findN f nm m < m
  · obtain ⟨k, hk⟩ : ∃ k, k = findN f nm m := ⟨_, rfl⟩
    have hkk : findN f nm k = k ∧ f k = nm := by
      have key : ∀ j, findN f nm j < j → findN f nm (findN f nm j) = findN f nm j ∧ f (findN f nm j) = nm := by
        intro j
        induction j with
        | zero => intro h; omega
        | succ j ih =>
          intro h
          by_cases h1 : findN f nm j < j
          · have e : findN f nm (j + 1) = findN f nm j := by
              show (if findN f nm j < j then findN f nm j else if f j = nm then j else j + 1) = _
              rw [if_pos h1]
            rw [e]; exact ih h1
          · have q := findN_le f nm j
            have e0 : findN f nm j = j := by omega
            have e : findN f nm (j + 1) = if f j = nm then j else j + 1 := by
              show (if findN f nm j < j then findN f nm j else if f j = nm then j else j + 1) = _
              rw [if_neg h1]
            by_cases h2 : f j = nm
            · rw [if_pos h2] at e; rw [e]; exact ⟨e0, h2⟩
            · rw [if_neg h2] at e; omega
      rw [hk]; exact key m h
    have hkm : k < m := by omega
    refine fstZ_idx f nm m k (by omega) hkk.1 ?_
    rw [fstZ_step f nm m k hkm, if_pos hkk.2]
    unfold idxV
    rw [if_pos h, hk]
  · have q := findN_le f nm m
    refine fstZ_idx f nm m m (Nat.le_refl _) (by omega) ?_
    rw [fstZ_start]
    unfold idxV
    rw [if_neg h]
end Go.Proofs.Ytedocnidgiglaaa
