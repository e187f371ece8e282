/- Contracts of strings.IndexByte and strings.Cut at the byte 0, of strtab's isName and Text, and of the reference's Text. Conditions: those written in each theorem. -/
import Derived.Test.YtddlflabdlgnbaaOC
import Derived.Laws.Externs
import Derived.RegionTactic
namespace Go.Proofs.Ytddlflabdlgnbaa
open Go.RowKit
namespace Zero
/-- Where the first byte 0 is; the length if there is none. -/
def z (l : List UInt8) : Nat := (l.takeWhile (· != 0)).length
theorem z_le (l : List UInt8) : z l ≤ l.length := (List.takeWhile_sublist _).length_le
theorem z_spec : ∀ l : List UInt8, (∀ j, j < z l → l.getD j 0 ≠ 0) ∧ (z l < l.length → l.getD (z l) 1 = 0)
  | [] => by simp [z]
  | c :: l => by
    obtain ⟨h1, h2⟩ := z_spec l
    by_cases hc : c = 0
    · subst hc
      simp [z]
    · have e : z (c :: l) = z l + 1 := by simp [z, hc]
      rw [e]
      constructor
      · intro j hj
        cases j with
        | zero => simpa using hc
        | succ j => have := h1 j (by omega); simpa using this
      · intro h
        have := h2 (by simpa using h)
        simpa using this
theorem take_z : ∀ l : List UInt8, l.take (z l) = l.takeWhile (· != 0)
  | [] => by simp [z]
  | c :: l => by
    by_cases hc : c = 0
    · subst hc; simp [z]
    · have e : z (c :: l) = z l + 1 := by simp [z, hc]
      rw [e]
      simp [hc, take_z l]
end Zero
theorem get_bang (s : ByteArray) (i : Nat) (h : i < s.size) : s[i]! = s.data.toList.getD i 0 := by
  rw [getElem!_pos s i h, List.getD_eq_getElem?_getD, List.getElem?_eq_getElem (by simpa using h)]
  rfl
theorem first_yes (s : ByteArray) (h : Zero.z s.data.toList < s.size) : firstIdx s 0 = (Zero.z s.data.toList : Int) := by
  obtain ⟨h1, h2⟩ := Zero.z_spec s.data.toList
  have hl : s.data.toList.length = s.size := by simp
  have : (List.range s.size).find? (fun i => s[i]! == 0) = some (Zero.z s.data.toList) := by
    rw [List.find?_range_eq_some]
    refine ⟨?_, by simpa using h, ?_⟩
    · have h3 := h2 (by omega)
      rw [get_bang s _ h]
      rw [List.getD_eq_getElem?_getD, List.getElem?_eq_getElem (by omega)] at h3 ⊢
      simpa using h3
    · intro j hj
      have h3 := h1 j hj
      rw [get_bang s j (by omega)]
      simpa using h3
  unfold firstIdx
  rw [this]
theorem first_no (s : ByteArray) (h : ¬ Zero.z s.data.toList < s.size) : firstIdx s 0 = -1 := by
  obtain ⟨h1, _⟩ := Zero.z_spec s.data.toList
  have : (List.range s.size).find? (fun i => s[i]! == 0) = none := by
    rw [List.find?_range_eq_none]
    intro j hj
    have h3 := h1 j (by omega)
    rw [get_bang s j (by omega)]
    simpa using h3
  unfold firstIdx
  rw [this]
set_option maxRecDepth 100000 in
theorem ib_any (s : ByteArray) (w : World) : Calls Try.prog 93 #[.string s, .int .u8 0] w fun e w' => e = .returned (.int .i64 (firstIdx s 0)) ∧ w = w' := by
  have h := run_indexByte_string (P := Try.prog) s 0 w
  have e0 : (0 : Int).toNat.toUInt8 = 0 := rfl
  rw [e0] at h
  go_enter Try.func93, Try.ntmps93
  go_wp2
  rw [run_callFunc_extern Try.func106 (by kernel_rfl) (by kernel_rfl) (by kernel_rfl) (e := Extern.BytealgIndexByte.indexByte) (by kernel_rfl)]
  rw [h]
  simp only [Result.andThen]
  rw [Oper.upon_value]
  generalize hi : firstIdx s 0 = i at *
  have HI := Lib.hid hi; clear h hi
  go_wp2
  go_ret
  exact ⟨by rw [HI.out]; rfl, rfl⟩
set_option maxRecDepth 100000 in
theorem ix_any (s : ByteArray) (w : World) : Calls Try.prog 100 #[.string s, .string ⟨#[0]⟩] w fun e w' => e = .returned (.int .i64 (firstIdx s 0)) ∧ w = w' := by
  by_cases hs : s = ⟨#[0]⟩
  · subst hs
    have e : firstIdx ⟨#[0]⟩ 0 = 0 := by kernel_rfl
    rw [e]
    go_enter Try.func100, Try.ntmps100
    go_wp2
    go_ret
    exact ⟨rfl, rfl⟩
  · have hne : ([0] == s.toList) = false := by
      rw [Bool.eq_false_iff]
      intro h
      have h2 : [0] = s.toList := by simpa using h
      apply hs
      rw [ByteArray.toList_eq] at h2
      apply ByteArray.ext
      apply Array.toList_inj.1
      exact h2.symm
    have hne2 : ¬ [0] = s.toList := by simpa using hne
    go_enter Try.func100, Try.ntmps100
    go_wp2_with (go_at_call 93; refine (ib_any _ _).mono ?_; rintro e w' ⟨rfl, rfl⟩)
    go_ret
    exact ⟨rfl, rfl⟩
theorem sib_any (s : ByteArray) (w : World) : Calls Try.prog 71 #[.string s, .int .u8 0] w fun e w' => e = .returned (.int .i64 (firstIdx s 0)) ∧ w = w' := by
  go_enter Try.func71, Try.ntmps71
  go_wp2_with (go_at_call 93; refine (ib_any _ _).mono ?_; rintro e w' ⟨rfl, rfl⟩)
  go_ret
  exact ⟨rfl, rfl⟩
theorem isName_yes (s : ByteArray) (w : World) (h : ¬ Zero.z s.data.toList < s.size) : Calls Try.prog 49 #[.string s] w fun e w' => e = .returned (.bool true) ∧ w = w' := by
  have hf := first_no s h
  go_enter Try.func49, Try.ntmps49
  go_wp2_with (go_at_call 71; refine (sib_any _ _).mono ?_; rintro e w' ⟨rfl, rfl⟩)
  go_ret
  exact ⟨rfl, rfl⟩
theorem isName_no (s : ByteArray) (w : World) (h : Zero.z s.data.toList < s.size) : Calls Try.prog 49 #[.string s] w fun e w' => e = .returned (.bool false) ∧ w = w' := by
  have hf := first_yes s h
  go_enter Try.func49, Try.ntmps49
  go_wp2_with (go_at_call 71; refine (sib_any _ _).mono ?_; rintro e w' ⟨rfl, rfl⟩)
  go_ret
  exact ⟨rfl, rfl⟩
/-- What Cut answers at the byte 0. -/
theorem lcut_yes (s : ByteArray) (w : World) (hm : s.size ≤ maxLen) (h : Zero.z s.data.toList < s.size) :
    Calls Try.prog 81 #[.string s, .string ⟨#[0]⟩] w fun e w' => e = .returned (.tuple #[.string (s.extract 0 (Zero.z s.data.toList)), .string (s.extract (Zero.z s.data.toList + 1) s.size), .bool true]) ∧ ∃ n, w' = w.drewN n := by
  unfold maxLen at hm
  have hf := first_yes s h
  have hx := ix_any s
  rw [hf] at hx
  have HX := Lib.hid hx; clear hx hf
  generalize Zero.z s.data.toList = k at *
  have h1 : (0 : Int) ≤ (k : Int) := by omega
  have h2 : (k : Int) ≤ (s.size : Int) := by omega
  have h3 : (0 : Int) ≤ (k : Int) + 1 := by omega
  have h4 : (k : Int) + 1 ≤ (s.size : Int) := by omega
  go_enter Try.func81, Try.ntmps81
  go_wp2_with fail
  refine (HX.out _).mono ?_
  rintro e w1 ⟨rfl, rfl⟩
  go_wp2
  have hw : IntKind.i64.wrap ((k : Int) + 1) = (k : Int) + 1 := IntWalk.i64_in _ (by omega)
  go_quiet (fail)
  go_wp2
  exact bodyPost_ret (v := .tuple #[.string (s.extract 0 k), .string (s.extract (k + 1) s.size), .bool true]) (by simp [results, Try.results81, go_sem]) rfl ⟨rfl, nq, rfl⟩
theorem lcut_no (s : ByteArray) (w : World) (h : ¬ Zero.z s.data.toList < s.size) :
    Calls Try.prog 81 #[.string s, .string ⟨#[0]⟩] w fun e w' => e = .returned (.tuple #[.string s, .string ⟨#[]⟩, .bool false]) ∧ w = w' := by
  have hf := first_no s h
  have hx := ix_any s
  rw [hf] at hx
  have HX := Lib.hid hx; clear hx hf
  go_enter Try.func81, Try.ntmps81
  go_wp2_with fail
  refine (HX.out _).mono ?_
  rintro e w1 ⟨rfl, rfl⟩
  go_wp2
  exact bodyPost_ret (v := .tuple #[.string s, .string ⟨#[]⟩, .bool false]) (by simp [results, Try.results81, go_sem]) rfl ⟨rfl, rfl⟩
theorem cut_yes (s : ByteArray) (w : World) (hm : s.size ≤ maxLen) (h : Zero.z s.data.toList < s.size) :
    Calls Try.prog 54 #[.string s, .string ⟨#[0]⟩] w fun e w' => e = .returned (.tuple #[.string (s.extract 0 (Zero.z s.data.toList)), .string (s.extract (Zero.z s.data.toList + 1) s.size), .bool true]) ∧ ∃ n, w' = w.drewN n := by
  have hx := lcut_yes s w hm h
  have HX := Lib.hid hx; clear hx
  generalize (s.extract 0 (Zero.z s.data.toList)) = A at *
  generalize (s.extract (Zero.z s.data.toList + 1) s.size) = B at *
  go_enter Try.func54, Try.ntmps54
  go_wp2_with fail
  refine HX.out.mono ?_
  rintro e w1 ⟨rfl, n, rfl⟩
  go_wp2
  exact bodyPost_ret (v := .tuple #[.string A, .string B, .bool true]) (by simp [results, Try.results54, go_sem]) rfl ⟨rfl, n, rfl⟩
theorem cut_no (s : ByteArray) (w : World) (h : ¬ Zero.z s.data.toList < s.size) :
    Calls Try.prog 54 #[.string s, .string ⟨#[0]⟩] w fun e w' => e = .returned (.tuple #[.string s, .string ⟨#[]⟩, .bool false]) ∧ w = w' := by
  have hx := lcut_no s w h
  have HX := Lib.hid hx; clear hx
  go_enter Try.func54, Try.ntmps54
  go_wp2_with fail
  refine HX.out.mono ?_
  rintro e w1 ⟨rfl, rfl⟩
  go_wp2
  exact bodyPost_ret (v := .tuple #[.string s, .string ⟨#[]⟩, .bool false]) (by simp [results, Try.results54, go_sem]) rfl ⟨rfl, rfl⟩
/-- What Text answers: its bytes, and whether there is one. -/
def textAt (t : ByteArray) (n : Nat) : Value :=
  if n < t.size ∧ Zero.z (t.extract n t.size).data.toList < (t.extract n t.size).size then .tuple #[.string ((t.extract n t.size).extract 0 (Zero.z (t.extract n t.size).data.toList)), .bool true] else .tuple #[.string ⟨#[]⟩, .bool false]
theorem text_any (t : ByteArray) (n : Nat) (w : World) (hm : t.size ≤ maxLen) :
    Calls Try.prog 16 #[.string t, .int .u64 n] w fun e w' => e = .returned (textAt t n) ∧ ∃ m, w' = w.drewN m := by
  have hm0 := hm
  unfold maxLen at hm
  have hw : IntKind.u64.wrap (t.size : Int) = (t.size : Int) := by rw [IntKind.wrap_u64]; omega
  by_cases h1 : n < t.size
  · have hd : decide (t.size ≤ n) = false := by simp; omega
    have hi0 : (0 : Int) ≤ (n : Int) := by omega
    have hi1 : (n : Int) ≤ (t.size : Int) := by omega
    have hsz : (t.extract n t.size).size ≤ maxLen := by unfold maxLen; simp; omega
    by_cases h2 : Zero.z (t.extract n t.size).data.toList < (t.extract n t.size).size
    · have e : textAt t n = .tuple #[.string ((t.extract n t.size).extract 0 (Zero.z (t.extract n t.size).data.toList)), .bool true] := by unfold textAt; rw [if_pos ⟨h1, h2⟩]
      rw [e]
      have hc := cut_yes (t.extract n t.size) w hsz h2
      have HC := Lib.hid hc; clear hc e h2 hsz
      generalize ((t.extract n t.size).extract 0 (Zero.z (t.extract n t.size).data.toList)) = A at *
      generalize ((t.extract n t.size).extract (Zero.z (t.extract n t.size).data.toList + 1) (t.extract n t.size).size) = B at *
      go_enter Try.func16, Try.ntmps16
      go_wp2_with fail
      refine HC.out.mono ?_
      rintro e w1 ⟨rfl, m, rfl⟩
      go_wp2
      go_ret2
      exact ⟨rfl, m, rfl⟩
    · have e : textAt t n = .tuple #[.string ⟨#[]⟩, .bool false] := by unfold textAt; rw [if_neg (fun h => h2 h.2)]
      rw [e]
      have hc := cut_no (t.extract n t.size) w h2
      have HC := Lib.hid hc; clear hc e h2 hsz
      go_enter Try.func16, Try.ntmps16
      go_wp2_with fail
      refine HC.out.mono ?_
      rintro e w1 ⟨rfl, rfl⟩
      go_wp2
      go_ret2
      exact ⟨rfl, 0, rfl⟩
  · have hd : decide (t.size ≤ n) = true := by simp; omega
    have e : textAt t n = .tuple #[.string ⟨#[]⟩, .bool false] := by unfold textAt; rw [if_neg (fun h => h1 h.1)]
    rw [e]
    go_enter Try.func16, Try.ntmps16
    go_wp2
    go_ret2
    exact ⟨rfl, 0, rfl⟩
end Go.Proofs.Ytddlflabdlgnbaa
