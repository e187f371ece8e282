/- The reference's word on a file's tables. Conditions: those written in each theorem. -/
import Derived.Test.YtedocnidgiglaaaVB
import Derived.Test.YtedocnidgiglaaaVF
import Derived.Test.YtedocnidgiglaaaVH
namespace Go.Proofs.Ytedocnidgiglaaa
open Go.RowKit
set_option linter.unusedVariables false
set_option maxRecDepth 100000 in
set_option maxHeartbeats 2000000 in
theorem why_long (ones : Nat → Nat) (s : ByteArray) (hmax : s.size ≤ 9223372036854775807) (hl : 1048576 < s.size) (w : World) : Calls Try.prog 17 #[.string s] w (fun e w' => e = .returned (.int .i64 (parseErr ones s : Nat)) ∧ Below w.heap.size w w') := by
  have hM : s.size ≤ maxLen := by unfold maxLen; omega
  have e1 : parseErr ones s = 2 := by unfold parseErr; rw [if_pos hl]
  rw [e1]
  clear e1
  have h1 : (1048576 : Int) < (s.size : Int) := by omega
  go_enter Try.func17, Try.ntmps17
  go_wp2
  go_ret
  exact ⟨rfl, Below.refl _ _⟩
set_option maxRecDepth 100000 in
set_option maxHeartbeats 2000000 in
theorem why_ident (ones : Nat → Nat) (s : ByteArray) (hl : s.size ≤ 1048576) (hi : idErr s ≠ 0) (w : World) : Calls Try.prog 17 #[.string s] w (fun e w' => e = .returned (.int .i64 (parseErr ones s : Nat)) ∧ Below w.heap.size w w') := by
  have hM : s.size ≤ maxLen := by unfold maxLen; omega
  have e1 : parseErr ones s = idErr s := by unfold parseErr hdErr; rw [if_neg (by omega), if_pos hi, if_pos hi]
  rw [e1]
  clear e1
  have h1 : ¬ (1048576 : Int) < (s.size : Int) := by omega
  have HW := Lib.hid (fun u => refWhy_any s hl u)
  generalize idErr s = k at *
  have h2 : ¬ ((k : Nat) : Int) = 0 := by omega
  clear hi
  go_enter Try.func17, Try.ntmps17
  go_wp2_with fail
  refine (HW.out _).mono ?_
  rintro e w' ⟨rfl, rfl⟩
  go_wp2
  go_ret
  exact ⟨rfl, Below.refl _ _⟩
theorem pe_hd {ones : Nat → Nat} {s : ByteArray} (hl : s.size ≤ 1048576) (h : hdErr s ≠ 0) : parseErr ones s = hdErr s := by
  unfold parseErr; rw [if_neg (by omega), if_pos h]
theorem pe_sec {ones : Nat → Nat} {s : ByteArray} (hl : s.size ≤ 1048576) (h0 : hdErr s = 0) (h : errSec s ≠ 0) : parseErr ones s = errSec s := by
  unfold parseErr; rw [if_neg (by omega), if_neg (fun q => q h0), if_pos h]
theorem pe_seg {ones : Nat → Nat} {s : ByteArray} (hl : s.size ≤ 1048576) (h0 : hdErr s = 0) (h1 : errSec s = 0) (h : errSeg s ≠ 0) : parseErr ones s = errSeg s := by
  unfold parseErr; rw [if_neg (by omega), if_neg (fun q => q h0), if_neg (fun q => q h1), if_pos h]
theorem pe_chk {ones : Nat → Nat} {s : ByteArray} (hl : s.size ≤ 1048576) (h0 : hdErr s = 0) (h1 : errSec s = 0) (h2 : errSeg s = 0) (h : errChk ones s ≠ 0) : parseErr ones s = errChk ones s := by
  unfold parseErr; rw [if_neg (by omega), if_neg (fun q => q h0), if_neg (fun q => q h1), if_neg (fun q => q h2), if_pos h]
theorem pe_img {ones : Nat → Nat} {s : ByteArray} (hl : s.size ≤ 1048576) (h0 : hdErr s = 0) (h1 : errSec s = 0) (h2 : errSeg s = 0) (h3 : errChk ones s = 0) : parseErr ones s = errImg s := by
  unfold parseErr; rw [if_neg (by omega), if_neg (fun q => q h0), if_neg (fun q => q h1), if_neg (fun q => q h2), if_neg (fun q => q h3)]
end Go.Proofs.Ytedocnidgiglaaa
