/- Contracts of the reference's Why (second part) and of Ident.Bytes. Conditions: those written in each theorem. -/
import Derived.Test.YtmbgbhhnjbkfdaaC
namespace Go.Proofs.Ytmbgbhhnjbkfdaa
open Go.RowKit
theorem why_class (s : ByteArray) (w : World) (h : 16 ≤ s.size) (hb : isMagic s = true)
    (h4 : ((s[4].toNat : Int) != 1) = true) (h4' : ((s[4].toNat : Int) != 2) = true) :
    Calls Try.prog 21 #[.string s] w fun e w' => e = .returned (.int .i64 5) ∧ w = w' := by
  have hi : (16 : Int) ≤ s.size := by omega
  unfold isMagic at hb
  go_enter Try.func21, Try.ntmps21
  go_wp2
  go_ret
  exact ⟨rfl, rfl⟩
theorem why_data (s : ByteArray) (w : World) (h : 16 ≤ s.size) (hb : isMagic s = true)
    (h4 : s[4].toNat = 1 ∨ s[4].toNat = 2)
    (h5 : ((s[5].toNat : Int) != 1) = true) (h5' : ((s[5].toNat : Int) != 2) = true) :
    Calls Try.prog 21 #[.string s] w fun e w' => e = .returned (.int .i64 6) ∧ w = w' := by
  have hi : (16 : Int) ≤ s.size := by omega
  unfold isMagic at hb
  have hq : ((s[4].toNat : Int) != 1) = false ∨ ((s[4].toNat : Int) != 1) = true ∧ ((s[4].toNat : Int) != 2) = false := by simp; omega
  clear h4
  rcases hq with hq | ⟨hq, hq2⟩
  all_goals
    go_enter Try.func21, Try.ntmps21
    go_wp2
    go_ret
    exact ⟨rfl, rfl⟩
theorem why_rest (s : ByteArray) (w : World) (h : 16 ≤ s.size) (hb : isMagic s = true)
    (h4 : s[4].toNat = 1 ∨ s[4].toNat = 2) (h5 : s[5].toNat = 1 ∨ s[5].toNat = 2) (b : Bool) (h6 : ((s[6].toNat : Int) != 1) = b) :
    Calls Try.prog 21 #[.string s] w fun e w' => e = .returned (.int .i64 (if b then 7 else 0)) ∧ w = w' := by
  have hi : (16 : Int) ≤ s.size := by omega
  unfold isMagic at hb
  have hq : ((s[4].toNat : Int) != 1) = false ∨ ((s[4].toNat : Int) != 1) = true ∧ ((s[4].toNat : Int) != 2) = false := by simp; omega
  have hr : ((s[5].toNat : Int) != 1) = false ∨ ((s[5].toNat : Int) != 1) = true ∧ ((s[5].toNat : Int) != 2) = false := by simp; omega
  clear h4 h5
  cases b
  all_goals
    rcases hq with hq | ⟨hq, hq2⟩ <;> rcases hr with hr | ⟨hr, hr2⟩
    all_goals
      go_enter Try.func21, Try.ntmps21
      go_wp2
      go_ret
      exact ⟨rfl, rfl⟩
set_option maxHeartbeats 1000000 in
set_option maxRecDepth 100000 in
theorem bytes_any (big wide : Bool) (abi ver : UInt8) (pad : ByteArray) (w : World) :
    Calls Try.prog 22 #[.agg #[.bool big, .bool wide, .int .u8 abi.toNat, .int .u8 ver.toNat, .string pad]] w fun e w' => e = .returned (.string ⟨(identL big wide abi ver pad.data.toList).toArray⟩) ∧ Below w.heap.size w w' := by
  have hmk := make_z16
  have hmc := magic_copy (w.alloc (.cells #[.bool big, .bool wide, .int .u8 abi.toNat, .int .u8 ver.toNat, .string pad] 47))
  rw [World.size_alloc] at hmc
  have hpc := pad_copy big wide abi ver pad (w.alloc (.cells #[.bool big, .bool wide, .int .u8 abi.toNat, .int .u8 ver.toNat, .string pad] 47))
  rw [World.size_alloc] at hpc
  have hcv := conv_row ((w.alloc (.cells #[.bool big, .bool wide, .int .u8 abi.toNat, .int .u8 ver.toNat, .string pad] 47)).alloc (.cells (rowU8 (identL big wide abi ver pad.data.toList)) 5)).drew.drew (w.heap.size + 1) 16 _ (identL_length big wide abi ver pad.data.toList) (two_new w _ _)
  cases big <;> cases wide
  all_goals
    simp only [Bool.false_eq_true, if_true, if_false] at hpc
    generalize hI : identL _ _ abi ver pad.data.toList = I at *
    clear hI
    go_enter Try.func22, Try.ntmps22
    go_wp2
    go_region
    clear hmk hmc
    go_wp2
    go_region
    go_wp2
    go_ret
    exact ⟨rfl, (((Below.refl _ _).alloc (Nat.le_refl _) _).alloc (by simp) _).drew.drew⟩
end Go.Proofs.Ytmbgbhhnjbkfdaa
