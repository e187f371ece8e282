/- The contract of class's Ident.Bytes. Conditions: those written in each theorem. -/
import Derived.Test.YtnmklmaclmjfbaaQD
namespace Go.Proofs.Ytnmklmaclmjfbaa
open Go.RowKit
set_option maxHeartbeats 1000000 in
set_option maxRecDepth 100000 in
theorem bytes_any (big wide : Bool) (abi ver : UInt8) (pad : ByteArray) (w : World) :
    Calls Try.prog 22 #[.agg #[.bool big, .bool wide, .int .u8 abi.toNat, .int .u8 ver.toNat, .string pad]] w fun e w' => e = .returned (.string ⟨(identL big wide abi ver pad.data.toList).toArray⟩) ∧ Below w.heap.size w w' := by
  have hmk := make_z16
  have hmc := magic_copy (w.alloc (.cells #[.bool big, .bool wide, .int .u8 abi.toNat, .int .u8 ver.toNat, .string pad] 36))
  rw [World.size_alloc] at hmc
  have hpc := pad_copy big wide abi ver pad (w.alloc (.cells #[.bool big, .bool wide, .int .u8 abi.toNat, .int .u8 ver.toNat, .string pad] 36))
  rw [World.size_alloc] at hpc
  have hcv := conv_row ((w.alloc (.cells #[.bool big, .bool wide, .int .u8 abi.toNat, .int .u8 ver.toNat, .string pad] 36)).alloc (.cells (rowU8 (identL big wide abi ver pad.data.toList)) 5)).drew.drew (w.heap.size + 1) 16 _ (identL_length big wide abi ver pad.data.toList) (two_new w _ _)
  cases big <;> cases wide
  all_goals
    simp only [Bool.false_eq_true, if_true, if_false] at hpc
    generalize hI : identL _ _ abi ver pad.data.toList = I at *
    clear hI
    go_enter Try.func22, Try.ntmps22
    go_wp2
    go_region
    clear hmk hmc
    go_wp2
    go_region
    go_wp2
    go_ret
    exact ⟨rfl, (((Below.refl _ _).alloc (Nat.le_refl _) _).alloc (by simp) _).drew.drew⟩
end Go.Proofs.Ytnmklmaclmjfbaa
