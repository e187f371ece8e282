/- The contract of graverlaw01's speaks: it returns true. Conditions: those written in each theorem. -/
import Derived.Test.YtibgcnggimlbcaaE
namespace Go.Proofs.Ytibgcnggimlbcaa
open Go.RowKit
theorem put_258_little (w : World) : Calls Try.prog 12 #[.agg #[.bool false], .int .u64 258, .int .i64 4] w fun e w' => e = .returned (.string ⟨#[2, 1, 0, 0]⟩) ∧ Below w.heap.size w w' := by
  have e : Num.putL false 258 4 = [2, 1, 0, 0] := by decide
  have h := put_any false 258 4 w (by decide)
  rw [e] at h
  exact h
theorem put_258_big (w : World) : Calls Try.prog 12 #[.agg #[.bool true], .int .u64 258, .int .i64 4] w fun e w' => e = .returned (.string ⟨#[0, 0, 1, 2]⟩) ∧ Below w.heap.size w w' := by
  have e : Num.putL true 258 4 = [0, 0, 1, 2] := by decide
  have h := put_any true 258 4 w (by decide)
  rw [e] at h
  exact h
theorem get_258 (w : World) : Calls Try.prog 14 #[.agg #[.bool true], .string ⟨#[1, 2]⟩] w fun e w' => e = .returned (.int .u64 258) ∧ Below w.heap.size w w' := by
  have e : Num.getN true [1, 2] = 258 := by decide
  have h := get_any true ⟨#[1, 2]⟩ w
  have e2 : (ByteArray.mk #[1, 2]).data.toList = [1, 2] := rfl
  rw [e2, e] at h
  exact h
set_option maxHeartbeats 400000 in
theorem speaks1 (w : World) : Calls Try.prog 11 #[] w fun e w' => e = .returned (.bool true) ∧ Below w.heap.size w w' := by
  go_enter Try.func11, Try.ntmps11
  go_wp2_with fail
  refine (put_258_little _).mono ?_
  rintro e w1 ⟨rfl, h1⟩
  go_wp2_with fail
  refine (put_258_big _).mono ?_
  rintro e w2 ⟨rfl, h2⟩
  go_wp2_with fail
  refine (get_258 _).mono ?_
  rintro e w3 ⟨rfl, h3⟩
  go_wp2
  go_ret
  exact ⟨rfl, (h1.trans (h2.mono h1.size)).trans (h3.mono (Nat.le_trans h1.size h2.size))⟩
end Go.Proofs.Ytibgcnggimlbcaa
