/- Contracts of raw's data, image, HasData and a table's span. Conditions: those written in each theorem. -/
import Derived.Test.YtedocnidgiglaaaJC
import Derived.Test.YtedocnidgiglaaaEK
namespace Go.Proofs.Ytedocnidgiglaaa
open Go.RowKit
set_option linter.unusedVariables false
theorem data_any (s0 s1 s2 s3 s4 s5 s6 s7 s8 s9 : Nat) (w : World) : Calls Try.prog 60 #[.agg #[.int .u64 (s0 : Nat), .int .u64 (s1 : Nat), .int .u64 (s2 : Nat), .int .u64 (s3 : Nat), .int .u64 (s4 : Nat), .int .u64 (s5 : Nat), .int .u64 (s6 : Nat), .int .u64 (s7 : Nat), .int .u64 (s8 : Nat), .int .u64 (s9 : Nat)]] w fun e w' => e = .returned (.agg #[.int .u64 (s4 : Nat), .int .u64 (s5 : Nat)]) ∧ Below w.heap.size w w' := by
  go_enter Try.func60, Try.ntmps60
  go_wp2
  exact bodyPost_ret (v := .agg #[.int .u64 (s4 : Nat), .int .u64 (s5 : Nat)]) (by simp [results, Try.results60, go_sem]) rfl ⟨rfl, by first | exact below_more (below_more (Below.refl _ _) _) _ | exact ((below_more (below_more (Below.refl _ _) _) _).setCell (by simp) _).setCell (by simp) _⟩
theorem image_any (p0 p1 p2 p3 p4 p5 p6 p7 : Nat) (w : World) : Calls Try.prog 62 #[.agg #[.int .u64 (p0 : Nat), .int .u64 (p1 : Nat), .int .u64 (p2 : Nat), .int .u64 (p3 : Nat), .int .u64 (p4 : Nat), .int .u64 (p5 : Nat), .int .u64 (p6 : Nat), .int .u64 (p7 : Nat)]] w fun e w' => e = .returned (.agg #[.int .u64 (p2 : Nat), .int .u64 (p5 : Nat)]) ∧ Below w.heap.size w w' := by
  go_enter Try.func62, Try.ntmps62
  go_wp2
  exact bodyPost_ret (v := .agg #[.int .u64 (p2 : Nat), .int .u64 (p5 : Nat)]) (by simp [results, Try.results62, go_sem]) rfl ⟨rfl, by first | exact below_more (below_more (Below.refl _ _) _) _ | exact ((below_more (below_more (Below.refl _ _) _) _).setCell (by simp) _).setCell (by simp) _⟩
theorem hasdata_any (s0 s1 s2 s3 s4 s5 s6 s7 s8 s9 : Nat) (w : World) : Calls Try.prog 46 #[.agg #[.int .u64 (s0 : Nat), .int .u64 (s1 : Nat), .int .u64 (s2 : Nat), .int .u64 (s3 : Nat), .int .u64 (s4 : Nat), .int .u64 (s5 : Nat), .int .u64 (s6 : Nat), .int .u64 (s7 : Nat), .int .u64 (s8 : Nat), .int .u64 (s9 : Nat)]] w fun e w' => e = .returned (.bool (decide (s1 ≠ 0 ∧ s1 ≠ 8))) ∧ Below w.heap.size w w' := by
  by_cases h0 : s1 = 0
  · subst h0
    go_enter Try.func46, Try.ntmps46
    go_wp2
    go_ret
    exact ⟨rfl, below_more (Below.refl _ _) _⟩
  · have k0 : ((s1 : Int) != 0) = true := by simp; omega
    have k0' : ((s1 : Int) == 0) = false := by simp; omega
    have e1 : decide (s1 ≠ 0 ∧ s1 ≠ 8) = ((s1 : Int) != 8) := by
      rw [Bool.eq_iff_iff]; simp; omega
    rw [e1]
    have h0' := Lib.hid h0; clear h0 e1
    go_enter Try.func46, Try.ntmps46
    go_wp2
    go_ret
    exact ⟨rfl, below_more (Below.refl _ _) _⟩
theorem tspan_zero (a z : Nat) (w : World) : Calls Try.prog 64 #[.agg #[.int .u64 (a : Nat), .int .u64 0, .int .u64 (z : Nat)]] w fun e w' => e = .returned (.agg #[.int .u64 0, .int .u64 0]) ∧ Below w.heap.size w w' := by
  go_enter Try.func64, Try.ntmps64
  go_wp2
  exact bodyPost_ret (v := .agg #[.int .u64 0, .int .u64 0]) (by simp [results, Try.results64, go_sem]) rfl ⟨rfl, by first | exact below_more (below_more (Below.refl _ _) _) _ | exact ((below_more (below_more (Below.refl _ _) _) _).setCell (by simp) _).setCell (by simp) _⟩
theorem tspan_some (a n z p : Nat) (hn : 0 < n) (hp : n * z = p) (h64 : p < 18446744073709551616) (w : World) : Calls Try.prog 64 #[.agg #[.int .u64 (a : Nat), .int .u64 (n : Nat), .int .u64 (z : Nat)]] w fun e w' => e = .returned (.agg #[.int .u64 (a : Nat), .int .u64 (p : Nat)]) ∧ Below w.heap.size w w' := by
  have k0 : ((n : Int) == 0) = false := by simp; omega
  have k1 : IntKind.u64.wrap ((n : Int) * (z : Int)) = (p : Int) := by rw [IntKind.wrap_u64, ← Int.natCast_mul, hp]; omega
  clear hp hn
  go_enter Try.func64, Try.ntmps64
  go_wp2
  exact bodyPost_ret (v := .agg #[.int .u64 (a : Nat), .int .u64 (p : Nat)]) (by simp [results, Try.results64, go_sem]) rfl ⟨rfl, by first | exact below_more (below_more (Below.refl _ _) _) _ | exact ((below_more (below_more (Below.refl _ _) _) _).setCell (by simp) _).setCell (by simp) _⟩
end Go.Proofs.Ytedocnidgiglaaa
