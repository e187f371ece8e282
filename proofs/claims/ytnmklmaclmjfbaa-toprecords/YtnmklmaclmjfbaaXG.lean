/- Contracts of layer 9, relocations. Conditions: those written in each theorem. -/
import Derived.Laws.CopyOwn
import Derived.Laws.Tables
import Derived.Test.YtnmklmaclmjfbaaXF
namespace Go.Proofs.Ytnmklmaclmjfbaa
open Go.RowKit
theorem rput1 (w : World) : Calls Try.prog 40 #[.agg #[.bool false, .bool true], .bool true, .agg #[.int .u64 1, .int .u64 2, .int .u64 3, .int .u64 4]] w fun e w' => e = .returned (.tuple #[.string ⟨#[1, 0, 0, 0, 0, 0, 0, 0, 3, 0, 0, 0, 2, 0, 0, 0, 4, 0, 0, 0, 0, 0, 0, 0]⟩, .bool true]) ∧ Below w.heap.size w w' := by
  have hr : RecIs false true (rZ true) (rNs true 1 (2 * rP true + 3) 4) (rN true) (rN true) ⟨#[1, 0, 0, 0, 0, 0, 0, 0, 3, 0, 0, 0, 2, 0, 0, 0, 4, 0, 0, 0, 0, 0, 0, 0]⟩ true := by
    right; left
    refine ⟨rfl, ?_, by kernel_rfl, rfl⟩
    intro k hk
    have : ∀ k : Fin 3, 0 ≤ fullZ true ((rZ true).getD k.1 0) ∧ fullZ true ((rZ true).getD k.1 0) ≤ 8 ∧ (rNs true 1 (2 * rP true + 3) 4).getD k.1 0 < 256 ^ (fullZ true ((rZ true).getD k.1 0)).toNat := by decide
    exact this ⟨k, hk⟩
  exact rput_is (big := false) (wide := true) (a := true) (off := 1) (sym := 2) (ty := 3) (add := 4) (.inr ⟨by decide, by decide, by decide, hr⟩) ⟨by decide, by decide⟩ w
theorem rsize1 (w : World) : Calls Try.prog 52 #[.agg #[.bool false, .bool false], .bool false] w fun e w' => e = .returned (.int .i64 8) ∧ Below w.heap.size w w' := rsize_any false false false w
end Go.Proofs.Ytnmklmaclmjfbaa
