/- Contracts of layer 9, relocations. Conditions: those written in each theorem. -/
import Derived.Laws.CopyOwn
import Derived.Laws.Tables
import Derived.Test.YtddlflabdlgnbaaXF
namespace Go.Proofs.Ytddlflabdlgnbaa
open Go.RowKit
theorem rform (fl : Int) (big wide : Bool) (hb : (bits BinOp.and IntKind.i64 fl 1 == 1) = big) (hw : (bits BinOp.and IntKind.i64 fl 2 == 2) = wide) (w : World) :
    Calls Try.prog 22 #[.int .i64 fl] w fun e w' => e = .returned (.agg #[.bool big, .bool wide]) ∧ Below w.heap.size w w' := by
  subst hb hw
  go_enter Try.func22, Try.ntmps22
  go_wp2
  generalize (bits BinOp.and IntKind.i64 fl 1 == 1) = big
  generalize (bits BinOp.and IntKind.i64 fl 2 == 2) = wide
  exact bodyPost_ret (v := .agg #[.bool big, .bool wide]) (by simp [results, Try.results22, go_sem]) rfl ⟨rfl, (Below.refl _ _).alloc (Nat.le_refl _) _⟩
theorem rput1 (w : World) : Calls Try.prog 23 #[.agg #[.bool false, .bool true], .bool true, .agg #[.int .u64 1, .int .u64 2, .int .u64 3, .int .u64 4]] w fun e w' => e = .returned (.tuple #[.string ⟨#[1, 0, 0, 0, 0, 0, 0, 0, 3, 0, 0, 0, 2, 0, 0, 0, 4, 0, 0, 0, 0, 0, 0, 0]⟩, .bool true]) ∧ Below w.heap.size w w' := by
  have hr : RecIs false true (rZ true) (rNs true 1 (2 * rP true + 3) 4) (rN true) (rN true) ⟨#[1, 0, 0, 0, 0, 0, 0, 0, 3, 0, 0, 0, 2, 0, 0, 0, 4, 0, 0, 0, 0, 0, 0, 0]⟩ true := by
    right; left
    refine ⟨rfl, ?_, by kernel_rfl, rfl⟩
    intro k hk
    have : ∀ k : Fin 3, 0 ≤ fullZ true ((rZ true).getD k.1 0) ∧ fullZ true ((rZ true).getD k.1 0) ≤ 8 ∧ (rNs true 1 (2 * rP true + 3) 4).getD k.1 0 < 256 ^ (fullZ true ((rZ true).getD k.1 0)).toNat := by decide
    exact this ⟨k, hk⟩
  exact rput_is (big := false) (wide := true) (a := true) (off := 1) (sym := 2) (ty := 3) (add := 4) (.inr ⟨by decide, by decide, by decide, hr⟩) ⟨by decide, by decide⟩ w
theorem rsize1 (w : World) : Calls Try.prog 27 #[.agg #[.bool false, .bool false], .bool false] w fun e w' => e = .returned (.int .i64 8) ∧ Below w.heap.size w w' := rsize_any false false false w
theorem rform0 (w : World) : Calls Try.prog 22 #[.int .i64 0] w fun e w' => e = .returned (.agg #[.bool false, .bool false]) ∧ Below w.heap.size w w' := rform 0 false false (by decide) (by decide) w
theorem rform2 (w : World) : Calls Try.prog 22 #[.int .i64 2] w fun e w' => e = .returned (.agg #[.bool false, .bool true]) ∧ Below w.heap.size w w' := rform 2 false true (by decide) (by decide) w
set_option maxRecDepth 100000 in
theorem rspeaks (w : World) : Calls Try.prog 21 #[] w fun e w' => e = .returned (.bool true) ∧ Below w.heap.size w w' := by
  go_enter Try.func21, Try.ntmps21
  go_wp2_with fail
  refine (rform2 _).mono ?_
  rintro e w1 ⟨rfl, h1⟩
  go_wp2_with fail
  refine (rput1 _).mono ?_
  rintro e w2 ⟨rfl, h2⟩
  have g2 : Below w.heap.size w w2 := h1.trans (h2.mono h1.size)
  clear h1 h2
  go_wp2_with fail
  refine (rform0 _).mono ?_
  rintro e w3 ⟨rfl, h3⟩
  have g3 : Below w.heap.size w w3 := g2.trans (h3.mono g2.size)
  clear g2 h3
  go_wp2_with fail
  refine (rsize1 _).mono ?_
  rintro e w4 ⟨rfl, h4⟩
  have g4 : Below w.heap.size w w4 := g3.trans (h4.mono g3.size)
  clear g3 h4
  go_wp2
  go_ret
  exact ⟨rfl, g4⟩
end Go.Proofs.Ytddlflabdlgnbaa
