/- Contracts of layer 9, relocations. Conditions: those written in each theorem. -/
import Derived.Laws.CopyOwn
import Derived.Laws.Tables
import Derived.Test.YtddlflabdlgnbaaXL
import Derived.Test.YtddlflabdlgnbaaXM
import Derived.Test.YtddlflabdlgnbaaON
namespace Go.Proofs.Ytddlflabdlgnbaa
open Go.RowKit
theorem rputs_wf (fl : Int) (ns : List Nat) (hl : ns.length = 4) (hn : ∀ n ∈ ns, n < 2 ^ 64) (more : ByteArray) (w : World) :
    Calls Try.prog 6 #[.int .i64 fl, .agg (rowU64 ns), .string more] w fun e w' => e = .returned (.bool true) ∧ Below w.heap.size w w' := by
  match ns, hl, hn with
  | [off, sym, ty, add], _, hn =>
    have h2 : off < 2 ^ 64 ∧ add < 2 ^ 64 := ⟨hn off (by simp), hn add (by simp)⟩
    obtain ⟨S, ok, hp⟩ := putIs_exists (bits BinOp.and IntKind.i64 fl 1 == 1) (bits BinOp.and IntKind.i64 fl 2 == 2) (bits BinOp.and IntKind.i64 fl 4 == 4) off sym ty add
    cases ok
    · have hv : S = ⟨#[]⟩ := by
        rcases hp with ⟨_, h, _⟩ | ⟨_, _, _, h⟩
        · exact h
        · exact recIs_no h
      exact rputs_false fl off sym ty add h2 more (min more.size 9) (by omega) _ _ _ rfl rfl rfl S hv hp w
    · exact rputs_true fl off sym ty add h2 more (min more.size 9) (by omega) _ _ _ rfl rfl rfl S hp w
end Go.Proofs.Ytddlflabdlgnbaa
