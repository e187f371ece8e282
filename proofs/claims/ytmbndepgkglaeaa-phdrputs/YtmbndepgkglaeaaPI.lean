/- Contracts of a header's package, by gen_hdr.py. Conditions: those written in each theorem. -/
import Derived.Laws.CopyOwn
import Derived.Laws.Tables
import Derived.Test.YtmbndepgkglaeaaPG
import Derived.Test.YtmbndepgkglaeaaPH
import Derived.Test.YtmbndepgkglaeaaON
namespace Go.Proofs.Ytmbndepgkglaeaa
open Go.RowKit
theorem pputs_wf (fl : Int) (ns : List Nat) (hl : ns.length = 8) (hn : ∀ n ∈ ns, n < 2 ^ 64) (more : ByteArray) (w : World) :
    Calls Try.prog 3 #[.int .i64 fl, .agg (rowU64 ns), .string more] w fun e w' => e = .returned (.bool true) ∧ Below w.heap.size w w' := by
  match ns, hl, hn with
  | [n0, n1, n2, n3, n4, n5, n6, n7], _, hn =>
    obtain ⟨S, ok, hrec⟩ := recIs_exists (bits BinOp.and IntKind.i64 fl 1 == 1) (bits BinOp.and IntKind.i64 fl 2 == 2) (pSizes (bits BinOp.and IntKind.i64 fl 2 == 2)) (pNs (bits BinOp.and IntKind.i64 fl 2 == 2) n0 n1 n2 n3 n4 n5 n6 n7) 8 8
    cases ok
    · exact pputs_false fl n0 n1 n2 n3 n4 n5 n6 n7 hn more (min more.size 20) (by omega) _ _ rfl rfl S hrec w
    · exact pputs_true fl n0 n1 n2 n3 n4 n5 n6 n7 hn more (min more.size 20) (by omega) _ _ rfl rfl S hrec w
end Go.Proofs.Ytmbndepgkglaeaa
