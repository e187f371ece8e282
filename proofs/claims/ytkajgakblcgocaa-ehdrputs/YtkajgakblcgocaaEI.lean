/- Contracts of a header's package, by gen_hdr.py. Conditions: those written in each theorem. -/
import Derived.Laws.CopyOwn
import Derived.Laws.Tables
import Derived.Test.YtkajgakblcgocaaEG
import Derived.Test.YtkajgakblcgocaaEH
import Derived.Test.YtkajgakblcgocaaON
namespace Go.Proofs.Ytkajgakblcgocaa
open Go.RowKit
theorem eputs_wf (fl : Int) (ns : List Nat) (hl : ns.length = 13) (hn : ∀ n ∈ ns, n < 2 ^ 64) (more : ByteArray) (w : World) :
    Calls Try.prog 7 #[.int .i64 fl, .agg (rowU64 ns), .string more] w fun e w' => e = .returned (.bool true) ∧ Below w.heap.size w w' := by
  match ns, hl, hn with
  | [n0, n1, n2, n3, n4, n5, n6, n7, n8, n9, n10, n11, n12], _, hn =>
    obtain ⟨S, ok, hrec⟩ := recIs_exists (bits BinOp.and IntKind.i64 fl 1 == 1) (bits BinOp.and IntKind.i64 fl 2 == 2) eSizes [n0, n1, n2, n3, n4, n5, n6, n7, n8, n9, n10, n11, n12] 13 13
    cases ok
    · exact eputs_false fl n0 n1 n2 n3 n4 n5 n6 n7 n8 n9 n10 n11 n12 hn more (min more.size 20) (by omega) _ _ rfl rfl S hrec w
    · exact eputs_true fl n0 n1 n2 n3 n4 n5 n6 n7 n8 n9 n10 n11 n12 hn more (min more.size 20) (by omega) _ _ rfl rfl S hrec w
end Go.Proofs.Ytkajgakblcgocaa
