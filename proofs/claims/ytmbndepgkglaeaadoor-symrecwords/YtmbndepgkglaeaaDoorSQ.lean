/- Contracts of a header's package, by gen_hdr.py. Conditions: those written in each theorem. -/
import Derived.Laws.CopyOwn
import Derived.Laws.Tables
import Derived.Test.YtmbndepgkglaeaaDoorS0
import Derived.Test.YtmbndepgkglaeaaDoorS1
import Derived.Test.YtmbndepgkglaeaaDoorS2
namespace Go.Proofs.YtmbndepgkglaeaaDoor
open Go.RowKit
theorem ywords (a b : Nat) (ha : a < 2 ^ 64) (hb : b < 2 ^ 64) (w : World) (hT : TabsY w) :
    Calls Tryd.prog 4 #[.int .u64 a, .int .u64 b] w fun e w' => e = .returned (.bool true) ∧ Below w.heap.size w w' := by
  by_cases h3 : a < 3
  · exact ywords0 a b ha hb h3 w hT
  by_cases h7 : a < 7
  · exact ywords1 a b ha hb (by omega) h7 w hT
  · exact ywords2 a b ha hb (by omega) w hT
end Go.Proofs.YtmbndepgkglaeaaDoor
