/- DynrecTags for any entries. Conditions: those written in each theorem. -/
import Derived.Test.YtnmklmaclmjfbaaDoorGW
import Derived.Test.YtnmklmaclmjfbaaDoorEB
namespace Go.Proofs.YtnmklmaclmjfbaaDoor
open Go.RowKit
theorem tags_law (A : Option Addr) (len cap : Nat) (R : Nat → Nat × Nat) (a b : Nat) (ha : a < 2 ^ 64) (hb : b < 2 ^ 64) (w : World) (hR : RowP w A len R) (hT : TabsD w) :
    Calls Tryd.prog 6 #[.slice A len cap, .int .u64 a, .int .u64 b] w fun e w' => e = .returned (.bool true) ∧ Below w.heap.size w w' :=
  tags_t A cap len (min len 12) (by omega) R a b ha hb w (fun i hi => hR i (by omega)) hT
end Go.Proofs.YtnmklmaclmjfbaaDoor
