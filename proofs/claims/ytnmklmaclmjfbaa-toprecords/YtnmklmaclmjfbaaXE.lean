/- Contracts of layer 9, relocations. Conditions: those written in each theorem. -/
import Derived.Laws.CopyOwn
import Derived.Laws.Tables
import Derived.Deep.Cut
import Derived.Test.YtnmklmaclmjfbaaXB
namespace Go.Proofs.Ytnmklmaclmjfbaa
open Go.RowKit
theorem info_sum (k sym ty : Nat) (h : sym * k + ty < 2 ^ 64) : IntKind.u64.wrap (IntKind.u64.wrap ((sym : Int) * (k : Int)) + (ty : Int)) = ((sym * k + ty : Nat) : Int) := by
  have e1 : IntKind.u64.wrap ((sym : Int) * (k : Int)) = ((sym * k : Nat) : Int) := by
    rw [← Int.natCast_mul, IntKind.wrap_u64]
    generalize sym * k = y at *
    omega
  rw [e1, IntKind.wrap_u64]
  generalize sym * k = y at *
  omega
end Go.Proofs.Ytnmklmaclmjfbaa
