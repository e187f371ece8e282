/- The contract of the reference's Record where a number may not be in its field. Conditions: those written in each theorem. -/
import Derived.Test.YtnmklmaclmjfbaaJ
namespace Go.Proofs.Ytnmklmaclmjfbaa
open Go.RowKit
end Go.Proofs.Ytnmklmaclmjfbaa
