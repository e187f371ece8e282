/- Plain facts on numbers and bytes. Conditions: those written in each theorem. -/
import Derived.Test.YtnmklmaclmjfbaaDoorL
namespace Go.Proofs.YtnmklmaclmjfbaaDoor
namespace Num
theorem getN_lt (big : Bool) (t : List UInt8) (h8 : t.length ≤ 8) : getN big t < 256 ^ t.length := by
  unfold getN
  rw [if_pos h8]
  cases big
  · have := horner_lt t.reverse
    simpa using this
  · exact horner_lt t
theorem putL_getN (big : Bool) (t : List UInt8) (h1 : 1 ≤ t.length) (h8 : t.length ≤ 8) : putL big (getN big t) (t.length : Int) = t := by
  unfold putL getN
  rw [if_pos (by omega), if_pos h8, Int.toNat_natCast]
  cases big
  · have := leB_horner t.reverse
    rw [List.length_reverse, List.reverse_reverse] at this
    simpa using this
  · have := leB_horner t
    simp [this]
end Num
end Go.Proofs.YtnmklmaclmjfbaaDoor
