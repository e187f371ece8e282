/- Contracts of order's isSize and index: what each call returns, for sizes of 1 to 8 bytes (index) and for all (isSize). Conditions: those written in each theorem. -/
import Derived.Test.YtnmklmaclmjfbaaDoorProg
import Derived.WalkKit
import Derived.WalkLawsBesides
import Derived.WalkSpells
import Derived.Outline
import Derived.Lib.Hide
import Derived.BigQuiet
import Derived.Deep.QuietTactic
import Derived.Deep.RegionHeld3
namespace Go.Proofs.YtnmklmaclmjfbaaDoor
open Go.RowKit

theorem isSize_yes (s : Int) (w : World) (h1 : 1 ≤ s) (h2 : s ≤ 8) :
    Calls Tryd.prog 38 #[.int .i64 s] w fun e w' => e = .returned (.bool true) ∧ w = w' := by
  go_enter Tryd.func38, Tryd.ntmps38
  go_wp2
  go_ret
  exact ⟨rfl, rfl⟩
theorem isSize_no (s : Int) (w : World) (h : s < 1 ∨ 8 < s) :
    Calls Tryd.prog 38 #[.int .i64 s] w fun e w' => e = .returned (.bool false) ∧ w = w' := by
  rcases h with h | h
  · have h' : decide (1 ≤ s) = false := by simp; omega
    go_enter Tryd.func38, Tryd.ntmps38
    go_wp2
    go_ret
    exact ⟨rfl, rfl⟩
  · have h' : decide (1 ≤ s) = true := by simp; omega
    have h' : decide (s ≤ 8) = false := by simp; omega
    go_enter Tryd.func38, Tryd.ntmps38
    go_wp2
    go_ret
    exact ⟨rfl, rfl⟩
theorem index_big (i n : Int) (w : World) (h0 : 0 ≤ i) (h1 : i < n) (h2 : n ≤ 8) :
    Calls Tryd.prog 52 #[.agg #[.bool true], .int .i64 i, .int .i64 n] w fun e w' => e = .returned (.int .i64 (n - 1 - i)) ∧ w' = w.alloc (.cells #[.bool true] 25) := by
  go_enter Tryd.func52, Tryd.ntmps52
  go_wp2
  go_ret
  exact ⟨rfl, rfl⟩
theorem index_little (i n : Int) (w : World) :
    Calls Tryd.prog 52 #[.agg #[.bool false], .int .i64 i, .int .i64 n] w fun e w' => e = .returned (.int .i64 i) ∧ w' = w.alloc (.cells #[.bool false] 25) := by
  go_enter Tryd.func52, Tryd.ntmps52
  go_wp2
  go_ret
  exact ⟨rfl, rfl⟩
end Go.Proofs.YtnmklmaclmjfbaaDoor
