/- slices.SortFunc at the entries, and at numbers, in this program. Conditions: those written in each theorem. -/
import Derived.Test.YtddlflabdlgnbaaUG
import Derived.Test.YtddlflabdlgnbaaUI
namespace Go.Proofs.Ytddlflabdlgnbaa
open Go.RowKit Go.Sort Go.Shelf Go.Lib
set_option maxRecDepth 100000 in
set_option maxHeartbeats 1000000 in
theorem sortE : SortE := fun g cap ss L W hH hg hl => by
  have eg : ∀ args w, (callFunc 74 args).run Try.prog w = .ok (.enter 74 args) w := enters_of Try.func74 (by kernel_rfl) rfl
  have hcmp : CmpLays Try.prog 74 #[] (encE L) 5 cmpE g 0 ss.toArray.size W := fun _ _ _ _ x y => closure54 x y (L x) (L y) _
  have h := AnyQ.slices_SortFunc_total Try.sortE 5 Try.isAgg140 Try.sizeOf140 (encE L) (fun _ => rfl) (fun x v hv => by simp [encE, ent0, Ent.cells, encStr] at hv; rcases hv with rfl | rfl | rfl | rfl <;> rfl) cmpE swoE 74 #[] g 0 cap ss.toArray W eg hcmp hH hg (by simpa using hl) totE
  change Calls Try.prog 73 _ _ _ at h
  exact h
end Go.Proofs.Ytddlflabdlgnbaa
