/- slices.SortFunc at the entries, and at numbers, in this program. Conditions: those written in each theorem. -/
import Derived.Test.YtkajgakblcgocaaUG
import Derived.Test.YtkajgakblcgocaaUI
namespace Go.Proofs.Ytkajgakblcgocaa
open Go.RowKit Go.Sort Go.Shelf Go.Lib
theorem sortE : SortE := fun g cap ss L W hH hg hl => by
  have eg : ∀ args w, (callFunc 54 args).run Try.prog w = .ok (.enter 54 args) w := enters_of Try.func54 (by kernel_rfl) rfl
  have hcmp : CmpLays Try.prog 54 #[] (encE L) 5 cmpE g 0 ss.toArray.size W := fun _ _ _ _ x y => closure54 x y (L x) (L y) _
  have h := AnyQ.slices_SortFunc_total Try.sortE 5 Try.isAgg99 Try.sizeOf99 (encE L) (fun _ => rfl) (fun x v hv => by simp [encE, ent0, Ent.cells, encStr] at hv; rcases hv with rfl | rfl | rfl | rfl <;> rfl) cmpE swoE 54 #[] g 0 cap ss.toArray W eg hcmp hH hg (by simpa using hl) totE
  change Calls Try.prog 53 _ _ _ at h
  exact h
end Go.Proofs.Ytkajgakblcgocaa
