/- Contracts of strtab's Right. Conditions: those written in each theorem. -/
import Derived.Test.YtddlflabdlgnbaaOC
namespace Go.Proofs.Ytddlflabdlgnbaa
open Go.RowKit
theorem right_empty (w : World) : Calls Try.prog 15 #[.string ⟨#[]⟩] w fun e w' => e = .returned (.bool true) ∧ w = w' := by
  go_enter Try.func15, Try.ntmps15
  go_wp2
  go_ret
  exact ⟨rfl, rfl⟩
theorem right_some (t : ByteArray) (w : World) (h : 0 < t.size) (hm : t.size ≤ maxLen) :
    Calls Try.prog 15 #[.string t] w fun e w' => e = .returned (.bool (((t[0].toNat : Int) == 0) && ((t[t.size - 1].toNat : Int) == 0))) ∧ w = w' := by
  unfold maxLen at hm
  have hi : (0 : Int) < (t.size : Int) := by omega
  have hne : t.toList ≠ [] := by
    rw [ByteArray.toList_eq]
    intro he
    have h1 : t.data.toList.length = t.size := by simp
    rw [he] at h1
    simp only [List.length_nil] at h1
    omega
  have hn1 : (t.toList == []) = false := by simpa using hne
  have hn2 : t.toList.isEmpty = false := by simpa using hne
  have hn3 : (!t.toList.isEmpty) = true := by rw [hn2]; rfl
  clear hne
  cases h0 : ((t[0].toNat : Int) == 0)
  all_goals
    go_enter Try.func15, Try.ntmps15
    go_wp2
    go_ret
    exact ⟨by simp, rfl⟩
end Go.Proofs.Ytddlflabdlgnbaa
