/- The contract of layer 3's speaks: Build at two names. Conditions: those written in each theorem. -/
import Derived.Test.YtddlflabdlgnbaaUR
import Derived.Test.YtddlflabdlgnbaaT
namespace Go.Proofs.Ytddlflabdlgnbaa
open Go.RowKit Go.Sort Go.Maps Go.Shelf
def N0 : List (List UInt8) := [[98, 99], [97, 98, 99]]
theorem sortN0 : sortN N0 = N0 := sort_same (List.Perm.refl _) (by decide)
def E0 : List Ent := [⟨[98, 99], 0, 0, -1⟩, ⟨[97, 98, 99], 1, 0, 0⟩]
theorem EN0 : EN N0 = E0 := by unfold EN; rw [sortN0]; rfl
theorem wholeE0 : wholeTo E0 E0.length = [1] := by decide
theorem wsE0 : ws E0 = [1] := by
  have h := ws_perm E0
  rw [wholeE0] at h
  exact List.perm_singleton.1 h
theorem tabN0 : tabN N0 = [0, 97, 98, 99, 0] := by unfold tabN; rw [EN0, wsE0]; decide
theorem EL0 : EL N0 = [⟨[98, 99], 0, 0, -1⟩, ⟨[97, 98, 99], 1, 4, 0⟩] := by unfold EL; rw [EN0, wsE0]; rfl
theorem sizeE0 : sizeTo (EN N0) (EN N0).length ≤ 1048576 := by rw [EN0]; decide
theorem off0 : offS N0 [98, 99] = 2 := by unfold offS; rw [EL0]; decide
theorem off1 : offS N0 [97, 98, 99] = 1 := by unfold offS; rw [EL0]; decide
theorem names0 : NamesOk N0 := ⟨by decide, by decide⟩
theorem good0 : ¬ ∃ i, i < N0.length ∧ Bad (nth N0 i) := by
  rintro ⟨i, h, hb⟩
  have : i = 0 ∨ i = 1 := by have : i < 2 := h; omega
  rcases this with rfl | rfl
  · exact absurd hb (by unfold Bad; decide)
  · exact absurd hb (by unfold Bad; decide)
set_option maxRecDepth 100000 in
set_option maxHeartbeats 2000000 in
theorem speaks_any (w : World) : Calls Try.prog 12 #[] w fun e w' => e = .returned (.bool true) ∧ Below w.heap.size w w' := by
  have hrow : RowS (w.alloc (.cells #[.string ⟨#[98, 99]⟩, .string ⟨#[97, 98, 99]⟩] 9)) w.heap.size 0 N0 := by
    refine ⟨by simp, fun i hi => ?_⟩
    have : i = 0 ∨ i = 1 := by have : i < 2 := hi; omega
    rcases this with rfl | rfl
    · simp [nth, N0, encStr]
    · simp [nth, N0, encStr]
  have hb := build_any w.heap.size 0 2 N0 names0 _ hrow
  have HB := Lib.hid hb
  clear hb hrow
  go_enter Try.func12, Try.ntmps12
  go_wp2_with fail
  refine HB.out.mono ?_
  rintro e w1 ⟨hB, ⟨hbad, _⟩ | ⟨_, hbig, _⟩ | ⟨_, _, g, hg, rfl, hrow⟩⟩
  · exact absurd hbad good0
  · have := sizeE0; omega
  have hB1 : Below w.heap.size w w1 := ((Below.refl _ w).alloc (Nat.le_refl _) _).trans (hB.mono (by simp))
  have c0 := hrow.cell (i := 0) (by decide)
  have c1 := hrow.cell (i := 1) (by decide)
  rw [show nth N0 0 = [98, 99] from rfl, off0] at c0
  rw [show nth N0 1 = [97, 98, 99] from rfl, off1] at c1
  rw [tabN0]
  have hr := right_some ⟨#[0, 97, 98, 99, 0]⟩ w1 (by decide) (by decide)
  have HRT := Lib.hid hr; have HB1 := Lib.hid hB1
  clear hr hB1 hB hrow hg HB
  go_wp2_with fail
  refine HRT.out.mono ?_
  rintro e w2 ⟨rfl, rfl⟩
  go_wp2
  go_ret
  exact ⟨rfl, HB1.out⟩
end Go.Proofs.Ytddlflabdlgnbaa
