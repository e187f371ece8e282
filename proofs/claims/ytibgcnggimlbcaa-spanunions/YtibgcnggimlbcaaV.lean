/- Contracts of span's closure for the sort, of cmp.Compare, and of slices.SortFunc at 12 spans or fewer. Conditions: those written in each theorem. -/
import Derived.Test.YtibgcnggimlbcaaU
import Derived.WalkKit
import Derived.WalkLawsBesides
import Derived.WalkSpells
import Derived.Outline
import Derived.Lib.Hide
import Derived.BigQuiet
import Derived.Deep.QuietTactic
import Derived.Deep.RegionHeld3
namespace Go.Proofs.Ytibgcnggimlbcaa
open Go.Shelf Go.RowKit Go.Lib Go.Sort
/-- A span's two cells. -/
def encS (x : Nat × Nat) : List Value := [.int .u64 (x.1 : Int), .int .u64 (x.2 : Int)]
/-- How two spans compare: by their first bytes. -/
def cmpS (x y : Nat × Nat) : Int := if x.1 < y.1 then -1 else if y.1 < x.1 then 1 else 0
theorem ltS (x y : Nat × Nat) : ltOf cmpS x y = decide (x.1 < y.1) := by
  unfold ltOf cmpS
  by_cases h1 : x.1 < y.1
  · simp [h1]
  · by_cases h2 : y.1 < x.1 <;> simp [h1, h2]
theorem swoS : SWO (ltOf cmpS) where
  irrefl x := by rw [ltS]; simp
  trans x y z h1 h2 := by rw [ltS] at *; simp at *; omega
  ntrans x y z h1 h2 := by rw [ltS] at *; simp at *; omega
set_option maxHeartbeats 400000 in
theorem compare49 (x y : Nat) (w : World) : Calls Try.prog 49 #[.int .u64 (x : Int), .int .u64 (y : Int)] w fun e w' => e = .returned (.int .i64 (cmpS (x, 0) (y, 0))) ∧ w = w' := by
  unfold cmpS
  by_cases h1 : x < y
  · simp only [h1, if_true]
    have hd : decide (x < y) = true := by simpa using h1
    go_enter Try.func49, Try.ntmps49
    go_wp2
    go_ret
    exact ⟨rfl, rfl⟩
  · have hd : decide (x < y) = false := by simpa using h1
    by_cases h2 : y < x
    · simp only [h1, h2, if_true, if_false]
      have hd2 : decide (y < x) = true := by simpa using h2
      go_enter Try.func49, Try.ntmps49
      go_wp2
      go_ret
      exact ⟨rfl, rfl⟩
    · simp only [h1, h2, if_false]
      have hd2 : decide (y < x) = false := by simpa using h2
      go_enter Try.func49, Try.ntmps49
      go_wp2
      go_ret
      exact ⟨rfl, rfl⟩
set_option maxHeartbeats 1000000 in
theorem closure48 (x y : Nat × Nat) (W : World) : Calls Try.prog 48 #[.agg #[.int .u64 (x.1 : Int), .int .u64 (x.2 : Int)], .agg #[.int .u64 (y.1 : Int), .int .u64 (y.2 : Int)]] W fun e w' => e = .returned (.int .i64 (cmpS x y)) ∧ ∃ q os', w' = grow (W.drewN q) os' := by
  have hcon := fun W' => compare49 x.1 y.1 W'
  have e : cmpS (x.1, 0) (y.1, 0) = cmpS x y := rfl
  rw [e] at hcon
  generalize cmpS x y = r at hcon ⊢
  have HC := Lib.hid hcon; clear hcon e
  go_enter Try.func48, Try.ntmps48
  go_wp2_with (go_at_call 49; refine (HC.out _).mono ?_; rintro e w' ⟨rfl, rfl⟩)
  go_ret
  exact ⟨rfl, 0, _, by rw [alloc_eq_grow, alloc_eq_grow, grow_grow]; rfl⟩
theorem cmpLays48 (blk off size : Nat) (w : World) : CmpLays Try.prog 48 #[] encS 2 cmpS blk off size w :=
  fun _ _ _ _ x y => closure48 x y _
theorem len52 (n : Nat) (W : World) (h : n ≤ 12) : Calls Try.prog 52 #[.int .u64 n] W fun e w' => (∃ l : Int, e = .returned (.int .i64 l)) ∧ w' = W :=
  (Any.bits_Len Try.bitsLen n W (by omega) (by omega)).mono fun _ _ ⟨he, hw⟩ => ⟨⟨_, he⟩, hw⟩
theorem sort47 (blk off cap : Nat) (d : Array (Nat × Nat)) (w : World) (hH : HoldsK encS 2 w blk off d) (hblk : blk < w.heap.size) (h12 : d.size ≤ 12) :
    Calls Try.prog 47 #[.slice (some ⟨blk, off, none⟩) d.size cap, .func (.func 48) #[] #[]] w fun e w' => e = .returned (.tuple #[]) ∧ ∃ d' n os, PermIn 0 d.size d d' ∧ SortedIn (ltOf cmpS) 0 d.size d' ∧ w' = sortWorldK encS 2 w blk off n d' os := by
  have eg : ∀ args w, (callFunc 48 args).run Try.prog w = .ok (.enter 48 args) w := enters_of Try.func48 (by kernel_rfl) rfl
  exact AnyQ.slices_SortFunc_small_sorted Try.sortSp 2 Try.isAgg52 Try.sizeOf52 encS (fun _ => rfl) (fun x v hv => by simp [encS] at hv; rcases hv with rfl | rfl <;> rfl) cmpS 48 #[] swoS blk off cap d w eg (cmpLays48 blk off d.size w) hH hblk h12 len52
end Go.Proofs.Ytibgcnggimlbcaa
