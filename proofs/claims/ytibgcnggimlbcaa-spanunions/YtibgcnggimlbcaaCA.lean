/- The contract of span.Common at spans that have an end. Conditions: those written in each theorem. -/
import Derived.Test.YtibgcnggimlbcaaZ
import Derived.Handy
namespace Go.Proofs.Ytibgcnggimlbcaa
open Go.RowKit Go.Shelf Go.Sort
theorem end_small (x y : Nat) (w : World) (hx : x < 2 ^ 32) (hy : y < 2 ^ 32) :
    Calls Try.prog 29 #[.agg #[.int .u64 (x : Int), .int .u64 (y : Int)]] w fun e w' => e = .returned (.tuple #[.int .u64 ((x + y : Nat) : Int), .bool true]) ∧ Below w.heap.size w w' := by
  have h := end_any x y w (by omega) (by omega)
  have h1 : sumN [x, y] = x + y := by simp [sumN, show x + y < 18446744073709551616 by omega]
  have h2 : sumOk [x, y] = true := by simp [sumOk, show x + y < 18446744073709551616 by omega]
  rw [h1, h2] at h
  exact h
theorem fresh2 (W : World) (b : Nat) (hb : b = W.heap.size) (u v : Value) (e : TypeId) : (W.alloc (.cells #[u, v] e)).cell? ⟨b, 0, none⟩ = some u ∧ (W.alloc (.cells #[u, v] e)).cell? ⟨b, 1, none⟩ = some v ∧ (W.alloc (.cells #[u, v] e)).frozen? ⟨b, 0, none⟩ = false ∧ (W.alloc (.cells #[u, v] e)).frozen? ⟨b, 1, none⟩ = false := by
  subst hb
  simp
theorem min_cast (a b : Nat) : min (a : Int) (b : Int) = ((min a b : Nat) : Int) := by omega
def comAt (x y u v : Nat) : Nat := if max x u < min (x + y) (u + v) then max x u else 0
def comLen (x y u v : Nat) : Nat := if max x u < min (x + y) (u + v) then min (x + y) (u + v) - max x u else 0
def comOk (x y u v : Nat) : Bool := decide (max x u < min (x + y) (u + v))
set_option maxHeartbeats 1000000 in
theorem common_any (x y u v : Nat) (w : World) (hx : x < 2 ^ 32) (hy : y < 2 ^ 32) (hu : u < 2 ^ 32) (hv : v < 2 ^ 32) :
    Calls Try.prog 37 #[.agg #[.int .u64 (x : Int), .int .u64 (y : Int)], .agg #[.int .u64 (u : Int), .int .u64 (v : Int)]] w fun e w' =>
      e = .returned (.tuple #[.agg #[.int .u64 (comAt x y u v : Int), .int .u64 (comLen x y u v : Int)], .bool (comOk x y u v)]) ∧ Below w.heap.size w w' := by
  have HC1 := Lib.hid (fun W => end_small x y W hx hy)
  have HC2 := Lib.hid (fun W => end_small u v W hu hv)
  have hm := max_cast x u
  have hn := min_cast (x + y) (u + v)
  have hcase : (comOk x y u v = true ∧ decide (min (x + y) (u + v) ≤ max x u) = false ∧ comAt x y u v = max x u ∧ IntKind.u64.wrap (((min (x + y) (u + v) : Nat) : Int) - ((max x u : Nat) : Int)) = (comLen x y u v : Int)) ∨
      (comOk x y u v = false ∧ decide (min (x + y) (u + v) ≤ max x u) = true ∧ comAt x y u v = 0 ∧ comLen x y u v = 0) := by
    unfold comOk comAt comLen
    by_cases h : max x u < min (x + y) (u + v)
    · left
      simp only [h, if_true, decide_true]
      refine ⟨trivial, by simp; omega, trivial, ?_⟩
      rw [IntKind.wrap_u64]; omega
    · right
      simp only [h, if_false, decide_false]
      exact ⟨trivial, by simp; omega, trivial, trivial⟩
  generalize comOk x y u v = ok at *
  generalize comAt x y u v = ca at *
  generalize comLen x y u v = cl at *
  clear hx hy hu hv
  generalize x + y = xe at *
  generalize u + v = ue at *
  generalize max x u = mx at *
  generalize min xe ue = mn at *
  rcases hcase with ⟨rfl, h1, rfl, h2⟩ | ⟨rfl, h1, rfl, rfl⟩
  all_goals
    go_enter Try.func37, Try.ntmps37
    go_wp2_with fail
    refine (HC1.out _).mono ?_
    rintro e w1 ⟨rfl, hb1⟩
    obtain ⟨hbc1, hbf1⟩ := bcell hb1
    go_wp2_with fail
    refine (HC2.out _).mono ?_
    rintro e w2 ⟨rfl, hb2⟩
    have hz1 := hb1.size
    simp at hz1
    have q1 : w2.cell? ⟨w.heap.size, 0, none⟩ = some (.int .u64 (x : Int)) := by
      rw [(bcell hb2).1 _ _ (by omega), hbc1 _ _ (by simp; omega), World.cell?_alloc_past _ _ _ (by simp; omega), World.cell?_alloc_past _ _ _ (by simp)]; simp
    have q2 : w2.cell? ⟨w.heap.size + 1, 0, none⟩ = some (.int .u64 (u : Int)) := by
      rw [(bcell hb2).1 _ _ (by omega), hbc1 _ _ (by simp), World.cell?_alloc_past _ _ _ (by simp)]; simp
    have q3 : w2.cell? ⟨w.heap.size + 1 + 1, 0, none⟩ = some (.int .u64 0) := by
      rw [(bcell hb2).1 _ _ (by omega), hbc1 _ _ (by simp)]; exact (fresh2 _ _ (by simp) _ _ _).1
    have q4 : w2.cell? ⟨w.heap.size + 1 + 1, 1, none⟩ = some (.int .u64 0) := by
      rw [(bcell hb2).1 _ _ (by omega), hbc1 _ _ (by simp)]; exact (fresh2 _ _ (by simp) _ _ _).2.1
    have q5 : w2.frozen? ⟨w.heap.size + 1 + 1, 0, none⟩ = false := by
      rw [(bcell hb2).2 _ _ (by omega), hbf1 _ _ (by simp)]; exact (fresh2 _ _ (by simp) _ _ _).2.2.1
    have q6 : w2.frozen? ⟨w.heap.size + 1 + 1, 1, none⟩ = false := by
      rw [(bcell hb2).2 _ _ (by omega), hbf1 _ _ (by simp)]; exact (fresh2 _ _ (by simp) _ _ _).2.2.2
    clear hbc1 hbf1
    have r0 : ∀ A, (w2.setCell ⟨w.heap.size + 1 + 1, 0, none⟩ A).cell? ⟨w.heap.size + 1 + 1, 0, none⟩ = some A := fun A => World.cell?_setCell_same _ _ _ q3
    have r1 : ∀ A L, ((w2.setCell ⟨w.heap.size + 1 + 1, 0, none⟩ A).setCell ⟨w.heap.size + 1 + 1, 1, none⟩ L).cell? ⟨w.heap.size + 1 + 1, 1, none⟩ = some L := fun A L => World.cell?_setCell_same _ _ _ (u := .int .u64 0) (by rw [World.cell?_setCell_other _ _ _ _ (by simp)]; exact q4)
    have hB3 : Below w.heap.size w w2 := (((((Below.refl _ _).alloc (Nat.le_refl _) _).alloc (by simp) _).alloc (by simp; omega) _).trans (hb1.mono (by simp; omega))).trans (hb2.mono (by omega))
    go_wp2
    refine bodyPost_ret (by simp [results, Try.results37, go_sem, r0, r1]; try rfl) rfl ?_
    exact ⟨rfl, (hB3.setCell (by simp; omega) _).setCell (by simp; omega) _⟩
end Go.Proofs.Ytibgcnggimlbcaa
