/- Contracts of ehdr's Plain and Check. Conditions: those written in each theorem. -/
import Derived.Test.YtedocnidgiglaaaEE
namespace Go.Proofs.Ytedocnidgiglaaa
open Go.RowKit
def ehs (wide : Bool) : Nat := if wide then 64 else 52
def phs (wide : Bool) : Nat := if wide then 56 else 32
def shs (wide : Bool) : Nat := if wide then 64 else 40
theorem esz_false (big : Bool) (w : World) : Calls Try.prog 44 #[.agg #[.bool big, .bool false]] w fun e w' => e = .returned (.int .i64 36) ∧ Below w.heap.size w w' := esize big false w
set_option maxRecDepth 100000 in
set_option maxHeartbeats 1000000 in
theorem eplain_false (big : Bool) (w : World) : Calls Try.prog 45 #[.agg #[.bool big, .bool false]] w fun e w' => e = .returned (.agg #[.int .u64 0, .int .u64 0, .int .u64 1, .int .u64 0, .int .u64 0, .int .u64 0, .int .u64 0, .int .u64 52, .int .u64 32, .int .u64 0, .int .u64 40, .int .u64 0, .int .u64 0]) ∧ Below w.heap.size w w' := by
  go_enter Try.func45, Try.ntmps45
  go_wp2_with fail
  refine (esz_false big _).mono ?_
  rintro e w1 ⟨rfl, h1⟩
  have b1 : Below w.heap.size w w1 := (((Below.refl _ _).alloc (Nat.le_refl _) _).alloc (by simp) _).trans (h1.mono (by simp; omega))
  have z1 : w.heap.size + 1 < w1.heap.size := by have := h1.size; simp at this; omega
  have f0 : w1.cell? ⟨w.heap.size, 0, none⟩ = some (.bool big) := by rw [h1.cell (by simp; omega)]; simp
  have f1 : w1.cell? ⟨w.heap.size, 1, none⟩ = some (.bool false) := by rw [h1.cell (by simp; omega)]; simp
  have z0 : w.heap.size < w1.heap.size := by omega
  have hR : w1.heap[w.heap.size + 1]? = some (.cells #[.int .u64 0, .int .u64 0, .int .u64 0, .int .u64 0, .int .u64 0, .int .u64 0, .int .u64 0, .int .u64 0, .int .u64 0, .int .u64 0, .int .u64 0, .int .u64 0, .int .u64 0] 38 (0, 0)) := by rw [h1.block _ (by simp)]; exact two_new _ _ _
  have r0 : w1.cell? ⟨w.heap.size + 1, 0, none⟩ = some (.int .u64 0) := by simp [World.cell?, hR]
  have t0 : w1.frozen? ⟨w.heap.size + 1, 0, none⟩ = false := by simp [World.frozen?, hR]
  have r1 : w1.cell? ⟨w.heap.size + 1, 1, none⟩ = some (.int .u64 0) := by simp [World.cell?, hR]
  have t1 : w1.frozen? ⟨w.heap.size + 1, 1, none⟩ = false := by simp [World.frozen?, hR]
  have r2 : w1.cell? ⟨w.heap.size + 1, 2, none⟩ = some (.int .u64 0) := by simp [World.cell?, hR]
  have t2 : w1.frozen? ⟨w.heap.size + 1, 2, none⟩ = false := by simp [World.frozen?, hR]
  have r3 : w1.cell? ⟨w.heap.size + 1, 3, none⟩ = some (.int .u64 0) := by simp [World.cell?, hR]
  have t3 : w1.frozen? ⟨w.heap.size + 1, 3, none⟩ = false := by simp [World.frozen?, hR]
  have r4 : w1.cell? ⟨w.heap.size + 1, 4, none⟩ = some (.int .u64 0) := by simp [World.cell?, hR]
  have t4 : w1.frozen? ⟨w.heap.size + 1, 4, none⟩ = false := by simp [World.frozen?, hR]
  have r5 : w1.cell? ⟨w.heap.size + 1, 5, none⟩ = some (.int .u64 0) := by simp [World.cell?, hR]
  have t5 : w1.frozen? ⟨w.heap.size + 1, 5, none⟩ = false := by simp [World.frozen?, hR]
  have r6 : w1.cell? ⟨w.heap.size + 1, 6, none⟩ = some (.int .u64 0) := by simp [World.cell?, hR]
  have t6 : w1.frozen? ⟨w.heap.size + 1, 6, none⟩ = false := by simp [World.frozen?, hR]
  have r7 : w1.cell? ⟨w.heap.size + 1, 7, none⟩ = some (.int .u64 0) := by simp [World.cell?, hR]
  have t7 : w1.frozen? ⟨w.heap.size + 1, 7, none⟩ = false := by simp [World.frozen?, hR]
  have r8 : w1.cell? ⟨w.heap.size + 1, 8, none⟩ = some (.int .u64 0) := by simp [World.cell?, hR]
  have t8 : w1.frozen? ⟨w.heap.size + 1, 8, none⟩ = false := by simp [World.frozen?, hR]
  have r9 : w1.cell? ⟨w.heap.size + 1, 9, none⟩ = some (.int .u64 0) := by simp [World.cell?, hR]
  have t9 : w1.frozen? ⟨w.heap.size + 1, 9, none⟩ = false := by simp [World.frozen?, hR]
  have r10 : w1.cell? ⟨w.heap.size + 1, 10, none⟩ = some (.int .u64 0) := by simp [World.cell?, hR]
  have t10 : w1.frozen? ⟨w.heap.size + 1, 10, none⟩ = false := by simp [World.frozen?, hR]
  have r11 : w1.cell? ⟨w.heap.size + 1, 11, none⟩ = some (.int .u64 0) := by simp [World.cell?, hR]
  have t11 : w1.frozen? ⟨w.heap.size + 1, 11, none⟩ = false := by simp [World.frozen?, hR]
  have r12 : w1.cell? ⟨w.heap.size + 1, 12, none⟩ = some (.int .u64 0) := by simp [World.cell?, hR]
  have t12 : w1.frozen? ⟨w.heap.size + 1, 12, none⟩ = false := by simp [World.frozen?, hR]
  clear hR h1
  go_wp2
  exact bodyPost_ret (v := .agg #[.int .u64 0, .int .u64 0, .int .u64 1, .int .u64 0, .int .u64 0, .int .u64 0, .int .u64 0, .int .u64 52, .int .u64 32, .int .u64 0, .int .u64 40, .int .u64 0, .int .u64 0]) (by simp [results, Try.results45, go_sem, z1, r0, r1, r2, r3, r4, r5, r6, r7, r8, r9, r10, r11, r12]) rfl ⟨rfl, (((((((((((((b1.setCell (by show w.heap.size ≤ w.heap.size + 1; omega) _).setCell (by show w.heap.size ≤ w.heap.size + 1; omega) _).setCell (by show w.heap.size ≤ w.heap.size + 1; omega) _).setCell (by show w.heap.size ≤ w.heap.size + 1; omega) _).setCell (by show w.heap.size ≤ w.heap.size + 1; omega) _).setCell (by show w.heap.size ≤ w.heap.size + 1; omega) _).setCell (by show w.heap.size ≤ w.heap.size + 1; omega) _).setCell (by show w.heap.size ≤ w.heap.size + 1; omega) _).setCell (by show w.heap.size ≤ w.heap.size + 1; omega) _).setCell (by show w.heap.size ≤ w.heap.size + 1; omega) _).setCell (by show w.heap.size ≤ w.heap.size + 1; omega) _).setCell (by show w.heap.size ≤ w.heap.size + 1; omega) _).setCell (by show w.heap.size ≤ w.heap.size + 1; omega) _).alloc (by simpa using b1.size) _⟩
theorem esz_true (big : Bool) (w : World) : Calls Try.prog 44 #[.agg #[.bool big, .bool true]] w fun e w' => e = .returned (.int .i64 48) ∧ Below w.heap.size w w' := esize big true w
set_option maxRecDepth 100000 in
set_option maxHeartbeats 1000000 in
theorem eplain_true (big : Bool) (w : World) : Calls Try.prog 45 #[.agg #[.bool big, .bool true]] w fun e w' => e = .returned (.agg #[.int .u64 0, .int .u64 0, .int .u64 1, .int .u64 0, .int .u64 0, .int .u64 0, .int .u64 0, .int .u64 64, .int .u64 56, .int .u64 0, .int .u64 64, .int .u64 0, .int .u64 0]) ∧ Below w.heap.size w w' := by
  go_enter Try.func45, Try.ntmps45
  go_wp2_with fail
  refine (esz_true big _).mono ?_
  rintro e w1 ⟨rfl, h1⟩
  have b1 : Below w.heap.size w w1 := (((Below.refl _ _).alloc (Nat.le_refl _) _).alloc (by simp) _).trans (h1.mono (by simp; omega))
  have z1 : w.heap.size + 1 < w1.heap.size := by have := h1.size; simp at this; omega
  have f0 : w1.cell? ⟨w.heap.size, 0, none⟩ = some (.bool big) := by rw [h1.cell (by simp; omega)]; simp
  have f1 : w1.cell? ⟨w.heap.size, 1, none⟩ = some (.bool true) := by rw [h1.cell (by simp; omega)]; simp
  have z0 : w.heap.size < w1.heap.size := by omega
  have hR : w1.heap[w.heap.size + 1]? = some (.cells #[.int .u64 0, .int .u64 0, .int .u64 0, .int .u64 0, .int .u64 0, .int .u64 0, .int .u64 0, .int .u64 0, .int .u64 0, .int .u64 0, .int .u64 0, .int .u64 0, .int .u64 0] 38 (0, 0)) := by rw [h1.block _ (by simp)]; exact two_new _ _ _
  have r0 : w1.cell? ⟨w.heap.size + 1, 0, none⟩ = some (.int .u64 0) := by simp [World.cell?, hR]
  have t0 : w1.frozen? ⟨w.heap.size + 1, 0, none⟩ = false := by simp [World.frozen?, hR]
  have r1 : w1.cell? ⟨w.heap.size + 1, 1, none⟩ = some (.int .u64 0) := by simp [World.cell?, hR]
  have t1 : w1.frozen? ⟨w.heap.size + 1, 1, none⟩ = false := by simp [World.frozen?, hR]
  have r2 : w1.cell? ⟨w.heap.size + 1, 2, none⟩ = some (.int .u64 0) := by simp [World.cell?, hR]
  have t2 : w1.frozen? ⟨w.heap.size + 1, 2, none⟩ = false := by simp [World.frozen?, hR]
  have r3 : w1.cell? ⟨w.heap.size + 1, 3, none⟩ = some (.int .u64 0) := by simp [World.cell?, hR]
  have t3 : w1.frozen? ⟨w.heap.size + 1, 3, none⟩ = false := by simp [World.frozen?, hR]
  have r4 : w1.cell? ⟨w.heap.size + 1, 4, none⟩ = some (.int .u64 0) := by simp [World.cell?, hR]
  have t4 : w1.frozen? ⟨w.heap.size + 1, 4, none⟩ = false := by simp [World.frozen?, hR]
  have r5 : w1.cell? ⟨w.heap.size + 1, 5, none⟩ = some (.int .u64 0) := by simp [World.cell?, hR]
  have t5 : w1.frozen? ⟨w.heap.size + 1, 5, none⟩ = false := by simp [World.frozen?, hR]
  have r6 : w1.cell? ⟨w.heap.size + 1, 6, none⟩ = some (.int .u64 0) := by simp [World.cell?, hR]
  have t6 : w1.frozen? ⟨w.heap.size + 1, 6, none⟩ = false := by simp [World.frozen?, hR]
  have r7 : w1.cell? ⟨w.heap.size + 1, 7, none⟩ = some (.int .u64 0) := by simp [World.cell?, hR]
  have t7 : w1.frozen? ⟨w.heap.size + 1, 7, none⟩ = false := by simp [World.frozen?, hR]
  have r8 : w1.cell? ⟨w.heap.size + 1, 8, none⟩ = some (.int .u64 0) := by simp [World.cell?, hR]
  have t8 : w1.frozen? ⟨w.heap.size + 1, 8, none⟩ = false := by simp [World.frozen?, hR]
  have r9 : w1.cell? ⟨w.heap.size + 1, 9, none⟩ = some (.int .u64 0) := by simp [World.cell?, hR]
  have t9 : w1.frozen? ⟨w.heap.size + 1, 9, none⟩ = false := by simp [World.frozen?, hR]
  have r10 : w1.cell? ⟨w.heap.size + 1, 10, none⟩ = some (.int .u64 0) := by simp [World.cell?, hR]
  have t10 : w1.frozen? ⟨w.heap.size + 1, 10, none⟩ = false := by simp [World.frozen?, hR]
  have r11 : w1.cell? ⟨w.heap.size + 1, 11, none⟩ = some (.int .u64 0) := by simp [World.cell?, hR]
  have t11 : w1.frozen? ⟨w.heap.size + 1, 11, none⟩ = false := by simp [World.frozen?, hR]
  have r12 : w1.cell? ⟨w.heap.size + 1, 12, none⟩ = some (.int .u64 0) := by simp [World.cell?, hR]
  have t12 : w1.frozen? ⟨w.heap.size + 1, 12, none⟩ = false := by simp [World.frozen?, hR]
  clear hR h1
  go_wp2
  exact bodyPost_ret (v := .agg #[.int .u64 0, .int .u64 0, .int .u64 1, .int .u64 0, .int .u64 0, .int .u64 0, .int .u64 0, .int .u64 64, .int .u64 56, .int .u64 0, .int .u64 64, .int .u64 0, .int .u64 0]) (by simp [results, Try.results45, go_sem, z1, r0, r1, r2, r3, r4, r5, r6, r7, r8, r9, r10, r11, r12]) rfl ⟨rfl, (((((((((((((b1.setCell (by show w.heap.size ≤ w.heap.size + 1; omega) _).setCell (by show w.heap.size ≤ w.heap.size + 1; omega) _).setCell (by show w.heap.size ≤ w.heap.size + 1; omega) _).setCell (by show w.heap.size ≤ w.heap.size + 1; omega) _).setCell (by show w.heap.size ≤ w.heap.size + 1; omega) _).setCell (by show w.heap.size ≤ w.heap.size + 1; omega) _).setCell (by show w.heap.size ≤ w.heap.size + 1; omega) _).setCell (by show w.heap.size ≤ w.heap.size + 1; omega) _).setCell (by show w.heap.size ≤ w.heap.size + 1; omega) _).setCell (by show w.heap.size ≤ w.heap.size + 1; omega) _).setCell (by show w.heap.size ≤ w.heap.size + 1; omega) _).setCell (by show w.heap.size ≤ w.heap.size + 1; omega) _).setCell (by show w.heap.size ≤ w.heap.size + 1; omega) _).alloc (by simpa using b1.size) _⟩
theorem eplain (big wide : Bool) (w : World) : Calls Try.prog 45 #[.agg #[.bool big, .bool wide]] w fun e w' => e = .returned (.agg #[.int .u64 0, .int .u64 0, .int .u64 1, .int .u64 0, .int .u64 0, .int .u64 0, .int .u64 0, .int .u64 (ehs wide : Nat), .int .u64 (phs wide : Nat), .int .u64 0, .int .u64 (shs wide : Nat), .int .u64 0, .int .u64 0]) ∧ Below w.heap.size w w' := by
  cases wide
  · exact eplain_false big w
  · exact eplain_true big w
/-- What Check answers. -/
def chk (b1 b2 b3 b4 b5 b6 : Bool) : Int := if b1 then 7 else if b2 || b3 && b4 || b5 && b6 then 8 else 0
/-- The ways that Check goes. -/
def ways (b1 b2 b3 b4 b5 b6 : Bool) : Prop :=
  b1 = true ∨ (b1 = false ∧ b2 = true) ∨ (b1 = false ∧ b2 = false ∧ b3 = true ∧ b4 = true) ∨
  (b1 = false ∧ b2 = false ∧ b3 = false ∧ b5 = false) ∨ (b1 = false ∧ b2 = false ∧ b3 = false ∧ b5 = true ∧ b6 = false) ∨ (b1 = false ∧ b2 = false ∧ b3 = false ∧ b5 = true ∧ b6 = true) ∨
  (b1 = false ∧ b2 = false ∧ b3 = true ∧ b4 = false ∧ b5 = false) ∨ (b1 = false ∧ b2 = false ∧ b3 = true ∧ b4 = false ∧ b5 = true ∧ b6 = false) ∨ (b1 = false ∧ b2 = false ∧ b3 = true ∧ b4 = false ∧ b5 = true ∧ b6 = true)
theorem ways_all : ∀ b1 b2 b3 b4 b5 b6, ways b1 b2 b3 b4 b5 b6 := by
  intro b1 b2 b3 b4 b5 b6
  unfold ways
  cases b1 <;> cases b2 <;> cases b3 <;> cases b4 <;> cases b5 <;> cases b6 <;> simp
set_option maxRecDepth 100000 in
set_option maxHeartbeats 2000000 in
theorem echeck (big wide : Bool) (n0 n1 n2 n3 n4 n5 n6 n7 n8 n9 n10 n11 n12 : Nat) (b1 b2 b3 b4 b5 b6 : Bool) (h1 : ((n2 : Int) != 1) = b1) (h2 : ((n7 : Int) != (ehs wide : Nat)) = b2) (h3 : ((n4 : Int) != 0) = b3) (h4 : ((n8 : Int) != (phs wide : Nat)) = b4) (h5 : ((n5 : Int) != 0) = b5) (h6 : ((n10 : Int) != (shs wide : Nat)) = b6) (w : World) :
    Calls Try.prog 90 #[.agg #[.int .u64 (n0 : Nat), .int .u64 (n1 : Nat), .int .u64 (n2 : Nat), .int .u64 (n3 : Nat), .int .u64 (n4 : Nat), .int .u64 (n5 : Nat), .int .u64 (n6 : Nat), .int .u64 (n7 : Nat), .int .u64 (n8 : Nat), .int .u64 (n9 : Nat), .int .u64 (n10 : Nat), .int .u64 (n11 : Nat), .int .u64 (n12 : Nat)], .agg #[.bool big, .bool wide]] w fun e w' => e = .returned (.int .i64 (chk b1 b2 b3 b4 b5 b6)) ∧ Below w.heap.size w w' := by
  go_enter Try.func90, Try.ntmps90
  go_wp2_with fail
  refine (eplain big wide _).mono ?_
  rintro e w1 ⟨rfl, hp⟩
  have bw : Below w.heap.size w w1 := (((Below.refl _ _).alloc (Nat.le_refl _) _).alloc (by simp) _).trans (hp.mono (by simp; omega))
  have z0 : w.heap.size < w1.heap.size := by have := hp.size; simp at this; omega
  have x2 : w1.cell? ⟨w.heap.size, 2, none⟩ = some (.int .u64 (n2 : Nat)) := by rw [hp.cell (by simp; omega)]; simp
  have x4 : w1.cell? ⟨w.heap.size, 4, none⟩ = some (.int .u64 (n4 : Nat)) := by rw [hp.cell (by simp; omega)]; simp
  have x5 : w1.cell? ⟨w.heap.size, 5, none⟩ = some (.int .u64 (n5 : Nat)) := by rw [hp.cell (by simp; omega)]; simp
  have x7 : w1.cell? ⟨w.heap.size, 7, none⟩ = some (.int .u64 (n7 : Nat)) := by rw [hp.cell (by simp; omega)]; simp
  have x8 : w1.cell? ⟨w.heap.size, 8, none⟩ = some (.int .u64 (n8 : Nat)) := by rw [hp.cell (by simp; omega)]; simp
  have x10 : w1.cell? ⟨w.heap.size, 10, none⟩ = some (.int .u64 (n10 : Nat)) := by rw [hp.cell (by simp; omega)]; simp
  clear hp
  generalize ehs wide = eh at *
  generalize phs wide = ph at *
  generalize shs wide = sh at *
  have hways := ways_all b1 b2 b3 b4 b5 b6
  unfold ways at hways
  rcases hways with rfl | ⟨rfl, rfl⟩ | ⟨rfl, rfl, rfl, rfl⟩ | ⟨rfl, rfl, rfl, rfl⟩ | ⟨rfl, rfl, rfl, rfl, rfl⟩ | ⟨rfl, rfl, rfl, rfl, rfl⟩ | ⟨rfl, rfl, rfl, rfl, rfl⟩ | ⟨rfl, rfl, rfl, rfl, rfl, rfl⟩ | ⟨rfl, rfl, rfl, rfl, rfl, rfl⟩
  all_goals
    go_wp2
    go_ret
    exact ⟨by simp [chk], bw.alloc bw.size _⟩
end Go.Proofs.Ytedocnidgiglaaa
