/- Contracts of a header's package, by gen_hdr.py. Conditions: those written in each theorem. -/
import Derived.Laws.CopyOwn
import Derived.Laws.Tables
import Derived.Test.YtkajgakblcgocaaEL
namespace Go.Proofs.Ytkajgakblcgocaa
open Go.RowKit
theorem drew_heap (w : World) : w.drew.heap = w.heap := rfl
theorem six_set {V : World} {b i1 i2 i3 i4 i5 i6 : Nat} {v1 v2 v3 v4 v5 v6 : Value} {cs : Array Value} {t : TypeId} (h : V.heap[b]? = some (.cells cs t (0, 0))) :
    ((((((V.setCell ⟨b, i1, none⟩ v1).setCell ⟨b, i2, none⟩ v2).setCell ⟨b, i3, none⟩ v3).setCell ⟨b, i4, none⟩ v4).setCell ⟨b, i5, none⟩ v5).setCell ⟨b, i6, none⟩ v6).drew.heap[b]? =
      some (.cells ((((((cs.setIfInBounds i1 v1).setIfInBounds i2 v2).setIfInBounds i3 v3).setIfInBounds i4 v4).setIfInBounds i5 v5).setIfInBounds i6 v6) t (0, 0)) := by
  rw [drew_heap]
  exact heap_setCell_same _ b i6 _ t v6 (heap_setCell_same _ b i5 _ t v5 (heap_setCell_same _ b i4 _ t v4 (heap_setCell_same _ b i3 _ t v3 (heap_setCell_same _ b i2 _ t v2 (heap_setCell_same _ b i1 _ t v1 h)))))
theorem six_other {V : World} {a o b i1 i2 i3 i4 i5 i6 : Nat} {v1 v2 v3 v4 v5 v6 : Value} (h : a ≠ b) :
    ((((((V.setCell ⟨b, i1, none⟩ v1).setCell ⟨b, i2, none⟩ v2).setCell ⟨b, i3, none⟩ v3).setCell ⟨b, i4, none⟩ v4).setCell ⟨b, i5, none⟩ v5).setCell ⟨b, i6, none⟩ v6).drew.cell? ⟨a, o, none⟩ = V.cell? ⟨a, o, none⟩ := by
  have e : ∀ w : World, w.drew.cell? ⟨a, o, none⟩ = w.cell? ⟨a, o, none⟩ := fun _ => rfl
  rw [e, cell_set_other h, cell_set_other h, cell_set_other h, cell_set_other h, cell_set_other h, cell_set_other h]
/-- Two blocks are as they were. -/
def Two (V w' : World) (a b : Nat) : Prop := w'.heap[a]? = V.heap[a]? ∧ w'.heap[b]? = V.heap[b]?
theorem Two.set {V w' : World} {a b g j : Nat} {v : Value} (h : Two V w'.drew a b) (ha : a ≠ g) (hb : b ≠ g) : Two V (w'.setCell ⟨g, j, none⟩ v).drew a b :=
  ⟨(heap_setCell_other w' ⟨g, j, none⟩ a v ha).trans h.1, (heap_setCell_other w' ⟨g, j, none⟩ b v hb).trans h.2⟩
theorem echeck_plain_false (big : Bool) (w : World) : Calls Try.prog 28 #[.agg #[.int .u64 0, .int .u64 0, .int .u64 1, .int .u64 0, .int .u64 0, .int .u64 0, .int .u64 0, .int .u64 52, .int .u64 32, .int .u64 0, .int .u64 40, .int .u64 0, .int .u64 0], .agg #[.bool big, .bool false]] w fun e w' => e = .returned (.int .i64 0) ∧ Below w.heap.size w w' :=
  echeck big false 0 0 1 0 0 0 0 52 32 0 40 0 0 false false false false false false rfl rfl rfl rfl rfl rfl w
theorem echeck_plain_true (big : Bool) (w : World) : Calls Try.prog 28 #[.agg #[.int .u64 0, .int .u64 0, .int .u64 1, .int .u64 0, .int .u64 0, .int .u64 0, .int .u64 0, .int .u64 64, .int .u64 56, .int .u64 0, .int .u64 64, .int .u64 0, .int .u64 0], .agg #[.bool big, .bool true]] w fun e w' => e = .returned (.int .i64 0) ∧ Below w.heap.size w w' :=
  echeck big true 0 0 1 0 0 0 0 64 56 0 64 0 0 false false false false false false rfl rfl rfl rfl rfl rfl w
set_option maxRecDepth 100000 in
set_option maxHeartbeats 20000000 in
theorem checks_true (fl : Int) (x0 x1 x2 x3 o0 o1 : Nat) (big : Bool) (hb : (bits BinOp.and IntKind.i64 fl 1 == 1) = big) (hw : (bits BinOp.and IntKind.i64 fl 2 == 2) = true) (hbit : bits BinOp.and IntKind.i64 (fl / 2) 1 = 1) (w : World) :
    Calls Try.prog 9 #[.int .i64 fl, .agg #[.int .u64 (x0 : Nat), .int .u64 (x1 : Nat), .int .u64 (x2 : Nat), .int .u64 (x3 : Nat)], .agg #[.int .u64 (o0 : Nat), .int .u64 (o1 : Nat)]] w fun e w' => e = .returned (.bool true) ∧ Below w.heap.size w w' := by
  have HB := Lib.hid hb; clear hb
  have HW := Lib.hid hw; clear hw
  go_enter Try.func9, Try.ntmps9
  go_wp2_with fail
  refine (espeaks _).mono ?_
  rintro e w1 ⟨rfl, h1⟩
  have z1 := h1.size
  simp only [World.size_alloc] at z1
  have b1w : Below w.heap.size w w1 := (((Below.refl _ _).alloc (Nat.le_refl _) _).alloc (by simp) _).trans (h1.mono (by simp; omega))
  have a0 : w1.cell? ⟨w.heap.size, 0, none⟩ = some (.int .u64 (x0 : Nat)) := by rw [h1.cell (by simp; omega)]; simp
  have a1 : w1.cell? ⟨w.heap.size, 1, none⟩ = some (.int .u64 (x1 : Nat)) := by rw [h1.cell (by simp; omega)]; simp
  have a2 : w1.cell? ⟨w.heap.size, 2, none⟩ = some (.int .u64 (x2 : Nat)) := by rw [h1.cell (by simp; omega)]; simp
  have a3 : w1.cell? ⟨w.heap.size, 3, none⟩ = some (.int .u64 (x3 : Nat)) := by rw [h1.cell (by simp; omega)]; simp
  have a4 : w1.cell? ⟨w.heap.size + 1, 0, none⟩ = some (.int .u64 (o0 : Nat)) := by rw [h1.cell (by simp)]; simp
  have a5 : w1.cell? ⟨w.heap.size + 1, 1, none⟩ = some (.int .u64 (o1 : Nat)) := by rw [h1.cell (by simp)]; simp
  clear h1
  go_wp2_with fail
  refine (eform fl big true HB.out HW.out _).mono ?_
  rintro e w2 ⟨rfl, h2⟩
  have z2 := h2.size
  have b2w : Below w.heap.size w w2 := b1w.trans (h2.mono b1w.size)
  have c0 : w2.cell? ⟨w.heap.size, 0, none⟩ = some (.int .u64 (x0 : Nat)) := by rw [h2.cell (by show w.heap.size < _; omega)]; exact a0
  have c1 : w2.cell? ⟨w.heap.size, 1, none⟩ = some (.int .u64 (x1 : Nat)) := by rw [h2.cell (by show w.heap.size < _; omega)]; exact a1
  have c2 : w2.cell? ⟨w.heap.size, 2, none⟩ = some (.int .u64 (x2 : Nat)) := by rw [h2.cell (by show w.heap.size < _; omega)]; exact a2
  have c3 : w2.cell? ⟨w.heap.size, 3, none⟩ = some (.int .u64 (x3 : Nat)) := by rw [h2.cell (by show w.heap.size < _; omega)]; exact a3
  have c4 : w2.cell? ⟨w.heap.size + 1, 0, none⟩ = some (.int .u64 (o0 : Nat)) := by rw [h2.cell (by show w.heap.size + 1 < _; omega)]; exact a4
  have c5 : w2.cell? ⟨w.heap.size + 1, 1, none⟩ = some (.int .u64 (o1 : Nat)) := by rw [h2.cell (by show w.heap.size + 1 < _; omega)]; exact a5
  clear h2 a0 a1 a2 a3 a4 a5
  go_wp2_with fail
  refine (eplain_true big _).mono ?_
  rintro e w3 ⟨rfl, h3⟩
  have z3 := h3.size
  simp only [World.size_alloc] at z3
  have hW : Below w.heap.size w (w3.alloc (.cells #[.int .u64 0, .int .u64 0, .int .u64 1, .int .u64 0, .int .u64 0, .int .u64 0, .int .u64 0, .int .u64 64, .int .u64 56, .int .u64 0, .int .u64 64, .int .u64 0, .int .u64 0] 50)) := ((b2w.alloc b2w.size _).trans (h3.mono (by have := b2w.size; simp; omega))).alloc (by have := b2w.size; omega) _
  have fX0 : (w3.alloc (.cells #[.int .u64 0, .int .u64 0, .int .u64 1, .int .u64 0, .int .u64 0, .int .u64 0, .int .u64 0, .int .u64 64, .int .u64 56, .int .u64 0, .int .u64 64, .int .u64 0, .int .u64 0] 50)).cell? ⟨w.heap.size, 0, none⟩ = some (.int .u64 (x0 : Nat)) := by rw [cell_alloc_old (by omega), h3.cell (by show w.heap.size < _; simp; omega), cell_alloc_old (by omega)]; exact c0
  have fX1 : (w3.alloc (.cells #[.int .u64 0, .int .u64 0, .int .u64 1, .int .u64 0, .int .u64 0, .int .u64 0, .int .u64 0, .int .u64 64, .int .u64 56, .int .u64 0, .int .u64 64, .int .u64 0, .int .u64 0] 50)).cell? ⟨w.heap.size, 1, none⟩ = some (.int .u64 (x1 : Nat)) := by rw [cell_alloc_old (by omega), h3.cell (by show w.heap.size < _; simp; omega), cell_alloc_old (by omega)]; exact c1
  have fX2 : (w3.alloc (.cells #[.int .u64 0, .int .u64 0, .int .u64 1, .int .u64 0, .int .u64 0, .int .u64 0, .int .u64 0, .int .u64 64, .int .u64 56, .int .u64 0, .int .u64 64, .int .u64 0, .int .u64 0] 50)).cell? ⟨w.heap.size, 2, none⟩ = some (.int .u64 (x2 : Nat)) := by rw [cell_alloc_old (by omega), h3.cell (by show w.heap.size < _; simp; omega), cell_alloc_old (by omega)]; exact c2
  have fX3 : (w3.alloc (.cells #[.int .u64 0, .int .u64 0, .int .u64 1, .int .u64 0, .int .u64 0, .int .u64 0, .int .u64 0, .int .u64 64, .int .u64 56, .int .u64 0, .int .u64 64, .int .u64 0, .int .u64 0] 50)).cell? ⟨w.heap.size, 3, none⟩ = some (.int .u64 (x3 : Nat)) := by rw [cell_alloc_old (by omega), h3.cell (by show w.heap.size < _; simp; omega), cell_alloc_old (by omega)]; exact c3
  have fX4 : (w3.alloc (.cells #[.int .u64 0, .int .u64 0, .int .u64 1, .int .u64 0, .int .u64 0, .int .u64 0, .int .u64 0, .int .u64 64, .int .u64 56, .int .u64 0, .int .u64 64, .int .u64 0, .int .u64 0] 50)).cell? ⟨w.heap.size + 1, 0, none⟩ = some (.int .u64 (o0 : Nat)) := by rw [cell_alloc_old (by omega), h3.cell (by show w.heap.size + 1 < _; simp; omega), cell_alloc_old (by omega)]; exact c4
  have fX5 : (w3.alloc (.cells #[.int .u64 0, .int .u64 0, .int .u64 1, .int .u64 0, .int .u64 0, .int .u64 0, .int .u64 0, .int .u64 64, .int .u64 56, .int .u64 0, .int .u64 64, .int .u64 0, .int .u64 0] 50)).cell? ⟨w.heap.size + 1, 1, none⟩ = some (.int .u64 (o1 : Nat)) := by rw [cell_alloc_old (by omega), h3.cell (by show w.heap.size + 1 < _; simp; omega), cell_alloc_old (by omega)]; exact c5
  have fG0 : (w3.alloc (.cells #[.int .u64 0, .int .u64 0, .int .u64 1, .int .u64 0, .int .u64 0, .int .u64 0, .int .u64 0, .int .u64 64, .int .u64 56, .int .u64 0, .int .u64 64, .int .u64 0, .int .u64 0] 50)).cell? ⟨w2.heap.size, 0, none⟩ = some (.bool big) := by rw [cell_alloc_old (by omega), h3.cell (by simp)]; simp
  have fG1 : (w3.alloc (.cells #[.int .u64 0, .int .u64 0, .int .u64 1, .int .u64 0, .int .u64 0, .int .u64 0, .int .u64 0, .int .u64 64, .int .u64 56, .int .u64 0, .int .u64 64, .int .u64 0, .int .u64 0] 50)).cell? ⟨w2.heap.size, 1, none⟩ = some (.bool true) := by rw [cell_alloc_old (by omega), h3.cell (by simp)]; simp
  have fP0 : (w3.alloc (.cells #[.int .u64 0, .int .u64 0, .int .u64 1, .int .u64 0, .int .u64 0, .int .u64 0, .int .u64 0, .int .u64 64, .int .u64 56, .int .u64 0, .int .u64 64, .int .u64 0, .int .u64 0] 50)).cell? ⟨w3.heap.size, 0, none⟩ = some (.int .u64 0) := by simp
  have fP1 : (w3.alloc (.cells #[.int .u64 0, .int .u64 0, .int .u64 1, .int .u64 0, .int .u64 0, .int .u64 0, .int .u64 0, .int .u64 64, .int .u64 56, .int .u64 0, .int .u64 64, .int .u64 0, .int .u64 0] 50)).cell? ⟨w3.heap.size, 1, none⟩ = some (.int .u64 0) := by simp
  have fP2 : (w3.alloc (.cells #[.int .u64 0, .int .u64 0, .int .u64 1, .int .u64 0, .int .u64 0, .int .u64 0, .int .u64 0, .int .u64 64, .int .u64 56, .int .u64 0, .int .u64 64, .int .u64 0, .int .u64 0] 50)).cell? ⟨w3.heap.size, 2, none⟩ = some (.int .u64 1) := by simp
  have fP3 : (w3.alloc (.cells #[.int .u64 0, .int .u64 0, .int .u64 1, .int .u64 0, .int .u64 0, .int .u64 0, .int .u64 0, .int .u64 64, .int .u64 56, .int .u64 0, .int .u64 64, .int .u64 0, .int .u64 0] 50)).cell? ⟨w3.heap.size, 3, none⟩ = some (.int .u64 0) := by simp
  have fP4 : (w3.alloc (.cells #[.int .u64 0, .int .u64 0, .int .u64 1, .int .u64 0, .int .u64 0, .int .u64 0, .int .u64 0, .int .u64 64, .int .u64 56, .int .u64 0, .int .u64 64, .int .u64 0, .int .u64 0] 50)).cell? ⟨w3.heap.size, 4, none⟩ = some (.int .u64 0) := by simp
  have fP5 : (w3.alloc (.cells #[.int .u64 0, .int .u64 0, .int .u64 1, .int .u64 0, .int .u64 0, .int .u64 0, .int .u64 0, .int .u64 64, .int .u64 56, .int .u64 0, .int .u64 64, .int .u64 0, .int .u64 0] 50)).cell? ⟨w3.heap.size, 5, none⟩ = some (.int .u64 0) := by simp
  have fP6 : (w3.alloc (.cells #[.int .u64 0, .int .u64 0, .int .u64 1, .int .u64 0, .int .u64 0, .int .u64 0, .int .u64 0, .int .u64 64, .int .u64 56, .int .u64 0, .int .u64 64, .int .u64 0, .int .u64 0] 50)).cell? ⟨w3.heap.size, 6, none⟩ = some (.int .u64 0) := by simp
  have fP7 : (w3.alloc (.cells #[.int .u64 0, .int .u64 0, .int .u64 1, .int .u64 0, .int .u64 0, .int .u64 0, .int .u64 0, .int .u64 64, .int .u64 56, .int .u64 0, .int .u64 64, .int .u64 0, .int .u64 0] 50)).cell? ⟨w3.heap.size, 7, none⟩ = some (.int .u64 64) := by simp
  have fP8 : (w3.alloc (.cells #[.int .u64 0, .int .u64 0, .int .u64 1, .int .u64 0, .int .u64 0, .int .u64 0, .int .u64 0, .int .u64 64, .int .u64 56, .int .u64 0, .int .u64 64, .int .u64 0, .int .u64 0] 50)).cell? ⟨w3.heap.size, 8, none⟩ = some (.int .u64 56) := by simp
  have fP9 : (w3.alloc (.cells #[.int .u64 0, .int .u64 0, .int .u64 1, .int .u64 0, .int .u64 0, .int .u64 0, .int .u64 0, .int .u64 64, .int .u64 56, .int .u64 0, .int .u64 64, .int .u64 0, .int .u64 0] 50)).cell? ⟨w3.heap.size, 9, none⟩ = some (.int .u64 0) := by simp
  have fP10 : (w3.alloc (.cells #[.int .u64 0, .int .u64 0, .int .u64 1, .int .u64 0, .int .u64 0, .int .u64 0, .int .u64 0, .int .u64 64, .int .u64 56, .int .u64 0, .int .u64 64, .int .u64 0, .int .u64 0] 50)).cell? ⟨w3.heap.size, 10, none⟩ = some (.int .u64 64) := by simp
  have fP11 : (w3.alloc (.cells #[.int .u64 0, .int .u64 0, .int .u64 1, .int .u64 0, .int .u64 0, .int .u64 0, .int .u64 0, .int .u64 64, .int .u64 56, .int .u64 0, .int .u64 64, .int .u64 0, .int .u64 0] 50)).cell? ⟨w3.heap.size, 11, none⟩ = some (.int .u64 0) := by simp
  have fP12 : (w3.alloc (.cells #[.int .u64 0, .int .u64 0, .int .u64 1, .int .u64 0, .int .u64 0, .int .u64 0, .int .u64 0, .int .u64 64, .int .u64 56, .int .u64 0, .int .u64 64, .int .u64 0, .int .u64 0] 50)).cell? ⟨w3.heap.size, 12, none⟩ = some (.int .u64 0) := by simp
  have hblk : (w3.alloc (.cells #[.int .u64 0, .int .u64 0, .int .u64 1, .int .u64 0, .int .u64 0, .int .u64 0, .int .u64 0, .int .u64 64, .int .u64 56, .int .u64 0, .int .u64 64, .int .u64 0, .int .u64 0] 50)).heap[w3.heap.size]? = some (.cells #[.int .u64 0, .int .u64 0, .int .u64 1, .int .u64 0, .int .u64 0, .int .u64 0, .int .u64 0, .int .u64 64, .int .u64 56, .int .u64 0, .int .u64 64, .int .u64 0, .int .u64 0] 50 (0, 0)) := heap_alloc_new _ _
  have zW : w3.heap.size < (w3.alloc (.cells #[.int .u64 0, .int .u64 0, .int .u64 1, .int .u64 0, .int .u64 0, .int .u64 0, .int .u64 0, .int .u64 64, .int .u64 56, .int .u64 0, .int .u64 64, .int .u64 0, .int .u64 0] 50)).heap.size := by simp
  clear h3 c0 c1 c2 c3 c4 c5
  go_wp2_with fail
  generalize (w3.alloc (.cells #[.int .u64 0, .int .u64 0, .int .u64 1, .int .u64 0, .int .u64 0, .int .u64 0, .int .u64 0, .int .u64 64, .int .u64 56, .int .u64 0, .int .u64 64, .int .u64 0, .int .u64 0] 50)) = W at *
  have HBLK := Lib.hid hblk; clear hblk
  have HX0 : Hid (∀ w', Below W.heap.size W w' → w'.cell? ⟨w.heap.size, 0, none⟩ = some (.int .u64 (x0 : Nat))) := Lib.hid (fun w' h => by rw [h.cell (by show w.heap.size < W.heap.size; omega)]; exact fX0)
  clear fX0
  have HX1 : Hid (∀ w', Below W.heap.size W w' → w'.cell? ⟨w.heap.size, 1, none⟩ = some (.int .u64 (x1 : Nat))) := Lib.hid (fun w' h => by rw [h.cell (by show w.heap.size < W.heap.size; omega)]; exact fX1)
  clear fX1
  have HX2 : Hid (∀ w', Below W.heap.size W w' → w'.cell? ⟨w.heap.size, 2, none⟩ = some (.int .u64 (x2 : Nat))) := Lib.hid (fun w' h => by rw [h.cell (by show w.heap.size < W.heap.size; omega)]; exact fX2)
  clear fX2
  have HX3 : Hid (∀ w', Below W.heap.size W w' → w'.cell? ⟨w.heap.size, 3, none⟩ = some (.int .u64 (x3 : Nat))) := Lib.hid (fun w' h => by rw [h.cell (by show w.heap.size < W.heap.size; omega)]; exact fX3)
  clear fX3
  have HX4 : Hid (∀ w', Below W.heap.size W w' → w'.cell? ⟨w.heap.size + 1, 0, none⟩ = some (.int .u64 (o0 : Nat))) := Lib.hid (fun w' h => by rw [h.cell (by show w.heap.size + 1 < W.heap.size; omega)]; exact fX4)
  clear fX4
  have HX5 : Hid (∀ w', Below W.heap.size W w' → w'.cell? ⟨w.heap.size + 1, 1, none⟩ = some (.int .u64 (o1 : Nat))) := Lib.hid (fun w' h => by rw [h.cell (by show w.heap.size + 1 < W.heap.size; omega)]; exact fX5)
  clear fX5
  have HG0 : Hid (∀ w', Below W.heap.size W w' → w'.cell? ⟨w2.heap.size, 0, none⟩ = some (.bool big)) := Lib.hid (fun w' h => by rw [h.cell (by show w2.heap.size < W.heap.size; omega)]; exact fG0)
  clear fG0
  have HG1 : Hid (∀ w', Below W.heap.size W w' → w'.cell? ⟨w2.heap.size, 1, none⟩ = some (.bool true)) := Lib.hid (fun w' h => by rw [h.cell (by show w2.heap.size < W.heap.size; omega)]; exact fG1)
  clear fG1
  have HP0 : Hid (∀ w', Below W.heap.size W w' → w'.cell? ⟨w3.heap.size, 0, none⟩ = some (.int .u64 0)) := Lib.hid (fun w' h => by rw [h.cell (by show w3.heap.size < W.heap.size; omega)]; exact fP0)
  clear fP0
  have HP1 : Hid (∀ w', Below W.heap.size W w' → w'.cell? ⟨w3.heap.size, 1, none⟩ = some (.int .u64 0)) := Lib.hid (fun w' h => by rw [h.cell (by show w3.heap.size < W.heap.size; omega)]; exact fP1)
  clear fP1
  have HP2 : Hid (∀ w', Below W.heap.size W w' → w'.cell? ⟨w3.heap.size, 2, none⟩ = some (.int .u64 1)) := Lib.hid (fun w' h => by rw [h.cell (by show w3.heap.size < W.heap.size; omega)]; exact fP2)
  clear fP2
  have HP3 : Hid (∀ w', Below W.heap.size W w' → w'.cell? ⟨w3.heap.size, 3, none⟩ = some (.int .u64 0)) := Lib.hid (fun w' h => by rw [h.cell (by show w3.heap.size < W.heap.size; omega)]; exact fP3)
  clear fP3
  have HP4 : Hid (∀ w', Below W.heap.size W w' → w'.cell? ⟨w3.heap.size, 4, none⟩ = some (.int .u64 0)) := Lib.hid (fun w' h => by rw [h.cell (by show w3.heap.size < W.heap.size; omega)]; exact fP4)
  clear fP4
  have HP5 : Hid (∀ w', Below W.heap.size W w' → w'.cell? ⟨w3.heap.size, 5, none⟩ = some (.int .u64 0)) := Lib.hid (fun w' h => by rw [h.cell (by show w3.heap.size < W.heap.size; omega)]; exact fP5)
  clear fP5
  have HP6 : Hid (∀ w', Below W.heap.size W w' → w'.cell? ⟨w3.heap.size, 6, none⟩ = some (.int .u64 0)) := Lib.hid (fun w' h => by rw [h.cell (by show w3.heap.size < W.heap.size; omega)]; exact fP6)
  clear fP6
  have HP7 : Hid (∀ w', Below W.heap.size W w' → w'.cell? ⟨w3.heap.size, 7, none⟩ = some (.int .u64 64)) := Lib.hid (fun w' h => by rw [h.cell (by show w3.heap.size < W.heap.size; omega)]; exact fP7)
  clear fP7
  have HP8 : Hid (∀ w', Below W.heap.size W w' → w'.cell? ⟨w3.heap.size, 8, none⟩ = some (.int .u64 56)) := Lib.hid (fun w' h => by rw [h.cell (by show w3.heap.size < W.heap.size; omega)]; exact fP8)
  clear fP8
  have HP9 : Hid (∀ w', Below W.heap.size W w' → w'.cell? ⟨w3.heap.size, 9, none⟩ = some (.int .u64 0)) := Lib.hid (fun w' h => by rw [h.cell (by show w3.heap.size < W.heap.size; omega)]; exact fP9)
  clear fP9
  have HP10 : Hid (∀ w', Below W.heap.size W w' → w'.cell? ⟨w3.heap.size, 10, none⟩ = some (.int .u64 64)) := Lib.hid (fun w' h => by rw [h.cell (by show w3.heap.size < W.heap.size; omega)]; exact fP10)
  clear fP10
  have HP11 : Hid (∀ w', Below W.heap.size W w' → w'.cell? ⟨w3.heap.size, 11, none⟩ = some (.int .u64 0)) := Lib.hid (fun w' h => by rw [h.cell (by show w3.heap.size < W.heap.size; omega)]; exact fP11)
  clear fP11
  have HP12 : Hid (∀ w', Below W.heap.size W w' → w'.cell? ⟨w3.heap.size, 12, none⟩ = some (.int .u64 0)) := Lib.hid (fun w' h => by rw [h.cell (by show w3.heap.size < W.heap.size; omega)]; exact fP12)
  clear fP12
  refine wp_region_held_drew (S := fun w' => Below W.heap.size W w') (by kernel_rfl) ?_ (fun hHeld => ?_)
  · exact (Below.refl _ _).drew
  refine wpAnyH_take (i := 0) (oi := { dst := some 17, op := Go.Op.load 50 (Go.Operand.tmp 8), type := 50, pos := "law.go:65", after := #[], guard := none }) (v := ?_) rfl (by kernel_rfl) (by kernel_rfl) (by kernel_rfl) (fun _ _ _ h => h) (Or.inl ⟨by rfl, ?_⟩) (by assumption) ?_
  rotate_left
  · (intro w hSw; have q0 := HP0.out w hSw; have q1 := HP1.out w hSw; have q2 := HP2.out w hSw; have q3 := HP3.out w hSw; have q4 := HP4.out w hSw; have q5 := HP5.out w hSw; have q6 := HP6.out w hSw; have q7 := HP7.out w hSw; have q8 := HP8.out w hSw; have q9 := HP9.out w hSw; have q10 := HP10.out w hSw; have q11 := HP11.out w hSw; have q12 := HP12.out w hSw; (try dsimp only at hSw); go_simp <;> with_reducible rfl)
  try simp only [Act.put, List.setIfInBounds_toArray, List.set_cons_zero, List.set_cons_succ]
  refine wpAnyH_take (i := 1) (oi := { dst := some 18, op := Go.Op.load 47 (Go.Operand.tmp 7), type := 47, pos := "law.go:65", after := #[], guard := none }) (v := ?_) rfl (by kernel_rfl) (by kernel_rfl) (by kernel_rfl) (fun _ _ _ h => h) (Or.inl ⟨by rfl, ?_⟩) (by assumption) ?_
  rotate_left
  · (intro w hSw; have q0 := HG0.out w hSw; have q1 := HG1.out w hSw; (try dsimp only at hSw); go_simp <;> with_reducible rfl)
  try simp only [Act.put, List.setIfInBounds_toArray, List.set_cons_zero, List.set_cons_succ]
  refine wpAnyH_ready (rs := [2]) (by kernel_rfl) (by simp) ?_
  refine AllReadyH.cons (o := { dst := some 19, op := Go.Op.call { callee := Go.Callee.value (Go.Operand.func 28), args := #[Go.Operand.tmp 17, Go.Operand.tmp 18], argTypes := #[50, 47] }, type := 31, pos := "law.go:65", after := #[{ on := 0, ground := Go.Ground.data }, { on := 1, ground := Go.Ground.data }], guard := none }) rfl (fun K hK => ?_) AllReadyH.nil
  (first | go_at_call 28 | (go_simp; go_at_call 28))
  (with_reducible refine (echeck_plain_true big _).mono ?_)
  rintro e w4 ⟨rfl, h4⟩
  try go_wp2_with fail
  refine hK.out _ _ ?_ (fun hHeld2 => ?_)
  · exact hHeld.trans (h4.mono hHeld.size)
  clear hK K
  try simp only [Act.put, List.setIfInBounds_toArray, List.set_cons_zero, List.set_cons_succ]
  refine wpAnyH_take (i := 3) (oi := { dst := some 20, op := Go.Op.binOp Go.BinOp.neq 31 (Go.Operand.tmp 19) (Go.Operand.const (Go.Value.int Go.IntKind.i64 0)) 31, type := 4, pos := "law.go:65", after := #[{ on := 2, ground := Go.Ground.data }], guard := none }) (v := ?_) rfl (by kernel_rfl) (by kernel_rfl) (by kernel_rfl) (fun _ _ _ h => h) (Or.inl ⟨by rfl, ?_⟩) (by assumption) ?_
  rotate_left
  · (intro w hSw; (try dsimp only at hSw); go_simp <;> with_reducible rfl)
  try simp only [Act.put, List.setIfInBounds_toArray, List.set_cons_zero, List.set_cons_succ]
  refine wpAnyH_take (i := 4) (oi := { dst := some 21, op := Go.Op.move (Go.Operand.tmp 20), type := 4, pos := "law.go:65", after := #[{ on := 3, ground := Go.Ground.data }, { on := 2, ground := Go.Ground.chain }], guard := none }) (v := ?_) rfl (by kernel_rfl) (by kernel_rfl) (by kernel_rfl) (fun _ _ _ h => h) (Or.inl ⟨by rfl, ?_⟩) (by assumption) ?_
  rotate_left
  · (intro w hSw; (try dsimp only at hSw); go_simp <;> with_reducible rfl)
  try simp only [Act.put, List.setIfInBounds_toArray, List.set_cons_zero, List.set_cons_succ]
  refine wpAnyH_take (i := 5) (oi := { dst := some 22, op := Go.Op.fieldAddr 50 (Go.Operand.tmp 8) 7, type := 0, pos := "law.go:65", after := #[{ on := 4, ground := Go.Ground.guard }], guard := some (4, false) }) (v := ?_) rfl (by kernel_rfl) (by kernel_rfl) (by kernel_rfl) (fun _ _ _ h => h) (Or.inl ⟨by rfl, ?_⟩) (by assumption) ?_
  rotate_left
  · (intro w hSw; (try dsimp only at hSw); go_simp <;> with_reducible rfl)
  try simp only [Act.put, List.setIfInBounds_toArray, List.set_cons_zero, List.set_cons_succ]
  refine wpAnyH_take (i := 6) (oi := { dst := some 23, op := Go.Op.load 22 (Go.Operand.tmp 22), type := 22, pos := "law.go:65", after := #[{ on := 5, ground := Go.Ground.data }, { on := 4, ground := Go.Ground.guard }], guard := some (4, false) }) (v := ?_) rfl (by kernel_rfl) (by kernel_rfl) (by kernel_rfl) (fun _ _ _ h => h) (Or.inl ⟨by rfl, ?_⟩) (by assumption) ?_
  rotate_left
  · (intro w hSw; have q0 := HP7.out w hSw; (try dsimp only at hSw); go_simp <;> with_reducible rfl)
  try simp only [Act.put, List.setIfInBounds_toArray, List.set_cons_zero, List.set_cons_succ]
  refine wpAnyH_take (i := 7) (oi := { dst := some 24, op := Go.Op.load 47 (Go.Operand.tmp 7), type := 47, pos := "law.go:65", after := #[{ on := 4, ground := Go.Ground.guard }], guard := some (4, false) }) (v := ?_) rfl (by kernel_rfl) (by kernel_rfl) (by kernel_rfl) (fun _ _ _ h => h) (Or.inl ⟨by rfl, ?_⟩) (by assumption) ?_
  rotate_left
  · (intro w hSw; have q0 := HG0.out w hSw; have q1 := HG1.out w hSw; (try dsimp only at hSw); go_simp <;> with_reducible rfl)
  try simp only [Act.put, List.setIfInBounds_toArray, List.set_cons_zero, List.set_cons_succ]
  refine wpAnyH_ready (rs := [8]) (by kernel_rfl) (by simp) ?_
  refine AllReadyH.cons (o := { dst := some 25, op := Go.Op.call { callee := Go.Callee.value (Go.Operand.func 26), args := #[Go.Operand.tmp 24], argTypes := #[47] }, type := 3, pos := "law.go:65", after := #[{ on := 7, ground := Go.Ground.data }, { on := 4, ground := Go.Ground.chain }, { on := 4, ground := Go.Ground.guard }], guard := some (4, false) }) rfl (fun K hK => ?_) AllReadyH.nil
  (first | go_at_call 26 | (go_simp; go_at_call 26))
  (with_reducible refine (esz_true big _).mono ?_)
  rintro e w5 ⟨rfl, h5⟩
  try go_wp2_with fail
  refine hK.out _ _ ?_ (fun hHeld3 => ?_)
  · exact hHeld2.trans (h5.mono hHeld2.size)
  clear hK K
  try simp only [Act.put, List.setIfInBounds_toArray, List.set_cons_zero, List.set_cons_succ]
  refine wpAnyH_take (i := 9) (oi := { dst := some 26, op := Go.Op.binOp Go.BinOp.add 3 (Go.Operand.const (Go.Value.int Go.IntKind.i64 16)) (Go.Operand.tmp 25) 3, type := 3, pos := "law.go:65", after := #[{ on := 8, ground := Go.Ground.data }, { on := 4, ground := Go.Ground.guard }], guard := some (4, false) }) (v := ?_) rfl (by kernel_rfl) (by kernel_rfl) (by kernel_rfl) (fun _ _ _ h => h) (Or.inl ⟨by rfl, ?_⟩) (by assumption) ?_
  rotate_left
  · (intro w hSw; (try dsimp only at hSw); go_simp <;> with_reducible rfl)
  try simp only [Act.put, List.setIfInBounds_toArray, List.set_cons_zero, List.set_cons_succ]
  refine wpAnyH_take (i := 10) (oi := { dst := some 27, op := Go.Op.convert 3 22 (Go.Operand.tmp 26), type := 22, pos := "law.go:65", after := #[{ on := 9, ground := Go.Ground.data }, { on := 4, ground := Go.Ground.guard }], guard := some (4, false) }) (v := ?_) rfl (by kernel_rfl) (by kernel_rfl) (by kernel_rfl) (fun _ _ _ h => h) (Or.inl ⟨by rfl, ?_⟩) (by assumption) ?_
  rotate_left
  · (intro w hSw; (try dsimp only at hSw); go_simp <;> with_reducible rfl)
  try simp only [Act.put, List.setIfInBounds_toArray, List.set_cons_zero, List.set_cons_succ]
  refine wpAnyH_take (i := 11) (oi := { dst := some 28, op := Go.Op.binOp Go.BinOp.neq 22 (Go.Operand.tmp 23) (Go.Operand.tmp 27) 22, type := 4, pos := "law.go:65", after := #[{ on := 6, ground := Go.Ground.data }, { on := 10, ground := Go.Ground.data }, { on := 4, ground := Go.Ground.guard }], guard := some (4, false) }) (v := ?_) rfl (by kernel_rfl) (by kernel_rfl) (by kernel_rfl) (fun _ _ _ h => h) (Or.inl ⟨by rfl, ?_⟩) (by assumption) ?_
  rotate_left
  · (intro w hSw; (try dsimp only at hSw); go_simp <;> with_reducible rfl)
  try simp only [Act.put, List.setIfInBounds_toArray, List.set_cons_zero, List.set_cons_succ]
  refine wpAnyH_take (i := 12) (oi := { dst := some 29, op := Go.Op.pick (Go.Operand.tmp 21) (Go.Operand.const (Go.Value.bool true)) (Go.Operand.tmp 28), type := 4, pos := "law.go:65", after := #[{ on := 4, ground := Go.Ground.data }, { on := 11, ground := Go.Ground.data }], guard := none }) (v := ?_) rfl (by kernel_rfl) (by kernel_rfl) (by kernel_rfl) (fun _ _ _ h => h) (Or.inl ⟨by rfl, ?_⟩) (by assumption) ?_
  rotate_left
  · (intro w hSw; (try dsimp only at hSw); go_simp <;> with_reducible rfl)
  try simp only [Act.put, List.setIfInBounds_toArray, List.set_cons_zero, List.set_cons_succ]
  refine wpAnyH_take (i := 13) (oi := { dst := some 30, op := Go.Op.move (Go.Operand.tmp 29), type := 4, pos := "law.go:65", after := #[{ on := 12, ground := Go.Ground.data }, { on := 8, ground := Go.Ground.chain }], guard := none }) (v := ?_) rfl (by kernel_rfl) (by kernel_rfl) (by kernel_rfl) (fun _ _ _ h => h) (Or.inl ⟨by rfl, ?_⟩) (by assumption) ?_
  rotate_left
  · (intro w hSw; (try dsimp only at hSw); go_simp <;> with_reducible rfl)
  try simp only [Act.put, List.setIfInBounds_toArray, List.set_cons_zero, List.set_cons_succ]
  refine wpAnyH_take (i := 14) (oi := { dst := some 31, op := Go.Op.fieldAddr 50 (Go.Operand.tmp 8) 8, type := 0, pos := "law.go:65", after := #[{ on := 13, ground := Go.Ground.guard }], guard := some (13, false) }) (v := ?_) rfl (by kernel_rfl) (by kernel_rfl) (by kernel_rfl) (fun _ _ _ h => h) (Or.inl ⟨by rfl, ?_⟩) (by assumption) ?_
  rotate_left
  · (intro w hSw; (try dsimp only at hSw); go_simp <;> with_reducible rfl)
  try simp only [Act.put, List.setIfInBounds_toArray, List.set_cons_zero, List.set_cons_succ]
  refine wpAnyH_take (i := 15) (oi := { dst := some 32, op := Go.Op.load 22 (Go.Operand.tmp 31), type := 22, pos := "law.go:65", after := #[{ on := 14, ground := Go.Ground.data }, { on := 13, ground := Go.Ground.guard }], guard := some (13, false) }) (v := ?_) rfl (by kernel_rfl) (by kernel_rfl) (by kernel_rfl) (fun _ _ _ h => h) (Or.inl ⟨by rfl, ?_⟩) (by assumption) ?_
  rotate_left
  · (intro w hSw; have q0 := HP8.out w hSw; (try dsimp only at hSw); go_simp <;> with_reducible rfl)
  try simp only [Act.put, List.setIfInBounds_toArray, List.set_cons_zero, List.set_cons_succ]
  refine wpAnyH_take (i := 16) (oi := { dst := some 33, op := Go.Op.move (Go.Operand.tmp 0), type := 3, pos := "law.go:65", after := #[{ on := 13, ground := Go.Ground.guard }], guard := some (13, false) }) (v := ?_) rfl (by kernel_rfl) (by kernel_rfl) (by kernel_rfl) (fun _ _ _ h => h) (Or.inl ⟨by rfl, ?_⟩) (by assumption) ?_
  rotate_left
  · (intro w hSw; (try dsimp only at hSw); go_simp <;> with_reducible rfl)
  try simp only [Act.put, List.setIfInBounds_toArray, List.set_cons_zero, List.set_cons_succ]
  refine wpAnyH_take (i := 17) (oi := { dst := some 34, op := Go.Op.binOp Go.BinOp.shr 3 (Go.Operand.tmp 33) (Go.Operand.const (Go.Value.int Go.IntKind.u64 1)) 62, type := 3, pos := "law.go:65", after := #[{ on := 16, ground := Go.Ground.data }, { on := 13, ground := Go.Ground.guard }], guard := some (13, false) }) (v := ?_) rfl (by kernel_rfl) (by kernel_rfl) (by kernel_rfl) (fun _ _ _ h => h) (Or.inl ⟨by rfl, ?_⟩) (by assumption) ?_
  rotate_left
  · (intro w hSw; (try dsimp only at hSw); go_simp <;> with_reducible rfl)
  try simp only [Act.put, List.setIfInBounds_toArray, List.set_cons_zero, List.set_cons_succ]
  refine wpAnyH_take (i := 18) (oi := { dst := some 35, op := Go.Op.binOp Go.BinOp.and 3 (Go.Operand.tmp 34) (Go.Operand.const (Go.Value.int Go.IntKind.i64 1)) 3, type := 3, pos := "law.go:65", after := #[{ on := 17, ground := Go.Ground.data }, { on := 13, ground := Go.Ground.guard }], guard := some (13, false) }) (v := ?_) rfl (by kernel_rfl) (by kernel_rfl) (by kernel_rfl) (fun _ _ _ h => h) (Or.inl ⟨by rfl, ?_⟩) (by assumption) ?_
  rotate_left
  · (intro w hSw; (try dsimp only at hSw); go_simp <;> with_reducible rfl)
  try simp only [Act.put, List.setIfInBounds_toArray, List.set_cons_zero, List.set_cons_succ]
  refine wpAnyH_take (i := 19) (oi := { dst := some 36, op := Go.Op.binOp Go.BinOp.mul 3 (Go.Operand.const (Go.Value.int Go.IntKind.i64 24)) (Go.Operand.tmp 35) 3, type := 3, pos := "law.go:65", after := #[{ on := 18, ground := Go.Ground.data }, { on := 13, ground := Go.Ground.guard }], guard := some (13, false) }) (v := ?_) rfl (by kernel_rfl) (by kernel_rfl) (by kernel_rfl) (fun _ _ _ h => h) (Or.inl ⟨by rfl, ?_⟩) (by assumption) ?_
  rotate_left
  · (intro w hSw; (try dsimp only at hSw); go_simp <;> with_reducible rfl)
  try simp only [Act.put, List.setIfInBounds_toArray, List.set_cons_zero, List.set_cons_succ]
  refine wpAnyH_take (i := 20) (oi := { dst := some 37, op := Go.Op.binOp Go.BinOp.add 3 (Go.Operand.const (Go.Value.int Go.IntKind.i64 32)) (Go.Operand.tmp 36) 3, type := 3, pos := "law.go:65", after := #[{ on := 19, ground := Go.Ground.data }, { on := 13, ground := Go.Ground.guard }], guard := some (13, false) }) (v := ?_) rfl (by kernel_rfl) (by kernel_rfl) (by kernel_rfl) (fun _ _ _ h => h) (Or.inl ⟨by rfl, ?_⟩) (by assumption) ?_
  rotate_left
  · (intro w hSw; (try dsimp only at hSw); go_simp <;> with_reducible rfl)
  try simp only [Act.put, List.setIfInBounds_toArray, List.set_cons_zero, List.set_cons_succ]
  refine wpAnyH_take (i := 21) (oi := { dst := some 38, op := Go.Op.convert 3 22 (Go.Operand.tmp 37), type := 22, pos := "law.go:65", after := #[{ on := 20, ground := Go.Ground.data }, { on := 13, ground := Go.Ground.guard }], guard := some (13, false) }) (v := ?_) rfl (by kernel_rfl) (by kernel_rfl) (by kernel_rfl) (fun _ _ _ h => h) (Or.inl ⟨by rfl, ?_⟩) (by assumption) ?_
  rotate_left
  · (intro w hSw; (try dsimp only at hSw); go_simp <;> with_reducible rfl)
  try simp only [Act.put, List.setIfInBounds_toArray, List.set_cons_zero, List.set_cons_succ]
  refine wpAnyH_take (i := 22) (oi := { dst := some 39, op := Go.Op.binOp Go.BinOp.neq 22 (Go.Operand.tmp 32) (Go.Operand.tmp 38) 22, type := 4, pos := "law.go:65", after := #[{ on := 15, ground := Go.Ground.data }, { on := 21, ground := Go.Ground.data }, { on := 13, ground := Go.Ground.guard }], guard := some (13, false) }) (v := ?_) rfl (by kernel_rfl) (by kernel_rfl) (by kernel_rfl) (fun _ _ _ h => h) (Or.inl ⟨by rfl, ?_⟩) (by assumption) ?_
  rotate_left
  · (intro w hSw; (try dsimp only at hSw); go_simp <;> with_reducible rfl)
  try simp only [Act.put, List.setIfInBounds_toArray, List.set_cons_zero, List.set_cons_succ]
  refine wpAnyH_take (i := 23) (oi := { dst := some 40, op := Go.Op.pick (Go.Operand.tmp 30) (Go.Operand.const (Go.Value.bool true)) (Go.Operand.tmp 39), type := 4, pos := "law.go:65", after := #[{ on := 13, ground := Go.Ground.data }, { on := 22, ground := Go.Ground.data }], guard := none }) (v := ?_) rfl (by kernel_rfl) (by kernel_rfl) (by kernel_rfl) (fun _ _ _ h => h) (Or.inl ⟨by rfl, ?_⟩) (by assumption) ?_
  rotate_left
  · (intro w hSw; (try dsimp only at hSw); go_simp <;> with_reducible rfl)
  try simp only [Act.put, List.setIfInBounds_toArray, List.set_cons_zero, List.set_cons_succ]
  refine wpAnyH_take (i := 24) (oi := { dst := some 41, op := Go.Op.move (Go.Operand.tmp 40), type := 4, pos := "law.go:65", after := #[{ on := 23, ground := Go.Ground.data }, { on := 13, ground := Go.Ground.chain }], guard := none }) (v := ?_) rfl (by kernel_rfl) (by kernel_rfl) (by kernel_rfl) (fun _ _ _ h => h) (Or.inl ⟨by rfl, ?_⟩) (by assumption) ?_
  rotate_left
  · (intro w hSw; (try dsimp only at hSw); go_simp <;> with_reducible rfl)
  try simp only [Act.put, List.setIfInBounds_toArray, List.set_cons_zero, List.set_cons_succ]
  refine wpAnyH_take (i := 25) (oi := { dst := some 42, op := Go.Op.fieldAddr 50 (Go.Operand.tmp 8) 10, type := 0, pos := "law.go:65", after := #[{ on := 24, ground := Go.Ground.guard }], guard := some (24, false) }) (v := ?_) rfl (by kernel_rfl) (by kernel_rfl) (by kernel_rfl) (fun _ _ _ h => h) (Or.inl ⟨by rfl, ?_⟩) (by assumption) ?_
  rotate_left
  · (intro w hSw; (try dsimp only at hSw); go_simp <;> with_reducible rfl)
  try simp only [Act.put, List.setIfInBounds_toArray, List.set_cons_zero, List.set_cons_succ]
  refine wpAnyH_take (i := 26) (oi := { dst := some 43, op := Go.Op.load 22 (Go.Operand.tmp 42), type := 22, pos := "law.go:65", after := #[{ on := 25, ground := Go.Ground.data }, { on := 24, ground := Go.Ground.guard }], guard := some (24, false) }) (v := ?_) rfl (by kernel_rfl) (by kernel_rfl) (by kernel_rfl) (fun _ _ _ h => h) (Or.inl ⟨by rfl, ?_⟩) (by assumption) ?_
  rotate_left
  · (intro w hSw; have q0 := HP10.out w hSw; (try dsimp only at hSw); go_simp <;> with_reducible rfl)
  try simp only [Act.put, List.setIfInBounds_toArray, List.set_cons_zero, List.set_cons_succ]
  refine wpAnyH_take (i := 27) (oi := { dst := some 44, op := Go.Op.move (Go.Operand.tmp 0), type := 3, pos := "law.go:65", after := #[{ on := 24, ground := Go.Ground.guard }], guard := some (24, false) }) (v := ?_) rfl (by kernel_rfl) (by kernel_rfl) (by kernel_rfl) (fun _ _ _ h => h) (Or.inl ⟨by rfl, ?_⟩) (by assumption) ?_
  rotate_left
  · (intro w hSw; (try dsimp only at hSw); go_simp <;> with_reducible rfl)
  try simp only [Act.put, List.setIfInBounds_toArray, List.set_cons_zero, List.set_cons_succ]
  refine wpAnyH_take (i := 28) (oi := { dst := some 45, op := Go.Op.binOp Go.BinOp.shr 3 (Go.Operand.tmp 44) (Go.Operand.const (Go.Value.int Go.IntKind.u64 1)) 62, type := 3, pos := "law.go:65", after := #[{ on := 27, ground := Go.Ground.data }, { on := 24, ground := Go.Ground.guard }], guard := some (24, false) }) (v := ?_) rfl (by kernel_rfl) (by kernel_rfl) (by kernel_rfl) (fun _ _ _ h => h) (Or.inl ⟨by rfl, ?_⟩) (by assumption) ?_
  rotate_left
  · (intro w hSw; (try dsimp only at hSw); go_simp <;> with_reducible rfl)
  try simp only [Act.put, List.setIfInBounds_toArray, List.set_cons_zero, List.set_cons_succ]
  refine wpAnyH_take (i := 29) (oi := { dst := some 46, op := Go.Op.binOp Go.BinOp.and 3 (Go.Operand.tmp 45) (Go.Operand.const (Go.Value.int Go.IntKind.i64 1)) 3, type := 3, pos := "law.go:65", after := #[{ on := 28, ground := Go.Ground.data }, { on := 24, ground := Go.Ground.guard }], guard := some (24, false) }) (v := ?_) rfl (by kernel_rfl) (by kernel_rfl) (by kernel_rfl) (fun _ _ _ h => h) (Or.inl ⟨by rfl, ?_⟩) (by assumption) ?_
  rotate_left
  · (intro w hSw; (try dsimp only at hSw); go_simp <;> with_reducible rfl)
  try simp only [Act.put, List.setIfInBounds_toArray, List.set_cons_zero, List.set_cons_succ]
  refine wpAnyH_take (i := 30) (oi := { dst := some 47, op := Go.Op.binOp Go.BinOp.mul 3 (Go.Operand.const (Go.Value.int Go.IntKind.i64 24)) (Go.Operand.tmp 46) 3, type := 3, pos := "law.go:65", after := #[{ on := 29, ground := Go.Ground.data }, { on := 24, ground := Go.Ground.guard }], guard := some (24, false) }) (v := ?_) rfl (by kernel_rfl) (by kernel_rfl) (by kernel_rfl) (fun _ _ _ h => h) (Or.inl ⟨by rfl, ?_⟩) (by assumption) ?_
  rotate_left
  · (intro w hSw; (try dsimp only at hSw); go_simp <;> with_reducible rfl)
  try simp only [Act.put, List.setIfInBounds_toArray, List.set_cons_zero, List.set_cons_succ]
  refine wpAnyH_take (i := 31) (oi := { dst := some 48, op := Go.Op.binOp Go.BinOp.add 3 (Go.Operand.const (Go.Value.int Go.IntKind.i64 40)) (Go.Operand.tmp 47) 3, type := 3, pos := "law.go:65", after := #[{ on := 30, ground := Go.Ground.data }, { on := 24, ground := Go.Ground.guard }], guard := some (24, false) }) (v := ?_) rfl (by kernel_rfl) (by kernel_rfl) (by kernel_rfl) (fun _ _ _ h => h) (Or.inl ⟨by rfl, ?_⟩) (by assumption) ?_
  rotate_left
  · (intro w hSw; (try dsimp only at hSw); go_simp <;> with_reducible rfl)
  try simp only [Act.put, List.setIfInBounds_toArray, List.set_cons_zero, List.set_cons_succ]
  refine wpAnyH_take (i := 32) (oi := { dst := some 49, op := Go.Op.convert 3 22 (Go.Operand.tmp 48), type := 22, pos := "law.go:65", after := #[{ on := 31, ground := Go.Ground.data }, { on := 24, ground := Go.Ground.guard }], guard := some (24, false) }) (v := ?_) rfl (by kernel_rfl) (by kernel_rfl) (by kernel_rfl) (fun _ _ _ h => h) (Or.inl ⟨by rfl, ?_⟩) (by assumption) ?_
  rotate_left
  · (intro w hSw; (try dsimp only at hSw); go_simp <;> with_reducible rfl)
  try simp only [Act.put, List.setIfInBounds_toArray, List.set_cons_zero, List.set_cons_succ]
  refine wpAnyH_take (i := 33) (oi := { dst := some 50, op := Go.Op.binOp Go.BinOp.neq 22 (Go.Operand.tmp 43) (Go.Operand.tmp 49) 22, type := 4, pos := "law.go:65", after := #[{ on := 26, ground := Go.Ground.data }, { on := 32, ground := Go.Ground.data }, { on := 24, ground := Go.Ground.guard }], guard := some (24, false) }) (v := ?_) rfl (by kernel_rfl) (by kernel_rfl) (by kernel_rfl) (fun _ _ _ h => h) (Or.inl ⟨by rfl, ?_⟩) (by assumption) ?_
  rotate_left
  · (intro w hSw; (try dsimp only at hSw); go_simp <;> with_reducible rfl)
  try simp only [Act.put, List.setIfInBounds_toArray, List.set_cons_zero, List.set_cons_succ]
  refine wpAnyH_take (i := 34) (oi := { dst := some 51, op := Go.Op.pick (Go.Operand.tmp 41) (Go.Operand.const (Go.Value.bool true)) (Go.Operand.tmp 50), type := 4, pos := "law.go:65", after := #[{ on := 24, ground := Go.Ground.data }, { on := 33, ground := Go.Ground.data }], guard := none }) (v := ?_) rfl (by kernel_rfl) (by kernel_rfl) (by kernel_rfl) (fun _ _ _ h => h) (Or.inl ⟨by rfl, ?_⟩) (by assumption) ?_
  rotate_left
  · (intro w hSw; (try dsimp only at hSw); go_simp <;> with_reducible rfl)
  try simp only [Act.put, List.setIfInBounds_toArray, List.set_cons_zero, List.set_cons_succ]
  refine wpAnyH_done (by kernel_rfl) ?_ _
  clear hHeld hHeld2 h4 h5
  have fX0 := HX0.out w5 hHeld3
  have fX1 := HX1.out w5 hHeld3
  have fX2 := HX2.out w5 hHeld3
  have fX3 := HX3.out w5 hHeld3
  have fX4 := HX4.out w5 hHeld3
  have fX5 := HX5.out w5 hHeld3
  have fG0 := HG0.out w5 hHeld3
  have fG1 := HG1.out w5 hHeld3
  have fP0 := HP0.out w5 hHeld3
  have fP1 := HP1.out w5 hHeld3
  have fP2 := HP2.out w5 hHeld3
  have fP3 := HP3.out w5 hHeld3
  have fP4 := HP4.out w5 hHeld3
  have fP5 := HP5.out w5 hHeld3
  have fP6 := HP6.out w5 hHeld3
  have fP7 := HP7.out w5 hHeld3
  have fP8 := HP8.out w5 hHeld3
  have fP9 := HP9.out w5 hHeld3
  have fP10 := HP10.out w5 hHeld3
  have fP11 := HP11.out w5 hHeld3
  have fP12 := HP12.out w5 hHeld3
  clear HX0 HX1 HX2 HX3 HX4 HX5 HG0 HG1 HP0 HP1 HP2 HP3 HP4 HP5 HP6 HP7 HP8 HP9 HP10 HP11 HP12
  have hblk : w5.heap[w3.heap.size]? = some (.cells #[.int .u64 0, .int .u64 0, .int .u64 1, .int .u64 0, .int .u64 0, .int .u64 0, .int .u64 0, .int .u64 64, .int .u64 56, .int .u64 0, .int .u64 64, .int .u64 0, .int .u64 0] 50 (0, 0)) := by rw [hHeld3.block _ zW]; exact HBLK.out
  have b5 : Below w.heap.size w w5 := hW.trans (hHeld3.mono hW.size)
  have z5 : w3.heap.size < w5.heap.size := by have := hHeld3.size; omega
  have y1 : w.heap.size < w5.heap.size := by omega
  have y2 : w.heap.size + 1 < w5.heap.size := by omega
  have y3 : w2.heap.size < w5.heap.size := by omega
  clear hHeld3 hW HBLK
  have e2 : w5.frozen? ⟨w3.heap.size, 2, none⟩ = false := by simp [World.frozen?, hblk]
  have e4 : w5.frozen? ⟨w3.heap.size, 4, none⟩ = false := by simp [World.frozen?, hblk]
  have e5 : w5.frozen? ⟨w3.heap.size, 5, none⟩ = false := by simp [World.frozen?, hblk]
  have e7 : w5.frozen? ⟨w3.heap.size, 7, none⟩ = false := by simp [World.frozen?, hblk]
  have e8 : w5.frozen? ⟨w3.heap.size, 8, none⟩ = false := by simp [World.frozen?, hblk]
  have e10 : w5.frozen? ⟨w3.heap.size, 10, none⟩ = false := by simp [World.frozen?, hblk]
  have HBL := Lib.hid hblk; clear hblk
  go_wp2_with fail
  have vX0 : (w5.alloc (.cells #[.int .u64 0, .int .u64 0, .int .u64 1, .int .u64 0, .int .u64 0, .int .u64 0, .int .u64 0, .int .u64 64, .int .u64 56, .int .u64 0, .int .u64 64, .int .u64 0, .int .u64 0] 50)).cell? ⟨w.heap.size, 0, none⟩ = some (.int .u64 (x0 : Nat)) := by rw [cell_alloc_old (by omega)]; exact fX0
  have vX1 : (w5.alloc (.cells #[.int .u64 0, .int .u64 0, .int .u64 1, .int .u64 0, .int .u64 0, .int .u64 0, .int .u64 0, .int .u64 64, .int .u64 56, .int .u64 0, .int .u64 64, .int .u64 0, .int .u64 0] 50)).cell? ⟨w.heap.size, 1, none⟩ = some (.int .u64 (x1 : Nat)) := by rw [cell_alloc_old (by omega)]; exact fX1
  have vX2 : (w5.alloc (.cells #[.int .u64 0, .int .u64 0, .int .u64 1, .int .u64 0, .int .u64 0, .int .u64 0, .int .u64 0, .int .u64 64, .int .u64 56, .int .u64 0, .int .u64 64, .int .u64 0, .int .u64 0] 50)).cell? ⟨w.heap.size, 2, none⟩ = some (.int .u64 (x2 : Nat)) := by rw [cell_alloc_old (by omega)]; exact fX2
  have vX3 : (w5.alloc (.cells #[.int .u64 0, .int .u64 0, .int .u64 1, .int .u64 0, .int .u64 0, .int .u64 0, .int .u64 0, .int .u64 64, .int .u64 56, .int .u64 0, .int .u64 64, .int .u64 0, .int .u64 0] 50)).cell? ⟨w.heap.size, 3, none⟩ = some (.int .u64 (x3 : Nat)) := by rw [cell_alloc_old (by omega)]; exact fX3
  have vX4 : (w5.alloc (.cells #[.int .u64 0, .int .u64 0, .int .u64 1, .int .u64 0, .int .u64 0, .int .u64 0, .int .u64 0, .int .u64 64, .int .u64 56, .int .u64 0, .int .u64 64, .int .u64 0, .int .u64 0] 50)).cell? ⟨w.heap.size + 1, 0, none⟩ = some (.int .u64 (o0 : Nat)) := by rw [cell_alloc_old (by omega)]; exact fX4
  have vX5 : (w5.alloc (.cells #[.int .u64 0, .int .u64 0, .int .u64 1, .int .u64 0, .int .u64 0, .int .u64 0, .int .u64 0, .int .u64 64, .int .u64 56, .int .u64 0, .int .u64 64, .int .u64 0, .int .u64 0] 50)).cell? ⟨w.heap.size + 1, 1, none⟩ = some (.int .u64 (o1 : Nat)) := by rw [cell_alloc_old (by omega)]; exact fX5
  have vG0 : (w5.alloc (.cells #[.int .u64 0, .int .u64 0, .int .u64 1, .int .u64 0, .int .u64 0, .int .u64 0, .int .u64 0, .int .u64 64, .int .u64 56, .int .u64 0, .int .u64 64, .int .u64 0, .int .u64 0] 50)).cell? ⟨w2.heap.size, 0, none⟩ = some (.bool big) := by rw [cell_alloc_old (by omega)]; exact fG0
  have vG1 : (w5.alloc (.cells #[.int .u64 0, .int .u64 0, .int .u64 1, .int .u64 0, .int .u64 0, .int .u64 0, .int .u64 0, .int .u64 64, .int .u64 56, .int .u64 0, .int .u64 64, .int .u64 0, .int .u64 0] 50)).cell? ⟨w2.heap.size, 1, none⟩ = some (.bool true) := by rw [cell_alloc_old (by omega)]; exact fG1
  have vP0 : (w5.alloc (.cells #[.int .u64 0, .int .u64 0, .int .u64 1, .int .u64 0, .int .u64 0, .int .u64 0, .int .u64 0, .int .u64 64, .int .u64 56, .int .u64 0, .int .u64 64, .int .u64 0, .int .u64 0] 50)).cell? ⟨w3.heap.size, 0, none⟩ = some (.int .u64 0) := by rw [cell_alloc_old (by omega)]; exact fP0
  have vP1 : (w5.alloc (.cells #[.int .u64 0, .int .u64 0, .int .u64 1, .int .u64 0, .int .u64 0, .int .u64 0, .int .u64 0, .int .u64 64, .int .u64 56, .int .u64 0, .int .u64 64, .int .u64 0, .int .u64 0] 50)).cell? ⟨w3.heap.size, 1, none⟩ = some (.int .u64 0) := by rw [cell_alloc_old (by omega)]; exact fP1
  have vP2 : (w5.alloc (.cells #[.int .u64 0, .int .u64 0, .int .u64 1, .int .u64 0, .int .u64 0, .int .u64 0, .int .u64 0, .int .u64 64, .int .u64 56, .int .u64 0, .int .u64 64, .int .u64 0, .int .u64 0] 50)).cell? ⟨w3.heap.size, 2, none⟩ = some (.int .u64 1) := by rw [cell_alloc_old (by omega)]; exact fP2
  have vP3 : (w5.alloc (.cells #[.int .u64 0, .int .u64 0, .int .u64 1, .int .u64 0, .int .u64 0, .int .u64 0, .int .u64 0, .int .u64 64, .int .u64 56, .int .u64 0, .int .u64 64, .int .u64 0, .int .u64 0] 50)).cell? ⟨w3.heap.size, 3, none⟩ = some (.int .u64 0) := by rw [cell_alloc_old (by omega)]; exact fP3
  have vP4 : (w5.alloc (.cells #[.int .u64 0, .int .u64 0, .int .u64 1, .int .u64 0, .int .u64 0, .int .u64 0, .int .u64 0, .int .u64 64, .int .u64 56, .int .u64 0, .int .u64 64, .int .u64 0, .int .u64 0] 50)).cell? ⟨w3.heap.size, 4, none⟩ = some (.int .u64 0) := by rw [cell_alloc_old (by omega)]; exact fP4
  have vP5 : (w5.alloc (.cells #[.int .u64 0, .int .u64 0, .int .u64 1, .int .u64 0, .int .u64 0, .int .u64 0, .int .u64 0, .int .u64 64, .int .u64 56, .int .u64 0, .int .u64 64, .int .u64 0, .int .u64 0] 50)).cell? ⟨w3.heap.size, 5, none⟩ = some (.int .u64 0) := by rw [cell_alloc_old (by omega)]; exact fP5
  have vP6 : (w5.alloc (.cells #[.int .u64 0, .int .u64 0, .int .u64 1, .int .u64 0, .int .u64 0, .int .u64 0, .int .u64 0, .int .u64 64, .int .u64 56, .int .u64 0, .int .u64 64, .int .u64 0, .int .u64 0] 50)).cell? ⟨w3.heap.size, 6, none⟩ = some (.int .u64 0) := by rw [cell_alloc_old (by omega)]; exact fP6
  have vP7 : (w5.alloc (.cells #[.int .u64 0, .int .u64 0, .int .u64 1, .int .u64 0, .int .u64 0, .int .u64 0, .int .u64 0, .int .u64 64, .int .u64 56, .int .u64 0, .int .u64 64, .int .u64 0, .int .u64 0] 50)).cell? ⟨w3.heap.size, 7, none⟩ = some (.int .u64 64) := by rw [cell_alloc_old (by omega)]; exact fP7
  have vP8 : (w5.alloc (.cells #[.int .u64 0, .int .u64 0, .int .u64 1, .int .u64 0, .int .u64 0, .int .u64 0, .int .u64 0, .int .u64 64, .int .u64 56, .int .u64 0, .int .u64 64, .int .u64 0, .int .u64 0] 50)).cell? ⟨w3.heap.size, 8, none⟩ = some (.int .u64 56) := by rw [cell_alloc_old (by omega)]; exact fP8
  have vP9 : (w5.alloc (.cells #[.int .u64 0, .int .u64 0, .int .u64 1, .int .u64 0, .int .u64 0, .int .u64 0, .int .u64 0, .int .u64 64, .int .u64 56, .int .u64 0, .int .u64 64, .int .u64 0, .int .u64 0] 50)).cell? ⟨w3.heap.size, 9, none⟩ = some (.int .u64 0) := by rw [cell_alloc_old (by omega)]; exact fP9
  have vP10 : (w5.alloc (.cells #[.int .u64 0, .int .u64 0, .int .u64 1, .int .u64 0, .int .u64 0, .int .u64 0, .int .u64 0, .int .u64 64, .int .u64 56, .int .u64 0, .int .u64 64, .int .u64 0, .int .u64 0] 50)).cell? ⟨w3.heap.size, 10, none⟩ = some (.int .u64 64) := by rw [cell_alloc_old (by omega)]; exact fP10
  have vP11 : (w5.alloc (.cells #[.int .u64 0, .int .u64 0, .int .u64 1, .int .u64 0, .int .u64 0, .int .u64 0, .int .u64 0, .int .u64 64, .int .u64 56, .int .u64 0, .int .u64 64, .int .u64 0, .int .u64 0] 50)).cell? ⟨w3.heap.size, 11, none⟩ = some (.int .u64 0) := by rw [cell_alloc_old (by omega)]; exact fP11
  have vP12 : (w5.alloc (.cells #[.int .u64 0, .int .u64 0, .int .u64 1, .int .u64 0, .int .u64 0, .int .u64 0, .int .u64 0, .int .u64 64, .int .u64 56, .int .u64 0, .int .u64 64, .int .u64 0, .int .u64 0] 50)).cell? ⟨w3.heap.size, 12, none⟩ = some (.int .u64 0) := by rw [cell_alloc_old (by omega)]; exact fP12
  have q7 : (w5.alloc (.cells #[.int .u64 0, .int .u64 0, .int .u64 1, .int .u64 0, .int .u64 0, .int .u64 0, .int .u64 0, .int .u64 64, .int .u64 56, .int .u64 0, .int .u64 64, .int .u64 0, .int .u64 0] 50)).cell? ⟨w5.heap.size, 7, none⟩ = some (.int .u64 64) := by simp
  have q8 : (w5.alloc (.cells #[.int .u64 0, .int .u64 0, .int .u64 1, .int .u64 0, .int .u64 0, .int .u64 0, .int .u64 0, .int .u64 64, .int .u64 56, .int .u64 0, .int .u64 64, .int .u64 0, .int .u64 0] 50)).cell? ⟨w5.heap.size, 8, none⟩ = some (.int .u64 56) := by simp
  have q10 : (w5.alloc (.cells #[.int .u64 0, .int .u64 0, .int .u64 1, .int .u64 0, .int .u64 0, .int .u64 0, .int .u64 0, .int .u64 64, .int .u64 56, .int .u64 0, .int .u64 64, .int .u64 0, .int .u64 0] 50)).cell? ⟨w5.heap.size, 10, none⟩ = some (.int .u64 64) := by simp
  have vb : (w5.alloc (.cells #[.int .u64 0, .int .u64 0, .int .u64 1, .int .u64 0, .int .u64 0, .int .u64 0, .int .u64 0, .int .u64 64, .int .u64 56, .int .u64 0, .int .u64 64, .int .u64 0, .int .u64 0] 50)).heap[w3.heap.size]? = some (.cells #[.int .u64 0, .int .u64 0, .int .u64 1, .int .u64 0, .int .u64 0, .int .u64 0, .int .u64 0, .int .u64 64, .int .u64 56, .int .u64 0, .int .u64 64, .int .u64 0, .int .u64 0] 50 (0, 0)) := by rw [Below.heap_alloc _ _ _ z5]; exact HBL.out
  have bV : Below w.heap.size w (w5.alloc (.cells #[.int .u64 0, .int .u64 0, .int .u64 1, .int .u64 0, .int .u64 0, .int .u64 0, .int .u64 0, .int .u64 64, .int .u64 56, .int .u64 0, .int .u64 64, .int .u64 0, .int .u64 0] 50)) := b5.alloc b5.size _
  have zV : w5.heap.size < (w5.alloc (.cells #[.int .u64 0, .int .u64 0, .int .u64 1, .int .u64 0, .int .u64 0, .int .u64 0, .int .u64 0, .int .u64 64, .int .u64 56, .int .u64 0, .int .u64 64, .int .u64 0, .int .u64 0] 50)).heap.size := by simp
  generalize (w5.alloc (.cells #[.int .u64 0, .int .u64 0, .int .u64 1, .int .u64 0, .int .u64 0, .int .u64 0, .int .u64 0, .int .u64 64, .int .u64 56, .int .u64 0, .int .u64 64, .int .u64 0, .int .u64 0] 50)) = V at *
  clear fX0 fX1 fX2 fX3 fX4 fX5 fG0 fG1 fP0 fP1 fP2 fP3 fP4 fP5 fP6 fP7 fP8 fP9 fP10 fP11 fP12 e2 e4 e5 e7 e8 e10
  have e2 : V.frozen? ⟨w3.heap.size, 2, none⟩ = false := by simp [World.frozen?, vb]
  have e4 : V.frozen? ⟨w3.heap.size, 4, none⟩ = false := by simp [World.frozen?, vb]
  have e5 : V.frozen? ⟨w3.heap.size, 5, none⟩ = false := by simp [World.frozen?, vb]
  have e7 : V.frozen? ⟨w3.heap.size, 7, none⟩ = false := by simp [World.frozen?, vb]
  have e8 : V.frozen? ⟨w3.heap.size, 8, none⟩ = false := by simp [World.frozen?, vb]
  have e10 : V.frozen? ⟨w3.heap.size, 10, none⟩ = false := by simp [World.frozen?, vb]
  have HVB := Lib.hid vb; clear vb
  have GX0 : Hid (∀ w' : World, Two V w' w.heap.size (w.heap.size + 1) → w'.cell? ⟨w.heap.size, 0, none⟩ = some (.int .u64 (x0 : Nat))) := Lib.hid (fun w' h => by rw [World.cell?_of_block (w := V) h.1]; exact vX0)
  have GX1 : Hid (∀ w' : World, Two V w' w.heap.size (w.heap.size + 1) → w'.cell? ⟨w.heap.size, 1, none⟩ = some (.int .u64 (x1 : Nat))) := Lib.hid (fun w' h => by rw [World.cell?_of_block (w := V) h.1]; exact vX1)
  have GX2 : Hid (∀ w' : World, Two V w' w.heap.size (w.heap.size + 1) → w'.cell? ⟨w.heap.size, 2, none⟩ = some (.int .u64 (x2 : Nat))) := Lib.hid (fun w' h => by rw [World.cell?_of_block (w := V) h.1]; exact vX2)
  have GX3 : Hid (∀ w' : World, Two V w' w.heap.size (w.heap.size + 1) → w'.cell? ⟨w.heap.size, 3, none⟩ = some (.int .u64 (x3 : Nat))) := Lib.hid (fun w' h => by rw [World.cell?_of_block (w := V) h.1]; exact vX3)
  have GX4 : Hid (∀ w' : World, Two V w' w.heap.size (w.heap.size + 1) → w'.cell? ⟨w.heap.size + 1, 0, none⟩ = some (.int .u64 (o0 : Nat))) := Lib.hid (fun w' h => by rw [World.cell?_of_block (w := V) h.2]; exact vX4)
  have GX5 : Hid (∀ w' : World, Two V w' w.heap.size (w.heap.size + 1) → w'.cell? ⟨w.heap.size + 1, 1, none⟩ = some (.int .u64 (o1 : Nat))) := Lib.hid (fun w' h => by rw [World.cell?_of_block (w := V) h.2]; exact vX5)
  refine wp_region_held_drew (S := fun w' => Two V w' w.heap.size (w.heap.size + 1)) (by kernel_rfl) ?_ (fun hS0 => ?_)
  · exact ⟨rfl, rfl⟩
  refine wpAnyH_take (i := 0) (oi := { dst := some 53, op := Go.Op.indexAddr 58 (Go.Operand.tmp 4) (Go.Operand.const (Go.Value.int Go.IntKind.i64 0)), type := 0, pos := "law.go:69", after := #[], guard := none }) (v := ?_) rfl (by kernel_rfl) (by kernel_rfl) (by kernel_rfl) (fun _ _ _ h => h) (Or.inl ⟨by rfl, ?_⟩) (by assumption) ?_
  rotate_left
  · (intro w hSw; (try dsimp only at hSw); go_simp <;> with_reducible rfl)
  try simp only [Act.put, List.setIfInBounds_toArray, List.set_cons_zero, List.set_cons_succ]
  refine wpAnyH_take (i := 1) (oi := { dst := some 54, op := Go.Op.load 22 (Go.Operand.tmp 53), type := 22, pos := "law.go:69", after := #[{ on := 0, ground := Go.Ground.data }], guard := none }) (v := ?_) rfl (by kernel_rfl) (by kernel_rfl) (by kernel_rfl) (fun _ _ _ h => h) (Or.inl ⟨by rfl, ?_⟩) (by assumption) ?_
  rotate_left
  · (intro w hSw; have q0 := GX0.out w hSw; (try dsimp only at hSw); go_simp <;> with_reducible rfl)
  try simp only [Act.put, List.setIfInBounds_toArray, List.set_cons_zero, List.set_cons_succ]
  refine wpAnyH_take (i := 2) (oi := { dst := some 55, op := Go.Op.indexAddr 58 (Go.Operand.tmp 4) (Go.Operand.const (Go.Value.int Go.IntKind.i64 1)), type := 0, pos := "law.go:69", after := #[{ on := 13, ground := Go.Ground.gcOnly Go.Departure.lateStores }], guard := none }) (v := ?_) rfl (by kernel_rfl) (by kernel_rfl) (by kernel_rfl) (fun _ _ _ h => h) (Or.inl ⟨by rfl, ?_⟩) (by assumption) ?_
  rotate_left
  · (intro w hSw; (try dsimp only at hSw); go_simp <;> with_reducible rfl)
  try simp only [Act.put, List.setIfInBounds_toArray, List.set_cons_zero, List.set_cons_succ]
  refine wpAnyH_take (i := 3) (oi := { dst := some 56, op := Go.Op.load 22 (Go.Operand.tmp 55), type := 22, pos := "law.go:69", after := #[{ on := 2, ground := Go.Ground.data }, { on := 13, ground := Go.Ground.gcOnly Go.Departure.lateStores }], guard := none }) (v := ?_) rfl (by kernel_rfl) (by kernel_rfl) (by kernel_rfl) (fun _ _ _ h => h) (Or.inl ⟨by rfl, ?_⟩) (by assumption) ?_
  rotate_left
  · (intro w hSw; have q0 := GX1.out w hSw; (try dsimp only at hSw); go_simp <;> with_reducible rfl)
  try simp only [Act.put, List.setIfInBounds_toArray, List.set_cons_zero, List.set_cons_succ]
  refine wpAnyH_take (i := 4) (oi := { dst := some 57, op := Go.Op.indexAddr 58 (Go.Operand.tmp 4) (Go.Operand.const (Go.Value.int Go.IntKind.i64 2)), type := 0, pos := "law.go:69", after := #[{ on := 15, ground := Go.Ground.gcOnly Go.Departure.lateStores }], guard := none }) (v := ?_) rfl (by kernel_rfl) (by kernel_rfl) (by kernel_rfl) (fun _ _ _ h => h) (Or.inl ⟨by rfl, ?_⟩) (by assumption) ?_
  rotate_left
  · (intro w hSw; (try dsimp only at hSw); go_simp <;> with_reducible rfl)
  try simp only [Act.put, List.setIfInBounds_toArray, List.set_cons_zero, List.set_cons_succ]
  refine wpAnyH_take (i := 5) (oi := { dst := some 58, op := Go.Op.load 22 (Go.Operand.tmp 57), type := 22, pos := "law.go:69", after := #[{ on := 4, ground := Go.Ground.data }, { on := 15, ground := Go.Ground.gcOnly Go.Departure.lateStores }], guard := none }) (v := ?_) rfl (by kernel_rfl) (by kernel_rfl) (by kernel_rfl) (fun _ _ _ h => h) (Or.inl ⟨by rfl, ?_⟩) (by assumption) ?_
  rotate_left
  · (intro w hSw; have q0 := GX2.out w hSw; (try dsimp only at hSw); go_simp <;> with_reducible rfl)
  try simp only [Act.put, List.setIfInBounds_toArray, List.set_cons_zero, List.set_cons_succ]
  refine wpAnyH_take (i := 6) (oi := { dst := some 59, op := Go.Op.indexAddr 58 (Go.Operand.tmp 4) (Go.Operand.const (Go.Value.int Go.IntKind.i64 3)), type := 0, pos := "law.go:69", after := #[{ on := 17, ground := Go.Ground.gcOnly Go.Departure.lateStores }], guard := none }) (v := ?_) rfl (by kernel_rfl) (by kernel_rfl) (by kernel_rfl) (fun _ _ _ h => h) (Or.inl ⟨by rfl, ?_⟩) (by assumption) ?_
  rotate_left
  · (intro w hSw; (try dsimp only at hSw); go_simp <;> with_reducible rfl)
  try simp only [Act.put, List.setIfInBounds_toArray, List.set_cons_zero, List.set_cons_succ]
  refine wpAnyH_take (i := 7) (oi := { dst := some 60, op := Go.Op.load 22 (Go.Operand.tmp 59), type := 22, pos := "law.go:69", after := #[{ on := 6, ground := Go.Ground.data }, { on := 17, ground := Go.Ground.gcOnly Go.Departure.lateStores }], guard := none }) (v := ?_) rfl (by kernel_rfl) (by kernel_rfl) (by kernel_rfl) (fun _ _ _ h => h) (Or.inl ⟨by rfl, ?_⟩) (by assumption) ?_
  rotate_left
  · (intro w hSw; have q0 := GX3.out w hSw; (try dsimp only at hSw); go_simp <;> with_reducible rfl)
  try simp only [Act.put, List.setIfInBounds_toArray, List.set_cons_zero, List.set_cons_succ]
  refine wpAnyH_take (i := 8) (oi := { dst := some 61, op := Go.Op.indexAddr 59 (Go.Operand.tmp 5) (Go.Operand.const (Go.Value.int Go.IntKind.i64 0)), type := 0, pos := "law.go:69", after := #[{ on := 19, ground := Go.Ground.gcOnly Go.Departure.lateStores }], guard := none }) (v := ?_) rfl (by kernel_rfl) (by kernel_rfl) (by kernel_rfl) (fun _ _ _ h => h) (Or.inl ⟨by rfl, ?_⟩) (by assumption) ?_
  rotate_left
  · (intro w hSw; (try dsimp only at hSw); go_simp <;> with_reducible rfl)
  try simp only [Act.put, List.setIfInBounds_toArray, List.set_cons_zero, List.set_cons_succ]
  refine wpAnyH_take (i := 9) (oi := { dst := some 62, op := Go.Op.load 22 (Go.Operand.tmp 61), type := 22, pos := "law.go:69", after := #[{ on := 8, ground := Go.Ground.data }, { on := 19, ground := Go.Ground.gcOnly Go.Departure.lateStores }], guard := none }) (v := ?_) rfl (by kernel_rfl) (by kernel_rfl) (by kernel_rfl) (fun _ _ _ h => h) (Or.inl ⟨by rfl, ?_⟩) (by assumption) ?_
  rotate_left
  · (intro w hSw; have q0 := GX4.out w hSw; (try dsimp only at hSw); go_simp <;> with_reducible rfl)
  try simp only [Act.put, List.setIfInBounds_toArray, List.set_cons_zero, List.set_cons_succ]
  refine wpAnyH_take (i := 10) (oi := { dst := some 63, op := Go.Op.indexAddr 59 (Go.Operand.tmp 5) (Go.Operand.const (Go.Value.int Go.IntKind.i64 1)), type := 0, pos := "law.go:69", after := #[{ on := 21, ground := Go.Ground.gcOnly Go.Departure.lateStores }], guard := none }) (v := ?_) rfl (by kernel_rfl) (by kernel_rfl) (by kernel_rfl) (fun _ _ _ h => h) (Or.inl ⟨by rfl, ?_⟩) (by assumption) ?_
  rotate_left
  · (intro w hSw; (try dsimp only at hSw); go_simp <;> with_reducible rfl)
  try simp only [Act.put, List.setIfInBounds_toArray, List.set_cons_zero, List.set_cons_succ]
  refine wpAnyH_take (i := 11) (oi := { dst := some 64, op := Go.Op.load 22 (Go.Operand.tmp 63), type := 22, pos := "law.go:69", after := #[{ on := 10, ground := Go.Ground.data }, { on := 21, ground := Go.Ground.gcOnly Go.Departure.lateStores }], guard := none }) (v := ?_) rfl (by kernel_rfl) (by kernel_rfl) (by kernel_rfl) (fun _ _ _ h => h) (Or.inl ⟨by rfl, ?_⟩) (by assumption) ?_
  rotate_left
  · (intro w hSw; have q0 := GX5.out w hSw; (try dsimp only at hSw); go_simp <;> with_reducible rfl)
  try simp only [Act.put, List.setIfInBounds_toArray, List.set_cons_zero, List.set_cons_succ]
  clear GX0 GX1 GX2 GX3 GX4 GX5
  refine wpAnyH_take (i := 12) (oi := { dst := some 65, op := Go.Op.fieldAddr 50 (Go.Operand.tmp 8) 2, type := 0, pos := "law.go:69", after := #[{ on := 0, ground := Go.Ground.phase }, { on := 1, ground := Go.Ground.phase }, { on := 2, ground := Go.Ground.textOnly Go.Departure.lateStores }, { on := 3, ground := Go.Ground.textOnly Go.Departure.lateStores }, { on := 4, ground := Go.Ground.textOnly Go.Departure.lateStores }, { on := 5, ground := Go.Ground.textOnly Go.Departure.lateStores }, { on := 6, ground := Go.Ground.textOnly Go.Departure.lateStores }, { on := 7, ground := Go.Ground.textOnly Go.Departure.lateStores }, { on := 8, ground := Go.Ground.textOnly Go.Departure.lateStores }, { on := 9, ground := Go.Ground.textOnly Go.Departure.lateStores }, { on := 10, ground := Go.Ground.textOnly Go.Departure.lateStores }, { on := 11, ground := Go.Ground.textOnly Go.Departure.lateStores }], guard := none }) (v := ?_) rfl (by kernel_rfl) (by kernel_rfl) (by kernel_rfl) (fun _ _ _ h => h) (Or.inl ⟨by rfl, ?_⟩) (by assumption) ?_
  rotate_left
  · (intro w hSw; (try dsimp only at hSw); go_simp <;> with_reducible rfl)
  try simp only [Act.put, List.setIfInBounds_toArray, List.set_cons_zero, List.set_cons_succ]
  refine wpAnyH_ready (rs := [13]) (by kernel_rfl) (by simp) ?_
  refine AllReadyH.cons (o := { dst := none, op := Go.Op.store 22 (Go.Operand.tmp 65) (Go.Operand.tmp 54), type := 0, pos := "law.go:69", after := #[{ on := 12, ground := Go.Ground.data }, { on := 1, ground := Go.Ground.data }, { on := 0, ground := Go.Ground.phase }, { on := 1, ground := Go.Ground.phase }, { on := 2, ground := Go.Ground.textOnly Go.Departure.lateStores }, { on := 3, ground := Go.Ground.textOnly Go.Departure.lateStores }, { on := 4, ground := Go.Ground.textOnly Go.Departure.lateStores }, { on := 5, ground := Go.Ground.textOnly Go.Departure.lateStores }, { on := 6, ground := Go.Ground.textOnly Go.Departure.lateStores }, { on := 7, ground := Go.Ground.textOnly Go.Departure.lateStores }, { on := 8, ground := Go.Ground.textOnly Go.Departure.lateStores }, { on := 9, ground := Go.Ground.textOnly Go.Departure.lateStores }, { on := 10, ground := Go.Ground.textOnly Go.Departure.lateStores }, { on := 11, ground := Go.Ground.textOnly Go.Departure.lateStores }], guard := none }) rfl (fun K hK => ?_) AllReadyH.nil
  go_simp
  refine hK.out _ _ ?_ (fun hS1 => ?_)
  · exact hS0.set (by omega) (by omega)
  clear hK K
  try simp only [Act.put]
  refine wpAnyH_take (i := 14) (oi := { dst := some 66, op := Go.Op.fieldAddr 50 (Go.Operand.tmp 8) 7, type := 0, pos := "law.go:69", after := #[{ on := 0, ground := Go.Ground.phase }, { on := 1, ground := Go.Ground.phase }, { on := 2, ground := Go.Ground.phase }, { on := 3, ground := Go.Ground.phase }, { on := 4, ground := Go.Ground.textOnly Go.Departure.lateStores }, { on := 5, ground := Go.Ground.textOnly Go.Departure.lateStores }, { on := 6, ground := Go.Ground.textOnly Go.Departure.lateStores }, { on := 7, ground := Go.Ground.textOnly Go.Departure.lateStores }, { on := 8, ground := Go.Ground.textOnly Go.Departure.lateStores }, { on := 9, ground := Go.Ground.textOnly Go.Departure.lateStores }, { on := 10, ground := Go.Ground.textOnly Go.Departure.lateStores }, { on := 11, ground := Go.Ground.textOnly Go.Departure.lateStores }, { on := 12, ground := Go.Ground.phase }, { on := 13, ground := Go.Ground.phase }], guard := none }) (v := ?_) rfl (by kernel_rfl) (by kernel_rfl) (by kernel_rfl) (fun _ _ _ h => h) (Or.inl ⟨by rfl, ?_⟩) (by assumption) ?_
  rotate_left
  · (intro w hSw; (try dsimp only at hSw); go_simp <;> with_reducible rfl)
  try simp only [Act.put, List.setIfInBounds_toArray, List.set_cons_zero, List.set_cons_succ]
  refine wpAnyH_ready (rs := [15]) (by kernel_rfl) (by simp) ?_
  refine AllReadyH.cons (o := { dst := none, op := Go.Op.store 22 (Go.Operand.tmp 66) (Go.Operand.tmp 56), type := 0, pos := "law.go:69", after := #[{ on := 14, ground := Go.Ground.data }, { on := 3, ground := Go.Ground.data }, { on := 13, ground := Go.Ground.chain }, { on := 0, ground := Go.Ground.phase }, { on := 1, ground := Go.Ground.phase }, { on := 2, ground := Go.Ground.phase }, { on := 3, ground := Go.Ground.phase }, { on := 4, ground := Go.Ground.textOnly Go.Departure.lateStores }, { on := 5, ground := Go.Ground.textOnly Go.Departure.lateStores }, { on := 6, ground := Go.Ground.textOnly Go.Departure.lateStores }, { on := 7, ground := Go.Ground.textOnly Go.Departure.lateStores }, { on := 8, ground := Go.Ground.textOnly Go.Departure.lateStores }, { on := 9, ground := Go.Ground.textOnly Go.Departure.lateStores }, { on := 10, ground := Go.Ground.textOnly Go.Departure.lateStores }, { on := 11, ground := Go.Ground.textOnly Go.Departure.lateStores }, { on := 12, ground := Go.Ground.phase }, { on := 13, ground := Go.Ground.phase }], guard := none }) rfl (fun K hK => ?_) AllReadyH.nil
  go_simp
  refine hK.out _ _ ?_ (fun hS2 => ?_)
  · exact hS1.set (by omega) (by omega)
  clear hK K
  try simp only [Act.put]
  refine wpAnyH_take (i := 16) (oi := { dst := some 67, op := Go.Op.fieldAddr 50 (Go.Operand.tmp 8) 8, type := 0, pos := "law.go:69", after := #[{ on := 0, ground := Go.Ground.phase }, { on := 1, ground := Go.Ground.phase }, { on := 2, ground := Go.Ground.phase }, { on := 3, ground := Go.Ground.phase }, { on := 4, ground := Go.Ground.phase }, { on := 5, ground := Go.Ground.phase }, { on := 6, ground := Go.Ground.textOnly Go.Departure.lateStores }, { on := 7, ground := Go.Ground.textOnly Go.Departure.lateStores }, { on := 8, ground := Go.Ground.textOnly Go.Departure.lateStores }, { on := 9, ground := Go.Ground.textOnly Go.Departure.lateStores }, { on := 10, ground := Go.Ground.textOnly Go.Departure.lateStores }, { on := 11, ground := Go.Ground.textOnly Go.Departure.lateStores }, { on := 12, ground := Go.Ground.phase }, { on := 13, ground := Go.Ground.phase }, { on := 14, ground := Go.Ground.phase }, { on := 15, ground := Go.Ground.phase }], guard := none }) (v := ?_) rfl (by kernel_rfl) (by kernel_rfl) (by kernel_rfl) (fun _ _ _ h => h) (Or.inl ⟨by rfl, ?_⟩) (by assumption) ?_
  rotate_left
  · (intro w hSw; (try dsimp only at hSw); go_simp <;> with_reducible rfl)
  try simp only [Act.put, List.setIfInBounds_toArray, List.set_cons_zero, List.set_cons_succ]
  refine wpAnyH_ready (rs := [17]) (by kernel_rfl) (by simp) ?_
  refine AllReadyH.cons (o := { dst := none, op := Go.Op.store 22 (Go.Operand.tmp 67) (Go.Operand.tmp 58), type := 0, pos := "law.go:69", after := #[{ on := 16, ground := Go.Ground.data }, { on := 5, ground := Go.Ground.data }, { on := 15, ground := Go.Ground.chain }, { on := 0, ground := Go.Ground.phase }, { on := 1, ground := Go.Ground.phase }, { on := 2, ground := Go.Ground.phase }, { on := 3, ground := Go.Ground.phase }, { on := 4, ground := Go.Ground.phase }, { on := 5, ground := Go.Ground.phase }, { on := 6, ground := Go.Ground.textOnly Go.Departure.lateStores }, { on := 7, ground := Go.Ground.textOnly Go.Departure.lateStores }, { on := 8, ground := Go.Ground.textOnly Go.Departure.lateStores }, { on := 9, ground := Go.Ground.textOnly Go.Departure.lateStores }, { on := 10, ground := Go.Ground.textOnly Go.Departure.lateStores }, { on := 11, ground := Go.Ground.textOnly Go.Departure.lateStores }, { on := 12, ground := Go.Ground.phase }, { on := 13, ground := Go.Ground.phase }, { on := 14, ground := Go.Ground.phase }, { on := 15, ground := Go.Ground.phase }], guard := none }) rfl (fun K hK => ?_) AllReadyH.nil
  go_simp
  refine hK.out _ _ ?_ (fun hS3 => ?_)
  · exact hS2.set (by omega) (by omega)
  clear hK K
  try simp only [Act.put]
  refine wpAnyH_take (i := 18) (oi := { dst := some 68, op := Go.Op.fieldAddr 50 (Go.Operand.tmp 8) 10, type := 0, pos := "law.go:69", after := #[{ on := 0, ground := Go.Ground.phase }, { on := 1, ground := Go.Ground.phase }, { on := 2, ground := Go.Ground.phase }, { on := 3, ground := Go.Ground.phase }, { on := 4, ground := Go.Ground.phase }, { on := 5, ground := Go.Ground.phase }, { on := 6, ground := Go.Ground.phase }, { on := 7, ground := Go.Ground.phase }, { on := 8, ground := Go.Ground.textOnly Go.Departure.lateStores }, { on := 9, ground := Go.Ground.textOnly Go.Departure.lateStores }, { on := 10, ground := Go.Ground.textOnly Go.Departure.lateStores }, { on := 11, ground := Go.Ground.textOnly Go.Departure.lateStores }, { on := 12, ground := Go.Ground.phase }, { on := 13, ground := Go.Ground.phase }, { on := 14, ground := Go.Ground.phase }, { on := 15, ground := Go.Ground.phase }, { on := 16, ground := Go.Ground.phase }, { on := 17, ground := Go.Ground.phase }], guard := none }) (v := ?_) rfl (by kernel_rfl) (by kernel_rfl) (by kernel_rfl) (fun _ _ _ h => h) (Or.inl ⟨by rfl, ?_⟩) (by assumption) ?_
  rotate_left
  · (intro w hSw; (try dsimp only at hSw); go_simp <;> with_reducible rfl)
  try simp only [Act.put, List.setIfInBounds_toArray, List.set_cons_zero, List.set_cons_succ]
  refine wpAnyH_ready (rs := [19]) (by kernel_rfl) (by simp) ?_
  refine AllReadyH.cons (o := { dst := none, op := Go.Op.store 22 (Go.Operand.tmp 68) (Go.Operand.tmp 60), type := 0, pos := "law.go:69", after := #[{ on := 18, ground := Go.Ground.data }, { on := 7, ground := Go.Ground.data }, { on := 17, ground := Go.Ground.chain }, { on := 0, ground := Go.Ground.phase }, { on := 1, ground := Go.Ground.phase }, { on := 2, ground := Go.Ground.phase }, { on := 3, ground := Go.Ground.phase }, { on := 4, ground := Go.Ground.phase }, { on := 5, ground := Go.Ground.phase }, { on := 6, ground := Go.Ground.phase }, { on := 7, ground := Go.Ground.phase }, { on := 8, ground := Go.Ground.textOnly Go.Departure.lateStores }, { on := 9, ground := Go.Ground.textOnly Go.Departure.lateStores }, { on := 10, ground := Go.Ground.textOnly Go.Departure.lateStores }, { on := 11, ground := Go.Ground.textOnly Go.Departure.lateStores }, { on := 12, ground := Go.Ground.phase }, { on := 13, ground := Go.Ground.phase }, { on := 14, ground := Go.Ground.phase }, { on := 15, ground := Go.Ground.phase }, { on := 16, ground := Go.Ground.phase }, { on := 17, ground := Go.Ground.phase }], guard := none }) rfl (fun K hK => ?_) AllReadyH.nil
  go_simp
  refine hK.out _ _ ?_ (fun hS4 => ?_)
  · exact hS3.set (by omega) (by omega)
  clear hK K
  try simp only [Act.put]
  refine wpAnyH_take (i := 20) (oi := { dst := some 69, op := Go.Op.fieldAddr 50 (Go.Operand.tmp 8) 4, type := 0, pos := "law.go:69", after := #[{ on := 0, ground := Go.Ground.phase }, { on := 1, ground := Go.Ground.phase }, { on := 2, ground := Go.Ground.phase }, { on := 3, ground := Go.Ground.phase }, { on := 4, ground := Go.Ground.phase }, { on := 5, ground := Go.Ground.phase }, { on := 6, ground := Go.Ground.phase }, { on := 7, ground := Go.Ground.phase }, { on := 8, ground := Go.Ground.phase }, { on := 9, ground := Go.Ground.phase }, { on := 10, ground := Go.Ground.textOnly Go.Departure.lateStores }, { on := 11, ground := Go.Ground.textOnly Go.Departure.lateStores }, { on := 12, ground := Go.Ground.phase }, { on := 13, ground := Go.Ground.phase }, { on := 14, ground := Go.Ground.phase }, { on := 15, ground := Go.Ground.phase }, { on := 16, ground := Go.Ground.phase }, { on := 17, ground := Go.Ground.phase }, { on := 18, ground := Go.Ground.phase }, { on := 19, ground := Go.Ground.phase }], guard := none }) (v := ?_) rfl (by kernel_rfl) (by kernel_rfl) (by kernel_rfl) (fun _ _ _ h => h) (Or.inl ⟨by rfl, ?_⟩) (by assumption) ?_
  rotate_left
  · (intro w hSw; (try dsimp only at hSw); go_simp <;> with_reducible rfl)
  try simp only [Act.put, List.setIfInBounds_toArray, List.set_cons_zero, List.set_cons_succ]
  refine wpAnyH_ready (rs := [21]) (by kernel_rfl) (by simp) ?_
  refine AllReadyH.cons (o := { dst := none, op := Go.Op.store 22 (Go.Operand.tmp 69) (Go.Operand.tmp 62), type := 0, pos := "law.go:69", after := #[{ on := 20, ground := Go.Ground.data }, { on := 9, ground := Go.Ground.data }, { on := 19, ground := Go.Ground.chain }, { on := 0, ground := Go.Ground.phase }, { on := 1, ground := Go.Ground.phase }, { on := 2, ground := Go.Ground.phase }, { on := 3, ground := Go.Ground.phase }, { on := 4, ground := Go.Ground.phase }, { on := 5, ground := Go.Ground.phase }, { on := 6, ground := Go.Ground.phase }, { on := 7, ground := Go.Ground.phase }, { on := 8, ground := Go.Ground.phase }, { on := 9, ground := Go.Ground.phase }, { on := 10, ground := Go.Ground.textOnly Go.Departure.lateStores }, { on := 11, ground := Go.Ground.textOnly Go.Departure.lateStores }, { on := 12, ground := Go.Ground.phase }, { on := 13, ground := Go.Ground.phase }, { on := 14, ground := Go.Ground.phase }, { on := 15, ground := Go.Ground.phase }, { on := 16, ground := Go.Ground.phase }, { on := 17, ground := Go.Ground.phase }, { on := 18, ground := Go.Ground.phase }, { on := 19, ground := Go.Ground.phase }], guard := none }) rfl (fun K hK => ?_) AllReadyH.nil
  go_simp
  refine hK.out _ _ ?_ (fun hS5 => ?_)
  · exact hS4.set (by omega) (by omega)
  clear hK K
  try simp only [Act.put]
  refine wpAnyH_take (i := 22) (oi := { dst := some 70, op := Go.Op.fieldAddr 50 (Go.Operand.tmp 8) 5, type := 0, pos := "law.go:69", after := #[{ on := 0, ground := Go.Ground.phase }, { on := 1, ground := Go.Ground.phase }, { on := 2, ground := Go.Ground.phase }, { on := 3, ground := Go.Ground.phase }, { on := 4, ground := Go.Ground.phase }, { on := 5, ground := Go.Ground.phase }, { on := 6, ground := Go.Ground.phase }, { on := 7, ground := Go.Ground.phase }, { on := 8, ground := Go.Ground.phase }, { on := 9, ground := Go.Ground.phase }, { on := 10, ground := Go.Ground.phase }, { on := 11, ground := Go.Ground.phase }, { on := 12, ground := Go.Ground.phase }, { on := 13, ground := Go.Ground.phase }, { on := 14, ground := Go.Ground.phase }, { on := 15, ground := Go.Ground.phase }, { on := 16, ground := Go.Ground.phase }, { on := 17, ground := Go.Ground.phase }, { on := 18, ground := Go.Ground.phase }, { on := 19, ground := Go.Ground.phase }, { on := 20, ground := Go.Ground.phase }, { on := 21, ground := Go.Ground.phase }], guard := none }) (v := ?_) rfl (by kernel_rfl) (by kernel_rfl) (by kernel_rfl) (fun _ _ _ h => h) (Or.inl ⟨by rfl, ?_⟩) (by assumption) ?_
  rotate_left
  · (intro w hSw; (try dsimp only at hSw); go_simp <;> with_reducible rfl)
  try simp only [Act.put, List.setIfInBounds_toArray, List.set_cons_zero, List.set_cons_succ]
  refine wpAnyH_ready (rs := [23]) (by kernel_rfl) (by simp) ?_
  refine AllReadyH.cons (o := { dst := none, op := Go.Op.store 22 (Go.Operand.tmp 70) (Go.Operand.tmp 64), type := 0, pos := "law.go:69", after := #[{ on := 22, ground := Go.Ground.data }, { on := 11, ground := Go.Ground.data }, { on := 21, ground := Go.Ground.chain }, { on := 0, ground := Go.Ground.phase }, { on := 1, ground := Go.Ground.phase }, { on := 2, ground := Go.Ground.phase }, { on := 3, ground := Go.Ground.phase }, { on := 4, ground := Go.Ground.phase }, { on := 5, ground := Go.Ground.phase }, { on := 6, ground := Go.Ground.phase }, { on := 7, ground := Go.Ground.phase }, { on := 8, ground := Go.Ground.phase }, { on := 9, ground := Go.Ground.phase }, { on := 10, ground := Go.Ground.phase }, { on := 11, ground := Go.Ground.phase }, { on := 12, ground := Go.Ground.phase }, { on := 13, ground := Go.Ground.phase }, { on := 14, ground := Go.Ground.phase }, { on := 15, ground := Go.Ground.phase }, { on := 16, ground := Go.Ground.phase }, { on := 17, ground := Go.Ground.phase }, { on := 18, ground := Go.Ground.phase }, { on := 19, ground := Go.Ground.phase }, { on := 20, ground := Go.Ground.phase }, { on := 21, ground := Go.Ground.phase }], guard := none }) rfl (fun K hK => ?_) AllReadyH.nil
  go_simp
  refine hK.out _ _ ?_ (fun hS6 => ?_)
  · exact hS5.set (by omega) (by omega)
  clear hK K
  try simp only [Act.put]
  refine wpAnyH_done (by kernel_rfl) ?_ _
  have k6 := six_set (v1 := .int .u64 (x0 : Nat)) (v2 := .int .u64 (x1 : Nat)) (v3 := .int .u64 (x2 : Nat)) (v4 := .int .u64 (x3 : Nat)) (v5 := .int .u64 (o0 : Nat)) (v6 := .int .u64 (o1 : Nat)) (i1 := 2) (i2 := 7) (i3 := 8) (i4 := 10) (i5 := 4) (i6 := 5) HVB.out
  simp only [List.setIfInBounds_toArray, List.set_cons_zero, List.set_cons_succ] at k6
  have b6 : Below w.heap.size w ((((((V.setCell ⟨w3.heap.size, 2, none⟩ (.int .u64 (x0 : Nat))).setCell ⟨w3.heap.size, 7, none⟩ (.int .u64 (x1 : Nat))).setCell ⟨w3.heap.size, 8, none⟩ (.int .u64 (x2 : Nat))).setCell ⟨w3.heap.size, 10, none⟩ (.int .u64 (x3 : Nat))).setCell ⟨w3.heap.size, 4, none⟩ (.int .u64 (o0 : Nat))).setCell ⟨w3.heap.size, 5, none⟩ (.int .u64 (o1 : Nat))).drew := ((((((bV.setCell (by show w.heap.size ≤ w3.heap.size; omega) _).setCell (by show w.heap.size ≤ w3.heap.size; omega) _).setCell (by show w.heap.size ≤ w3.heap.size; omega) _).setCell (by show w.heap.size ≤ w3.heap.size; omega) _).setCell (by show w.heap.size ≤ w3.heap.size; omega) _).setCell (by show w.heap.size ≤ w3.heap.size; omega) _).drew
  have uX0 : ((((((V.setCell ⟨w3.heap.size, 2, none⟩ (.int .u64 (x0 : Nat))).setCell ⟨w3.heap.size, 7, none⟩ (.int .u64 (x1 : Nat))).setCell ⟨w3.heap.size, 8, none⟩ (.int .u64 (x2 : Nat))).setCell ⟨w3.heap.size, 10, none⟩ (.int .u64 (x3 : Nat))).setCell ⟨w3.heap.size, 4, none⟩ (.int .u64 (o0 : Nat))).setCell ⟨w3.heap.size, 5, none⟩ (.int .u64 (o1 : Nat))).drew.cell? ⟨w.heap.size, 0, none⟩ = some (.int .u64 (x0 : Nat)) := (six_other (by omega)).trans vX0
  have uX1 : ((((((V.setCell ⟨w3.heap.size, 2, none⟩ (.int .u64 (x0 : Nat))).setCell ⟨w3.heap.size, 7, none⟩ (.int .u64 (x1 : Nat))).setCell ⟨w3.heap.size, 8, none⟩ (.int .u64 (x2 : Nat))).setCell ⟨w3.heap.size, 10, none⟩ (.int .u64 (x3 : Nat))).setCell ⟨w3.heap.size, 4, none⟩ (.int .u64 (o0 : Nat))).setCell ⟨w3.heap.size, 5, none⟩ (.int .u64 (o1 : Nat))).drew.cell? ⟨w.heap.size, 1, none⟩ = some (.int .u64 (x1 : Nat)) := (six_other (by omega)).trans vX1
  have uX2 : ((((((V.setCell ⟨w3.heap.size, 2, none⟩ (.int .u64 (x0 : Nat))).setCell ⟨w3.heap.size, 7, none⟩ (.int .u64 (x1 : Nat))).setCell ⟨w3.heap.size, 8, none⟩ (.int .u64 (x2 : Nat))).setCell ⟨w3.heap.size, 10, none⟩ (.int .u64 (x3 : Nat))).setCell ⟨w3.heap.size, 4, none⟩ (.int .u64 (o0 : Nat))).setCell ⟨w3.heap.size, 5, none⟩ (.int .u64 (o1 : Nat))).drew.cell? ⟨w.heap.size, 2, none⟩ = some (.int .u64 (x2 : Nat)) := (six_other (by omega)).trans vX2
  have uX3 : ((((((V.setCell ⟨w3.heap.size, 2, none⟩ (.int .u64 (x0 : Nat))).setCell ⟨w3.heap.size, 7, none⟩ (.int .u64 (x1 : Nat))).setCell ⟨w3.heap.size, 8, none⟩ (.int .u64 (x2 : Nat))).setCell ⟨w3.heap.size, 10, none⟩ (.int .u64 (x3 : Nat))).setCell ⟨w3.heap.size, 4, none⟩ (.int .u64 (o0 : Nat))).setCell ⟨w3.heap.size, 5, none⟩ (.int .u64 (o1 : Nat))).drew.cell? ⟨w.heap.size, 3, none⟩ = some (.int .u64 (x3 : Nat)) := (six_other (by omega)).trans vX3
  have uX4 : ((((((V.setCell ⟨w3.heap.size, 2, none⟩ (.int .u64 (x0 : Nat))).setCell ⟨w3.heap.size, 7, none⟩ (.int .u64 (x1 : Nat))).setCell ⟨w3.heap.size, 8, none⟩ (.int .u64 (x2 : Nat))).setCell ⟨w3.heap.size, 10, none⟩ (.int .u64 (x3 : Nat))).setCell ⟨w3.heap.size, 4, none⟩ (.int .u64 (o0 : Nat))).setCell ⟨w3.heap.size, 5, none⟩ (.int .u64 (o1 : Nat))).drew.cell? ⟨w.heap.size + 1, 0, none⟩ = some (.int .u64 (o0 : Nat)) := (six_other (by omega)).trans vX4
  have uX5 : ((((((V.setCell ⟨w3.heap.size, 2, none⟩ (.int .u64 (x0 : Nat))).setCell ⟨w3.heap.size, 7, none⟩ (.int .u64 (x1 : Nat))).setCell ⟨w3.heap.size, 8, none⟩ (.int .u64 (x2 : Nat))).setCell ⟨w3.heap.size, 10, none⟩ (.int .u64 (x3 : Nat))).setCell ⟨w3.heap.size, 4, none⟩ (.int .u64 (o0 : Nat))).setCell ⟨w3.heap.size, 5, none⟩ (.int .u64 (o1 : Nat))).drew.cell? ⟨w.heap.size + 1, 1, none⟩ = some (.int .u64 (o1 : Nat)) := (six_other (by omega)).trans vX5
  have uG0 : ((((((V.setCell ⟨w3.heap.size, 2, none⟩ (.int .u64 (x0 : Nat))).setCell ⟨w3.heap.size, 7, none⟩ (.int .u64 (x1 : Nat))).setCell ⟨w3.heap.size, 8, none⟩ (.int .u64 (x2 : Nat))).setCell ⟨w3.heap.size, 10, none⟩ (.int .u64 (x3 : Nat))).setCell ⟨w3.heap.size, 4, none⟩ (.int .u64 (o0 : Nat))).setCell ⟨w3.heap.size, 5, none⟩ (.int .u64 (o1 : Nat))).drew.cell? ⟨w2.heap.size, 0, none⟩ = some (.bool big) := (six_other (by omega)).trans vG0
  have uG1 : ((((((V.setCell ⟨w3.heap.size, 2, none⟩ (.int .u64 (x0 : Nat))).setCell ⟨w3.heap.size, 7, none⟩ (.int .u64 (x1 : Nat))).setCell ⟨w3.heap.size, 8, none⟩ (.int .u64 (x2 : Nat))).setCell ⟨w3.heap.size, 10, none⟩ (.int .u64 (x3 : Nat))).setCell ⟨w3.heap.size, 4, none⟩ (.int .u64 (o0 : Nat))).setCell ⟨w3.heap.size, 5, none⟩ (.int .u64 (o1 : Nat))).drew.cell? ⟨w2.heap.size, 1, none⟩ = some (.bool true) := (six_other (by omega)).trans vG1
  have u7 : ((((((V.setCell ⟨w3.heap.size, 2, none⟩ (.int .u64 (x0 : Nat))).setCell ⟨w3.heap.size, 7, none⟩ (.int .u64 (x1 : Nat))).setCell ⟨w3.heap.size, 8, none⟩ (.int .u64 (x2 : Nat))).setCell ⟨w3.heap.size, 10, none⟩ (.int .u64 (x3 : Nat))).setCell ⟨w3.heap.size, 4, none⟩ (.int .u64 (o0 : Nat))).setCell ⟨w3.heap.size, 5, none⟩ (.int .u64 (o1 : Nat))).drew.cell? ⟨w5.heap.size, 7, none⟩ = some (.int .u64 64) := (six_other (by omega)).trans q7
  have u8 : ((((((V.setCell ⟨w3.heap.size, 2, none⟩ (.int .u64 (x0 : Nat))).setCell ⟨w3.heap.size, 7, none⟩ (.int .u64 (x1 : Nat))).setCell ⟨w3.heap.size, 8, none⟩ (.int .u64 (x2 : Nat))).setCell ⟨w3.heap.size, 10, none⟩ (.int .u64 (x3 : Nat))).setCell ⟨w3.heap.size, 4, none⟩ (.int .u64 (o0 : Nat))).setCell ⟨w3.heap.size, 5, none⟩ (.int .u64 (o1 : Nat))).drew.cell? ⟨w5.heap.size, 8, none⟩ = some (.int .u64 56) := (six_other (by omega)).trans q8
  have u10 : ((((((V.setCell ⟨w3.heap.size, 2, none⟩ (.int .u64 (x0 : Nat))).setCell ⟨w3.heap.size, 7, none⟩ (.int .u64 (x1 : Nat))).setCell ⟨w3.heap.size, 8, none⟩ (.int .u64 (x2 : Nat))).setCell ⟨w3.heap.size, 10, none⟩ (.int .u64 (x3 : Nat))).setCell ⟨w3.heap.size, 4, none⟩ (.int .u64 (o0 : Nat))).setCell ⟨w3.heap.size, 5, none⟩ (.int .u64 (o1 : Nat))).drew.cell? ⟨w5.heap.size, 10, none⟩ = some (.int .u64 64) := (six_other (by omega)).trans q10
  have p0 : ((((((V.setCell ⟨w3.heap.size, 2, none⟩ (.int .u64 (x0 : Nat))).setCell ⟨w3.heap.size, 7, none⟩ (.int .u64 (x1 : Nat))).setCell ⟨w3.heap.size, 8, none⟩ (.int .u64 (x2 : Nat))).setCell ⟨w3.heap.size, 10, none⟩ (.int .u64 (x3 : Nat))).setCell ⟨w3.heap.size, 4, none⟩ (.int .u64 (o0 : Nat))).setCell ⟨w3.heap.size, 5, none⟩ (.int .u64 (o1 : Nat))).drew.cell? ⟨w3.heap.size, 0, none⟩ = some (.int .u64 0) := by simp [World.cell?, k6]
  have p1 : ((((((V.setCell ⟨w3.heap.size, 2, none⟩ (.int .u64 (x0 : Nat))).setCell ⟨w3.heap.size, 7, none⟩ (.int .u64 (x1 : Nat))).setCell ⟨w3.heap.size, 8, none⟩ (.int .u64 (x2 : Nat))).setCell ⟨w3.heap.size, 10, none⟩ (.int .u64 (x3 : Nat))).setCell ⟨w3.heap.size, 4, none⟩ (.int .u64 (o0 : Nat))).setCell ⟨w3.heap.size, 5, none⟩ (.int .u64 (o1 : Nat))).drew.cell? ⟨w3.heap.size, 1, none⟩ = some (.int .u64 0) := by simp [World.cell?, k6]
  have p2 : ((((((V.setCell ⟨w3.heap.size, 2, none⟩ (.int .u64 (x0 : Nat))).setCell ⟨w3.heap.size, 7, none⟩ (.int .u64 (x1 : Nat))).setCell ⟨w3.heap.size, 8, none⟩ (.int .u64 (x2 : Nat))).setCell ⟨w3.heap.size, 10, none⟩ (.int .u64 (x3 : Nat))).setCell ⟨w3.heap.size, 4, none⟩ (.int .u64 (o0 : Nat))).setCell ⟨w3.heap.size, 5, none⟩ (.int .u64 (o1 : Nat))).drew.cell? ⟨w3.heap.size, 2, none⟩ = some (.int .u64 (x0 : Nat)) := by simp [World.cell?, k6]
  have p3 : ((((((V.setCell ⟨w3.heap.size, 2, none⟩ (.int .u64 (x0 : Nat))).setCell ⟨w3.heap.size, 7, none⟩ (.int .u64 (x1 : Nat))).setCell ⟨w3.heap.size, 8, none⟩ (.int .u64 (x2 : Nat))).setCell ⟨w3.heap.size, 10, none⟩ (.int .u64 (x3 : Nat))).setCell ⟨w3.heap.size, 4, none⟩ (.int .u64 (o0 : Nat))).setCell ⟨w3.heap.size, 5, none⟩ (.int .u64 (o1 : Nat))).drew.cell? ⟨w3.heap.size, 3, none⟩ = some (.int .u64 0) := by simp [World.cell?, k6]
  have p4 : ((((((V.setCell ⟨w3.heap.size, 2, none⟩ (.int .u64 (x0 : Nat))).setCell ⟨w3.heap.size, 7, none⟩ (.int .u64 (x1 : Nat))).setCell ⟨w3.heap.size, 8, none⟩ (.int .u64 (x2 : Nat))).setCell ⟨w3.heap.size, 10, none⟩ (.int .u64 (x3 : Nat))).setCell ⟨w3.heap.size, 4, none⟩ (.int .u64 (o0 : Nat))).setCell ⟨w3.heap.size, 5, none⟩ (.int .u64 (o1 : Nat))).drew.cell? ⟨w3.heap.size, 4, none⟩ = some (.int .u64 (o0 : Nat)) := by simp [World.cell?, k6]
  have p5 : ((((((V.setCell ⟨w3.heap.size, 2, none⟩ (.int .u64 (x0 : Nat))).setCell ⟨w3.heap.size, 7, none⟩ (.int .u64 (x1 : Nat))).setCell ⟨w3.heap.size, 8, none⟩ (.int .u64 (x2 : Nat))).setCell ⟨w3.heap.size, 10, none⟩ (.int .u64 (x3 : Nat))).setCell ⟨w3.heap.size, 4, none⟩ (.int .u64 (o0 : Nat))).setCell ⟨w3.heap.size, 5, none⟩ (.int .u64 (o1 : Nat))).drew.cell? ⟨w3.heap.size, 5, none⟩ = some (.int .u64 (o1 : Nat)) := by simp [World.cell?, k6]
  have p6 : ((((((V.setCell ⟨w3.heap.size, 2, none⟩ (.int .u64 (x0 : Nat))).setCell ⟨w3.heap.size, 7, none⟩ (.int .u64 (x1 : Nat))).setCell ⟨w3.heap.size, 8, none⟩ (.int .u64 (x2 : Nat))).setCell ⟨w3.heap.size, 10, none⟩ (.int .u64 (x3 : Nat))).setCell ⟨w3.heap.size, 4, none⟩ (.int .u64 (o0 : Nat))).setCell ⟨w3.heap.size, 5, none⟩ (.int .u64 (o1 : Nat))).drew.cell? ⟨w3.heap.size, 6, none⟩ = some (.int .u64 0) := by simp [World.cell?, k6]
  have p7 : ((((((V.setCell ⟨w3.heap.size, 2, none⟩ (.int .u64 (x0 : Nat))).setCell ⟨w3.heap.size, 7, none⟩ (.int .u64 (x1 : Nat))).setCell ⟨w3.heap.size, 8, none⟩ (.int .u64 (x2 : Nat))).setCell ⟨w3.heap.size, 10, none⟩ (.int .u64 (x3 : Nat))).setCell ⟨w3.heap.size, 4, none⟩ (.int .u64 (o0 : Nat))).setCell ⟨w3.heap.size, 5, none⟩ (.int .u64 (o1 : Nat))).drew.cell? ⟨w3.heap.size, 7, none⟩ = some (.int .u64 (x1 : Nat)) := by simp [World.cell?, k6]
  have p8 : ((((((V.setCell ⟨w3.heap.size, 2, none⟩ (.int .u64 (x0 : Nat))).setCell ⟨w3.heap.size, 7, none⟩ (.int .u64 (x1 : Nat))).setCell ⟨w3.heap.size, 8, none⟩ (.int .u64 (x2 : Nat))).setCell ⟨w3.heap.size, 10, none⟩ (.int .u64 (x3 : Nat))).setCell ⟨w3.heap.size, 4, none⟩ (.int .u64 (o0 : Nat))).setCell ⟨w3.heap.size, 5, none⟩ (.int .u64 (o1 : Nat))).drew.cell? ⟨w3.heap.size, 8, none⟩ = some (.int .u64 (x2 : Nat)) := by simp [World.cell?, k6]
  have p9 : ((((((V.setCell ⟨w3.heap.size, 2, none⟩ (.int .u64 (x0 : Nat))).setCell ⟨w3.heap.size, 7, none⟩ (.int .u64 (x1 : Nat))).setCell ⟨w3.heap.size, 8, none⟩ (.int .u64 (x2 : Nat))).setCell ⟨w3.heap.size, 10, none⟩ (.int .u64 (x3 : Nat))).setCell ⟨w3.heap.size, 4, none⟩ (.int .u64 (o0 : Nat))).setCell ⟨w3.heap.size, 5, none⟩ (.int .u64 (o1 : Nat))).drew.cell? ⟨w3.heap.size, 9, none⟩ = some (.int .u64 0) := by simp [World.cell?, k6]
  have p10 : ((((((V.setCell ⟨w3.heap.size, 2, none⟩ (.int .u64 (x0 : Nat))).setCell ⟨w3.heap.size, 7, none⟩ (.int .u64 (x1 : Nat))).setCell ⟨w3.heap.size, 8, none⟩ (.int .u64 (x2 : Nat))).setCell ⟨w3.heap.size, 10, none⟩ (.int .u64 (x3 : Nat))).setCell ⟨w3.heap.size, 4, none⟩ (.int .u64 (o0 : Nat))).setCell ⟨w3.heap.size, 5, none⟩ (.int .u64 (o1 : Nat))).drew.cell? ⟨w3.heap.size, 10, none⟩ = some (.int .u64 (x3 : Nat)) := by simp [World.cell?, k6]
  have p11 : ((((((V.setCell ⟨w3.heap.size, 2, none⟩ (.int .u64 (x0 : Nat))).setCell ⟨w3.heap.size, 7, none⟩ (.int .u64 (x1 : Nat))).setCell ⟨w3.heap.size, 8, none⟩ (.int .u64 (x2 : Nat))).setCell ⟨w3.heap.size, 10, none⟩ (.int .u64 (x3 : Nat))).setCell ⟨w3.heap.size, 4, none⟩ (.int .u64 (o0 : Nat))).setCell ⟨w3.heap.size, 5, none⟩ (.int .u64 (o1 : Nat))).drew.cell? ⟨w3.heap.size, 11, none⟩ = some (.int .u64 0) := by simp [World.cell?, k6]
  have p12 : ((((((V.setCell ⟨w3.heap.size, 2, none⟩ (.int .u64 (x0 : Nat))).setCell ⟨w3.heap.size, 7, none⟩ (.int .u64 (x1 : Nat))).setCell ⟨w3.heap.size, 8, none⟩ (.int .u64 (x2 : Nat))).setCell ⟨w3.heap.size, 10, none⟩ (.int .u64 (x3 : Nat))).setCell ⟨w3.heap.size, 4, none⟩ (.int .u64 (o0 : Nat))).setCell ⟨w3.heap.size, 5, none⟩ (.int .u64 (o1 : Nat))).drew.cell? ⟨w3.heap.size, 12, none⟩ = some (.int .u64 0) := by simp [World.cell?, k6]
  generalize ((((((V.setCell ⟨w3.heap.size, 2, none⟩ (.int .u64 (x0 : Nat))).setCell ⟨w3.heap.size, 7, none⟩ (.int .u64 (x1 : Nat))).setCell ⟨w3.heap.size, 8, none⟩ (.int .u64 (x2 : Nat))).setCell ⟨w3.heap.size, 10, none⟩ (.int .u64 (x3 : Nat))).setCell ⟨w3.heap.size, 4, none⟩ (.int .u64 (o0 : Nat))).setCell ⟨w3.heap.size, 5, none⟩ (.int .u64 (o1 : Nat))).drew = W6 at *
  clear k6 bV hbit HB HW HVB hS0 hS1 hS2 hS3 hS4 hS5 hS6 vX0 vX1 vX2 vX3 vX4 vX5 vG0 vG1 vP0 vP1 vP2 vP3 vP4 vP5 vP6 vP7 vP8 vP9 vP10 vP11 vP12 q7 q8 q10 e2 e4 e5 e7 e8 e10
  obtain ⟨b1, h1⟩ : ∃ b, ((x0 : Int) != 1) = b := ⟨_, rfl⟩
  obtain ⟨b2, h2⟩ : ∃ b, ((x1 : Int) != 64) = b := ⟨_, rfl⟩
  obtain ⟨b3, h3⟩ : ∃ b, ((o0 : Int) != 0) = b := ⟨_, rfl⟩
  obtain ⟨b4, h4⟩ : ∃ b, ((x2 : Int) != 56) = b := ⟨_, rfl⟩
  obtain ⟨b5, h5⟩ : ∃ b, ((o1 : Int) != 0) = b := ⟨_, rfl⟩
  obtain ⟨b6', h6⟩ : ∃ b, ((x3 : Int) != 64) = b := ⟨_, rfl⟩
  have hck : ∀ W : World, Calls Try.prog 28 #[.agg #[.int .u64 0, .int .u64 0, .int .u64 (x0 : Nat), .int .u64 0, .int .u64 (o0 : Nat), .int .u64 (o1 : Nat), .int .u64 0, .int .u64 (x1 : Nat), .int .u64 (x2 : Nat), .int .u64 0, .int .u64 (x3 : Nat), .int .u64 0, .int .u64 0], .agg #[.bool big, .bool true]] W fun e w' => e = .returned (.int .i64 (chk b1 b2 b3 b4 b5 b6')) ∧ Below W.heap.size W w' := fun W => echeck big true 0 0 x0 0 o0 o1 0 x1 x2 0 x3 0 0 b1 b2 b3 b4 b5 b6' h1 h2 h3 h4 h5 h6 W
  have HCK := Lib.hid hck; clear hck
  have hways := ways_all false b2 b3 b4 b5 b6'
  unfold ways at hways
  rcases hways with hh | ⟨_, rfl⟩ | ⟨_, rfl, rfl, rfl⟩ | ⟨_, rfl, rfl, rfl⟩ | ⟨_, rfl, rfl, rfl, rfl⟩ | ⟨_, rfl, rfl, rfl, rfl⟩ | ⟨_, rfl, rfl, rfl, rfl⟩ | ⟨_, rfl, rfl, rfl, rfl, rfl⟩ | ⟨_, rfl, rfl, rfl, rfl, rfl⟩
  · cases hh
  all_goals
    cases b1
    all_goals
      go_wp2_with fail
      refine (HCK.out _).mono ?_
      rintro e w7 ⟨rfl, h7⟩
      go_wp2
      go_ret
      exact ⟨by simp [chk], b6.trans (h7.mono b6.size)⟩
end Go.Proofs.Ytkajgakblcgocaa
