/- Contracts of a header's package, by gen_hdr.py. Conditions: those written in each theorem. -/
import Derived.Laws.CopyOwn
import Derived.Laws.Tables
import Derived.Test.YtedocnidgiglaaaEB
namespace Go.Proofs.Ytedocnidgiglaaa
open Go.RowKit
set_option maxRecDepth 100000 in
set_option maxHeartbeats 2000000 in
theorem eread_yes (big wide : Bool) (s : ByteArray) (w : World) (hs : s.size ≤ 1048576) (hlen : eLen wide ≤ s.size) :
    Calls Try.prog 89 #[.agg #[.bool big, .bool wide], .string s] w fun e w' => e = .returned (.tuple #[.agg #[.int .u64 (numAt big (fullL wide eSizes 13) s.data.toList 0 : Nat), .int .u64 (numAt big (fullL wide eSizes 13) s.data.toList 1 : Nat), .int .u64 (numAt big (fullL wide eSizes 13) s.data.toList 2 : Nat), .int .u64 (numAt big (fullL wide eSizes 13) s.data.toList 3 : Nat), .int .u64 (numAt big (fullL wide eSizes 13) s.data.toList 4 : Nat), .int .u64 (numAt big (fullL wide eSizes 13) s.data.toList 5 : Nat), .int .u64 (numAt big (fullL wide eSizes 13) s.data.toList 6 : Nat), .int .u64 (numAt big (fullL wide eSizes 13) s.data.toList 7 : Nat), .int .u64 (numAt big (fullL wide eSizes 13) s.data.toList 8 : Nat), .int .u64 (numAt big (fullL wide eSizes 13) s.data.toList 9 : Nat), .int .u64 (numAt big (fullL wide eSizes 13) s.data.toList 10 : Nat), .int .u64 (numAt big (fullL wide eSizes 13) s.data.toList 11 : Nat), .int .u64 (numAt big (fullL wide eSizes 13) s.data.toList 12 : Nat)], .bool true]) ∧ Below w.heap.size w w' := by
  go_enter Try.func89, Try.ntmps89
  go_wp2_with fail
  refine (efields _).mono ?_
  rintro e w1 ⟨rfl, h1⟩
  have hW : Below w.heap.size w (w1.alloc (.cells #[.int .i64 2, .int .i64 2, .int .i64 4, .int .i64 0, .int .i64 0, .int .i64 0, .int .i64 4, .int .i64 2, .int .i64 2, .int .i64 2, .int .i64 2, .int .i64 2, .int .i64 2] 179)) := ((((Below.refl _ _).alloc (Nat.le_refl _) _).alloc (by simp) _).trans (h1.mono (by simp; omega))).alloc (by have := h1.size; simp at this ⊢; omega) _
  have F0 : (w1.alloc (.cells #[.int .i64 2, .int .i64 2, .int .i64 4, .int .i64 0, .int .i64 0, .int .i64 0, .int .i64 4, .int .i64 2, .int .i64 2, .int .i64 2, .int .i64 2, .int .i64 2, .int .i64 2] 179)).cell? ⟨w.heap.size, 0, none⟩ = some (.bool big) := by rw [cell_alloc_old (by have := h1.size; simp at this; omega), h1.cell (by simp; omega)]; simp
  have F1 : (w1.alloc (.cells #[.int .i64 2, .int .i64 2, .int .i64 4, .int .i64 0, .int .i64 0, .int .i64 0, .int .i64 4, .int .i64 2, .int .i64 2, .int .i64 2, .int .i64 2, .int .i64 2, .int .i64 2] 179)).cell? ⟨w.heap.size, 1, none⟩ = some (.bool wide) := by rw [cell_alloc_old (by have := h1.size; simp at this; omega), h1.cell (by simp; omega)]; simp
  have hZ : (w1.alloc (.cells #[.int .i64 2, .int .i64 2, .int .i64 4, .int .i64 0, .int .i64 0, .int .i64 0, .int .i64 4, .int .i64 2, .int .i64 2, .int .i64 2, .int .i64 2, .int .i64 2, .int .i64 2] 179)).heap[w.heap.size + 1]? = some (.cells #[.int .u64 0, .int .u64 0, .int .u64 0, .int .u64 0, .int .u64 0, .int .u64 0, .int .u64 0, .int .u64 0, .int .u64 0, .int .u64 0, .int .u64 0, .int .u64 0, .int .u64 0] 38 (0, 0)) := by rw [Below.heap_alloc _ _ _ (by have := h1.size; simp at this; omega), h1.block _ (by simp)]; exact two_new _ _ _
  have hR : (w1.alloc (.cells #[.int .i64 2, .int .i64 2, .int .i64 4, .int .i64 0, .int .i64 0, .int .i64 0, .int .i64 4, .int .i64 2, .int .i64 2, .int .i64 2, .int .i64 2, .int .i64 2, .int .i64 2] 179)).heap[w1.heap.size]? = some (.cells (rowI64 eSizes) 179 (0, 0)) := heap_alloc_new _ _
  have hz1 : w.heap.size + 1 < (w1.alloc (.cells #[.int .i64 2, .int .i64 2, .int .i64 4, .int .i64 0, .int .i64 0, .int .i64 0, .int .i64 4, .int .i64 2, .int .i64 2, .int .i64 2, .int .i64 2, .int .i64 2, .int .i64 2] 179)).heap.size := by have := h1.size; simp at this ⊢; omega
  have hz2 : w1.heap.size < (w1.alloc (.cells #[.int .i64 2, .int .i64 2, .int .i64 4, .int .i64 0, .int .i64 0, .int .i64 0, .int .i64 4, .int .i64 2, .int .i64 2, .int .i64 2, .int .i64 2, .int .i64 2, .int .i64 2] 179)).heap.size := by simp
  clear h1
  go_wp2
  generalize (w1.alloc (.cells #[.int .i64 2, .int .i64 2, .int .i64 4, .int .i64 0, .int .i64 0, .int .i64 0, .int .i64 4, .int .i64 2, .int .i64 2, .int .i64 2, .int .i64 2, .int .i64 2, .int .i64 2] 179)) = W at *
  have HR := Lib.hid hR; clear hR
  have HZ := Lib.hid hZ; clear hZ
  have G0 : ∀ w', Below W.heap.size W w' → w'.cell? ⟨w.heap.size, 0, none⟩ = some (.bool big) := fun w' h => by rw [h.cell (by show w.heap.size < W.heap.size; omega)]; exact F0
  have HG0 := Lib.hid G0; clear G0 F0
  have G1 : ∀ w', Below W.heap.size W w' → w'.cell? ⟨w.heap.size, 1, none⟩ = some (.bool wide) := fun w' h => by rw [h.cell (by show w.heap.size < W.heap.size; omega)]; exact F1
  have HG1 := Lib.hid G1; clear G1 F1
  refine wp_region_held_drew (S := fun w' => Below W.heap.size W w') (by kernel_rfl) ?_ (fun hHeld => ?_)
  · exact (Below.refl _ _).drew
  refine wpAnyH_take (i := 0) (oi := { dst := some 11, op := Go.Op.load 34 (Go.Operand.tmp 2), type := 34, pos := "ehdr.go:42", after := #[], guard := none }) (v := ?_) rfl (by kernel_rfl) (by kernel_rfl) (by kernel_rfl) (fun _ _ _ h => h) (Or.inl ⟨by rfl, ?_⟩) (by assumption) ?_
  rotate_left
  · (intro w hSw; have q0 := HG0.out w hSw; have q1 := HG1.out w hSw; (try dsimp only at hSw); go_simp <;> with_reducible rfl)
  try simp only [Act.put, List.setIfInBounds_toArray, List.set_cons_zero, List.set_cons_succ]
  refine wpAnyH_take (i := 1) (oi := { dst := some 12, op := Go.Op.move (Go.Operand.tmp 1), type := 9, pos := "ehdr.go:42", after := #[], guard := none }) (v := ?_) rfl (by kernel_rfl) (by kernel_rfl) (by kernel_rfl) (fun _ _ _ h => h) (Or.inl ⟨by rfl, ?_⟩) (by assumption) ?_
  rotate_left
  · (intro w hSw; (try dsimp only at hSw); go_simp <;> with_reducible rfl)
  try simp only [Act.put, List.setIfInBounds_toArray, List.set_cons_zero, List.set_cons_succ]
  refine wpAnyH_take (i := 2) (oi := { dst := some 13, op := Go.Op.slice 179 (Go.Operand.tmp 6) none none none, type := 68, pos := "ehdr.go:42", after := #[], guard := none }) (v := ?_) rfl (by kernel_rfl) (by kernel_rfl) (by kernel_rfl) (fun _ _ _ h => h) (Or.inl ⟨by rfl, ?_⟩) (by assumption) ?_
  rotate_left
  · (intro w hSw; (try dsimp only at hSw); go_simp <;> with_reducible rfl)
  try simp only [Act.put, List.setIfInBounds_toArray, List.set_cons_zero, List.set_cons_succ]
  refine wpAnyH_ready (rs := [3]) (by kernel_rfl) (by simp) ?_
  refine AllReadyH.cons (o := { dst := some 14, op := Go.Op.call { callee := Go.Callee.value (Go.Operand.func 125), args := #[Go.Operand.tmp 11, Go.Operand.tmp 12, Go.Operand.tmp 13], argTypes := #[34, 9, 68] }, type := 230, pos := "ehdr.go:42", after := #[{ on := 0, ground := Go.Ground.data }, { on := 1, ground := Go.Ground.data }, { on := 2, ground := Go.Ground.data }], guard := none }) rfl (fun K hK => ?_) AllReadyH.nil
  (first | go_at_call 125 | (go_simp; go_at_call 125))
  (with_reducible refine (recRead_yes big wide (some ⟨w1.heap.size, 0, none⟩) 13 13 eSizes s _ (by decide) hs ((RowI.of_rowT hz2 HR.out).kept hHeld (Nat.le_refl _)) (e_ok wide) (by rw [e_off]; exact hlen)).mono ?_)
  rintro e w3 ⟨b3, hb3, hc3, rfl, hrow3, hg3⟩
  try go_wp2_with fail
  refine hK.out _ _ ?_ (fun hHeld2 => ?_)
  · exact hHeld.trans (hg3.mono hHeld.size)
  clear hK K
  try simp only [Act.put, List.setIfInBounds_toArray, List.set_cons_zero, List.set_cons_succ]
  refine wpAnyH_take (i := 4) (oi := { dst := some 10, op := Go.Op.move (Go.Operand.tmp 14), type := 230, pos := "ehdr.go:42", after := #[{ on := 3, ground := Go.Ground.data }], guard := none }) (v := ?_) rfl (by kernel_rfl) (by kernel_rfl) (by kernel_rfl) (fun _ _ _ h => h) (Or.inl ⟨by rfl, ?_⟩) (by assumption) ?_
  rotate_left
  · (intro w hSw; (try dsimp only at hSw); go_simp <;> with_reducible rfl)
  try simp only [Act.put, List.setIfInBounds_toArray, List.set_cons_zero, List.set_cons_succ]
  refine wpAnyH_take (i := 5) (oi := { dst := some 15, op := Go.Op.extract (Go.Operand.tmp 10) 0, type := 76, pos := "ehdr.go:42", after := #[{ on := 4, ground := Go.Ground.data }], guard := none }) (v := ?_) rfl (by kernel_rfl) (by kernel_rfl) (by kernel_rfl) (fun _ _ _ h => h) (Or.inl ⟨by rfl, ?_⟩) (by assumption) ?_
  rotate_left
  · (intro w hSw; (try dsimp only at hSw); go_simp <;> with_reducible rfl)
  try simp only [Act.put, List.setIfInBounds_toArray, List.set_cons_zero, List.set_cons_succ]
  refine wpAnyH_take (i := 6) (oi := { dst := some 16, op := Go.Op.extract (Go.Operand.tmp 10) 1, type := 4, pos := "ehdr.go:42", after := #[{ on := 4, ground := Go.Ground.data }, { on := 7, ground := Go.Ground.gcOnly Go.Departure.lateStores }], guard := none }) (v := ?_) rfl (by kernel_rfl) (by kernel_rfl) (by kernel_rfl) (fun _ _ _ h => h) (Or.inl ⟨by rfl, ?_⟩) (by assumption) ?_
  rotate_left
  · (intro w hSw; (try dsimp only at hSw); go_simp <;> with_reducible rfl)
  try simp only [Act.put, List.setIfInBounds_toArray, List.set_cons_zero, List.set_cons_succ]
  refine wpAnyH_take (i := 7) (oi := { dst := some 7, op := Go.Op.assign (Go.Operand.tmp 15), type := 76, pos := "ehdr.go:42", after := #[{ on := 5, ground := Go.Ground.data }, { on := 3, ground := Go.Ground.chain }, { on := 0, ground := Go.Ground.phase }, { on := 1, ground := Go.Ground.phase }, { on := 2, ground := Go.Ground.phase }, { on := 3, ground := Go.Ground.phase }, { on := 4, ground := Go.Ground.phase }, { on := 5, ground := Go.Ground.phase }, { on := 6, ground := Go.Ground.textOnly Go.Departure.lateStores }], guard := none }) (v := ?_) rfl (by kernel_rfl) (by kernel_rfl) (by kernel_rfl) (fun _ _ _ h => h) (Or.inl ⟨by rfl, ?_⟩) (by assumption) ?_
  rotate_left
  · (intro w hSw; (try dsimp only at hSw); go_simp <;> with_reducible rfl)
  try simp only [Act.put, List.setIfInBounds_toArray, List.set_cons_zero, List.set_cons_succ]
  refine wpAnyH_take (i := 8) (oi := { dst := some 8, op := Go.Op.assign (Go.Operand.tmp 16), type := 4, pos := "ehdr.go:42", after := #[{ on := 6, ground := Go.Ground.data }, { on := 7, ground := Go.Ground.chain }, { on := 0, ground := Go.Ground.phase }, { on := 1, ground := Go.Ground.phase }, { on := 2, ground := Go.Ground.phase }, { on := 3, ground := Go.Ground.phase }, { on := 4, ground := Go.Ground.phase }, { on := 5, ground := Go.Ground.phase }, { on := 6, ground := Go.Ground.phase }, { on := 7, ground := Go.Ground.phase }], guard := none }) (v := ?_) rfl (by kernel_rfl) (by kernel_rfl) (by kernel_rfl) (fun _ _ _ h => h) (Or.inl ⟨by rfl, ?_⟩) (by assumption) ?_
  rotate_left
  · (intro w hSw; (try dsimp only at hSw); go_simp <;> with_reducible rfl)
  try simp only [Act.put, List.setIfInBounds_toArray, List.set_cons_zero, List.set_cons_succ]
  refine wpAnyH_done (by kernel_rfl) ?_ _
  have hz3 : w3.heap[w.heap.size + 1]? = some (.cells #[.int .u64 0, .int .u64 0, .int .u64 0, .int .u64 0, .int .u64 0, .int .u64 0, .int .u64 0, .int .u64 0, .int .u64 0, .int .u64 0, .int .u64 0, .int .u64 0, .int .u64 0] 38 (0, 0)) := by rw [hHeld2.block _ hz1]; exact HZ.out
  have hb3' : W.heap.size ≤ b3 := hb3
  have HROW := Lib.hid hrow3; clear hrow3
  have hw3 : Below w.heap.size w w3 := hW.trans (hHeld2.mono hW.size)
  clear hb3 hHeld hHeld2 hg3 HG0 HG1 HZ HR
  have HZ3 := Lib.hid hz3; clear hz3
  have C0 : w3.cell? ⟨b3, 0, none⟩ = some (.int .u64 (numAt big (fullL wide eSizes 13) s.data.toList 0 : Nat)) := cell_of_rowU HROW.out 0 (by rw [numsTo_length]; decide)
  have C1 : w3.cell? ⟨b3, 1, none⟩ = some (.int .u64 (numAt big (fullL wide eSizes 13) s.data.toList 1 : Nat)) := cell_of_rowU HROW.out 1 (by rw [numsTo_length]; decide)
  have C2 : w3.cell? ⟨b3, 2, none⟩ = some (.int .u64 (numAt big (fullL wide eSizes 13) s.data.toList 2 : Nat)) := cell_of_rowU HROW.out 2 (by rw [numsTo_length]; decide)
  have C3 : w3.cell? ⟨b3, 3, none⟩ = some (.int .u64 (numAt big (fullL wide eSizes 13) s.data.toList 3 : Nat)) := cell_of_rowU HROW.out 3 (by rw [numsTo_length]; decide)
  have C4 : w3.cell? ⟨b3, 4, none⟩ = some (.int .u64 (numAt big (fullL wide eSizes 13) s.data.toList 4 : Nat)) := cell_of_rowU HROW.out 4 (by rw [numsTo_length]; decide)
  have C5 : w3.cell? ⟨b3, 5, none⟩ = some (.int .u64 (numAt big (fullL wide eSizes 13) s.data.toList 5 : Nat)) := cell_of_rowU HROW.out 5 (by rw [numsTo_length]; decide)
  have C6 : w3.cell? ⟨b3, 6, none⟩ = some (.int .u64 (numAt big (fullL wide eSizes 13) s.data.toList 6 : Nat)) := cell_of_rowU HROW.out 6 (by rw [numsTo_length]; decide)
  have C7 : w3.cell? ⟨b3, 7, none⟩ = some (.int .u64 (numAt big (fullL wide eSizes 13) s.data.toList 7 : Nat)) := cell_of_rowU HROW.out 7 (by rw [numsTo_length]; decide)
  have C8 : w3.cell? ⟨b3, 8, none⟩ = some (.int .u64 (numAt big (fullL wide eSizes 13) s.data.toList 8 : Nat)) := cell_of_rowU HROW.out 8 (by rw [numsTo_length]; decide)
  have C9 : w3.cell? ⟨b3, 9, none⟩ = some (.int .u64 (numAt big (fullL wide eSizes 13) s.data.toList 9 : Nat)) := cell_of_rowU HROW.out 9 (by rw [numsTo_length]; decide)
  have C10 : w3.cell? ⟨b3, 10, none⟩ = some (.int .u64 (numAt big (fullL wide eSizes 13) s.data.toList 10 : Nat)) := cell_of_rowU HROW.out 10 (by rw [numsTo_length]; decide)
  have C11 : w3.cell? ⟨b3, 11, none⟩ = some (.int .u64 (numAt big (fullL wide eSizes 13) s.data.toList 11 : Nat)) := cell_of_rowU HROW.out 11 (by rw [numsTo_length]; decide)
  have C12 : w3.cell? ⟨b3, 12, none⟩ = some (.int .u64 (numAt big (fullL wide eSizes 13) s.data.toList 12 : Nat)) := cell_of_rowU HROW.out 12 (by rw [numsTo_length]; decide)
  generalize hm0 : numAt big (fullL wide eSizes 13) s.data.toList 0 = m0 at *; have HM0 := Lib.hid hm0; clear hm0
  generalize hm1 : numAt big (fullL wide eSizes 13) s.data.toList 1 = m1 at *; have HM1 := Lib.hid hm1; clear hm1
  generalize hm2 : numAt big (fullL wide eSizes 13) s.data.toList 2 = m2 at *; have HM2 := Lib.hid hm2; clear hm2
  generalize hm3 : numAt big (fullL wide eSizes 13) s.data.toList 3 = m3 at *; have HM3 := Lib.hid hm3; clear hm3
  generalize hm4 : numAt big (fullL wide eSizes 13) s.data.toList 4 = m4 at *; have HM4 := Lib.hid hm4; clear hm4
  generalize hm5 : numAt big (fullL wide eSizes 13) s.data.toList 5 = m5 at *; have HM5 := Lib.hid hm5; clear hm5
  generalize hm6 : numAt big (fullL wide eSizes 13) s.data.toList 6 = m6 at *; have HM6 := Lib.hid hm6; clear hm6
  generalize hm7 : numAt big (fullL wide eSizes 13) s.data.toList 7 = m7 at *; have HM7 := Lib.hid hm7; clear hm7
  generalize hm8 : numAt big (fullL wide eSizes 13) s.data.toList 8 = m8 at *; have HM8 := Lib.hid hm8; clear hm8
  generalize hm9 : numAt big (fullL wide eSizes 13) s.data.toList 9 = m9 at *; have HM9 := Lib.hid hm9; clear hm9
  generalize hm10 : numAt big (fullL wide eSizes 13) s.data.toList 10 = m10 at *; have HM10 := Lib.hid hm10; clear hm10
  generalize hm11 : numAt big (fullL wide eSizes 13) s.data.toList 11 = m11 at *; have HM11 := Lib.hid hm11; clear hm11
  generalize hm12 : numAt big (fullL wide eSizes 13) s.data.toList 12 = m12 at *; have HM12 := Lib.hid hm12; clear hm12
  go_wp2
  have G0 : ∀ w' : World, w'.heap[b3]? = w3.heap[b3]? → w'.cell? ⟨b3, 0, none⟩ = some (.int .u64 (m0 : Nat)) := fun w' h => by rw [World.cell?_of_block (w := w3) h]; exact C0
  have HG0 := Lib.hid G0; clear G0 C0
  have G1 : ∀ w' : World, w'.heap[b3]? = w3.heap[b3]? → w'.cell? ⟨b3, 1, none⟩ = some (.int .u64 (m1 : Nat)) := fun w' h => by rw [World.cell?_of_block (w := w3) h]; exact C1
  have HG1 := Lib.hid G1; clear G1 C1
  have G2 : ∀ w' : World, w'.heap[b3]? = w3.heap[b3]? → w'.cell? ⟨b3, 2, none⟩ = some (.int .u64 (m2 : Nat)) := fun w' h => by rw [World.cell?_of_block (w := w3) h]; exact C2
  have HG2 := Lib.hid G2; clear G2 C2
  have G3 : ∀ w' : World, w'.heap[b3]? = w3.heap[b3]? → w'.cell? ⟨b3, 3, none⟩ = some (.int .u64 (m3 : Nat)) := fun w' h => by rw [World.cell?_of_block (w := w3) h]; exact C3
  have HG3 := Lib.hid G3; clear G3 C3
  have G4 : ∀ w' : World, w'.heap[b3]? = w3.heap[b3]? → w'.cell? ⟨b3, 4, none⟩ = some (.int .u64 (m4 : Nat)) := fun w' h => by rw [World.cell?_of_block (w := w3) h]; exact C4
  have HG4 := Lib.hid G4; clear G4 C4
  have G5 : ∀ w' : World, w'.heap[b3]? = w3.heap[b3]? → w'.cell? ⟨b3, 5, none⟩ = some (.int .u64 (m5 : Nat)) := fun w' h => by rw [World.cell?_of_block (w := w3) h]; exact C5
  have HG5 := Lib.hid G5; clear G5 C5
  have G6 : ∀ w' : World, w'.heap[b3]? = w3.heap[b3]? → w'.cell? ⟨b3, 6, none⟩ = some (.int .u64 (m6 : Nat)) := fun w' h => by rw [World.cell?_of_block (w := w3) h]; exact C6
  have HG6 := Lib.hid G6; clear G6 C6
  have G7 : ∀ w' : World, w'.heap[b3]? = w3.heap[b3]? → w'.cell? ⟨b3, 7, none⟩ = some (.int .u64 (m7 : Nat)) := fun w' h => by rw [World.cell?_of_block (w := w3) h]; exact C7
  have HG7 := Lib.hid G7; clear G7 C7
  have G8 : ∀ w' : World, w'.heap[b3]? = w3.heap[b3]? → w'.cell? ⟨b3, 8, none⟩ = some (.int .u64 (m8 : Nat)) := fun w' h => by rw [World.cell?_of_block (w := w3) h]; exact C8
  have HG8 := Lib.hid G8; clear G8 C8
  have G9 : ∀ w' : World, w'.heap[b3]? = w3.heap[b3]? → w'.cell? ⟨b3, 9, none⟩ = some (.int .u64 (m9 : Nat)) := fun w' h => by rw [World.cell?_of_block (w := w3) h]; exact C9
  have HG9 := Lib.hid G9; clear G9 C9
  have G10 : ∀ w' : World, w'.heap[b3]? = w3.heap[b3]? → w'.cell? ⟨b3, 10, none⟩ = some (.int .u64 (m10 : Nat)) := fun w' h => by rw [World.cell?_of_block (w := w3) h]; exact C10
  have HG10 := Lib.hid G10; clear G10 C10
  have G11 : ∀ w' : World, w'.heap[b3]? = w3.heap[b3]? → w'.cell? ⟨b3, 11, none⟩ = some (.int .u64 (m11 : Nat)) := fun w' h => by rw [World.cell?_of_block (w := w3) h]; exact C11
  have HG11 := Lib.hid G11; clear G11 C11
  have G12 : ∀ w' : World, w'.heap[b3]? = w3.heap[b3]? → w'.cell? ⟨b3, 12, none⟩ = some (.int .u64 (m12 : Nat)) := fun w' h => by rw [World.cell?_of_block (w := w3) h]; exact C12
  have HG12 := Lib.hid G12; clear G12 C12
  refine wp_region_held_drew (S := fun w' => w'.heap[b3]? = w3.heap[b3]?) (by kernel_rfl) ?_ (fun hHeldA => ?_)
  · rfl
  refine wpAnyH_take (i := 0) (oi := { dst := some 20, op := Go.Op.move (Go.Operand.tmp 7), type := 76, pos := "ehdr.go:46", after := #[], guard := none }) (v := ?_) rfl (by kernel_rfl) (by kernel_rfl) (by kernel_rfl) (fun _ _ _ h => h) (Or.inl ⟨by rfl, ?_⟩) (by assumption) ?_
  rotate_left
  · (intro w hSw; (try dsimp only at hSw); go_simp <;> with_reducible rfl)
  try simp only [Act.put, List.setIfInBounds_toArray, List.set_cons_zero, List.set_cons_succ]
  refine wpAnyH_take (i := 1) (oi := { dst := some 21, op := Go.Op.indexAddr 76 (Go.Operand.tmp 20) (Go.Operand.const (Go.Value.int Go.IntKind.i64 0)), type := 0, pos := "ehdr.go:46", after := #[{ on := 0, ground := Go.Ground.data }], guard := none }) (v := ?_) rfl (by kernel_rfl) (by kernel_rfl) (by kernel_rfl) (fun _ _ _ h => h) (Or.inl ⟨by rfl, ?_⟩) (by assumption) ?_
  rotate_left
  · (intro w hSw; (try dsimp only at hSw); go_simp <;> with_reducible rfl)
  try simp only [Act.put, List.setIfInBounds_toArray, List.set_cons_zero, List.set_cons_succ]
  refine wpAnyH_take (i := 2) (oi := { dst := some 22, op := Go.Op.load 29 (Go.Operand.tmp 21), type := 29, pos := "ehdr.go:46", after := #[{ on := 1, ground := Go.Ground.data }], guard := none }) (v := ?_) rfl (by kernel_rfl) (by kernel_rfl) (by kernel_rfl) (fun _ _ _ h => h) (Or.inl ⟨by rfl, ?_⟩) (by assumption) ?_
  rotate_left
  · (intro w hSw; have q0 := HG0.out w hSw; (try dsimp only at hSw); go_simp <;> with_reducible rfl)
  try simp only [Act.put, List.setIfInBounds_toArray, List.set_cons_zero, List.set_cons_succ]
  refine wpAnyH_take (i := 3) (oi := { dst := some 23, op := Go.Op.move (Go.Operand.tmp 7), type := 76, pos := "ehdr.go:46", after := #[], guard := none }) (v := ?_) rfl (by kernel_rfl) (by kernel_rfl) (by kernel_rfl) (fun _ _ _ h => h) (Or.inl ⟨by rfl, ?_⟩) (by assumption) ?_
  rotate_left
  · (intro w hSw; (try dsimp only at hSw); go_simp <;> with_reducible rfl)
  try simp only [Act.put, List.setIfInBounds_toArray, List.set_cons_zero, List.set_cons_succ]
  refine wpAnyH_take (i := 4) (oi := { dst := some 24, op := Go.Op.indexAddr 76 (Go.Operand.tmp 23) (Go.Operand.const (Go.Value.int Go.IntKind.i64 1)), type := 0, pos := "ehdr.go:46", after := #[{ on := 3, ground := Go.Ground.data }], guard := none }) (v := ?_) rfl (by kernel_rfl) (by kernel_rfl) (by kernel_rfl) (fun _ _ _ h => h) (Or.inl ⟨by rfl, ?_⟩) (by assumption) ?_
  rotate_left
  · (intro w hSw; (try dsimp only at hSw); go_simp <;> with_reducible rfl)
  try simp only [Act.put, List.setIfInBounds_toArray, List.set_cons_zero, List.set_cons_succ]
  refine wpAnyH_take (i := 5) (oi := { dst := some 25, op := Go.Op.load 29 (Go.Operand.tmp 24), type := 29, pos := "ehdr.go:46", after := #[{ on := 4, ground := Go.Ground.data }], guard := none }) (v := ?_) rfl (by kernel_rfl) (by kernel_rfl) (by kernel_rfl) (fun _ _ _ h => h) (Or.inl ⟨by rfl, ?_⟩) (by assumption) ?_
  rotate_left
  · (intro w hSw; have q0 := HG1.out w hSw; (try dsimp only at hSw); go_simp <;> with_reducible rfl)
  try simp only [Act.put, List.setIfInBounds_toArray, List.set_cons_zero, List.set_cons_succ]
  refine wpAnyH_take (i := 6) (oi := { dst := some 26, op := Go.Op.move (Go.Operand.tmp 7), type := 76, pos := "ehdr.go:46", after := #[], guard := none }) (v := ?_) rfl (by kernel_rfl) (by kernel_rfl) (by kernel_rfl) (fun _ _ _ h => h) (Or.inl ⟨by rfl, ?_⟩) (by assumption) ?_
  rotate_left
  · (intro w hSw; (try dsimp only at hSw); go_simp <;> with_reducible rfl)
  try simp only [Act.put, List.setIfInBounds_toArray, List.set_cons_zero, List.set_cons_succ]
  refine wpAnyH_take (i := 7) (oi := { dst := some 27, op := Go.Op.indexAddr 76 (Go.Operand.tmp 26) (Go.Operand.const (Go.Value.int Go.IntKind.i64 2)), type := 0, pos := "ehdr.go:46", after := #[{ on := 6, ground := Go.Ground.data }], guard := none }) (v := ?_) rfl (by kernel_rfl) (by kernel_rfl) (by kernel_rfl) (fun _ _ _ h => h) (Or.inl ⟨by rfl, ?_⟩) (by assumption) ?_
  rotate_left
  · (intro w hSw; (try dsimp only at hSw); go_simp <;> with_reducible rfl)
  try simp only [Act.put, List.setIfInBounds_toArray, List.set_cons_zero, List.set_cons_succ]
  refine wpAnyH_take (i := 8) (oi := { dst := some 28, op := Go.Op.load 29 (Go.Operand.tmp 27), type := 29, pos := "ehdr.go:46", after := #[{ on := 7, ground := Go.Ground.data }], guard := none }) (v := ?_) rfl (by kernel_rfl) (by kernel_rfl) (by kernel_rfl) (fun _ _ _ h => h) (Or.inl ⟨by rfl, ?_⟩) (by assumption) ?_
  rotate_left
  · (intro w hSw; have q0 := HG2.out w hSw; (try dsimp only at hSw); go_simp <;> with_reducible rfl)
  try simp only [Act.put, List.setIfInBounds_toArray, List.set_cons_zero, List.set_cons_succ]
  refine wpAnyH_take (i := 9) (oi := { dst := some 29, op := Go.Op.move (Go.Operand.tmp 7), type := 76, pos := "ehdr.go:46", after := #[], guard := none }) (v := ?_) rfl (by kernel_rfl) (by kernel_rfl) (by kernel_rfl) (fun _ _ _ h => h) (Or.inl ⟨by rfl, ?_⟩) (by assumption) ?_
  rotate_left
  · (intro w hSw; (try dsimp only at hSw); go_simp <;> with_reducible rfl)
  try simp only [Act.put, List.setIfInBounds_toArray, List.set_cons_zero, List.set_cons_succ]
  refine wpAnyH_take (i := 10) (oi := { dst := some 30, op := Go.Op.indexAddr 76 (Go.Operand.tmp 29) (Go.Operand.const (Go.Value.int Go.IntKind.i64 3)), type := 0, pos := "ehdr.go:46", after := #[{ on := 9, ground := Go.Ground.data }], guard := none }) (v := ?_) rfl (by kernel_rfl) (by kernel_rfl) (by kernel_rfl) (fun _ _ _ h => h) (Or.inl ⟨by rfl, ?_⟩) (by assumption) ?_
  rotate_left
  · (intro w hSw; (try dsimp only at hSw); go_simp <;> with_reducible rfl)
  try simp only [Act.put, List.setIfInBounds_toArray, List.set_cons_zero, List.set_cons_succ]
  refine wpAnyH_take (i := 11) (oi := { dst := some 31, op := Go.Op.load 29 (Go.Operand.tmp 30), type := 29, pos := "ehdr.go:46", after := #[{ on := 10, ground := Go.Ground.data }], guard := none }) (v := ?_) rfl (by kernel_rfl) (by kernel_rfl) (by kernel_rfl) (fun _ _ _ h => h) (Or.inl ⟨by rfl, ?_⟩) (by assumption) ?_
  rotate_left
  · (intro w hSw; have q0 := HG3.out w hSw; (try dsimp only at hSw); go_simp <;> with_reducible rfl)
  try simp only [Act.put, List.setIfInBounds_toArray, List.set_cons_zero, List.set_cons_succ]
  refine wpAnyH_take (i := 12) (oi := { dst := some 32, op := Go.Op.move (Go.Operand.tmp 7), type := 76, pos := "ehdr.go:46", after := #[], guard := none }) (v := ?_) rfl (by kernel_rfl) (by kernel_rfl) (by kernel_rfl) (fun _ _ _ h => h) (Or.inl ⟨by rfl, ?_⟩) (by assumption) ?_
  rotate_left
  · (intro w hSw; (try dsimp only at hSw); go_simp <;> with_reducible rfl)
  try simp only [Act.put, List.setIfInBounds_toArray, List.set_cons_zero, List.set_cons_succ]
  refine wpAnyH_take (i := 13) (oi := { dst := some 33, op := Go.Op.indexAddr 76 (Go.Operand.tmp 32) (Go.Operand.const (Go.Value.int Go.IntKind.i64 4)), type := 0, pos := "ehdr.go:46", after := #[{ on := 12, ground := Go.Ground.data }], guard := none }) (v := ?_) rfl (by kernel_rfl) (by kernel_rfl) (by kernel_rfl) (fun _ _ _ h => h) (Or.inl ⟨by rfl, ?_⟩) (by assumption) ?_
  rotate_left
  · (intro w hSw; (try dsimp only at hSw); go_simp <;> with_reducible rfl)
  try simp only [Act.put, List.setIfInBounds_toArray, List.set_cons_zero, List.set_cons_succ]
  refine wpAnyH_take (i := 14) (oi := { dst := some 34, op := Go.Op.load 29 (Go.Operand.tmp 33), type := 29, pos := "ehdr.go:46", after := #[{ on := 13, ground := Go.Ground.data }], guard := none }) (v := ?_) rfl (by kernel_rfl) (by kernel_rfl) (by kernel_rfl) (fun _ _ _ h => h) (Or.inl ⟨by rfl, ?_⟩) (by assumption) ?_
  rotate_left
  · (intro w hSw; have q0 := HG4.out w hSw; (try dsimp only at hSw); go_simp <;> with_reducible rfl)
  try simp only [Act.put, List.setIfInBounds_toArray, List.set_cons_zero, List.set_cons_succ]
  refine wpAnyH_take (i := 15) (oi := { dst := some 35, op := Go.Op.move (Go.Operand.tmp 7), type := 76, pos := "ehdr.go:46", after := #[], guard := none }) (v := ?_) rfl (by kernel_rfl) (by kernel_rfl) (by kernel_rfl) (fun _ _ _ h => h) (Or.inl ⟨by rfl, ?_⟩) (by assumption) ?_
  rotate_left
  · (intro w hSw; (try dsimp only at hSw); go_simp <;> with_reducible rfl)
  try simp only [Act.put, List.setIfInBounds_toArray, List.set_cons_zero, List.set_cons_succ]
  refine wpAnyH_take (i := 16) (oi := { dst := some 36, op := Go.Op.indexAddr 76 (Go.Operand.tmp 35) (Go.Operand.const (Go.Value.int Go.IntKind.i64 5)), type := 0, pos := "ehdr.go:46", after := #[{ on := 15, ground := Go.Ground.data }], guard := none }) (v := ?_) rfl (by kernel_rfl) (by kernel_rfl) (by kernel_rfl) (fun _ _ _ h => h) (Or.inl ⟨by rfl, ?_⟩) (by assumption) ?_
  rotate_left
  · (intro w hSw; (try dsimp only at hSw); go_simp <;> with_reducible rfl)
  try simp only [Act.put, List.setIfInBounds_toArray, List.set_cons_zero, List.set_cons_succ]
  refine wpAnyH_take (i := 17) (oi := { dst := some 37, op := Go.Op.load 29 (Go.Operand.tmp 36), type := 29, pos := "ehdr.go:46", after := #[{ on := 16, ground := Go.Ground.data }], guard := none }) (v := ?_) rfl (by kernel_rfl) (by kernel_rfl) (by kernel_rfl) (fun _ _ _ h => h) (Or.inl ⟨by rfl, ?_⟩) (by assumption) ?_
  rotate_left
  · (intro w hSw; have q0 := HG5.out w hSw; (try dsimp only at hSw); go_simp <;> with_reducible rfl)
  try simp only [Act.put, List.setIfInBounds_toArray, List.set_cons_zero, List.set_cons_succ]
  refine wpAnyH_take (i := 18) (oi := { dst := some 38, op := Go.Op.move (Go.Operand.tmp 7), type := 76, pos := "ehdr.go:46", after := #[], guard := none }) (v := ?_) rfl (by kernel_rfl) (by kernel_rfl) (by kernel_rfl) (fun _ _ _ h => h) (Or.inl ⟨by rfl, ?_⟩) (by assumption) ?_
  rotate_left
  · (intro w hSw; (try dsimp only at hSw); go_simp <;> with_reducible rfl)
  try simp only [Act.put, List.setIfInBounds_toArray, List.set_cons_zero, List.set_cons_succ]
  refine wpAnyH_take (i := 19) (oi := { dst := some 39, op := Go.Op.indexAddr 76 (Go.Operand.tmp 38) (Go.Operand.const (Go.Value.int Go.IntKind.i64 6)), type := 0, pos := "ehdr.go:46", after := #[{ on := 18, ground := Go.Ground.data }], guard := none }) (v := ?_) rfl (by kernel_rfl) (by kernel_rfl) (by kernel_rfl) (fun _ _ _ h => h) (Or.inl ⟨by rfl, ?_⟩) (by assumption) ?_
  rotate_left
  · (intro w hSw; (try dsimp only at hSw); go_simp <;> with_reducible rfl)
  try simp only [Act.put, List.setIfInBounds_toArray, List.set_cons_zero, List.set_cons_succ]
  refine wpAnyH_take (i := 20) (oi := { dst := some 40, op := Go.Op.load 29 (Go.Operand.tmp 39), type := 29, pos := "ehdr.go:46", after := #[{ on := 19, ground := Go.Ground.data }], guard := none }) (v := ?_) rfl (by kernel_rfl) (by kernel_rfl) (by kernel_rfl) (fun _ _ _ h => h) (Or.inl ⟨by rfl, ?_⟩) (by assumption) ?_
  rotate_left
  · (intro w hSw; have q0 := HG6.out w hSw; (try dsimp only at hSw); go_simp <;> with_reducible rfl)
  try simp only [Act.put, List.setIfInBounds_toArray, List.set_cons_zero, List.set_cons_succ]
  refine wpAnyH_take (i := 21) (oi := { dst := some 41, op := Go.Op.move (Go.Operand.tmp 7), type := 76, pos := "ehdr.go:46", after := #[], guard := none }) (v := ?_) rfl (by kernel_rfl) (by kernel_rfl) (by kernel_rfl) (fun _ _ _ h => h) (Or.inl ⟨by rfl, ?_⟩) (by assumption) ?_
  rotate_left
  · (intro w hSw; (try dsimp only at hSw); go_simp <;> with_reducible rfl)
  try simp only [Act.put, List.setIfInBounds_toArray, List.set_cons_zero, List.set_cons_succ]
  refine wpAnyH_take (i := 22) (oi := { dst := some 42, op := Go.Op.indexAddr 76 (Go.Operand.tmp 41) (Go.Operand.const (Go.Value.int Go.IntKind.i64 7)), type := 0, pos := "ehdr.go:46", after := #[{ on := 21, ground := Go.Ground.data }], guard := none }) (v := ?_) rfl (by kernel_rfl) (by kernel_rfl) (by kernel_rfl) (fun _ _ _ h => h) (Or.inl ⟨by rfl, ?_⟩) (by assumption) ?_
  rotate_left
  · (intro w hSw; (try dsimp only at hSw); go_simp <;> with_reducible rfl)
  try simp only [Act.put, List.setIfInBounds_toArray, List.set_cons_zero, List.set_cons_succ]
  refine wpAnyH_take (i := 23) (oi := { dst := some 43, op := Go.Op.load 29 (Go.Operand.tmp 42), type := 29, pos := "ehdr.go:46", after := #[{ on := 22, ground := Go.Ground.data }], guard := none }) (v := ?_) rfl (by kernel_rfl) (by kernel_rfl) (by kernel_rfl) (fun _ _ _ h => h) (Or.inl ⟨by rfl, ?_⟩) (by assumption) ?_
  rotate_left
  · (intro w hSw; have q0 := HG7.out w hSw; (try dsimp only at hSw); go_simp <;> with_reducible rfl)
  try simp only [Act.put, List.setIfInBounds_toArray, List.set_cons_zero, List.set_cons_succ]
  refine wpAnyH_take (i := 24) (oi := { dst := some 44, op := Go.Op.move (Go.Operand.tmp 7), type := 76, pos := "ehdr.go:46", after := #[], guard := none }) (v := ?_) rfl (by kernel_rfl) (by kernel_rfl) (by kernel_rfl) (fun _ _ _ h => h) (Or.inl ⟨by rfl, ?_⟩) (by assumption) ?_
  rotate_left
  · (intro w hSw; (try dsimp only at hSw); go_simp <;> with_reducible rfl)
  try simp only [Act.put, List.setIfInBounds_toArray, List.set_cons_zero, List.set_cons_succ]
  refine wpAnyH_take (i := 25) (oi := { dst := some 45, op := Go.Op.indexAddr 76 (Go.Operand.tmp 44) (Go.Operand.const (Go.Value.int Go.IntKind.i64 8)), type := 0, pos := "ehdr.go:46", after := #[{ on := 24, ground := Go.Ground.data }], guard := none }) (v := ?_) rfl (by kernel_rfl) (by kernel_rfl) (by kernel_rfl) (fun _ _ _ h => h) (Or.inl ⟨by rfl, ?_⟩) (by assumption) ?_
  rotate_left
  · (intro w hSw; (try dsimp only at hSw); go_simp <;> with_reducible rfl)
  try simp only [Act.put, List.setIfInBounds_toArray, List.set_cons_zero, List.set_cons_succ]
  refine wpAnyH_take (i := 26) (oi := { dst := some 46, op := Go.Op.load 29 (Go.Operand.tmp 45), type := 29, pos := "ehdr.go:46", after := #[{ on := 25, ground := Go.Ground.data }], guard := none }) (v := ?_) rfl (by kernel_rfl) (by kernel_rfl) (by kernel_rfl) (fun _ _ _ h => h) (Or.inl ⟨by rfl, ?_⟩) (by assumption) ?_
  rotate_left
  · (intro w hSw; have q0 := HG8.out w hSw; (try dsimp only at hSw); go_simp <;> with_reducible rfl)
  try simp only [Act.put, List.setIfInBounds_toArray, List.set_cons_zero, List.set_cons_succ]
  refine wpAnyH_take (i := 27) (oi := { dst := some 47, op := Go.Op.move (Go.Operand.tmp 7), type := 76, pos := "ehdr.go:46", after := #[], guard := none }) (v := ?_) rfl (by kernel_rfl) (by kernel_rfl) (by kernel_rfl) (fun _ _ _ h => h) (Or.inl ⟨by rfl, ?_⟩) (by assumption) ?_
  rotate_left
  · (intro w hSw; (try dsimp only at hSw); go_simp <;> with_reducible rfl)
  try simp only [Act.put, List.setIfInBounds_toArray, List.set_cons_zero, List.set_cons_succ]
  refine wpAnyH_take (i := 28) (oi := { dst := some 48, op := Go.Op.indexAddr 76 (Go.Operand.tmp 47) (Go.Operand.const (Go.Value.int Go.IntKind.i64 9)), type := 0, pos := "ehdr.go:46", after := #[{ on := 27, ground := Go.Ground.data }], guard := none }) (v := ?_) rfl (by kernel_rfl) (by kernel_rfl) (by kernel_rfl) (fun _ _ _ h => h) (Or.inl ⟨by rfl, ?_⟩) (by assumption) ?_
  rotate_left
  · (intro w hSw; (try dsimp only at hSw); go_simp <;> with_reducible rfl)
  try simp only [Act.put, List.setIfInBounds_toArray, List.set_cons_zero, List.set_cons_succ]
  refine wpAnyH_take (i := 29) (oi := { dst := some 49, op := Go.Op.load 29 (Go.Operand.tmp 48), type := 29, pos := "ehdr.go:46", after := #[{ on := 28, ground := Go.Ground.data }], guard := none }) (v := ?_) rfl (by kernel_rfl) (by kernel_rfl) (by kernel_rfl) (fun _ _ _ h => h) (Or.inl ⟨by rfl, ?_⟩) (by assumption) ?_
  rotate_left
  · (intro w hSw; have q0 := HG9.out w hSw; (try dsimp only at hSw); go_simp <;> with_reducible rfl)
  try simp only [Act.put, List.setIfInBounds_toArray, List.set_cons_zero, List.set_cons_succ]
  refine wpAnyH_take (i := 30) (oi := { dst := some 50, op := Go.Op.move (Go.Operand.tmp 7), type := 76, pos := "ehdr.go:46", after := #[], guard := none }) (v := ?_) rfl (by kernel_rfl) (by kernel_rfl) (by kernel_rfl) (fun _ _ _ h => h) (Or.inl ⟨by rfl, ?_⟩) (by assumption) ?_
  rotate_left
  · (intro w hSw; (try dsimp only at hSw); go_simp <;> with_reducible rfl)
  try simp only [Act.put, List.setIfInBounds_toArray, List.set_cons_zero, List.set_cons_succ]
  refine wpAnyH_take (i := 31) (oi := { dst := some 51, op := Go.Op.indexAddr 76 (Go.Operand.tmp 50) (Go.Operand.const (Go.Value.int Go.IntKind.i64 10)), type := 0, pos := "ehdr.go:46", after := #[{ on := 30, ground := Go.Ground.data }], guard := none }) (v := ?_) rfl (by kernel_rfl) (by kernel_rfl) (by kernel_rfl) (fun _ _ _ h => h) (Or.inl ⟨by rfl, ?_⟩) (by assumption) ?_
  rotate_left
  · (intro w hSw; (try dsimp only at hSw); go_simp <;> with_reducible rfl)
  try simp only [Act.put, List.setIfInBounds_toArray, List.set_cons_zero, List.set_cons_succ]
  refine wpAnyH_take (i := 32) (oi := { dst := some 52, op := Go.Op.load 29 (Go.Operand.tmp 51), type := 29, pos := "ehdr.go:46", after := #[{ on := 31, ground := Go.Ground.data }], guard := none }) (v := ?_) rfl (by kernel_rfl) (by kernel_rfl) (by kernel_rfl) (fun _ _ _ h => h) (Or.inl ⟨by rfl, ?_⟩) (by assumption) ?_
  rotate_left
  · (intro w hSw; have q0 := HG10.out w hSw; (try dsimp only at hSw); go_simp <;> with_reducible rfl)
  try simp only [Act.put, List.setIfInBounds_toArray, List.set_cons_zero, List.set_cons_succ]
  refine wpAnyH_take (i := 33) (oi := { dst := some 53, op := Go.Op.move (Go.Operand.tmp 7), type := 76, pos := "ehdr.go:46", after := #[], guard := none }) (v := ?_) rfl (by kernel_rfl) (by kernel_rfl) (by kernel_rfl) (fun _ _ _ h => h) (Or.inl ⟨by rfl, ?_⟩) (by assumption) ?_
  rotate_left
  · (intro w hSw; (try dsimp only at hSw); go_simp <;> with_reducible rfl)
  try simp only [Act.put, List.setIfInBounds_toArray, List.set_cons_zero, List.set_cons_succ]
  refine wpAnyH_take (i := 34) (oi := { dst := some 54, op := Go.Op.indexAddr 76 (Go.Operand.tmp 53) (Go.Operand.const (Go.Value.int Go.IntKind.i64 11)), type := 0, pos := "ehdr.go:46", after := #[{ on := 33, ground := Go.Ground.data }], guard := none }) (v := ?_) rfl (by kernel_rfl) (by kernel_rfl) (by kernel_rfl) (fun _ _ _ h => h) (Or.inl ⟨by rfl, ?_⟩) (by assumption) ?_
  rotate_left
  · (intro w hSw; (try dsimp only at hSw); go_simp <;> with_reducible rfl)
  try simp only [Act.put, List.setIfInBounds_toArray, List.set_cons_zero, List.set_cons_succ]
  refine wpAnyH_take (i := 35) (oi := { dst := some 55, op := Go.Op.load 29 (Go.Operand.tmp 54), type := 29, pos := "ehdr.go:46", after := #[{ on := 34, ground := Go.Ground.data }], guard := none }) (v := ?_) rfl (by kernel_rfl) (by kernel_rfl) (by kernel_rfl) (fun _ _ _ h => h) (Or.inl ⟨by rfl, ?_⟩) (by assumption) ?_
  rotate_left
  · (intro w hSw; have q0 := HG11.out w hSw; (try dsimp only at hSw); go_simp <;> with_reducible rfl)
  try simp only [Act.put, List.setIfInBounds_toArray, List.set_cons_zero, List.set_cons_succ]
  refine wpAnyH_take (i := 36) (oi := { dst := some 56, op := Go.Op.move (Go.Operand.tmp 7), type := 76, pos := "ehdr.go:46", after := #[], guard := none }) (v := ?_) rfl (by kernel_rfl) (by kernel_rfl) (by kernel_rfl) (fun _ _ _ h => h) (Or.inl ⟨by rfl, ?_⟩) (by assumption) ?_
  rotate_left
  · (intro w hSw; (try dsimp only at hSw); go_simp <;> with_reducible rfl)
  try simp only [Act.put, List.setIfInBounds_toArray, List.set_cons_zero, List.set_cons_succ]
  refine wpAnyH_take (i := 37) (oi := { dst := some 57, op := Go.Op.indexAddr 76 (Go.Operand.tmp 56) (Go.Operand.const (Go.Value.int Go.IntKind.i64 12)), type := 0, pos := "ehdr.go:46", after := #[{ on := 36, ground := Go.Ground.data }], guard := none }) (v := ?_) rfl (by kernel_rfl) (by kernel_rfl) (by kernel_rfl) (fun _ _ _ h => h) (Or.inl ⟨by rfl, ?_⟩) (by assumption) ?_
  rotate_left
  · (intro w hSw; (try dsimp only at hSw); go_simp <;> with_reducible rfl)
  try simp only [Act.put, List.setIfInBounds_toArray, List.set_cons_zero, List.set_cons_succ]
  refine wpAnyH_take (i := 38) (oi := { dst := some 58, op := Go.Op.load 29 (Go.Operand.tmp 57), type := 29, pos := "ehdr.go:46", after := #[{ on := 37, ground := Go.Ground.data }], guard := none }) (v := ?_) rfl (by kernel_rfl) (by kernel_rfl) (by kernel_rfl) (fun _ _ _ h => h) (Or.inl ⟨by rfl, ?_⟩) (by assumption) ?_
  rotate_left
  · (intro w hSw; have q0 := HG12.out w hSw; (try dsimp only at hSw); go_simp <;> with_reducible rfl)
  try simp only [Act.put, List.setIfInBounds_toArray, List.set_cons_zero, List.set_cons_succ]
  refine wpAnyH_take (i := 39) (oi := { dst := some 59, op := Go.Op.build 38 #[(0, Go.Operand.tmp 22), (1, Go.Operand.tmp 25), (2, Go.Operand.tmp 28), (3, Go.Operand.tmp 31), (4, Go.Operand.tmp 34), (5, Go.Operand.tmp 37), (6, Go.Operand.tmp 40), (7, Go.Operand.tmp 43), (8, Go.Operand.tmp 46), (9, Go.Operand.tmp 49), (10, Go.Operand.tmp 52), (11, Go.Operand.tmp 55), (12, Go.Operand.tmp 58)], type := 38, pos := "ehdr.go:46", after := #[{ on := 2, ground := Go.Ground.data }, { on := 5, ground := Go.Ground.data }, { on := 8, ground := Go.Ground.data }, { on := 11, ground := Go.Ground.data }, { on := 14, ground := Go.Ground.data }, { on := 17, ground := Go.Ground.data }, { on := 20, ground := Go.Ground.data }, { on := 23, ground := Go.Ground.data }, { on := 26, ground := Go.Ground.data }, { on := 29, ground := Go.Ground.data }, { on := 32, ground := Go.Ground.data }, { on := 35, ground := Go.Ground.data }, { on := 38, ground := Go.Ground.data }], guard := none }) (v := ?_) rfl (by kernel_rfl) (by kernel_rfl) (by kernel_rfl) (fun _ _ _ h => h) (Or.inl ⟨by rfl, ?_⟩) (by assumption) ?_
  rotate_left
  · (intro w hSw; (try dsimp only at hSw); go_simp <;> with_reducible rfl)
  try simp only [Act.put, List.setIfInBounds_toArray, List.set_cons_zero, List.set_cons_succ]
  refine wpAnyH_ready (rs := [40]) (by kernel_rfl) (by simp) ?_
  refine AllReadyH.cons (o := { dst := none, op := Go.Op.store 38 (Go.Operand.tmp 4) (Go.Operand.tmp 59), type := 0, pos := "ehdr.go:46", after := #[{ on := 39, ground := Go.Ground.data }, { on := 0, ground := Go.Ground.phase }, { on := 1, ground := Go.Ground.phase }, { on := 2, ground := Go.Ground.phase }, { on := 3, ground := Go.Ground.phase }, { on := 4, ground := Go.Ground.phase }, { on := 5, ground := Go.Ground.phase }, { on := 6, ground := Go.Ground.phase }, { on := 7, ground := Go.Ground.phase }, { on := 8, ground := Go.Ground.phase }, { on := 9, ground := Go.Ground.phase }, { on := 10, ground := Go.Ground.phase }, { on := 11, ground := Go.Ground.phase }, { on := 12, ground := Go.Ground.phase }, { on := 13, ground := Go.Ground.phase }, { on := 14, ground := Go.Ground.phase }, { on := 15, ground := Go.Ground.phase }, { on := 16, ground := Go.Ground.phase }, { on := 17, ground := Go.Ground.phase }, { on := 18, ground := Go.Ground.phase }, { on := 19, ground := Go.Ground.phase }, { on := 20, ground := Go.Ground.phase }, { on := 21, ground := Go.Ground.phase }, { on := 22, ground := Go.Ground.phase }, { on := 23, ground := Go.Ground.phase }, { on := 24, ground := Go.Ground.phase }, { on := 25, ground := Go.Ground.phase }, { on := 26, ground := Go.Ground.phase }, { on := 27, ground := Go.Ground.phase }, { on := 28, ground := Go.Ground.phase }, { on := 29, ground := Go.Ground.phase }, { on := 30, ground := Go.Ground.phase }, { on := 31, ground := Go.Ground.phase }, { on := 32, ground := Go.Ground.phase }, { on := 33, ground := Go.Ground.phase }, { on := 34, ground := Go.Ground.phase }, { on := 35, ground := Go.Ground.phase }, { on := 36, ground := Go.Ground.phase }, { on := 37, ground := Go.Ground.phase }, { on := 38, ground := Go.Ground.phase }, { on := 39, ground := Go.Ground.phase }], guard := none }) rfl (fun K hK => ?_) AllReadyH.nil
  refine wp_store_row 38 _ _ rfl (w.heap.size + 1) #[.int .u64 (m0 : Nat), .int .u64 (m1 : Nat), .int .u64 (m2 : Nat), .int .u64 (m3 : Nat), .int .u64 (m4 : Nat), .int .u64 (m5 : Nat), .int .u64 (m6 : Nat), .int .u64 (m7 : Nat), .int .u64 (m8 : Nat), .int .u64 (m9 : Nat), .int .u64 (m10 : Nat), .int .u64 (m11 : Nat), .int .u64 (m12 : Nat)] (by rfl) (by rfl) 38 #[.int .u64 0, .int .u64 0, .int .u64 0, .int .u64 0, .int .u64 0, .int .u64 0, .int .u64 0, .int .u64 0, .int .u64 0, .int .u64 0, .int .u64 0, .int .u64 0, .int .u64 0] HZ3.out (by kernel_rfl) rfl (by simp [Value.oneCell']) ?_
  refine hK.out _ _ ?_ (fun hHeldB => ?_)
  · exact setRow_other _ _ _ _ (by omega)
  clear hK K
  try simp only [Act.put]
  refine wpAnyH_take (i := 41) (oi := { dst := some 5, op := Go.Op.assign (Go.Operand.const (Go.Value.bool true)), type := 4, pos := "ehdr.go:46", after := #[{ on := 40, ground := Go.Ground.chain }, { on := 0, ground := Go.Ground.phase }, { on := 1, ground := Go.Ground.phase }, { on := 2, ground := Go.Ground.phase }, { on := 3, ground := Go.Ground.phase }, { on := 4, ground := Go.Ground.phase }, { on := 5, ground := Go.Ground.phase }, { on := 6, ground := Go.Ground.phase }, { on := 7, ground := Go.Ground.phase }, { on := 8, ground := Go.Ground.phase }, { on := 9, ground := Go.Ground.phase }, { on := 10, ground := Go.Ground.phase }, { on := 11, ground := Go.Ground.phase }, { on := 12, ground := Go.Ground.phase }, { on := 13, ground := Go.Ground.phase }, { on := 14, ground := Go.Ground.phase }, { on := 15, ground := Go.Ground.phase }, { on := 16, ground := Go.Ground.phase }, { on := 17, ground := Go.Ground.phase }, { on := 18, ground := Go.Ground.phase }, { on := 19, ground := Go.Ground.phase }, { on := 20, ground := Go.Ground.phase }, { on := 21, ground := Go.Ground.phase }, { on := 22, ground := Go.Ground.phase }, { on := 23, ground := Go.Ground.phase }, { on := 24, ground := Go.Ground.phase }, { on := 25, ground := Go.Ground.phase }, { on := 26, ground := Go.Ground.phase }, { on := 27, ground := Go.Ground.phase }, { on := 28, ground := Go.Ground.phase }, { on := 29, ground := Go.Ground.phase }, { on := 30, ground := Go.Ground.phase }, { on := 31, ground := Go.Ground.phase }, { on := 32, ground := Go.Ground.phase }, { on := 33, ground := Go.Ground.phase }, { on := 34, ground := Go.Ground.phase }, { on := 35, ground := Go.Ground.phase }, { on := 36, ground := Go.Ground.phase }, { on := 37, ground := Go.Ground.phase }, { on := 38, ground := Go.Ground.phase }, { on := 39, ground := Go.Ground.phase }, { on := 40, ground := Go.Ground.phase }], guard := none }) (v := ?_) rfl (by kernel_rfl) (by kernel_rfl) (by kernel_rfl) (fun _ _ _ h => h) (Or.inl ⟨by rfl, ?_⟩) (by assumption) ?_
  rotate_left
  · (intro w hSw; (try dsimp only at hSw); go_simp <;> with_reducible rfl)
  try simp only [Act.put, List.setIfInBounds_toArray, List.set_cons_zero, List.set_cons_succ]
  refine wpAnyH_done (by kernel_rfl) ?_ _
  have hW5 : Below w.heap.size w (w3.drew.setRow (w.heap.size + 1) #[.int .u64 (m0 : Nat), .int .u64 (m1 : Nat), .int .u64 (m2 : Nat), .int .u64 (m3 : Nat), .int .u64 (m4 : Nat), .int .u64 (m5 : Nat), .int .u64 (m6 : Nat), .int .u64 (m7 : Nat), .int .u64 (m8 : Nat), .int .u64 (m9 : Nat), .int .u64 (m10 : Nat), .int .u64 (m11 : Nat), .int .u64 (m12 : Nat)]) := below_setRow hw3.drew (by omega) _
  have D0 : (w3.drew.setRow (w.heap.size + 1) #[.int .u64 (m0 : Nat), .int .u64 (m1 : Nat), .int .u64 (m2 : Nat), .int .u64 (m3 : Nat), .int .u64 (m4 : Nat), .int .u64 (m5 : Nat), .int .u64 (m6 : Nat), .int .u64 (m7 : Nat), .int .u64 (m8 : Nat), .int .u64 (m9 : Nat), .int .u64 (m10 : Nat), .int .u64 (m11 : Nat), .int .u64 (m12 : Nat)]).cell? ⟨w.heap.size + 1, 0, none⟩ = some (.int .u64 (m0 : Nat)) := by rw [cell_setRow_same w3.drew _ 0 #[.int .u64 0, .int .u64 0, .int .u64 0, .int .u64 0, .int .u64 0, .int .u64 0, .int .u64 0, .int .u64 0, .int .u64 0, .int .u64 0, .int .u64 0, .int .u64 0, .int .u64 0] _ 38 (0, 0) HZ3.out]; rfl
  have D1 : (w3.drew.setRow (w.heap.size + 1) #[.int .u64 (m0 : Nat), .int .u64 (m1 : Nat), .int .u64 (m2 : Nat), .int .u64 (m3 : Nat), .int .u64 (m4 : Nat), .int .u64 (m5 : Nat), .int .u64 (m6 : Nat), .int .u64 (m7 : Nat), .int .u64 (m8 : Nat), .int .u64 (m9 : Nat), .int .u64 (m10 : Nat), .int .u64 (m11 : Nat), .int .u64 (m12 : Nat)]).cell? ⟨w.heap.size + 1, 1, none⟩ = some (.int .u64 (m1 : Nat)) := by rw [cell_setRow_same w3.drew _ 1 #[.int .u64 0, .int .u64 0, .int .u64 0, .int .u64 0, .int .u64 0, .int .u64 0, .int .u64 0, .int .u64 0, .int .u64 0, .int .u64 0, .int .u64 0, .int .u64 0, .int .u64 0] _ 38 (0, 0) HZ3.out]; rfl
  have D2 : (w3.drew.setRow (w.heap.size + 1) #[.int .u64 (m0 : Nat), .int .u64 (m1 : Nat), .int .u64 (m2 : Nat), .int .u64 (m3 : Nat), .int .u64 (m4 : Nat), .int .u64 (m5 : Nat), .int .u64 (m6 : Nat), .int .u64 (m7 : Nat), .int .u64 (m8 : Nat), .int .u64 (m9 : Nat), .int .u64 (m10 : Nat), .int .u64 (m11 : Nat), .int .u64 (m12 : Nat)]).cell? ⟨w.heap.size + 1, 2, none⟩ = some (.int .u64 (m2 : Nat)) := by rw [cell_setRow_same w3.drew _ 2 #[.int .u64 0, .int .u64 0, .int .u64 0, .int .u64 0, .int .u64 0, .int .u64 0, .int .u64 0, .int .u64 0, .int .u64 0, .int .u64 0, .int .u64 0, .int .u64 0, .int .u64 0] _ 38 (0, 0) HZ3.out]; rfl
  have D3 : (w3.drew.setRow (w.heap.size + 1) #[.int .u64 (m0 : Nat), .int .u64 (m1 : Nat), .int .u64 (m2 : Nat), .int .u64 (m3 : Nat), .int .u64 (m4 : Nat), .int .u64 (m5 : Nat), .int .u64 (m6 : Nat), .int .u64 (m7 : Nat), .int .u64 (m8 : Nat), .int .u64 (m9 : Nat), .int .u64 (m10 : Nat), .int .u64 (m11 : Nat), .int .u64 (m12 : Nat)]).cell? ⟨w.heap.size + 1, 3, none⟩ = some (.int .u64 (m3 : Nat)) := by rw [cell_setRow_same w3.drew _ 3 #[.int .u64 0, .int .u64 0, .int .u64 0, .int .u64 0, .int .u64 0, .int .u64 0, .int .u64 0, .int .u64 0, .int .u64 0, .int .u64 0, .int .u64 0, .int .u64 0, .int .u64 0] _ 38 (0, 0) HZ3.out]; rfl
  have D4 : (w3.drew.setRow (w.heap.size + 1) #[.int .u64 (m0 : Nat), .int .u64 (m1 : Nat), .int .u64 (m2 : Nat), .int .u64 (m3 : Nat), .int .u64 (m4 : Nat), .int .u64 (m5 : Nat), .int .u64 (m6 : Nat), .int .u64 (m7 : Nat), .int .u64 (m8 : Nat), .int .u64 (m9 : Nat), .int .u64 (m10 : Nat), .int .u64 (m11 : Nat), .int .u64 (m12 : Nat)]).cell? ⟨w.heap.size + 1, 4, none⟩ = some (.int .u64 (m4 : Nat)) := by rw [cell_setRow_same w3.drew _ 4 #[.int .u64 0, .int .u64 0, .int .u64 0, .int .u64 0, .int .u64 0, .int .u64 0, .int .u64 0, .int .u64 0, .int .u64 0, .int .u64 0, .int .u64 0, .int .u64 0, .int .u64 0] _ 38 (0, 0) HZ3.out]; rfl
  have D5 : (w3.drew.setRow (w.heap.size + 1) #[.int .u64 (m0 : Nat), .int .u64 (m1 : Nat), .int .u64 (m2 : Nat), .int .u64 (m3 : Nat), .int .u64 (m4 : Nat), .int .u64 (m5 : Nat), .int .u64 (m6 : Nat), .int .u64 (m7 : Nat), .int .u64 (m8 : Nat), .int .u64 (m9 : Nat), .int .u64 (m10 : Nat), .int .u64 (m11 : Nat), .int .u64 (m12 : Nat)]).cell? ⟨w.heap.size + 1, 5, none⟩ = some (.int .u64 (m5 : Nat)) := by rw [cell_setRow_same w3.drew _ 5 #[.int .u64 0, .int .u64 0, .int .u64 0, .int .u64 0, .int .u64 0, .int .u64 0, .int .u64 0, .int .u64 0, .int .u64 0, .int .u64 0, .int .u64 0, .int .u64 0, .int .u64 0] _ 38 (0, 0) HZ3.out]; rfl
  have D6 : (w3.drew.setRow (w.heap.size + 1) #[.int .u64 (m0 : Nat), .int .u64 (m1 : Nat), .int .u64 (m2 : Nat), .int .u64 (m3 : Nat), .int .u64 (m4 : Nat), .int .u64 (m5 : Nat), .int .u64 (m6 : Nat), .int .u64 (m7 : Nat), .int .u64 (m8 : Nat), .int .u64 (m9 : Nat), .int .u64 (m10 : Nat), .int .u64 (m11 : Nat), .int .u64 (m12 : Nat)]).cell? ⟨w.heap.size + 1, 6, none⟩ = some (.int .u64 (m6 : Nat)) := by rw [cell_setRow_same w3.drew _ 6 #[.int .u64 0, .int .u64 0, .int .u64 0, .int .u64 0, .int .u64 0, .int .u64 0, .int .u64 0, .int .u64 0, .int .u64 0, .int .u64 0, .int .u64 0, .int .u64 0, .int .u64 0] _ 38 (0, 0) HZ3.out]; rfl
  have D7 : (w3.drew.setRow (w.heap.size + 1) #[.int .u64 (m0 : Nat), .int .u64 (m1 : Nat), .int .u64 (m2 : Nat), .int .u64 (m3 : Nat), .int .u64 (m4 : Nat), .int .u64 (m5 : Nat), .int .u64 (m6 : Nat), .int .u64 (m7 : Nat), .int .u64 (m8 : Nat), .int .u64 (m9 : Nat), .int .u64 (m10 : Nat), .int .u64 (m11 : Nat), .int .u64 (m12 : Nat)]).cell? ⟨w.heap.size + 1, 7, none⟩ = some (.int .u64 (m7 : Nat)) := by rw [cell_setRow_same w3.drew _ 7 #[.int .u64 0, .int .u64 0, .int .u64 0, .int .u64 0, .int .u64 0, .int .u64 0, .int .u64 0, .int .u64 0, .int .u64 0, .int .u64 0, .int .u64 0, .int .u64 0, .int .u64 0] _ 38 (0, 0) HZ3.out]; rfl
  have D8 : (w3.drew.setRow (w.heap.size + 1) #[.int .u64 (m0 : Nat), .int .u64 (m1 : Nat), .int .u64 (m2 : Nat), .int .u64 (m3 : Nat), .int .u64 (m4 : Nat), .int .u64 (m5 : Nat), .int .u64 (m6 : Nat), .int .u64 (m7 : Nat), .int .u64 (m8 : Nat), .int .u64 (m9 : Nat), .int .u64 (m10 : Nat), .int .u64 (m11 : Nat), .int .u64 (m12 : Nat)]).cell? ⟨w.heap.size + 1, 8, none⟩ = some (.int .u64 (m8 : Nat)) := by rw [cell_setRow_same w3.drew _ 8 #[.int .u64 0, .int .u64 0, .int .u64 0, .int .u64 0, .int .u64 0, .int .u64 0, .int .u64 0, .int .u64 0, .int .u64 0, .int .u64 0, .int .u64 0, .int .u64 0, .int .u64 0] _ 38 (0, 0) HZ3.out]; rfl
  have D9 : (w3.drew.setRow (w.heap.size + 1) #[.int .u64 (m0 : Nat), .int .u64 (m1 : Nat), .int .u64 (m2 : Nat), .int .u64 (m3 : Nat), .int .u64 (m4 : Nat), .int .u64 (m5 : Nat), .int .u64 (m6 : Nat), .int .u64 (m7 : Nat), .int .u64 (m8 : Nat), .int .u64 (m9 : Nat), .int .u64 (m10 : Nat), .int .u64 (m11 : Nat), .int .u64 (m12 : Nat)]).cell? ⟨w.heap.size + 1, 9, none⟩ = some (.int .u64 (m9 : Nat)) := by rw [cell_setRow_same w3.drew _ 9 #[.int .u64 0, .int .u64 0, .int .u64 0, .int .u64 0, .int .u64 0, .int .u64 0, .int .u64 0, .int .u64 0, .int .u64 0, .int .u64 0, .int .u64 0, .int .u64 0, .int .u64 0] _ 38 (0, 0) HZ3.out]; rfl
  have D10 : (w3.drew.setRow (w.heap.size + 1) #[.int .u64 (m0 : Nat), .int .u64 (m1 : Nat), .int .u64 (m2 : Nat), .int .u64 (m3 : Nat), .int .u64 (m4 : Nat), .int .u64 (m5 : Nat), .int .u64 (m6 : Nat), .int .u64 (m7 : Nat), .int .u64 (m8 : Nat), .int .u64 (m9 : Nat), .int .u64 (m10 : Nat), .int .u64 (m11 : Nat), .int .u64 (m12 : Nat)]).cell? ⟨w.heap.size + 1, 10, none⟩ = some (.int .u64 (m10 : Nat)) := by rw [cell_setRow_same w3.drew _ 10 #[.int .u64 0, .int .u64 0, .int .u64 0, .int .u64 0, .int .u64 0, .int .u64 0, .int .u64 0, .int .u64 0, .int .u64 0, .int .u64 0, .int .u64 0, .int .u64 0, .int .u64 0] _ 38 (0, 0) HZ3.out]; rfl
  have D11 : (w3.drew.setRow (w.heap.size + 1) #[.int .u64 (m0 : Nat), .int .u64 (m1 : Nat), .int .u64 (m2 : Nat), .int .u64 (m3 : Nat), .int .u64 (m4 : Nat), .int .u64 (m5 : Nat), .int .u64 (m6 : Nat), .int .u64 (m7 : Nat), .int .u64 (m8 : Nat), .int .u64 (m9 : Nat), .int .u64 (m10 : Nat), .int .u64 (m11 : Nat), .int .u64 (m12 : Nat)]).cell? ⟨w.heap.size + 1, 11, none⟩ = some (.int .u64 (m11 : Nat)) := by rw [cell_setRow_same w3.drew _ 11 #[.int .u64 0, .int .u64 0, .int .u64 0, .int .u64 0, .int .u64 0, .int .u64 0, .int .u64 0, .int .u64 0, .int .u64 0, .int .u64 0, .int .u64 0, .int .u64 0, .int .u64 0] _ 38 (0, 0) HZ3.out]; rfl
  have D12 : (w3.drew.setRow (w.heap.size + 1) #[.int .u64 (m0 : Nat), .int .u64 (m1 : Nat), .int .u64 (m2 : Nat), .int .u64 (m3 : Nat), .int .u64 (m4 : Nat), .int .u64 (m5 : Nat), .int .u64 (m6 : Nat), .int .u64 (m7 : Nat), .int .u64 (m8 : Nat), .int .u64 (m9 : Nat), .int .u64 (m10 : Nat), .int .u64 (m11 : Nat), .int .u64 (m12 : Nat)]).cell? ⟨w.heap.size + 1, 12, none⟩ = some (.int .u64 (m12 : Nat)) := by rw [cell_setRow_same w3.drew _ 12 #[.int .u64 0, .int .u64 0, .int .u64 0, .int .u64 0, .int .u64 0, .int .u64 0, .int .u64 0, .int .u64 0, .int .u64 0, .int .u64 0, .int .u64 0, .int .u64 0, .int .u64 0] _ 38 (0, 0) HZ3.out]; rfl
  generalize (w3.drew.setRow (w.heap.size + 1) #[.int .u64 (m0 : Nat), .int .u64 (m1 : Nat), .int .u64 (m2 : Nat), .int .u64 (m3 : Nat), .int .u64 (m4 : Nat), .int .u64 (m5 : Nat), .int .u64 (m6 : Nat), .int .u64 (m7 : Nat), .int .u64 (m8 : Nat), .int .u64 (m9 : Nat), .int .u64 (m10 : Nat), .int .u64 (m11 : Nat), .int .u64 (m12 : Nat)]) = W5 at *
  go_wp2
  exact bodyPost_ret (v := .tuple #[.agg #[.int .u64 (m0 : Nat), .int .u64 (m1 : Nat), .int .u64 (m2 : Nat), .int .u64 (m3 : Nat), .int .u64 (m4 : Nat), .int .u64 (m5 : Nat), .int .u64 (m6 : Nat), .int .u64 (m7 : Nat), .int .u64 (m8 : Nat), .int .u64 (m9 : Nat), .int .u64 (m10 : Nat), .int .u64 (m11 : Nat), .int .u64 (m12 : Nat)], .bool true]) (by simp [results, Try.results89, go_sem, D0, D1, D2, D3, D4, D5, D6, D7, D8, D9, D10, D11, D12]) rfl ⟨by rw [HM0.out, HM1.out, HM2.out, HM3.out, HM4.out, HM5.out, HM6.out, HM7.out, HM8.out, HM9.out, HM10.out, HM11.out, HM12.out], hW5⟩
end Go.Proofs.Ytedocnidgiglaaa
