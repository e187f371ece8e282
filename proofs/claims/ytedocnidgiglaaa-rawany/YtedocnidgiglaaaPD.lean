/- Contracts of a header's package, by gen_hdr.py. Conditions: those written in each theorem. -/
import Derived.Laws.CopyOwn
import Derived.Laws.Tables
import Derived.Test.YtedocnidgiglaaaPA
namespace Go.Proofs.Ytedocnidgiglaaa
open Go.RowKit
set_option maxRecDepth 100000 in
set_option maxHeartbeats 2000000 in
theorem ptread_yes (big : Bool) (s : ByteArray) (w : World) (hs : s.size ≤ 1048576) (hlen : 56 ≤ s.size) :
    Calls Try.prog 95 #[.agg #[.bool big, .bool true], .string s] w fun e w' => e = .returned (.tuple #[.agg #[.int .u64 (numAt big (fullL true ptSizes 8) s.data.toList 0 : Nat), .int .u64 (numAt big (fullL true ptSizes 8) s.data.toList 1 : Nat), .int .u64 (numAt big (fullL true ptSizes 8) s.data.toList 2 : Nat), .int .u64 (numAt big (fullL true ptSizes 8) s.data.toList 3 : Nat), .int .u64 (numAt big (fullL true ptSizes 8) s.data.toList 4 : Nat), .int .u64 (numAt big (fullL true ptSizes 8) s.data.toList 5 : Nat), .int .u64 (numAt big (fullL true ptSizes 8) s.data.toList 6 : Nat), .int .u64 (numAt big (fullL true ptSizes 8) s.data.toList 7 : Nat)], .bool true]) ∧ Below w.heap.size w w' := by
  go_enter Try.func95, Try.ntmps95
  go_wp2_with fail
  refine (ptfields big _).mono ?_
  rintro e w1 ⟨rfl, h1⟩
  have hW : Below w.heap.size w (w1.alloc (.cells #[.int .i64 4, .int .i64 4, .int .i64 0, .int .i64 0, .int .i64 0, .int .i64 0, .int .i64 0, .int .i64 0] 186)) := ((((Below.refl _ _).alloc (Nat.le_refl _) _).alloc (by simp) _).trans (h1.mono (by simp; omega))).alloc (by have := h1.size; simp at this ⊢; omega) _
  have F0 : (w1.alloc (.cells #[.int .i64 4, .int .i64 4, .int .i64 0, .int .i64 0, .int .i64 0, .int .i64 0, .int .i64 0, .int .i64 0] 186)).cell? ⟨w.heap.size, 0, none⟩ = some (.bool big) := by rw [cell_alloc_old (by have := h1.size; simp at this; omega), h1.cell (by simp; omega)]; simp
  have F1 : (w1.alloc (.cells #[.int .i64 4, .int .i64 4, .int .i64 0, .int .i64 0, .int .i64 0, .int .i64 0, .int .i64 0, .int .i64 0] 186)).cell? ⟨w.heap.size, 1, none⟩ = some (.bool true) := by rw [cell_alloc_old (by have := h1.size; simp at this; omega), h1.cell (by simp; omega)]; simp
  have hZ : (w1.alloc (.cells #[.int .i64 4, .int .i64 4, .int .i64 0, .int .i64 0, .int .i64 0, .int .i64 0, .int .i64 0, .int .i64 0] 186)).heap[w.heap.size + 1]? = some (.cells #[.int .u64 0, .int .u64 0, .int .u64 0, .int .u64 0, .int .u64 0, .int .u64 0, .int .u64 0, .int .u64 0] 72 (0, 0)) := by rw [Below.heap_alloc _ _ _ (by have := h1.size; simp at this; omega), h1.block _ (by simp)]; exact two_new _ _ _
  have hR : (w1.alloc (.cells #[.int .i64 4, .int .i64 4, .int .i64 0, .int .i64 0, .int .i64 0, .int .i64 0, .int .i64 0, .int .i64 0] 186)).heap[w1.heap.size]? = some (.cells (rowI64 ptSizes) 186 (0, 0)) := heap_alloc_new _ _
  have hz1 : w.heap.size + 1 < (w1.alloc (.cells #[.int .i64 4, .int .i64 4, .int .i64 0, .int .i64 0, .int .i64 0, .int .i64 0, .int .i64 0, .int .i64 0] 186)).heap.size := by have := h1.size; simp at this ⊢; omega
  have hz2 : w1.heap.size < (w1.alloc (.cells #[.int .i64 4, .int .i64 4, .int .i64 0, .int .i64 0, .int .i64 0, .int .i64 0, .int .i64 0, .int .i64 0] 186)).heap.size := by simp
  clear h1
  go_wp2
  generalize (w1.alloc (.cells #[.int .i64 4, .int .i64 4, .int .i64 0, .int .i64 0, .int .i64 0, .int .i64 0, .int .i64 0, .int .i64 0] 186)) = W at *
  have HR := Lib.hid hR; clear hR
  have HZ := Lib.hid hZ; clear hZ
  have G0 : ∀ w', Below W.heap.size W w' → w'.cell? ⟨w.heap.size, 0, none⟩ = some (.bool big) := fun w' h => by rw [h.cell (by show w.heap.size < W.heap.size; omega)]; exact F0
  have HG0 := Lib.hid G0; clear G0 F0
  have G1 : ∀ w', Below W.heap.size W w' → w'.cell? ⟨w.heap.size, 1, none⟩ = some (.bool true) := fun w' h => by rw [h.cell (by show w.heap.size < W.heap.size; omega)]; exact F1
  have HG1 := Lib.hid G1; clear G1 F1
  refine wp_region_held_drew (S := fun w' => Below W.heap.size W w') (by kernel_rfl) ?_ (fun hHeld => ?_)
  · exact (Below.refl _ _).drew
  refine wpAnyH_take (i := 0) (oi := ⟨some 12, .load 34 (.tmp 2), 34, "phdr.go:46", #[], none⟩) (v := ?_) rfl (by kernel_rfl) (by kernel_rfl) (by kernel_rfl) (fun _ _ _ h => h) (Or.inl ⟨by rfl, ?_⟩) (by assumption) ?_
  rotate_left
  · (intro w hSw; have q0 := HG0.out w hSw; have q1 := HG1.out w hSw; (try dsimp only at hSw); go_simp <;> with_reducible rfl)
  try simp only [Act.put, List.setIfInBounds_toArray, List.set_cons_zero, List.set_cons_succ]
  refine wpAnyH_take (i := 1) (oi := ⟨some 13, .move (.tmp 1), 9, "phdr.go:46", #[], none⟩) (v := ?_) rfl (by kernel_rfl) (by kernel_rfl) (by kernel_rfl) (fun _ _ _ h => h) (Or.inl ⟨by rfl, ?_⟩) (by assumption) ?_
  rotate_left
  · (intro w hSw; (try dsimp only at hSw); go_simp <;> with_reducible rfl)
  try simp only [Act.put, List.setIfInBounds_toArray, List.set_cons_zero, List.set_cons_succ]
  refine wpAnyH_take (i := 2) (oi := ⟨some 14, .slice 186 (.tmp 6) none none none, 68, "phdr.go:46", #[], none⟩) (v := ?_) rfl (by kernel_rfl) (by kernel_rfl) (by kernel_rfl) (fun _ _ _ h => h) (Or.inl ⟨by rfl, ?_⟩) (by assumption) ?_
  rotate_left
  · (intro w hSw; (try dsimp only at hSw); go_simp <;> with_reducible rfl)
  try simp only [Act.put, List.setIfInBounds_toArray, List.set_cons_zero, List.set_cons_succ]
  refine wpAnyH_ready (rs := [3]) (by kernel_rfl) (by simp) ?_
  refine AllReadyH.cons (o := ⟨some 15, .call { callee := .value (.func 125), args := #[.tmp 12, .tmp 13, .tmp 14], argTypes := #[34, 9, 68] }, 230, "phdr.go:46", #[⟨0, .data⟩, ⟨1, .data⟩, ⟨2, .data⟩], none⟩) rfl (fun K hK => ?_) AllReadyH.nil
  (first | go_at_call 125 | (go_simp; go_at_call 125))
  (with_reducible refine (recRead_yes big true (some ⟨w1.heap.size, 0, none⟩) 8 8 ptSizes s _ (by decide) hs ((RowI.of_rowT hz2 HR.out).kept hHeld (Nat.le_refl _)) pt_ok (by rw [pt_off]; exact hlen)).mono ?_)
  rintro e w3 ⟨b3, hb3, hc3, rfl, hrow3, hg3⟩
  try go_wp2_with fail
  refine hK.out _ _ ?_ (fun hHeld2 => ?_)
  · exact hHeld.trans (hg3.mono hHeld.size)
  clear hK K
  try simp only [Act.put, List.setIfInBounds_toArray, List.set_cons_zero, List.set_cons_succ]
  refine wpAnyH_take (i := 4) (oi := ⟨some 11, .move (.tmp 15), 230, "phdr.go:46", #[⟨3, .data⟩], none⟩) (v := ?_) rfl (by kernel_rfl) (by kernel_rfl) (by kernel_rfl) (fun _ _ _ h => h) (Or.inl ⟨by rfl, ?_⟩) (by assumption) ?_
  rotate_left
  · (intro w hSw; (try dsimp only at hSw); go_simp <;> with_reducible rfl)
  try simp only [Act.put, List.setIfInBounds_toArray, List.set_cons_zero, List.set_cons_succ]
  refine wpAnyH_take (i := 5) (oi := ⟨some 16, .extract (.tmp 11) 0, 76, "phdr.go:46", #[⟨4, .data⟩], none⟩) (v := ?_) rfl (by kernel_rfl) (by kernel_rfl) (by kernel_rfl) (fun _ _ _ h => h) (Or.inl ⟨by rfl, ?_⟩) (by assumption) ?_
  rotate_left
  · (intro w hSw; (try dsimp only at hSw); go_simp <;> with_reducible rfl)
  try simp only [Act.put, List.setIfInBounds_toArray, List.set_cons_zero, List.set_cons_succ]
  refine wpAnyH_take (i := 6) (oi := ⟨some 17, .extract (.tmp 11) 1, 4, "phdr.go:46", #[⟨4, .data⟩, ⟨7, .gcOnly .lateStores⟩], none⟩) (v := ?_) rfl (by kernel_rfl) (by kernel_rfl) (by kernel_rfl) (fun _ _ _ h => h) (Or.inl ⟨by rfl, ?_⟩) (by assumption) ?_
  rotate_left
  · (intro w hSw; (try dsimp only at hSw); go_simp <;> with_reducible rfl)
  try simp only [Act.put, List.setIfInBounds_toArray, List.set_cons_zero, List.set_cons_succ]
  refine wpAnyH_take (i := 7) (oi := ⟨some 7, .assign (.tmp 16), 76, "phdr.go:46", #[⟨5, .data⟩, ⟨3, .chain⟩, ⟨0, .phase⟩, ⟨1, .phase⟩, ⟨2, .phase⟩, ⟨3, .phase⟩, ⟨4, .phase⟩, ⟨5, .phase⟩, ⟨6, .textOnly .lateStores⟩], none⟩) (v := ?_) rfl (by kernel_rfl) (by kernel_rfl) (by kernel_rfl) (fun _ _ _ h => h) (Or.inl ⟨by rfl, ?_⟩) (by assumption) ?_
  rotate_left
  · (intro w hSw; (try dsimp only at hSw); go_simp <;> with_reducible rfl)
  try simp only [Act.put, List.setIfInBounds_toArray, List.set_cons_zero, List.set_cons_succ]
  refine wpAnyH_take (i := 8) (oi := ⟨some 8, .assign (.tmp 17), 4, "phdr.go:46", #[⟨6, .data⟩, ⟨7, .chain⟩, ⟨0, .phase⟩, ⟨1, .phase⟩, ⟨2, .phase⟩, ⟨3, .phase⟩, ⟨4, .phase⟩, ⟨5, .phase⟩, ⟨6, .phase⟩, ⟨7, .phase⟩], none⟩) (v := ?_) rfl (by kernel_rfl) (by kernel_rfl) (by kernel_rfl) (fun _ _ _ h => h) (Or.inl ⟨by rfl, ?_⟩) (by assumption) ?_
  rotate_left
  · (intro w hSw; (try dsimp only at hSw); go_simp <;> with_reducible rfl)
  try simp only [Act.put, List.setIfInBounds_toArray, List.set_cons_zero, List.set_cons_succ]
  refine wpAnyH_done (by kernel_rfl) ?_ _
  have hz3 : w3.heap[w.heap.size + 1]? = some (.cells #[.int .u64 0, .int .u64 0, .int .u64 0, .int .u64 0, .int .u64 0, .int .u64 0, .int .u64 0, .int .u64 0] 72 (0, 0)) := by rw [hHeld2.block _ hz1]; exact HZ.out
  have hwd : w3.cell? ⟨w.heap.size, 1, none⟩ = some (.bool true) := HG1.out w3 hHeld2
  have hb3' : W.heap.size ≤ b3 := hb3
  have HROW := Lib.hid hrow3; clear hrow3
  have hw3 : Below w.heap.size w w3 := hW.trans (hHeld2.mono hW.size)
  clear hb3 hHeld hHeld2 hg3 HG0 HG1 HZ HR
  have HZ3 := Lib.hid hz3; clear hz3
  have C0 : w3.cell? ⟨b3, 0, none⟩ = some (.int .u64 (numAt big (fullL true ptSizes 8) s.data.toList 0 : Nat)) := cell_of_rowU HROW.out 0 (by rw [numsTo_length]; decide)
  have C1 : w3.cell? ⟨b3, 1, none⟩ = some (.int .u64 (numAt big (fullL true ptSizes 8) s.data.toList 1 : Nat)) := cell_of_rowU HROW.out 1 (by rw [numsTo_length]; decide)
  have C2 : w3.cell? ⟨b3, 2, none⟩ = some (.int .u64 (numAt big (fullL true ptSizes 8) s.data.toList 2 : Nat)) := cell_of_rowU HROW.out 2 (by rw [numsTo_length]; decide)
  have C3 : w3.cell? ⟨b3, 3, none⟩ = some (.int .u64 (numAt big (fullL true ptSizes 8) s.data.toList 3 : Nat)) := cell_of_rowU HROW.out 3 (by rw [numsTo_length]; decide)
  have C4 : w3.cell? ⟨b3, 4, none⟩ = some (.int .u64 (numAt big (fullL true ptSizes 8) s.data.toList 4 : Nat)) := cell_of_rowU HROW.out 4 (by rw [numsTo_length]; decide)
  have C5 : w3.cell? ⟨b3, 5, none⟩ = some (.int .u64 (numAt big (fullL true ptSizes 8) s.data.toList 5 : Nat)) := cell_of_rowU HROW.out 5 (by rw [numsTo_length]; decide)
  have C6 : w3.cell? ⟨b3, 6, none⟩ = some (.int .u64 (numAt big (fullL true ptSizes 8) s.data.toList 6 : Nat)) := cell_of_rowU HROW.out 6 (by rw [numsTo_length]; decide)
  have C7 : w3.cell? ⟨b3, 7, none⟩ = some (.int .u64 (numAt big (fullL true ptSizes 8) s.data.toList 7 : Nat)) := cell_of_rowU HROW.out 7 (by rw [numsTo_length]; decide)
  generalize hm0 : numAt big (fullL true ptSizes 8) s.data.toList 0 = m0 at *; have HM0 := Lib.hid hm0; clear hm0
  generalize hm1 : numAt big (fullL true ptSizes 8) s.data.toList 1 = m1 at *; have HM1 := Lib.hid hm1; clear hm1
  generalize hm2 : numAt big (fullL true ptSizes 8) s.data.toList 2 = m2 at *; have HM2 := Lib.hid hm2; clear hm2
  generalize hm3 : numAt big (fullL true ptSizes 8) s.data.toList 3 = m3 at *; have HM3 := Lib.hid hm3; clear hm3
  generalize hm4 : numAt big (fullL true ptSizes 8) s.data.toList 4 = m4 at *; have HM4 := Lib.hid hm4; clear hm4
  generalize hm5 : numAt big (fullL true ptSizes 8) s.data.toList 5 = m5 at *; have HM5 := Lib.hid hm5; clear hm5
  generalize hm6 : numAt big (fullL true ptSizes 8) s.data.toList 6 = m6 at *; have HM6 := Lib.hid hm6; clear hm6
  generalize hm7 : numAt big (fullL true ptSizes 8) s.data.toList 7 = m7 at *; have HM7 := Lib.hid hm7; clear hm7
  go_wp2
  have G0 : ∀ w' : World, w'.heap[b3]? = w3.heap[b3]? → w'.cell? ⟨b3, 0, none⟩ = some (.int .u64 (m0 : Nat)) := fun w' h => by rw [World.cell?_of_block (w := w3) h]; exact C0
  have HG0 := Lib.hid G0; clear G0 C0
  have G1 : ∀ w' : World, w'.heap[b3]? = w3.heap[b3]? → w'.cell? ⟨b3, 1, none⟩ = some (.int .u64 (m1 : Nat)) := fun w' h => by rw [World.cell?_of_block (w := w3) h]; exact C1
  have HG1 := Lib.hid G1; clear G1 C1
  have G2 : ∀ w' : World, w'.heap[b3]? = w3.heap[b3]? → w'.cell? ⟨b3, 2, none⟩ = some (.int .u64 (m2 : Nat)) := fun w' h => by rw [World.cell?_of_block (w := w3) h]; exact C2
  have HG2 := Lib.hid G2; clear G2 C2
  have G3 : ∀ w' : World, w'.heap[b3]? = w3.heap[b3]? → w'.cell? ⟨b3, 3, none⟩ = some (.int .u64 (m3 : Nat)) := fun w' h => by rw [World.cell?_of_block (w := w3) h]; exact C3
  have HG3 := Lib.hid G3; clear G3 C3
  have G4 : ∀ w' : World, w'.heap[b3]? = w3.heap[b3]? → w'.cell? ⟨b3, 4, none⟩ = some (.int .u64 (m4 : Nat)) := fun w' h => by rw [World.cell?_of_block (w := w3) h]; exact C4
  have HG4 := Lib.hid G4; clear G4 C4
  have G5 : ∀ w' : World, w'.heap[b3]? = w3.heap[b3]? → w'.cell? ⟨b3, 5, none⟩ = some (.int .u64 (m5 : Nat)) := fun w' h => by rw [World.cell?_of_block (w := w3) h]; exact C5
  have HG5 := Lib.hid G5; clear G5 C5
  have G6 : ∀ w' : World, w'.heap[b3]? = w3.heap[b3]? → w'.cell? ⟨b3, 6, none⟩ = some (.int .u64 (m6 : Nat)) := fun w' h => by rw [World.cell?_of_block (w := w3) h]; exact C6
  have HG6 := Lib.hid G6; clear G6 C6
  have G7 : ∀ w' : World, w'.heap[b3]? = w3.heap[b3]? → w'.cell? ⟨b3, 7, none⟩ = some (.int .u64 (m7 : Nat)) := fun w' h => by rw [World.cell?_of_block (w := w3) h]; exact C7
  have HG7 := Lib.hid G7; clear G7 C7
  refine wp_region_held_drew (S := fun w' => w'.heap[b3]? = w3.heap[b3]?) (by kernel_rfl) ?_ (fun hHeldA => ?_)
  · rfl
  refine wpAnyH_take (i := 0) (oi := ⟨some 23, .move (.tmp 7), 76, "phdr.go:51", #[], none⟩) (v := ?_) rfl (by kernel_rfl) (by kernel_rfl) (by kernel_rfl) (fun _ _ _ h => h) (Or.inl ⟨by rfl, ?_⟩) (by assumption) ?_
  rotate_left
  · (intro w hSw; (try dsimp only at hSw); go_simp <;> with_reducible rfl)
  try simp only [Act.put, List.setIfInBounds_toArray, List.set_cons_zero, List.set_cons_succ]
  refine wpAnyH_take (i := 1) (oi := ⟨some 24, .indexAddr 76 (.tmp 23) (.const (.int .i64 0)), 0, "phdr.go:51", #[⟨0, .data⟩], none⟩) (v := ?_) rfl (by kernel_rfl) (by kernel_rfl) (by kernel_rfl) (fun _ _ _ h => h) (Or.inl ⟨by rfl, ?_⟩) (by assumption) ?_
  rotate_left
  · (intro w hSw; (try dsimp only at hSw); go_simp <;> with_reducible rfl)
  try simp only [Act.put, List.setIfInBounds_toArray, List.set_cons_zero, List.set_cons_succ]
  refine wpAnyH_take (i := 2) (oi := ⟨some 25, .load 29 (.tmp 24), 29, "phdr.go:51", #[⟨1, .data⟩], none⟩) (v := ?_) rfl (by kernel_rfl) (by kernel_rfl) (by kernel_rfl) (fun _ _ _ h => h) (Or.inl ⟨by rfl, ?_⟩) (by assumption) ?_
  rotate_left
  · (intro w hSw; have q0 := HG0.out w hSw; (try dsimp only at hSw); go_simp <;> with_reducible rfl)
  try simp only [Act.put, List.setIfInBounds_toArray, List.set_cons_zero, List.set_cons_succ]
  refine wpAnyH_take (i := 3) (oi := ⟨some 26, .move (.tmp 7), 76, "phdr.go:51", #[], none⟩) (v := ?_) rfl (by kernel_rfl) (by kernel_rfl) (by kernel_rfl) (fun _ _ _ h => h) (Or.inl ⟨by rfl, ?_⟩) (by assumption) ?_
  rotate_left
  · (intro w hSw; (try dsimp only at hSw); go_simp <;> with_reducible rfl)
  try simp only [Act.put, List.setIfInBounds_toArray, List.set_cons_zero, List.set_cons_succ]
  refine wpAnyH_take (i := 4) (oi := ⟨some 27, .indexAddr 76 (.tmp 26) (.const (.int .i64 1)), 0, "phdr.go:51", #[⟨3, .data⟩], none⟩) (v := ?_) rfl (by kernel_rfl) (by kernel_rfl) (by kernel_rfl) (fun _ _ _ h => h) (Or.inl ⟨by rfl, ?_⟩) (by assumption) ?_
  rotate_left
  · (intro w hSw; (try dsimp only at hSw); go_simp <;> with_reducible rfl)
  try simp only [Act.put, List.setIfInBounds_toArray, List.set_cons_zero, List.set_cons_succ]
  refine wpAnyH_take (i := 5) (oi := ⟨some 28, .load 29 (.tmp 27), 29, "phdr.go:51", #[⟨4, .data⟩], none⟩) (v := ?_) rfl (by kernel_rfl) (by kernel_rfl) (by kernel_rfl) (fun _ _ _ h => h) (Or.inl ⟨by rfl, ?_⟩) (by assumption) ?_
  rotate_left
  · (intro w hSw; have q0 := HG1.out w hSw; (try dsimp only at hSw); go_simp <;> with_reducible rfl)
  try simp only [Act.put, List.setIfInBounds_toArray, List.set_cons_zero, List.set_cons_succ]
  refine wpAnyH_take (i := 6) (oi := ⟨some 29, .move (.tmp 7), 76, "phdr.go:51", #[], none⟩) (v := ?_) rfl (by kernel_rfl) (by kernel_rfl) (by kernel_rfl) (fun _ _ _ h => h) (Or.inl ⟨by rfl, ?_⟩) (by assumption) ?_
  rotate_left
  · (intro w hSw; (try dsimp only at hSw); go_simp <;> with_reducible rfl)
  try simp only [Act.put, List.setIfInBounds_toArray, List.set_cons_zero, List.set_cons_succ]
  refine wpAnyH_take (i := 7) (oi := ⟨some 30, .indexAddr 76 (.tmp 29) (.const (.int .i64 2)), 0, "phdr.go:51", #[⟨6, .data⟩], none⟩) (v := ?_) rfl (by kernel_rfl) (by kernel_rfl) (by kernel_rfl) (fun _ _ _ h => h) (Or.inl ⟨by rfl, ?_⟩) (by assumption) ?_
  rotate_left
  · (intro w hSw; (try dsimp only at hSw); go_simp <;> with_reducible rfl)
  try simp only [Act.put, List.setIfInBounds_toArray, List.set_cons_zero, List.set_cons_succ]
  refine wpAnyH_take (i := 8) (oi := ⟨some 31, .load 29 (.tmp 30), 29, "phdr.go:51", #[⟨7, .data⟩], none⟩) (v := ?_) rfl (by kernel_rfl) (by kernel_rfl) (by kernel_rfl) (fun _ _ _ h => h) (Or.inl ⟨by rfl, ?_⟩) (by assumption) ?_
  rotate_left
  · (intro w hSw; have q0 := HG2.out w hSw; (try dsimp only at hSw); go_simp <;> with_reducible rfl)
  try simp only [Act.put, List.setIfInBounds_toArray, List.set_cons_zero, List.set_cons_succ]
  refine wpAnyH_take (i := 9) (oi := ⟨some 32, .move (.tmp 7), 76, "phdr.go:51", #[], none⟩) (v := ?_) rfl (by kernel_rfl) (by kernel_rfl) (by kernel_rfl) (fun _ _ _ h => h) (Or.inl ⟨by rfl, ?_⟩) (by assumption) ?_
  rotate_left
  · (intro w hSw; (try dsimp only at hSw); go_simp <;> with_reducible rfl)
  try simp only [Act.put, List.setIfInBounds_toArray, List.set_cons_zero, List.set_cons_succ]
  refine wpAnyH_take (i := 10) (oi := ⟨some 33, .indexAddr 76 (.tmp 32) (.const (.int .i64 3)), 0, "phdr.go:51", #[⟨9, .data⟩], none⟩) (v := ?_) rfl (by kernel_rfl) (by kernel_rfl) (by kernel_rfl) (fun _ _ _ h => h) (Or.inl ⟨by rfl, ?_⟩) (by assumption) ?_
  rotate_left
  · (intro w hSw; (try dsimp only at hSw); go_simp <;> with_reducible rfl)
  try simp only [Act.put, List.setIfInBounds_toArray, List.set_cons_zero, List.set_cons_succ]
  refine wpAnyH_take (i := 11) (oi := ⟨some 34, .load 29 (.tmp 33), 29, "phdr.go:51", #[⟨10, .data⟩], none⟩) (v := ?_) rfl (by kernel_rfl) (by kernel_rfl) (by kernel_rfl) (fun _ _ _ h => h) (Or.inl ⟨by rfl, ?_⟩) (by assumption) ?_
  rotate_left
  · (intro w hSw; have q0 := HG3.out w hSw; (try dsimp only at hSw); go_simp <;> with_reducible rfl)
  try simp only [Act.put, List.setIfInBounds_toArray, List.set_cons_zero, List.set_cons_succ]
  refine wpAnyH_take (i := 12) (oi := ⟨some 35, .move (.tmp 7), 76, "phdr.go:51", #[], none⟩) (v := ?_) rfl (by kernel_rfl) (by kernel_rfl) (by kernel_rfl) (fun _ _ _ h => h) (Or.inl ⟨by rfl, ?_⟩) (by assumption) ?_
  rotate_left
  · (intro w hSw; (try dsimp only at hSw); go_simp <;> with_reducible rfl)
  try simp only [Act.put, List.setIfInBounds_toArray, List.set_cons_zero, List.set_cons_succ]
  refine wpAnyH_take (i := 13) (oi := ⟨some 36, .indexAddr 76 (.tmp 35) (.const (.int .i64 4)), 0, "phdr.go:51", #[⟨12, .data⟩], none⟩) (v := ?_) rfl (by kernel_rfl) (by kernel_rfl) (by kernel_rfl) (fun _ _ _ h => h) (Or.inl ⟨by rfl, ?_⟩) (by assumption) ?_
  rotate_left
  · (intro w hSw; (try dsimp only at hSw); go_simp <;> with_reducible rfl)
  try simp only [Act.put, List.setIfInBounds_toArray, List.set_cons_zero, List.set_cons_succ]
  refine wpAnyH_take (i := 14) (oi := ⟨some 37, .load 29 (.tmp 36), 29, "phdr.go:51", #[⟨13, .data⟩], none⟩) (v := ?_) rfl (by kernel_rfl) (by kernel_rfl) (by kernel_rfl) (fun _ _ _ h => h) (Or.inl ⟨by rfl, ?_⟩) (by assumption) ?_
  rotate_left
  · (intro w hSw; have q0 := HG4.out w hSw; (try dsimp only at hSw); go_simp <;> with_reducible rfl)
  try simp only [Act.put, List.setIfInBounds_toArray, List.set_cons_zero, List.set_cons_succ]
  refine wpAnyH_take (i := 15) (oi := ⟨some 38, .move (.tmp 7), 76, "phdr.go:51", #[], none⟩) (v := ?_) rfl (by kernel_rfl) (by kernel_rfl) (by kernel_rfl) (fun _ _ _ h => h) (Or.inl ⟨by rfl, ?_⟩) (by assumption) ?_
  rotate_left
  · (intro w hSw; (try dsimp only at hSw); go_simp <;> with_reducible rfl)
  try simp only [Act.put, List.setIfInBounds_toArray, List.set_cons_zero, List.set_cons_succ]
  refine wpAnyH_take (i := 16) (oi := ⟨some 39, .indexAddr 76 (.tmp 38) (.const (.int .i64 5)), 0, "phdr.go:51", #[⟨15, .data⟩], none⟩) (v := ?_) rfl (by kernel_rfl) (by kernel_rfl) (by kernel_rfl) (fun _ _ _ h => h) (Or.inl ⟨by rfl, ?_⟩) (by assumption) ?_
  rotate_left
  · (intro w hSw; (try dsimp only at hSw); go_simp <;> with_reducible rfl)
  try simp only [Act.put, List.setIfInBounds_toArray, List.set_cons_zero, List.set_cons_succ]
  refine wpAnyH_take (i := 17) (oi := ⟨some 40, .load 29 (.tmp 39), 29, "phdr.go:51", #[⟨16, .data⟩], none⟩) (v := ?_) rfl (by kernel_rfl) (by kernel_rfl) (by kernel_rfl) (fun _ _ _ h => h) (Or.inl ⟨by rfl, ?_⟩) (by assumption) ?_
  rotate_left
  · (intro w hSw; have q0 := HG5.out w hSw; (try dsimp only at hSw); go_simp <;> with_reducible rfl)
  try simp only [Act.put, List.setIfInBounds_toArray, List.set_cons_zero, List.set_cons_succ]
  refine wpAnyH_take (i := 18) (oi := ⟨some 41, .move (.tmp 7), 76, "phdr.go:51", #[], none⟩) (v := ?_) rfl (by kernel_rfl) (by kernel_rfl) (by kernel_rfl) (fun _ _ _ h => h) (Or.inl ⟨by rfl, ?_⟩) (by assumption) ?_
  rotate_left
  · (intro w hSw; (try dsimp only at hSw); go_simp <;> with_reducible rfl)
  try simp only [Act.put, List.setIfInBounds_toArray, List.set_cons_zero, List.set_cons_succ]
  refine wpAnyH_take (i := 19) (oi := ⟨some 42, .indexAddr 76 (.tmp 41) (.const (.int .i64 6)), 0, "phdr.go:51", #[⟨18, .data⟩], none⟩) (v := ?_) rfl (by kernel_rfl) (by kernel_rfl) (by kernel_rfl) (fun _ _ _ h => h) (Or.inl ⟨by rfl, ?_⟩) (by assumption) ?_
  rotate_left
  · (intro w hSw; (try dsimp only at hSw); go_simp <;> with_reducible rfl)
  try simp only [Act.put, List.setIfInBounds_toArray, List.set_cons_zero, List.set_cons_succ]
  refine wpAnyH_take (i := 20) (oi := ⟨some 43, .load 29 (.tmp 42), 29, "phdr.go:51", #[⟨19, .data⟩], none⟩) (v := ?_) rfl (by kernel_rfl) (by kernel_rfl) (by kernel_rfl) (fun _ _ _ h => h) (Or.inl ⟨by rfl, ?_⟩) (by assumption) ?_
  rotate_left
  · (intro w hSw; have q0 := HG6.out w hSw; (try dsimp only at hSw); go_simp <;> with_reducible rfl)
  try simp only [Act.put, List.setIfInBounds_toArray, List.set_cons_zero, List.set_cons_succ]
  refine wpAnyH_take (i := 21) (oi := ⟨some 44, .move (.tmp 7), 76, "phdr.go:51", #[], none⟩) (v := ?_) rfl (by kernel_rfl) (by kernel_rfl) (by kernel_rfl) (fun _ _ _ h => h) (Or.inl ⟨by rfl, ?_⟩) (by assumption) ?_
  rotate_left
  · (intro w hSw; (try dsimp only at hSw); go_simp <;> with_reducible rfl)
  try simp only [Act.put, List.setIfInBounds_toArray, List.set_cons_zero, List.set_cons_succ]
  refine wpAnyH_take (i := 22) (oi := ⟨some 45, .indexAddr 76 (.tmp 44) (.const (.int .i64 7)), 0, "phdr.go:51", #[⟨21, .data⟩], none⟩) (v := ?_) rfl (by kernel_rfl) (by kernel_rfl) (by kernel_rfl) (fun _ _ _ h => h) (Or.inl ⟨by rfl, ?_⟩) (by assumption) ?_
  rotate_left
  · (intro w hSw; (try dsimp only at hSw); go_simp <;> with_reducible rfl)
  try simp only [Act.put, List.setIfInBounds_toArray, List.set_cons_zero, List.set_cons_succ]
  refine wpAnyH_take (i := 23) (oi := ⟨some 46, .load 29 (.tmp 45), 29, "phdr.go:51", #[⟨22, .data⟩], none⟩) (v := ?_) rfl (by kernel_rfl) (by kernel_rfl) (by kernel_rfl) (fun _ _ _ h => h) (Or.inl ⟨by rfl, ?_⟩) (by assumption) ?_
  rotate_left
  · (intro w hSw; have q0 := HG7.out w hSw; (try dsimp only at hSw); go_simp <;> with_reducible rfl)
  try simp only [Act.put, List.setIfInBounds_toArray, List.set_cons_zero, List.set_cons_succ]
  refine wpAnyH_take (i := 24) (oi := ⟨some 47, .build 72 #[(0, .tmp 25), (1, .tmp 28), (2, .tmp 31), (3, .tmp 34), (4, .tmp 37), (5, .tmp 40), (6, .tmp 43), (7, .tmp 46)], 72, "phdr.go:51", #[⟨2, .data⟩, ⟨5, .data⟩, ⟨8, .data⟩, ⟨11, .data⟩, ⟨14, .data⟩, ⟨17, .data⟩, ⟨20, .data⟩, ⟨23, .data⟩], none⟩) (v := ?_) rfl (by kernel_rfl) (by kernel_rfl) (by kernel_rfl) (fun _ _ _ h => h) (Or.inl ⟨by rfl, ?_⟩) (by assumption) ?_
  rotate_left
  · (intro w hSw; (try dsimp only at hSw); go_simp <;> with_reducible rfl)
  try simp only [Act.put, List.setIfInBounds_toArray, List.set_cons_zero, List.set_cons_succ]
  refine wpAnyH_ready (rs := [25]) (by kernel_rfl) (by simp) ?_
  refine AllReadyH.cons (o := ⟨none, .store 72 (.tmp 4) (.tmp 47), 0, "phdr.go:51", #[⟨24, .data⟩, ⟨0, .phase⟩, ⟨1, .phase⟩, ⟨2, .phase⟩, ⟨3, .phase⟩, ⟨4, .phase⟩, ⟨5, .phase⟩, ⟨6, .phase⟩, ⟨7, .phase⟩, ⟨8, .phase⟩, ⟨9, .phase⟩, ⟨10, .phase⟩, ⟨11, .phase⟩, ⟨12, .phase⟩, ⟨13, .phase⟩, ⟨14, .phase⟩, ⟨15, .phase⟩, ⟨16, .phase⟩, ⟨17, .phase⟩, ⟨18, .phase⟩, ⟨19, .phase⟩, ⟨20, .phase⟩, ⟨21, .phase⟩, ⟨22, .phase⟩, ⟨23, .phase⟩, ⟨24, .phase⟩], none⟩) rfl (fun K hK => ?_) AllReadyH.nil
  refine wp_store_row 72 _ _ rfl (w.heap.size + 1) #[.int .u64 (m0 : Nat), .int .u64 (m1 : Nat), .int .u64 (m2 : Nat), .int .u64 (m3 : Nat), .int .u64 (m4 : Nat), .int .u64 (m5 : Nat), .int .u64 (m6 : Nat), .int .u64 (m7 : Nat)] (by rfl) (by rfl) 72 #[.int .u64 0, .int .u64 0, .int .u64 0, .int .u64 0, .int .u64 0, .int .u64 0, .int .u64 0, .int .u64 0] HZ3.out (by kernel_rfl) rfl (by simp [Value.oneCell']) ?_
  refine hK.out _ _ ?_ (fun hHeldB => ?_)
  · exact setRow_other _ _ _ _ (by omega)
  clear hK K
  try simp only [Act.put]
  refine wpAnyH_take (i := 26) (oi := ⟨some 5, .assign (.const (.bool true)), 4, "phdr.go:51", #[⟨25, .chain⟩, ⟨0, .phase⟩, ⟨1, .phase⟩, ⟨2, .phase⟩, ⟨3, .phase⟩, ⟨4, .phase⟩, ⟨5, .phase⟩, ⟨6, .phase⟩, ⟨7, .phase⟩, ⟨8, .phase⟩, ⟨9, .phase⟩, ⟨10, .phase⟩, ⟨11, .phase⟩, ⟨12, .phase⟩, ⟨13, .phase⟩, ⟨14, .phase⟩, ⟨15, .phase⟩, ⟨16, .phase⟩, ⟨17, .phase⟩, ⟨18, .phase⟩, ⟨19, .phase⟩, ⟨20, .phase⟩, ⟨21, .phase⟩, ⟨22, .phase⟩, ⟨23, .phase⟩, ⟨24, .phase⟩, ⟨25, .phase⟩], none⟩) (v := ?_) rfl (by kernel_rfl) (by kernel_rfl) (by kernel_rfl) (fun _ _ _ h => h) (Or.inl ⟨by rfl, ?_⟩) (by assumption) ?_
  rotate_left
  · (intro w hSw; (try dsimp only at hSw); go_simp <;> with_reducible rfl)
  try simp only [Act.put, List.setIfInBounds_toArray, List.set_cons_zero, List.set_cons_succ]
  refine wpAnyH_done (by kernel_rfl) ?_ _
  have hW5 : Below w.heap.size w (w3.drew.setRow (w.heap.size + 1) #[.int .u64 (m0 : Nat), .int .u64 (m1 : Nat), .int .u64 (m2 : Nat), .int .u64 (m3 : Nat), .int .u64 (m4 : Nat), .int .u64 (m5 : Nat), .int .u64 (m6 : Nat), .int .u64 (m7 : Nat)]) := below_setRow hw3.drew (by omega) _
  have D0 : (w3.drew.setRow (w.heap.size + 1) #[.int .u64 (m0 : Nat), .int .u64 (m1 : Nat), .int .u64 (m2 : Nat), .int .u64 (m3 : Nat), .int .u64 (m4 : Nat), .int .u64 (m5 : Nat), .int .u64 (m6 : Nat), .int .u64 (m7 : Nat)]).cell? ⟨w.heap.size + 1, 0, none⟩ = some (.int .u64 (m0 : Nat)) := by rw [cell_setRow_same w3.drew _ 0 #[.int .u64 0, .int .u64 0, .int .u64 0, .int .u64 0, .int .u64 0, .int .u64 0, .int .u64 0, .int .u64 0] _ 72 (0, 0) HZ3.out]; rfl
  have D1 : (w3.drew.setRow (w.heap.size + 1) #[.int .u64 (m0 : Nat), .int .u64 (m1 : Nat), .int .u64 (m2 : Nat), .int .u64 (m3 : Nat), .int .u64 (m4 : Nat), .int .u64 (m5 : Nat), .int .u64 (m6 : Nat), .int .u64 (m7 : Nat)]).cell? ⟨w.heap.size + 1, 1, none⟩ = some (.int .u64 (m1 : Nat)) := by rw [cell_setRow_same w3.drew _ 1 #[.int .u64 0, .int .u64 0, .int .u64 0, .int .u64 0, .int .u64 0, .int .u64 0, .int .u64 0, .int .u64 0] _ 72 (0, 0) HZ3.out]; rfl
  have D2 : (w3.drew.setRow (w.heap.size + 1) #[.int .u64 (m0 : Nat), .int .u64 (m1 : Nat), .int .u64 (m2 : Nat), .int .u64 (m3 : Nat), .int .u64 (m4 : Nat), .int .u64 (m5 : Nat), .int .u64 (m6 : Nat), .int .u64 (m7 : Nat)]).cell? ⟨w.heap.size + 1, 2, none⟩ = some (.int .u64 (m2 : Nat)) := by rw [cell_setRow_same w3.drew _ 2 #[.int .u64 0, .int .u64 0, .int .u64 0, .int .u64 0, .int .u64 0, .int .u64 0, .int .u64 0, .int .u64 0] _ 72 (0, 0) HZ3.out]; rfl
  have D3 : (w3.drew.setRow (w.heap.size + 1) #[.int .u64 (m0 : Nat), .int .u64 (m1 : Nat), .int .u64 (m2 : Nat), .int .u64 (m3 : Nat), .int .u64 (m4 : Nat), .int .u64 (m5 : Nat), .int .u64 (m6 : Nat), .int .u64 (m7 : Nat)]).cell? ⟨w.heap.size + 1, 3, none⟩ = some (.int .u64 (m3 : Nat)) := by rw [cell_setRow_same w3.drew _ 3 #[.int .u64 0, .int .u64 0, .int .u64 0, .int .u64 0, .int .u64 0, .int .u64 0, .int .u64 0, .int .u64 0] _ 72 (0, 0) HZ3.out]; rfl
  have D4 : (w3.drew.setRow (w.heap.size + 1) #[.int .u64 (m0 : Nat), .int .u64 (m1 : Nat), .int .u64 (m2 : Nat), .int .u64 (m3 : Nat), .int .u64 (m4 : Nat), .int .u64 (m5 : Nat), .int .u64 (m6 : Nat), .int .u64 (m7 : Nat)]).cell? ⟨w.heap.size + 1, 4, none⟩ = some (.int .u64 (m4 : Nat)) := by rw [cell_setRow_same w3.drew _ 4 #[.int .u64 0, .int .u64 0, .int .u64 0, .int .u64 0, .int .u64 0, .int .u64 0, .int .u64 0, .int .u64 0] _ 72 (0, 0) HZ3.out]; rfl
  have D5 : (w3.drew.setRow (w.heap.size + 1) #[.int .u64 (m0 : Nat), .int .u64 (m1 : Nat), .int .u64 (m2 : Nat), .int .u64 (m3 : Nat), .int .u64 (m4 : Nat), .int .u64 (m5 : Nat), .int .u64 (m6 : Nat), .int .u64 (m7 : Nat)]).cell? ⟨w.heap.size + 1, 5, none⟩ = some (.int .u64 (m5 : Nat)) := by rw [cell_setRow_same w3.drew _ 5 #[.int .u64 0, .int .u64 0, .int .u64 0, .int .u64 0, .int .u64 0, .int .u64 0, .int .u64 0, .int .u64 0] _ 72 (0, 0) HZ3.out]; rfl
  have D6 : (w3.drew.setRow (w.heap.size + 1) #[.int .u64 (m0 : Nat), .int .u64 (m1 : Nat), .int .u64 (m2 : Nat), .int .u64 (m3 : Nat), .int .u64 (m4 : Nat), .int .u64 (m5 : Nat), .int .u64 (m6 : Nat), .int .u64 (m7 : Nat)]).cell? ⟨w.heap.size + 1, 6, none⟩ = some (.int .u64 (m6 : Nat)) := by rw [cell_setRow_same w3.drew _ 6 #[.int .u64 0, .int .u64 0, .int .u64 0, .int .u64 0, .int .u64 0, .int .u64 0, .int .u64 0, .int .u64 0] _ 72 (0, 0) HZ3.out]; rfl
  have D7 : (w3.drew.setRow (w.heap.size + 1) #[.int .u64 (m0 : Nat), .int .u64 (m1 : Nat), .int .u64 (m2 : Nat), .int .u64 (m3 : Nat), .int .u64 (m4 : Nat), .int .u64 (m5 : Nat), .int .u64 (m6 : Nat), .int .u64 (m7 : Nat)]).cell? ⟨w.heap.size + 1, 7, none⟩ = some (.int .u64 (m7 : Nat)) := by rw [cell_setRow_same w3.drew _ 7 #[.int .u64 0, .int .u64 0, .int .u64 0, .int .u64 0, .int .u64 0, .int .u64 0, .int .u64 0, .int .u64 0] _ 72 (0, 0) HZ3.out]; rfl
  generalize (w3.drew.setRow (w.heap.size + 1) #[.int .u64 (m0 : Nat), .int .u64 (m1 : Nat), .int .u64 (m2 : Nat), .int .u64 (m3 : Nat), .int .u64 (m4 : Nat), .int .u64 (m5 : Nat), .int .u64 (m6 : Nat), .int .u64 (m7 : Nat)]) = W5 at *
  go_wp2
  exact bodyPost_ret (v := .tuple #[.agg #[.int .u64 (m0 : Nat), .int .u64 (m1 : Nat), .int .u64 (m2 : Nat), .int .u64 (m3 : Nat), .int .u64 (m4 : Nat), .int .u64 (m5 : Nat), .int .u64 (m6 : Nat), .int .u64 (m7 : Nat)], .bool true]) (by simp [results, Try.results95, go_sem, D0, D1, D2, D3, D4, D5, D6, D7]) rfl ⟨by rw [HM0.out, HM1.out, HM2.out, HM3.out, HM4.out, HM5.out, HM6.out, HM7.out], hW5⟩
set_option maxRecDepth 100000 in
set_option maxHeartbeats 2000000 in
theorem pfread_yes (big : Bool) (s : ByteArray) (w : World) (hs : s.size ≤ 1048576) (hlen : 32 ≤ s.size) :
    Calls Try.prog 95 #[.agg #[.bool big, .bool false], .string s] w fun e w' => e = .returned (.tuple #[.agg #[.int .u64 (numAt big (fullL false pfSizes 8) s.data.toList 0 : Nat), .int .u64 (numAt big (fullL false pfSizes 8) s.data.toList 6 : Nat), .int .u64 (numAt big (fullL false pfSizes 8) s.data.toList 1 : Nat), .int .u64 (numAt big (fullL false pfSizes 8) s.data.toList 2 : Nat), .int .u64 (numAt big (fullL false pfSizes 8) s.data.toList 3 : Nat), .int .u64 (numAt big (fullL false pfSizes 8) s.data.toList 4 : Nat), .int .u64 (numAt big (fullL false pfSizes 8) s.data.toList 5 : Nat), .int .u64 (numAt big (fullL false pfSizes 8) s.data.toList 7 : Nat)], .bool true]) ∧ Below w.heap.size w w' := by
  go_enter Try.func95, Try.ntmps95
  go_wp2_with fail
  refine (pffields big _).mono ?_
  rintro e w1 ⟨rfl, h1⟩
  have hW : Below w.heap.size w (w1.alloc (.cells #[.int .i64 4, .int .i64 0, .int .i64 0, .int .i64 0, .int .i64 0, .int .i64 0, .int .i64 4, .int .i64 0] 186)) := ((((Below.refl _ _).alloc (Nat.le_refl _) _).alloc (by simp) _).trans (h1.mono (by simp; omega))).alloc (by have := h1.size; simp at this ⊢; omega) _
  have F0 : (w1.alloc (.cells #[.int .i64 4, .int .i64 0, .int .i64 0, .int .i64 0, .int .i64 0, .int .i64 0, .int .i64 4, .int .i64 0] 186)).cell? ⟨w.heap.size, 0, none⟩ = some (.bool big) := by rw [cell_alloc_old (by have := h1.size; simp at this; omega), h1.cell (by simp; omega)]; simp
  have F1 : (w1.alloc (.cells #[.int .i64 4, .int .i64 0, .int .i64 0, .int .i64 0, .int .i64 0, .int .i64 0, .int .i64 4, .int .i64 0] 186)).cell? ⟨w.heap.size, 1, none⟩ = some (.bool false) := by rw [cell_alloc_old (by have := h1.size; simp at this; omega), h1.cell (by simp; omega)]; simp
  have hZ : (w1.alloc (.cells #[.int .i64 4, .int .i64 0, .int .i64 0, .int .i64 0, .int .i64 0, .int .i64 0, .int .i64 4, .int .i64 0] 186)).heap[w.heap.size + 1]? = some (.cells #[.int .u64 0, .int .u64 0, .int .u64 0, .int .u64 0, .int .u64 0, .int .u64 0, .int .u64 0, .int .u64 0] 72 (0, 0)) := by rw [Below.heap_alloc _ _ _ (by have := h1.size; simp at this; omega), h1.block _ (by simp)]; exact two_new _ _ _
  have hR : (w1.alloc (.cells #[.int .i64 4, .int .i64 0, .int .i64 0, .int .i64 0, .int .i64 0, .int .i64 0, .int .i64 4, .int .i64 0] 186)).heap[w1.heap.size]? = some (.cells (rowI64 pfSizes) 186 (0, 0)) := heap_alloc_new _ _
  have hz1 : w.heap.size + 1 < (w1.alloc (.cells #[.int .i64 4, .int .i64 0, .int .i64 0, .int .i64 0, .int .i64 0, .int .i64 0, .int .i64 4, .int .i64 0] 186)).heap.size := by have := h1.size; simp at this ⊢; omega
  have hz2 : w1.heap.size < (w1.alloc (.cells #[.int .i64 4, .int .i64 0, .int .i64 0, .int .i64 0, .int .i64 0, .int .i64 0, .int .i64 4, .int .i64 0] 186)).heap.size := by simp
  clear h1
  go_wp2
  generalize (w1.alloc (.cells #[.int .i64 4, .int .i64 0, .int .i64 0, .int .i64 0, .int .i64 0, .int .i64 0, .int .i64 4, .int .i64 0] 186)) = W at *
  have HR := Lib.hid hR; clear hR
  have HZ := Lib.hid hZ; clear hZ
  have G0 : ∀ w', Below W.heap.size W w' → w'.cell? ⟨w.heap.size, 0, none⟩ = some (.bool big) := fun w' h => by rw [h.cell (by show w.heap.size < W.heap.size; omega)]; exact F0
  have HG0 := Lib.hid G0; clear G0 F0
  have G1 : ∀ w', Below W.heap.size W w' → w'.cell? ⟨w.heap.size, 1, none⟩ = some (.bool false) := fun w' h => by rw [h.cell (by show w.heap.size < W.heap.size; omega)]; exact F1
  have HG1 := Lib.hid G1; clear G1 F1
  refine wp_region_held_drew (S := fun w' => Below W.heap.size W w') (by kernel_rfl) ?_ (fun hHeld => ?_)
  · exact (Below.refl _ _).drew
  refine wpAnyH_take (i := 0) (oi := ⟨some 12, .load 34 (.tmp 2), 34, "phdr.go:46", #[], none⟩) (v := ?_) rfl (by kernel_rfl) (by kernel_rfl) (by kernel_rfl) (fun _ _ _ h => h) (Or.inl ⟨by rfl, ?_⟩) (by assumption) ?_
  rotate_left
  · (intro w hSw; have q0 := HG0.out w hSw; have q1 := HG1.out w hSw; (try dsimp only at hSw); go_simp <;> with_reducible rfl)
  try simp only [Act.put, List.setIfInBounds_toArray, List.set_cons_zero, List.set_cons_succ]
  refine wpAnyH_take (i := 1) (oi := ⟨some 13, .move (.tmp 1), 9, "phdr.go:46", #[], none⟩) (v := ?_) rfl (by kernel_rfl) (by kernel_rfl) (by kernel_rfl) (fun _ _ _ h => h) (Or.inl ⟨by rfl, ?_⟩) (by assumption) ?_
  rotate_left
  · (intro w hSw; (try dsimp only at hSw); go_simp <;> with_reducible rfl)
  try simp only [Act.put, List.setIfInBounds_toArray, List.set_cons_zero, List.set_cons_succ]
  refine wpAnyH_take (i := 2) (oi := ⟨some 14, .slice 186 (.tmp 6) none none none, 68, "phdr.go:46", #[], none⟩) (v := ?_) rfl (by kernel_rfl) (by kernel_rfl) (by kernel_rfl) (fun _ _ _ h => h) (Or.inl ⟨by rfl, ?_⟩) (by assumption) ?_
  rotate_left
  · (intro w hSw; (try dsimp only at hSw); go_simp <;> with_reducible rfl)
  try simp only [Act.put, List.setIfInBounds_toArray, List.set_cons_zero, List.set_cons_succ]
  refine wpAnyH_ready (rs := [3]) (by kernel_rfl) (by simp) ?_
  refine AllReadyH.cons (o := ⟨some 15, .call { callee := .value (.func 125), args := #[.tmp 12, .tmp 13, .tmp 14], argTypes := #[34, 9, 68] }, 230, "phdr.go:46", #[⟨0, .data⟩, ⟨1, .data⟩, ⟨2, .data⟩], none⟩) rfl (fun K hK => ?_) AllReadyH.nil
  (first | go_at_call 125 | (go_simp; go_at_call 125))
  (with_reducible refine (recRead_yes big false (some ⟨w1.heap.size, 0, none⟩) 8 8 pfSizes s _ (by decide) hs ((RowI.of_rowT hz2 HR.out).kept hHeld (Nat.le_refl _)) pf_ok (by rw [pf_off]; exact hlen)).mono ?_)
  rintro e w3 ⟨b3, hb3, hc3, rfl, hrow3, hg3⟩
  try go_wp2_with fail
  refine hK.out _ _ ?_ (fun hHeld2 => ?_)
  · exact hHeld.trans (hg3.mono hHeld.size)
  clear hK K
  try simp only [Act.put, List.setIfInBounds_toArray, List.set_cons_zero, List.set_cons_succ]
  refine wpAnyH_take (i := 4) (oi := ⟨some 11, .move (.tmp 15), 230, "phdr.go:46", #[⟨3, .data⟩], none⟩) (v := ?_) rfl (by kernel_rfl) (by kernel_rfl) (by kernel_rfl) (fun _ _ _ h => h) (Or.inl ⟨by rfl, ?_⟩) (by assumption) ?_
  rotate_left
  · (intro w hSw; (try dsimp only at hSw); go_simp <;> with_reducible rfl)
  try simp only [Act.put, List.setIfInBounds_toArray, List.set_cons_zero, List.set_cons_succ]
  refine wpAnyH_take (i := 5) (oi := ⟨some 16, .extract (.tmp 11) 0, 76, "phdr.go:46", #[⟨4, .data⟩], none⟩) (v := ?_) rfl (by kernel_rfl) (by kernel_rfl) (by kernel_rfl) (fun _ _ _ h => h) (Or.inl ⟨by rfl, ?_⟩) (by assumption) ?_
  rotate_left
  · (intro w hSw; (try dsimp only at hSw); go_simp <;> with_reducible rfl)
  try simp only [Act.put, List.setIfInBounds_toArray, List.set_cons_zero, List.set_cons_succ]
  refine wpAnyH_take (i := 6) (oi := ⟨some 17, .extract (.tmp 11) 1, 4, "phdr.go:46", #[⟨4, .data⟩, ⟨7, .gcOnly .lateStores⟩], none⟩) (v := ?_) rfl (by kernel_rfl) (by kernel_rfl) (by kernel_rfl) (fun _ _ _ h => h) (Or.inl ⟨by rfl, ?_⟩) (by assumption) ?_
  rotate_left
  · (intro w hSw; (try dsimp only at hSw); go_simp <;> with_reducible rfl)
  try simp only [Act.put, List.setIfInBounds_toArray, List.set_cons_zero, List.set_cons_succ]
  refine wpAnyH_take (i := 7) (oi := ⟨some 7, .assign (.tmp 16), 76, "phdr.go:46", #[⟨5, .data⟩, ⟨3, .chain⟩, ⟨0, .phase⟩, ⟨1, .phase⟩, ⟨2, .phase⟩, ⟨3, .phase⟩, ⟨4, .phase⟩, ⟨5, .phase⟩, ⟨6, .textOnly .lateStores⟩], none⟩) (v := ?_) rfl (by kernel_rfl) (by kernel_rfl) (by kernel_rfl) (fun _ _ _ h => h) (Or.inl ⟨by rfl, ?_⟩) (by assumption) ?_
  rotate_left
  · (intro w hSw; (try dsimp only at hSw); go_simp <;> with_reducible rfl)
  try simp only [Act.put, List.setIfInBounds_toArray, List.set_cons_zero, List.set_cons_succ]
  refine wpAnyH_take (i := 8) (oi := ⟨some 8, .assign (.tmp 17), 4, "phdr.go:46", #[⟨6, .data⟩, ⟨7, .chain⟩, ⟨0, .phase⟩, ⟨1, .phase⟩, ⟨2, .phase⟩, ⟨3, .phase⟩, ⟨4, .phase⟩, ⟨5, .phase⟩, ⟨6, .phase⟩, ⟨7, .phase⟩], none⟩) (v := ?_) rfl (by kernel_rfl) (by kernel_rfl) (by kernel_rfl) (fun _ _ _ h => h) (Or.inl ⟨by rfl, ?_⟩) (by assumption) ?_
  rotate_left
  · (intro w hSw; (try dsimp only at hSw); go_simp <;> with_reducible rfl)
  try simp only [Act.put, List.setIfInBounds_toArray, List.set_cons_zero, List.set_cons_succ]
  refine wpAnyH_done (by kernel_rfl) ?_ _
  have hz3 : w3.heap[w.heap.size + 1]? = some (.cells #[.int .u64 0, .int .u64 0, .int .u64 0, .int .u64 0, .int .u64 0, .int .u64 0, .int .u64 0, .int .u64 0] 72 (0, 0)) := by rw [hHeld2.block _ hz1]; exact HZ.out
  have hwd : w3.cell? ⟨w.heap.size, 1, none⟩ = some (.bool false) := HG1.out w3 hHeld2
  have hb3' : W.heap.size ≤ b3 := hb3
  have HROW := Lib.hid hrow3; clear hrow3
  have hw3 : Below w.heap.size w w3 := hW.trans (hHeld2.mono hW.size)
  clear hb3 hHeld hHeld2 hg3 HG0 HG1 HZ HR
  have HZ3 := Lib.hid hz3; clear hz3
  have C0 : w3.cell? ⟨b3, 0, none⟩ = some (.int .u64 (numAt big (fullL false pfSizes 8) s.data.toList 0 : Nat)) := cell_of_rowU HROW.out 0 (by rw [numsTo_length]; decide)
  have C1 : w3.cell? ⟨b3, 1, none⟩ = some (.int .u64 (numAt big (fullL false pfSizes 8) s.data.toList 1 : Nat)) := cell_of_rowU HROW.out 1 (by rw [numsTo_length]; decide)
  have C2 : w3.cell? ⟨b3, 2, none⟩ = some (.int .u64 (numAt big (fullL false pfSizes 8) s.data.toList 2 : Nat)) := cell_of_rowU HROW.out 2 (by rw [numsTo_length]; decide)
  have C3 : w3.cell? ⟨b3, 3, none⟩ = some (.int .u64 (numAt big (fullL false pfSizes 8) s.data.toList 3 : Nat)) := cell_of_rowU HROW.out 3 (by rw [numsTo_length]; decide)
  have C4 : w3.cell? ⟨b3, 4, none⟩ = some (.int .u64 (numAt big (fullL false pfSizes 8) s.data.toList 4 : Nat)) := cell_of_rowU HROW.out 4 (by rw [numsTo_length]; decide)
  have C5 : w3.cell? ⟨b3, 5, none⟩ = some (.int .u64 (numAt big (fullL false pfSizes 8) s.data.toList 5 : Nat)) := cell_of_rowU HROW.out 5 (by rw [numsTo_length]; decide)
  have C6 : w3.cell? ⟨b3, 6, none⟩ = some (.int .u64 (numAt big (fullL false pfSizes 8) s.data.toList 6 : Nat)) := cell_of_rowU HROW.out 6 (by rw [numsTo_length]; decide)
  have C7 : w3.cell? ⟨b3, 7, none⟩ = some (.int .u64 (numAt big (fullL false pfSizes 8) s.data.toList 7 : Nat)) := cell_of_rowU HROW.out 7 (by rw [numsTo_length]; decide)
  generalize hm0 : numAt big (fullL false pfSizes 8) s.data.toList 0 = m0 at *; have HM0 := Lib.hid hm0; clear hm0
  generalize hm1 : numAt big (fullL false pfSizes 8) s.data.toList 1 = m1 at *; have HM1 := Lib.hid hm1; clear hm1
  generalize hm2 : numAt big (fullL false pfSizes 8) s.data.toList 2 = m2 at *; have HM2 := Lib.hid hm2; clear hm2
  generalize hm3 : numAt big (fullL false pfSizes 8) s.data.toList 3 = m3 at *; have HM3 := Lib.hid hm3; clear hm3
  generalize hm4 : numAt big (fullL false pfSizes 8) s.data.toList 4 = m4 at *; have HM4 := Lib.hid hm4; clear hm4
  generalize hm5 : numAt big (fullL false pfSizes 8) s.data.toList 5 = m5 at *; have HM5 := Lib.hid hm5; clear hm5
  generalize hm6 : numAt big (fullL false pfSizes 8) s.data.toList 6 = m6 at *; have HM6 := Lib.hid hm6; clear hm6
  generalize hm7 : numAt big (fullL false pfSizes 8) s.data.toList 7 = m7 at *; have HM7 := Lib.hid hm7; clear hm7
  go_wp2
  have G0 : ∀ w' : World, w'.heap[b3]? = w3.heap[b3]? → w'.cell? ⟨b3, 0, none⟩ = some (.int .u64 (m0 : Nat)) := fun w' h => by rw [World.cell?_of_block (w := w3) h]; exact C0
  have HG0 := Lib.hid G0; clear G0 C0
  have G1 : ∀ w' : World, w'.heap[b3]? = w3.heap[b3]? → w'.cell? ⟨b3, 1, none⟩ = some (.int .u64 (m1 : Nat)) := fun w' h => by rw [World.cell?_of_block (w := w3) h]; exact C1
  have HG1 := Lib.hid G1; clear G1 C1
  have G2 : ∀ w' : World, w'.heap[b3]? = w3.heap[b3]? → w'.cell? ⟨b3, 2, none⟩ = some (.int .u64 (m2 : Nat)) := fun w' h => by rw [World.cell?_of_block (w := w3) h]; exact C2
  have HG2 := Lib.hid G2; clear G2 C2
  have G3 : ∀ w' : World, w'.heap[b3]? = w3.heap[b3]? → w'.cell? ⟨b3, 3, none⟩ = some (.int .u64 (m3 : Nat)) := fun w' h => by rw [World.cell?_of_block (w := w3) h]; exact C3
  have HG3 := Lib.hid G3; clear G3 C3
  have G4 : ∀ w' : World, w'.heap[b3]? = w3.heap[b3]? → w'.cell? ⟨b3, 4, none⟩ = some (.int .u64 (m4 : Nat)) := fun w' h => by rw [World.cell?_of_block (w := w3) h]; exact C4
  have HG4 := Lib.hid G4; clear G4 C4
  have G5 : ∀ w' : World, w'.heap[b3]? = w3.heap[b3]? → w'.cell? ⟨b3, 5, none⟩ = some (.int .u64 (m5 : Nat)) := fun w' h => by rw [World.cell?_of_block (w := w3) h]; exact C5
  have HG5 := Lib.hid G5; clear G5 C5
  have G6 : ∀ w' : World, w'.heap[b3]? = w3.heap[b3]? → w'.cell? ⟨b3, 6, none⟩ = some (.int .u64 (m6 : Nat)) := fun w' h => by rw [World.cell?_of_block (w := w3) h]; exact C6
  have HG6 := Lib.hid G6; clear G6 C6
  have G7 : ∀ w' : World, w'.heap[b3]? = w3.heap[b3]? → w'.cell? ⟨b3, 7, none⟩ = some (.int .u64 (m7 : Nat)) := fun w' h => by rw [World.cell?_of_block (w := w3) h]; exact C7
  have HG7 := Lib.hid G7; clear G7 C7
  refine wp_region_held_drew (S := fun w' => w'.heap[b3]? = w3.heap[b3]?) (by kernel_rfl) ?_ (fun hHeldA => ?_)
  · rfl
  refine wpAnyH_take (i := 0) (oi := ⟨some 48, .move (.tmp 7), 76, "phdr.go:56", #[], none⟩) (v := ?_) rfl (by kernel_rfl) (by kernel_rfl) (by kernel_rfl) (fun _ _ _ h => h) (Or.inl ⟨by rfl, ?_⟩) (by assumption) ?_
  rotate_left
  · (intro w hSw; (try dsimp only at hSw); go_simp <;> with_reducible rfl)
  try simp only [Act.put, List.setIfInBounds_toArray, List.set_cons_zero, List.set_cons_succ]
  refine wpAnyH_take (i := 1) (oi := ⟨some 49, .indexAddr 76 (.tmp 48) (.const (.int .i64 0)), 0, "phdr.go:56", #[⟨0, .data⟩], none⟩) (v := ?_) rfl (by kernel_rfl) (by kernel_rfl) (by kernel_rfl) (fun _ _ _ h => h) (Or.inl ⟨by rfl, ?_⟩) (by assumption) ?_
  rotate_left
  · (intro w hSw; (try dsimp only at hSw); go_simp <;> with_reducible rfl)
  try simp only [Act.put, List.setIfInBounds_toArray, List.set_cons_zero, List.set_cons_succ]
  refine wpAnyH_take (i := 2) (oi := ⟨some 50, .load 29 (.tmp 49), 29, "phdr.go:56", #[⟨1, .data⟩], none⟩) (v := ?_) rfl (by kernel_rfl) (by kernel_rfl) (by kernel_rfl) (fun _ _ _ h => h) (Or.inl ⟨by rfl, ?_⟩) (by assumption) ?_
  rotate_left
  · (intro w hSw; have q0 := HG0.out w hSw; (try dsimp only at hSw); go_simp <;> with_reducible rfl)
  try simp only [Act.put, List.setIfInBounds_toArray, List.set_cons_zero, List.set_cons_succ]
  refine wpAnyH_take (i := 3) (oi := ⟨some 51, .move (.tmp 7), 76, "phdr.go:56", #[], none⟩) (v := ?_) rfl (by kernel_rfl) (by kernel_rfl) (by kernel_rfl) (fun _ _ _ h => h) (Or.inl ⟨by rfl, ?_⟩) (by assumption) ?_
  rotate_left
  · (intro w hSw; (try dsimp only at hSw); go_simp <;> with_reducible rfl)
  try simp only [Act.put, List.setIfInBounds_toArray, List.set_cons_zero, List.set_cons_succ]
  refine wpAnyH_take (i := 4) (oi := ⟨some 52, .indexAddr 76 (.tmp 51) (.const (.int .i64 1)), 0, "phdr.go:56", #[⟨3, .data⟩], none⟩) (v := ?_) rfl (by kernel_rfl) (by kernel_rfl) (by kernel_rfl) (fun _ _ _ h => h) (Or.inl ⟨by rfl, ?_⟩) (by assumption) ?_
  rotate_left
  · (intro w hSw; (try dsimp only at hSw); go_simp <;> with_reducible rfl)
  try simp only [Act.put, List.setIfInBounds_toArray, List.set_cons_zero, List.set_cons_succ]
  refine wpAnyH_take (i := 5) (oi := ⟨some 53, .load 29 (.tmp 52), 29, "phdr.go:56", #[⟨4, .data⟩], none⟩) (v := ?_) rfl (by kernel_rfl) (by kernel_rfl) (by kernel_rfl) (fun _ _ _ h => h) (Or.inl ⟨by rfl, ?_⟩) (by assumption) ?_
  rotate_left
  · (intro w hSw; have q0 := HG1.out w hSw; (try dsimp only at hSw); go_simp <;> with_reducible rfl)
  try simp only [Act.put, List.setIfInBounds_toArray, List.set_cons_zero, List.set_cons_succ]
  refine wpAnyH_take (i := 6) (oi := ⟨some 54, .move (.tmp 7), 76, "phdr.go:56", #[], none⟩) (v := ?_) rfl (by kernel_rfl) (by kernel_rfl) (by kernel_rfl) (fun _ _ _ h => h) (Or.inl ⟨by rfl, ?_⟩) (by assumption) ?_
  rotate_left
  · (intro w hSw; (try dsimp only at hSw); go_simp <;> with_reducible rfl)
  try simp only [Act.put, List.setIfInBounds_toArray, List.set_cons_zero, List.set_cons_succ]
  refine wpAnyH_take (i := 7) (oi := ⟨some 55, .indexAddr 76 (.tmp 54) (.const (.int .i64 2)), 0, "phdr.go:56", #[⟨6, .data⟩], none⟩) (v := ?_) rfl (by kernel_rfl) (by kernel_rfl) (by kernel_rfl) (fun _ _ _ h => h) (Or.inl ⟨by rfl, ?_⟩) (by assumption) ?_
  rotate_left
  · (intro w hSw; (try dsimp only at hSw); go_simp <;> with_reducible rfl)
  try simp only [Act.put, List.setIfInBounds_toArray, List.set_cons_zero, List.set_cons_succ]
  refine wpAnyH_take (i := 8) (oi := ⟨some 56, .load 29 (.tmp 55), 29, "phdr.go:56", #[⟨7, .data⟩], none⟩) (v := ?_) rfl (by kernel_rfl) (by kernel_rfl) (by kernel_rfl) (fun _ _ _ h => h) (Or.inl ⟨by rfl, ?_⟩) (by assumption) ?_
  rotate_left
  · (intro w hSw; have q0 := HG2.out w hSw; (try dsimp only at hSw); go_simp <;> with_reducible rfl)
  try simp only [Act.put, List.setIfInBounds_toArray, List.set_cons_zero, List.set_cons_succ]
  refine wpAnyH_take (i := 9) (oi := ⟨some 57, .move (.tmp 7), 76, "phdr.go:56", #[], none⟩) (v := ?_) rfl (by kernel_rfl) (by kernel_rfl) (by kernel_rfl) (fun _ _ _ h => h) (Or.inl ⟨by rfl, ?_⟩) (by assumption) ?_
  rotate_left
  · (intro w hSw; (try dsimp only at hSw); go_simp <;> with_reducible rfl)
  try simp only [Act.put, List.setIfInBounds_toArray, List.set_cons_zero, List.set_cons_succ]
  refine wpAnyH_take (i := 10) (oi := ⟨some 58, .indexAddr 76 (.tmp 57) (.const (.int .i64 3)), 0, "phdr.go:56", #[⟨9, .data⟩], none⟩) (v := ?_) rfl (by kernel_rfl) (by kernel_rfl) (by kernel_rfl) (fun _ _ _ h => h) (Or.inl ⟨by rfl, ?_⟩) (by assumption) ?_
  rotate_left
  · (intro w hSw; (try dsimp only at hSw); go_simp <;> with_reducible rfl)
  try simp only [Act.put, List.setIfInBounds_toArray, List.set_cons_zero, List.set_cons_succ]
  refine wpAnyH_take (i := 11) (oi := ⟨some 59, .load 29 (.tmp 58), 29, "phdr.go:56", #[⟨10, .data⟩], none⟩) (v := ?_) rfl (by kernel_rfl) (by kernel_rfl) (by kernel_rfl) (fun _ _ _ h => h) (Or.inl ⟨by rfl, ?_⟩) (by assumption) ?_
  rotate_left
  · (intro w hSw; have q0 := HG3.out w hSw; (try dsimp only at hSw); go_simp <;> with_reducible rfl)
  try simp only [Act.put, List.setIfInBounds_toArray, List.set_cons_zero, List.set_cons_succ]
  refine wpAnyH_take (i := 12) (oi := ⟨some 60, .move (.tmp 7), 76, "phdr.go:56", #[], none⟩) (v := ?_) rfl (by kernel_rfl) (by kernel_rfl) (by kernel_rfl) (fun _ _ _ h => h) (Or.inl ⟨by rfl, ?_⟩) (by assumption) ?_
  rotate_left
  · (intro w hSw; (try dsimp only at hSw); go_simp <;> with_reducible rfl)
  try simp only [Act.put, List.setIfInBounds_toArray, List.set_cons_zero, List.set_cons_succ]
  refine wpAnyH_take (i := 13) (oi := ⟨some 61, .indexAddr 76 (.tmp 60) (.const (.int .i64 4)), 0, "phdr.go:56", #[⟨12, .data⟩], none⟩) (v := ?_) rfl (by kernel_rfl) (by kernel_rfl) (by kernel_rfl) (fun _ _ _ h => h) (Or.inl ⟨by rfl, ?_⟩) (by assumption) ?_
  rotate_left
  · (intro w hSw; (try dsimp only at hSw); go_simp <;> with_reducible rfl)
  try simp only [Act.put, List.setIfInBounds_toArray, List.set_cons_zero, List.set_cons_succ]
  refine wpAnyH_take (i := 14) (oi := ⟨some 62, .load 29 (.tmp 61), 29, "phdr.go:56", #[⟨13, .data⟩], none⟩) (v := ?_) rfl (by kernel_rfl) (by kernel_rfl) (by kernel_rfl) (fun _ _ _ h => h) (Or.inl ⟨by rfl, ?_⟩) (by assumption) ?_
  rotate_left
  · (intro w hSw; have q0 := HG4.out w hSw; (try dsimp only at hSw); go_simp <;> with_reducible rfl)
  try simp only [Act.put, List.setIfInBounds_toArray, List.set_cons_zero, List.set_cons_succ]
  refine wpAnyH_take (i := 15) (oi := ⟨some 63, .move (.tmp 7), 76, "phdr.go:56", #[], none⟩) (v := ?_) rfl (by kernel_rfl) (by kernel_rfl) (by kernel_rfl) (fun _ _ _ h => h) (Or.inl ⟨by rfl, ?_⟩) (by assumption) ?_
  rotate_left
  · (intro w hSw; (try dsimp only at hSw); go_simp <;> with_reducible rfl)
  try simp only [Act.put, List.setIfInBounds_toArray, List.set_cons_zero, List.set_cons_succ]
  refine wpAnyH_take (i := 16) (oi := ⟨some 64, .indexAddr 76 (.tmp 63) (.const (.int .i64 5)), 0, "phdr.go:56", #[⟨15, .data⟩], none⟩) (v := ?_) rfl (by kernel_rfl) (by kernel_rfl) (by kernel_rfl) (fun _ _ _ h => h) (Or.inl ⟨by rfl, ?_⟩) (by assumption) ?_
  rotate_left
  · (intro w hSw; (try dsimp only at hSw); go_simp <;> with_reducible rfl)
  try simp only [Act.put, List.setIfInBounds_toArray, List.set_cons_zero, List.set_cons_succ]
  refine wpAnyH_take (i := 17) (oi := ⟨some 65, .load 29 (.tmp 64), 29, "phdr.go:56", #[⟨16, .data⟩], none⟩) (v := ?_) rfl (by kernel_rfl) (by kernel_rfl) (by kernel_rfl) (fun _ _ _ h => h) (Or.inl ⟨by rfl, ?_⟩) (by assumption) ?_
  rotate_left
  · (intro w hSw; have q0 := HG5.out w hSw; (try dsimp only at hSw); go_simp <;> with_reducible rfl)
  try simp only [Act.put, List.setIfInBounds_toArray, List.set_cons_zero, List.set_cons_succ]
  refine wpAnyH_take (i := 18) (oi := ⟨some 66, .move (.tmp 7), 76, "phdr.go:56", #[], none⟩) (v := ?_) rfl (by kernel_rfl) (by kernel_rfl) (by kernel_rfl) (fun _ _ _ h => h) (Or.inl ⟨by rfl, ?_⟩) (by assumption) ?_
  rotate_left
  · (intro w hSw; (try dsimp only at hSw); go_simp <;> with_reducible rfl)
  try simp only [Act.put, List.setIfInBounds_toArray, List.set_cons_zero, List.set_cons_succ]
  refine wpAnyH_take (i := 19) (oi := ⟨some 67, .indexAddr 76 (.tmp 66) (.const (.int .i64 6)), 0, "phdr.go:56", #[⟨18, .data⟩], none⟩) (v := ?_) rfl (by kernel_rfl) (by kernel_rfl) (by kernel_rfl) (fun _ _ _ h => h) (Or.inl ⟨by rfl, ?_⟩) (by assumption) ?_
  rotate_left
  · (intro w hSw; (try dsimp only at hSw); go_simp <;> with_reducible rfl)
  try simp only [Act.put, List.setIfInBounds_toArray, List.set_cons_zero, List.set_cons_succ]
  refine wpAnyH_take (i := 20) (oi := ⟨some 68, .load 29 (.tmp 67), 29, "phdr.go:56", #[⟨19, .data⟩], none⟩) (v := ?_) rfl (by kernel_rfl) (by kernel_rfl) (by kernel_rfl) (fun _ _ _ h => h) (Or.inl ⟨by rfl, ?_⟩) (by assumption) ?_
  rotate_left
  · (intro w hSw; have q0 := HG6.out w hSw; (try dsimp only at hSw); go_simp <;> with_reducible rfl)
  try simp only [Act.put, List.setIfInBounds_toArray, List.set_cons_zero, List.set_cons_succ]
  refine wpAnyH_take (i := 21) (oi := ⟨some 69, .move (.tmp 7), 76, "phdr.go:56", #[], none⟩) (v := ?_) rfl (by kernel_rfl) (by kernel_rfl) (by kernel_rfl) (fun _ _ _ h => h) (Or.inl ⟨by rfl, ?_⟩) (by assumption) ?_
  rotate_left
  · (intro w hSw; (try dsimp only at hSw); go_simp <;> with_reducible rfl)
  try simp only [Act.put, List.setIfInBounds_toArray, List.set_cons_zero, List.set_cons_succ]
  refine wpAnyH_take (i := 22) (oi := ⟨some 70, .indexAddr 76 (.tmp 69) (.const (.int .i64 7)), 0, "phdr.go:56", #[⟨21, .data⟩], none⟩) (v := ?_) rfl (by kernel_rfl) (by kernel_rfl) (by kernel_rfl) (fun _ _ _ h => h) (Or.inl ⟨by rfl, ?_⟩) (by assumption) ?_
  rotate_left
  · (intro w hSw; (try dsimp only at hSw); go_simp <;> with_reducible rfl)
  try simp only [Act.put, List.setIfInBounds_toArray, List.set_cons_zero, List.set_cons_succ]
  refine wpAnyH_take (i := 23) (oi := ⟨some 71, .load 29 (.tmp 70), 29, "phdr.go:56", #[⟨22, .data⟩], none⟩) (v := ?_) rfl (by kernel_rfl) (by kernel_rfl) (by kernel_rfl) (fun _ _ _ h => h) (Or.inl ⟨by rfl, ?_⟩) (by assumption) ?_
  rotate_left
  · (intro w hSw; have q0 := HG7.out w hSw; (try dsimp only at hSw); go_simp <;> with_reducible rfl)
  try simp only [Act.put, List.setIfInBounds_toArray, List.set_cons_zero, List.set_cons_succ]
  refine wpAnyH_take (i := 24) (oi := ⟨some 72, .build 72 #[(0, .tmp 50), (2, .tmp 53), (3, .tmp 56), (4, .tmp 59), (5, .tmp 62), (6, .tmp 65), (1, .tmp 68), (7, .tmp 71)], 72, "phdr.go:56", #[⟨2, .data⟩, ⟨5, .data⟩, ⟨8, .data⟩, ⟨11, .data⟩, ⟨14, .data⟩, ⟨17, .data⟩, ⟨20, .data⟩, ⟨23, .data⟩], none⟩) (v := ?_) rfl (by kernel_rfl) (by kernel_rfl) (by kernel_rfl) (fun _ _ _ h => h) (Or.inl ⟨by rfl, ?_⟩) (by assumption) ?_
  rotate_left
  · (intro w hSw; (try dsimp only at hSw); go_simp <;> with_reducible rfl)
  try simp only [Act.put, List.setIfInBounds_toArray, List.set_cons_zero, List.set_cons_succ]
  refine wpAnyH_ready (rs := [25]) (by kernel_rfl) (by simp) ?_
  refine AllReadyH.cons (o := ⟨none, .store 72 (.tmp 4) (.tmp 72), 0, "phdr.go:56", #[⟨24, .data⟩, ⟨0, .phase⟩, ⟨1, .phase⟩, ⟨2, .phase⟩, ⟨3, .phase⟩, ⟨4, .phase⟩, ⟨5, .phase⟩, ⟨6, .phase⟩, ⟨7, .phase⟩, ⟨8, .phase⟩, ⟨9, .phase⟩, ⟨10, .phase⟩, ⟨11, .phase⟩, ⟨12, .phase⟩, ⟨13, .phase⟩, ⟨14, .phase⟩, ⟨15, .phase⟩, ⟨16, .phase⟩, ⟨17, .phase⟩, ⟨18, .phase⟩, ⟨19, .phase⟩, ⟨20, .phase⟩, ⟨21, .phase⟩, ⟨22, .phase⟩, ⟨23, .phase⟩, ⟨24, .phase⟩], none⟩) rfl (fun K hK => ?_) AllReadyH.nil
  refine wp_store_row 72 _ _ rfl (w.heap.size + 1) #[.int .u64 (m0 : Nat), .int .u64 (m6 : Nat), .int .u64 (m1 : Nat), .int .u64 (m2 : Nat), .int .u64 (m3 : Nat), .int .u64 (m4 : Nat), .int .u64 (m5 : Nat), .int .u64 (m7 : Nat)] (by rfl) (by rfl) 72 #[.int .u64 0, .int .u64 0, .int .u64 0, .int .u64 0, .int .u64 0, .int .u64 0, .int .u64 0, .int .u64 0] HZ3.out (by kernel_rfl) rfl (by simp [Value.oneCell']) ?_
  refine hK.out _ _ ?_ (fun hHeldB => ?_)
  · exact setRow_other _ _ _ _ (by omega)
  clear hK K
  try simp only [Act.put]
  refine wpAnyH_take (i := 26) (oi := ⟨some 5, .assign (.const (.bool true)), 4, "phdr.go:56", #[⟨25, .chain⟩, ⟨0, .phase⟩, ⟨1, .phase⟩, ⟨2, .phase⟩, ⟨3, .phase⟩, ⟨4, .phase⟩, ⟨5, .phase⟩, ⟨6, .phase⟩, ⟨7, .phase⟩, ⟨8, .phase⟩, ⟨9, .phase⟩, ⟨10, .phase⟩, ⟨11, .phase⟩, ⟨12, .phase⟩, ⟨13, .phase⟩, ⟨14, .phase⟩, ⟨15, .phase⟩, ⟨16, .phase⟩, ⟨17, .phase⟩, ⟨18, .phase⟩, ⟨19, .phase⟩, ⟨20, .phase⟩, ⟨21, .phase⟩, ⟨22, .phase⟩, ⟨23, .phase⟩, ⟨24, .phase⟩, ⟨25, .phase⟩], none⟩) (v := ?_) rfl (by kernel_rfl) (by kernel_rfl) (by kernel_rfl) (fun _ _ _ h => h) (Or.inl ⟨by rfl, ?_⟩) (by assumption) ?_
  rotate_left
  · (intro w hSw; (try dsimp only at hSw); go_simp <;> with_reducible rfl)
  try simp only [Act.put, List.setIfInBounds_toArray, List.set_cons_zero, List.set_cons_succ]
  refine wpAnyH_done (by kernel_rfl) ?_ _
  have hW5 : Below w.heap.size w (w3.drew.setRow (w.heap.size + 1) #[.int .u64 (m0 : Nat), .int .u64 (m6 : Nat), .int .u64 (m1 : Nat), .int .u64 (m2 : Nat), .int .u64 (m3 : Nat), .int .u64 (m4 : Nat), .int .u64 (m5 : Nat), .int .u64 (m7 : Nat)]) := below_setRow hw3.drew (by omega) _
  have D0 : (w3.drew.setRow (w.heap.size + 1) #[.int .u64 (m0 : Nat), .int .u64 (m6 : Nat), .int .u64 (m1 : Nat), .int .u64 (m2 : Nat), .int .u64 (m3 : Nat), .int .u64 (m4 : Nat), .int .u64 (m5 : Nat), .int .u64 (m7 : Nat)]).cell? ⟨w.heap.size + 1, 0, none⟩ = some (.int .u64 (m0 : Nat)) := by rw [cell_setRow_same w3.drew _ 0 #[.int .u64 0, .int .u64 0, .int .u64 0, .int .u64 0, .int .u64 0, .int .u64 0, .int .u64 0, .int .u64 0] _ 72 (0, 0) HZ3.out]; rfl
  have D1 : (w3.drew.setRow (w.heap.size + 1) #[.int .u64 (m0 : Nat), .int .u64 (m6 : Nat), .int .u64 (m1 : Nat), .int .u64 (m2 : Nat), .int .u64 (m3 : Nat), .int .u64 (m4 : Nat), .int .u64 (m5 : Nat), .int .u64 (m7 : Nat)]).cell? ⟨w.heap.size + 1, 1, none⟩ = some (.int .u64 (m6 : Nat)) := by rw [cell_setRow_same w3.drew _ 1 #[.int .u64 0, .int .u64 0, .int .u64 0, .int .u64 0, .int .u64 0, .int .u64 0, .int .u64 0, .int .u64 0] _ 72 (0, 0) HZ3.out]; rfl
  have D2 : (w3.drew.setRow (w.heap.size + 1) #[.int .u64 (m0 : Nat), .int .u64 (m6 : Nat), .int .u64 (m1 : Nat), .int .u64 (m2 : Nat), .int .u64 (m3 : Nat), .int .u64 (m4 : Nat), .int .u64 (m5 : Nat), .int .u64 (m7 : Nat)]).cell? ⟨w.heap.size + 1, 2, none⟩ = some (.int .u64 (m1 : Nat)) := by rw [cell_setRow_same w3.drew _ 2 #[.int .u64 0, .int .u64 0, .int .u64 0, .int .u64 0, .int .u64 0, .int .u64 0, .int .u64 0, .int .u64 0] _ 72 (0, 0) HZ3.out]; rfl
  have D3 : (w3.drew.setRow (w.heap.size + 1) #[.int .u64 (m0 : Nat), .int .u64 (m6 : Nat), .int .u64 (m1 : Nat), .int .u64 (m2 : Nat), .int .u64 (m3 : Nat), .int .u64 (m4 : Nat), .int .u64 (m5 : Nat), .int .u64 (m7 : Nat)]).cell? ⟨w.heap.size + 1, 3, none⟩ = some (.int .u64 (m2 : Nat)) := by rw [cell_setRow_same w3.drew _ 3 #[.int .u64 0, .int .u64 0, .int .u64 0, .int .u64 0, .int .u64 0, .int .u64 0, .int .u64 0, .int .u64 0] _ 72 (0, 0) HZ3.out]; rfl
  have D4 : (w3.drew.setRow (w.heap.size + 1) #[.int .u64 (m0 : Nat), .int .u64 (m6 : Nat), .int .u64 (m1 : Nat), .int .u64 (m2 : Nat), .int .u64 (m3 : Nat), .int .u64 (m4 : Nat), .int .u64 (m5 : Nat), .int .u64 (m7 : Nat)]).cell? ⟨w.heap.size + 1, 4, none⟩ = some (.int .u64 (m3 : Nat)) := by rw [cell_setRow_same w3.drew _ 4 #[.int .u64 0, .int .u64 0, .int .u64 0, .int .u64 0, .int .u64 0, .int .u64 0, .int .u64 0, .int .u64 0] _ 72 (0, 0) HZ3.out]; rfl
  have D5 : (w3.drew.setRow (w.heap.size + 1) #[.int .u64 (m0 : Nat), .int .u64 (m6 : Nat), .int .u64 (m1 : Nat), .int .u64 (m2 : Nat), .int .u64 (m3 : Nat), .int .u64 (m4 : Nat), .int .u64 (m5 : Nat), .int .u64 (m7 : Nat)]).cell? ⟨w.heap.size + 1, 5, none⟩ = some (.int .u64 (m4 : Nat)) := by rw [cell_setRow_same w3.drew _ 5 #[.int .u64 0, .int .u64 0, .int .u64 0, .int .u64 0, .int .u64 0, .int .u64 0, .int .u64 0, .int .u64 0] _ 72 (0, 0) HZ3.out]; rfl
  have D6 : (w3.drew.setRow (w.heap.size + 1) #[.int .u64 (m0 : Nat), .int .u64 (m6 : Nat), .int .u64 (m1 : Nat), .int .u64 (m2 : Nat), .int .u64 (m3 : Nat), .int .u64 (m4 : Nat), .int .u64 (m5 : Nat), .int .u64 (m7 : Nat)]).cell? ⟨w.heap.size + 1, 6, none⟩ = some (.int .u64 (m5 : Nat)) := by rw [cell_setRow_same w3.drew _ 6 #[.int .u64 0, .int .u64 0, .int .u64 0, .int .u64 0, .int .u64 0, .int .u64 0, .int .u64 0, .int .u64 0] _ 72 (0, 0) HZ3.out]; rfl
  have D7 : (w3.drew.setRow (w.heap.size + 1) #[.int .u64 (m0 : Nat), .int .u64 (m6 : Nat), .int .u64 (m1 : Nat), .int .u64 (m2 : Nat), .int .u64 (m3 : Nat), .int .u64 (m4 : Nat), .int .u64 (m5 : Nat), .int .u64 (m7 : Nat)]).cell? ⟨w.heap.size + 1, 7, none⟩ = some (.int .u64 (m7 : Nat)) := by rw [cell_setRow_same w3.drew _ 7 #[.int .u64 0, .int .u64 0, .int .u64 0, .int .u64 0, .int .u64 0, .int .u64 0, .int .u64 0, .int .u64 0] _ 72 (0, 0) HZ3.out]; rfl
  generalize (w3.drew.setRow (w.heap.size + 1) #[.int .u64 (m0 : Nat), .int .u64 (m6 : Nat), .int .u64 (m1 : Nat), .int .u64 (m2 : Nat), .int .u64 (m3 : Nat), .int .u64 (m4 : Nat), .int .u64 (m5 : Nat), .int .u64 (m7 : Nat)]) = W5 at *
  go_wp2
  exact bodyPost_ret (v := .tuple #[.agg #[.int .u64 (m0 : Nat), .int .u64 (m6 : Nat), .int .u64 (m1 : Nat), .int .u64 (m2 : Nat), .int .u64 (m3 : Nat), .int .u64 (m4 : Nat), .int .u64 (m5 : Nat), .int .u64 (m7 : Nat)], .bool true]) (by simp [results, Try.results95, go_sem, D0, D1, D2, D3, D4, D5, D6, D7]) rfl ⟨by rw [HM0.out, HM1.out, HM2.out, HM3.out, HM4.out, HM5.out, HM6.out, HM7.out], hW5⟩
end Go.Proofs.Ytedocnidgiglaaa
