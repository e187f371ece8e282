/- Contracts of a header's package, by gen_hdr.py. Conditions: those written in each theorem. -/
import Derived.Laws.CopyOwn
import Derived.Laws.Tables
import Derived.Test.YtedocnidgiglaaaPA
namespace Go.Proofs.Ytedocnidgiglaaa
open Go.RowKit
set_option maxRecDepth 100000 in
set_option maxHeartbeats 2000000 in
theorem ptput (big : Bool) (n0 n1 n2 n3 n4 n5 n6 n7 : Nat) (hn : ∀ n ∈ [n0, n1, n2, n3, n4, n5, n6, n7], n < 2 ^ 64) (S : ByteArray) (ok : Bool) (hrec : RecIs big true ptSizes [n0, n1, n2, n3, n4, n5, n6, n7] 8 8 S ok) (w : World) :
    Calls Try.prog 48 #[.agg #[.bool big, .bool true], .agg #[.int .u64 (n0 : Nat), .int .u64 (n1 : Nat), .int .u64 (n2 : Nat), .int .u64 (n3 : Nat), .int .u64 (n4 : Nat), .int .u64 (n5 : Nat), .int .u64 (n6 : Nat), .int .u64 (n7 : Nat)]] w fun e w' => e = .returned (.tuple #[.string S, .bool ok]) ∧ Below w.heap.size w w' := by
  have HN := Lib.hid hn; clear hn
  have HREC := Lib.hid hrec; clear hrec
  go_enter Try.func48, Try.ntmps48
  go_wp2_with fail
  refine (ptfields big _).mono ?_
  rintro e w1 ⟨rfl, h1⟩
  have hW : Below w.heap.size w (w1.alloc (.cells #[.int .i64 4, .int .i64 4, .int .i64 0, .int .i64 0, .int .i64 0, .int .i64 0, .int .i64 0, .int .i64 0] 186)) := ((((Below.refl _ _).alloc (Nat.le_refl _) _).alloc (by simp) _).trans (h1.mono (by simp; omega))).alloc (by have := h1.size; simp at this ⊢; omega) _
  have F0 : (w1.alloc (.cells #[.int .i64 4, .int .i64 4, .int .i64 0, .int .i64 0, .int .i64 0, .int .i64 0, .int .i64 0, .int .i64 0] 186)).cell? ⟨w.heap.size, 0, none⟩ = some (.bool big) := by rw [cell_alloc_old (by have := h1.size; simp at this; omega), h1.cell (by simp; omega)]; simp
  have F1 : (w1.alloc (.cells #[.int .i64 4, .int .i64 4, .int .i64 0, .int .i64 0, .int .i64 0, .int .i64 0, .int .i64 0, .int .i64 0] 186)).cell? ⟨w.heap.size, 1, none⟩ = some (.bool true) := by rw [cell_alloc_old (by have := h1.size; simp at this; omega), h1.cell (by simp; omega)]; simp
  have F2 : (w1.alloc (.cells #[.int .i64 4, .int .i64 4, .int .i64 0, .int .i64 0, .int .i64 0, .int .i64 0, .int .i64 0, .int .i64 0] 186)).cell? ⟨w.heap.size + 1, 0, none⟩ = some (.int .u64 (n0 : Nat)) := by rw [cell_alloc_old (by have := h1.size; simp at this; omega), h1.cell (by simp)]; simp
  have F3 : (w1.alloc (.cells #[.int .i64 4, .int .i64 4, .int .i64 0, .int .i64 0, .int .i64 0, .int .i64 0, .int .i64 0, .int .i64 0] 186)).cell? ⟨w.heap.size + 1, 1, none⟩ = some (.int .u64 (n1 : Nat)) := by rw [cell_alloc_old (by have := h1.size; simp at this; omega), h1.cell (by simp)]; simp
  have F4 : (w1.alloc (.cells #[.int .i64 4, .int .i64 4, .int .i64 0, .int .i64 0, .int .i64 0, .int .i64 0, .int .i64 0, .int .i64 0] 186)).cell? ⟨w.heap.size + 1, 2, none⟩ = some (.int .u64 (n2 : Nat)) := by rw [cell_alloc_old (by have := h1.size; simp at this; omega), h1.cell (by simp)]; simp
  have F5 : (w1.alloc (.cells #[.int .i64 4, .int .i64 4, .int .i64 0, .int .i64 0, .int .i64 0, .int .i64 0, .int .i64 0, .int .i64 0] 186)).cell? ⟨w.heap.size + 1, 3, none⟩ = some (.int .u64 (n3 : Nat)) := by rw [cell_alloc_old (by have := h1.size; simp at this; omega), h1.cell (by simp)]; simp
  have F6 : (w1.alloc (.cells #[.int .i64 4, .int .i64 4, .int .i64 0, .int .i64 0, .int .i64 0, .int .i64 0, .int .i64 0, .int .i64 0] 186)).cell? ⟨w.heap.size + 1, 4, none⟩ = some (.int .u64 (n4 : Nat)) := by rw [cell_alloc_old (by have := h1.size; simp at this; omega), h1.cell (by simp)]; simp
  have F7 : (w1.alloc (.cells #[.int .i64 4, .int .i64 4, .int .i64 0, .int .i64 0, .int .i64 0, .int .i64 0, .int .i64 0, .int .i64 0] 186)).cell? ⟨w.heap.size + 1, 5, none⟩ = some (.int .u64 (n5 : Nat)) := by rw [cell_alloc_old (by have := h1.size; simp at this; omega), h1.cell (by simp)]; simp
  have F8 : (w1.alloc (.cells #[.int .i64 4, .int .i64 4, .int .i64 0, .int .i64 0, .int .i64 0, .int .i64 0, .int .i64 0, .int .i64 0] 186)).cell? ⟨w.heap.size + 1, 6, none⟩ = some (.int .u64 (n6 : Nat)) := by rw [cell_alloc_old (by have := h1.size; simp at this; omega), h1.cell (by simp)]; simp
  have F9 : (w1.alloc (.cells #[.int .i64 4, .int .i64 4, .int .i64 0, .int .i64 0, .int .i64 0, .int .i64 0, .int .i64 0, .int .i64 0] 186)).cell? ⟨w.heap.size + 1, 7, none⟩ = some (.int .u64 (n7 : Nat)) := by rw [cell_alloc_old (by have := h1.size; simp at this; omega), h1.cell (by simp)]; simp
  have hR : (w1.alloc (.cells #[.int .i64 4, .int .i64 4, .int .i64 0, .int .i64 0, .int .i64 0, .int .i64 0, .int .i64 0, .int .i64 0] 186)).heap[w1.heap.size]? = some (.cells (rowI64 ptSizes) 186 (0, 0)) := heap_alloc_new _ _
  have hz1 : w.heap.size + 1 < (w1.alloc (.cells #[.int .i64 4, .int .i64 4, .int .i64 0, .int .i64 0, .int .i64 0, .int .i64 0, .int .i64 0, .int .i64 0] 186)).heap.size := by have := h1.size; simp at this ⊢; omega
  have hz2 : w1.heap.size < (w1.alloc (.cells #[.int .i64 4, .int .i64 4, .int .i64 0, .int .i64 0, .int .i64 0, .int .i64 0, .int .i64 0, .int .i64 0] 186)).heap.size := by simp
  clear h1
  go_wp2
  generalize (w1.alloc (.cells #[.int .i64 4, .int .i64 4, .int .i64 0, .int .i64 0, .int .i64 0, .int .i64 0, .int .i64 0, .int .i64 0] 186)) = W at *
  have HR := Lib.hid hR; clear hR
  have G0 : ∀ w', Below W.heap.size W w' → w'.cell? ⟨w.heap.size, 0, none⟩ = some (.bool big) := fun w' h => by rw [h.cell (by show w.heap.size < W.heap.size; omega)]; exact F0
  have HG0 := Lib.hid G0; clear G0 F0
  have G1 : ∀ w', Below W.heap.size W w' → w'.cell? ⟨w.heap.size, 1, none⟩ = some (.bool true) := fun w' h => by rw [h.cell (by show w.heap.size < W.heap.size; omega)]; exact F1
  have HG1 := Lib.hid G1; clear G1 F1
  have G2 : ∀ w', Below W.heap.size W w' → w'.cell? ⟨w.heap.size + 1, 0, none⟩ = some (.int .u64 (n0 : Nat)) := fun w' h => by rw [h.cell (by show w.heap.size + 1 < W.heap.size; omega)]; exact F2
  have HG2 := Lib.hid G2; clear G2 F2
  have G3 : ∀ w', Below W.heap.size W w' → w'.cell? ⟨w.heap.size + 1, 1, none⟩ = some (.int .u64 (n1 : Nat)) := fun w' h => by rw [h.cell (by show w.heap.size + 1 < W.heap.size; omega)]; exact F3
  have HG3 := Lib.hid G3; clear G3 F3
  have G4 : ∀ w', Below W.heap.size W w' → w'.cell? ⟨w.heap.size + 1, 2, none⟩ = some (.int .u64 (n2 : Nat)) := fun w' h => by rw [h.cell (by show w.heap.size + 1 < W.heap.size; omega)]; exact F4
  have HG4 := Lib.hid G4; clear G4 F4
  have G5 : ∀ w', Below W.heap.size W w' → w'.cell? ⟨w.heap.size + 1, 3, none⟩ = some (.int .u64 (n3 : Nat)) := fun w' h => by rw [h.cell (by show w.heap.size + 1 < W.heap.size; omega)]; exact F5
  have HG5 := Lib.hid G5; clear G5 F5
  have G6 : ∀ w', Below W.heap.size W w' → w'.cell? ⟨w.heap.size + 1, 4, none⟩ = some (.int .u64 (n4 : Nat)) := fun w' h => by rw [h.cell (by show w.heap.size + 1 < W.heap.size; omega)]; exact F6
  have HG6 := Lib.hid G6; clear G6 F6
  have G7 : ∀ w', Below W.heap.size W w' → w'.cell? ⟨w.heap.size + 1, 5, none⟩ = some (.int .u64 (n5 : Nat)) := fun w' h => by rw [h.cell (by show w.heap.size + 1 < W.heap.size; omega)]; exact F7
  have HG7 := Lib.hid G7; clear G7 F7
  have G8 : ∀ w', Below W.heap.size W w' → w'.cell? ⟨w.heap.size + 1, 6, none⟩ = some (.int .u64 (n6 : Nat)) := fun w' h => by rw [h.cell (by show w.heap.size + 1 < W.heap.size; omega)]; exact F8
  have HG8 := Lib.hid G8; clear G8 F8
  have G9 : ∀ w', Below W.heap.size W w' → w'.cell? ⟨w.heap.size + 1, 7, none⟩ = some (.int .u64 (n7 : Nat)) := fun w' h => by rw [h.cell (by show w.heap.size + 1 < W.heap.size; omega)]; exact F9
  have HG9 := Lib.hid G9; clear G9 F9
  refine wp_region_held_drew (S := fun w' => Below W.heap.size W w') (by kernel_rfl) ?_ (fun hHeld => ?_)
  · exact (Below.refl _ _).drew
  refine wpAnyH_take (i := 0) (oi := ⟨some 11, .load 34 (.tmp 2), 34, "phdr.go:37", #[], none⟩) (v := ?_) rfl (by kernel_rfl) (by kernel_rfl) (by kernel_rfl) (fun _ _ _ h => h) (Or.inl ⟨by rfl, ?_⟩) (by assumption) ?_
  rotate_left
  · (intro w hSw; have q0 := HG0.out w hSw; have q1 := HG1.out w hSw; (try dsimp only at hSw); go_simp <;> with_reducible rfl)
  try simp only [Act.put, List.setIfInBounds_toArray, List.set_cons_zero, List.set_cons_succ]
  refine wpAnyH_take (i := 1) (oi := ⟨some 12, .slice 186 (.tmp 6) none none none, 68, "phdr.go:37", #[], none⟩) (v := ?_) rfl (by kernel_rfl) (by kernel_rfl) (by kernel_rfl) (fun _ _ _ h => h) (Or.inl ⟨by rfl, ?_⟩) (by assumption) ?_
  rotate_left
  · (intro w hSw; (try dsimp only at hSw); go_simp <;> with_reducible rfl)
  try simp only [Act.put, List.setIfInBounds_toArray, List.set_cons_zero, List.set_cons_succ]
  refine wpAnyH_take (i := 2) (oi := ⟨some 13, .fieldAddr 72 (.tmp 3) 0, 0, "phdr.go:37", #[], none⟩) (v := ?_) rfl (by kernel_rfl) (by kernel_rfl) (by kernel_rfl) (fun _ _ _ h => h) (Or.inl ⟨by rfl, ?_⟩) (by assumption) ?_
  rotate_left
  · (intro w hSw; (try dsimp only at hSw); go_simp <;> with_reducible rfl)
  try simp only [Act.put, List.setIfInBounds_toArray, List.set_cons_zero, List.set_cons_succ]
  refine wpAnyH_take (i := 3) (oi := ⟨some 14, .load 29 (.tmp 13), 29, "phdr.go:37", #[⟨2, .data⟩], none⟩) (v := ?_) rfl (by kernel_rfl) (by kernel_rfl) (by kernel_rfl) (fun _ _ _ h => h) (Or.inl ⟨by rfl, ?_⟩) (by assumption) ?_
  rotate_left
  · (intro w hSw; have q0 := HG2.out w hSw; (try dsimp only at hSw); go_simp <;> with_reducible rfl)
  try simp only [Act.put, List.setIfInBounds_toArray, List.set_cons_zero, List.set_cons_succ]
  refine wpAnyH_take (i := 4) (oi := ⟨some 15, .fieldAddr 72 (.tmp 3) 1, 0, "phdr.go:37", #[], none⟩) (v := ?_) rfl (by kernel_rfl) (by kernel_rfl) (by kernel_rfl) (fun _ _ _ h => h) (Or.inl ⟨by rfl, ?_⟩) (by assumption) ?_
  rotate_left
  · (intro w hSw; (try dsimp only at hSw); go_simp <;> with_reducible rfl)
  try simp only [Act.put, List.setIfInBounds_toArray, List.set_cons_zero, List.set_cons_succ]
  refine wpAnyH_take (i := 5) (oi := ⟨some 16, .load 29 (.tmp 15), 29, "phdr.go:37", #[⟨4, .data⟩], none⟩) (v := ?_) rfl (by kernel_rfl) (by kernel_rfl) (by kernel_rfl) (fun _ _ _ h => h) (Or.inl ⟨by rfl, ?_⟩) (by assumption) ?_
  rotate_left
  · (intro w hSw; have q0 := HG3.out w hSw; (try dsimp only at hSw); go_simp <;> with_reducible rfl)
  try simp only [Act.put, List.setIfInBounds_toArray, List.set_cons_zero, List.set_cons_succ]
  refine wpAnyH_take (i := 6) (oi := ⟨some 17, .fieldAddr 72 (.tmp 3) 2, 0, "phdr.go:37", #[], none⟩) (v := ?_) rfl (by kernel_rfl) (by kernel_rfl) (by kernel_rfl) (fun _ _ _ h => h) (Or.inl ⟨by rfl, ?_⟩) (by assumption) ?_
  rotate_left
  · (intro w hSw; (try dsimp only at hSw); go_simp <;> with_reducible rfl)
  try simp only [Act.put, List.setIfInBounds_toArray, List.set_cons_zero, List.set_cons_succ]
  refine wpAnyH_take (i := 7) (oi := ⟨some 18, .load 29 (.tmp 17), 29, "phdr.go:37", #[⟨6, .data⟩], none⟩) (v := ?_) rfl (by kernel_rfl) (by kernel_rfl) (by kernel_rfl) (fun _ _ _ h => h) (Or.inl ⟨by rfl, ?_⟩) (by assumption) ?_
  rotate_left
  · (intro w hSw; have q0 := HG4.out w hSw; (try dsimp only at hSw); go_simp <;> with_reducible rfl)
  try simp only [Act.put, List.setIfInBounds_toArray, List.set_cons_zero, List.set_cons_succ]
  refine wpAnyH_take (i := 8) (oi := ⟨some 19, .fieldAddr 72 (.tmp 3) 3, 0, "phdr.go:37", #[], none⟩) (v := ?_) rfl (by kernel_rfl) (by kernel_rfl) (by kernel_rfl) (fun _ _ _ h => h) (Or.inl ⟨by rfl, ?_⟩) (by assumption) ?_
  rotate_left
  · (intro w hSw; (try dsimp only at hSw); go_simp <;> with_reducible rfl)
  try simp only [Act.put, List.setIfInBounds_toArray, List.set_cons_zero, List.set_cons_succ]
  refine wpAnyH_take (i := 9) (oi := ⟨some 20, .load 29 (.tmp 19), 29, "phdr.go:37", #[⟨8, .data⟩], none⟩) (v := ?_) rfl (by kernel_rfl) (by kernel_rfl) (by kernel_rfl) (fun _ _ _ h => h) (Or.inl ⟨by rfl, ?_⟩) (by assumption) ?_
  rotate_left
  · (intro w hSw; have q0 := HG5.out w hSw; (try dsimp only at hSw); go_simp <;> with_reducible rfl)
  try simp only [Act.put, List.setIfInBounds_toArray, List.set_cons_zero, List.set_cons_succ]
  refine wpAnyH_take (i := 10) (oi := ⟨some 21, .fieldAddr 72 (.tmp 3) 4, 0, "phdr.go:37", #[], none⟩) (v := ?_) rfl (by kernel_rfl) (by kernel_rfl) (by kernel_rfl) (fun _ _ _ h => h) (Or.inl ⟨by rfl, ?_⟩) (by assumption) ?_
  rotate_left
  · (intro w hSw; (try dsimp only at hSw); go_simp <;> with_reducible rfl)
  try simp only [Act.put, List.setIfInBounds_toArray, List.set_cons_zero, List.set_cons_succ]
  refine wpAnyH_take (i := 11) (oi := ⟨some 22, .load 29 (.tmp 21), 29, "phdr.go:37", #[⟨10, .data⟩], none⟩) (v := ?_) rfl (by kernel_rfl) (by kernel_rfl) (by kernel_rfl) (fun _ _ _ h => h) (Or.inl ⟨by rfl, ?_⟩) (by assumption) ?_
  rotate_left
  · (intro w hSw; have q0 := HG6.out w hSw; (try dsimp only at hSw); go_simp <;> with_reducible rfl)
  try simp only [Act.put, List.setIfInBounds_toArray, List.set_cons_zero, List.set_cons_succ]
  refine wpAnyH_take (i := 12) (oi := ⟨some 23, .fieldAddr 72 (.tmp 3) 5, 0, "phdr.go:37", #[], none⟩) (v := ?_) rfl (by kernel_rfl) (by kernel_rfl) (by kernel_rfl) (fun _ _ _ h => h) (Or.inl ⟨by rfl, ?_⟩) (by assumption) ?_
  rotate_left
  · (intro w hSw; (try dsimp only at hSw); go_simp <;> with_reducible rfl)
  try simp only [Act.put, List.setIfInBounds_toArray, List.set_cons_zero, List.set_cons_succ]
  refine wpAnyH_take (i := 13) (oi := ⟨some 24, .load 29 (.tmp 23), 29, "phdr.go:37", #[⟨12, .data⟩], none⟩) (v := ?_) rfl (by kernel_rfl) (by kernel_rfl) (by kernel_rfl) (fun _ _ _ h => h) (Or.inl ⟨by rfl, ?_⟩) (by assumption) ?_
  rotate_left
  · (intro w hSw; have q0 := HG7.out w hSw; (try dsimp only at hSw); go_simp <;> with_reducible rfl)
  try simp only [Act.put, List.setIfInBounds_toArray, List.set_cons_zero, List.set_cons_succ]
  refine wpAnyH_take (i := 14) (oi := ⟨some 25, .fieldAddr 72 (.tmp 3) 6, 0, "phdr.go:37", #[], none⟩) (v := ?_) rfl (by kernel_rfl) (by kernel_rfl) (by kernel_rfl) (fun _ _ _ h => h) (Or.inl ⟨by rfl, ?_⟩) (by assumption) ?_
  rotate_left
  · (intro w hSw; (try dsimp only at hSw); go_simp <;> with_reducible rfl)
  try simp only [Act.put, List.setIfInBounds_toArray, List.set_cons_zero, List.set_cons_succ]
  refine wpAnyH_take (i := 15) (oi := ⟨some 26, .load 29 (.tmp 25), 29, "phdr.go:37", #[⟨14, .data⟩], none⟩) (v := ?_) rfl (by kernel_rfl) (by kernel_rfl) (by kernel_rfl) (fun _ _ _ h => h) (Or.inl ⟨by rfl, ?_⟩) (by assumption) ?_
  rotate_left
  · (intro w hSw; have q0 := HG8.out w hSw; (try dsimp only at hSw); go_simp <;> with_reducible rfl)
  try simp only [Act.put, List.setIfInBounds_toArray, List.set_cons_zero, List.set_cons_succ]
  refine wpAnyH_take (i := 16) (oi := ⟨some 27, .fieldAddr 72 (.tmp 3) 7, 0, "phdr.go:37", #[], none⟩) (v := ?_) rfl (by kernel_rfl) (by kernel_rfl) (by kernel_rfl) (fun _ _ _ h => h) (Or.inl ⟨by rfl, ?_⟩) (by assumption) ?_
  rotate_left
  · (intro w hSw; (try dsimp only at hSw); go_simp <;> with_reducible rfl)
  try simp only [Act.put, List.setIfInBounds_toArray, List.set_cons_zero, List.set_cons_succ]
  refine wpAnyH_take (i := 17) (oi := ⟨some 28, .load 29 (.tmp 27), 29, "phdr.go:37", #[⟨16, .data⟩], none⟩) (v := ?_) rfl (by kernel_rfl) (by kernel_rfl) (by kernel_rfl) (fun _ _ _ h => h) (Or.inl ⟨by rfl, ?_⟩) (by assumption) ?_
  rotate_left
  · (intro w hSw; have q0 := HG9.out w hSw; (try dsimp only at hSw); go_simp <;> with_reducible rfl)
  try simp only [Act.put, List.setIfInBounds_toArray, List.set_cons_zero, List.set_cons_succ]
  refine wpAnyH_ready (rs := [18]) (by kernel_rfl) (by simp) ?_
  refine AllReadyH.cons (o := ⟨some 29, .buildSlice 76 8 #[(0, .tmp 14), (1, .tmp 16), (2, .tmp 18), (3, .tmp 20), (4, .tmp 22), (5, .tmp 24), (6, .tmp 26), (7, .tmp 28)], 76, "phdr.go:37", #[⟨3, .data⟩, ⟨5, .data⟩, ⟨7, .data⟩, ⟨9, .data⟩, ⟨11, .data⟩, ⟨13, .data⟩, ⟨15, .data⟩, ⟨17, .data⟩], none⟩) rfl (fun K hK => ?_) AllReadyH.nil
  go_simp
  refine hK.out _ _ ?_ (fun hHeld2 => ?_)
  · exact hHeld.alloc hHeld.size _
  clear hK K
  try simp only [Act.put, List.setIfInBounds_toArray, List.set_cons_zero, List.set_cons_succ]
  have hRN : RowN (W.alloc (.cells #[.int .u64 (n0 : Nat), .int .u64 (n1 : Nat), .int .u64 (n2 : Nat), .int .u64 (n3 : Nat), .int .u64 (n4 : Nat), .int .u64 (n5 : Nat), .int .u64 (n6 : Nat), .int .u64 (n7 : Nat)] 29)).drew (some ⟨W.heap.size, 0, none⟩) 8 [n0, n1, n2, n3, n4, n5, n6, n7] := RowN.of_rowT (L := [n0, n1, n2, n3, n4, n5, n6, n7]) (t := 29) (by simp) (heap_alloc_new W _) HN.out
  refine wpAnyH_ready (rs := [19]) (by kernel_rfl) (by simp) ?_
  refine AllReadyH.cons (o := ⟨some 30, .call { callee := .value (.func 86), args := #[.tmp 11, .tmp 12, .tmp 29], argTypes := #[34, 68, 76] }, 133, "phdr.go:37", #[⟨0, .data⟩, ⟨1, .data⟩, ⟨18, .data⟩], none⟩) rfl (fun K hK => ?_) AllReadyH.nil
  (first | go_at_call 86 | (go_simp; go_at_call 86))
  (with_reducible refine (record_is big true (some ⟨w1.heap.size, 0, none⟩) (some ⟨W.heap.size, 0, none⟩) 8 8 8 8 ptSizes [n0, n1, n2, n3, n4, n5, n6, n7] S ok _ (by decide) ((RowI.of_rowT hz2 HR.out).kept hHeld2 (Nat.le_refl _)) hRN HREC.out).mono ?_)
  rintro e w3 ⟨rfl, hg3⟩
  try go_wp2_with fail
  refine hK.out _ _ ?_ (fun hHeld3 => ?_)
  · exact hHeld2.trans (hg3.mono hHeld2.size)
  clear hK K
  try simp only [Act.put, List.setIfInBounds_toArray, List.set_cons_zero, List.set_cons_succ]
  refine wpAnyH_take (i := 20) (oi := ⟨some 31, .extract (.tmp 30) 0, 9, "phdr.go:37", #[⟨19, .data⟩], none⟩) (v := ?_) rfl (by kernel_rfl) (by kernel_rfl) (by kernel_rfl) (fun _ _ _ h => h) (Or.inl ⟨by rfl, ?_⟩) (by assumption) ?_
  rotate_left
  · (intro w hSw; (try dsimp only at hSw); go_simp <;> with_reducible rfl)
  try simp only [Act.put, List.setIfInBounds_toArray, List.set_cons_zero, List.set_cons_succ]
  refine wpAnyH_take (i := 21) (oi := ⟨some 32, .extract (.tmp 30) 1, 4, "phdr.go:37", #[⟨19, .data⟩], none⟩) (v := ?_) rfl (by kernel_rfl) (by kernel_rfl) (by kernel_rfl) (fun _ _ _ h => h) (Or.inl ⟨by rfl, ?_⟩) (by assumption) ?_
  rotate_left
  · (intro w hSw; (try dsimp only at hSw); go_simp <;> with_reducible rfl)
  try simp only [Act.put, List.setIfInBounds_toArray, List.set_cons_zero, List.set_cons_succ]
  refine wpAnyH_take (i := 22) (oi := ⟨some 4, .assign (.tmp 31), 9, "phdr.go:37", #[⟨20, .data⟩, ⟨19, .chain⟩, ⟨0, .phase⟩, ⟨1, .phase⟩, ⟨2, .phase⟩, ⟨3, .phase⟩, ⟨4, .phase⟩, ⟨5, .phase⟩, ⟨6, .phase⟩, ⟨7, .phase⟩, ⟨8, .phase⟩, ⟨9, .phase⟩, ⟨10, .phase⟩, ⟨11, .phase⟩, ⟨12, .phase⟩, ⟨13, .phase⟩, ⟨14, .phase⟩, ⟨15, .phase⟩, ⟨16, .phase⟩, ⟨17, .phase⟩, ⟨18, .phase⟩, ⟨19, .phase⟩, ⟨20, .phase⟩, ⟨21, .phase⟩], none⟩) (v := ?_) rfl (by kernel_rfl) (by kernel_rfl) (by kernel_rfl) (fun _ _ _ h => h) (Or.inl ⟨by rfl, ?_⟩) (by assumption) ?_
  rotate_left
  · (intro w hSw; (try dsimp only at hSw); go_simp <;> with_reducible rfl)
  try simp only [Act.put, List.setIfInBounds_toArray, List.set_cons_zero, List.set_cons_succ]
  refine wpAnyH_take (i := 23) (oi := ⟨some 5, .assign (.tmp 32), 4, "phdr.go:37", #[⟨21, .data⟩, ⟨22, .chain⟩, ⟨0, .phase⟩, ⟨1, .phase⟩, ⟨2, .phase⟩, ⟨3, .phase⟩, ⟨4, .phase⟩, ⟨5, .phase⟩, ⟨6, .phase⟩, ⟨7, .phase⟩, ⟨8, .phase⟩, ⟨9, .phase⟩, ⟨10, .phase⟩, ⟨11, .phase⟩, ⟨12, .phase⟩, ⟨13, .phase⟩, ⟨14, .phase⟩, ⟨15, .phase⟩, ⟨16, .phase⟩, ⟨17, .phase⟩, ⟨18, .phase⟩, ⟨19, .phase⟩, ⟨20, .phase⟩, ⟨21, .phase⟩, ⟨22, .phase⟩], none⟩) (v := ?_) rfl (by kernel_rfl) (by kernel_rfl) (by kernel_rfl) (fun _ _ _ h => h) (Or.inl ⟨by rfl, ?_⟩) (by assumption) ?_
  rotate_left
  · (intro w hSw; (try dsimp only at hSw); go_simp <;> with_reducible rfl)
  try simp only [Act.put, List.setIfInBounds_toArray, List.set_cons_zero, List.set_cons_succ]
  refine wpAnyH_done (by kernel_rfl) ?_ _
  go_wp2
  go_ret2
  exact ⟨rfl, hW.trans (hHeld3.mono hW.size)⟩
set_option maxRecDepth 100000 in
set_option maxHeartbeats 2000000 in
theorem pfput (big : Bool) (n0 n1 n2 n3 n4 n5 n6 n7 : Nat) (hn : ∀ n ∈ [n0, n2, n3, n4, n5, n6, n1, n7], n < 2 ^ 64) (S : ByteArray) (ok : Bool) (hrec : RecIs big false pfSizes [n0, n2, n3, n4, n5, n6, n1, n7] 8 8 S ok) (w : World) :
    Calls Try.prog 48 #[.agg #[.bool big, .bool false], .agg #[.int .u64 (n0 : Nat), .int .u64 (n1 : Nat), .int .u64 (n2 : Nat), .int .u64 (n3 : Nat), .int .u64 (n4 : Nat), .int .u64 (n5 : Nat), .int .u64 (n6 : Nat), .int .u64 (n7 : Nat)]] w fun e w' => e = .returned (.tuple #[.string S, .bool ok]) ∧ Below w.heap.size w w' := by
  have HN := Lib.hid hn; clear hn
  have HREC := Lib.hid hrec; clear hrec
  go_enter Try.func48, Try.ntmps48
  go_wp2_with fail
  refine (pffields big _).mono ?_
  rintro e w1 ⟨rfl, h1⟩
  have hW : Below w.heap.size w (w1.alloc (.cells #[.int .i64 4, .int .i64 0, .int .i64 0, .int .i64 0, .int .i64 0, .int .i64 0, .int .i64 4, .int .i64 0] 186)) := ((((Below.refl _ _).alloc (Nat.le_refl _) _).alloc (by simp) _).trans (h1.mono (by simp; omega))).alloc (by have := h1.size; simp at this ⊢; omega) _
  have F0 : (w1.alloc (.cells #[.int .i64 4, .int .i64 0, .int .i64 0, .int .i64 0, .int .i64 0, .int .i64 0, .int .i64 4, .int .i64 0] 186)).cell? ⟨w.heap.size, 0, none⟩ = some (.bool big) := by rw [cell_alloc_old (by have := h1.size; simp at this; omega), h1.cell (by simp; omega)]; simp
  have F1 : (w1.alloc (.cells #[.int .i64 4, .int .i64 0, .int .i64 0, .int .i64 0, .int .i64 0, .int .i64 0, .int .i64 4, .int .i64 0] 186)).cell? ⟨w.heap.size, 1, none⟩ = some (.bool false) := by rw [cell_alloc_old (by have := h1.size; simp at this; omega), h1.cell (by simp; omega)]; simp
  have F2 : (w1.alloc (.cells #[.int .i64 4, .int .i64 0, .int .i64 0, .int .i64 0, .int .i64 0, .int .i64 0, .int .i64 4, .int .i64 0] 186)).cell? ⟨w.heap.size + 1, 0, none⟩ = some (.int .u64 (n0 : Nat)) := by rw [cell_alloc_old (by have := h1.size; simp at this; omega), h1.cell (by simp)]; simp
  have F3 : (w1.alloc (.cells #[.int .i64 4, .int .i64 0, .int .i64 0, .int .i64 0, .int .i64 0, .int .i64 0, .int .i64 4, .int .i64 0] 186)).cell? ⟨w.heap.size + 1, 1, none⟩ = some (.int .u64 (n1 : Nat)) := by rw [cell_alloc_old (by have := h1.size; simp at this; omega), h1.cell (by simp)]; simp
  have F4 : (w1.alloc (.cells #[.int .i64 4, .int .i64 0, .int .i64 0, .int .i64 0, .int .i64 0, .int .i64 0, .int .i64 4, .int .i64 0] 186)).cell? ⟨w.heap.size + 1, 2, none⟩ = some (.int .u64 (n2 : Nat)) := by rw [cell_alloc_old (by have := h1.size; simp at this; omega), h1.cell (by simp)]; simp
  have F5 : (w1.alloc (.cells #[.int .i64 4, .int .i64 0, .int .i64 0, .int .i64 0, .int .i64 0, .int .i64 0, .int .i64 4, .int .i64 0] 186)).cell? ⟨w.heap.size + 1, 3, none⟩ = some (.int .u64 (n3 : Nat)) := by rw [cell_alloc_old (by have := h1.size; simp at this; omega), h1.cell (by simp)]; simp
  have F6 : (w1.alloc (.cells #[.int .i64 4, .int .i64 0, .int .i64 0, .int .i64 0, .int .i64 0, .int .i64 0, .int .i64 4, .int .i64 0] 186)).cell? ⟨w.heap.size + 1, 4, none⟩ = some (.int .u64 (n4 : Nat)) := by rw [cell_alloc_old (by have := h1.size; simp at this; omega), h1.cell (by simp)]; simp
  have F7 : (w1.alloc (.cells #[.int .i64 4, .int .i64 0, .int .i64 0, .int .i64 0, .int .i64 0, .int .i64 0, .int .i64 4, .int .i64 0] 186)).cell? ⟨w.heap.size + 1, 5, none⟩ = some (.int .u64 (n5 : Nat)) := by rw [cell_alloc_old (by have := h1.size; simp at this; omega), h1.cell (by simp)]; simp
  have F8 : (w1.alloc (.cells #[.int .i64 4, .int .i64 0, .int .i64 0, .int .i64 0, .int .i64 0, .int .i64 0, .int .i64 4, .int .i64 0] 186)).cell? ⟨w.heap.size + 1, 6, none⟩ = some (.int .u64 (n6 : Nat)) := by rw [cell_alloc_old (by have := h1.size; simp at this; omega), h1.cell (by simp)]; simp
  have F9 : (w1.alloc (.cells #[.int .i64 4, .int .i64 0, .int .i64 0, .int .i64 0, .int .i64 0, .int .i64 0, .int .i64 4, .int .i64 0] 186)).cell? ⟨w.heap.size + 1, 7, none⟩ = some (.int .u64 (n7 : Nat)) := by rw [cell_alloc_old (by have := h1.size; simp at this; omega), h1.cell (by simp)]; simp
  have hR : (w1.alloc (.cells #[.int .i64 4, .int .i64 0, .int .i64 0, .int .i64 0, .int .i64 0, .int .i64 0, .int .i64 4, .int .i64 0] 186)).heap[w1.heap.size]? = some (.cells (rowI64 pfSizes) 186 (0, 0)) := heap_alloc_new _ _
  have hz1 : w.heap.size + 1 < (w1.alloc (.cells #[.int .i64 4, .int .i64 0, .int .i64 0, .int .i64 0, .int .i64 0, .int .i64 0, .int .i64 4, .int .i64 0] 186)).heap.size := by have := h1.size; simp at this ⊢; omega
  have hz2 : w1.heap.size < (w1.alloc (.cells #[.int .i64 4, .int .i64 0, .int .i64 0, .int .i64 0, .int .i64 0, .int .i64 0, .int .i64 4, .int .i64 0] 186)).heap.size := by simp
  clear h1
  go_wp2
  generalize (w1.alloc (.cells #[.int .i64 4, .int .i64 0, .int .i64 0, .int .i64 0, .int .i64 0, .int .i64 0, .int .i64 4, .int .i64 0] 186)) = W at *
  have HR := Lib.hid hR; clear hR
  have G0 : ∀ w', Below W.heap.size W w' → w'.cell? ⟨w.heap.size, 0, none⟩ = some (.bool big) := fun w' h => by rw [h.cell (by show w.heap.size < W.heap.size; omega)]; exact F0
  have HG0 := Lib.hid G0; clear G0 F0
  have G1 : ∀ w', Below W.heap.size W w' → w'.cell? ⟨w.heap.size, 1, none⟩ = some (.bool false) := fun w' h => by rw [h.cell (by show w.heap.size < W.heap.size; omega)]; exact F1
  have HG1 := Lib.hid G1; clear G1 F1
  have G2 : ∀ w', Below W.heap.size W w' → w'.cell? ⟨w.heap.size + 1, 0, none⟩ = some (.int .u64 (n0 : Nat)) := fun w' h => by rw [h.cell (by show w.heap.size + 1 < W.heap.size; omega)]; exact F2
  have HG2 := Lib.hid G2; clear G2 F2
  have G3 : ∀ w', Below W.heap.size W w' → w'.cell? ⟨w.heap.size + 1, 1, none⟩ = some (.int .u64 (n1 : Nat)) := fun w' h => by rw [h.cell (by show w.heap.size + 1 < W.heap.size; omega)]; exact F3
  have HG3 := Lib.hid G3; clear G3 F3
  have G4 : ∀ w', Below W.heap.size W w' → w'.cell? ⟨w.heap.size + 1, 2, none⟩ = some (.int .u64 (n2 : Nat)) := fun w' h => by rw [h.cell (by show w.heap.size + 1 < W.heap.size; omega)]; exact F4
  have HG4 := Lib.hid G4; clear G4 F4
  have G5 : ∀ w', Below W.heap.size W w' → w'.cell? ⟨w.heap.size + 1, 3, none⟩ = some (.int .u64 (n3 : Nat)) := fun w' h => by rw [h.cell (by show w.heap.size + 1 < W.heap.size; omega)]; exact F5
  have HG5 := Lib.hid G5; clear G5 F5
  have G6 : ∀ w', Below W.heap.size W w' → w'.cell? ⟨w.heap.size + 1, 4, none⟩ = some (.int .u64 (n4 : Nat)) := fun w' h => by rw [h.cell (by show w.heap.size + 1 < W.heap.size; omega)]; exact F6
  have HG6 := Lib.hid G6; clear G6 F6
  have G7 : ∀ w', Below W.heap.size W w' → w'.cell? ⟨w.heap.size + 1, 5, none⟩ = some (.int .u64 (n5 : Nat)) := fun w' h => by rw [h.cell (by show w.heap.size + 1 < W.heap.size; omega)]; exact F7
  have HG7 := Lib.hid G7; clear G7 F7
  have G8 : ∀ w', Below W.heap.size W w' → w'.cell? ⟨w.heap.size + 1, 6, none⟩ = some (.int .u64 (n6 : Nat)) := fun w' h => by rw [h.cell (by show w.heap.size + 1 < W.heap.size; omega)]; exact F8
  have HG8 := Lib.hid G8; clear G8 F8
  have G9 : ∀ w', Below W.heap.size W w' → w'.cell? ⟨w.heap.size + 1, 7, none⟩ = some (.int .u64 (n7 : Nat)) := fun w' h => by rw [h.cell (by show w.heap.size + 1 < W.heap.size; omega)]; exact F9
  have HG9 := Lib.hid G9; clear G9 F9
  refine wp_region_held_drew (S := fun w' => Below W.heap.size W w') (by kernel_rfl) ?_ (fun hHeld => ?_)
  · exact (Below.refl _ _).drew
  refine wpAnyH_take (i := 0) (oi := ⟨some 33, .load 34 (.tmp 2), 34, "phdr.go:39", #[], none⟩) (v := ?_) rfl (by kernel_rfl) (by kernel_rfl) (by kernel_rfl) (fun _ _ _ h => h) (Or.inl ⟨by rfl, ?_⟩) (by assumption) ?_
  rotate_left
  · (intro w hSw; have q0 := HG0.out w hSw; have q1 := HG1.out w hSw; (try dsimp only at hSw); go_simp <;> with_reducible rfl)
  try simp only [Act.put, List.setIfInBounds_toArray, List.set_cons_zero, List.set_cons_succ]
  refine wpAnyH_take (i := 1) (oi := ⟨some 34, .slice 186 (.tmp 6) none none none, 68, "phdr.go:39", #[], none⟩) (v := ?_) rfl (by kernel_rfl) (by kernel_rfl) (by kernel_rfl) (fun _ _ _ h => h) (Or.inl ⟨by rfl, ?_⟩) (by assumption) ?_
  rotate_left
  · (intro w hSw; (try dsimp only at hSw); go_simp <;> with_reducible rfl)
  try simp only [Act.put, List.setIfInBounds_toArray, List.set_cons_zero, List.set_cons_succ]
  refine wpAnyH_take (i := 2) (oi := ⟨some 35, .fieldAddr 72 (.tmp 3) 0, 0, "phdr.go:39", #[], none⟩) (v := ?_) rfl (by kernel_rfl) (by kernel_rfl) (by kernel_rfl) (fun _ _ _ h => h) (Or.inl ⟨by rfl, ?_⟩) (by assumption) ?_
  rotate_left
  · (intro w hSw; (try dsimp only at hSw); go_simp <;> with_reducible rfl)
  try simp only [Act.put, List.setIfInBounds_toArray, List.set_cons_zero, List.set_cons_succ]
  refine wpAnyH_take (i := 3) (oi := ⟨some 36, .load 29 (.tmp 35), 29, "phdr.go:39", #[⟨2, .data⟩], none⟩) (v := ?_) rfl (by kernel_rfl) (by kernel_rfl) (by kernel_rfl) (fun _ _ _ h => h) (Or.inl ⟨by rfl, ?_⟩) (by assumption) ?_
  rotate_left
  · (intro w hSw; have q0 := HG2.out w hSw; (try dsimp only at hSw); go_simp <;> with_reducible rfl)
  try simp only [Act.put, List.setIfInBounds_toArray, List.set_cons_zero, List.set_cons_succ]
  refine wpAnyH_take (i := 4) (oi := ⟨some 37, .fieldAddr 72 (.tmp 3) 2, 0, "phdr.go:39", #[], none⟩) (v := ?_) rfl (by kernel_rfl) (by kernel_rfl) (by kernel_rfl) (fun _ _ _ h => h) (Or.inl ⟨by rfl, ?_⟩) (by assumption) ?_
  rotate_left
  · (intro w hSw; (try dsimp only at hSw); go_simp <;> with_reducible rfl)
  try simp only [Act.put, List.setIfInBounds_toArray, List.set_cons_zero, List.set_cons_succ]
  refine wpAnyH_take (i := 5) (oi := ⟨some 38, .load 29 (.tmp 37), 29, "phdr.go:39", #[⟨4, .data⟩], none⟩) (v := ?_) rfl (by kernel_rfl) (by kernel_rfl) (by kernel_rfl) (fun _ _ _ h => h) (Or.inl ⟨by rfl, ?_⟩) (by assumption) ?_
  rotate_left
  · (intro w hSw; have q0 := HG4.out w hSw; (try dsimp only at hSw); go_simp <;> with_reducible rfl)
  try simp only [Act.put, List.setIfInBounds_toArray, List.set_cons_zero, List.set_cons_succ]
  refine wpAnyH_take (i := 6) (oi := ⟨some 39, .fieldAddr 72 (.tmp 3) 3, 0, "phdr.go:39", #[], none⟩) (v := ?_) rfl (by kernel_rfl) (by kernel_rfl) (by kernel_rfl) (fun _ _ _ h => h) (Or.inl ⟨by rfl, ?_⟩) (by assumption) ?_
  rotate_left
  · (intro w hSw; (try dsimp only at hSw); go_simp <;> with_reducible rfl)
  try simp only [Act.put, List.setIfInBounds_toArray, List.set_cons_zero, List.set_cons_succ]
  refine wpAnyH_take (i := 7) (oi := ⟨some 40, .load 29 (.tmp 39), 29, "phdr.go:39", #[⟨6, .data⟩], none⟩) (v := ?_) rfl (by kernel_rfl) (by kernel_rfl) (by kernel_rfl) (fun _ _ _ h => h) (Or.inl ⟨by rfl, ?_⟩) (by assumption) ?_
  rotate_left
  · (intro w hSw; have q0 := HG5.out w hSw; (try dsimp only at hSw); go_simp <;> with_reducible rfl)
  try simp only [Act.put, List.setIfInBounds_toArray, List.set_cons_zero, List.set_cons_succ]
  refine wpAnyH_take (i := 8) (oi := ⟨some 41, .fieldAddr 72 (.tmp 3) 4, 0, "phdr.go:39", #[], none⟩) (v := ?_) rfl (by kernel_rfl) (by kernel_rfl) (by kernel_rfl) (fun _ _ _ h => h) (Or.inl ⟨by rfl, ?_⟩) (by assumption) ?_
  rotate_left
  · (intro w hSw; (try dsimp only at hSw); go_simp <;> with_reducible rfl)
  try simp only [Act.put, List.setIfInBounds_toArray, List.set_cons_zero, List.set_cons_succ]
  refine wpAnyH_take (i := 9) (oi := ⟨some 42, .load 29 (.tmp 41), 29, "phdr.go:39", #[⟨8, .data⟩], none⟩) (v := ?_) rfl (by kernel_rfl) (by kernel_rfl) (by kernel_rfl) (fun _ _ _ h => h) (Or.inl ⟨by rfl, ?_⟩) (by assumption) ?_
  rotate_left
  · (intro w hSw; have q0 := HG6.out w hSw; (try dsimp only at hSw); go_simp <;> with_reducible rfl)
  try simp only [Act.put, List.setIfInBounds_toArray, List.set_cons_zero, List.set_cons_succ]
  refine wpAnyH_take (i := 10) (oi := ⟨some 43, .fieldAddr 72 (.tmp 3) 5, 0, "phdr.go:39", #[], none⟩) (v := ?_) rfl (by kernel_rfl) (by kernel_rfl) (by kernel_rfl) (fun _ _ _ h => h) (Or.inl ⟨by rfl, ?_⟩) (by assumption) ?_
  rotate_left
  · (intro w hSw; (try dsimp only at hSw); go_simp <;> with_reducible rfl)
  try simp only [Act.put, List.setIfInBounds_toArray, List.set_cons_zero, List.set_cons_succ]
  refine wpAnyH_take (i := 11) (oi := ⟨some 44, .load 29 (.tmp 43), 29, "phdr.go:39", #[⟨10, .data⟩], none⟩) (v := ?_) rfl (by kernel_rfl) (by kernel_rfl) (by kernel_rfl) (fun _ _ _ h => h) (Or.inl ⟨by rfl, ?_⟩) (by assumption) ?_
  rotate_left
  · (intro w hSw; have q0 := HG7.out w hSw; (try dsimp only at hSw); go_simp <;> with_reducible rfl)
  try simp only [Act.put, List.setIfInBounds_toArray, List.set_cons_zero, List.set_cons_succ]
  refine wpAnyH_take (i := 12) (oi := ⟨some 45, .fieldAddr 72 (.tmp 3) 6, 0, "phdr.go:39", #[], none⟩) (v := ?_) rfl (by kernel_rfl) (by kernel_rfl) (by kernel_rfl) (fun _ _ _ h => h) (Or.inl ⟨by rfl, ?_⟩) (by assumption) ?_
  rotate_left
  · (intro w hSw; (try dsimp only at hSw); go_simp <;> with_reducible rfl)
  try simp only [Act.put, List.setIfInBounds_toArray, List.set_cons_zero, List.set_cons_succ]
  refine wpAnyH_take (i := 13) (oi := ⟨some 46, .load 29 (.tmp 45), 29, "phdr.go:39", #[⟨12, .data⟩], none⟩) (v := ?_) rfl (by kernel_rfl) (by kernel_rfl) (by kernel_rfl) (fun _ _ _ h => h) (Or.inl ⟨by rfl, ?_⟩) (by assumption) ?_
  rotate_left
  · (intro w hSw; have q0 := HG8.out w hSw; (try dsimp only at hSw); go_simp <;> with_reducible rfl)
  try simp only [Act.put, List.setIfInBounds_toArray, List.set_cons_zero, List.set_cons_succ]
  refine wpAnyH_take (i := 14) (oi := ⟨some 47, .fieldAddr 72 (.tmp 3) 1, 0, "phdr.go:39", #[], none⟩) (v := ?_) rfl (by kernel_rfl) (by kernel_rfl) (by kernel_rfl) (fun _ _ _ h => h) (Or.inl ⟨by rfl, ?_⟩) (by assumption) ?_
  rotate_left
  · (intro w hSw; (try dsimp only at hSw); go_simp <;> with_reducible rfl)
  try simp only [Act.put, List.setIfInBounds_toArray, List.set_cons_zero, List.set_cons_succ]
  refine wpAnyH_take (i := 15) (oi := ⟨some 48, .load 29 (.tmp 47), 29, "phdr.go:39", #[⟨14, .data⟩], none⟩) (v := ?_) rfl (by kernel_rfl) (by kernel_rfl) (by kernel_rfl) (fun _ _ _ h => h) (Or.inl ⟨by rfl, ?_⟩) (by assumption) ?_
  rotate_left
  · (intro w hSw; have q0 := HG3.out w hSw; (try dsimp only at hSw); go_simp <;> with_reducible rfl)
  try simp only [Act.put, List.setIfInBounds_toArray, List.set_cons_zero, List.set_cons_succ]
  refine wpAnyH_take (i := 16) (oi := ⟨some 49, .fieldAddr 72 (.tmp 3) 7, 0, "phdr.go:39", #[], none⟩) (v := ?_) rfl (by kernel_rfl) (by kernel_rfl) (by kernel_rfl) (fun _ _ _ h => h) (Or.inl ⟨by rfl, ?_⟩) (by assumption) ?_
  rotate_left
  · (intro w hSw; (try dsimp only at hSw); go_simp <;> with_reducible rfl)
  try simp only [Act.put, List.setIfInBounds_toArray, List.set_cons_zero, List.set_cons_succ]
  refine wpAnyH_take (i := 17) (oi := ⟨some 50, .load 29 (.tmp 49), 29, "phdr.go:39", #[⟨16, .data⟩], none⟩) (v := ?_) rfl (by kernel_rfl) (by kernel_rfl) (by kernel_rfl) (fun _ _ _ h => h) (Or.inl ⟨by rfl, ?_⟩) (by assumption) ?_
  rotate_left
  · (intro w hSw; have q0 := HG9.out w hSw; (try dsimp only at hSw); go_simp <;> with_reducible rfl)
  try simp only [Act.put, List.setIfInBounds_toArray, List.set_cons_zero, List.set_cons_succ]
  refine wpAnyH_ready (rs := [18]) (by kernel_rfl) (by simp) ?_
  refine AllReadyH.cons (o := ⟨some 51, .buildSlice 76 8 #[(0, .tmp 36), (1, .tmp 38), (2, .tmp 40), (3, .tmp 42), (4, .tmp 44), (5, .tmp 46), (6, .tmp 48), (7, .tmp 50)], 76, "phdr.go:39", #[⟨3, .data⟩, ⟨5, .data⟩, ⟨7, .data⟩, ⟨9, .data⟩, ⟨11, .data⟩, ⟨13, .data⟩, ⟨15, .data⟩, ⟨17, .data⟩], none⟩) rfl (fun K hK => ?_) AllReadyH.nil
  go_simp
  refine hK.out _ _ ?_ (fun hHeld2 => ?_)
  · exact hHeld.alloc hHeld.size _
  clear hK K
  try simp only [Act.put, List.setIfInBounds_toArray, List.set_cons_zero, List.set_cons_succ]
  have hRN : RowN (W.alloc (.cells #[.int .u64 (n0 : Nat), .int .u64 (n2 : Nat), .int .u64 (n3 : Nat), .int .u64 (n4 : Nat), .int .u64 (n5 : Nat), .int .u64 (n6 : Nat), .int .u64 (n1 : Nat), .int .u64 (n7 : Nat)] 29)).drew (some ⟨W.heap.size, 0, none⟩) 8 [n0, n2, n3, n4, n5, n6, n1, n7] := RowN.of_rowT (L := [n0, n2, n3, n4, n5, n6, n1, n7]) (t := 29) (by simp) (heap_alloc_new W _) HN.out
  refine wpAnyH_ready (rs := [19]) (by kernel_rfl) (by simp) ?_
  refine AllReadyH.cons (o := ⟨some 52, .call { callee := .value (.func 86), args := #[.tmp 33, .tmp 34, .tmp 51], argTypes := #[34, 68, 76] }, 133, "phdr.go:39", #[⟨0, .data⟩, ⟨1, .data⟩, ⟨18, .data⟩], none⟩) rfl (fun K hK => ?_) AllReadyH.nil
  (first | go_at_call 86 | (go_simp; go_at_call 86))
  (with_reducible refine (record_is big false (some ⟨w1.heap.size, 0, none⟩) (some ⟨W.heap.size, 0, none⟩) 8 8 8 8 pfSizes [n0, n2, n3, n4, n5, n6, n1, n7] S ok _ (by decide) ((RowI.of_rowT hz2 HR.out).kept hHeld2 (Nat.le_refl _)) hRN HREC.out).mono ?_)
  rintro e w3 ⟨rfl, hg3⟩
  try go_wp2_with fail
  refine hK.out _ _ ?_ (fun hHeld3 => ?_)
  · exact hHeld2.trans (hg3.mono hHeld2.size)
  clear hK K
  try simp only [Act.put, List.setIfInBounds_toArray, List.set_cons_zero, List.set_cons_succ]
  refine wpAnyH_take (i := 20) (oi := ⟨some 53, .extract (.tmp 52) 0, 9, "phdr.go:39", #[⟨19, .data⟩], none⟩) (v := ?_) rfl (by kernel_rfl) (by kernel_rfl) (by kernel_rfl) (fun _ _ _ h => h) (Or.inl ⟨by rfl, ?_⟩) (by assumption) ?_
  rotate_left
  · (intro w hSw; (try dsimp only at hSw); go_simp <;> with_reducible rfl)
  try simp only [Act.put, List.setIfInBounds_toArray, List.set_cons_zero, List.set_cons_succ]
  refine wpAnyH_take (i := 21) (oi := ⟨some 54, .extract (.tmp 52) 1, 4, "phdr.go:39", #[⟨19, .data⟩], none⟩) (v := ?_) rfl (by kernel_rfl) (by kernel_rfl) (by kernel_rfl) (fun _ _ _ h => h) (Or.inl ⟨by rfl, ?_⟩) (by assumption) ?_
  rotate_left
  · (intro w hSw; (try dsimp only at hSw); go_simp <;> with_reducible rfl)
  try simp only [Act.put, List.setIfInBounds_toArray, List.set_cons_zero, List.set_cons_succ]
  refine wpAnyH_take (i := 22) (oi := ⟨some 4, .assign (.tmp 53), 9, "phdr.go:39", #[⟨20, .data⟩, ⟨19, .chain⟩, ⟨0, .phase⟩, ⟨1, .phase⟩, ⟨2, .phase⟩, ⟨3, .phase⟩, ⟨4, .phase⟩, ⟨5, .phase⟩, ⟨6, .phase⟩, ⟨7, .phase⟩, ⟨8, .phase⟩, ⟨9, .phase⟩, ⟨10, .phase⟩, ⟨11, .phase⟩, ⟨12, .phase⟩, ⟨13, .phase⟩, ⟨14, .phase⟩, ⟨15, .phase⟩, ⟨16, .phase⟩, ⟨17, .phase⟩, ⟨18, .phase⟩, ⟨19, .phase⟩, ⟨20, .phase⟩, ⟨21, .phase⟩], none⟩) (v := ?_) rfl (by kernel_rfl) (by kernel_rfl) (by kernel_rfl) (fun _ _ _ h => h) (Or.inl ⟨by rfl, ?_⟩) (by assumption) ?_
  rotate_left
  · (intro w hSw; (try dsimp only at hSw); go_simp <;> with_reducible rfl)
  try simp only [Act.put, List.setIfInBounds_toArray, List.set_cons_zero, List.set_cons_succ]
  refine wpAnyH_take (i := 23) (oi := ⟨some 5, .assign (.tmp 54), 4, "phdr.go:39", #[⟨21, .data⟩, ⟨22, .chain⟩, ⟨0, .phase⟩, ⟨1, .phase⟩, ⟨2, .phase⟩, ⟨3, .phase⟩, ⟨4, .phase⟩, ⟨5, .phase⟩, ⟨6, .phase⟩, ⟨7, .phase⟩, ⟨8, .phase⟩, ⟨9, .phase⟩, ⟨10, .phase⟩, ⟨11, .phase⟩, ⟨12, .phase⟩, ⟨13, .phase⟩, ⟨14, .phase⟩, ⟨15, .phase⟩, ⟨16, .phase⟩, ⟨17, .phase⟩, ⟨18, .phase⟩, ⟨19, .phase⟩, ⟨20, .phase⟩, ⟨21, .phase⟩, ⟨22, .phase⟩], none⟩) (v := ?_) rfl (by kernel_rfl) (by kernel_rfl) (by kernel_rfl) (fun _ _ _ h => h) (Or.inl ⟨by rfl, ?_⟩) (by assumption) ?_
  rotate_left
  · (intro w hSw; (try dsimp only at hSw); go_simp <;> with_reducible rfl)
  try simp only [Act.put, List.setIfInBounds_toArray, List.set_cons_zero, List.set_cons_succ]
  refine wpAnyH_done (by kernel_rfl) ?_ _
  go_wp2
  go_ret2
  exact ⟨rfl, hW.trans (hHeld3.mono hW.size)⟩
end Go.Proofs.Ytedocnidgiglaaa
