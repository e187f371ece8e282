/- Contracts of layer 9, relocations. Conditions: those written in each theorem. -/
import Derived.Laws.CopyOwn
import Derived.Laws.Tables
import Derived.Test.YtnmklmaclmjfbaaXC
namespace Go.Proofs.Ytnmklmaclmjfbaa
open Go.RowKit
set_option maxRecDepth 100000 in
set_option maxHeartbeats 1000000 in
theorem rput_no_Ff (big : Bool) (off sym ty add : Nat) (hg : ∀ w, Calls Try.prog 81 #[.agg #[.int .u64 (off : Nat), .int .u64 (sym : Nat), .int .u64 (ty : Nat), .int .u64 (add : Nat)], .agg #[.bool big, .bool false], .bool false] w fun e w' => e = .returned (.bool false) ∧ Below w.heap.size w w') (w : World) :
    Calls Try.prog 40 #[.agg #[.bool big, .bool false], .bool false, .agg #[.int .u64 (off : Nat), .int .u64 (sym : Nat), .int .u64 (ty : Nat), .int .u64 (add : Nat)]] w fun e w' => e = .returned (.tuple #[.string ⟨#[]⟩, .bool false]) ∧ Below w.heap.size w w' := by
  have HG := Lib.hid hg; clear hg
  go_enter Try.func40, Try.ntmps40
  go_wp2_with fail
  have hW : Below w.heap.size w ((w.alloc (.cells #[.bool big, .bool false] 34)).alloc (.cells #[.int .u64 (off : Nat), .int .u64 (sym : Nat), .int .u64 (ty : Nat), .int .u64 (add : Nat)] 104)) := below_more (below_more (Below.refl _ _) _) _
  have F0 : ((w.alloc (.cells #[.bool big, .bool false] 34)).alloc (.cells #[.int .u64 (off : Nat), .int .u64 (sym : Nat), .int .u64 (ty : Nat), .int .u64 (add : Nat)] 104)).cell? ⟨w.heap.size, 0, none⟩ = some (.bool big) := cell_up _ (by simp)
  have F1 : ((w.alloc (.cells #[.bool big, .bool false] 34)).alloc (.cells #[.int .u64 (off : Nat), .int .u64 (sym : Nat), .int .u64 (ty : Nat), .int .u64 (add : Nat)] 104)).cell? ⟨w.heap.size, 1, none⟩ = some (.bool false) := cell_up _ (by simp)
  have F2 : ((w.alloc (.cells #[.bool big, .bool false] 34)).alloc (.cells #[.int .u64 (off : Nat), .int .u64 (sym : Nat), .int .u64 (ty : Nat), .int .u64 (add : Nat)] 104)).cell? ⟨w.heap.size + 1, 0, none⟩ = some (.int .u64 (off : Nat)) := by rw [Lib.cell_of_heap (two_new w (.cells #[.bool big, .bool false] 34) (.cells #[.int .u64 (off : Nat), .int .u64 (sym : Nat), .int .u64 (ty : Nat), .int .u64 (add : Nat)] 104))]; rfl
  have F3 : ((w.alloc (.cells #[.bool big, .bool false] 34)).alloc (.cells #[.int .u64 (off : Nat), .int .u64 (sym : Nat), .int .u64 (ty : Nat), .int .u64 (add : Nat)] 104)).cell? ⟨w.heap.size + 1, 1, none⟩ = some (.int .u64 (sym : Nat)) := by rw [Lib.cell_of_heap (two_new w (.cells #[.bool big, .bool false] 34) (.cells #[.int .u64 (off : Nat), .int .u64 (sym : Nat), .int .u64 (ty : Nat), .int .u64 (add : Nat)] 104))]; rfl
  have F4 : ((w.alloc (.cells #[.bool big, .bool false] 34)).alloc (.cells #[.int .u64 (off : Nat), .int .u64 (sym : Nat), .int .u64 (ty : Nat), .int .u64 (add : Nat)] 104)).cell? ⟨w.heap.size + 1, 2, none⟩ = some (.int .u64 (ty : Nat)) := by rw [Lib.cell_of_heap (two_new w (.cells #[.bool big, .bool false] 34) (.cells #[.int .u64 (off : Nat), .int .u64 (sym : Nat), .int .u64 (ty : Nat), .int .u64 (add : Nat)] 104))]; rfl
  have F5 : ((w.alloc (.cells #[.bool big, .bool false] 34)).alloc (.cells #[.int .u64 (off : Nat), .int .u64 (sym : Nat), .int .u64 (ty : Nat), .int .u64 (add : Nat)] 104)).cell? ⟨w.heap.size + 1, 3, none⟩ = some (.int .u64 (add : Nat)) := by rw [Lib.cell_of_heap (two_new w (.cells #[.bool big, .bool false] 34) (.cells #[.int .u64 (off : Nat), .int .u64 (sym : Nat), .int .u64 (ty : Nat), .int .u64 (add : Nat)] 104))]; rfl
  have hz : w.heap.size + 1 < ((w.alloc (.cells #[.bool big, .bool false] 34)).alloc (.cells #[.int .u64 (off : Nat), .int .u64 (sym : Nat), .int .u64 (ty : Nat), .int .u64 (add : Nat)] 104)).heap.size := by simp
  generalize ((w.alloc (.cells #[.bool big, .bool false] 34)).alloc (.cells #[.int .u64 (off : Nat), .int .u64 (sym : Nat), .int .u64 (ty : Nat), .int .u64 (add : Nat)] 104)) = W at *
  refine (HG.out _).mono ?_
  rintro e w1 ⟨rfl, h1⟩
  have hB1 : Below w.heap.size w w1 := hW.trans (h1.mono hW.size)
  clear h1
  go_wp2
  go_ret2
  exact ⟨rfl, hB1⟩
set_option maxRecDepth 100000 in
set_option maxHeartbeats 2000000 in
theorem rput_yes_Ff (big : Bool) (off sym ty add : Nat) (S : ByteArray) (ok : Bool) (inf : Nat) (hinf : bits .or .u64 (IntKind.u64.wrap ((sym : Int) * 256)) (ty : Int) = (inf : Nat)) (hn : ∀ n ∈ [off, inf, add], n < 2 ^ 64) (hrec : RecIs big false [0, 0] [off, inf] 2 2 S ok) (hg : ∀ w, Calls Try.prog 81 #[.agg #[.int .u64 (off : Nat), .int .u64 (sym : Nat), .int .u64 (ty : Nat), .int .u64 (add : Nat)], .agg #[.bool big, .bool false], .bool false] w fun e w' => e = .returned (.bool true) ∧ Below w.heap.size w w') (w : World) :
    Calls Try.prog 40 #[.agg #[.bool big, .bool false], .bool false, .agg #[.int .u64 (off : Nat), .int .u64 (sym : Nat), .int .u64 (ty : Nat), .int .u64 (add : Nat)]] w fun e w' => e = .returned (.tuple #[.string S, .bool ok]) ∧ Below w.heap.size w w' := by
  have HG := Lib.hid hg; clear hg
  have HN := Lib.hid hn; clear hn
  have HREC := Lib.hid hrec; clear hrec
  have HI := Lib.hid hinf; clear hinf
  go_enter Try.func40, Try.ntmps40
  go_wp2_with fail
  have hW : Below w.heap.size w ((w.alloc (.cells #[.bool big, .bool false] 34)).alloc (.cells #[.int .u64 (off : Nat), .int .u64 (sym : Nat), .int .u64 (ty : Nat), .int .u64 (add : Nat)] 104)) := below_more (below_more (Below.refl _ _) _) _
  have F0 : ((w.alloc (.cells #[.bool big, .bool false] 34)).alloc (.cells #[.int .u64 (off : Nat), .int .u64 (sym : Nat), .int .u64 (ty : Nat), .int .u64 (add : Nat)] 104)).cell? ⟨w.heap.size, 0, none⟩ = some (.bool big) := cell_up _ (by simp)
  have F1 : ((w.alloc (.cells #[.bool big, .bool false] 34)).alloc (.cells #[.int .u64 (off : Nat), .int .u64 (sym : Nat), .int .u64 (ty : Nat), .int .u64 (add : Nat)] 104)).cell? ⟨w.heap.size, 1, none⟩ = some (.bool false) := cell_up _ (by simp)
  have F2 : ((w.alloc (.cells #[.bool big, .bool false] 34)).alloc (.cells #[.int .u64 (off : Nat), .int .u64 (sym : Nat), .int .u64 (ty : Nat), .int .u64 (add : Nat)] 104)).cell? ⟨w.heap.size + 1, 0, none⟩ = some (.int .u64 (off : Nat)) := by rw [Lib.cell_of_heap (two_new w (.cells #[.bool big, .bool false] 34) (.cells #[.int .u64 (off : Nat), .int .u64 (sym : Nat), .int .u64 (ty : Nat), .int .u64 (add : Nat)] 104))]; rfl
  have F3 : ((w.alloc (.cells #[.bool big, .bool false] 34)).alloc (.cells #[.int .u64 (off : Nat), .int .u64 (sym : Nat), .int .u64 (ty : Nat), .int .u64 (add : Nat)] 104)).cell? ⟨w.heap.size + 1, 1, none⟩ = some (.int .u64 (sym : Nat)) := by rw [Lib.cell_of_heap (two_new w (.cells #[.bool big, .bool false] 34) (.cells #[.int .u64 (off : Nat), .int .u64 (sym : Nat), .int .u64 (ty : Nat), .int .u64 (add : Nat)] 104))]; rfl
  have F4 : ((w.alloc (.cells #[.bool big, .bool false] 34)).alloc (.cells #[.int .u64 (off : Nat), .int .u64 (sym : Nat), .int .u64 (ty : Nat), .int .u64 (add : Nat)] 104)).cell? ⟨w.heap.size + 1, 2, none⟩ = some (.int .u64 (ty : Nat)) := by rw [Lib.cell_of_heap (two_new w (.cells #[.bool big, .bool false] 34) (.cells #[.int .u64 (off : Nat), .int .u64 (sym : Nat), .int .u64 (ty : Nat), .int .u64 (add : Nat)] 104))]; rfl
  have F5 : ((w.alloc (.cells #[.bool big, .bool false] 34)).alloc (.cells #[.int .u64 (off : Nat), .int .u64 (sym : Nat), .int .u64 (ty : Nat), .int .u64 (add : Nat)] 104)).cell? ⟨w.heap.size + 1, 3, none⟩ = some (.int .u64 (add : Nat)) := by rw [Lib.cell_of_heap (two_new w (.cells #[.bool big, .bool false] 34) (.cells #[.int .u64 (off : Nat), .int .u64 (sym : Nat), .int .u64 (ty : Nat), .int .u64 (add : Nat)] 104))]; rfl
  have hz : w.heap.size + 1 < ((w.alloc (.cells #[.bool big, .bool false] 34)).alloc (.cells #[.int .u64 (off : Nat), .int .u64 (sym : Nat), .int .u64 (ty : Nat), .int .u64 (add : Nat)] 104)).heap.size := by simp
  generalize ((w.alloc (.cells #[.bool big, .bool false] 34)).alloc (.cells #[.int .u64 (off : Nat), .int .u64 (sym : Nat), .int .u64 (ty : Nat), .int .u64 (add : Nat)] 104)) = W at *
  refine (HG.out _).mono ?_
  rintro e w1 ⟨rfl, h1⟩
  have hB1 : Below w.heap.size w w1 := hW.trans (h1.mono hW.size)
  replace F0 := (h1.cell (p := ⟨w.heap.size, 0, none⟩) (by show w.heap.size < W.heap.size; omega)).trans F0
  replace F1 := (h1.cell (p := ⟨w.heap.size, 1, none⟩) (by show w.heap.size < W.heap.size; omega)).trans F1
  replace F2 := (h1.cell (p := ⟨w.heap.size + 1, 0, none⟩) (by show w.heap.size + 1 < W.heap.size; omega)).trans F2
  replace F3 := (h1.cell (p := ⟨w.heap.size + 1, 1, none⟩) (by show w.heap.size + 1 < W.heap.size; omega)).trans F3
  replace F4 := (h1.cell (p := ⟨w.heap.size + 1, 2, none⟩) (by show w.heap.size + 1 < W.heap.size; omega)).trans F4
  replace F5 := (h1.cell (p := ⟨w.heap.size + 1, 3, none⟩) (by show w.heap.size + 1 < W.heap.size; omega)).trans F5
  have hz1 : w.heap.size + 1 < w1.heap.size := by have := h1.size; omega
  clear h1 hW hz
  go_wp2_with fail
  refine (rfields_F _).mono ?_
  rintro e w3 ⟨rfl, rfl⟩
  have hB3 := below_more hB1 (.cells #[.int .i64 0, .int .i64 0] 3)
  have hZ3 : (w1.alloc (.cells #[.int .i64 0, .int .i64 0] 3)).heap[w1.heap.size]? = some (.cells (rowI64 [0, 0]) 3 (0, 0)) := heap_alloc_new _ _
  replace F0 := cell_up (.cells #[.int .i64 0, .int .i64 0] 3) F0
  replace F1 := cell_up (.cells #[.int .i64 0, .int .i64 0] 3) F1
  replace F2 := cell_up (.cells #[.int .i64 0, .int .i64 0] 3) F2
  replace F3 := cell_up (.cells #[.int .i64 0, .int .i64 0] 3) F3
  replace F4 := cell_up (.cells #[.int .i64 0, .int .i64 0] 3) F4
  replace F5 := cell_up (.cells #[.int .i64 0, .int .i64 0] 3) F5
  have hz3 : w1.heap.size < (w1.alloc (.cells #[.int .i64 0, .int .i64 0] 3)).heap.size := by simp
  generalize hW3 : w1.alloc (.cells #[.int .i64 0, .int .i64 0] 3) = W3 at *
  clear hW3
  have G0 : ∀ w', Below W3.heap.size W3 w' → w'.cell? ⟨w.heap.size, 0, none⟩ = some (.bool big) := fun w' h => by rw [h.cell (by show w.heap.size < W3.heap.size; omega)]; exact F0
  have HG0 := Lib.hid G0; clear G0 F0
  have G1 : ∀ w', Below W3.heap.size W3 w' → w'.cell? ⟨w.heap.size, 1, none⟩ = some (.bool false) := fun w' h => by rw [h.cell (by show w.heap.size < W3.heap.size; omega)]; exact F1
  have HG1 := Lib.hid G1; clear G1 F1
  have G2 : ∀ w', Below W3.heap.size W3 w' → w'.cell? ⟨w.heap.size + 1, 0, none⟩ = some (.int .u64 (off : Nat)) := fun w' h => by rw [h.cell (by show w.heap.size + 1 < W3.heap.size; omega)]; exact F2
  have HG2 := Lib.hid G2; clear G2 F2
  have G3 : ∀ w', Below W3.heap.size W3 w' → w'.cell? ⟨w.heap.size + 1, 1, none⟩ = some (.int .u64 (sym : Nat)) := fun w' h => by rw [h.cell (by show w.heap.size + 1 < W3.heap.size; omega)]; exact F3
  have HG3 := Lib.hid G3; clear G3 F3
  have G4 : ∀ w', Below W3.heap.size W3 w' → w'.cell? ⟨w.heap.size + 1, 2, none⟩ = some (.int .u64 (ty : Nat)) := fun w' h => by rw [h.cell (by show w.heap.size + 1 < W3.heap.size; omega)]; exact F4
  have HG4 := Lib.hid G4; clear G4 F4
  have G5 : ∀ w', Below W3.heap.size W3 w' → w'.cell? ⟨w.heap.size + 1, 3, none⟩ = some (.int .u64 (add : Nat)) := fun w' h => by rw [h.cell (by show w.heap.size + 1 < W3.heap.size; omega)]; exact F5
  have HG5 := Lib.hid G5; clear G5 F5
  have HZ3 := Lib.hid hZ3; clear hZ3
  go_wp2_with fail
  refine wp_region_held_drew (S := fun w' => Below W3.heap.size W3 w') (by kernel_rfl) ?_ (fun hHeld => ?_)
  · exact (Below.refl _ _).drew
  refine wpAnyH_take (i := 0) (oi := { dst := some 17, op := Go.Op.fieldAddr 104 (Go.Operand.tmp 5) 0, type := 0, pos := "relrec.go:45", after := #[], guard := none }) (v := ?_) rfl (by kernel_rfl) (by kernel_rfl) (by kernel_rfl) (fun _ _ _ h => h) (Or.inl ⟨by rfl, ?_⟩) (by assumption) ?_
  rotate_left
  · (intro w hSw; (try dsimp only at hSw); go_simp <;> with_reducible rfl)
  try simp only [Act.put, List.setIfInBounds_toArray, List.set_cons_zero, List.set_cons_succ]
  refine wpAnyH_take (i := 2) (oi := { dst := some 19, op := Go.Op.fieldAddr 104 (Go.Operand.tmp 5) 1, type := 0, pos := "relrec.go:45", after := #[], guard := none }) (v := ?_) rfl (by kernel_rfl) (by kernel_rfl) (by kernel_rfl) (fun _ _ _ h => h) (Or.inl ⟨by rfl, ?_⟩) (by assumption) ?_
  rotate_left
  · (intro w hSw; (try dsimp only at hSw); go_simp <;> with_reducible rfl)
  try simp only [Act.put, List.setIfInBounds_toArray, List.set_cons_zero, List.set_cons_succ]
  refine wpAnyH_take (i := 4) (oi := { dst := some 21, op := Go.Op.load 34 (Go.Operand.tmp 3), type := 34, pos := "relrec.go:45", after := #[], guard := none }) (v := ?_) rfl (by kernel_rfl) (by kernel_rfl) (by kernel_rfl) (fun _ _ _ h => h) (Or.inl ⟨by rfl, ?_⟩) (by assumption) ?_
  rotate_left
  · (intro w hSw; have q0 := HG0.out w hSw; have q1 := HG1.out w hSw; (try dsimp only at hSw); go_simp <;> with_reducible rfl)
  try simp only [Act.put, List.setIfInBounds_toArray, List.set_cons_zero, List.set_cons_succ]
  refine wpAnyH_take (i := 7) (oi := { dst := some 24, op := Go.Op.fieldAddr 104 (Go.Operand.tmp 5) 2, type := 0, pos := "relrec.go:45", after := #[], guard := none }) (v := ?_) rfl (by kernel_rfl) (by kernel_rfl) (by kernel_rfl) (fun _ _ _ h => h) (Or.inl ⟨by rfl, ?_⟩) (by assumption) ?_
  rotate_left
  · (intro w hSw; (try dsimp only at hSw); go_simp <;> with_reducible rfl)
  try simp only [Act.put, List.setIfInBounds_toArray, List.set_cons_zero, List.set_cons_succ]
  refine wpAnyH_take (i := 10) (oi := { dst := some 27, op := Go.Op.fieldAddr 104 (Go.Operand.tmp 5) 3, type := 0, pos := "relrec.go:45", after := #[], guard := none }) (v := ?_) rfl (by kernel_rfl) (by kernel_rfl) (by kernel_rfl) (fun _ _ _ h => h) (Or.inl ⟨by rfl, ?_⟩) (by assumption) ?_
  rotate_left
  · (intro w hSw; (try dsimp only at hSw); go_simp <;> with_reducible rfl)
  try simp only [Act.put, List.setIfInBounds_toArray, List.set_cons_zero, List.set_cons_succ]
  refine wpAnyH_take (i := 1) (oi := { dst := some 18, op := Go.Op.load 29 (Go.Operand.tmp 17), type := 29, pos := "relrec.go:45", after := #[{ on := 0, ground := Go.Ground.data }], guard := none }) (v := ?_) rfl (by kernel_rfl) (by kernel_rfl) (by kernel_rfl) (fun _ _ _ h => h) (Or.inl ⟨by rfl, ?_⟩) (by assumption) ?_
  rotate_left
  · (intro w hSw; have q0 := HG2.out w hSw; (try dsimp only at hSw); go_simp <;> with_reducible rfl)
  try simp only [Act.put, List.setIfInBounds_toArray, List.set_cons_zero, List.set_cons_succ]
  refine wpAnyH_take (i := 3) (oi := { dst := some 20, op := Go.Op.load 29 (Go.Operand.tmp 19), type := 29, pos := "relrec.go:45", after := #[{ on := 2, ground := Go.Ground.data }], guard := none }) (v := ?_) rfl (by kernel_rfl) (by kernel_rfl) (by kernel_rfl) (fun _ _ _ h => h) (Or.inl ⟨by rfl, ?_⟩) (by assumption) ?_
  rotate_left
  · (intro w hSw; have q0 := HG3.out w hSw; (try dsimp only at hSw); go_simp <;> with_reducible rfl)
  try simp only [Act.put, List.setIfInBounds_toArray, List.set_cons_zero, List.set_cons_succ]
  refine wpAnyH_take (i := 8) (oi := { dst := some 25, op := Go.Op.load 29 (Go.Operand.tmp 24), type := 29, pos := "relrec.go:45", after := #[{ on := 7, ground := Go.Ground.data }], guard := none }) (v := ?_) rfl (by kernel_rfl) (by kernel_rfl) (by kernel_rfl) (fun _ _ _ h => h) (Or.inl ⟨by rfl, ?_⟩) (by assumption) ?_
  rotate_left
  · (intro w hSw; have q0 := HG4.out w hSw; (try dsimp only at hSw); go_simp <;> with_reducible rfl)
  try simp only [Act.put, List.setIfInBounds_toArray, List.set_cons_zero, List.set_cons_succ]
  refine wpAnyH_take (i := 11) (oi := { dst := some 28, op := Go.Op.load 29 (Go.Operand.tmp 27), type := 29, pos := "relrec.go:45", after := #[{ on := 10, ground := Go.Ground.data }], guard := none }) (v := ?_) rfl (by kernel_rfl) (by kernel_rfl) (by kernel_rfl) (fun _ _ _ h => h) (Or.inl ⟨by rfl, ?_⟩) (by assumption) ?_
  rotate_left
  · (intro w hSw; have q0 := HG5.out w hSw; (try dsimp only at hSw); go_simp <;> with_reducible rfl)
  try simp only [Act.put, List.setIfInBounds_toArray, List.set_cons_zero, List.set_cons_succ]
  refine wpAnyH_ready (rs := [5, 13]) (by kernel_rfl) (by simp) ?_
  refine (AllReadyH.cons (o := { dst := some 22, op := Go.Op.call { callee := Go.Callee.value (Go.Operand.func 83), args := #[Go.Operand.tmp 21], argTypes := #[34] }, type := 3, pos := "relrec.go:45", after := #[{ on := 4, ground := Go.Ground.data }], guard := none }) rfl (fun K hK => ?_) (AllReadyH.cons (o := { dst := some 9, op := Go.Op.alloc 154, type := 0, pos := "relrec.go:45", after := #[], guard := none }) rfl (fun K hK => ?_) AllReadyH.nil))
  · (first | go_at_call 83 | (go_simp; go_at_call 83))
    refine (typeBits_f big _).mono ?_
    rintro e w4 ⟨rfl, rfl⟩
    try go_wp2_with fail
    refine hK.out _ _ ?_ (fun hHeld2 => ?_)
    · exact hHeld.alloc hHeld.size _
    clear hK K
    try simp only [Act.put, List.setIfInBounds_toArray, List.set_cons_zero, List.set_cons_succ]
    refine wpAnyH_take (i := 6) (oi := { dst := some 23, op := Go.Op.binOp Go.BinOp.shl 29 (Go.Operand.tmp 20) (Go.Operand.tmp 22) 3, type := 29, pos := "relrec.go:45", after := #[{ on := 3, ground := Go.Ground.data }, { on := 5, ground := Go.Ground.data }], guard := none }) (v := ?_) rfl (by kernel_rfl) (by kernel_rfl) (by kernel_rfl) (fun _ _ _ h => h) (Or.inl ⟨by rfl, ?_⟩) (by assumption) ?_
    rotate_left
    · (intro w hSw; (try dsimp only at hSw); go_simp <;> with_reducible rfl)
    try simp only [Act.put, List.setIfInBounds_toArray, List.set_cons_zero, List.set_cons_succ]
    refine wpAnyH_take (i := 9) (oi := { dst := some 26, op := Go.Op.binOp Go.BinOp.or 29 (Go.Operand.tmp 23) (Go.Operand.tmp 25) 29, type := 29, pos := "relrec.go:45", after := #[{ on := 6, ground := Go.Ground.data }, { on := 8, ground := Go.Ground.data }], guard := none }) (v := ?_) rfl (by kernel_rfl) (by kernel_rfl) (by kernel_rfl) (fun _ _ _ h => h) (Or.inl ⟨by rfl, ?_⟩) (by assumption) ?_
    rotate_left
    · (intro w hSw; (try dsimp only at hSw); go_simp <;> with_reducible rfl)
    try simp only [Act.put, List.setIfInBounds_toArray, List.set_cons_zero, List.set_cons_succ]
    refine wpAnyH_take (i := 12) (oi := { dst := some 29, op := Go.Op.build 154 #[(0, Go.Operand.tmp 18), (1, Go.Operand.tmp 26), (2, Go.Operand.tmp 28)], type := 154, pos := "relrec.go:45", after := #[{ on := 1, ground := Go.Ground.data }, { on := 9, ground := Go.Ground.data }, { on := 11, ground := Go.Ground.data }], guard := none }) (v := ?_) rfl (by kernel_rfl) (by kernel_rfl) (by kernel_rfl) (fun _ _ _ h => h) (Or.inl ⟨by rfl, ?_⟩) (by assumption) ?_
    rotate_left
    · (intro w hSw; (try dsimp only at hSw); go_simp <;> with_reducible rfl)
    try simp only [Act.put, List.setIfInBounds_toArray, List.set_cons_zero, List.set_cons_succ]
    refine wpAnyH_ready (rs := [13]) (by kernel_rfl) (by simp) ?_
    refine AllReadyH.cons (o := { dst := some 9, op := Go.Op.alloc 154, type := 0, pos := "relrec.go:45", after := #[], guard := none }) rfl (fun K hK => ?_) AllReadyH.nil
    go_simp
    refine hK.out _ _ ?_ (fun hHeld3_5 => ?_)
    · exact hHeld2.alloc hHeld2.size _
    clear hK K
    try simp only [Act.put, List.setIfInBounds_toArray, List.set_cons_zero, List.set_cons_succ]
    refine wpAnyH_ready (rs := [14]) (by kernel_rfl) (by simp) ?_
    refine AllReadyH.cons (o := { dst := none, op := Go.Op.store 154 (Go.Operand.tmp 9) (Go.Operand.tmp 29), type := 0, pos := "relrec.go:45", after := #[{ on := 13, ground := Go.Ground.data }, { on := 12, ground := Go.Ground.data }, { on := 5, ground := Go.Ground.chain }, { on := 0, ground := Go.Ground.phase }, { on := 1, ground := Go.Ground.phase }, { on := 2, ground := Go.Ground.phase }, { on := 3, ground := Go.Ground.phase }, { on := 4, ground := Go.Ground.phase }, { on := 5, ground := Go.Ground.phase }, { on := 6, ground := Go.Ground.phase }, { on := 7, ground := Go.Ground.phase }, { on := 8, ground := Go.Ground.phase }, { on := 9, ground := Go.Ground.phase }, { on := 10, ground := Go.Ground.phase }, { on := 11, ground := Go.Ground.phase }, { on := 12, ground := Go.Ground.phase }, { on := 13, ground := Go.Ground.phase }], guard := none }) rfl (fun K hK => ?_) AllReadyH.nil
    refine wp_store_row 154 _ _ rfl (W3.heap.size + 1) #[.int .u64 (off : Nat), .int .u64 (bits .or .u64 (IntKind.u64.wrap ((sym : Int) * 256)) (ty : Int)), .int .u64 (add : Nat)] (by rfl) (by rfl) 154 #[.int .u64 0, .int .u64 0, .int .u64 0] (by exact two_new _ _ _) (by kernel_rfl) rfl (by simp [Value.oneCell']) ?_
    refine hK.out _ _ ?_ (fun hHeld4_5_13 => ?_)
    · exact below_setRow hHeld3_5 (by omega) _
    clear hK K
    try simp only [Act.put]
    refine wpAnyH_done (by kernel_rfl) ?_ _
    clear HG2 HG3 HG4 HG5 hHeld
    have hrow : (((W3.alloc (.cells #[.bool big, .bool false] 34)).alloc (.cells #[.int .u64 0, .int .u64 0, .int .u64 0] 154)).drew.setRow (W3.heap.size + 1) #[.int .u64 (off : Nat), .int .u64 (bits .or .u64 (IntKind.u64.wrap ((sym : Int) * 256)) (ty : Int)), .int .u64 (add : Nat)]).heap[W3.heap.size + 1]? = some (.cells #[.int .u64 (off : Nat), .int .u64 (bits .or .u64 (IntKind.u64.wrap ((sym : Int) * 256)) (ty : Int)), .int .u64 (add : Nat)] 154 (0, 0)) := setRow_heap _ _ #[.int .u64 0, .int .u64 0, .int .u64 0] _ _ _ (by show ((W3.alloc (.cells #[.bool big, .bool false] 34)).alloc (.cells #[.int .u64 0, .int .u64 0, .int .u64 0] 154)).heap[_]? = _; exact two_new _ _ _)
    have hHx := hHeld4_5_13
    rw [HI.out] at hrow hHx ⊢
    have hsx : W3.heap.size + 1 < (((W3.alloc (.cells #[.bool big, .bool false] 34)).alloc (.cells #[.int .u64 0, .int .u64 0, .int .u64 0] 154)).drew.setRow (W3.heap.size + 1) #[.int .u64 (off : Nat), .int .u64 (inf : Nat), .int .u64 (add : Nat)]).heap.size := by rw [setRow_size]; show _ < ((W3.alloc (.cells #[.bool big, .bool false] 34)).alloc (.cells #[.int .u64 0, .int .u64 0, .int .u64 0] 154)).heap.size; simp only [World.size_alloc]; omega
    generalize ((W3.alloc (.cells #[.bool big, .bool false] 34)).alloc (.cells #[.int .u64 0, .int .u64 0, .int .u64 0] 154)).drew.setRow (W3.heap.size + 1) #[.int .u64 (off : Nat), .int .u64 (inf : Nat), .int .u64 (add : Nat)] = Wx at *
    have hR : RowI Wx (some ⟨w1.heap.size, 0, none⟩) 2 [0, 0] := (RowI.of_rowT (L := [0, 0]) (t := 3) hz3 HZ3.out).kept hHx (Nat.le_refl _)
    have hQ : RowN Wx (some ⟨W3.heap.size + 1, 0, none⟩) 3 [off, inf, add] := RowN.of_rowT (L := [off, inf, add]) (t := 154) hsx hrow HN.out
    replace hQ := rowN_two hQ
    have F0 := HG0.out _ hHx
    have F1 := HG1.out _ hHx
    have hB5 : Below w.heap.size w Wx := hB3.trans (hHx.mono hB3.size)
    have hzx : w.heap.size < Wx.heap.size := by have := hHx.size; have := hB3.size; omega
    have HR := Lib.hid hR; have HQ := Lib.hid hQ; clear hR hQ hrow HG0 HG1 HZ3
    have G0 : ∀ w', Below Wx.heap.size Wx w' → w'.cell? ⟨w.heap.size, 0, none⟩ = some (.bool big) := fun w' h => by rw [h.cell (by show w.heap.size < Wx.heap.size; omega)]; exact F0
    have HG0 := Lib.hid G0; clear G0 F0
    have G1 : ∀ w', Below Wx.heap.size Wx w' → w'.cell? ⟨w.heap.size, 1, none⟩ = some (.bool false) := fun w' h => by rw [h.cell (by show w.heap.size < Wx.heap.size; omega)]; exact F1
    have HG1 := Lib.hid G1; clear G1 F1
    go_wp2_with fail
    refine wp_region_held_drew (S := fun w' => Below Wx.heap.size Wx w') (by kernel_rfl) ?_ (fun hHy => ?_)
    · exact (Below.refl _ _).drew
    refine wpAnyH_take (i := 0) (oi := { dst := some 30, op := Go.Op.load 34 (Go.Operand.tmp 3), type := 34, pos := "relrec.go:46", after := #[], guard := none }) (v := ?_) rfl (by kernel_rfl) (by kernel_rfl) (by kernel_rfl) (fun _ _ _ h => h) (Or.inl ⟨by rfl, ?_⟩) (by assumption) ?_
    rotate_left
    · (intro w hSw; have q0 := HG0.out w hSw; have q1 := HG1.out w hSw; (try dsimp only at hSw); go_simp <;> with_reducible rfl)
    try simp only [Act.put, List.setIfInBounds_toArray, List.set_cons_zero, List.set_cons_succ]
    refine wpAnyH_take (i := 1) (oi := { dst := some 31, op := Go.Op.move (Go.Operand.tmp 8), type := 68, pos := "relrec.go:46", after := #[], guard := none }) (v := ?_) rfl (by kernel_rfl) (by kernel_rfl) (by kernel_rfl) (fun _ _ _ h => h) (Or.inl ⟨by rfl, ?_⟩) (by assumption) ?_
    rotate_left
    · (intro w hSw; (try dsimp only at hSw); go_simp <;> with_reducible rfl)
    try simp only [Act.put, List.setIfInBounds_toArray, List.set_cons_zero, List.set_cons_succ]
    refine wpAnyH_take (i := 2) (oi := { dst := some 32, op := Go.Op.move (Go.Operand.tmp 8), type := 68, pos := "relrec.go:46", after := #[], guard := none }) (v := ?_) rfl (by kernel_rfl) (by kernel_rfl) (by kernel_rfl) (fun _ _ _ h => h) (Or.inl ⟨by rfl, ?_⟩) (by assumption) ?_
    rotate_left
    · (intro w hSw; (try dsimp only at hSw); go_simp <;> with_reducible rfl)
    try simp only [Act.put, List.setIfInBounds_toArray, List.set_cons_zero, List.set_cons_succ]
    refine wpAnyH_take (i := 3) (oi := { dst := some 33, op := Go.Op.call { callee := Go.Callee.builtin Go.Builtin.len, args := #[Go.Operand.tmp 32], argTypes := #[68] }, type := 3, pos := "relrec.go:46", after := #[{ on := 2, ground := Go.Ground.data }], guard := none }) (v := ?_) rfl (by kernel_rfl) (by kernel_rfl) (by kernel_rfl) (fun _ _ _ h => h) (Or.inl ⟨by rfl, ?_⟩) (by assumption) ?_
    rotate_left
    · (intro w hSw; (try dsimp only at hSw); go_simp <;> with_reducible rfl)
    try simp only [Act.put, List.setIfInBounds_toArray, List.set_cons_zero, List.set_cons_succ]
    refine wpAnyH_take (i := 4) (oi := { dst := some 34, op := Go.Op.slice 154 (Go.Operand.tmp 9) none (some (Go.Operand.tmp 33)) none, type := 76, pos := "relrec.go:46", after := #[{ on := 3, ground := Go.Ground.data }], guard := none }) (v := ?_) rfl (by kernel_rfl) (by kernel_rfl) (by kernel_rfl) (fun _ _ _ h => h) (Or.inl ⟨by rfl, ?_⟩) (by assumption) ?_
    rotate_left
    · (intro w hSw; (try dsimp only at hSw); go_simp <;> with_reducible rfl)
    try simp only [Act.put, List.setIfInBounds_toArray, List.set_cons_zero, List.set_cons_succ]
    refine wpAnyH_ready (rs := [5]) (by kernel_rfl) (by simp) ?_
    refine AllReadyH.cons (o := { dst := some 35, op := Go.Op.call { callee := Go.Callee.value (Go.Operand.func 77), args := #[Go.Operand.tmp 30, Go.Operand.tmp 31, Go.Operand.tmp 34], argTypes := #[34, 68, 76] }, type := 92, pos := "relrec.go:46", after := #[{ on := 0, ground := Go.Ground.data }, { on := 1, ground := Go.Ground.data }, { on := 4, ground := Go.Ground.data }], guard := none }) rfl (fun K hK => ?_) AllReadyH.nil
    (first | go_at_call 77 | (go_simp; go_at_call 77))
    (with_reducible refine (record_is big false (some ⟨w1.heap.size, 0, none⟩) (some ⟨W3.heap.size + 1, 0, none⟩) 2 2 2 3 [0, 0] [off, inf] S ok _ (by decide) (HR.out.kept hHy (Nat.le_refl _)) (HQ.out.kept' hHy (Nat.le_refl _)) HREC.out).mono ?_)
    rintro e w6 ⟨rfl, h6⟩
    try go_wp2_with fail
    refine hK.out _ _ ?_ (fun hHy2 => ?_)
    · exact hHy.trans (h6.mono hHy.size)
    clear hK K
    try simp only [Act.put, List.setIfInBounds_toArray, List.set_cons_zero, List.set_cons_succ]
    refine wpAnyH_take (i := 6) (oi := { dst := some 36, op := Go.Op.extract (Go.Operand.tmp 35) 0, type := 9, pos := "relrec.go:46", after := #[{ on := 5, ground := Go.Ground.data }], guard := none }) (v := ?_) rfl (by kernel_rfl) (by kernel_rfl) (by kernel_rfl) (fun _ _ _ h => h) (Or.inl ⟨by rfl, ?_⟩) (by assumption) ?_
    rotate_left
    · (intro w hSw; (try dsimp only at hSw); go_simp <;> with_reducible rfl)
    try simp only [Act.put, List.setIfInBounds_toArray, List.set_cons_zero, List.set_cons_succ]
    refine wpAnyH_take (i := 7) (oi := { dst := some 37, op := Go.Op.extract (Go.Operand.tmp 35) 1, type := 4, pos := "relrec.go:46", after := #[{ on := 5, ground := Go.Ground.data }], guard := none }) (v := ?_) rfl (by kernel_rfl) (by kernel_rfl) (by kernel_rfl) (fun _ _ _ h => h) (Or.inl ⟨by rfl, ?_⟩) (by assumption) ?_
    rotate_left
    · (intro w hSw; (try dsimp only at hSw); go_simp <;> with_reducible rfl)
    try simp only [Act.put, List.setIfInBounds_toArray, List.set_cons_zero, List.set_cons_succ]
    refine wpAnyH_take (i := 8) (oi := { dst := some 6, op := Go.Op.assign (Go.Operand.tmp 36), type := 9, pos := "relrec.go:46", after := #[{ on := 6, ground := Go.Ground.data }, { on := 5, ground := Go.Ground.chain }, { on := 0, ground := Go.Ground.phase }, { on := 1, ground := Go.Ground.phase }, { on := 2, ground := Go.Ground.phase }, { on := 3, ground := Go.Ground.phase }, { on := 4, ground := Go.Ground.phase }, { on := 5, ground := Go.Ground.phase }, { on := 6, ground := Go.Ground.phase }, { on := 7, ground := Go.Ground.phase }], guard := none }) (v := ?_) rfl (by kernel_rfl) (by kernel_rfl) (by kernel_rfl) (fun _ _ _ h => h) (Or.inl ⟨by rfl, ?_⟩) (by assumption) ?_
    rotate_left
    · (intro w hSw; (try dsimp only at hSw); go_simp <;> with_reducible rfl)
    try simp only [Act.put, List.setIfInBounds_toArray, List.set_cons_zero, List.set_cons_succ]
    refine wpAnyH_take (i := 9) (oi := { dst := some 7, op := Go.Op.assign (Go.Operand.tmp 37), type := 4, pos := "relrec.go:46", after := #[{ on := 7, ground := Go.Ground.data }, { on := 8, ground := Go.Ground.chain }, { on := 0, ground := Go.Ground.phase }, { on := 1, ground := Go.Ground.phase }, { on := 2, ground := Go.Ground.phase }, { on := 3, ground := Go.Ground.phase }, { on := 4, ground := Go.Ground.phase }, { on := 5, ground := Go.Ground.phase }, { on := 6, ground := Go.Ground.phase }, { on := 7, ground := Go.Ground.phase }, { on := 8, ground := Go.Ground.phase }], guard := none }) (v := ?_) rfl (by kernel_rfl) (by kernel_rfl) (by kernel_rfl) (fun _ _ _ h => h) (Or.inl ⟨by rfl, ?_⟩) (by assumption) ?_
    rotate_left
    · (intro w hSw; (try dsimp only at hSw); go_simp <;> with_reducible rfl)
    try simp only [Act.put, List.setIfInBounds_toArray, List.set_cons_zero, List.set_cons_succ]
    refine wpAnyH_done (by kernel_rfl) ?_ _
    go_wp2
    go_ret2
    exact ⟨rfl, hB5.trans (hHy2.mono hB5.size)⟩
  · go_simp
    refine hK.out _ _ ?_ (fun hHeld2 => ?_)
    · exact hHeld.alloc hHeld.size _
    clear hK K
    try simp only [Act.put, List.setIfInBounds_toArray, List.set_cons_zero, List.set_cons_succ]
    refine wpAnyH_ready (rs := [5]) (by kernel_rfl) (by simp) ?_
    refine AllReadyH.cons (o := { dst := some 22, op := Go.Op.call { callee := Go.Callee.value (Go.Operand.func 83), args := #[Go.Operand.tmp 21], argTypes := #[34] }, type := 3, pos := "relrec.go:45", after := #[{ on := 4, ground := Go.Ground.data }], guard := none }) rfl (fun K hK => ?_) AllReadyH.nil
    (first | go_at_call 83 | (go_simp; go_at_call 83))
    refine (typeBits_f big _).mono ?_
    rintro e w4 ⟨rfl, rfl⟩
    try go_wp2_with fail
    refine hK.out _ _ ?_ (fun hHeld3_13 => ?_)
    · exact hHeld2.alloc hHeld2.size _
    clear hK K
    try simp only [Act.put, List.setIfInBounds_toArray, List.set_cons_zero, List.set_cons_succ]
    refine wpAnyH_take (i := 6) (oi := { dst := some 23, op := Go.Op.binOp Go.BinOp.shl 29 (Go.Operand.tmp 20) (Go.Operand.tmp 22) 3, type := 29, pos := "relrec.go:45", after := #[{ on := 3, ground := Go.Ground.data }, { on := 5, ground := Go.Ground.data }], guard := none }) (v := ?_) rfl (by kernel_rfl) (by kernel_rfl) (by kernel_rfl) (fun _ _ _ h => h) (Or.inl ⟨by rfl, ?_⟩) (by assumption) ?_
    rotate_left
    · (intro w hSw; (try dsimp only at hSw); go_simp <;> with_reducible rfl)
    try simp only [Act.put, List.setIfInBounds_toArray, List.set_cons_zero, List.set_cons_succ]
    refine wpAnyH_take (i := 9) (oi := { dst := some 26, op := Go.Op.binOp Go.BinOp.or 29 (Go.Operand.tmp 23) (Go.Operand.tmp 25) 29, type := 29, pos := "relrec.go:45", after := #[{ on := 6, ground := Go.Ground.data }, { on := 8, ground := Go.Ground.data }], guard := none }) (v := ?_) rfl (by kernel_rfl) (by kernel_rfl) (by kernel_rfl) (fun _ _ _ h => h) (Or.inl ⟨by rfl, ?_⟩) (by assumption) ?_
    rotate_left
    · (intro w hSw; (try dsimp only at hSw); go_simp <;> with_reducible rfl)
    try simp only [Act.put, List.setIfInBounds_toArray, List.set_cons_zero, List.set_cons_succ]
    refine wpAnyH_take (i := 12) (oi := { dst := some 29, op := Go.Op.build 154 #[(0, Go.Operand.tmp 18), (1, Go.Operand.tmp 26), (2, Go.Operand.tmp 28)], type := 154, pos := "relrec.go:45", after := #[{ on := 1, ground := Go.Ground.data }, { on := 9, ground := Go.Ground.data }, { on := 11, ground := Go.Ground.data }], guard := none }) (v := ?_) rfl (by kernel_rfl) (by kernel_rfl) (by kernel_rfl) (fun _ _ _ h => h) (Or.inl ⟨by rfl, ?_⟩) (by assumption) ?_
    rotate_left
    · (intro w hSw; (try dsimp only at hSw); go_simp <;> with_reducible rfl)
    try simp only [Act.put, List.setIfInBounds_toArray, List.set_cons_zero, List.set_cons_succ]
    refine wpAnyH_ready (rs := [14]) (by kernel_rfl) (by simp) ?_
    refine AllReadyH.cons (o := { dst := none, op := Go.Op.store 154 (Go.Operand.tmp 9) (Go.Operand.tmp 29), type := 0, pos := "relrec.go:45", after := #[{ on := 13, ground := Go.Ground.data }, { on := 12, ground := Go.Ground.data }, { on := 5, ground := Go.Ground.chain }, { on := 0, ground := Go.Ground.phase }, { on := 1, ground := Go.Ground.phase }, { on := 2, ground := Go.Ground.phase }, { on := 3, ground := Go.Ground.phase }, { on := 4, ground := Go.Ground.phase }, { on := 5, ground := Go.Ground.phase }, { on := 6, ground := Go.Ground.phase }, { on := 7, ground := Go.Ground.phase }, { on := 8, ground := Go.Ground.phase }, { on := 9, ground := Go.Ground.phase }, { on := 10, ground := Go.Ground.phase }, { on := 11, ground := Go.Ground.phase }, { on := 12, ground := Go.Ground.phase }, { on := 13, ground := Go.Ground.phase }], guard := none }) rfl (fun K hK => ?_) AllReadyH.nil
    refine wp_store_row 154 _ _ rfl W3.heap.size #[.int .u64 (off : Nat), .int .u64 (bits .or .u64 (IntKind.u64.wrap ((sym : Int) * 256)) (ty : Int)), .int .u64 (add : Nat)] (by rfl) (by rfl) 154 #[.int .u64 0, .int .u64 0, .int .u64 0] (by show (World.alloc _ _).heap[_]? = _; rw [Below.heap_alloc _ _ _ (by simp)]; exact heap_alloc_new _ _) (by kernel_rfl) rfl (by simp [Value.oneCell']) ?_
    refine hK.out _ _ ?_ (fun hHeld4_13_5 => ?_)
    · exact below_setRow hHeld3_13 (by omega) _
    clear hK K
    try simp only [Act.put]
    refine wpAnyH_done (by kernel_rfl) ?_ _
    clear HG2 HG3 HG4 HG5 hHeld
    have hrow : (((W3.alloc (.cells #[.int .u64 0, .int .u64 0, .int .u64 0] 154)).alloc (.cells #[.bool big, .bool false] 34)).drew.setRow (W3.heap.size) #[.int .u64 (off : Nat), .int .u64 (bits .or .u64 (IntKind.u64.wrap ((sym : Int) * 256)) (ty : Int)), .int .u64 (add : Nat)]).heap[W3.heap.size]? = some (.cells #[.int .u64 (off : Nat), .int .u64 (bits .or .u64 (IntKind.u64.wrap ((sym : Int) * 256)) (ty : Int)), .int .u64 (add : Nat)] 154 (0, 0)) := setRow_heap _ _ #[.int .u64 0, .int .u64 0, .int .u64 0] _ _ _ (by show ((W3.alloc (.cells #[.int .u64 0, .int .u64 0, .int .u64 0] 154)).alloc (.cells #[.bool big, .bool false] 34)).heap[_]? = _; rw [Below.heap_alloc _ _ _ (by simp)]; exact heap_alloc_new _ _)
    have hHx := hHeld4_13_5
    rw [HI.out] at hrow hHx ⊢
    have hsx : W3.heap.size < (((W3.alloc (.cells #[.int .u64 0, .int .u64 0, .int .u64 0] 154)).alloc (.cells #[.bool big, .bool false] 34)).drew.setRow (W3.heap.size) #[.int .u64 (off : Nat), .int .u64 (inf : Nat), .int .u64 (add : Nat)]).heap.size := by rw [setRow_size]; show _ < ((W3.alloc (.cells #[.int .u64 0, .int .u64 0, .int .u64 0] 154)).alloc (.cells #[.bool big, .bool false] 34)).heap.size; simp only [World.size_alloc]; omega
    generalize ((W3.alloc (.cells #[.int .u64 0, .int .u64 0, .int .u64 0] 154)).alloc (.cells #[.bool big, .bool false] 34)).drew.setRow (W3.heap.size) #[.int .u64 (off : Nat), .int .u64 (inf : Nat), .int .u64 (add : Nat)] = Wx at *
    have hR : RowI Wx (some ⟨w1.heap.size, 0, none⟩) 2 [0, 0] := (RowI.of_rowT (L := [0, 0]) (t := 3) hz3 HZ3.out).kept hHx (Nat.le_refl _)
    have hQ : RowN Wx (some ⟨W3.heap.size, 0, none⟩) 3 [off, inf, add] := RowN.of_rowT (L := [off, inf, add]) (t := 154) hsx hrow HN.out
    replace hQ := rowN_two hQ
    have F0 := HG0.out _ hHx
    have F1 := HG1.out _ hHx
    have hB5 : Below w.heap.size w Wx := hB3.trans (hHx.mono hB3.size)
    have hzx : w.heap.size < Wx.heap.size := by have := hHx.size; have := hB3.size; omega
    have HR := Lib.hid hR; have HQ := Lib.hid hQ; clear hR hQ hrow HG0 HG1 HZ3
    have G0 : ∀ w', Below Wx.heap.size Wx w' → w'.cell? ⟨w.heap.size, 0, none⟩ = some (.bool big) := fun w' h => by rw [h.cell (by show w.heap.size < Wx.heap.size; omega)]; exact F0
    have HG0 := Lib.hid G0; clear G0 F0
    have G1 : ∀ w', Below Wx.heap.size Wx w' → w'.cell? ⟨w.heap.size, 1, none⟩ = some (.bool false) := fun w' h => by rw [h.cell (by show w.heap.size < Wx.heap.size; omega)]; exact F1
    have HG1 := Lib.hid G1; clear G1 F1
    go_wp2_with fail
    refine wp_region_held_drew (S := fun w' => Below Wx.heap.size Wx w') (by kernel_rfl) ?_ (fun hHy => ?_)
    · exact (Below.refl _ _).drew
    refine wpAnyH_take (i := 0) (oi := { dst := some 30, op := Go.Op.load 34 (Go.Operand.tmp 3), type := 34, pos := "relrec.go:46", after := #[], guard := none }) (v := ?_) rfl (by kernel_rfl) (by kernel_rfl) (by kernel_rfl) (fun _ _ _ h => h) (Or.inl ⟨by rfl, ?_⟩) (by assumption) ?_
    rotate_left
    · (intro w hSw; have q0 := HG0.out w hSw; have q1 := HG1.out w hSw; (try dsimp only at hSw); go_simp <;> with_reducible rfl)
    try simp only [Act.put, List.setIfInBounds_toArray, List.set_cons_zero, List.set_cons_succ]
    refine wpAnyH_take (i := 1) (oi := { dst := some 31, op := Go.Op.move (Go.Operand.tmp 8), type := 68, pos := "relrec.go:46", after := #[], guard := none }) (v := ?_) rfl (by kernel_rfl) (by kernel_rfl) (by kernel_rfl) (fun _ _ _ h => h) (Or.inl ⟨by rfl, ?_⟩) (by assumption) ?_
    rotate_left
    · (intro w hSw; (try dsimp only at hSw); go_simp <;> with_reducible rfl)
    try simp only [Act.put, List.setIfInBounds_toArray, List.set_cons_zero, List.set_cons_succ]
    refine wpAnyH_take (i := 2) (oi := { dst := some 32, op := Go.Op.move (Go.Operand.tmp 8), type := 68, pos := "relrec.go:46", after := #[], guard := none }) (v := ?_) rfl (by kernel_rfl) (by kernel_rfl) (by kernel_rfl) (fun _ _ _ h => h) (Or.inl ⟨by rfl, ?_⟩) (by assumption) ?_
    rotate_left
    · (intro w hSw; (try dsimp only at hSw); go_simp <;> with_reducible rfl)
    try simp only [Act.put, List.setIfInBounds_toArray, List.set_cons_zero, List.set_cons_succ]
    refine wpAnyH_take (i := 3) (oi := { dst := some 33, op := Go.Op.call { callee := Go.Callee.builtin Go.Builtin.len, args := #[Go.Operand.tmp 32], argTypes := #[68] }, type := 3, pos := "relrec.go:46", after := #[{ on := 2, ground := Go.Ground.data }], guard := none }) (v := ?_) rfl (by kernel_rfl) (by kernel_rfl) (by kernel_rfl) (fun _ _ _ h => h) (Or.inl ⟨by rfl, ?_⟩) (by assumption) ?_
    rotate_left
    · (intro w hSw; (try dsimp only at hSw); go_simp <;> with_reducible rfl)
    try simp only [Act.put, List.setIfInBounds_toArray, List.set_cons_zero, List.set_cons_succ]
    refine wpAnyH_take (i := 4) (oi := { dst := some 34, op := Go.Op.slice 154 (Go.Operand.tmp 9) none (some (Go.Operand.tmp 33)) none, type := 76, pos := "relrec.go:46", after := #[{ on := 3, ground := Go.Ground.data }], guard := none }) (v := ?_) rfl (by kernel_rfl) (by kernel_rfl) (by kernel_rfl) (fun _ _ _ h => h) (Or.inl ⟨by rfl, ?_⟩) (by assumption) ?_
    rotate_left
    · (intro w hSw; (try dsimp only at hSw); go_simp <;> with_reducible rfl)
    try simp only [Act.put, List.setIfInBounds_toArray, List.set_cons_zero, List.set_cons_succ]
    refine wpAnyH_ready (rs := [5]) (by kernel_rfl) (by simp) ?_
    refine AllReadyH.cons (o := { dst := some 35, op := Go.Op.call { callee := Go.Callee.value (Go.Operand.func 77), args := #[Go.Operand.tmp 30, Go.Operand.tmp 31, Go.Operand.tmp 34], argTypes := #[34, 68, 76] }, type := 92, pos := "relrec.go:46", after := #[{ on := 0, ground := Go.Ground.data }, { on := 1, ground := Go.Ground.data }, { on := 4, ground := Go.Ground.data }], guard := none }) rfl (fun K hK => ?_) AllReadyH.nil
    (first | go_at_call 77 | (go_simp; go_at_call 77))
    (with_reducible refine (record_is big false (some ⟨w1.heap.size, 0, none⟩) (some ⟨W3.heap.size, 0, none⟩) 2 2 2 3 [0, 0] [off, inf] S ok _ (by decide) (HR.out.kept hHy (Nat.le_refl _)) (HQ.out.kept' hHy (Nat.le_refl _)) HREC.out).mono ?_)
    rintro e w6 ⟨rfl, h6⟩
    try go_wp2_with fail
    refine hK.out _ _ ?_ (fun hHy2 => ?_)
    · exact hHy.trans (h6.mono hHy.size)
    clear hK K
    try simp only [Act.put, List.setIfInBounds_toArray, List.set_cons_zero, List.set_cons_succ]
    refine wpAnyH_take (i := 6) (oi := { dst := some 36, op := Go.Op.extract (Go.Operand.tmp 35) 0, type := 9, pos := "relrec.go:46", after := #[{ on := 5, ground := Go.Ground.data }], guard := none }) (v := ?_) rfl (by kernel_rfl) (by kernel_rfl) (by kernel_rfl) (fun _ _ _ h => h) (Or.inl ⟨by rfl, ?_⟩) (by assumption) ?_
    rotate_left
    · (intro w hSw; (try dsimp only at hSw); go_simp <;> with_reducible rfl)
    try simp only [Act.put, List.setIfInBounds_toArray, List.set_cons_zero, List.set_cons_succ]
    refine wpAnyH_take (i := 7) (oi := { dst := some 37, op := Go.Op.extract (Go.Operand.tmp 35) 1, type := 4, pos := "relrec.go:46", after := #[{ on := 5, ground := Go.Ground.data }], guard := none }) (v := ?_) rfl (by kernel_rfl) (by kernel_rfl) (by kernel_rfl) (fun _ _ _ h => h) (Or.inl ⟨by rfl, ?_⟩) (by assumption) ?_
    rotate_left
    · (intro w hSw; (try dsimp only at hSw); go_simp <;> with_reducible rfl)
    try simp only [Act.put, List.setIfInBounds_toArray, List.set_cons_zero, List.set_cons_succ]
    refine wpAnyH_take (i := 8) (oi := { dst := some 6, op := Go.Op.assign (Go.Operand.tmp 36), type := 9, pos := "relrec.go:46", after := #[{ on := 6, ground := Go.Ground.data }, { on := 5, ground := Go.Ground.chain }, { on := 0, ground := Go.Ground.phase }, { on := 1, ground := Go.Ground.phase }, { on := 2, ground := Go.Ground.phase }, { on := 3, ground := Go.Ground.phase }, { on := 4, ground := Go.Ground.phase }, { on := 5, ground := Go.Ground.phase }, { on := 6, ground := Go.Ground.phase }, { on := 7, ground := Go.Ground.phase }], guard := none }) (v := ?_) rfl (by kernel_rfl) (by kernel_rfl) (by kernel_rfl) (fun _ _ _ h => h) (Or.inl ⟨by rfl, ?_⟩) (by assumption) ?_
    rotate_left
    · (intro w hSw; (try dsimp only at hSw); go_simp <;> with_reducible rfl)
    try simp only [Act.put, List.setIfInBounds_toArray, List.set_cons_zero, List.set_cons_succ]
    refine wpAnyH_take (i := 9) (oi := { dst := some 7, op := Go.Op.assign (Go.Operand.tmp 37), type := 4, pos := "relrec.go:46", after := #[{ on := 7, ground := Go.Ground.data }, { on := 8, ground := Go.Ground.chain }, { on := 0, ground := Go.Ground.phase }, { on := 1, ground := Go.Ground.phase }, { on := 2, ground := Go.Ground.phase }, { on := 3, ground := Go.Ground.phase }, { on := 4, ground := Go.Ground.phase }, { on := 5, ground := Go.Ground.phase }, { on := 6, ground := Go.Ground.phase }, { on := 7, ground := Go.Ground.phase }, { on := 8, ground := Go.Ground.phase }], guard := none }) (v := ?_) rfl (by kernel_rfl) (by kernel_rfl) (by kernel_rfl) (fun _ _ _ h => h) (Or.inl ⟨by rfl, ?_⟩) (by assumption) ?_
    rotate_left
    · (intro w hSw; (try dsimp only at hSw); go_simp <;> with_reducible rfl)
    try simp only [Act.put, List.setIfInBounds_toArray, List.set_cons_zero, List.set_cons_succ]
    refine wpAnyH_done (by kernel_rfl) ?_ _
    go_wp2
    go_ret2
    exact ⟨rfl, hB5.trans (hHy2.mono hB5.size)⟩
set_option maxRecDepth 100000 in
set_option maxHeartbeats 1000000 in
theorem rput_no_Ft (big : Bool) (off sym ty add : Nat) (hg : ∀ w, Calls Try.prog 81 #[.agg #[.int .u64 (off : Nat), .int .u64 (sym : Nat), .int .u64 (ty : Nat), .int .u64 (add : Nat)], .agg #[.bool big, .bool true], .bool false] w fun e w' => e = .returned (.bool false) ∧ Below w.heap.size w w') (w : World) :
    Calls Try.prog 40 #[.agg #[.bool big, .bool true], .bool false, .agg #[.int .u64 (off : Nat), .int .u64 (sym : Nat), .int .u64 (ty : Nat), .int .u64 (add : Nat)]] w fun e w' => e = .returned (.tuple #[.string ⟨#[]⟩, .bool false]) ∧ Below w.heap.size w w' := by
  have HG := Lib.hid hg; clear hg
  go_enter Try.func40, Try.ntmps40
  go_wp2_with fail
  have hW : Below w.heap.size w ((w.alloc (.cells #[.bool big, .bool true] 34)).alloc (.cells #[.int .u64 (off : Nat), .int .u64 (sym : Nat), .int .u64 (ty : Nat), .int .u64 (add : Nat)] 104)) := below_more (below_more (Below.refl _ _) _) _
  have F0 : ((w.alloc (.cells #[.bool big, .bool true] 34)).alloc (.cells #[.int .u64 (off : Nat), .int .u64 (sym : Nat), .int .u64 (ty : Nat), .int .u64 (add : Nat)] 104)).cell? ⟨w.heap.size, 0, none⟩ = some (.bool big) := cell_up _ (by simp)
  have F1 : ((w.alloc (.cells #[.bool big, .bool true] 34)).alloc (.cells #[.int .u64 (off : Nat), .int .u64 (sym : Nat), .int .u64 (ty : Nat), .int .u64 (add : Nat)] 104)).cell? ⟨w.heap.size, 1, none⟩ = some (.bool true) := cell_up _ (by simp)
  have F2 : ((w.alloc (.cells #[.bool big, .bool true] 34)).alloc (.cells #[.int .u64 (off : Nat), .int .u64 (sym : Nat), .int .u64 (ty : Nat), .int .u64 (add : Nat)] 104)).cell? ⟨w.heap.size + 1, 0, none⟩ = some (.int .u64 (off : Nat)) := by rw [Lib.cell_of_heap (two_new w (.cells #[.bool big, .bool true] 34) (.cells #[.int .u64 (off : Nat), .int .u64 (sym : Nat), .int .u64 (ty : Nat), .int .u64 (add : Nat)] 104))]; rfl
  have F3 : ((w.alloc (.cells #[.bool big, .bool true] 34)).alloc (.cells #[.int .u64 (off : Nat), .int .u64 (sym : Nat), .int .u64 (ty : Nat), .int .u64 (add : Nat)] 104)).cell? ⟨w.heap.size + 1, 1, none⟩ = some (.int .u64 (sym : Nat)) := by rw [Lib.cell_of_heap (two_new w (.cells #[.bool big, .bool true] 34) (.cells #[.int .u64 (off : Nat), .int .u64 (sym : Nat), .int .u64 (ty : Nat), .int .u64 (add : Nat)] 104))]; rfl
  have F4 : ((w.alloc (.cells #[.bool big, .bool true] 34)).alloc (.cells #[.int .u64 (off : Nat), .int .u64 (sym : Nat), .int .u64 (ty : Nat), .int .u64 (add : Nat)] 104)).cell? ⟨w.heap.size + 1, 2, none⟩ = some (.int .u64 (ty : Nat)) := by rw [Lib.cell_of_heap (two_new w (.cells #[.bool big, .bool true] 34) (.cells #[.int .u64 (off : Nat), .int .u64 (sym : Nat), .int .u64 (ty : Nat), .int .u64 (add : Nat)] 104))]; rfl
  have F5 : ((w.alloc (.cells #[.bool big, .bool true] 34)).alloc (.cells #[.int .u64 (off : Nat), .int .u64 (sym : Nat), .int .u64 (ty : Nat), .int .u64 (add : Nat)] 104)).cell? ⟨w.heap.size + 1, 3, none⟩ = some (.int .u64 (add : Nat)) := by rw [Lib.cell_of_heap (two_new w (.cells #[.bool big, .bool true] 34) (.cells #[.int .u64 (off : Nat), .int .u64 (sym : Nat), .int .u64 (ty : Nat), .int .u64 (add : Nat)] 104))]; rfl
  have hz : w.heap.size + 1 < ((w.alloc (.cells #[.bool big, .bool true] 34)).alloc (.cells #[.int .u64 (off : Nat), .int .u64 (sym : Nat), .int .u64 (ty : Nat), .int .u64 (add : Nat)] 104)).heap.size := by simp
  generalize ((w.alloc (.cells #[.bool big, .bool true] 34)).alloc (.cells #[.int .u64 (off : Nat), .int .u64 (sym : Nat), .int .u64 (ty : Nat), .int .u64 (add : Nat)] 104)) = W at *
  refine (HG.out _).mono ?_
  rintro e w1 ⟨rfl, h1⟩
  have hB1 : Below w.heap.size w w1 := hW.trans (h1.mono hW.size)
  clear h1
  go_wp2
  go_ret2
  exact ⟨rfl, hB1⟩
set_option maxRecDepth 100000 in
set_option maxHeartbeats 2000000 in
theorem rput_yes_Ft (big : Bool) (off sym ty add : Nat) (S : ByteArray) (ok : Bool) (inf : Nat) (hinf : bits .or .u64 (IntKind.u64.wrap ((sym : Int) * 4294967296)) (ty : Int) = (inf : Nat)) (hn : ∀ n ∈ [off, inf, add], n < 2 ^ 64) (hrec : RecIs big true [0, 0] [off, inf] 2 2 S ok) (hg : ∀ w, Calls Try.prog 81 #[.agg #[.int .u64 (off : Nat), .int .u64 (sym : Nat), .int .u64 (ty : Nat), .int .u64 (add : Nat)], .agg #[.bool big, .bool true], .bool false] w fun e w' => e = .returned (.bool true) ∧ Below w.heap.size w w') (w : World) :
    Calls Try.prog 40 #[.agg #[.bool big, .bool true], .bool false, .agg #[.int .u64 (off : Nat), .int .u64 (sym : Nat), .int .u64 (ty : Nat), .int .u64 (add : Nat)]] w fun e w' => e = .returned (.tuple #[.string S, .bool ok]) ∧ Below w.heap.size w w' := by
  have HG := Lib.hid hg; clear hg
  have HN := Lib.hid hn; clear hn
  have HREC := Lib.hid hrec; clear hrec
  have HI := Lib.hid hinf; clear hinf
  go_enter Try.func40, Try.ntmps40
  go_wp2_with fail
  have hW : Below w.heap.size w ((w.alloc (.cells #[.bool big, .bool true] 34)).alloc (.cells #[.int .u64 (off : Nat), .int .u64 (sym : Nat), .int .u64 (ty : Nat), .int .u64 (add : Nat)] 104)) := below_more (below_more (Below.refl _ _) _) _
  have F0 : ((w.alloc (.cells #[.bool big, .bool true] 34)).alloc (.cells #[.int .u64 (off : Nat), .int .u64 (sym : Nat), .int .u64 (ty : Nat), .int .u64 (add : Nat)] 104)).cell? ⟨w.heap.size, 0, none⟩ = some (.bool big) := cell_up _ (by simp)
  have F1 : ((w.alloc (.cells #[.bool big, .bool true] 34)).alloc (.cells #[.int .u64 (off : Nat), .int .u64 (sym : Nat), .int .u64 (ty : Nat), .int .u64 (add : Nat)] 104)).cell? ⟨w.heap.size, 1, none⟩ = some (.bool true) := cell_up _ (by simp)
  have F2 : ((w.alloc (.cells #[.bool big, .bool true] 34)).alloc (.cells #[.int .u64 (off : Nat), .int .u64 (sym : Nat), .int .u64 (ty : Nat), .int .u64 (add : Nat)] 104)).cell? ⟨w.heap.size + 1, 0, none⟩ = some (.int .u64 (off : Nat)) := by rw [Lib.cell_of_heap (two_new w (.cells #[.bool big, .bool true] 34) (.cells #[.int .u64 (off : Nat), .int .u64 (sym : Nat), .int .u64 (ty : Nat), .int .u64 (add : Nat)] 104))]; rfl
  have F3 : ((w.alloc (.cells #[.bool big, .bool true] 34)).alloc (.cells #[.int .u64 (off : Nat), .int .u64 (sym : Nat), .int .u64 (ty : Nat), .int .u64 (add : Nat)] 104)).cell? ⟨w.heap.size + 1, 1, none⟩ = some (.int .u64 (sym : Nat)) := by rw [Lib.cell_of_heap (two_new w (.cells #[.bool big, .bool true] 34) (.cells #[.int .u64 (off : Nat), .int .u64 (sym : Nat), .int .u64 (ty : Nat), .int .u64 (add : Nat)] 104))]; rfl
  have F4 : ((w.alloc (.cells #[.bool big, .bool true] 34)).alloc (.cells #[.int .u64 (off : Nat), .int .u64 (sym : Nat), .int .u64 (ty : Nat), .int .u64 (add : Nat)] 104)).cell? ⟨w.heap.size + 1, 2, none⟩ = some (.int .u64 (ty : Nat)) := by rw [Lib.cell_of_heap (two_new w (.cells #[.bool big, .bool true] 34) (.cells #[.int .u64 (off : Nat), .int .u64 (sym : Nat), .int .u64 (ty : Nat), .int .u64 (add : Nat)] 104))]; rfl
  have F5 : ((w.alloc (.cells #[.bool big, .bool true] 34)).alloc (.cells #[.int .u64 (off : Nat), .int .u64 (sym : Nat), .int .u64 (ty : Nat), .int .u64 (add : Nat)] 104)).cell? ⟨w.heap.size + 1, 3, none⟩ = some (.int .u64 (add : Nat)) := by rw [Lib.cell_of_heap (two_new w (.cells #[.bool big, .bool true] 34) (.cells #[.int .u64 (off : Nat), .int .u64 (sym : Nat), .int .u64 (ty : Nat), .int .u64 (add : Nat)] 104))]; rfl
  have hz : w.heap.size + 1 < ((w.alloc (.cells #[.bool big, .bool true] 34)).alloc (.cells #[.int .u64 (off : Nat), .int .u64 (sym : Nat), .int .u64 (ty : Nat), .int .u64 (add : Nat)] 104)).heap.size := by simp
  generalize ((w.alloc (.cells #[.bool big, .bool true] 34)).alloc (.cells #[.int .u64 (off : Nat), .int .u64 (sym : Nat), .int .u64 (ty : Nat), .int .u64 (add : Nat)] 104)) = W at *
  refine (HG.out _).mono ?_
  rintro e w1 ⟨rfl, h1⟩
  have hB1 : Below w.heap.size w w1 := hW.trans (h1.mono hW.size)
  replace F0 := (h1.cell (p := ⟨w.heap.size, 0, none⟩) (by show w.heap.size < W.heap.size; omega)).trans F0
  replace F1 := (h1.cell (p := ⟨w.heap.size, 1, none⟩) (by show w.heap.size < W.heap.size; omega)).trans F1
  replace F2 := (h1.cell (p := ⟨w.heap.size + 1, 0, none⟩) (by show w.heap.size + 1 < W.heap.size; omega)).trans F2
  replace F3 := (h1.cell (p := ⟨w.heap.size + 1, 1, none⟩) (by show w.heap.size + 1 < W.heap.size; omega)).trans F3
  replace F4 := (h1.cell (p := ⟨w.heap.size + 1, 2, none⟩) (by show w.heap.size + 1 < W.heap.size; omega)).trans F4
  replace F5 := (h1.cell (p := ⟨w.heap.size + 1, 3, none⟩) (by show w.heap.size + 1 < W.heap.size; omega)).trans F5
  have hz1 : w.heap.size + 1 < w1.heap.size := by have := h1.size; omega
  clear h1 hW hz
  go_wp2_with fail
  refine (rfields_F _).mono ?_
  rintro e w3 ⟨rfl, rfl⟩
  have hB3 := below_more hB1 (.cells #[.int .i64 0, .int .i64 0] 3)
  have hZ3 : (w1.alloc (.cells #[.int .i64 0, .int .i64 0] 3)).heap[w1.heap.size]? = some (.cells (rowI64 [0, 0]) 3 (0, 0)) := heap_alloc_new _ _
  replace F0 := cell_up (.cells #[.int .i64 0, .int .i64 0] 3) F0
  replace F1 := cell_up (.cells #[.int .i64 0, .int .i64 0] 3) F1
  replace F2 := cell_up (.cells #[.int .i64 0, .int .i64 0] 3) F2
  replace F3 := cell_up (.cells #[.int .i64 0, .int .i64 0] 3) F3
  replace F4 := cell_up (.cells #[.int .i64 0, .int .i64 0] 3) F4
  replace F5 := cell_up (.cells #[.int .i64 0, .int .i64 0] 3) F5
  have hz3 : w1.heap.size < (w1.alloc (.cells #[.int .i64 0, .int .i64 0] 3)).heap.size := by simp
  generalize hW3 : w1.alloc (.cells #[.int .i64 0, .int .i64 0] 3) = W3 at *
  clear hW3
  have G0 : ∀ w', Below W3.heap.size W3 w' → w'.cell? ⟨w.heap.size, 0, none⟩ = some (.bool big) := fun w' h => by rw [h.cell (by show w.heap.size < W3.heap.size; omega)]; exact F0
  have HG0 := Lib.hid G0; clear G0 F0
  have G1 : ∀ w', Below W3.heap.size W3 w' → w'.cell? ⟨w.heap.size, 1, none⟩ = some (.bool true) := fun w' h => by rw [h.cell (by show w.heap.size < W3.heap.size; omega)]; exact F1
  have HG1 := Lib.hid G1; clear G1 F1
  have G2 : ∀ w', Below W3.heap.size W3 w' → w'.cell? ⟨w.heap.size + 1, 0, none⟩ = some (.int .u64 (off : Nat)) := fun w' h => by rw [h.cell (by show w.heap.size + 1 < W3.heap.size; omega)]; exact F2
  have HG2 := Lib.hid G2; clear G2 F2
  have G3 : ∀ w', Below W3.heap.size W3 w' → w'.cell? ⟨w.heap.size + 1, 1, none⟩ = some (.int .u64 (sym : Nat)) := fun w' h => by rw [h.cell (by show w.heap.size + 1 < W3.heap.size; omega)]; exact F3
  have HG3 := Lib.hid G3; clear G3 F3
  have G4 : ∀ w', Below W3.heap.size W3 w' → w'.cell? ⟨w.heap.size + 1, 2, none⟩ = some (.int .u64 (ty : Nat)) := fun w' h => by rw [h.cell (by show w.heap.size + 1 < W3.heap.size; omega)]; exact F4
  have HG4 := Lib.hid G4; clear G4 F4
  have G5 : ∀ w', Below W3.heap.size W3 w' → w'.cell? ⟨w.heap.size + 1, 3, none⟩ = some (.int .u64 (add : Nat)) := fun w' h => by rw [h.cell (by show w.heap.size + 1 < W3.heap.size; omega)]; exact F5
  have HG5 := Lib.hid G5; clear G5 F5
  have HZ3 := Lib.hid hZ3; clear hZ3
  go_wp2_with fail
  refine wp_region_held_drew (S := fun w' => Below W3.heap.size W3 w') (by kernel_rfl) ?_ (fun hHeld => ?_)
  · exact (Below.refl _ _).drew
  refine wpAnyH_take (i := 0) (oi := { dst := some 17, op := Go.Op.fieldAddr 104 (Go.Operand.tmp 5) 0, type := 0, pos := "relrec.go:45", after := #[], guard := none }) (v := ?_) rfl (by kernel_rfl) (by kernel_rfl) (by kernel_rfl) (fun _ _ _ h => h) (Or.inl ⟨by rfl, ?_⟩) (by assumption) ?_
  rotate_left
  · (intro w hSw; (try dsimp only at hSw); go_simp <;> with_reducible rfl)
  try simp only [Act.put, List.setIfInBounds_toArray, List.set_cons_zero, List.set_cons_succ]
  refine wpAnyH_take (i := 2) (oi := { dst := some 19, op := Go.Op.fieldAddr 104 (Go.Operand.tmp 5) 1, type := 0, pos := "relrec.go:45", after := #[], guard := none }) (v := ?_) rfl (by kernel_rfl) (by kernel_rfl) (by kernel_rfl) (fun _ _ _ h => h) (Or.inl ⟨by rfl, ?_⟩) (by assumption) ?_
  rotate_left
  · (intro w hSw; (try dsimp only at hSw); go_simp <;> with_reducible rfl)
  try simp only [Act.put, List.setIfInBounds_toArray, List.set_cons_zero, List.set_cons_succ]
  refine wpAnyH_take (i := 4) (oi := { dst := some 21, op := Go.Op.load 34 (Go.Operand.tmp 3), type := 34, pos := "relrec.go:45", after := #[], guard := none }) (v := ?_) rfl (by kernel_rfl) (by kernel_rfl) (by kernel_rfl) (fun _ _ _ h => h) (Or.inl ⟨by rfl, ?_⟩) (by assumption) ?_
  rotate_left
  · (intro w hSw; have q0 := HG0.out w hSw; have q1 := HG1.out w hSw; (try dsimp only at hSw); go_simp <;> with_reducible rfl)
  try simp only [Act.put, List.setIfInBounds_toArray, List.set_cons_zero, List.set_cons_succ]
  refine wpAnyH_take (i := 7) (oi := { dst := some 24, op := Go.Op.fieldAddr 104 (Go.Operand.tmp 5) 2, type := 0, pos := "relrec.go:45", after := #[], guard := none }) (v := ?_) rfl (by kernel_rfl) (by kernel_rfl) (by kernel_rfl) (fun _ _ _ h => h) (Or.inl ⟨by rfl, ?_⟩) (by assumption) ?_
  rotate_left
  · (intro w hSw; (try dsimp only at hSw); go_simp <;> with_reducible rfl)
  try simp only [Act.put, List.setIfInBounds_toArray, List.set_cons_zero, List.set_cons_succ]
  refine wpAnyH_take (i := 10) (oi := { dst := some 27, op := Go.Op.fieldAddr 104 (Go.Operand.tmp 5) 3, type := 0, pos := "relrec.go:45", after := #[], guard := none }) (v := ?_) rfl (by kernel_rfl) (by kernel_rfl) (by kernel_rfl) (fun _ _ _ h => h) (Or.inl ⟨by rfl, ?_⟩) (by assumption) ?_
  rotate_left
  · (intro w hSw; (try dsimp only at hSw); go_simp <;> with_reducible rfl)
  try simp only [Act.put, List.setIfInBounds_toArray, List.set_cons_zero, List.set_cons_succ]
  refine wpAnyH_take (i := 1) (oi := { dst := some 18, op := Go.Op.load 29 (Go.Operand.tmp 17), type := 29, pos := "relrec.go:45", after := #[{ on := 0, ground := Go.Ground.data }], guard := none }) (v := ?_) rfl (by kernel_rfl) (by kernel_rfl) (by kernel_rfl) (fun _ _ _ h => h) (Or.inl ⟨by rfl, ?_⟩) (by assumption) ?_
  rotate_left
  · (intro w hSw; have q0 := HG2.out w hSw; (try dsimp only at hSw); go_simp <;> with_reducible rfl)
  try simp only [Act.put, List.setIfInBounds_toArray, List.set_cons_zero, List.set_cons_succ]
  refine wpAnyH_take (i := 3) (oi := { dst := some 20, op := Go.Op.load 29 (Go.Operand.tmp 19), type := 29, pos := "relrec.go:45", after := #[{ on := 2, ground := Go.Ground.data }], guard := none }) (v := ?_) rfl (by kernel_rfl) (by kernel_rfl) (by kernel_rfl) (fun _ _ _ h => h) (Or.inl ⟨by rfl, ?_⟩) (by assumption) ?_
  rotate_left
  · (intro w hSw; have q0 := HG3.out w hSw; (try dsimp only at hSw); go_simp <;> with_reducible rfl)
  try simp only [Act.put, List.setIfInBounds_toArray, List.set_cons_zero, List.set_cons_succ]
  refine wpAnyH_take (i := 8) (oi := { dst := some 25, op := Go.Op.load 29 (Go.Operand.tmp 24), type := 29, pos := "relrec.go:45", after := #[{ on := 7, ground := Go.Ground.data }], guard := none }) (v := ?_) rfl (by kernel_rfl) (by kernel_rfl) (by kernel_rfl) (fun _ _ _ h => h) (Or.inl ⟨by rfl, ?_⟩) (by assumption) ?_
  rotate_left
  · (intro w hSw; have q0 := HG4.out w hSw; (try dsimp only at hSw); go_simp <;> with_reducible rfl)
  try simp only [Act.put, List.setIfInBounds_toArray, List.set_cons_zero, List.set_cons_succ]
  refine wpAnyH_take (i := 11) (oi := { dst := some 28, op := Go.Op.load 29 (Go.Operand.tmp 27), type := 29, pos := "relrec.go:45", after := #[{ on := 10, ground := Go.Ground.data }], guard := none }) (v := ?_) rfl (by kernel_rfl) (by kernel_rfl) (by kernel_rfl) (fun _ _ _ h => h) (Or.inl ⟨by rfl, ?_⟩) (by assumption) ?_
  rotate_left
  · (intro w hSw; have q0 := HG5.out w hSw; (try dsimp only at hSw); go_simp <;> with_reducible rfl)
  try simp only [Act.put, List.setIfInBounds_toArray, List.set_cons_zero, List.set_cons_succ]
  refine wpAnyH_ready (rs := [5, 13]) (by kernel_rfl) (by simp) ?_
  refine (AllReadyH.cons (o := { dst := some 22, op := Go.Op.call { callee := Go.Callee.value (Go.Operand.func 83), args := #[Go.Operand.tmp 21], argTypes := #[34] }, type := 3, pos := "relrec.go:45", after := #[{ on := 4, ground := Go.Ground.data }], guard := none }) rfl (fun K hK => ?_) (AllReadyH.cons (o := { dst := some 9, op := Go.Op.alloc 154, type := 0, pos := "relrec.go:45", after := #[], guard := none }) rfl (fun K hK => ?_) AllReadyH.nil))
  · (first | go_at_call 83 | (go_simp; go_at_call 83))
    refine (typeBits_t big _).mono ?_
    rintro e w4 ⟨rfl, rfl⟩
    try go_wp2_with fail
    refine hK.out _ _ ?_ (fun hHeld2 => ?_)
    · exact hHeld.alloc hHeld.size _
    clear hK K
    try simp only [Act.put, List.setIfInBounds_toArray, List.set_cons_zero, List.set_cons_succ]
    refine wpAnyH_take (i := 6) (oi := { dst := some 23, op := Go.Op.binOp Go.BinOp.shl 29 (Go.Operand.tmp 20) (Go.Operand.tmp 22) 3, type := 29, pos := "relrec.go:45", after := #[{ on := 3, ground := Go.Ground.data }, { on := 5, ground := Go.Ground.data }], guard := none }) (v := ?_) rfl (by kernel_rfl) (by kernel_rfl) (by kernel_rfl) (fun _ _ _ h => h) (Or.inl ⟨by rfl, ?_⟩) (by assumption) ?_
    rotate_left
    · (intro w hSw; (try dsimp only at hSw); go_simp <;> with_reducible rfl)
    try simp only [Act.put, List.setIfInBounds_toArray, List.set_cons_zero, List.set_cons_succ]
    refine wpAnyH_take (i := 9) (oi := { dst := some 26, op := Go.Op.binOp Go.BinOp.or 29 (Go.Operand.tmp 23) (Go.Operand.tmp 25) 29, type := 29, pos := "relrec.go:45", after := #[{ on := 6, ground := Go.Ground.data }, { on := 8, ground := Go.Ground.data }], guard := none }) (v := ?_) rfl (by kernel_rfl) (by kernel_rfl) (by kernel_rfl) (fun _ _ _ h => h) (Or.inl ⟨by rfl, ?_⟩) (by assumption) ?_
    rotate_left
    · (intro w hSw; (try dsimp only at hSw); go_simp <;> with_reducible rfl)
    try simp only [Act.put, List.setIfInBounds_toArray, List.set_cons_zero, List.set_cons_succ]
    refine wpAnyH_take (i := 12) (oi := { dst := some 29, op := Go.Op.build 154 #[(0, Go.Operand.tmp 18), (1, Go.Operand.tmp 26), (2, Go.Operand.tmp 28)], type := 154, pos := "relrec.go:45", after := #[{ on := 1, ground := Go.Ground.data }, { on := 9, ground := Go.Ground.data }, { on := 11, ground := Go.Ground.data }], guard := none }) (v := ?_) rfl (by kernel_rfl) (by kernel_rfl) (by kernel_rfl) (fun _ _ _ h => h) (Or.inl ⟨by rfl, ?_⟩) (by assumption) ?_
    rotate_left
    · (intro w hSw; (try dsimp only at hSw); go_simp <;> with_reducible rfl)
    try simp only [Act.put, List.setIfInBounds_toArray, List.set_cons_zero, List.set_cons_succ]
    refine wpAnyH_ready (rs := [13]) (by kernel_rfl) (by simp) ?_
    refine AllReadyH.cons (o := { dst := some 9, op := Go.Op.alloc 154, type := 0, pos := "relrec.go:45", after := #[], guard := none }) rfl (fun K hK => ?_) AllReadyH.nil
    go_simp
    refine hK.out _ _ ?_ (fun hHeld3_5 => ?_)
    · exact hHeld2.alloc hHeld2.size _
    clear hK K
    try simp only [Act.put, List.setIfInBounds_toArray, List.set_cons_zero, List.set_cons_succ]
    refine wpAnyH_ready (rs := [14]) (by kernel_rfl) (by simp) ?_
    refine AllReadyH.cons (o := { dst := none, op := Go.Op.store 154 (Go.Operand.tmp 9) (Go.Operand.tmp 29), type := 0, pos := "relrec.go:45", after := #[{ on := 13, ground := Go.Ground.data }, { on := 12, ground := Go.Ground.data }, { on := 5, ground := Go.Ground.chain }, { on := 0, ground := Go.Ground.phase }, { on := 1, ground := Go.Ground.phase }, { on := 2, ground := Go.Ground.phase }, { on := 3, ground := Go.Ground.phase }, { on := 4, ground := Go.Ground.phase }, { on := 5, ground := Go.Ground.phase }, { on := 6, ground := Go.Ground.phase }, { on := 7, ground := Go.Ground.phase }, { on := 8, ground := Go.Ground.phase }, { on := 9, ground := Go.Ground.phase }, { on := 10, ground := Go.Ground.phase }, { on := 11, ground := Go.Ground.phase }, { on := 12, ground := Go.Ground.phase }, { on := 13, ground := Go.Ground.phase }], guard := none }) rfl (fun K hK => ?_) AllReadyH.nil
    refine wp_store_row 154 _ _ rfl (W3.heap.size + 1) #[.int .u64 (off : Nat), .int .u64 (bits .or .u64 (IntKind.u64.wrap ((sym : Int) * 4294967296)) (ty : Int)), .int .u64 (add : Nat)] (by rfl) (by rfl) 154 #[.int .u64 0, .int .u64 0, .int .u64 0] (by exact two_new _ _ _) (by kernel_rfl) rfl (by simp [Value.oneCell']) ?_
    refine hK.out _ _ ?_ (fun hHeld4_5_13 => ?_)
    · exact below_setRow hHeld3_5 (by omega) _
    clear hK K
    try simp only [Act.put]
    refine wpAnyH_done (by kernel_rfl) ?_ _
    clear HG2 HG3 HG4 HG5 hHeld
    have hrow : (((W3.alloc (.cells #[.bool big, .bool true] 34)).alloc (.cells #[.int .u64 0, .int .u64 0, .int .u64 0] 154)).drew.setRow (W3.heap.size + 1) #[.int .u64 (off : Nat), .int .u64 (bits .or .u64 (IntKind.u64.wrap ((sym : Int) * 4294967296)) (ty : Int)), .int .u64 (add : Nat)]).heap[W3.heap.size + 1]? = some (.cells #[.int .u64 (off : Nat), .int .u64 (bits .or .u64 (IntKind.u64.wrap ((sym : Int) * 4294967296)) (ty : Int)), .int .u64 (add : Nat)] 154 (0, 0)) := setRow_heap _ _ #[.int .u64 0, .int .u64 0, .int .u64 0] _ _ _ (by show ((W3.alloc (.cells #[.bool big, .bool true] 34)).alloc (.cells #[.int .u64 0, .int .u64 0, .int .u64 0] 154)).heap[_]? = _; exact two_new _ _ _)
    have hHx := hHeld4_5_13
    rw [HI.out] at hrow hHx ⊢
    have hsx : W3.heap.size + 1 < (((W3.alloc (.cells #[.bool big, .bool true] 34)).alloc (.cells #[.int .u64 0, .int .u64 0, .int .u64 0] 154)).drew.setRow (W3.heap.size + 1) #[.int .u64 (off : Nat), .int .u64 (inf : Nat), .int .u64 (add : Nat)]).heap.size := by rw [setRow_size]; show _ < ((W3.alloc (.cells #[.bool big, .bool true] 34)).alloc (.cells #[.int .u64 0, .int .u64 0, .int .u64 0] 154)).heap.size; simp only [World.size_alloc]; omega
    generalize ((W3.alloc (.cells #[.bool big, .bool true] 34)).alloc (.cells #[.int .u64 0, .int .u64 0, .int .u64 0] 154)).drew.setRow (W3.heap.size + 1) #[.int .u64 (off : Nat), .int .u64 (inf : Nat), .int .u64 (add : Nat)] = Wx at *
    have hR : RowI Wx (some ⟨w1.heap.size, 0, none⟩) 2 [0, 0] := (RowI.of_rowT (L := [0, 0]) (t := 3) hz3 HZ3.out).kept hHx (Nat.le_refl _)
    have hQ : RowN Wx (some ⟨W3.heap.size + 1, 0, none⟩) 3 [off, inf, add] := RowN.of_rowT (L := [off, inf, add]) (t := 154) hsx hrow HN.out
    replace hQ := rowN_two hQ
    have F0 := HG0.out _ hHx
    have F1 := HG1.out _ hHx
    have hB5 : Below w.heap.size w Wx := hB3.trans (hHx.mono hB3.size)
    have hzx : w.heap.size < Wx.heap.size := by have := hHx.size; have := hB3.size; omega
    have HR := Lib.hid hR; have HQ := Lib.hid hQ; clear hR hQ hrow HG0 HG1 HZ3
    have G0 : ∀ w', Below Wx.heap.size Wx w' → w'.cell? ⟨w.heap.size, 0, none⟩ = some (.bool big) := fun w' h => by rw [h.cell (by show w.heap.size < Wx.heap.size; omega)]; exact F0
    have HG0 := Lib.hid G0; clear G0 F0
    have G1 : ∀ w', Below Wx.heap.size Wx w' → w'.cell? ⟨w.heap.size, 1, none⟩ = some (.bool true) := fun w' h => by rw [h.cell (by show w.heap.size < Wx.heap.size; omega)]; exact F1
    have HG1 := Lib.hid G1; clear G1 F1
    go_wp2_with fail
    refine wp_region_held_drew (S := fun w' => Below Wx.heap.size Wx w') (by kernel_rfl) ?_ (fun hHy => ?_)
    · exact (Below.refl _ _).drew
    refine wpAnyH_take (i := 0) (oi := { dst := some 30, op := Go.Op.load 34 (Go.Operand.tmp 3), type := 34, pos := "relrec.go:46", after := #[], guard := none }) (v := ?_) rfl (by kernel_rfl) (by kernel_rfl) (by kernel_rfl) (fun _ _ _ h => h) (Or.inl ⟨by rfl, ?_⟩) (by assumption) ?_
    rotate_left
    · (intro w hSw; have q0 := HG0.out w hSw; have q1 := HG1.out w hSw; (try dsimp only at hSw); go_simp <;> with_reducible rfl)
    try simp only [Act.put, List.setIfInBounds_toArray, List.set_cons_zero, List.set_cons_succ]
    refine wpAnyH_take (i := 1) (oi := { dst := some 31, op := Go.Op.move (Go.Operand.tmp 8), type := 68, pos := "relrec.go:46", after := #[], guard := none }) (v := ?_) rfl (by kernel_rfl) (by kernel_rfl) (by kernel_rfl) (fun _ _ _ h => h) (Or.inl ⟨by rfl, ?_⟩) (by assumption) ?_
    rotate_left
    · (intro w hSw; (try dsimp only at hSw); go_simp <;> with_reducible rfl)
    try simp only [Act.put, List.setIfInBounds_toArray, List.set_cons_zero, List.set_cons_succ]
    refine wpAnyH_take (i := 2) (oi := { dst := some 32, op := Go.Op.move (Go.Operand.tmp 8), type := 68, pos := "relrec.go:46", after := #[], guard := none }) (v := ?_) rfl (by kernel_rfl) (by kernel_rfl) (by kernel_rfl) (fun _ _ _ h => h) (Or.inl ⟨by rfl, ?_⟩) (by assumption) ?_
    rotate_left
    · (intro w hSw; (try dsimp only at hSw); go_simp <;> with_reducible rfl)
    try simp only [Act.put, List.setIfInBounds_toArray, List.set_cons_zero, List.set_cons_succ]
    refine wpAnyH_take (i := 3) (oi := { dst := some 33, op := Go.Op.call { callee := Go.Callee.builtin Go.Builtin.len, args := #[Go.Operand.tmp 32], argTypes := #[68] }, type := 3, pos := "relrec.go:46", after := #[{ on := 2, ground := Go.Ground.data }], guard := none }) (v := ?_) rfl (by kernel_rfl) (by kernel_rfl) (by kernel_rfl) (fun _ _ _ h => h) (Or.inl ⟨by rfl, ?_⟩) (by assumption) ?_
    rotate_left
    · (intro w hSw; (try dsimp only at hSw); go_simp <;> with_reducible rfl)
    try simp only [Act.put, List.setIfInBounds_toArray, List.set_cons_zero, List.set_cons_succ]
    refine wpAnyH_take (i := 4) (oi := { dst := some 34, op := Go.Op.slice 154 (Go.Operand.tmp 9) none (some (Go.Operand.tmp 33)) none, type := 76, pos := "relrec.go:46", after := #[{ on := 3, ground := Go.Ground.data }], guard := none }) (v := ?_) rfl (by kernel_rfl) (by kernel_rfl) (by kernel_rfl) (fun _ _ _ h => h) (Or.inl ⟨by rfl, ?_⟩) (by assumption) ?_
    rotate_left
    · (intro w hSw; (try dsimp only at hSw); go_simp <;> with_reducible rfl)
    try simp only [Act.put, List.setIfInBounds_toArray, List.set_cons_zero, List.set_cons_succ]
    refine wpAnyH_ready (rs := [5]) (by kernel_rfl) (by simp) ?_
    refine AllReadyH.cons (o := { dst := some 35, op := Go.Op.call { callee := Go.Callee.value (Go.Operand.func 77), args := #[Go.Operand.tmp 30, Go.Operand.tmp 31, Go.Operand.tmp 34], argTypes := #[34, 68, 76] }, type := 92, pos := "relrec.go:46", after := #[{ on := 0, ground := Go.Ground.data }, { on := 1, ground := Go.Ground.data }, { on := 4, ground := Go.Ground.data }], guard := none }) rfl (fun K hK => ?_) AllReadyH.nil
    (first | go_at_call 77 | (go_simp; go_at_call 77))
    (with_reducible refine (record_is big true (some ⟨w1.heap.size, 0, none⟩) (some ⟨W3.heap.size + 1, 0, none⟩) 2 2 2 3 [0, 0] [off, inf] S ok _ (by decide) (HR.out.kept hHy (Nat.le_refl _)) (HQ.out.kept' hHy (Nat.le_refl _)) HREC.out).mono ?_)
    rintro e w6 ⟨rfl, h6⟩
    try go_wp2_with fail
    refine hK.out _ _ ?_ (fun hHy2 => ?_)
    · exact hHy.trans (h6.mono hHy.size)
    clear hK K
    try simp only [Act.put, List.setIfInBounds_toArray, List.set_cons_zero, List.set_cons_succ]
    refine wpAnyH_take (i := 6) (oi := { dst := some 36, op := Go.Op.extract (Go.Operand.tmp 35) 0, type := 9, pos := "relrec.go:46", after := #[{ on := 5, ground := Go.Ground.data }], guard := none }) (v := ?_) rfl (by kernel_rfl) (by kernel_rfl) (by kernel_rfl) (fun _ _ _ h => h) (Or.inl ⟨by rfl, ?_⟩) (by assumption) ?_
    rotate_left
    · (intro w hSw; (try dsimp only at hSw); go_simp <;> with_reducible rfl)
    try simp only [Act.put, List.setIfInBounds_toArray, List.set_cons_zero, List.set_cons_succ]
    refine wpAnyH_take (i := 7) (oi := { dst := some 37, op := Go.Op.extract (Go.Operand.tmp 35) 1, type := 4, pos := "relrec.go:46", after := #[{ on := 5, ground := Go.Ground.data }], guard := none }) (v := ?_) rfl (by kernel_rfl) (by kernel_rfl) (by kernel_rfl) (fun _ _ _ h => h) (Or.inl ⟨by rfl, ?_⟩) (by assumption) ?_
    rotate_left
    · (intro w hSw; (try dsimp only at hSw); go_simp <;> with_reducible rfl)
    try simp only [Act.put, List.setIfInBounds_toArray, List.set_cons_zero, List.set_cons_succ]
    refine wpAnyH_take (i := 8) (oi := { dst := some 6, op := Go.Op.assign (Go.Operand.tmp 36), type := 9, pos := "relrec.go:46", after := #[{ on := 6, ground := Go.Ground.data }, { on := 5, ground := Go.Ground.chain }, { on := 0, ground := Go.Ground.phase }, { on := 1, ground := Go.Ground.phase }, { on := 2, ground := Go.Ground.phase }, { on := 3, ground := Go.Ground.phase }, { on := 4, ground := Go.Ground.phase }, { on := 5, ground := Go.Ground.phase }, { on := 6, ground := Go.Ground.phase }, { on := 7, ground := Go.Ground.phase }], guard := none }) (v := ?_) rfl (by kernel_rfl) (by kernel_rfl) (by kernel_rfl) (fun _ _ _ h => h) (Or.inl ⟨by rfl, ?_⟩) (by assumption) ?_
    rotate_left
    · (intro w hSw; (try dsimp only at hSw); go_simp <;> with_reducible rfl)
    try simp only [Act.put, List.setIfInBounds_toArray, List.set_cons_zero, List.set_cons_succ]
    refine wpAnyH_take (i := 9) (oi := { dst := some 7, op := Go.Op.assign (Go.Operand.tmp 37), type := 4, pos := "relrec.go:46", after := #[{ on := 7, ground := Go.Ground.data }, { on := 8, ground := Go.Ground.chain }, { on := 0, ground := Go.Ground.phase }, { on := 1, ground := Go.Ground.phase }, { on := 2, ground := Go.Ground.phase }, { on := 3, ground := Go.Ground.phase }, { on := 4, ground := Go.Ground.phase }, { on := 5, ground := Go.Ground.phase }, { on := 6, ground := Go.Ground.phase }, { on := 7, ground := Go.Ground.phase }, { on := 8, ground := Go.Ground.phase }], guard := none }) (v := ?_) rfl (by kernel_rfl) (by kernel_rfl) (by kernel_rfl) (fun _ _ _ h => h) (Or.inl ⟨by rfl, ?_⟩) (by assumption) ?_
    rotate_left
    · (intro w hSw; (try dsimp only at hSw); go_simp <;> with_reducible rfl)
    try simp only [Act.put, List.setIfInBounds_toArray, List.set_cons_zero, List.set_cons_succ]
    refine wpAnyH_done (by kernel_rfl) ?_ _
    go_wp2
    go_ret2
    exact ⟨rfl, hB5.trans (hHy2.mono hB5.size)⟩
  · go_simp
    refine hK.out _ _ ?_ (fun hHeld2 => ?_)
    · exact hHeld.alloc hHeld.size _
    clear hK K
    try simp only [Act.put, List.setIfInBounds_toArray, List.set_cons_zero, List.set_cons_succ]
    refine wpAnyH_ready (rs := [5]) (by kernel_rfl) (by simp) ?_
    refine AllReadyH.cons (o := { dst := some 22, op := Go.Op.call { callee := Go.Callee.value (Go.Operand.func 83), args := #[Go.Operand.tmp 21], argTypes := #[34] }, type := 3, pos := "relrec.go:45", after := #[{ on := 4, ground := Go.Ground.data }], guard := none }) rfl (fun K hK => ?_) AllReadyH.nil
    (first | go_at_call 83 | (go_simp; go_at_call 83))
    refine (typeBits_t big _).mono ?_
    rintro e w4 ⟨rfl, rfl⟩
    try go_wp2_with fail
    refine hK.out _ _ ?_ (fun hHeld3_13 => ?_)
    · exact hHeld2.alloc hHeld2.size _
    clear hK K
    try simp only [Act.put, List.setIfInBounds_toArray, List.set_cons_zero, List.set_cons_succ]
    refine wpAnyH_take (i := 6) (oi := { dst := some 23, op := Go.Op.binOp Go.BinOp.shl 29 (Go.Operand.tmp 20) (Go.Operand.tmp 22) 3, type := 29, pos := "relrec.go:45", after := #[{ on := 3, ground := Go.Ground.data }, { on := 5, ground := Go.Ground.data }], guard := none }) (v := ?_) rfl (by kernel_rfl) (by kernel_rfl) (by kernel_rfl) (fun _ _ _ h => h) (Or.inl ⟨by rfl, ?_⟩) (by assumption) ?_
    rotate_left
    · (intro w hSw; (try dsimp only at hSw); go_simp <;> with_reducible rfl)
    try simp only [Act.put, List.setIfInBounds_toArray, List.set_cons_zero, List.set_cons_succ]
    refine wpAnyH_take (i := 9) (oi := { dst := some 26, op := Go.Op.binOp Go.BinOp.or 29 (Go.Operand.tmp 23) (Go.Operand.tmp 25) 29, type := 29, pos := "relrec.go:45", after := #[{ on := 6, ground := Go.Ground.data }, { on := 8, ground := Go.Ground.data }], guard := none }) (v := ?_) rfl (by kernel_rfl) (by kernel_rfl) (by kernel_rfl) (fun _ _ _ h => h) (Or.inl ⟨by rfl, ?_⟩) (by assumption) ?_
    rotate_left
    · (intro w hSw; (try dsimp only at hSw); go_simp <;> with_reducible rfl)
    try simp only [Act.put, List.setIfInBounds_toArray, List.set_cons_zero, List.set_cons_succ]
    refine wpAnyH_take (i := 12) (oi := { dst := some 29, op := Go.Op.build 154 #[(0, Go.Operand.tmp 18), (1, Go.Operand.tmp 26), (2, Go.Operand.tmp 28)], type := 154, pos := "relrec.go:45", after := #[{ on := 1, ground := Go.Ground.data }, { on := 9, ground := Go.Ground.data }, { on := 11, ground := Go.Ground.data }], guard := none }) (v := ?_) rfl (by kernel_rfl) (by kernel_rfl) (by kernel_rfl) (fun _ _ _ h => h) (Or.inl ⟨by rfl, ?_⟩) (by assumption) ?_
    rotate_left
    · (intro w hSw; (try dsimp only at hSw); go_simp <;> with_reducible rfl)
    try simp only [Act.put, List.setIfInBounds_toArray, List.set_cons_zero, List.set_cons_succ]
    refine wpAnyH_ready (rs := [14]) (by kernel_rfl) (by simp) ?_
    refine AllReadyH.cons (o := { dst := none, op := Go.Op.store 154 (Go.Operand.tmp 9) (Go.Operand.tmp 29), type := 0, pos := "relrec.go:45", after := #[{ on := 13, ground := Go.Ground.data }, { on := 12, ground := Go.Ground.data }, { on := 5, ground := Go.Ground.chain }, { on := 0, ground := Go.Ground.phase }, { on := 1, ground := Go.Ground.phase }, { on := 2, ground := Go.Ground.phase }, { on := 3, ground := Go.Ground.phase }, { on := 4, ground := Go.Ground.phase }, { on := 5, ground := Go.Ground.phase }, { on := 6, ground := Go.Ground.phase }, { on := 7, ground := Go.Ground.phase }, { on := 8, ground := Go.Ground.phase }, { on := 9, ground := Go.Ground.phase }, { on := 10, ground := Go.Ground.phase }, { on := 11, ground := Go.Ground.phase }, { on := 12, ground := Go.Ground.phase }, { on := 13, ground := Go.Ground.phase }], guard := none }) rfl (fun K hK => ?_) AllReadyH.nil
    refine wp_store_row 154 _ _ rfl W3.heap.size #[.int .u64 (off : Nat), .int .u64 (bits .or .u64 (IntKind.u64.wrap ((sym : Int) * 4294967296)) (ty : Int)), .int .u64 (add : Nat)] (by rfl) (by rfl) 154 #[.int .u64 0, .int .u64 0, .int .u64 0] (by show (World.alloc _ _).heap[_]? = _; rw [Below.heap_alloc _ _ _ (by simp)]; exact heap_alloc_new _ _) (by kernel_rfl) rfl (by simp [Value.oneCell']) ?_
    refine hK.out _ _ ?_ (fun hHeld4_13_5 => ?_)
    · exact below_setRow hHeld3_13 (by omega) _
    clear hK K
    try simp only [Act.put]
    refine wpAnyH_done (by kernel_rfl) ?_ _
    clear HG2 HG3 HG4 HG5 hHeld
    have hrow : (((W3.alloc (.cells #[.int .u64 0, .int .u64 0, .int .u64 0] 154)).alloc (.cells #[.bool big, .bool true] 34)).drew.setRow (W3.heap.size) #[.int .u64 (off : Nat), .int .u64 (bits .or .u64 (IntKind.u64.wrap ((sym : Int) * 4294967296)) (ty : Int)), .int .u64 (add : Nat)]).heap[W3.heap.size]? = some (.cells #[.int .u64 (off : Nat), .int .u64 (bits .or .u64 (IntKind.u64.wrap ((sym : Int) * 4294967296)) (ty : Int)), .int .u64 (add : Nat)] 154 (0, 0)) := setRow_heap _ _ #[.int .u64 0, .int .u64 0, .int .u64 0] _ _ _ (by show ((W3.alloc (.cells #[.int .u64 0, .int .u64 0, .int .u64 0] 154)).alloc (.cells #[.bool big, .bool true] 34)).heap[_]? = _; rw [Below.heap_alloc _ _ _ (by simp)]; exact heap_alloc_new _ _)
    have hHx := hHeld4_13_5
    rw [HI.out] at hrow hHx ⊢
    have hsx : W3.heap.size < (((W3.alloc (.cells #[.int .u64 0, .int .u64 0, .int .u64 0] 154)).alloc (.cells #[.bool big, .bool true] 34)).drew.setRow (W3.heap.size) #[.int .u64 (off : Nat), .int .u64 (inf : Nat), .int .u64 (add : Nat)]).heap.size := by rw [setRow_size]; show _ < ((W3.alloc (.cells #[.int .u64 0, .int .u64 0, .int .u64 0] 154)).alloc (.cells #[.bool big, .bool true] 34)).heap.size; simp only [World.size_alloc]; omega
    generalize ((W3.alloc (.cells #[.int .u64 0, .int .u64 0, .int .u64 0] 154)).alloc (.cells #[.bool big, .bool true] 34)).drew.setRow (W3.heap.size) #[.int .u64 (off : Nat), .int .u64 (inf : Nat), .int .u64 (add : Nat)] = Wx at *
    have hR : RowI Wx (some ⟨w1.heap.size, 0, none⟩) 2 [0, 0] := (RowI.of_rowT (L := [0, 0]) (t := 3) hz3 HZ3.out).kept hHx (Nat.le_refl _)
    have hQ : RowN Wx (some ⟨W3.heap.size, 0, none⟩) 3 [off, inf, add] := RowN.of_rowT (L := [off, inf, add]) (t := 154) hsx hrow HN.out
    replace hQ := rowN_two hQ
    have F0 := HG0.out _ hHx
    have F1 := HG1.out _ hHx
    have hB5 : Below w.heap.size w Wx := hB3.trans (hHx.mono hB3.size)
    have hzx : w.heap.size < Wx.heap.size := by have := hHx.size; have := hB3.size; omega
    have HR := Lib.hid hR; have HQ := Lib.hid hQ; clear hR hQ hrow HG0 HG1 HZ3
    have G0 : ∀ w', Below Wx.heap.size Wx w' → w'.cell? ⟨w.heap.size, 0, none⟩ = some (.bool big) := fun w' h => by rw [h.cell (by show w.heap.size < Wx.heap.size; omega)]; exact F0
    have HG0 := Lib.hid G0; clear G0 F0
    have G1 : ∀ w', Below Wx.heap.size Wx w' → w'.cell? ⟨w.heap.size, 1, none⟩ = some (.bool true) := fun w' h => by rw [h.cell (by show w.heap.size < Wx.heap.size; omega)]; exact F1
    have HG1 := Lib.hid G1; clear G1 F1
    go_wp2_with fail
    refine wp_region_held_drew (S := fun w' => Below Wx.heap.size Wx w') (by kernel_rfl) ?_ (fun hHy => ?_)
    · exact (Below.refl _ _).drew
    refine wpAnyH_take (i := 0) (oi := { dst := some 30, op := Go.Op.load 34 (Go.Operand.tmp 3), type := 34, pos := "relrec.go:46", after := #[], guard := none }) (v := ?_) rfl (by kernel_rfl) (by kernel_rfl) (by kernel_rfl) (fun _ _ _ h => h) (Or.inl ⟨by rfl, ?_⟩) (by assumption) ?_
    rotate_left
    · (intro w hSw; have q0 := HG0.out w hSw; have q1 := HG1.out w hSw; (try dsimp only at hSw); go_simp <;> with_reducible rfl)
    try simp only [Act.put, List.setIfInBounds_toArray, List.set_cons_zero, List.set_cons_succ]
    refine wpAnyH_take (i := 1) (oi := { dst := some 31, op := Go.Op.move (Go.Operand.tmp 8), type := 68, pos := "relrec.go:46", after := #[], guard := none }) (v := ?_) rfl (by kernel_rfl) (by kernel_rfl) (by kernel_rfl) (fun _ _ _ h => h) (Or.inl ⟨by rfl, ?_⟩) (by assumption) ?_
    rotate_left
    · (intro w hSw; (try dsimp only at hSw); go_simp <;> with_reducible rfl)
    try simp only [Act.put, List.setIfInBounds_toArray, List.set_cons_zero, List.set_cons_succ]
    refine wpAnyH_take (i := 2) (oi := { dst := some 32, op := Go.Op.move (Go.Operand.tmp 8), type := 68, pos := "relrec.go:46", after := #[], guard := none }) (v := ?_) rfl (by kernel_rfl) (by kernel_rfl) (by kernel_rfl) (fun _ _ _ h => h) (Or.inl ⟨by rfl, ?_⟩) (by assumption) ?_
    rotate_left
    · (intro w hSw; (try dsimp only at hSw); go_simp <;> with_reducible rfl)
    try simp only [Act.put, List.setIfInBounds_toArray, List.set_cons_zero, List.set_cons_succ]
    refine wpAnyH_take (i := 3) (oi := { dst := some 33, op := Go.Op.call { callee := Go.Callee.builtin Go.Builtin.len, args := #[Go.Operand.tmp 32], argTypes := #[68] }, type := 3, pos := "relrec.go:46", after := #[{ on := 2, ground := Go.Ground.data }], guard := none }) (v := ?_) rfl (by kernel_rfl) (by kernel_rfl) (by kernel_rfl) (fun _ _ _ h => h) (Or.inl ⟨by rfl, ?_⟩) (by assumption) ?_
    rotate_left
    · (intro w hSw; (try dsimp only at hSw); go_simp <;> with_reducible rfl)
    try simp only [Act.put, List.setIfInBounds_toArray, List.set_cons_zero, List.set_cons_succ]
    refine wpAnyH_take (i := 4) (oi := { dst := some 34, op := Go.Op.slice 154 (Go.Operand.tmp 9) none (some (Go.Operand.tmp 33)) none, type := 76, pos := "relrec.go:46", after := #[{ on := 3, ground := Go.Ground.data }], guard := none }) (v := ?_) rfl (by kernel_rfl) (by kernel_rfl) (by kernel_rfl) (fun _ _ _ h => h) (Or.inl ⟨by rfl, ?_⟩) (by assumption) ?_
    rotate_left
    · (intro w hSw; (try dsimp only at hSw); go_simp <;> with_reducible rfl)
    try simp only [Act.put, List.setIfInBounds_toArray, List.set_cons_zero, List.set_cons_succ]
    refine wpAnyH_ready (rs := [5]) (by kernel_rfl) (by simp) ?_
    refine AllReadyH.cons (o := { dst := some 35, op := Go.Op.call { callee := Go.Callee.value (Go.Operand.func 77), args := #[Go.Operand.tmp 30, Go.Operand.tmp 31, Go.Operand.tmp 34], argTypes := #[34, 68, 76] }, type := 92, pos := "relrec.go:46", after := #[{ on := 0, ground := Go.Ground.data }, { on := 1, ground := Go.Ground.data }, { on := 4, ground := Go.Ground.data }], guard := none }) rfl (fun K hK => ?_) AllReadyH.nil
    (first | go_at_call 77 | (go_simp; go_at_call 77))
    (with_reducible refine (record_is big true (some ⟨w1.heap.size, 0, none⟩) (some ⟨W3.heap.size, 0, none⟩) 2 2 2 3 [0, 0] [off, inf] S ok _ (by decide) (HR.out.kept hHy (Nat.le_refl _)) (HQ.out.kept' hHy (Nat.le_refl _)) HREC.out).mono ?_)
    rintro e w6 ⟨rfl, h6⟩
    try go_wp2_with fail
    refine hK.out _ _ ?_ (fun hHy2 => ?_)
    · exact hHy.trans (h6.mono hHy.size)
    clear hK K
    try simp only [Act.put, List.setIfInBounds_toArray, List.set_cons_zero, List.set_cons_succ]
    refine wpAnyH_take (i := 6) (oi := { dst := some 36, op := Go.Op.extract (Go.Operand.tmp 35) 0, type := 9, pos := "relrec.go:46", after := #[{ on := 5, ground := Go.Ground.data }], guard := none }) (v := ?_) rfl (by kernel_rfl) (by kernel_rfl) (by kernel_rfl) (fun _ _ _ h => h) (Or.inl ⟨by rfl, ?_⟩) (by assumption) ?_
    rotate_left
    · (intro w hSw; (try dsimp only at hSw); go_simp <;> with_reducible rfl)
    try simp only [Act.put, List.setIfInBounds_toArray, List.set_cons_zero, List.set_cons_succ]
    refine wpAnyH_take (i := 7) (oi := { dst := some 37, op := Go.Op.extract (Go.Operand.tmp 35) 1, type := 4, pos := "relrec.go:46", after := #[{ on := 5, ground := Go.Ground.data }], guard := none }) (v := ?_) rfl (by kernel_rfl) (by kernel_rfl) (by kernel_rfl) (fun _ _ _ h => h) (Or.inl ⟨by rfl, ?_⟩) (by assumption) ?_
    rotate_left
    · (intro w hSw; (try dsimp only at hSw); go_simp <;> with_reducible rfl)
    try simp only [Act.put, List.setIfInBounds_toArray, List.set_cons_zero, List.set_cons_succ]
    refine wpAnyH_take (i := 8) (oi := { dst := some 6, op := Go.Op.assign (Go.Operand.tmp 36), type := 9, pos := "relrec.go:46", after := #[{ on := 6, ground := Go.Ground.data }, { on := 5, ground := Go.Ground.chain }, { on := 0, ground := Go.Ground.phase }, { on := 1, ground := Go.Ground.phase }, { on := 2, ground := Go.Ground.phase }, { on := 3, ground := Go.Ground.phase }, { on := 4, ground := Go.Ground.phase }, { on := 5, ground := Go.Ground.phase }, { on := 6, ground := Go.Ground.phase }, { on := 7, ground := Go.Ground.phase }], guard := none }) (v := ?_) rfl (by kernel_rfl) (by kernel_rfl) (by kernel_rfl) (fun _ _ _ h => h) (Or.inl ⟨by rfl, ?_⟩) (by assumption) ?_
    rotate_left
    · (intro w hSw; (try dsimp only at hSw); go_simp <;> with_reducible rfl)
    try simp only [Act.put, List.setIfInBounds_toArray, List.set_cons_zero, List.set_cons_succ]
    refine wpAnyH_take (i := 9) (oi := { dst := some 7, op := Go.Op.assign (Go.Operand.tmp 37), type := 4, pos := "relrec.go:46", after := #[{ on := 7, ground := Go.Ground.data }, { on := 8, ground := Go.Ground.chain }, { on := 0, ground := Go.Ground.phase }, { on := 1, ground := Go.Ground.phase }, { on := 2, ground := Go.Ground.phase }, { on := 3, ground := Go.Ground.phase }, { on := 4, ground := Go.Ground.phase }, { on := 5, ground := Go.Ground.phase }, { on := 6, ground := Go.Ground.phase }, { on := 7, ground := Go.Ground.phase }, { on := 8, ground := Go.Ground.phase }], guard := none }) (v := ?_) rfl (by kernel_rfl) (by kernel_rfl) (by kernel_rfl) (fun _ _ _ h => h) (Or.inl ⟨by rfl, ?_⟩) (by assumption) ?_
    rotate_left
    · (intro w hSw; (try dsimp only at hSw); go_simp <;> with_reducible rfl)
    try simp only [Act.put, List.setIfInBounds_toArray, List.set_cons_zero, List.set_cons_succ]
    refine wpAnyH_done (by kernel_rfl) ?_ _
    go_wp2
    go_ret2
    exact ⟨rfl, hB5.trans (hHy2.mono hB5.size)⟩
end Go.Proofs.Ytnmklmaclmjfbaa
