/- The reference's PutDynamic. Conditions: those written in each theorem. -/
import Derived.Test.YtnmklmaclmjfbaaDoorDF
namespace Go.Proofs.YtnmklmaclmjfbaaDoor
open Go.RowKit
set_option linter.unusedVariables false
theorem make_y8 (w : World) : (Instr.makeSlice 56 (.int .i64 8) (.int .i64 8)).run Tryd.prog w = .ok (.slice (some ⟨w.heap.size, 0, none⟩) 8 8) (w.alloc (.cells #[.int .u8 0, .int .u8 0, .int .u8 0, .int .u8 0, .int .u8 0, .int .u8 0, .int .u8 0, .int .u8 0] 5)) := by kernel_rfl
theorem conv_y8 (w : World) : (convert 56 9 (.slice (some ⟨w.heap.size, 0, none⟩) 8 8)).run Tryd.prog (w.alloc (.cells #[.int .u8 0, .int .u8 0, .int .u8 0, .int .u8 0, .int .u8 0, .int .u8 0, .int .u8 0, .int .u8 0] 5)) = .ok (.string ⟨(zeroL 8).toArray⟩) (w.alloc (.cells #[.int .u8 0, .int .u8 0, .int .u8 0, .int .u8 0, .int .u8 0, .int .u8 0, .int .u8 0, .int .u8 0] 5)) := by
  have h := run_convert_bytes_back (P := Tryd.prog) (w.alloc (.cells #[.int .u8 0, .int .u8 0, .int .u8 0, .int .u8 0, .int .u8 0, .int .u8 0, .int .u8 0, .int .u8 0] 5)) 56 9 5 ⟨w.heap.size, 0, none⟩ 8 (zeroL 8) Tryd.underlying56 Tryd.underlying5 Tryd.underlying9 (fun j hj => by
    have hj2 : j < 8 := hj
    rw [Go.WideShapes.add_plain, Nat.zero_add]
    rw [Lib.cell_of_heap (heap_alloc_new w _)]
    match j, hj, hj2 with
    | 0, _, _ => rfl
    | 1, _, _ => rfl
    | 2, _, _ => rfl
    | 3, _, _ => rfl
    | 4, _, _ => rfl
    | 5, _, _ => rfl
    | 6, _, _ => rfl
    | 7, _, _ => rfl
    | n + 8, _, h => exact absurd h (by omega))
  exact h
theorem make_y16 (w : World) : (Instr.makeSlice 56 (.int .i64 16) (.int .i64 16)).run Tryd.prog w = .ok (.slice (some ⟨w.heap.size, 0, none⟩) 16 16) (w.alloc (.cells #[.int .u8 0, .int .u8 0, .int .u8 0, .int .u8 0, .int .u8 0, .int .u8 0, .int .u8 0, .int .u8 0, .int .u8 0, .int .u8 0, .int .u8 0, .int .u8 0, .int .u8 0, .int .u8 0, .int .u8 0, .int .u8 0] 5)) := by kernel_rfl
theorem conv_y16 (w : World) : (convert 56 9 (.slice (some ⟨w.heap.size, 0, none⟩) 16 16)).run Tryd.prog (w.alloc (.cells #[.int .u8 0, .int .u8 0, .int .u8 0, .int .u8 0, .int .u8 0, .int .u8 0, .int .u8 0, .int .u8 0, .int .u8 0, .int .u8 0, .int .u8 0, .int .u8 0, .int .u8 0, .int .u8 0, .int .u8 0, .int .u8 0] 5)) = .ok (.string ⟨(zeroL 16).toArray⟩) (w.alloc (.cells #[.int .u8 0, .int .u8 0, .int .u8 0, .int .u8 0, .int .u8 0, .int .u8 0, .int .u8 0, .int .u8 0, .int .u8 0, .int .u8 0, .int .u8 0, .int .u8 0, .int .u8 0, .int .u8 0, .int .u8 0, .int .u8 0] 5)) := by
  have h := run_convert_bytes_back (P := Tryd.prog) (w.alloc (.cells #[.int .u8 0, .int .u8 0, .int .u8 0, .int .u8 0, .int .u8 0, .int .u8 0, .int .u8 0, .int .u8 0, .int .u8 0, .int .u8 0, .int .u8 0, .int .u8 0, .int .u8 0, .int .u8 0, .int .u8 0, .int .u8 0] 5)) 56 9 5 ⟨w.heap.size, 0, none⟩ 16 (zeroL 16) Tryd.underlying56 Tryd.underlying5 Tryd.underlying9 (fun j hj => by
    have hj2 : j < 16 := hj
    rw [Go.WideShapes.add_plain, Nat.zero_add]
    rw [Lib.cell_of_heap (heap_alloc_new w _)]
    match j, hj, hj2 with
    | 0, _, _ => rfl
    | 1, _, _ => rfl
    | 2, _, _ => rfl
    | 3, _, _ => rfl
    | 4, _, _ => rfl
    | 5, _, _ => rfl
    | 6, _, _ => rfl
    | 7, _, _ => rfl
    | 8, _, _ => rfl
    | 9, _, _ => rfl
    | 10, _, _ => rfl
    | 11, _, _ => rfl
    | 12, _, _ => rfl
    | 13, _, _ => rfl
    | 14, _, _ => rfl
    | 15, _, _ => rfl
    | n + 16, _, h => exact absurd h (by omega))
  exact h
theorem size_one (w : World) (o : Obj) : (w.alloc o).heap.size = w.heap.size + 1 := by simp
set_option maxRecDepth 1000000 in
set_option maxHeartbeats 300000 in
theorem rreg5 (Q : Exit → Act → World → Prop) (c3 c4 c5 c6 c7 c8 c10 c11 c12 c13 c14 c15 c16 c17 c18 c19 c20 c21 c22 c23 c24 c25 c26 c27 c28 c29 c30 c31 c32 c33 c34 c35 c36 c37 c38 c39 c40 c41 c42 c43 c44 c45 c46 c47 c48 c49 c50 c51 c52 c53 c54 c55 : Value) (big wide : Bool) (b o n cap k t v : Nat) (S : ByteArray) (ok : Bool) (W : World) (k0 : (0 : Int) ≤ (k : Int)) (k1 : (k : Int) < (n : Int)) (HN64 : Hid (∀ x ∈ [t, v], x < 2 ^ 64)) (HREC : Hid (RecIs big wide [0, 0] [t, v] 2 2 S ok))
    (X0 : Hid (∀ u, Below W.heap.size W u → u.cell? ⟨b, o + k * 2, none⟩ = some (.int .u64 (t : Nat)))) (X1 : Hid (∀ u, Below W.heap.size W u → u.cell? ⟨b, o + k * 2 + 1, none⟩ = some (.int .u64 (v : Nat))))
    (hP : ∀ c a w i v, Q (.panic c) (a.put (some i) v) w → Q (.panic c) a w)
    (hQ : ∀ (u19 u20 u21 u22 u23 u24 u25 u26 u27 u28 u29 u30 u31 u32 u33 u34 u35 u36 : Value) (w' : World), Below W.heap.size W w' → Q .normal ⟨#[.bool wide, .bool big, .slice (some ⟨b, o, none⟩) n cap, c3, c4, c5, c6, c7, c8, .int .i64 (k : Int), .string S, .bool ok, c12, c13, c14, c15, c16, c17, c18, u19, u20, u21, u22, u23, u24, u25, u26, u27, u28, u29, u30, u31, u32, u33, u34, u35, u36, c37, c38, c39, c40, c41, c42, c43, c44, c45, c46, c47, c48, c49, c50, c51, c52, c53, c54, c55], []⟩ w') :
    (Code.region 5 #[{ dst := some 20, op := Go.Op.move (Go.Operand.tmp 0), type := 4, pos := "ref.go:16", after := #[], guard := none }, { dst := some 21, op := Go.Op.move (Go.Operand.tmp 1), type := 4, pos := "ref.go:16", after := #[], guard := none }, { dst := some 22, op := Go.Op.buildSlice 74 2 #[(0, Go.Operand.const (Go.Value.int Go.IntKind.i64 0)), (1, Go.Operand.const (Go.Value.int Go.IntKind.i64 0))], type := 74, pos := "ref.go:16", after := #[], guard := none }, { dst := some 23, op := Go.Op.move (Go.Operand.tmp 2), type := 30, pos := "ref.go:16", after := #[], guard := none }, { dst := some 24, op := Go.Op.move (Go.Operand.tmp 9), type := 3, pos := "ref.go:16", after := #[], guard := none }, { dst := some 25, op := Go.Op.indexAddr 30 (Go.Operand.tmp 23) (Go.Operand.tmp 24), type := 0, pos := "ref.go:16", after := #[{ on := 3, ground := Go.Ground.data }, { on := 4, ground := Go.Ground.data }], guard := none }, { dst := some 26, op := Go.Op.fieldAddr 35 (Go.Operand.tmp 25) 0, type := 0, pos := "ref.go:16", after := #[{ on := 5, ground := Go.Ground.data }], guard := none }, { dst := some 27, op := Go.Op.load 31 (Go.Operand.tmp 26), type := 31, pos := "ref.go:16", after := #[{ on := 6, ground := Go.Ground.data }], guard := none }, { dst := some 28, op := Go.Op.move (Go.Operand.tmp 2), type := 30, pos := "ref.go:16", after := #[], guard := none }, { dst := some 29, op := Go.Op.move (Go.Operand.tmp 9), type := 3, pos := "ref.go:16", after := #[], guard := none }, { dst := some 30, op := Go.Op.indexAddr 30 (Go.Operand.tmp 28) (Go.Operand.tmp 29), type := 0, pos := "ref.go:16", after := #[{ on := 8, ground := Go.Ground.data }, { on := 9, ground := Go.Ground.data }], guard := none }, { dst := some 31, op := Go.Op.fieldAddr 35 (Go.Operand.tmp 30) 1, type := 0, pos := "ref.go:16", after := #[{ on := 10, ground := Go.Ground.data }], guard := none }, { dst := some 32, op := Go.Op.load 31 (Go.Operand.tmp 31), type := 31, pos := "ref.go:16", after := #[{ on := 11, ground := Go.Ground.data }], guard := none }, { dst := some 33, op := Go.Op.buildSlice 58 2 #[(0, Go.Operand.tmp 27), (1, Go.Operand.tmp 32)], type := 58, pos := "ref.go:16", after := #[{ on := 7, ground := Go.Ground.data }, { on := 12, ground := Go.Ground.data }], guard := none }, { dst := some 34, op := Go.Op.call { callee := Go.Callee.value (Go.Operand.func 21), args := #[Go.Operand.tmp 20, Go.Operand.tmp 21, Go.Operand.tmp 22, Go.Operand.tmp 33], argTypes := #[4, 4, 74, 58] }, type := 36, pos := "ref.go:16", after := #[{ on := 0, ground := Go.Ground.data }, { on := 1, ground := Go.Ground.data }, { on := 2, ground := Go.Ground.data }, { on := 13, ground := Go.Ground.data }], guard := none }, { dst := some 19, op := Go.Op.move (Go.Operand.tmp 34), type := 36, pos := "ref.go:16", after := #[{ on := 14, ground := Go.Ground.data }], guard := none }, { dst := some 35, op := Go.Op.extract (Go.Operand.tmp 19) 0, type := 9, pos := "ref.go:16", after := #[{ on := 15, ground := Go.Ground.data }], guard := none }, { dst := some 36, op := Go.Op.extract (Go.Operand.tmp 19) 1, type := 4, pos := "ref.go:16", after := #[{ on := 15, ground := Go.Ground.data }, { on := 18, ground := Go.Ground.gcOnly Go.Departure.lateStores }], guard := none }, { dst := some 10, op := Go.Op.assign (Go.Operand.tmp 35), type := 9, pos := "ref.go:16", after := #[{ on := 16, ground := Go.Ground.data }, { on := 14, ground := Go.Ground.chain }, { on := 0, ground := Go.Ground.phase }, { on := 1, ground := Go.Ground.phase }, { on := 2, ground := Go.Ground.phase }, { on := 3, ground := Go.Ground.phase }, { on := 4, ground := Go.Ground.phase }, { on := 5, ground := Go.Ground.phase }, { on := 6, ground := Go.Ground.phase }, { on := 7, ground := Go.Ground.phase }, { on := 8, ground := Go.Ground.phase }, { on := 9, ground := Go.Ground.phase }, { on := 10, ground := Go.Ground.phase }, { on := 11, ground := Go.Ground.phase }, { on := 12, ground := Go.Ground.phase }, { on := 13, ground := Go.Ground.phase }, { on := 14, ground := Go.Ground.phase }, { on := 15, ground := Go.Ground.phase }, { on := 16, ground := Go.Ground.phase }, { on := 17, ground := Go.Ground.textOnly Go.Departure.lateStores }], guard := none }, { dst := some 11, op := Go.Op.assign (Go.Operand.tmp 36), type := 4, pos := "ref.go:16", after := #[{ on := 17, ground := Go.Ground.data }, { on := 18, ground := Go.Ground.chain }, { on := 0, ground := Go.Ground.phase }, { on := 1, ground := Go.Ground.phase }, { on := 2, ground := Go.Ground.phase }, { on := 3, ground := Go.Ground.phase }, { on := 4, ground := Go.Ground.phase }, { on := 5, ground := Go.Ground.phase }, { on := 6, ground := Go.Ground.phase }, { on := 7, ground := Go.Ground.phase }, { on := 8, ground := Go.Ground.phase }, { on := 9, ground := Go.Ground.phase }, { on := 10, ground := Go.Ground.phase }, { on := 11, ground := Go.Ground.phase }, { on := 12, ground := Go.Ground.phase }, { on := 13, ground := Go.Ground.phase }, { on := 14, ground := Go.Ground.phase }, { on := 15, ground := Go.Ground.phase }, { on := 16, ground := Go.Ground.phase }, { on := 17, ground := Go.Ground.phase }, { on := 18, ground := Go.Ground.phase }], guard := none }] true).wp Tryd.prog Q ⟨#[.bool wide, .bool big, .slice (some ⟨b, o, none⟩) n cap, c3, c4, c5, c6, c7, c8, .int .i64 (k : Int), c10, c11, c12, c13, c14, c15, c16, c17, c18, c19, c20, c21, c22, c23, c24, c25, c26, c27, c28, c29, c30, c31, c32, c33, c34, c35, c36, c37, c38, c39, c40, c41, c42, c43, c44, c45, c46, c47, c48, c49, c50, c51, c52, c53, c54, c55], []⟩ W := by
  dsimp only at hQ ⊢
  have HQ := Lib.hid hQ; clear hQ
  refine wp_region_held_drew (S := fun w' => Below W.heap.size W w') (by kernel_rfl) ?_ (fun hHeld => ?_)
  · exact (Below.refl _ _).drew
  generalize W.drew = W0 at *
  refine wpAnyH_take (i := 0) (oi := { dst := some 20, op := Go.Op.move (Go.Operand.tmp 0), type := 4, pos := "ref.go:16", after := #[], guard := none }) (v := ?_) rfl (by kernel_rfl) (by kernel_rfl) (by kernel_rfl) (fun c a w h => hP c a w _ _ h) (Or.inl ⟨by rfl, ?_⟩) (by assumption) ?_
  rotate_left
  · (intro w hSw; (try dsimp only at hSw); go_simp <;> with_reducible rfl)
  try simp only [Act.put, List.setIfInBounds_toArray, List.set_cons_zero, List.set_cons_succ]
  refine wpAnyH_take (i := 1) (oi := { dst := some 21, op := Go.Op.move (Go.Operand.tmp 1), type := 4, pos := "ref.go:16", after := #[], guard := none }) (v := ?_) rfl (by kernel_rfl) (by kernel_rfl) (by kernel_rfl) (fun c a w h => hP c a w _ _ h) (Or.inl ⟨by rfl, ?_⟩) (by assumption) ?_
  rotate_left
  · (intro w hSw; (try dsimp only at hSw); go_simp <;> with_reducible rfl)
  try simp only [Act.put, List.setIfInBounds_toArray, List.set_cons_zero, List.set_cons_succ]
  refine wpAnyH_take (i := 3) (oi := { dst := some 23, op := Go.Op.move (Go.Operand.tmp 2), type := 30, pos := "ref.go:16", after := #[], guard := none }) (v := ?_) rfl (by kernel_rfl) (by kernel_rfl) (by kernel_rfl) (fun c a w h => hP c a w _ _ h) (Or.inl ⟨by rfl, ?_⟩) (by assumption) ?_
  rotate_left
  · (intro w hSw; (try dsimp only at hSw); go_simp <;> with_reducible rfl)
  try simp only [Act.put, List.setIfInBounds_toArray, List.set_cons_zero, List.set_cons_succ]
  refine wpAnyH_take (i := 4) (oi := { dst := some 24, op := Go.Op.move (Go.Operand.tmp 9), type := 3, pos := "ref.go:16", after := #[], guard := none }) (v := ?_) rfl (by kernel_rfl) (by kernel_rfl) (by kernel_rfl) (fun c a w h => hP c a w _ _ h) (Or.inl ⟨by rfl, ?_⟩) (by assumption) ?_
  rotate_left
  · (intro w hSw; (try dsimp only at hSw); go_simp <;> with_reducible rfl)
  try simp only [Act.put, List.setIfInBounds_toArray, List.set_cons_zero, List.set_cons_succ]
  refine wpAnyH_take (i := 8) (oi := { dst := some 28, op := Go.Op.move (Go.Operand.tmp 2), type := 30, pos := "ref.go:16", after := #[], guard := none }) (v := ?_) rfl (by kernel_rfl) (by kernel_rfl) (by kernel_rfl) (fun c a w h => hP c a w _ _ h) (Or.inl ⟨by rfl, ?_⟩) (by assumption) ?_
  rotate_left
  · (intro w hSw; (try dsimp only at hSw); go_simp <;> with_reducible rfl)
  try simp only [Act.put, List.setIfInBounds_toArray, List.set_cons_zero, List.set_cons_succ]
  refine wpAnyH_take (i := 9) (oi := { dst := some 29, op := Go.Op.move (Go.Operand.tmp 9), type := 3, pos := "ref.go:16", after := #[], guard := none }) (v := ?_) rfl (by kernel_rfl) (by kernel_rfl) (by kernel_rfl) (fun c a w h => hP c a w _ _ h) (Or.inl ⟨by rfl, ?_⟩) (by assumption) ?_
  rotate_left
  · (intro w hSw; (try dsimp only at hSw); go_simp <;> with_reducible rfl)
  try simp only [Act.put, List.setIfInBounds_toArray, List.set_cons_zero, List.set_cons_succ]
  refine wpAnyH_take (i := 5) (oi := { dst := some 25, op := Go.Op.indexAddr 30 (Go.Operand.tmp 23) (Go.Operand.tmp 24), type := 0, pos := "ref.go:16", after := #[{ on := 3, ground := Go.Ground.data }, { on := 4, ground := Go.Ground.data }], guard := none }) (v := ?_) rfl (by kernel_rfl) (by kernel_rfl) (by kernel_rfl) (fun c a w h => hP c a w _ _ h) (Or.inl ⟨by rfl, ?_⟩) (by assumption) ?_
  rotate_left
  · (intro w hSw; (try dsimp only at hSw); go_simp <;> with_reducible rfl)
  try simp only [Act.put, List.setIfInBounds_toArray, List.set_cons_zero, List.set_cons_succ]
  refine wpAnyH_take (i := 10) (oi := { dst := some 30, op := Go.Op.indexAddr 30 (Go.Operand.tmp 28) (Go.Operand.tmp 29), type := 0, pos := "ref.go:16", after := #[{ on := 8, ground := Go.Ground.data }, { on := 9, ground := Go.Ground.data }], guard := none }) (v := ?_) rfl (by kernel_rfl) (by kernel_rfl) (by kernel_rfl) (fun c a w h => hP c a w _ _ h) (Or.inl ⟨by rfl, ?_⟩) (by assumption) ?_
  rotate_left
  · (intro w hSw; (try dsimp only at hSw); go_simp <;> with_reducible rfl)
  try simp only [Act.put, List.setIfInBounds_toArray, List.set_cons_zero, List.set_cons_succ]
  refine wpAnyH_take (i := 6) (oi := { dst := some 26, op := Go.Op.fieldAddr 35 (Go.Operand.tmp 25) 0, type := 0, pos := "ref.go:16", after := #[{ on := 5, ground := Go.Ground.data }], guard := none }) (v := ?_) rfl (by kernel_rfl) (by kernel_rfl) (by kernel_rfl) (fun c a w h => hP c a w _ _ h) (Or.inl ⟨by rfl, ?_⟩) (by assumption) ?_
  rotate_left
  · (intro w hSw; (try dsimp only at hSw); go_simp <;> with_reducible rfl)
  try simp only [Act.put, List.setIfInBounds_toArray, List.set_cons_zero, List.set_cons_succ]
  refine wpAnyH_take (i := 11) (oi := { dst := some 31, op := Go.Op.fieldAddr 35 (Go.Operand.tmp 30) 1, type := 0, pos := "ref.go:16", after := #[{ on := 10, ground := Go.Ground.data }], guard := none }) (v := ?_) rfl (by kernel_rfl) (by kernel_rfl) (by kernel_rfl) (fun c a w h => hP c a w _ _ h) (Or.inl ⟨by rfl, ?_⟩) (by assumption) ?_
  rotate_left
  · (intro w hSw; (try dsimp only at hSw); go_simp <;> with_reducible rfl)
  try simp only [Act.put, List.setIfInBounds_toArray, List.set_cons_zero, List.set_cons_succ]
  refine wpAnyH_take (i := 7) (oi := { dst := some 27, op := Go.Op.load 31 (Go.Operand.tmp 26), type := 31, pos := "ref.go:16", after := #[{ on := 6, ground := Go.Ground.data }], guard := none }) (v := ?_) rfl (by kernel_rfl) (by kernel_rfl) (by kernel_rfl) (fun c a w h => hP c a w _ _ h) (Or.inl ⟨by rfl, ?_⟩) (by assumption) ?_
  rotate_left
  · (intro w hSw; have q0 := X0.out w hSw; (try dsimp only at hSw); go_simp <;> with_reducible rfl)
  try simp only [Act.put, List.setIfInBounds_toArray, List.set_cons_zero, List.set_cons_succ]
  refine wpAnyH_take (i := 12) (oi := { dst := some 32, op := Go.Op.load 31 (Go.Operand.tmp 31), type := 31, pos := "ref.go:16", after := #[{ on := 11, ground := Go.Ground.data }], guard := none }) (v := ?_) rfl (by kernel_rfl) (by kernel_rfl) (by kernel_rfl) (fun c a w h => hP c a w _ _ h) (Or.inl ⟨by rfl, ?_⟩) (by assumption) ?_
  rotate_left
  · (intro w hSw; have q0 := X1.out w hSw; (try dsimp only at hSw); go_simp <;> with_reducible rfl)
  try simp only [Act.put, List.setIfInBounds_toArray, List.set_cons_zero, List.set_cons_succ]
  refine wpAnyH_ready (rs := [2, 13]) (by kernel_rfl) (by simp) ?_
  refine (AllReadyH.cons (o := { dst := some 22, op := Go.Op.buildSlice 74 2 #[(0, Go.Operand.const (Go.Value.int Go.IntKind.i64 0)), (1, Go.Operand.const (Go.Value.int Go.IntKind.i64 0))], type := 74, pos := "ref.go:16", after := #[], guard := none }) rfl (fun K hK => ?_) (AllReadyH.cons (o := { dst := some 33, op := Go.Op.buildSlice 58 2 #[(0, Go.Operand.tmp 27), (1, Go.Operand.tmp 32)], type := 58, pos := "ref.go:16", after := #[{ on := 7, ground := Go.Ground.data }, { on := 12, ground := Go.Ground.data }], guard := none }) rfl (fun K hK => ?_) AllReadyH.nil))
  · try go_simp
    have HN2_2 : Hid ((W0.alloc (.cells (rowI64 [0, 0]) 3)).heap[W0.heap.size]? = some (.cells (rowI64 [0, 0]) 3 (0, 0))) := Lib.hid (by have q := heap_alloc_new W0 (.cells (rowI64 [0, 0]) 3); exact q)
    refine hK.out _ _ ?_ (fun hHeld2 => ?_)
    · exact hHeld.alloc hHeld.size _
    clear hK K
    try simp only [Act.put, List.setIfInBounds_toArray, List.set_cons_zero, List.set_cons_succ]
    refine wpAnyH_ready (rs := [13]) (by kernel_rfl) (by simp) ?_
    refine AllReadyH.cons (o := { dst := some 33, op := Go.Op.buildSlice 58 2 #[(0, Go.Operand.tmp 27), (1, Go.Operand.tmp 32)], type := 58, pos := "ref.go:16", after := #[{ on := 7, ground := Go.Ground.data }, { on := 12, ground := Go.Ground.data }], guard := none }) rfl (fun K hK => ?_) AllReadyH.nil
    try go_simp
    have HN13_2_13 : Hid (((W0.alloc (.cells (rowI64 [0, 0]) 3)).alloc (.cells (rowU64 [t, v]) 31)).heap[(W0.heap.size + 1)]? = some (.cells (rowU64 [t, v]) 31 (0, 0))) := Lib.hid (by have q := heap_alloc_new (W0.alloc (.cells (rowI64 [0, 0]) 3)) (.cells (rowU64 [t, v]) 31); rw [size_one] at q; exact q)
    have HN2_2_13 : Hid (((W0.alloc (.cells (rowI64 [0, 0]) 3)).alloc (.cells (rowU64 [t, v]) 31)).heap[W0.heap.size]? = some (.cells (rowI64 [0, 0]) 3 (0, 0))) := Lib.hid (heap_up _ HN2_2.out)
    refine hK.out _ _ ?_ (fun hHeld3_2 => ?_)
    · exact hHeld2.alloc hHeld2.size _
    clear hK K
    try simp only [Act.put, List.setIfInBounds_toArray, List.set_cons_zero, List.set_cons_succ]
    refine wpAnyH_ready (rs := [14]) (by kernel_rfl) (by simp) ?_
    refine AllReadyH.cons (o := { dst := some 34, op := Go.Op.call { callee := Go.Callee.value (Go.Operand.func 21), args := #[Go.Operand.tmp 20, Go.Operand.tmp 21, Go.Operand.tmp 22, Go.Operand.tmp 33], argTypes := #[4, 4, 74, 58] }, type := 36, pos := "ref.go:16", after := #[{ on := 0, ground := Go.Ground.data }, { on := 1, ground := Go.Ground.data }, { on := 2, ground := Go.Ground.data }, { on := 13, ground := Go.Ground.data }], guard := none }) rfl (fun K hK => ?_) AllReadyH.nil
    (first | go_at_call 21 | (go_simp; go_at_call 21))
    refine (refRecord_is big wide (some ⟨W0.heap.size, 0, none⟩) (some ⟨(W0.heap.size + 1), 0, none⟩) 2 2 2 2 [0, 0] [t, v] S ok _ (by decide) (RowI.of_rowT (L := [0, 0]) (t := 3) (Array.getElem?_eq_some_iff.1 HN2_2_13.out).1 HN2_2_13.out) (RowN.of_rowT (L := [t, v]) (t := 31) (Array.getElem?_eq_some_iff.1 HN13_2_13.out).1 HN13_2_13.out HN64.out) HREC.out).mono ?_
    rintro e w_2_13_14 ⟨rfl, h_2_13_14⟩
    try go_wp2_with fail
    refine hK.out _ _ ?_ (fun hHeld4_2_13 => ?_)
    · exact hHeld3_2.trans (h_2_13_14.mono hHeld3_2.size)
    clear hK K
    try simp only [Act.put, List.setIfInBounds_toArray, List.set_cons_zero, List.set_cons_succ]
    refine wpAnyH_take (i := 15) (oi := { dst := some 19, op := Go.Op.move (Go.Operand.tmp 34), type := 36, pos := "ref.go:16", after := #[{ on := 14, ground := Go.Ground.data }], guard := none }) (v := ?_) rfl (by kernel_rfl) (by kernel_rfl) (by kernel_rfl) (fun c a w h => hP c a w _ _ h) (Or.inl ⟨by rfl, ?_⟩) (by assumption) ?_
    rotate_left
    · (intro w hSw; (try dsimp only at hSw); go_simp <;> with_reducible rfl)
    try simp only [Act.put, List.setIfInBounds_toArray, List.set_cons_zero, List.set_cons_succ]
    refine wpAnyH_take (i := 16) (oi := { dst := some 35, op := Go.Op.extract (Go.Operand.tmp 19) 0, type := 9, pos := "ref.go:16", after := #[{ on := 15, ground := Go.Ground.data }], guard := none }) (v := ?_) rfl (by kernel_rfl) (by kernel_rfl) (by kernel_rfl) (fun c a w h => hP c a w _ _ h) (Or.inl ⟨by rfl, ?_⟩) (by assumption) ?_
    rotate_left
    · (intro w hSw; (try dsimp only at hSw); go_simp <;> with_reducible rfl)
    try simp only [Act.put, List.setIfInBounds_toArray, List.set_cons_zero, List.set_cons_succ]
    refine wpAnyH_take (i := 17) (oi := { dst := some 36, op := Go.Op.extract (Go.Operand.tmp 19) 1, type := 4, pos := "ref.go:16", after := #[{ on := 15, ground := Go.Ground.data }, { on := 18, ground := Go.Ground.gcOnly Go.Departure.lateStores }], guard := none }) (v := ?_) rfl (by kernel_rfl) (by kernel_rfl) (by kernel_rfl) (fun c a w h => hP c a w _ _ h) (Or.inl ⟨by rfl, ?_⟩) (by assumption) ?_
    rotate_left
    · (intro w hSw; (try dsimp only at hSw); go_simp <;> with_reducible rfl)
    try simp only [Act.put, List.setIfInBounds_toArray, List.set_cons_zero, List.set_cons_succ]
    refine wpAnyH_take (i := 18) (oi := { dst := some 10, op := Go.Op.assign (Go.Operand.tmp 35), type := 9, pos := "ref.go:16", after := #[{ on := 16, ground := Go.Ground.data }, { on := 14, ground := Go.Ground.chain }, { on := 0, ground := Go.Ground.phase }, { on := 1, ground := Go.Ground.phase }, { on := 2, ground := Go.Ground.phase }, { on := 3, ground := Go.Ground.phase }, { on := 4, ground := Go.Ground.phase }, { on := 5, ground := Go.Ground.phase }, { on := 6, ground := Go.Ground.phase }, { on := 7, ground := Go.Ground.phase }, { on := 8, ground := Go.Ground.phase }, { on := 9, ground := Go.Ground.phase }, { on := 10, ground := Go.Ground.phase }, { on := 11, ground := Go.Ground.phase }, { on := 12, ground := Go.Ground.phase }, { on := 13, ground := Go.Ground.phase }, { on := 14, ground := Go.Ground.phase }, { on := 15, ground := Go.Ground.phase }, { on := 16, ground := Go.Ground.phase }, { on := 17, ground := Go.Ground.textOnly Go.Departure.lateStores }], guard := none }) (v := ?_) rfl (by kernel_rfl) (by kernel_rfl) (by kernel_rfl) (fun c a w h => hP c a w _ _ h) (Or.inl ⟨by rfl, ?_⟩) (by assumption) ?_
    rotate_left
    · (intro w hSw; (try dsimp only at hSw); go_simp <;> with_reducible rfl)
    try simp only [Act.put, List.setIfInBounds_toArray, List.set_cons_zero, List.set_cons_succ]
    refine wpAnyH_take (i := 19) (oi := { dst := some 11, op := Go.Op.assign (Go.Operand.tmp 36), type := 4, pos := "ref.go:16", after := #[{ on := 17, ground := Go.Ground.data }, { on := 18, ground := Go.Ground.chain }, { on := 0, ground := Go.Ground.phase }, { on := 1, ground := Go.Ground.phase }, { on := 2, ground := Go.Ground.phase }, { on := 3, ground := Go.Ground.phase }, { on := 4, ground := Go.Ground.phase }, { on := 5, ground := Go.Ground.phase }, { on := 6, ground := Go.Ground.phase }, { on := 7, ground := Go.Ground.phase }, { on := 8, ground := Go.Ground.phase }, { on := 9, ground := Go.Ground.phase }, { on := 10, ground := Go.Ground.phase }, { on := 11, ground := Go.Ground.phase }, { on := 12, ground := Go.Ground.phase }, { on := 13, ground := Go.Ground.phase }, { on := 14, ground := Go.Ground.phase }, { on := 15, ground := Go.Ground.phase }, { on := 16, ground := Go.Ground.phase }, { on := 17, ground := Go.Ground.phase }, { on := 18, ground := Go.Ground.phase }], guard := none }) (v := ?_) rfl (by kernel_rfl) (by kernel_rfl) (by kernel_rfl) (fun c a w h => hP c a w _ _ h) (Or.inl ⟨by rfl, ?_⟩) (by assumption) ?_
    rotate_left
    · (intro w hSw; (try dsimp only at hSw); go_simp <;> with_reducible rfl)
    try simp only [Act.put, List.setIfInBounds_toArray, List.set_cons_zero, List.set_cons_succ]
    refine wpAnyH_done (by kernel_rfl) ?_ _
    exact HQ.out _ _ _ _ _ _ _ _ _ _ _ _ _ _ _ _ _ _ _ hHeld4_2_13
  · try go_simp
    have HN13_13 : Hid ((W0.alloc (.cells (rowU64 [t, v]) 31)).heap[W0.heap.size]? = some (.cells (rowU64 [t, v]) 31 (0, 0))) := Lib.hid (by have q := heap_alloc_new W0 (.cells (rowU64 [t, v]) 31); exact q)
    refine hK.out _ _ ?_ (fun hHeld2 => ?_)
    · exact hHeld.alloc hHeld.size _
    clear hK K
    try simp only [Act.put, List.setIfInBounds_toArray, List.set_cons_zero, List.set_cons_succ]
    refine wpAnyH_ready (rs := [2]) (by kernel_rfl) (by simp) ?_
    refine AllReadyH.cons (o := { dst := some 22, op := Go.Op.buildSlice 74 2 #[(0, Go.Operand.const (Go.Value.int Go.IntKind.i64 0)), (1, Go.Operand.const (Go.Value.int Go.IntKind.i64 0))], type := 74, pos := "ref.go:16", after := #[], guard := none }) rfl (fun K hK => ?_) AllReadyH.nil
    try go_simp
    have HN2_13_2 : Hid (((W0.alloc (.cells (rowU64 [t, v]) 31)).alloc (.cells (rowI64 [0, 0]) 3)).heap[(W0.heap.size + 1)]? = some (.cells (rowI64 [0, 0]) 3 (0, 0))) := Lib.hid (by have q := heap_alloc_new (W0.alloc (.cells (rowU64 [t, v]) 31)) (.cells (rowI64 [0, 0]) 3); rw [size_one] at q; exact q)
    have HN13_13_2 : Hid (((W0.alloc (.cells (rowU64 [t, v]) 31)).alloc (.cells (rowI64 [0, 0]) 3)).heap[W0.heap.size]? = some (.cells (rowU64 [t, v]) 31 (0, 0))) := Lib.hid (heap_up _ HN13_13.out)
    refine hK.out _ _ ?_ (fun hHeld3_13 => ?_)
    · exact hHeld2.alloc hHeld2.size _
    clear hK K
    try simp only [Act.put, List.setIfInBounds_toArray, List.set_cons_zero, List.set_cons_succ]
    refine wpAnyH_ready (rs := [14]) (by kernel_rfl) (by simp) ?_
    refine AllReadyH.cons (o := { dst := some 34, op := Go.Op.call { callee := Go.Callee.value (Go.Operand.func 21), args := #[Go.Operand.tmp 20, Go.Operand.tmp 21, Go.Operand.tmp 22, Go.Operand.tmp 33], argTypes := #[4, 4, 74, 58] }, type := 36, pos := "ref.go:16", after := #[{ on := 0, ground := Go.Ground.data }, { on := 1, ground := Go.Ground.data }, { on := 2, ground := Go.Ground.data }, { on := 13, ground := Go.Ground.data }], guard := none }) rfl (fun K hK => ?_) AllReadyH.nil
    (first | go_at_call 21 | (go_simp; go_at_call 21))
    refine (refRecord_is big wide (some ⟨(W0.heap.size + 1), 0, none⟩) (some ⟨W0.heap.size, 0, none⟩) 2 2 2 2 [0, 0] [t, v] S ok _ (by decide) (RowI.of_rowT (L := [0, 0]) (t := 3) (Array.getElem?_eq_some_iff.1 HN2_13_2.out).1 HN2_13_2.out) (RowN.of_rowT (L := [t, v]) (t := 31) (Array.getElem?_eq_some_iff.1 HN13_13_2.out).1 HN13_13_2.out HN64.out) HREC.out).mono ?_
    rintro e w_13_2_14 ⟨rfl, h_13_2_14⟩
    try go_wp2_with fail
    refine hK.out _ _ ?_ (fun hHeld4_13_2 => ?_)
    · exact hHeld3_13.trans (h_13_2_14.mono hHeld3_13.size)
    clear hK K
    try simp only [Act.put, List.setIfInBounds_toArray, List.set_cons_zero, List.set_cons_succ]
    refine wpAnyH_take (i := 15) (oi := { dst := some 19, op := Go.Op.move (Go.Operand.tmp 34), type := 36, pos := "ref.go:16", after := #[{ on := 14, ground := Go.Ground.data }], guard := none }) (v := ?_) rfl (by kernel_rfl) (by kernel_rfl) (by kernel_rfl) (fun c a w h => hP c a w _ _ h) (Or.inl ⟨by rfl, ?_⟩) (by assumption) ?_
    rotate_left
    · (intro w hSw; (try dsimp only at hSw); go_simp <;> with_reducible rfl)
    try simp only [Act.put, List.setIfInBounds_toArray, List.set_cons_zero, List.set_cons_succ]
    refine wpAnyH_take (i := 16) (oi := { dst := some 35, op := Go.Op.extract (Go.Operand.tmp 19) 0, type := 9, pos := "ref.go:16", after := #[{ on := 15, ground := Go.Ground.data }], guard := none }) (v := ?_) rfl (by kernel_rfl) (by kernel_rfl) (by kernel_rfl) (fun c a w h => hP c a w _ _ h) (Or.inl ⟨by rfl, ?_⟩) (by assumption) ?_
    rotate_left
    · (intro w hSw; (try dsimp only at hSw); go_simp <;> with_reducible rfl)
    try simp only [Act.put, List.setIfInBounds_toArray, List.set_cons_zero, List.set_cons_succ]
    refine wpAnyH_take (i := 17) (oi := { dst := some 36, op := Go.Op.extract (Go.Operand.tmp 19) 1, type := 4, pos := "ref.go:16", after := #[{ on := 15, ground := Go.Ground.data }, { on := 18, ground := Go.Ground.gcOnly Go.Departure.lateStores }], guard := none }) (v := ?_) rfl (by kernel_rfl) (by kernel_rfl) (by kernel_rfl) (fun c a w h => hP c a w _ _ h) (Or.inl ⟨by rfl, ?_⟩) (by assumption) ?_
    rotate_left
    · (intro w hSw; (try dsimp only at hSw); go_simp <;> with_reducible rfl)
    try simp only [Act.put, List.setIfInBounds_toArray, List.set_cons_zero, List.set_cons_succ]
    refine wpAnyH_take (i := 18) (oi := { dst := some 10, op := Go.Op.assign (Go.Operand.tmp 35), type := 9, pos := "ref.go:16", after := #[{ on := 16, ground := Go.Ground.data }, { on := 14, ground := Go.Ground.chain }, { on := 0, ground := Go.Ground.phase }, { on := 1, ground := Go.Ground.phase }, { on := 2, ground := Go.Ground.phase }, { on := 3, ground := Go.Ground.phase }, { on := 4, ground := Go.Ground.phase }, { on := 5, ground := Go.Ground.phase }, { on := 6, ground := Go.Ground.phase }, { on := 7, ground := Go.Ground.phase }, { on := 8, ground := Go.Ground.phase }, { on := 9, ground := Go.Ground.phase }, { on := 10, ground := Go.Ground.phase }, { on := 11, ground := Go.Ground.phase }, { on := 12, ground := Go.Ground.phase }, { on := 13, ground := Go.Ground.phase }, { on := 14, ground := Go.Ground.phase }, { on := 15, ground := Go.Ground.phase }, { on := 16, ground := Go.Ground.phase }, { on := 17, ground := Go.Ground.textOnly Go.Departure.lateStores }], guard := none }) (v := ?_) rfl (by kernel_rfl) (by kernel_rfl) (by kernel_rfl) (fun c a w h => hP c a w _ _ h) (Or.inl ⟨by rfl, ?_⟩) (by assumption) ?_
    rotate_left
    · (intro w hSw; (try dsimp only at hSw); go_simp <;> with_reducible rfl)
    try simp only [Act.put, List.setIfInBounds_toArray, List.set_cons_zero, List.set_cons_succ]
    refine wpAnyH_take (i := 19) (oi := { dst := some 11, op := Go.Op.assign (Go.Operand.tmp 36), type := 4, pos := "ref.go:16", after := #[{ on := 17, ground := Go.Ground.data }, { on := 18, ground := Go.Ground.chain }, { on := 0, ground := Go.Ground.phase }, { on := 1, ground := Go.Ground.phase }, { on := 2, ground := Go.Ground.phase }, { on := 3, ground := Go.Ground.phase }, { on := 4, ground := Go.Ground.phase }, { on := 5, ground := Go.Ground.phase }, { on := 6, ground := Go.Ground.phase }, { on := 7, ground := Go.Ground.phase }, { on := 8, ground := Go.Ground.phase }, { on := 9, ground := Go.Ground.phase }, { on := 10, ground := Go.Ground.phase }, { on := 11, ground := Go.Ground.phase }, { on := 12, ground := Go.Ground.phase }, { on := 13, ground := Go.Ground.phase }, { on := 14, ground := Go.Ground.phase }, { on := 15, ground := Go.Ground.phase }, { on := 16, ground := Go.Ground.phase }, { on := 17, ground := Go.Ground.phase }, { on := 18, ground := Go.Ground.phase }], guard := none }) (v := ?_) rfl (by kernel_rfl) (by kernel_rfl) (by kernel_rfl) (fun c a w h => hP c a w _ _ h) (Or.inl ⟨by rfl, ?_⟩) (by assumption) ?_
    rotate_left
    · (intro w hSw; (try dsimp only at hSw); go_simp <;> with_reducible rfl)
    try simp only [Act.put, List.setIfInBounds_toArray, List.set_cons_zero, List.set_cons_succ]
    refine wpAnyH_done (by kernel_rfl) ?_ _
    exact HQ.out _ _ _ _ _ _ _ _ _ _ _ _ _ _ _ _ _ _ _ hHeld4_13_2
set_option maxRecDepth 100000 in
set_option maxHeartbeats 2000000 in
theorem refDyn_any (big wide : Bool) (A : Option Addr) (cap n : Nat) (R : Nat → Nat × Nat) (S : Nat → ByteArray) (ok : Nat → Bool) (hn : n ≤ 20) (hS : ∀ i, i < n → (S i).size ≤ 16)
    (h64 : ∀ i, i < n → (R i).1 < 2 ^ 64 ∧ (R i).2 < 2 ^ 64) (hrec : ∀ i, i < n → RecIs big wide [0, 0] [(R i).1, (R i).2] 2 2 (S i) (ok i))
    (w : World) (hR : RowP w A n R) : Calls Tryd.prog 10 #[.bool wide, .bool big, .slice A n cap] w fun e w' => e = .returned (putDV R S ok ⟨(zeroL (2 * wordN wide)).toArray⟩ n) ∧ Below w.heap.size w w' := by
  have HS := Lib.hid hS; have HR := Lib.hid hR; have H64 := Lib.hid h64; have HREC := Lib.hid hrec; clear hS hR h64 hrec
  go_enter Tryd.func10, Tryd.ntmps10
  go_wp2
  go_loopw [8, 9] (fun s i wr => ∃ k : Nat, k ≤ n ∧ i = .int .i64 (k : Int) ∧ s = .string ⟨(catR S k).toArray⟩ ∧ allOk (okE R ok) k = true ∧ Below w.heap.size w wr) (fun _ i _ => n - (intOf i).toNat)
  case atStart => exact ⟨0, Nat.zero_le _, rfl, rfl, rfl, Below.refl _ _⟩
  case round =>
    obtain ⟨k, hk, rfl, rfl, hok, hB⟩ := hrel
    have HOK := Lib.hid hok; have HB := Lib.hid hB; clear hok hB
    by_cases hlt : k < n
    · obtain ⟨b, o, rfl, hbl, hc0, hc1⟩ := HR.out.low HB.out k hlt
      have hsk := HS.out k hlt
      have hcl := catR_len S 16 k (fun i hi => HS.out i (by omega))
      have hn64 : ∀ x ∈ [(R k).1, (R k).2], x < 2 ^ 64 := by
        intro x hx
        simp only [List.mem_cons, List.not_mem_nil, or_false] at hx
        rcases hx with rfl | rfl
        · exact (H64.out k hlt).1
        · exact (H64.out k hlt).2
      have HRC := Lib.hid (HREC.out k hlt)
      have hsucc : allOk (okE R ok) (k + 1) = (allOk (okE R ok) k && okE R ok k) := allOk_succ (okE R ok) k
      rw [HOK.out, Bool.true_and] at hsucc
      have HSU := Lib.hid hsucc
      have HOKK : Hid (okE R ok k = (ok k && decide ((R k).1 ≠ 0))) := Lib.hid rfl
      have HCAT : Hid ((ByteArray.mk (catR S k).toArray) ++ S k = ⟨(catR S (k + 1)).toArray⟩) := Lib.hid (by apply ba_ext; simp [catR])
      have hcs : (ByteArray.mk (catR S k).toArray).size = (catR S k).length := by simp [ByteArray.size]
      have hadd := add_str (ByteArray.mk (catR S k).toArray) (S k) (by omega)
      have HNO : Hid (okE R ok k = false → putDV R S ok ⟨(zeroL (2 * wordN wide)).toArray⟩ n = .tuple #[.string ⟨#[]⟩, .bool false]) := Lib.hid (fun h => by unfold putDV; rw [allOk_false hlt h]; rfl)
      have HADD := Lib.hid hadd
      clear hsucc hcl hcs hadd
      generalize okE R ok k = oek at *
      generalize R k = r at *
      obtain ⟨rt, rv⟩ := r
      dsimp only at hn64 hc0 hc1
      generalize ok k = okk at *
      generalize S k = sk at *
      generalize hc : (ByteArray.mk (catR S k).toArray) = c at *
      have HC := Lib.hid hc; clear hc
      have k0 : (0 : Int) ≤ (k : Int) := by omega
      have k1 : (k : Int) < (n : Int) := by omega
      have k2 : k + 1 ≤ 1048576 := by omega
      have HX0 : Hid (∀ u, Below wr.heap.size wr u → u.cell? ⟨b, o + k * 2, none⟩ = some (.int .u64 (rt : Nat))) := Lib.hid (fun u hu => (hu.cell (by exact hbl)).trans hc0)
      have HX1 : Hid (∀ u, Below wr.heap.size wr u → u.cell? ⟨b, o + k * 2 + 1, none⟩ = some (.int .u64 (rv : Nat))) := Lib.hid (fun u hu => (hu.cell (by exact hbl)).trans hc1)
      clear hc0 hc1 hbl
      go_upto_region 5 with (fail)
      refine rreg5 _ _ _ _ _ _ _ _ _ _ _ _ _ _ _ _ _ _ _ _ _ _ _ _ _ _ _ _ _ _ _ _ _ _ _ _ _ _ _ _ _ _ _ _ _ _ _ _ _ _ _ _ _ big wide b o n cap k rt rv sk okk _ k0 k1 (Lib.hid hn64) HRC HX0 HX1 (fun _ _ _ _ _ h => h) (fun u19 u20 u21 u22 u23 u24 u25 u26 u27 u28 u29 u30 u31 u32 u33 u34 u35 u36 w7 h7 => ?_)
      have x0 := HX0.out _ h7
      have HB7 := Lib.hid (HB.out.trans (h7.mono HB.out.size))
      clear h7
      have hadd := HADD.out
      cases okk
      · go_wp2
        go_ret2
        exact ⟨by rw [HNO.out HOKK.out]; rfl, HB7.out⟩
      · by_cases ht0 : rt = 0
        · have ht1 : ((rt : Int) == 0) = true := by rw [ht0]; rfl
          have HTT := Lib.hid ht0; clear ht0
          have ht2 : (rt : Int) = 0 := by simpa using ht1
          go_wp2
          go_ret2
          exact ⟨by rw [HNO.out (by rw [HOKK.out]; simp [HTT.out])]; rfl, HB7.out⟩
        · have ht1 : ((rt : Int) == 0) = false := by simpa using ht0
          have HTT := Lib.hid ht0; clear ht0
          go_wp2
          exact ⟨⟨k + 1, by omega, by go_num, by rw [HCAT.out], by rw [HSU.out, HOKK.out]; simp [HTT.out], HB7.out⟩, by simp [intOf]; omega⟩
    · obtain rfl : k = n := by omega
      have HV : Hid (putDV R S ok ⟨(zeroL (2 * wordN wide)).toArray⟩ k = .tuple #[.string ((ByteArray.mk (catR S k).toArray) ++ ⟨(zeroL (2 * wordN wide)).toArray⟩), .bool true]) := Lib.hid (by unfold putDV; rw [HOK.out]; rfl)
      have hcl := catR_len S 16 k (fun i hi => HS.out i (by omega))
      have hcs : (ByteArray.mk (catR S k).toArray).size = (catR S k).length := by simp [ByteArray.size]
      cases wide
      · have hadd := add_str (ByteArray.mk (catR S k).toArray) ⟨(zeroL 8).toArray⟩ (by have : (ByteArray.mk (zeroL 8).toArray).size = 8 := rfl; omega)
        clear hcl hcs
        have hmk := make_y8
        have hcv := conv_y8
        go_wp2
        go_ret2
        exact ⟨by rw [HV.out]; rfl, HB.out.alloc HB.out.size _⟩
      · have hadd := add_str (ByteArray.mk (catR S k).toArray) ⟨(zeroL 16).toArray⟩ (by have : (ByteArray.mk (zeroL 16).toArray).size = 16 := rfl; omega)
        clear hcl hcs
        have hmk := make_y16
        have hcv := conv_y16
        go_wp2
        go_ret2
        exact ⟨by rw [HV.out]; rfl, HB.out.alloc HB.out.size _⟩
end Go.Proofs.YtnmklmaclmjfbaaDoor
