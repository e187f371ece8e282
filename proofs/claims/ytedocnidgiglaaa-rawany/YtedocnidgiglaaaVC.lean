/- The reference's Field. Conditions: those written in each theorem. -/
import Derived.Great.BuildSlice
import Derived.Test.YtedocnidgiglaaaJC
import Derived.Test.YtedocnidgiglaaaVA
namespace Go.Proofs.Ytedocnidgiglaaa
open Go.RowKit
set_option linter.unusedVariables false
/-- Where a number of a section's header begins, and how long it is. -/
def secOff (w k : Nat) : Nat := [0, 4, 8, 8 + w, 8 + 2 * w, 8 + 3 * w, 8 + 4 * w, 12 + 4 * w, 16 + 4 * w, 16 + 5 * w].getD k 0
def secSz (w k : Nat) : Nat := if k < 2 ∨ k = 6 ∨ k = 7 then 4 else w
set_option maxRecDepth 1000000 in
set_option maxHeartbeats 2000000 in
theorem freg1_4 (Q : Exit → Act → World → Prop) (c0 c2 c3 c4 c5 c6 c7 c8 c9 c10 c11 c12 c13 c14 c15 c16 c17 c18 c19 c20 c21 c22 c23 c24 c25 c26 c27 c28 c29 c30 c31 c32 c33 c34 c35 c36 c37 c38 c39 c40 c41 c42 c43 c44 c45 c46 c47 c48 c49 c50 c51 c52 c53 : Value) (W : World)
    (hQ : ∀ (u13 u14 u15 u16 u17 u18 u19 u20 u21 u22 u23 u24 u25 u26 u27 u28 u29 u30 u31 u32 u33 : Value) (F : Nat) (w' : World), w'.heap[F]? = some (.cells #[.int .u64 0, .int .u64 4, .int .u64 8, .int .u64 12, .int .u64 16, .int .u64 20, .int .u64 24, .int .u64 28, .int .u64 32, .int .u64 36] 53 (0, 0)) → W.heap.size ≤ F → Below W.heap.size W w' → Q .normal ⟨#[c0, .int .u64 4, c2, c3, c4, c5, c6, c7, c8, c9, c10, .pointer (some ⟨F, 0, none⟩), c12, u13, u14, u15, u16, u17, u18, u19, u20, u21, u22, u23, u24, u25, u26, u27, u28, u29, u30, u31, u32, u33, c34, c35, c36, c37, c38, c39, c40, c41, c42, c43, c44, c45, c46, c47, c48, c49, c50, c51, c52, c53], []⟩ w') :
    (Code.region 1 #[⟨some 13, .move (.tmp 1), 29, "ref.go:34", #[], none⟩, ⟨some 14, .binOp .add 29 (.const (.int .u64 8)) (.tmp 13) 29, 29, "ref.go:34", #[⟨0, .data⟩], none⟩, ⟨some 15, .move (.tmp 1), 29, "ref.go:34", #[], none⟩, ⟨some 16, .binOp .mul 29 (.const (.int .u64 2)) (.tmp 15) 29, 29, "ref.go:34", #[⟨2, .data⟩], none⟩, ⟨some 17, .binOp .add 29 (.const (.int .u64 8)) (.tmp 16) 29, 29, "ref.go:34", #[⟨3, .data⟩], none⟩, ⟨some 18, .move (.tmp 1), 29, "ref.go:34", #[], none⟩, ⟨some 19, .binOp .mul 29 (.const (.int .u64 3)) (.tmp 18) 29, 29, "ref.go:34", #[⟨5, .data⟩], none⟩, ⟨some 20, .binOp .add 29 (.const (.int .u64 8)) (.tmp 19) 29, 29, "ref.go:34", #[⟨6, .data⟩], none⟩, ⟨some 21, .move (.tmp 1), 29, "ref.go:34", #[], none⟩, ⟨some 22, .binOp .mul 29 (.const (.int .u64 4)) (.tmp 21) 29, 29, "ref.go:34", #[⟨8, .data⟩], none⟩, ⟨some 23, .binOp .add 29 (.const (.int .u64 8)) (.tmp 22) 29, 29, "ref.go:34", #[⟨9, .data⟩], none⟩, ⟨some 24, .move (.tmp 1), 29, "ref.go:34", #[], none⟩, ⟨some 25, .binOp .mul 29 (.const (.int .u64 4)) (.tmp 24) 29, 29, "ref.go:34", #[⟨11, .data⟩], none⟩, ⟨some 26, .binOp .add 29 (.const (.int .u64 12)) (.tmp 25) 29, 29, "ref.go:34", #[⟨12, .data⟩], none⟩, ⟨some 27, .move (.tmp 1), 29, "ref.go:34", #[], none⟩, ⟨some 28, .binOp .mul 29 (.const (.int .u64 4)) (.tmp 27) 29, 29, "ref.go:34", #[⟨14, .data⟩], none⟩, ⟨some 29, .binOp .add 29 (.const (.int .u64 16)) (.tmp 28) 29, 29, "ref.go:34", #[⟨15, .data⟩], none⟩, ⟨some 30, .move (.tmp 1), 29, "ref.go:34", #[], none⟩, ⟨some 31, .binOp .mul 29 (.const (.int .u64 5)) (.tmp 30) 29, 29, "ref.go:34", #[⟨17, .data⟩], none⟩, ⟨some 32, .binOp .add 29 (.const (.int .u64 16)) (.tmp 31) 29, 29, "ref.go:34", #[⟨18, .data⟩], none⟩, ⟨some 33, .build 53 #[(0, .const (.int .u64 0)), (1, .const (.int .u64 4)), (2, .const (.int .u64 8)), (3, .tmp 14), (4, .tmp 17), (5, .tmp 20), (6, .tmp 23), (7, .tmp 26), (8, .tmp 29), (9, .tmp 32)], 53, "ref.go:34", #[⟨1, .data⟩, ⟨4, .data⟩, ⟨7, .data⟩, ⟨10, .data⟩, ⟨13, .data⟩, ⟨16, .data⟩, ⟨19, .data⟩], none⟩, ⟨some 11, .alloc 53, 0, "ref.go:34", #[], none⟩, ⟨none, .store 53 (.tmp 11) (.tmp 33), 0, "ref.go:34", #[⟨21, .data⟩, ⟨20, .data⟩, ⟨0, .phase⟩, ⟨1, .phase⟩, ⟨2, .phase⟩, ⟨3, .phase⟩, ⟨4, .phase⟩, ⟨5, .phase⟩, ⟨6, .phase⟩, ⟨7, .phase⟩, ⟨8, .phase⟩, ⟨9, .phase⟩, ⟨10, .phase⟩, ⟨11, .phase⟩, ⟨12, .phase⟩, ⟨13, .phase⟩, ⟨14, .phase⟩, ⟨15, .phase⟩, ⟨16, .phase⟩, ⟨17, .phase⟩, ⟨18, .phase⟩, ⟨19, .phase⟩, ⟨20, .phase⟩, ⟨21, .phase⟩], none⟩] false).wp Try.prog Q ⟨#[c0, .int .u64 4, c2, c3, c4, c5, c6, c7, c8, c9, c10, c11, c12, c13, c14, c15, c16, c17, c18, c19, c20, c21, c22, c23, c24, c25, c26, c27, c28, c29, c30, c31, c32, c33, c34, c35, c36, c37, c38, c39, c40, c41, c42, c43, c44, c45, c46, c47, c48, c49, c50, c51, c52, c53], []⟩ W := by
  try dsimp only at hQ ⊢
  have HQ := Lib.hid hQ; clear hQ
  refine wp_region_lit (l := _) ?_
  refine wpList_step (fun K hK => ?_)
  go_simp
  refine hK _ _ ?_
  clear hK K
  try simp only [Act.put, List.setIfInBounds_toArray, List.set_cons_zero, List.set_cons_succ]
  refine wpList_step (fun K hK => ?_)
  go_simp
  refine hK _ _ ?_
  clear hK K
  try simp only [Act.put, List.setIfInBounds_toArray, List.set_cons_zero, List.set_cons_succ]
  refine wpList_step (fun K hK => ?_)
  go_simp
  refine hK _ _ ?_
  clear hK K
  try simp only [Act.put, List.setIfInBounds_toArray, List.set_cons_zero, List.set_cons_succ]
  refine wpList_step (fun K hK => ?_)
  go_simp
  refine hK _ _ ?_
  clear hK K
  try simp only [Act.put, List.setIfInBounds_toArray, List.set_cons_zero, List.set_cons_succ]
  refine wpList_step (fun K hK => ?_)
  go_simp
  refine hK _ _ ?_
  clear hK K
  try simp only [Act.put, List.setIfInBounds_toArray, List.set_cons_zero, List.set_cons_succ]
  refine wpList_step (fun K hK => ?_)
  go_simp
  refine hK _ _ ?_
  clear hK K
  try simp only [Act.put, List.setIfInBounds_toArray, List.set_cons_zero, List.set_cons_succ]
  refine wpList_step (fun K hK => ?_)
  go_simp
  refine hK _ _ ?_
  clear hK K
  try simp only [Act.put, List.setIfInBounds_toArray, List.set_cons_zero, List.set_cons_succ]
  refine wpList_step (fun K hK => ?_)
  go_simp
  refine hK _ _ ?_
  clear hK K
  try simp only [Act.put, List.setIfInBounds_toArray, List.set_cons_zero, List.set_cons_succ]
  refine wpList_step (fun K hK => ?_)
  go_simp
  refine hK _ _ ?_
  clear hK K
  try simp only [Act.put, List.setIfInBounds_toArray, List.set_cons_zero, List.set_cons_succ]
  refine wpList_step (fun K hK => ?_)
  go_simp
  refine hK _ _ ?_
  clear hK K
  try simp only [Act.put, List.setIfInBounds_toArray, List.set_cons_zero, List.set_cons_succ]
  refine wpList_step (fun K hK => ?_)
  go_simp
  refine hK _ _ ?_
  clear hK K
  try simp only [Act.put, List.setIfInBounds_toArray, List.set_cons_zero, List.set_cons_succ]
  refine wpList_step (fun K hK => ?_)
  go_simp
  refine hK _ _ ?_
  clear hK K
  try simp only [Act.put, List.setIfInBounds_toArray, List.set_cons_zero, List.set_cons_succ]
  refine wpList_step (fun K hK => ?_)
  go_simp
  refine hK _ _ ?_
  clear hK K
  try simp only [Act.put, List.setIfInBounds_toArray, List.set_cons_zero, List.set_cons_succ]
  refine wpList_step (fun K hK => ?_)
  go_simp
  refine hK _ _ ?_
  clear hK K
  try simp only [Act.put, List.setIfInBounds_toArray, List.set_cons_zero, List.set_cons_succ]
  refine wpList_step (fun K hK => ?_)
  go_simp
  refine hK _ _ ?_
  clear hK K
  try simp only [Act.put, List.setIfInBounds_toArray, List.set_cons_zero, List.set_cons_succ]
  refine wpList_step (fun K hK => ?_)
  go_simp
  refine hK _ _ ?_
  clear hK K
  try simp only [Act.put, List.setIfInBounds_toArray, List.set_cons_zero, List.set_cons_succ]
  refine wpList_step (fun K hK => ?_)
  go_simp
  refine hK _ _ ?_
  clear hK K
  try simp only [Act.put, List.setIfInBounds_toArray, List.set_cons_zero, List.set_cons_succ]
  refine wpList_step (fun K hK => ?_)
  go_simp
  refine hK _ _ ?_
  clear hK K
  try simp only [Act.put, List.setIfInBounds_toArray, List.set_cons_zero, List.set_cons_succ]
  refine wpList_step (fun K hK => ?_)
  go_simp
  refine hK _ _ ?_
  clear hK K
  try simp only [Act.put, List.setIfInBounds_toArray, List.set_cons_zero, List.set_cons_succ]
  refine wpList_step (fun K hK => ?_)
  go_simp
  refine hK _ _ ?_
  clear hK K
  try simp only [Act.put, List.setIfInBounds_toArray, List.set_cons_zero, List.set_cons_succ]
  refine wpList_buildTo rfl 53 _ rfl _ rfl #[.int .u64 0, .int .u64 4, .int .u64 8, .int .u64 12, .int .u64 16, .int .u64 20, .int .u64 24, .int .u64 28, .int .u64 32, .int .u64 36] (by kernel_rfl) ?_
  try simp only [Act.put, List.setIfInBounds_toArray, List.set_cons_zero, List.set_cons_succ]
  refine wpList_step (fun K hK => ?_)
  go_simp
  refine hK _ _ ?_
  clear hK K
  try simp only [Act.put, List.setIfInBounds_toArray, List.set_cons_zero, List.set_cons_succ]
  have hT := heap_alloc_new W (.cells #[.int .u64 0, .int .u64 0, .int .u64 0, .int .u64 0, .int .u64 0, .int .u64 0, .int .u64 0, .int .u64 0, .int .u64 0, .int .u64 0] 53)
  have hB := below_more (Below.refl W.heap.size W) (.cells #[.int .u64 0, .int .u64 0, .int .u64 0, .int .u64 0, .int .u64 0, .int .u64 0, .int .u64 0, .int .u64 0, .int .u64 0, .int .u64 0] 53)
  refine wpList_store_rowTo rfl 53 _ _ rfl rfl W.heap.size #[.int .u64 0, .int .u64 4, .int .u64 8, .int .u64 12, .int .u64 16, .int .u64 20, .int .u64 24, .int .u64 28, .int .u64 32, .int .u64 36] (by rfl) (by rfl) 53 #[.int .u64 0, .int .u64 0, .int .u64 0, .int .u64 0, .int .u64 0, .int .u64 0, .int .u64 0, .int .u64 0, .int .u64 0, .int .u64 0] hT (by kernel_rfl) rfl (by simp [Value.oneCell']) ?_
  refine wpList_nil ?_
  exact HQ.out _ _ _ _ _ _ _ _ _ _ _ _ _ _ _ _ _ _ _ _ _ _ _ (setRow_heap' _ _ _ _ _ _ hT) (Nat.le_refl _) (setRow_below hB (Nat.le_refl _) _)
set_option maxRecDepth 1000000 in
set_option maxHeartbeats 2000000 in
theorem freg1_8 (Q : Exit → Act → World → Prop) (c0 c2 c3 c4 c5 c6 c7 c8 c9 c10 c11 c12 c13 c14 c15 c16 c17 c18 c19 c20 c21 c22 c23 c24 c25 c26 c27 c28 c29 c30 c31 c32 c33 c34 c35 c36 c37 c38 c39 c40 c41 c42 c43 c44 c45 c46 c47 c48 c49 c50 c51 c52 c53 : Value) (W : World)
    (hQ : ∀ (u13 u14 u15 u16 u17 u18 u19 u20 u21 u22 u23 u24 u25 u26 u27 u28 u29 u30 u31 u32 u33 : Value) (F : Nat) (w' : World), w'.heap[F]? = some (.cells #[.int .u64 0, .int .u64 4, .int .u64 8, .int .u64 16, .int .u64 24, .int .u64 32, .int .u64 40, .int .u64 44, .int .u64 48, .int .u64 56] 53 (0, 0)) → W.heap.size ≤ F → Below W.heap.size W w' → Q .normal ⟨#[c0, .int .u64 8, c2, c3, c4, c5, c6, c7, c8, c9, c10, .pointer (some ⟨F, 0, none⟩), c12, u13, u14, u15, u16, u17, u18, u19, u20, u21, u22, u23, u24, u25, u26, u27, u28, u29, u30, u31, u32, u33, c34, c35, c36, c37, c38, c39, c40, c41, c42, c43, c44, c45, c46, c47, c48, c49, c50, c51, c52, c53], []⟩ w') :
    (Code.region 1 #[⟨some 13, .move (.tmp 1), 29, "ref.go:34", #[], none⟩, ⟨some 14, .binOp .add 29 (.const (.int .u64 8)) (.tmp 13) 29, 29, "ref.go:34", #[⟨0, .data⟩], none⟩, ⟨some 15, .move (.tmp 1), 29, "ref.go:34", #[], none⟩, ⟨some 16, .binOp .mul 29 (.const (.int .u64 2)) (.tmp 15) 29, 29, "ref.go:34", #[⟨2, .data⟩], none⟩, ⟨some 17, .binOp .add 29 (.const (.int .u64 8)) (.tmp 16) 29, 29, "ref.go:34", #[⟨3, .data⟩], none⟩, ⟨some 18, .move (.tmp 1), 29, "ref.go:34", #[], none⟩, ⟨some 19, .binOp .mul 29 (.const (.int .u64 3)) (.tmp 18) 29, 29, "ref.go:34", #[⟨5, .data⟩], none⟩, ⟨some 20, .binOp .add 29 (.const (.int .u64 8)) (.tmp 19) 29, 29, "ref.go:34", #[⟨6, .data⟩], none⟩, ⟨some 21, .move (.tmp 1), 29, "ref.go:34", #[], none⟩, ⟨some 22, .binOp .mul 29 (.const (.int .u64 4)) (.tmp 21) 29, 29, "ref.go:34", #[⟨8, .data⟩], none⟩, ⟨some 23, .binOp .add 29 (.const (.int .u64 8)) (.tmp 22) 29, 29, "ref.go:34", #[⟨9, .data⟩], none⟩, ⟨some 24, .move (.tmp 1), 29, "ref.go:34", #[], none⟩, ⟨some 25, .binOp .mul 29 (.const (.int .u64 4)) (.tmp 24) 29, 29, "ref.go:34", #[⟨11, .data⟩], none⟩, ⟨some 26, .binOp .add 29 (.const (.int .u64 12)) (.tmp 25) 29, 29, "ref.go:34", #[⟨12, .data⟩], none⟩, ⟨some 27, .move (.tmp 1), 29, "ref.go:34", #[], none⟩, ⟨some 28, .binOp .mul 29 (.const (.int .u64 4)) (.tmp 27) 29, 29, "ref.go:34", #[⟨14, .data⟩], none⟩, ⟨some 29, .binOp .add 29 (.const (.int .u64 16)) (.tmp 28) 29, 29, "ref.go:34", #[⟨15, .data⟩], none⟩, ⟨some 30, .move (.tmp 1), 29, "ref.go:34", #[], none⟩, ⟨some 31, .binOp .mul 29 (.const (.int .u64 5)) (.tmp 30) 29, 29, "ref.go:34", #[⟨17, .data⟩], none⟩, ⟨some 32, .binOp .add 29 (.const (.int .u64 16)) (.tmp 31) 29, 29, "ref.go:34", #[⟨18, .data⟩], none⟩, ⟨some 33, .build 53 #[(0, .const (.int .u64 0)), (1, .const (.int .u64 4)), (2, .const (.int .u64 8)), (3, .tmp 14), (4, .tmp 17), (5, .tmp 20), (6, .tmp 23), (7, .tmp 26), (8, .tmp 29), (9, .tmp 32)], 53, "ref.go:34", #[⟨1, .data⟩, ⟨4, .data⟩, ⟨7, .data⟩, ⟨10, .data⟩, ⟨13, .data⟩, ⟨16, .data⟩, ⟨19, .data⟩], none⟩, ⟨some 11, .alloc 53, 0, "ref.go:34", #[], none⟩, ⟨none, .store 53 (.tmp 11) (.tmp 33), 0, "ref.go:34", #[⟨21, .data⟩, ⟨20, .data⟩, ⟨0, .phase⟩, ⟨1, .phase⟩, ⟨2, .phase⟩, ⟨3, .phase⟩, ⟨4, .phase⟩, ⟨5, .phase⟩, ⟨6, .phase⟩, ⟨7, .phase⟩, ⟨8, .phase⟩, ⟨9, .phase⟩, ⟨10, .phase⟩, ⟨11, .phase⟩, ⟨12, .phase⟩, ⟨13, .phase⟩, ⟨14, .phase⟩, ⟨15, .phase⟩, ⟨16, .phase⟩, ⟨17, .phase⟩, ⟨18, .phase⟩, ⟨19, .phase⟩, ⟨20, .phase⟩, ⟨21, .phase⟩], none⟩] false).wp Try.prog Q ⟨#[c0, .int .u64 8, c2, c3, c4, c5, c6, c7, c8, c9, c10, c11, c12, c13, c14, c15, c16, c17, c18, c19, c20, c21, c22, c23, c24, c25, c26, c27, c28, c29, c30, c31, c32, c33, c34, c35, c36, c37, c38, c39, c40, c41, c42, c43, c44, c45, c46, c47, c48, c49, c50, c51, c52, c53], []⟩ W := by
  try dsimp only at hQ ⊢
  have HQ := Lib.hid hQ; clear hQ
  refine wp_region_lit (l := _) ?_
  refine wpList_step (fun K hK => ?_)
  go_simp
  refine hK _ _ ?_
  clear hK K
  try simp only [Act.put, List.setIfInBounds_toArray, List.set_cons_zero, List.set_cons_succ]
  refine wpList_step (fun K hK => ?_)
  go_simp
  refine hK _ _ ?_
  clear hK K
  try simp only [Act.put, List.setIfInBounds_toArray, List.set_cons_zero, List.set_cons_succ]
  refine wpList_step (fun K hK => ?_)
  go_simp
  refine hK _ _ ?_
  clear hK K
  try simp only [Act.put, List.setIfInBounds_toArray, List.set_cons_zero, List.set_cons_succ]
  refine wpList_step (fun K hK => ?_)
  go_simp
  refine hK _ _ ?_
  clear hK K
  try simp only [Act.put, List.setIfInBounds_toArray, List.set_cons_zero, List.set_cons_succ]
  refine wpList_step (fun K hK => ?_)
  go_simp
  refine hK _ _ ?_
  clear hK K
  try simp only [Act.put, List.setIfInBounds_toArray, List.set_cons_zero, List.set_cons_succ]
  refine wpList_step (fun K hK => ?_)
  go_simp
  refine hK _ _ ?_
  clear hK K
  try simp only [Act.put, List.setIfInBounds_toArray, List.set_cons_zero, List.set_cons_succ]
  refine wpList_step (fun K hK => ?_)
  go_simp
  refine hK _ _ ?_
  clear hK K
  try simp only [Act.put, List.setIfInBounds_toArray, List.set_cons_zero, List.set_cons_succ]
  refine wpList_step (fun K hK => ?_)
  go_simp
  refine hK _ _ ?_
  clear hK K
  try simp only [Act.put, List.setIfInBounds_toArray, List.set_cons_zero, List.set_cons_succ]
  refine wpList_step (fun K hK => ?_)
  go_simp
  refine hK _ _ ?_
  clear hK K
  try simp only [Act.put, List.setIfInBounds_toArray, List.set_cons_zero, List.set_cons_succ]
  refine wpList_step (fun K hK => ?_)
  go_simp
  refine hK _ _ ?_
  clear hK K
  try simp only [Act.put, List.setIfInBounds_toArray, List.set_cons_zero, List.set_cons_succ]
  refine wpList_step (fun K hK => ?_)
  go_simp
  refine hK _ _ ?_
  clear hK K
  try simp only [Act.put, List.setIfInBounds_toArray, List.set_cons_zero, List.set_cons_succ]
  refine wpList_step (fun K hK => ?_)
  go_simp
  refine hK _ _ ?_
  clear hK K
  try simp only [Act.put, List.setIfInBounds_toArray, List.set_cons_zero, List.set_cons_succ]
  refine wpList_step (fun K hK => ?_)
  go_simp
  refine hK _ _ ?_
  clear hK K
  try simp only [Act.put, List.setIfInBounds_toArray, List.set_cons_zero, List.set_cons_succ]
  refine wpList_step (fun K hK => ?_)
  go_simp
  refine hK _ _ ?_
  clear hK K
  try simp only [Act.put, List.setIfInBounds_toArray, List.set_cons_zero, List.set_cons_succ]
  refine wpList_step (fun K hK => ?_)
  go_simp
  refine hK _ _ ?_
  clear hK K
  try simp only [Act.put, List.setIfInBounds_toArray, List.set_cons_zero, List.set_cons_succ]
  refine wpList_step (fun K hK => ?_)
  go_simp
  refine hK _ _ ?_
  clear hK K
  try simp only [Act.put, List.setIfInBounds_toArray, List.set_cons_zero, List.set_cons_succ]
  refine wpList_step (fun K hK => ?_)
  go_simp
  refine hK _ _ ?_
  clear hK K
  try simp only [Act.put, List.setIfInBounds_toArray, List.set_cons_zero, List.set_cons_succ]
  refine wpList_step (fun K hK => ?_)
  go_simp
  refine hK _ _ ?_
  clear hK K
  try simp only [Act.put, List.setIfInBounds_toArray, List.set_cons_zero, List.set_cons_succ]
  refine wpList_step (fun K hK => ?_)
  go_simp
  refine hK _ _ ?_
  clear hK K
  try simp only [Act.put, List.setIfInBounds_toArray, List.set_cons_zero, List.set_cons_succ]
  refine wpList_step (fun K hK => ?_)
  go_simp
  refine hK _ _ ?_
  clear hK K
  try simp only [Act.put, List.setIfInBounds_toArray, List.set_cons_zero, List.set_cons_succ]
  refine wpList_buildTo rfl 53 _ rfl _ rfl #[.int .u64 0, .int .u64 4, .int .u64 8, .int .u64 16, .int .u64 24, .int .u64 32, .int .u64 40, .int .u64 44, .int .u64 48, .int .u64 56] (by kernel_rfl) ?_
  try simp only [Act.put, List.setIfInBounds_toArray, List.set_cons_zero, List.set_cons_succ]
  refine wpList_step (fun K hK => ?_)
  go_simp
  refine hK _ _ ?_
  clear hK K
  try simp only [Act.put, List.setIfInBounds_toArray, List.set_cons_zero, List.set_cons_succ]
  have hT := heap_alloc_new W (.cells #[.int .u64 0, .int .u64 0, .int .u64 0, .int .u64 0, .int .u64 0, .int .u64 0, .int .u64 0, .int .u64 0, .int .u64 0, .int .u64 0] 53)
  have hB := below_more (Below.refl W.heap.size W) (.cells #[.int .u64 0, .int .u64 0, .int .u64 0, .int .u64 0, .int .u64 0, .int .u64 0, .int .u64 0, .int .u64 0, .int .u64 0, .int .u64 0] 53)
  refine wpList_store_rowTo rfl 53 _ _ rfl rfl W.heap.size #[.int .u64 0, .int .u64 4, .int .u64 8, .int .u64 16, .int .u64 24, .int .u64 32, .int .u64 40, .int .u64 44, .int .u64 48, .int .u64 56] (by rfl) (by rfl) 53 #[.int .u64 0, .int .u64 0, .int .u64 0, .int .u64 0, .int .u64 0, .int .u64 0, .int .u64 0, .int .u64 0, .int .u64 0, .int .u64 0] hT (by kernel_rfl) rfl (by simp [Value.oneCell']) ?_
  refine wpList_nil ?_
  exact HQ.out _ _ _ _ _ _ _ _ _ _ _ _ _ _ _ _ _ _ _ _ _ _ _ (setRow_heap' _ _ _ _ _ _ hT) (Nat.le_refl _) (setRow_below hB (Nat.le_refl _) _)
set_option maxRecDepth 100000 in
set_option maxHeartbeats 1000000 in
theorem field_4 (big : Bool) (s : ByteArray) (at_ k : Nat) (w : World) (hs : s.size ≤ 1048576) (hk : k < 10) (h : at_ + secOff 4 k + secSz 4 k ≤ s.size) : Calls Try.prog 20 #[.bool big, .int .u64 4, .string s, .int .u64 (at_ : Nat), .int .i64 (k : Nat)] w fun e w' => e = .returned (.int .u64 (numV big s (at_ + secOff 4 k) (secSz 4 k) : Nat)) ∧ Below w.heap.size w w' := by
  obtain ⟨v, hv⟩ : ∃ v, v = numV big s (at_ + secOff 4 k) (secSz 4 k) := ⟨_, rfl⟩
  rw [← hv]
  have HV := Lib.hid hv; have HH := Lib.hid h; clear hv h
  go_enter Try.func20, Try.ntmps20
  go_upto_region 1 with (fail)
  refine freg1_4 _ _ _ _ _ _ _ _ _ _ _ _ _ _ _ _ _ _ _ _ _ _ _ _ _ _ _ _ _ _ _ _ _ _ _ _ _ _ _ _ _ _ _ _ _ _ _ _ _ _ _ _ _ _ w (fun u13 u14 u15 u16 u17 u18 u19 u20 u21 u22 u23 u24 u25 u26 u27 u28 u29 u30 u31 u32 u33 F w3 hF hWF b3 => ?_)
  have HF := Lib.hid hF; have HB := Lib.hid b3; clear hF b3 hWF
  rcases (show k = 0 ∨ k = 1 ∨ k = 2 ∨ k = 3 ∨ k = 4 ∨ k = 5 ∨ k = 6 ∨ k = 7 ∨ k = 8 ∨ k = 9 by omega) with rfl | rfl | rfl | rfl | rfl | rfl | rfl | rfl | rfl | rfl
  · have h' : at_ + 4 ≤ s.size := HH.out
    have hv : numV big s (at_) 4 = v := by rw [HV.out, show secOff 4 0 = 0 from rfl, show secSz 4 0 = 4 from rfl]; rfl
    have c : w3.cell? ⟨F, 0, none⟩ = some (.int .u64 0) := by rw [Lib.cell_of_heap HF.out]; rfl
    have a : IntKind.u64.wrap ((at_ : Int)) = ((at_ : Nat) : Int) := by rw [IntKind.wrap_u64]; omega
    have HN := Lib.hid (fun u => num_any big s (at_) 4 u hs h')
    rw [hv] at HN
    clear h' hv
    dsimp only
    go_wp2_with fail
    refine (HN.out _).mono ?_
    rintro e w' ⟨rfl, rfl⟩
    go_wp2
    go_ret
    exact ⟨rfl, HB.out⟩
  · have h' : at_ + 4 + 4 ≤ s.size := HH.out
    have hv : numV big s (at_ + 4) 4 = v := by rw [HV.out, show secOff 4 1 = 4 from rfl, show secSz 4 1 = 4 from rfl]
    have c : w3.cell? ⟨F, 1, none⟩ = some (.int .u64 4) := by rw [Lib.cell_of_heap HF.out]; rfl
    have a : IntKind.u64.wrap ((at_ : Int) + 4) = ((at_ + 4 : Nat) : Int) := by rw [IntKind.wrap_u64]; omega
    have HN := Lib.hid (fun u => num_any big s (at_ + 4) 4 u hs h')
    rw [hv] at HN
    clear h' hv
    dsimp only
    go_wp2_with fail
    refine (HN.out _).mono ?_
    rintro e w' ⟨rfl, rfl⟩
    go_wp2
    go_ret
    exact ⟨rfl, HB.out⟩
  · have h' : at_ + 8 + 4 ≤ s.size := HH.out
    have hv : numV big s (at_ + 8) 4 = v := by rw [HV.out, show secOff 4 2 = 8 from rfl, show secSz 4 2 = 4 from rfl]
    have c : w3.cell? ⟨F, 2, none⟩ = some (.int .u64 8) := by rw [Lib.cell_of_heap HF.out]; rfl
    have a : IntKind.u64.wrap ((at_ : Int) + 8) = ((at_ + 8 : Nat) : Int) := by rw [IntKind.wrap_u64]; omega
    have HN := Lib.hid (fun u => num_any big s (at_ + 8) 4 u hs h')
    rw [hv] at HN
    clear h' hv
    dsimp only
    go_wp2_with fail
    refine (HN.out _).mono ?_
    rintro e w' ⟨rfl, rfl⟩
    go_wp2
    go_ret
    exact ⟨rfl, HB.out⟩
  · have h' : at_ + 12 + 4 ≤ s.size := HH.out
    have hv : numV big s (at_ + 12) 4 = v := by rw [HV.out, show secOff 4 3 = 12 from rfl, show secSz 4 3 = 4 from rfl]
    have c : w3.cell? ⟨F, 3, none⟩ = some (.int .u64 12) := by rw [Lib.cell_of_heap HF.out]; rfl
    have a : IntKind.u64.wrap ((at_ : Int) + 12) = ((at_ + 12 : Nat) : Int) := by rw [IntKind.wrap_u64]; omega
    have HN := Lib.hid (fun u => num_any big s (at_ + 12) 4 u hs h')
    rw [hv] at HN
    clear h' hv
    dsimp only
    go_wp2_with fail
    refine (HN.out _).mono ?_
    rintro e w' ⟨rfl, rfl⟩
    go_wp2
    go_ret
    exact ⟨rfl, HB.out⟩
  · have h' : at_ + 16 + 4 ≤ s.size := HH.out
    have hv : numV big s (at_ + 16) 4 = v := by rw [HV.out, show secOff 4 4 = 16 from rfl, show secSz 4 4 = 4 from rfl]
    have c : w3.cell? ⟨F, 4, none⟩ = some (.int .u64 16) := by rw [Lib.cell_of_heap HF.out]; rfl
    have a : IntKind.u64.wrap ((at_ : Int) + 16) = ((at_ + 16 : Nat) : Int) := by rw [IntKind.wrap_u64]; omega
    have HN := Lib.hid (fun u => num_any big s (at_ + 16) 4 u hs h')
    rw [hv] at HN
    clear h' hv
    dsimp only
    go_wp2_with fail
    refine (HN.out _).mono ?_
    rintro e w' ⟨rfl, rfl⟩
    go_wp2
    go_ret
    exact ⟨rfl, HB.out⟩
  · have h' : at_ + 20 + 4 ≤ s.size := HH.out
    have hv : numV big s (at_ + 20) 4 = v := by rw [HV.out, show secOff 4 5 = 20 from rfl, show secSz 4 5 = 4 from rfl]
    have c : w3.cell? ⟨F, 5, none⟩ = some (.int .u64 20) := by rw [Lib.cell_of_heap HF.out]; rfl
    have a : IntKind.u64.wrap ((at_ : Int) + 20) = ((at_ + 20 : Nat) : Int) := by rw [IntKind.wrap_u64]; omega
    have HN := Lib.hid (fun u => num_any big s (at_ + 20) 4 u hs h')
    rw [hv] at HN
    clear h' hv
    dsimp only
    go_wp2_with fail
    refine (HN.out _).mono ?_
    rintro e w' ⟨rfl, rfl⟩
    go_wp2
    go_ret
    exact ⟨rfl, HB.out⟩
  · have h' : at_ + 24 + 4 ≤ s.size := HH.out
    have hv : numV big s (at_ + 24) 4 = v := by rw [HV.out, show secOff 4 6 = 24 from rfl, show secSz 4 6 = 4 from rfl]
    have c : w3.cell? ⟨F, 6, none⟩ = some (.int .u64 24) := by rw [Lib.cell_of_heap HF.out]; rfl
    have a : IntKind.u64.wrap ((at_ : Int) + 24) = ((at_ + 24 : Nat) : Int) := by rw [IntKind.wrap_u64]; omega
    have HN := Lib.hid (fun u => num_any big s (at_ + 24) 4 u hs h')
    rw [hv] at HN
    clear h' hv
    dsimp only
    go_wp2_with fail
    refine (HN.out _).mono ?_
    rintro e w' ⟨rfl, rfl⟩
    go_wp2
    go_ret
    exact ⟨rfl, HB.out⟩
  · have h' : at_ + 28 + 4 ≤ s.size := HH.out
    have hv : numV big s (at_ + 28) 4 = v := by rw [HV.out, show secOff 4 7 = 28 from rfl, show secSz 4 7 = 4 from rfl]
    have c : w3.cell? ⟨F, 7, none⟩ = some (.int .u64 28) := by rw [Lib.cell_of_heap HF.out]; rfl
    have a : IntKind.u64.wrap ((at_ : Int) + 28) = ((at_ + 28 : Nat) : Int) := by rw [IntKind.wrap_u64]; omega
    have HN := Lib.hid (fun u => num_any big s (at_ + 28) 4 u hs h')
    rw [hv] at HN
    clear h' hv
    dsimp only
    go_wp2_with fail
    refine (HN.out _).mono ?_
    rintro e w' ⟨rfl, rfl⟩
    go_wp2
    go_ret
    exact ⟨rfl, HB.out⟩
  · have h' : at_ + 32 + 4 ≤ s.size := HH.out
    have hv : numV big s (at_ + 32) 4 = v := by rw [HV.out, show secOff 4 8 = 32 from rfl, show secSz 4 8 = 4 from rfl]
    have c : w3.cell? ⟨F, 8, none⟩ = some (.int .u64 32) := by rw [Lib.cell_of_heap HF.out]; rfl
    have a : IntKind.u64.wrap ((at_ : Int) + 32) = ((at_ + 32 : Nat) : Int) := by rw [IntKind.wrap_u64]; omega
    have HN := Lib.hid (fun u => num_any big s (at_ + 32) 4 u hs h')
    rw [hv] at HN
    clear h' hv
    dsimp only
    go_wp2_with fail
    refine (HN.out _).mono ?_
    rintro e w' ⟨rfl, rfl⟩
    go_wp2
    go_ret
    exact ⟨rfl, HB.out⟩
  · have h' : at_ + 36 + 4 ≤ s.size := HH.out
    have hv : numV big s (at_ + 36) 4 = v := by rw [HV.out, show secOff 4 9 = 36 from rfl, show secSz 4 9 = 4 from rfl]
    have c : w3.cell? ⟨F, 9, none⟩ = some (.int .u64 36) := by rw [Lib.cell_of_heap HF.out]; rfl
    have a : IntKind.u64.wrap ((at_ : Int) + 36) = ((at_ + 36 : Nat) : Int) := by rw [IntKind.wrap_u64]; omega
    have HN := Lib.hid (fun u => num_any big s (at_ + 36) 4 u hs h')
    rw [hv] at HN
    clear h' hv
    dsimp only
    go_wp2_with fail
    refine (HN.out _).mono ?_
    rintro e w' ⟨rfl, rfl⟩
    go_wp2
    go_ret
    exact ⟨rfl, HB.out⟩
set_option maxRecDepth 100000 in
set_option maxHeartbeats 1000000 in
theorem field_8 (big : Bool) (s : ByteArray) (at_ k : Nat) (w : World) (hs : s.size ≤ 1048576) (hk : k < 10) (h : at_ + secOff 8 k + secSz 8 k ≤ s.size) : Calls Try.prog 20 #[.bool big, .int .u64 8, .string s, .int .u64 (at_ : Nat), .int .i64 (k : Nat)] w fun e w' => e = .returned (.int .u64 (numV big s (at_ + secOff 8 k) (secSz 8 k) : Nat)) ∧ Below w.heap.size w w' := by
  obtain ⟨v, hv⟩ : ∃ v, v = numV big s (at_ + secOff 8 k) (secSz 8 k) := ⟨_, rfl⟩
  rw [← hv]
  have HV := Lib.hid hv; have HH := Lib.hid h; clear hv h
  go_enter Try.func20, Try.ntmps20
  go_upto_region 1 with (fail)
  refine freg1_8 _ _ _ _ _ _ _ _ _ _ _ _ _ _ _ _ _ _ _ _ _ _ _ _ _ _ _ _ _ _ _ _ _ _ _ _ _ _ _ _ _ _ _ _ _ _ _ _ _ _ _ _ _ _ w (fun u13 u14 u15 u16 u17 u18 u19 u20 u21 u22 u23 u24 u25 u26 u27 u28 u29 u30 u31 u32 u33 F w3 hF hWF b3 => ?_)
  have HF := Lib.hid hF; have HB := Lib.hid b3; clear hF b3 hWF
  rcases (show k = 0 ∨ k = 1 ∨ k = 2 ∨ k = 3 ∨ k = 4 ∨ k = 5 ∨ k = 6 ∨ k = 7 ∨ k = 8 ∨ k = 9 by omega) with rfl | rfl | rfl | rfl | rfl | rfl | rfl | rfl | rfl | rfl
  · have h' : at_ + 4 ≤ s.size := HH.out
    have hv : numV big s (at_) 4 = v := by rw [HV.out, show secOff 8 0 = 0 from rfl, show secSz 8 0 = 4 from rfl]; rfl
    have c : w3.cell? ⟨F, 0, none⟩ = some (.int .u64 0) := by rw [Lib.cell_of_heap HF.out]; rfl
    have a : IntKind.u64.wrap ((at_ : Int)) = ((at_ : Nat) : Int) := by rw [IntKind.wrap_u64]; omega
    have HN := Lib.hid (fun u => num_any big s (at_) 4 u hs h')
    rw [hv] at HN
    clear h' hv
    dsimp only
    go_wp2_with fail
    refine (HN.out _).mono ?_
    rintro e w' ⟨rfl, rfl⟩
    go_wp2
    go_ret
    exact ⟨rfl, HB.out⟩
  · have h' : at_ + 4 + 4 ≤ s.size := HH.out
    have hv : numV big s (at_ + 4) 4 = v := by rw [HV.out, show secOff 8 1 = 4 from rfl, show secSz 8 1 = 4 from rfl]
    have c : w3.cell? ⟨F, 1, none⟩ = some (.int .u64 4) := by rw [Lib.cell_of_heap HF.out]; rfl
    have a : IntKind.u64.wrap ((at_ : Int) + 4) = ((at_ + 4 : Nat) : Int) := by rw [IntKind.wrap_u64]; omega
    have HN := Lib.hid (fun u => num_any big s (at_ + 4) 4 u hs h')
    rw [hv] at HN
    clear h' hv
    dsimp only
    go_wp2_with fail
    refine (HN.out _).mono ?_
    rintro e w' ⟨rfl, rfl⟩
    go_wp2
    go_ret
    exact ⟨rfl, HB.out⟩
  · have h' : at_ + 8 + 8 ≤ s.size := HH.out
    have hv : numV big s (at_ + 8) 8 = v := by rw [HV.out, show secOff 8 2 = 8 from rfl, show secSz 8 2 = 8 from rfl]
    have c : w3.cell? ⟨F, 2, none⟩ = some (.int .u64 8) := by rw [Lib.cell_of_heap HF.out]; rfl
    have a : IntKind.u64.wrap ((at_ : Int) + 8) = ((at_ + 8 : Nat) : Int) := by rw [IntKind.wrap_u64]; omega
    have HN := Lib.hid (fun u => num_any big s (at_ + 8) 8 u hs h')
    rw [hv] at HN
    clear h' hv
    dsimp only
    go_wp2_with fail
    refine (HN.out _).mono ?_
    rintro e w' ⟨rfl, rfl⟩
    go_wp2
    go_ret
    exact ⟨rfl, HB.out⟩
  · have h' : at_ + 16 + 8 ≤ s.size := HH.out
    have hv : numV big s (at_ + 16) 8 = v := by rw [HV.out, show secOff 8 3 = 16 from rfl, show secSz 8 3 = 8 from rfl]
    have c : w3.cell? ⟨F, 3, none⟩ = some (.int .u64 16) := by rw [Lib.cell_of_heap HF.out]; rfl
    have a : IntKind.u64.wrap ((at_ : Int) + 16) = ((at_ + 16 : Nat) : Int) := by rw [IntKind.wrap_u64]; omega
    have HN := Lib.hid (fun u => num_any big s (at_ + 16) 8 u hs h')
    rw [hv] at HN
    clear h' hv
    dsimp only
    go_wp2_with fail
    refine (HN.out _).mono ?_
    rintro e w' ⟨rfl, rfl⟩
    go_wp2
    go_ret
    exact ⟨rfl, HB.out⟩
  · have h' : at_ + 24 + 8 ≤ s.size := HH.out
    have hv : numV big s (at_ + 24) 8 = v := by rw [HV.out, show secOff 8 4 = 24 from rfl, show secSz 8 4 = 8 from rfl]
    have c : w3.cell? ⟨F, 4, none⟩ = some (.int .u64 24) := by rw [Lib.cell_of_heap HF.out]; rfl
    have a : IntKind.u64.wrap ((at_ : Int) + 24) = ((at_ + 24 : Nat) : Int) := by rw [IntKind.wrap_u64]; omega
    have HN := Lib.hid (fun u => num_any big s (at_ + 24) 8 u hs h')
    rw [hv] at HN
    clear h' hv
    dsimp only
    go_wp2_with fail
    refine (HN.out _).mono ?_
    rintro e w' ⟨rfl, rfl⟩
    go_wp2
    go_ret
    exact ⟨rfl, HB.out⟩
  · have h' : at_ + 32 + 8 ≤ s.size := HH.out
    have hv : numV big s (at_ + 32) 8 = v := by rw [HV.out, show secOff 8 5 = 32 from rfl, show secSz 8 5 = 8 from rfl]
    have c : w3.cell? ⟨F, 5, none⟩ = some (.int .u64 32) := by rw [Lib.cell_of_heap HF.out]; rfl
    have a : IntKind.u64.wrap ((at_ : Int) + 32) = ((at_ + 32 : Nat) : Int) := by rw [IntKind.wrap_u64]; omega
    have HN := Lib.hid (fun u => num_any big s (at_ + 32) 8 u hs h')
    rw [hv] at HN
    clear h' hv
    dsimp only
    go_wp2_with fail
    refine (HN.out _).mono ?_
    rintro e w' ⟨rfl, rfl⟩
    go_wp2
    go_ret
    exact ⟨rfl, HB.out⟩
  · have h' : at_ + 40 + 4 ≤ s.size := HH.out
    have hv : numV big s (at_ + 40) 4 = v := by rw [HV.out, show secOff 8 6 = 40 from rfl, show secSz 8 6 = 4 from rfl]
    have c : w3.cell? ⟨F, 6, none⟩ = some (.int .u64 40) := by rw [Lib.cell_of_heap HF.out]; rfl
    have a : IntKind.u64.wrap ((at_ : Int) + 40) = ((at_ + 40 : Nat) : Int) := by rw [IntKind.wrap_u64]; omega
    have HN := Lib.hid (fun u => num_any big s (at_ + 40) 4 u hs h')
    rw [hv] at HN
    clear h' hv
    dsimp only
    go_wp2_with fail
    refine (HN.out _).mono ?_
    rintro e w' ⟨rfl, rfl⟩
    go_wp2
    go_ret
    exact ⟨rfl, HB.out⟩
  · have h' : at_ + 44 + 4 ≤ s.size := HH.out
    have hv : numV big s (at_ + 44) 4 = v := by rw [HV.out, show secOff 8 7 = 44 from rfl, show secSz 8 7 = 4 from rfl]
    have c : w3.cell? ⟨F, 7, none⟩ = some (.int .u64 44) := by rw [Lib.cell_of_heap HF.out]; rfl
    have a : IntKind.u64.wrap ((at_ : Int) + 44) = ((at_ + 44 : Nat) : Int) := by rw [IntKind.wrap_u64]; omega
    have HN := Lib.hid (fun u => num_any big s (at_ + 44) 4 u hs h')
    rw [hv] at HN
    clear h' hv
    dsimp only
    go_wp2_with fail
    refine (HN.out _).mono ?_
    rintro e w' ⟨rfl, rfl⟩
    go_wp2
    go_ret
    exact ⟨rfl, HB.out⟩
  · have h' : at_ + 48 + 8 ≤ s.size := HH.out
    have hv : numV big s (at_ + 48) 8 = v := by rw [HV.out, show secOff 8 8 = 48 from rfl, show secSz 8 8 = 8 from rfl]
    have c : w3.cell? ⟨F, 8, none⟩ = some (.int .u64 48) := by rw [Lib.cell_of_heap HF.out]; rfl
    have a : IntKind.u64.wrap ((at_ : Int) + 48) = ((at_ + 48 : Nat) : Int) := by rw [IntKind.wrap_u64]; omega
    have HN := Lib.hid (fun u => num_any big s (at_ + 48) 8 u hs h')
    rw [hv] at HN
    clear h' hv
    dsimp only
    go_wp2_with fail
    refine (HN.out _).mono ?_
    rintro e w' ⟨rfl, rfl⟩
    go_wp2
    go_ret
    exact ⟨rfl, HB.out⟩
  · have h' : at_ + 56 + 8 ≤ s.size := HH.out
    have hv : numV big s (at_ + 56) 8 = v := by rw [HV.out, show secOff 8 9 = 56 from rfl, show secSz 8 9 = 8 from rfl]
    have c : w3.cell? ⟨F, 9, none⟩ = some (.int .u64 56) := by rw [Lib.cell_of_heap HF.out]; rfl
    have a : IntKind.u64.wrap ((at_ : Int) + 56) = ((at_ + 56 : Nat) : Int) := by rw [IntKind.wrap_u64]; omega
    have HN := Lib.hid (fun u => num_any big s (at_ + 56) 8 u hs h')
    rw [hv] at HN
    clear h' hv
    dsimp only
    go_wp2_with fail
    refine (HN.out _).mono ?_
    rintro e w' ⟨rfl, rfl⟩
    go_wp2
    go_ret
    exact ⟨rfl, HB.out⟩
end Go.Proofs.Ytedocnidgiglaaa
