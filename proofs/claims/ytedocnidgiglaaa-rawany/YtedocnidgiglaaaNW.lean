/- Regions of raw's Parse, an operation at a time. Conditions: those written in each theorem. -/
import Derived.Great.BuildSlice
import Derived.Laws.ResultCell
import Derived.Test.YtedocnidgiglaaaJC
namespace Go.Proofs.Ytedocnidgiglaaa
open Go.RowKit
set_option linter.unusedVariables false
theorem only_setRow (b : Nat) (w : World) (cs : Array Value) : OnlyAt b w (w.setRow b cs) :=
  ⟨rfl, rfl, rfl, by simp [World.setRow], fun k hk hne => by simp [World.setRow, Array.getElem?_modify, show b ≠ k by omega]⟩
set_option maxRecDepth 1000000 in
set_option maxHeartbeats 2000000 in
theorem qreg1 (Q : Exit → Act → World → Prop) (c0 c2 c3 c4 c5 c6 c7 c8 c9 c10 c11 c12 c13 c14 c15 c16 c17 c18 c19 c20 c21 c22 c23 c24 c25 c26 c27 c28 c29 c30 : Value) (s : ByteArray) (bx : Nat) (W : World) (cx : W.cell? ⟨bx, 0, none⟩ = some (.string s))
    (hQ : ∀ (u9 u10 : Value) (P : Nat) (w' : World), w'.heap[P]? = some (.cells #[.bool false, .bool false, .int .u8 0, .int .u8 0, .string ⟨#[]⟩, .int .u64 0, .int .u64 0, .int .u64 0, .int .u64 0, .int .u64 0, .int .u64 0, .int .u64 0, .int .u64 0, .int .u64 0, .int .u64 0, .int .u64 0, .int .u64 0, .int .u64 0, .slice none 0 0, .slice none 0 0, .int .u64 0, .string s] 138 (0, 0)) → W.heap.size ≤ P → Below W.heap.size W w' → Q .normal ⟨#[c0, .pointer (some ⟨bx, 0, none⟩), c2, c3, .pointer (some ⟨P, 0, none⟩), c5, c6, c7, c8, u9, u10, c11, c12, c13, c14, c15, c16, c17, c18, c19, c20, c21, c22, c23, c24, c25, c26, c27, c28, c29, c30], []⟩ w') :
    (Code.region 1 #[⟨some 9, .load 9 (.tmp 1), 9, "parse.go:26", #[], none⟩, ⟨some 10, .build 138 #[(1, .tmp 9)], 138, "parse.go:26", #[⟨0, .data⟩], none⟩, ⟨some 4, .alloc 138, 0, "parse.go:26", #[], none⟩, ⟨none, .store 138 (.tmp 4) (.tmp 10), 0, "parse.go:26", #[⟨2, .data⟩, ⟨1, .data⟩, ⟨0, .phase⟩, ⟨1, .phase⟩, ⟨2, .phase⟩], none⟩] false).wp Try.prog Q ⟨#[c0, .pointer (some ⟨bx, 0, none⟩), c2, c3, c4, c5, c6, c7, c8, c9, c10, c11, c12, c13, c14, c15, c16, c17, c18, c19, c20, c21, c22, c23, c24, c25, c26, c27, c28, c29, c30], []⟩ W := by
  try dsimp only at hQ ⊢
  have HQ := Lib.hid hQ; clear hQ
  refine wp_region_lit (l := _) ?_
  refine wpList_step (fun K hK => ?_)
  go_simp
  refine hK _ _ ?_
  clear hK K
  try simp only [Act.put, List.setIfInBounds_toArray, List.set_cons_zero, List.set_cons_succ]
  refine wpList_buildTo rfl 138 _ rfl _ rfl #[.bool false, .bool false, .int .u8 0, .int .u8 0, .string ⟨#[]⟩, .int .u64 0, .int .u64 0, .int .u64 0, .int .u64 0, .int .u64 0, .int .u64 0, .int .u64 0, .int .u64 0, .int .u64 0, .int .u64 0, .int .u64 0, .int .u64 0, .int .u64 0, .slice none 0 0, .slice none 0 0, .int .u64 0, .string s] (by kernel_rfl) ?_
  try simp only [Act.put, List.setIfInBounds_toArray, List.set_cons_zero, List.set_cons_succ]
  refine wpList_step (fun K hK => ?_)
  go_simp
  refine hK _ _ ?_
  clear hK K
  try simp only [Act.put, List.setIfInBounds_toArray, List.set_cons_zero, List.set_cons_succ]
  have hT := heap_alloc_new W (.cells #[.bool false, .bool false, .int .u8 0, .int .u8 0, .string ⟨#[]⟩, .int .u64 0, .int .u64 0, .int .u64 0, .int .u64 0, .int .u64 0, .int .u64 0, .int .u64 0, .int .u64 0, .int .u64 0, .int .u64 0, .int .u64 0, .int .u64 0, .int .u64 0, .slice none 0 0, .slice none 0 0, .int .u64 0, .string ⟨#[]⟩] 138)
  have hB := below_more (Below.refl W.heap.size W) (.cells #[.bool false, .bool false, .int .u8 0, .int .u8 0, .string ⟨#[]⟩, .int .u64 0, .int .u64 0, .int .u64 0, .int .u64 0, .int .u64 0, .int .u64 0, .int .u64 0, .int .u64 0, .int .u64 0, .int .u64 0, .int .u64 0, .int .u64 0, .int .u64 0, .slice none 0 0, .slice none 0 0, .int .u64 0, .string ⟨#[]⟩] 138)
  refine wpList_store_rowTo rfl 138 _ _ rfl rfl W.heap.size #[.bool false, .bool false, .int .u8 0, .int .u8 0, .string ⟨#[]⟩, .int .u64 0, .int .u64 0, .int .u64 0, .int .u64 0, .int .u64 0, .int .u64 0, .int .u64 0, .int .u64 0, .int .u64 0, .int .u64 0, .int .u64 0, .int .u64 0, .int .u64 0, .slice none 0 0, .slice none 0 0, .int .u64 0, .string s] (by rfl) (by rfl) 138 #[.bool false, .bool false, .int .u8 0, .int .u8 0, .string ⟨#[]⟩, .int .u64 0, .int .u64 0, .int .u64 0, .int .u64 0, .int .u64 0, .int .u64 0, .int .u64 0, .int .u64 0, .int .u64 0, .int .u64 0, .int .u64 0, .int .u64 0, .int .u64 0, .slice none 0 0, .slice none 0 0, .int .u64 0, .string ⟨#[]⟩] hT (by kernel_rfl) rfl (by simp [Value.oneCell']) ?_
  refine wpList_nil ?_
  exact HQ.out _ _ _ _ (setRow_heap' _ _ _ _ _ _ hT) (Nat.le_refl _) (setRow_below hB (Nat.le_refl _) _)
set_option maxRecDepth 1000000 in
set_option maxHeartbeats 2000000 in
theorem qreg8 (Q : Exit → Act → World → Prop) (c0 c1 c3 c4 c5 c6 c7 c9 c10 c11 c12 c13 c14 c15 c16 c17 c18 c19 c20 c21 c22 c23 c24 c25 c26 c27 c28 c29 c30 : Value) (T : Nat) (k : Int) (W : World) (hT : W.heap[T]? = some (.cells #[.bool false, .bool false, .int .u8 0, .int .u8 0, .string ⟨#[]⟩, .int .u64 0, .int .u64 0, .int .u64 0, .int .u64 0, .int .u64 0, .int .u64 0, .int .u64 0, .int .u64 0, .int .u64 0, .int .u64 0, .int .u64 0, .int .u64 0, .int .u64 0, .slice none 0 0, .slice none 0 0, .int .u64 0] 42 (0, 0)))
    (hQ : ∀ (u26 u27 : Value) (w' : World), w'.heap[T]? = some (.cells #[.bool false, .bool false, .int .u8 0, .int .u8 0, .string ⟨#[]⟩, .int .u64 0, .int .u64 0, .int .u64 0, .int .u64 0, .int .u64 0, .int .u64 0, .int .u64 0, .int .u64 0, .int .u64 0, .int .u64 0, .int .u64 0, .int .u64 0, .int .u64 0, .slice none 0 0, .slice none 0 0, .int .u64 0] 42 (0, 0)) → Below T W w' → Q .normal ⟨#[c0, c1, .pointer (some ⟨T, 0, none⟩), .int .i64 k, c4, c5, c6, c7, .int .i64 k, c9, c10, c11, c12, c13, c14, c15, c16, c17, c18, c19, c20, c21, c22, c23, c24, c25, u26, u27, c28, c29, c30], []⟩ w') :
    (Code.region 8 #[⟨some 26, .build 42 #[], 42, "parse.go:42", #[], none⟩, ⟨some 27, .move (.tmp 8), 43, "parse.go:42", #[⟨2, .gcOnly .lateStores⟩], none⟩, ⟨none, .store 42 (.tmp 2) (.tmp 26), 0, "parse.go:42", #[⟨0, .data⟩, ⟨0, .phase⟩, ⟨1, .textOnly .lateStores⟩], none⟩, ⟨some 3, .assign (.tmp 27), 43, "parse.go:42", #[⟨1, .data⟩, ⟨2, .chain⟩, ⟨0, .phase⟩, ⟨1, .phase⟩, ⟨2, .phase⟩], none⟩] false).wp Try.prog Q ⟨#[c0, c1, .pointer (some ⟨T, 0, none⟩), c3, c4, c5, c6, c7, .int .i64 k, c9, c10, c11, c12, c13, c14, c15, c16, c17, c18, c19, c20, c21, c22, c23, c24, c25, c26, c27, c28, c29, c30], []⟩ W := by
  try dsimp only at hQ ⊢
  have HQ := Lib.hid hQ; clear hQ
  refine wp_region_lit (l := _) ?_
  refine wpList_buildTo rfl 42 _ rfl _ rfl #[.bool false, .bool false, .int .u8 0, .int .u8 0, .string ⟨#[]⟩, .int .u64 0, .int .u64 0, .int .u64 0, .int .u64 0, .int .u64 0, .int .u64 0, .int .u64 0, .int .u64 0, .int .u64 0, .int .u64 0, .int .u64 0, .int .u64 0, .int .u64 0, .slice none 0 0, .slice none 0 0, .int .u64 0] (by kernel_rfl) ?_
  try simp only [Act.put, List.setIfInBounds_toArray, List.set_cons_zero, List.set_cons_succ]
  refine wpList_step (fun K hK => ?_)
  go_simp
  refine hK _ _ ?_
  clear hK K
  try simp only [Act.put, List.setIfInBounds_toArray, List.set_cons_zero, List.set_cons_succ]
  refine wpList_store_rowTo rfl 42 _ _ rfl rfl T #[.bool false, .bool false, .int .u8 0, .int .u8 0, .string ⟨#[]⟩, .int .u64 0, .int .u64 0, .int .u64 0, .int .u64 0, .int .u64 0, .int .u64 0, .int .u64 0, .int .u64 0, .int .u64 0, .int .u64 0, .int .u64 0, .int .u64 0, .int .u64 0, .slice none 0 0, .slice none 0 0, .int .u64 0] (by rfl) (by rfl) 42 #[.bool false, .bool false, .int .u8 0, .int .u8 0, .string ⟨#[]⟩, .int .u64 0, .int .u64 0, .int .u64 0, .int .u64 0, .int .u64 0, .int .u64 0, .int .u64 0, .int .u64 0, .int .u64 0, .int .u64 0, .int .u64 0, .int .u64 0, .int .u64 0, .slice none 0 0, .slice none 0 0, .int .u64 0] hT (by kernel_rfl) rfl (by simp [Value.oneCell']) ?_
  refine wpList_step (fun K hK => ?_)
  go_simp
  refine hK _ _ ?_
  clear hK K
  try simp only [Act.put, List.setIfInBounds_toArray, List.set_cons_zero, List.set_cons_succ]
  refine wpList_nil ?_
  exact HQ.out _ _ _ (setRow_heap' _ _ _ _ _ _ hT) (setRow_below (Below.refl _ _) (Nat.le_refl _) _)
set_option maxRecDepth 1000000 in
set_option maxHeartbeats 2000000 in
theorem qreg10 (Q : Exit → Act → World → Prop) (c0 c1 c3 c5 c6 c7 c8 c9 c10 c11 c12 c13 c14 c15 c16 c17 c18 c19 c20 c21 c22 c23 c24 c25 c26 c27 c28 c29 c30 : Value) (T P : Nat) (big wide : Bool) (abi ver : Nat) (pad : ByteArray) (h0 h1 h2 h3 h4 h5 h6 h7 h8 h9 h10 h11 h12 : Nat) (As : Option Addr) (ns cs : Nat) (Ap : Option Addr) (np cp : Nat) (nm : Nat) (text : ByteArray) (W : World) (hT : W.heap[T]? = some (.cells #[.bool false, .bool false, .int .u8 0, .int .u8 0, .string ⟨#[]⟩, .int .u64 0, .int .u64 0, .int .u64 0, .int .u64 0, .int .u64 0, .int .u64 0, .int .u64 0, .int .u64 0, .int .u64 0, .int .u64 0, .int .u64 0, .int .u64 0, .int .u64 0, .slice none 0 0, .slice none 0 0, .int .u64 0] 42 (0, 0))) (hR : W.heap[P]? = some (.cells #[.bool big, .bool wide, .int .u8 (abi : Nat), .int .u8 (ver : Nat), .string pad, .int .u64 (h0 : Nat), .int .u64 (h1 : Nat), .int .u64 (h2 : Nat), .int .u64 (h3 : Nat), .int .u64 (h4 : Nat), .int .u64 (h5 : Nat), .int .u64 (h6 : Nat), .int .u64 (h7 : Nat), .int .u64 (h8 : Nat), .int .u64 (h9 : Nat), .int .u64 (h10 : Nat), .int .u64 (h11 : Nat), .int .u64 (h12 : Nat), .slice As ns cs, .slice Ap np cp, .int .u64 (nm : Nat), .string text] 138 (0, 0)))
    (hQ : ∀ (u29 u30 : Value) (w' : World), w'.heap[T]? = some (.cells #[.bool big, .bool wide, .int .u8 (abi : Nat), .int .u8 (ver : Nat), .string pad, .int .u64 (h0 : Nat), .int .u64 (h1 : Nat), .int .u64 (h2 : Nat), .int .u64 (h3 : Nat), .int .u64 (h4 : Nat), .int .u64 (h5 : Nat), .int .u64 (h6 : Nat), .int .u64 (h7 : Nat), .int .u64 (h8 : Nat), .int .u64 (h9 : Nat), .int .u64 (h10 : Nat), .int .u64 (h11 : Nat), .int .u64 (h12 : Nat), .slice As ns cs, .slice Ap np cp, .int .u64 (nm : Nat)] 42 (0, 0)) → OnlyAt T W w' → Q .normal ⟨#[c0, c1, .pointer (some ⟨T, 0, none⟩), .int .i64 0, .pointer (some ⟨P, 0, none⟩), c5, c6, c7, c8, c9, c10, c11, c12, c13, c14, c15, c16, c17, c18, c19, c20, c21, c22, c23, c24, c25, c26, c27, c28, u29, u30], []⟩ w') :
    (Code.region 10 #[⟨some 29, .fieldAddr 138 (.tmp 4) 0, 0, "parse.go:45", #[], none⟩, ⟨some 30, .load 42 (.tmp 29), 42, "parse.go:45", #[⟨0, .data⟩], none⟩, ⟨none, .store 42 (.tmp 2) (.tmp 30), 0, "parse.go:45", #[⟨1, .data⟩, ⟨0, .phase⟩, ⟨1, .phase⟩], none⟩, ⟨some 3, .assign (.const (.int .i64 0)), 43, "parse.go:45", #[⟨2, .chain⟩, ⟨0, .phase⟩, ⟨1, .phase⟩, ⟨2, .phase⟩], none⟩] false).wp Try.prog Q ⟨#[c0, c1, .pointer (some ⟨T, 0, none⟩), c3, .pointer (some ⟨P, 0, none⟩), c5, c6, c7, c8, c9, c10, c11, c12, c13, c14, c15, c16, c17, c18, c19, c20, c21, c22, c23, c24, c25, c26, c27, c28, c29, c30], []⟩ W := by
  try dsimp only at hQ ⊢
  have HQ := Lib.hid hQ; clear hQ
  refine wp_region_lit (l := _) ?_
  refine wpList_step (fun K hK => ?_)
  go_simp
  refine hK _ _ ?_
  clear hK K
  try simp only [Act.put, List.setIfInBounds_toArray, List.set_cons_zero, List.set_cons_succ]
  refine wpList_load_mid rfl 42 _ rfl P 0 (by rfl) [.bool big, .bool wide, .int .u8 (abi : Nat), .int .u8 (ver : Nat), .string pad, .int .u64 (h0 : Nat), .int .u64 (h1 : Nat), .int .u64 (h2 : Nat), .int .u64 (h3 : Nat), .int .u64 (h4 : Nat), .int .u64 (h5 : Nat), .int .u64 (h6 : Nat), .int .u64 (h7 : Nat), .int .u64 (h8 : Nat), .int .u64 (h9 : Nat), .int .u64 (h10 : Nat), .int .u64 (h11 : Nat), .int .u64 (h12 : Nat), .slice As ns cs, .slice Ap np cp, .int .u64 (nm : Nat)] _ (range_of hR (by rfl)) Try.underlying42 (by rfl) (by kernel_rfl) ?_
  try simp only [Act.put, List.setIfInBounds_toArray, List.set_cons_zero, List.set_cons_succ]
  refine wpList_store_rowTo rfl 42 _ _ rfl rfl T #[.bool big, .bool wide, .int .u8 (abi : Nat), .int .u8 (ver : Nat), .string pad, .int .u64 (h0 : Nat), .int .u64 (h1 : Nat), .int .u64 (h2 : Nat), .int .u64 (h3 : Nat), .int .u64 (h4 : Nat), .int .u64 (h5 : Nat), .int .u64 (h6 : Nat), .int .u64 (h7 : Nat), .int .u64 (h8 : Nat), .int .u64 (h9 : Nat), .int .u64 (h10 : Nat), .int .u64 (h11 : Nat), .int .u64 (h12 : Nat), .slice As ns cs, .slice Ap np cp, .int .u64 (nm : Nat)] (by rfl) (by rfl) 42 #[.bool false, .bool false, .int .u8 0, .int .u8 0, .string ⟨#[]⟩, .int .u64 0, .int .u64 0, .int .u64 0, .int .u64 0, .int .u64 0, .int .u64 0, .int .u64 0, .int .u64 0, .int .u64 0, .int .u64 0, .int .u64 0, .int .u64 0, .int .u64 0, .slice none 0 0, .slice none 0 0, .int .u64 0] hT (by kernel_rfl) rfl (by simp [Value.oneCell']) ?_
  refine wpList_step (fun K hK => ?_)
  go_simp
  refine hK _ _ ?_
  clear hK K
  try simp only [Act.put, List.setIfInBounds_toArray, List.set_cons_zero, List.set_cons_succ]
  refine wpList_nil ?_
  exact HQ.out _ _ _ (setRow_heap' _ _ _ _ _ _ hT) (only_setRow _ _ _)
set_option maxRecDepth 1000000 in
set_option maxHeartbeats 2000000 in
theorem qreg2 (Q : Exit → Act → World → Prop) (c0 c2 c3 c5 c6 c7 c8 c9 c10 c11 c12 c13 c14 c15 c16 c17 c18 c19 c20 c21 c22 c23 c24 c25 c26 c27 c28 c29 c30 : Value) (bx P : Nat) (W : World)
    (hQ : ∀ (u11 u12 u13 u14 u15 u16 u17 : Value) (F : Nat) (w' : World), w'.heap[F]? = some (.cells #[.func (.func 50) #[] #[.pointer (some ⟨bx, 0, none⟩)], .func (.func 51) #[.pointer (some ⟨P, 0, none⟩)] #[], .func (.func 52) #[.pointer (some ⟨P, 0, none⟩)] #[], .func (.func 53) #[.pointer (some ⟨P, 0, none⟩)] #[], .func (.func 54) #[.pointer (some ⟨P, 0, none⟩)] #[], .func (.func 55) #[.pointer (some ⟨P, 0, none⟩)] #[]] 140 (0, 0)) → W.heap.size ≤ F → Below W.heap.size W w' → Q .normal ⟨#[c0, .pointer (some ⟨bx, 0, none⟩), c2, c3, .pointer (some ⟨P, 0, none⟩), .pointer (some ⟨F, 0, none⟩), c6, c7, c8, c9, c10, u11, u12, u13, u14, u15, u16, u17, c18, c19, c20, c21, c22, c23, c24, c25, c26, c27, c28, c29, c30], []⟩ w') :
    (Code.region 2 #[⟨some 11, .makeFunc (Go.Fn.func 50) #[] #[.tmp 1], 139, "parse.go:27", #[], none⟩, ⟨some 12, .makeFunc (Go.Fn.func 51) #[.tmp 4] #[], 139, "parse.go:27", #[], none⟩, ⟨some 13, .makeFunc (Go.Fn.func 52) #[.tmp 4] #[], 139, "parse.go:27", #[], none⟩, ⟨some 14, .makeFunc (Go.Fn.func 53) #[.tmp 4] #[], 139, "parse.go:27", #[], none⟩, ⟨some 15, .makeFunc (Go.Fn.func 54) #[.tmp 4] #[], 139, "parse.go:27", #[], none⟩, ⟨some 16, .makeFunc (Go.Fn.func 55) #[.tmp 4] #[], 139, "parse.go:27", #[], none⟩, ⟨some 17, .build 140 #[(0, .tmp 11), (1, .tmp 12), (2, .tmp 13), (3, .tmp 14), (4, .tmp 15), (5, .tmp 16)], 140, "parse.go:27", #[⟨0, .data⟩, ⟨1, .data⟩, ⟨2, .data⟩, ⟨3, .data⟩, ⟨4, .data⟩, ⟨5, .data⟩], none⟩, ⟨some 5, .alloc 140, 0, "parse.go:27", #[], none⟩, ⟨none, .store 140 (.tmp 5) (.tmp 17), 0, "parse.go:27", #[⟨7, .data⟩, ⟨6, .data⟩, ⟨0, .phase⟩, ⟨1, .phase⟩, ⟨2, .phase⟩, ⟨3, .phase⟩, ⟨4, .phase⟩, ⟨5, .phase⟩, ⟨6, .phase⟩, ⟨7, .phase⟩], none⟩] false).wp Try.prog Q ⟨#[c0, .pointer (some ⟨bx, 0, none⟩), c2, c3, .pointer (some ⟨P, 0, none⟩), c5, c6, c7, c8, c9, c10, c11, c12, c13, c14, c15, c16, c17, c18, c19, c20, c21, c22, c23, c24, c25, c26, c27, c28, c29, c30], []⟩ W := by
  try dsimp only at hQ ⊢
  have HQ := Lib.hid hQ; clear hQ
  refine wp_region_lit (l := _) ?_
  refine wpList_step (fun K hK => ?_)
  go_simp
  refine hK _ _ ?_
  clear hK K
  try simp only [Act.put, List.setIfInBounds_toArray, List.set_cons_zero, List.set_cons_succ]
  refine wpList_step (fun K hK => ?_)
  go_simp
  refine hK _ _ ?_
  clear hK K
  try simp only [Act.put, List.setIfInBounds_toArray, List.set_cons_zero, List.set_cons_succ]
  refine wpList_step (fun K hK => ?_)
  go_simp
  refine hK _ _ ?_
  clear hK K
  try simp only [Act.put, List.setIfInBounds_toArray, List.set_cons_zero, List.set_cons_succ]
  refine wpList_step (fun K hK => ?_)
  go_simp
  refine hK _ _ ?_
  clear hK K
  try simp only [Act.put, List.setIfInBounds_toArray, List.set_cons_zero, List.set_cons_succ]
  refine wpList_step (fun K hK => ?_)
  go_simp
  refine hK _ _ ?_
  clear hK K
  try simp only [Act.put, List.setIfInBounds_toArray, List.set_cons_zero, List.set_cons_succ]
  refine wpList_step (fun K hK => ?_)
  go_simp
  refine hK _ _ ?_
  clear hK K
  try simp only [Act.put, List.setIfInBounds_toArray, List.set_cons_zero, List.set_cons_succ]
  refine wpList_buildTo rfl 140 _ rfl _ rfl #[.func (.func 50) #[] #[.pointer (some ⟨bx, 0, none⟩)], .func (.func 51) #[.pointer (some ⟨P, 0, none⟩)] #[], .func (.func 52) #[.pointer (some ⟨P, 0, none⟩)] #[], .func (.func 53) #[.pointer (some ⟨P, 0, none⟩)] #[], .func (.func 54) #[.pointer (some ⟨P, 0, none⟩)] #[], .func (.func 55) #[.pointer (some ⟨P, 0, none⟩)] #[]] (by kernel_rfl) ?_
  try simp only [Act.put, List.setIfInBounds_toArray, List.set_cons_zero, List.set_cons_succ]
  refine wpList_step (fun K hK => ?_)
  go_simp
  refine hK _ _ ?_
  clear hK K
  try simp only [Act.put, List.setIfInBounds_toArray, List.set_cons_zero, List.set_cons_succ]
  have hT := heap_alloc_new W (.cells #[.nilFunc, .nilFunc, .nilFunc, .nilFunc, .nilFunc, .nilFunc] 140)
  have hB := below_more (Below.refl W.heap.size W) (.cells #[.nilFunc, .nilFunc, .nilFunc, .nilFunc, .nilFunc, .nilFunc] 140)
  refine wpList_store_rowTo rfl 140 _ _ rfl rfl W.heap.size #[.func (.func 50) #[] #[.pointer (some ⟨bx, 0, none⟩)], .func (.func 51) #[.pointer (some ⟨P, 0, none⟩)] #[], .func (.func 52) #[.pointer (some ⟨P, 0, none⟩)] #[], .func (.func 53) #[.pointer (some ⟨P, 0, none⟩)] #[], .func (.func 54) #[.pointer (some ⟨P, 0, none⟩)] #[], .func (.func 55) #[.pointer (some ⟨P, 0, none⟩)] #[]] (by rfl) (by rfl) 140 #[.nilFunc, .nilFunc, .nilFunc, .nilFunc, .nilFunc, .nilFunc] hT (by kernel_rfl) rfl (by simp [Value.oneCell']) ?_
  refine wpList_nil ?_
  exact HQ.out _ _ _ _ _ _ _ _ _ (setRow_heap' _ _ _ _ _ _ hT) (Nat.le_refl _) (setRow_below hB (Nat.le_refl _) _)
set_option maxRecDepth 1000000 in
set_option maxHeartbeats 2000000 in
theorem qreg3 (Q : Exit → Act → World → Prop) (c0 c1 c2 c3 c4 c6 c7 c8 c9 c10 c11 c12 c13 c14 c15 c16 c17 c18 c19 c20 c21 c22 c23 c24 c25 c26 c27 c28 c29 c30 : Value) (bx P F : Nat) (W : World) (hF : W.heap[F]? = some (.cells #[.func (.func 50) #[] #[.pointer (some ⟨bx, 0, none⟩)], .func (.func 51) #[.pointer (some ⟨P, 0, none⟩)] #[], .func (.func 52) #[.pointer (some ⟨P, 0, none⟩)] #[], .func (.func 53) #[.pointer (some ⟨P, 0, none⟩)] #[], .func (.func 54) #[.pointer (some ⟨P, 0, none⟩)] #[], .func (.func 55) #[.pointer (some ⟨P, 0, none⟩)] #[]] 140 (0, 0)))
    (hQ : ∀ (w' : World), w' = W → Q .normal ⟨#[c0, c1, c2, c3, c4, .pointer (some ⟨F, 0, none⟩), c6, c7, c8, c9, c10, c11, c12, c13, c14, c15, c16, c17, .agg #[.func (.func 50) #[] #[.pointer (some ⟨bx, 0, none⟩)], .func (.func 51) #[.pointer (some ⟨P, 0, none⟩)] #[], .func (.func 52) #[.pointer (some ⟨P, 0, none⟩)] #[], .func (.func 53) #[.pointer (some ⟨P, 0, none⟩)] #[], .func (.func 54) #[.pointer (some ⟨P, 0, none⟩)] #[], .func (.func 55) #[.pointer (some ⟨P, 0, none⟩)] #[]], .int .i64 0, c20, c21, c22, c23, c24, c25, c26, c27, c28, c29, c30], []⟩ w') :
    (Code.region 3 #[⟨some 18, .load 140 (.tmp 5), 140, "parse.go:40", #[], none⟩, ⟨some 19, .move (.const (.int .i64 0)), 3, "parse.go:40", #[], none⟩] false).wp Try.prog Q ⟨#[c0, c1, c2, c3, c4, .pointer (some ⟨F, 0, none⟩), c6, c7, c8, c9, c10, c11, c12, c13, c14, c15, c16, c17, c18, c19, c20, c21, c22, c23, c24, c25, c26, c27, c28, c29, c30], []⟩ W := by
  try dsimp only at hQ ⊢
  have HQ := Lib.hid hQ; clear hQ
  refine wp_region_lit (l := _) ?_
  refine wpList_load_mid rfl 140 _ rfl F 0 (by rfl) [.func (.func 50) #[] #[.pointer (some ⟨bx, 0, none⟩)], .func (.func 51) #[.pointer (some ⟨P, 0, none⟩)] #[], .func (.func 52) #[.pointer (some ⟨P, 0, none⟩)] #[], .func (.func 53) #[.pointer (some ⟨P, 0, none⟩)] #[], .func (.func 54) #[.pointer (some ⟨P, 0, none⟩)] #[], .func (.func 55) #[.pointer (some ⟨P, 0, none⟩)] #[]] _ (range_of hF (by rfl)) Try.underlying140 (by rfl) (by kernel_rfl) ?_
  try simp only [Act.put, List.setIfInBounds_toArray, List.set_cons_zero, List.set_cons_succ]
  refine wpList_step (fun K hK => ?_)
  go_simp
  refine hK _ _ ?_
  clear hK K
  try simp only [Act.put, List.setIfInBounds_toArray, List.set_cons_zero, List.set_cons_succ]
  refine wpList_nil ?_
  exact HQ.out  _ rfl
theorem parse_res (tm : Array Value) (w : World) (T : Nat) (k : Int) (big wide : Bool) (abi ver : Nat) (pad : ByteArray) (h0 h1 h2 h3 h4 h5 h6 h7 h8 h9 h10 h11 h12 : Nat) (vs vp : Value) (nm : Nat) (ht2 : tm.getD 2 undef = .pointer (some ⟨T, 0, none⟩)) (ht3 : tm.getD 3 undef = .int .i64 k) (hT : w.heap[T]? = some (.cells #[.bool big, .bool wide, .int .u8 (abi : Nat), .int .u8 (ver : Nat), .string pad, .int .u64 (h0 : Nat), .int .u64 (h1 : Nat), .int .u64 (h2 : Nat), .int .u64 (h3 : Nat), .int .u64 (h4 : Nat), .int .u64 (h5 : Nat), .int .u64 (h6 : Nat), .int .u64 (h7 : Nat), .int .u64 (h8 : Nat), .int .u64 (h9 : Nat), .int .u64 (h10 : Nat), .int .u64 (h11 : Nat), .int .u64 (h12 : Nat), vs, vp, .int .u64 (nm : Nat)] 42 (0, 0))) :
    (results Try.f16 tm).run Try.prog w = .ok (.tuple #[.agg #[.bool big, .bool wide, .int .u8 (abi : Nat), .int .u8 (ver : Nat), .string pad, .int .u64 (h0 : Nat), .int .u64 (h1 : Nat), .int .u64 (h2 : Nat), .int .u64 (h3 : Nat), .int .u64 (h4 : Nat), .int .u64 (h5 : Nat), .int .u64 (h6 : Nat), .int .u64 (h7 : Nat), .int .u64 (h8 : Nat), .int .u64 (h9 : Nat), .int .u64 (h10 : Nat), .int .u64 (h11 : Nat), .int .u64 (h12 : Nat), vs, vp, .int .u64 (nm : Nat)], .int .i64 k]) w := by
  have hl : (loadVar 42 ⟨T, 0, none⟩).run Try.prog w = .ok (.agg #[.bool big, .bool wide, .int .u8 (abi : Nat), .int .u8 (ver : Nat), .string pad, .int .u64 (h0 : Nat), .int .u64 (h1 : Nat), .int .u64 (h2 : Nat), .int .u64 (h3 : Nat), .int .u64 (h4 : Nat), .int .u64 (h5 : Nat), .int .u64 (h6 : Nat), .int .u64 (h7 : Nat), .int .u64 (h8 : Nat), .int .u64 (h9 : Nat), .int .u64 (h10 : Nat), .int .u64 (h11 : Nat), .int .u64 (h12 : Nat), vs, vp, .int .u64 (nm : Nat)]) w := run_loadVar_mid w T 0 42 [.bool big, .bool wide, .int .u8 (abi : Nat), .int .u8 (ver : Nat), .string pad, .int .u64 (h0 : Nat), .int .u64 (h1 : Nat), .int .u64 (h2 : Nat), .int .u64 (h3 : Nat), .int .u64 (h4 : Nat), .int .u64 (h5 : Nat), .int .u64 (h6 : Nat), .int .u64 (h7 : Nat), .int .u64 (h8 : Nat), .int .u64 (h9 : Nat), .int .u64 (h10 : Nat), .int .u64 (h11 : Nat), .int .u64 (h12 : Nat), vs, vp, .int .u64 (nm : Nat)] _ (range_of hT (by rfl)) Try.underlying42 (by rfl) (by kernel_rfl)
  have ha : (asAddr (.pointer (some ⟨T, 0, none⟩))).run Try.prog w = .ok ⟨T, 0, none⟩ w := rfl
  rw [results_cell_tmp Try.results16, ht2, ht3, ha, Result.andThen_ok, hl, Result.andThen_ok]
end Go.Proofs.Ytedocnidgiglaaa
