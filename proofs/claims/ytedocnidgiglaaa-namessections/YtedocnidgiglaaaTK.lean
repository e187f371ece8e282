/- The regions of made of layer 12. Conditions: those written in each theorem. -/
import Derived.Test.YtedocnidgiglaaaTJ
namespace Go.Proofs.Ytedocnidgiglaaa
open Go.RowKit
set_option linter.unusedVariables false
set_option maxRecDepth 1000000 in
set_option maxHeartbeats 2000000 in
theorem mreg2 (Q : Exit → Act → World → Prop) (c0 c1 c2 c3 c4 c5 c6 c7 c8 c9 c10 c11 c12 c14 c15 c16 c17 c18 c19 c20 c21 c22 c23 c24 c25 c26 c27 c28 c29 c30 c31 c32 c33 c34 c35 c36 c37 c38 c39 c40 c41 c42 c43 c44 c45 c46 c47 c48 c49 c50 c51 c52 c53 c54 c55 c56 c57 c58 c59 c60 c61 c62 c63 c64 c65 c66 c67 c68 c69 c70 c71 c72 c73 c74 c75 c76 c77 c78 c79 c80 c81 c82 c83 c84 c85 c86 c87 c88 c89 c90 c91 c92 c93 c94 c95 c96 c97 c98 c99 c100 c101 c102 c103 c104 c105 c106 c107 c108 c109 c110 c111 c112 c113 c114 c115 c116 c117 c118 c119 c120 : Value) (big wide : Bool) (F eh ph sh : Nat) (W : World) (cF0 : W.cell? ⟨F, 0, none⟩ = some (.bool big)) (cF1 : W.cell? ⟨F, 1, none⟩ = some (.bool wide))
    (HC : Hid (∀ u, Calls Try.prog 45 #[.agg #[.bool big, .bool wide]] u fun e w' => e = .returned (.agg #[.int .u64 0, .int .u64 0, .int .u64 1, .int .u64 0, .int .u64 0, .int .u64 0, .int .u64 0, .int .u64 (eh : Nat), .int .u64 (ph : Nat), .int .u64 0, .int .u64 (sh : Nat), .int .u64 0, .int .u64 0]) ∧ Below u.heap.size u w'))
    (hQ : ∀ (u36 u37 : Value) (H : Nat) (w' : World), w'.heap[H]? = some (.cells #[.int .u64 0, .int .u64 0, .int .u64 1, .int .u64 0, .int .u64 0, .int .u64 0, .int .u64 0, .int .u64 (eh : Nat), .int .u64 (ph : Nat), .int .u64 0, .int .u64 (sh : Nat), .int .u64 0, .int .u64 0] 38 (0, 0)) → W.heap.size ≤ H → Below W.heap.size W w' → Q .normal ⟨#[c0, c1, c2, c3, c4, c5, c6, c7, c8, c9, c10, c11, c12, .pointer (some ⟨F, 0, none⟩), .pointer (some ⟨H, 0, none⟩), c15, c16, c17, c18, c19, c20, c21, c22, c23, c24, c25, c26, c27, c28, c29, c30, c31, c32, c33, c34, c35, u36, u37, c38, c39, c40, c41, c42, c43, c44, c45, c46, c47, c48, c49, c50, c51, c52, c53, c54, c55, c56, c57, c58, c59, c60, c61, c62, c63, c64, c65, c66, c67, c68, c69, c70, c71, c72, c73, c74, c75, c76, c77, c78, c79, c80, c81, c82, c83, c84, c85, c86, c87, c88, c89, c90, c91, c92, c93, c94, c95, c96, c97, c98, c99, c100, c101, c102, c103, c104, c105, c106, c107, c108, c109, c110, c111, c112, c113, c114, c115, c116, c117, c118, c119, c120], []⟩ w') :
    (Code.region 2 #[{ dst := some 36, op := Go.Op.load 34 (Go.Operand.tmp 13), type := 34, pos := "law.go:17", after := #[], guard := none }, { dst := some 37, op := Go.Op.call { callee := Go.Callee.value (Go.Operand.func 45), args := #[Go.Operand.tmp 36], argTypes := #[34] }, type := 38, pos := "law.go:17", after := #[{ on := 0, ground := Go.Ground.data }], guard := none }, { dst := some 14, op := Go.Op.alloc 38, type := 0, pos := "law.go:17", after := #[], guard := none }, { dst := none, op := Go.Op.store 38 (Go.Operand.tmp 14) (Go.Operand.tmp 37), type := 0, pos := "law.go:17", after := #[{ on := 2, ground := Go.Ground.data }, { on := 1, ground := Go.Ground.data }, { on := 1, ground := Go.Ground.chain }, { on := 0, ground := Go.Ground.phase }, { on := 1, ground := Go.Ground.phase }, { on := 2, ground := Go.Ground.phase }], guard := none }] false).wp Try.prog Q ⟨#[c0, c1, c2, c3, c4, c5, c6, c7, c8, c9, c10, c11, c12, .pointer (some ⟨F, 0, none⟩), c14, c15, c16, c17, c18, c19, c20, c21, c22, c23, c24, c25, c26, c27, c28, c29, c30, c31, c32, c33, c34, c35, c36, c37, c38, c39, c40, c41, c42, c43, c44, c45, c46, c47, c48, c49, c50, c51, c52, c53, c54, c55, c56, c57, c58, c59, c60, c61, c62, c63, c64, c65, c66, c67, c68, c69, c70, c71, c72, c73, c74, c75, c76, c77, c78, c79, c80, c81, c82, c83, c84, c85, c86, c87, c88, c89, c90, c91, c92, c93, c94, c95, c96, c97, c98, c99, c100, c101, c102, c103, c104, c105, c106, c107, c108, c109, c110, c111, c112, c113, c114, c115, c116, c117, c118, c119, c120], []⟩ W := by
  try dsimp only at hQ ⊢
  have HQ := Lib.hid hQ; clear hQ
  refine wp_region_lit (l := [{ dst := some 36, op := Go.Op.load 34 (Go.Operand.tmp 13), type := 34, pos := "law.go:17", after := #[], guard := none }, { dst := some 37, op := Go.Op.call { callee := Go.Callee.value (Go.Operand.func 45), args := #[Go.Operand.tmp 36], argTypes := #[34] }, type := 38, pos := "law.go:17", after := #[{ on := 0, ground := Go.Ground.data }], guard := none }, { dst := some 14, op := Go.Op.alloc 38, type := 0, pos := "law.go:17", after := #[], guard := none }, { dst := none, op := Go.Op.store 38 (Go.Operand.tmp 14) (Go.Operand.tmp 37), type := 0, pos := "law.go:17", after := #[{ on := 2, ground := Go.Ground.data }, { on := 1, ground := Go.Ground.data }, { on := 1, ground := Go.Ground.chain }, { on := 0, ground := Go.Ground.phase }, { on := 1, ground := Go.Ground.phase }, { on := 2, ground := Go.Ground.phase }], guard := none }]) ?_
  refine wpList_step (fun K hK => ?_)
  go_simp
  refine hK _ _ ?_
  clear hK K
  try simp only [Act.put, List.setIfInBounds_toArray, List.set_cons_zero, List.set_cons_succ]
  refine wpList_step (fun K hK => ?_)
  (first | go_at_call 45 | (go_simp; go_at_call 45))
  refine (HC.out _).mono ?_
  rintro e w4 ⟨rfl, b4⟩
  try go_simp
  refine hK _ _ ?_
  clear hK K
  try simp only [Act.put, List.setIfInBounds_toArray, List.set_cons_zero, List.set_cons_succ]
  clear cF0 cF1
  refine wpList_step (fun K hK => ?_)
  go_simp
  refine hK _ _ ?_
  clear hK K
  try simp only [Act.put, List.setIfInBounds_toArray, List.set_cons_zero, List.set_cons_succ]
  have hT := heap_alloc_new w4 (.cells #[.int .u64 0, .int .u64 0, .int .u64 0, .int .u64 0, .int .u64 0, .int .u64 0, .int .u64 0, .int .u64 0, .int .u64 0, .int .u64 0, .int .u64 0, .int .u64 0, .int .u64 0] 38)
  refine wpList_store_rowTo rfl 38 _ _ rfl rfl w4.heap.size #[.int .u64 0, .int .u64 0, .int .u64 1, .int .u64 0, .int .u64 0, .int .u64 0, .int .u64 0, .int .u64 (eh : Nat), .int .u64 (ph : Nat), .int .u64 0, .int .u64 (sh : Nat), .int .u64 0, .int .u64 0] (by rfl) (by rfl) 38 #[.int .u64 0, .int .u64 0, .int .u64 0, .int .u64 0, .int .u64 0, .int .u64 0, .int .u64 0, .int .u64 0, .int .u64 0, .int .u64 0, .int .u64 0, .int .u64 0, .int .u64 0] hT (by kernel_rfl) rfl (by simp [Value.oneCell']) ?_
  try simp only [Act.put, List.setIfInBounds_toArray, List.set_cons_zero, List.set_cons_succ]
  refine wpList_nil ?_
  exact HQ.out _ _ _ _ (setRow_heap' _ _ _ _ _ _ hT) b4.size (setRow_below (b4.alloc b4.size _) b4.size _)
set_option maxRecDepth 1000000 in
set_option maxHeartbeats 2000000 in
theorem mreg4 (Q : Exit → Act → World → Prop) (c0 c2 c5 c6 c7 c8 c9 c10 c11 c12 c13 c16 c17 c18 c19 c20 c21 c22 c23 c24 c25 c26 c27 c28 c29 c30 c31 c32 c33 c34 c35 c36 c37 c38 c39 c40 c41 c42 c43 c44 c45 c46 c47 c48 c49 c50 c51 c52 c53 c54 c55 c56 c57 c58 c59 c60 c61 c62 c63 c64 c65 c66 c67 c68 c69 c70 c71 c72 c73 c74 c75 c76 c77 c78 c79 c80 c81 c82 c83 c84 c85 c86 c87 c88 c89 c90 c91 c92 c93 c94 c95 c96 c97 c98 c99 c100 c101 c102 c103 c104 c105 c106 c107 c108 c109 c110 c111 c112 c113 c114 c115 c116 c117 c118 c119 c120 : Value) (H bg n cap ix eh ph sh so nn : Nat) (A : Option Addr) (tb : ByteArray) (W : World) (hH : W.heap[H]? = some (.cells #[.int .u64 0, .int .u64 0, .int .u64 1, .int .u64 0, .int .u64 0, .int .u64 0, .int .u64 0, .int .u64 (eh : Nat), .int .u64 (ph : Nat), .int .u64 0, .int .u64 (sh : Nat), .int .u64 0, .int .u64 0] 38 (0, 0))) (e0 : IntKind.u64.wrap (tb.size : Int) = (tb.size : Int)) (e1 : IntKind.u64.wrap ((bg : Int) + (tb.size : Int)) = (so : Int)) (e2 : IntKind.i64.wrap ((n : Int) + 2) = (nn : Int)) (e3 : IntKind.u64.wrap (nn : Int) = (nn : Int))
    (hQ : ∀ (u42 u43 u44 u45 u46 u47 u48 u49 u50 u51 u52 u53 u54 : Value) (w' : World), w'.heap[H]? = some (.cells #[.int .u64 0, .int .u64 0, .int .u64 1, .int .u64 0, .int .u64 0, .int .u64 (so : Nat), .int .u64 0, .int .u64 (eh : Nat), .int .u64 (ph : Nat), .int .u64 0, .int .u64 (sh : Nat), .int .u64 (nn : Nat), .int .u64 (ix : Nat)] 38 (0, 0)) → OnlyAt H W w' → Q .normal ⟨#[c0, .string tb, c2, .slice A n cap, .int .u64 (ix : Nat), c5, c6, c7, c8, c9, c10, c11, c12, c13, .pointer (some ⟨H, 0, none⟩), .int .u64 (bg : Nat), c16, c17, c18, c19, c20, c21, c22, c23, c24, c25, c26, c27, c28, c29, c30, c31, c32, c33, c34, c35, c36, c37, c38, c39, c40, c41, u42, u43, u44, u45, u46, u47, u48, u49, u50, u51, u52, u53, u54, c55, c56, c57, c58, c59, c60, c61, c62, c63, c64, c65, c66, c67, c68, c69, c70, c71, c72, c73, c74, c75, c76, c77, c78, c79, c80, c81, c82, c83, c84, c85, c86, c87, c88, c89, c90, c91, c92, c93, c94, c95, c96, c97, c98, c99, c100, c101, c102, c103, c104, c105, c106, c107, c108, c109, c110, c111, c112, c113, c114, c115, c116, c117, c118, c119, c120], []⟩ w') :
    (Code.region 4 #[{ dst := some 42, op := Go.Op.move (Go.Operand.tmp 15), type := 29, pos := "law.go:19", after := #[], guard := none }, { dst := some 43, op := Go.Op.move (Go.Operand.tmp 1), type := 9, pos := "law.go:19", after := #[], guard := none }, { dst := some 44, op := Go.Op.call { callee := Go.Callee.builtin Go.Builtin.len, args := #[Go.Operand.tmp 43], argTypes := #[9] }, type := 3, pos := "law.go:19", after := #[{ on := 1, ground := Go.Ground.data }], guard := none }, { dst := some 45, op := Go.Op.convert 3 29 (Go.Operand.tmp 44), type := 29, pos := "law.go:19", after := #[{ on := 2, ground := Go.Ground.data }], guard := none }, { dst := some 46, op := Go.Op.binOp Go.BinOp.add 29 (Go.Operand.tmp 42) (Go.Operand.tmp 45) 29, type := 29, pos := "law.go:19", after := #[{ on := 0, ground := Go.Ground.data }, { on := 3, ground := Go.Ground.data }], guard := none }, { dst := some 47, op := Go.Op.move (Go.Operand.tmp 3), type := 76, pos := "law.go:19", after := #[], guard := none }, { dst := some 48, op := Go.Op.call { callee := Go.Callee.builtin Go.Builtin.len, args := #[Go.Operand.tmp 47], argTypes := #[76] }, type := 3, pos := "law.go:19", after := #[{ on := 5, ground := Go.Ground.data }], guard := none }, { dst := some 49, op := Go.Op.binOp Go.BinOp.add 3 (Go.Operand.tmp 48) (Go.Operand.const (Go.Value.int Go.IntKind.i64 2)) 3, type := 3, pos := "law.go:19", after := #[{ on := 6, ground := Go.Ground.data }, { on := 11, ground := Go.Ground.gcOnly Go.Departure.lateStores }], guard := none }, { dst := some 50, op := Go.Op.convert 3 29 (Go.Operand.tmp 49), type := 29, pos := "law.go:19", after := #[{ on := 7, ground := Go.Ground.data }, { on := 11, ground := Go.Ground.gcOnly Go.Departure.lateStores }], guard := none }, { dst := some 51, op := Go.Op.move (Go.Operand.tmp 4), type := 29, pos := "law.go:19", after := #[{ on := 13, ground := Go.Ground.gcOnly Go.Departure.lateStores }], guard := none }, { dst := some 52, op := Go.Op.fieldAddr 38 (Go.Operand.tmp 14) 5, type := 0, pos := "law.go:19", after := #[{ on := 0, ground := Go.Ground.phase }, { on := 1, ground := Go.Ground.phase }, { on := 2, ground := Go.Ground.phase }, { on := 3, ground := Go.Ground.phase }, { on := 4, ground := Go.Ground.phase }, { on := 5, ground := Go.Ground.textOnly Go.Departure.lateStores }, { on := 6, ground := Go.Ground.textOnly Go.Departure.lateStoresUnsure }, { on := 7, ground := Go.Ground.textOnly Go.Departure.lateStores }, { on := 8, ground := Go.Ground.textOnly Go.Departure.lateStores }, { on := 9, ground := Go.Ground.textOnly Go.Departure.lateStores }], guard := none }, { dst := none, op := Go.Op.store 29 (Go.Operand.tmp 52) (Go.Operand.tmp 46), type := 0, pos := "law.go:19", after := #[{ on := 10, ground := Go.Ground.data }, { on := 4, ground := Go.Ground.data }, { on := 0, ground := Go.Ground.phase }, { on := 1, ground := Go.Ground.phase }, { on := 2, ground := Go.Ground.phase }, { on := 3, ground := Go.Ground.phase }, { on := 4, ground := Go.Ground.phase }, { on := 5, ground := Go.Ground.textOnly Go.Departure.lateStores }, { on := 6, ground := Go.Ground.textOnly Go.Departure.lateStoresUnsure }, { on := 7, ground := Go.Ground.textOnly Go.Departure.lateStores }, { on := 8, ground := Go.Ground.textOnly Go.Departure.lateStores }, { on := 9, ground := Go.Ground.textOnly Go.Departure.lateStores }], guard := none }, { dst := some 53, op := Go.Op.fieldAddr 38 (Go.Operand.tmp 14) 11, type := 0, pos := "law.go:19", after := #[{ on := 0, ground := Go.Ground.phase }, { on := 1, ground := Go.Ground.phase }, { on := 2, ground := Go.Ground.phase }, { on := 3, ground := Go.Ground.phase }, { on := 4, ground := Go.Ground.phase }, { on := 5, ground := Go.Ground.phase }, { on := 6, ground := Go.Ground.phase }, { on := 7, ground := Go.Ground.phase }, { on := 8, ground := Go.Ground.phase }, { on := 9, ground := Go.Ground.textOnly Go.Departure.lateStores }, { on := 10, ground := Go.Ground.phase }, { on := 11, ground := Go.Ground.phase }], guard := none }, { dst := none, op := Go.Op.store 29 (Go.Operand.tmp 53) (Go.Operand.tmp 50), type := 0, pos := "law.go:19", after := #[{ on := 12, ground := Go.Ground.data }, { on := 8, ground := Go.Ground.data }, { on := 11, ground := Go.Ground.chain }, { on := 0, ground := Go.Ground.phase }, { on := 1, ground := Go.Ground.phase }, { on := 2, ground := Go.Ground.phase }, { on := 3, ground := Go.Ground.phase }, { on := 4, ground := Go.Ground.phase }, { on := 5, ground := Go.Ground.phase }, { on := 6, ground := Go.Ground.phase }, { on := 7, ground := Go.Ground.phase }, { on := 8, ground := Go.Ground.phase }, { on := 9, ground := Go.Ground.textOnly Go.Departure.lateStores }, { on := 10, ground := Go.Ground.phase }, { on := 11, ground := Go.Ground.phase }], guard := none }, { dst := some 54, op := Go.Op.fieldAddr 38 (Go.Operand.tmp 14) 12, type := 0, pos := "law.go:19", after := #[{ on := 0, ground := Go.Ground.phase }, { on := 1, ground := Go.Ground.phase }, { on := 2, ground := Go.Ground.phase }, { on := 3, ground := Go.Ground.phase }, { on := 4, ground := Go.Ground.phase }, { on := 5, ground := Go.Ground.phase }, { on := 6, ground := Go.Ground.phase }, { on := 7, ground := Go.Ground.phase }, { on := 8, ground := Go.Ground.phase }, { on := 9, ground := Go.Ground.phase }, { on := 10, ground := Go.Ground.phase }, { on := 11, ground := Go.Ground.phase }, { on := 12, ground := Go.Ground.phase }, { on := 13, ground := Go.Ground.phase }], guard := none }, { dst := none, op := Go.Op.store 29 (Go.Operand.tmp 54) (Go.Operand.tmp 51), type := 0, pos := "law.go:19", after := #[{ on := 14, ground := Go.Ground.data }, { on := 9, ground := Go.Ground.data }, { on := 13, ground := Go.Ground.chain }, { on := 0, ground := Go.Ground.phase }, { on := 1, ground := Go.Ground.phase }, { on := 2, ground := Go.Ground.phase }, { on := 3, ground := Go.Ground.phase }, { on := 4, ground := Go.Ground.phase }, { on := 5, ground := Go.Ground.phase }, { on := 6, ground := Go.Ground.phase }, { on := 7, ground := Go.Ground.phase }, { on := 8, ground := Go.Ground.phase }, { on := 9, ground := Go.Ground.phase }, { on := 10, ground := Go.Ground.phase }, { on := 11, ground := Go.Ground.phase }, { on := 12, ground := Go.Ground.phase }, { on := 13, ground := Go.Ground.phase }], guard := none }] false).wp Try.prog Q ⟨#[c0, .string tb, c2, .slice A n cap, .int .u64 (ix : Nat), c5, c6, c7, c8, c9, c10, c11, c12, c13, .pointer (some ⟨H, 0, none⟩), .int .u64 (bg : Nat), c16, c17, c18, c19, c20, c21, c22, c23, c24, c25, c26, c27, c28, c29, c30, c31, c32, c33, c34, c35, c36, c37, c38, c39, c40, c41, c42, c43, c44, c45, c46, c47, c48, c49, c50, c51, c52, c53, c54, c55, c56, c57, c58, c59, c60, c61, c62, c63, c64, c65, c66, c67, c68, c69, c70, c71, c72, c73, c74, c75, c76, c77, c78, c79, c80, c81, c82, c83, c84, c85, c86, c87, c88, c89, c90, c91, c92, c93, c94, c95, c96, c97, c98, c99, c100, c101, c102, c103, c104, c105, c106, c107, c108, c109, c110, c111, c112, c113, c114, c115, c116, c117, c118, c119, c120], []⟩ W := by
  try dsimp only at hQ ⊢
  have HQ := Lib.hid hQ; clear hQ
  refine wp_region_lit (l := [{ dst := some 42, op := Go.Op.move (Go.Operand.tmp 15), type := 29, pos := "law.go:19", after := #[], guard := none }, { dst := some 43, op := Go.Op.move (Go.Operand.tmp 1), type := 9, pos := "law.go:19", after := #[], guard := none }, { dst := some 44, op := Go.Op.call { callee := Go.Callee.builtin Go.Builtin.len, args := #[Go.Operand.tmp 43], argTypes := #[9] }, type := 3, pos := "law.go:19", after := #[{ on := 1, ground := Go.Ground.data }], guard := none }, { dst := some 45, op := Go.Op.convert 3 29 (Go.Operand.tmp 44), type := 29, pos := "law.go:19", after := #[{ on := 2, ground := Go.Ground.data }], guard := none }, { dst := some 46, op := Go.Op.binOp Go.BinOp.add 29 (Go.Operand.tmp 42) (Go.Operand.tmp 45) 29, type := 29, pos := "law.go:19", after := #[{ on := 0, ground := Go.Ground.data }, { on := 3, ground := Go.Ground.data }], guard := none }, { dst := some 47, op := Go.Op.move (Go.Operand.tmp 3), type := 76, pos := "law.go:19", after := #[], guard := none }, { dst := some 48, op := Go.Op.call { callee := Go.Callee.builtin Go.Builtin.len, args := #[Go.Operand.tmp 47], argTypes := #[76] }, type := 3, pos := "law.go:19", after := #[{ on := 5, ground := Go.Ground.data }], guard := none }, { dst := some 49, op := Go.Op.binOp Go.BinOp.add 3 (Go.Operand.tmp 48) (Go.Operand.const (Go.Value.int Go.IntKind.i64 2)) 3, type := 3, pos := "law.go:19", after := #[{ on := 6, ground := Go.Ground.data }, { on := 11, ground := Go.Ground.gcOnly Go.Departure.lateStores }], guard := none }, { dst := some 50, op := Go.Op.convert 3 29 (Go.Operand.tmp 49), type := 29, pos := "law.go:19", after := #[{ on := 7, ground := Go.Ground.data }, { on := 11, ground := Go.Ground.gcOnly Go.Departure.lateStores }], guard := none }, { dst := some 51, op := Go.Op.move (Go.Operand.tmp 4), type := 29, pos := "law.go:19", after := #[{ on := 13, ground := Go.Ground.gcOnly Go.Departure.lateStores }], guard := none }, { dst := some 52, op := Go.Op.fieldAddr 38 (Go.Operand.tmp 14) 5, type := 0, pos := "law.go:19", after := #[{ on := 0, ground := Go.Ground.phase }, { on := 1, ground := Go.Ground.phase }, { on := 2, ground := Go.Ground.phase }, { on := 3, ground := Go.Ground.phase }, { on := 4, ground := Go.Ground.phase }, { on := 5, ground := Go.Ground.textOnly Go.Departure.lateStores }, { on := 6, ground := Go.Ground.textOnly Go.Departure.lateStoresUnsure }, { on := 7, ground := Go.Ground.textOnly Go.Departure.lateStores }, { on := 8, ground := Go.Ground.textOnly Go.Departure.lateStores }, { on := 9, ground := Go.Ground.textOnly Go.Departure.lateStores }], guard := none }, { dst := none, op := Go.Op.store 29 (Go.Operand.tmp 52) (Go.Operand.tmp 46), type := 0, pos := "law.go:19", after := #[{ on := 10, ground := Go.Ground.data }, { on := 4, ground := Go.Ground.data }, { on := 0, ground := Go.Ground.phase }, { on := 1, ground := Go.Ground.phase }, { on := 2, ground := Go.Ground.phase }, { on := 3, ground := Go.Ground.phase }, { on := 4, ground := Go.Ground.phase }, { on := 5, ground := Go.Ground.textOnly Go.Departure.lateStores }, { on := 6, ground := Go.Ground.textOnly Go.Departure.lateStoresUnsure }, { on := 7, ground := Go.Ground.textOnly Go.Departure.lateStores }, { on := 8, ground := Go.Ground.textOnly Go.Departure.lateStores }, { on := 9, ground := Go.Ground.textOnly Go.Departure.lateStores }], guard := none }, { dst := some 53, op := Go.Op.fieldAddr 38 (Go.Operand.tmp 14) 11, type := 0, pos := "law.go:19", after := #[{ on := 0, ground := Go.Ground.phase }, { on := 1, ground := Go.Ground.phase }, { on := 2, ground := Go.Ground.phase }, { on := 3, ground := Go.Ground.phase }, { on := 4, ground := Go.Ground.phase }, { on := 5, ground := Go.Ground.phase }, { on := 6, ground := Go.Ground.phase }, { on := 7, ground := Go.Ground.phase }, { on := 8, ground := Go.Ground.phase }, { on := 9, ground := Go.Ground.textOnly Go.Departure.lateStores }, { on := 10, ground := Go.Ground.phase }, { on := 11, ground := Go.Ground.phase }], guard := none }, { dst := none, op := Go.Op.store 29 (Go.Operand.tmp 53) (Go.Operand.tmp 50), type := 0, pos := "law.go:19", after := #[{ on := 12, ground := Go.Ground.data }, { on := 8, ground := Go.Ground.data }, { on := 11, ground := Go.Ground.chain }, { on := 0, ground := Go.Ground.phase }, { on := 1, ground := Go.Ground.phase }, { on := 2, ground := Go.Ground.phase }, { on := 3, ground := Go.Ground.phase }, { on := 4, ground := Go.Ground.phase }, { on := 5, ground := Go.Ground.phase }, { on := 6, ground := Go.Ground.phase }, { on := 7, ground := Go.Ground.phase }, { on := 8, ground := Go.Ground.phase }, { on := 9, ground := Go.Ground.textOnly Go.Departure.lateStores }, { on := 10, ground := Go.Ground.phase }, { on := 11, ground := Go.Ground.phase }], guard := none }, { dst := some 54, op := Go.Op.fieldAddr 38 (Go.Operand.tmp 14) 12, type := 0, pos := "law.go:19", after := #[{ on := 0, ground := Go.Ground.phase }, { on := 1, ground := Go.Ground.phase }, { on := 2, ground := Go.Ground.phase }, { on := 3, ground := Go.Ground.phase }, { on := 4, ground := Go.Ground.phase }, { on := 5, ground := Go.Ground.phase }, { on := 6, ground := Go.Ground.phase }, { on := 7, ground := Go.Ground.phase }, { on := 8, ground := Go.Ground.phase }, { on := 9, ground := Go.Ground.phase }, { on := 10, ground := Go.Ground.phase }, { on := 11, ground := Go.Ground.phase }, { on := 12, ground := Go.Ground.phase }, { on := 13, ground := Go.Ground.phase }], guard := none }, { dst := none, op := Go.Op.store 29 (Go.Operand.tmp 54) (Go.Operand.tmp 51), type := 0, pos := "law.go:19", after := #[{ on := 14, ground := Go.Ground.data }, { on := 9, ground := Go.Ground.data }, { on := 13, ground := Go.Ground.chain }, { on := 0, ground := Go.Ground.phase }, { on := 1, ground := Go.Ground.phase }, { on := 2, ground := Go.Ground.phase }, { on := 3, ground := Go.Ground.phase }, { on := 4, ground := Go.Ground.phase }, { on := 5, ground := Go.Ground.phase }, { on := 6, ground := Go.Ground.phase }, { on := 7, ground := Go.Ground.phase }, { on := 8, ground := Go.Ground.phase }, { on := 9, ground := Go.Ground.phase }, { on := 10, ground := Go.Ground.phase }, { on := 11, ground := Go.Ground.phase }, { on := 12, ground := Go.Ground.phase }, { on := 13, ground := Go.Ground.phase }], guard := none }]) ?_
  refine wpList_step (fun K hK => ?_)
  go_simp
  refine hK _ _ ?_
  clear hK K
  try simp only [Act.put, List.setIfInBounds_toArray, List.set_cons_zero, List.set_cons_succ]
  refine wpList_step (fun K hK => ?_)
  go_simp
  refine hK _ _ ?_
  clear hK K
  try simp only [Act.put, List.setIfInBounds_toArray, List.set_cons_zero, List.set_cons_succ]
  refine wpList_step (fun K hK => ?_)
  go_simp
  refine hK _ _ ?_
  clear hK K
  try simp only [Act.put, List.setIfInBounds_toArray, List.set_cons_zero, List.set_cons_succ]
  refine wpList_step (fun K hK => ?_)
  go_simp
  refine hK _ _ ?_
  clear hK K
  try simp only [Act.put, List.setIfInBounds_toArray, List.set_cons_zero, List.set_cons_succ]
  refine wpList_step (fun K hK => ?_)
  go_simp
  refine hK _ _ ?_
  clear hK K
  try simp only [Act.put, List.setIfInBounds_toArray, List.set_cons_zero, List.set_cons_succ]
  refine wpList_step (fun K hK => ?_)
  go_simp
  refine hK _ _ ?_
  clear hK K
  try simp only [Act.put, List.setIfInBounds_toArray, List.set_cons_zero, List.set_cons_succ]
  refine wpList_step (fun K hK => ?_)
  go_simp
  refine hK _ _ ?_
  clear hK K
  try simp only [Act.put, List.setIfInBounds_toArray, List.set_cons_zero, List.set_cons_succ]
  refine wpList_step (fun K hK => ?_)
  go_simp
  refine hK _ _ ?_
  clear hK K
  try simp only [Act.put, List.setIfInBounds_toArray, List.set_cons_zero, List.set_cons_succ]
  refine wpList_step (fun K hK => ?_)
  go_simp
  refine hK _ _ ?_
  clear hK K
  try simp only [Act.put, List.setIfInBounds_toArray, List.set_cons_zero, List.set_cons_succ]
  refine wpList_step (fun K hK => ?_)
  go_simp
  refine hK _ _ ?_
  clear hK K
  try simp only [Act.put, List.setIfInBounds_toArray, List.set_cons_zero, List.set_cons_succ]
  refine wpList_step (fun K hK => ?_)
  go_simp
  refine hK _ _ ?_
  clear hK K
  try simp only [Act.put, List.setIfInBounds_toArray, List.set_cons_zero, List.set_cons_succ]
  have cP : W.cell? ⟨H, 5, none⟩ = some (.int .u64 0) := by rw [Lib.cell_of_heap hH]; rfl
  have fP : W.frozen? ⟨H, 5, none⟩ = false := Lib.frozen_of_heap hH 5
  refine wpList_step (fun K hK => ?_)
  go_simp
  refine hK _ _ ?_
  clear hK K
  try simp only [Act.put, List.setIfInBounds_toArray, List.set_cons_zero, List.set_cons_succ]
  have hH1 : (W.setCell ⟨H, 5, none⟩ (.int .u64 (so : Nat))).heap[H]? = some (.cells #[.int .u64 0, .int .u64 0, .int .u64 1, .int .u64 0, .int .u64 0, .int .u64 (so : Nat), .int .u64 0, .int .u64 (eh : Nat), .int .u64 (ph : Nat), .int .u64 0, .int .u64 (sh : Nat), .int .u64 0, .int .u64 0] 38 (0, 0)) := by have q := Lib.heap_setCell_same (i := 5) hH (.int .u64 (so : Nat)); simpa using q
  have OhH1 := OnlyAt.setCell H 5 W (.int .u64 (so : Nat))
  generalize W.setCell ⟨H, 5, none⟩ (.int .u64 (so : Nat)) = W1 at *
  clear cP fP
  refine wpList_step (fun K hK => ?_)
  go_simp
  refine hK _ _ ?_
  clear hK K
  try simp only [Act.put, List.setIfInBounds_toArray, List.set_cons_zero, List.set_cons_succ]
  have cP : W1.cell? ⟨H, 11, none⟩ = some (.int .u64 0) := by rw [Lib.cell_of_heap hH1]; rfl
  have fP : W1.frozen? ⟨H, 11, none⟩ = false := Lib.frozen_of_heap hH1 11
  refine wpList_step (fun K hK => ?_)
  go_simp
  refine hK _ _ ?_
  clear hK K
  try simp only [Act.put, List.setIfInBounds_toArray, List.set_cons_zero, List.set_cons_succ]
  have hH2 : (W1.setCell ⟨H, 11, none⟩ (.int .u64 (nn : Nat))).heap[H]? = some (.cells #[.int .u64 0, .int .u64 0, .int .u64 1, .int .u64 0, .int .u64 0, .int .u64 (so : Nat), .int .u64 0, .int .u64 (eh : Nat), .int .u64 (ph : Nat), .int .u64 0, .int .u64 (sh : Nat), .int .u64 (nn : Nat), .int .u64 0] 38 (0, 0)) := by have q := Lib.heap_setCell_same (i := 11) hH1 (.int .u64 (nn : Nat)); simpa using q
  have OhH2 := OnlyAt.setCell H 11 W1 (.int .u64 (nn : Nat))
  generalize W1.setCell ⟨H, 11, none⟩ (.int .u64 (nn : Nat)) = W2 at *
  clear cP fP
  refine wpList_step (fun K hK => ?_)
  go_simp
  refine hK _ _ ?_
  clear hK K
  try simp only [Act.put, List.setIfInBounds_toArray, List.set_cons_zero, List.set_cons_succ]
  have cP : W2.cell? ⟨H, 12, none⟩ = some (.int .u64 0) := by rw [Lib.cell_of_heap hH2]; rfl
  have fP : W2.frozen? ⟨H, 12, none⟩ = false := Lib.frozen_of_heap hH2 12
  refine wpList_step (fun K hK => ?_)
  go_simp
  refine hK _ _ ?_
  clear hK K
  try simp only [Act.put, List.setIfInBounds_toArray, List.set_cons_zero, List.set_cons_succ]
  have hH3 : (W2.setCell ⟨H, 12, none⟩ (.int .u64 (ix : Nat))).heap[H]? = some (.cells #[.int .u64 0, .int .u64 0, .int .u64 1, .int .u64 0, .int .u64 0, .int .u64 (so : Nat), .int .u64 0, .int .u64 (eh : Nat), .int .u64 (ph : Nat), .int .u64 0, .int .u64 (sh : Nat), .int .u64 (nn : Nat), .int .u64 (ix : Nat)] 38 (0, 0)) := by have q := Lib.heap_setCell_same (i := 12) hH2 (.int .u64 (ix : Nat)); simpa using q
  have OhH3 := OnlyAt.setCell H 12 W2 (.int .u64 (ix : Nat))
  generalize W2.setCell ⟨H, 12, none⟩ (.int .u64 (ix : Nat)) = W3 at *
  clear cP fP
  refine wpList_nil ?_
  exact HQ.out _ _ _ _ _ _ _ _ _ _ _ _ _ _ hH3 ((OhH1.trans OhH2).trans OhH3)
set_option maxRecDepth 1000000 in
set_option maxHeartbeats 2000000 in
theorem mreg5 (Q : Exit → Act → World → Prop) (c0 c1 c2 c3 c4 c5 c6 c7 c8 c9 c10 c11 c12 c14 c15 c16 c17 c18 c19 c20 c21 c22 c23 c24 c25 c26 c27 c28 c29 c30 c31 c32 c33 c34 c35 c36 c37 c38 c39 c40 c41 c42 c43 c44 c45 c46 c47 c48 c49 c50 c51 c52 c53 c54 c55 c56 c57 c58 c59 c60 c61 c62 c63 c64 c65 c66 c67 c68 c69 c70 c71 c72 c73 c74 c75 c76 c77 c78 c79 c80 c81 c82 c83 c84 c85 c86 c87 c88 c89 c90 c91 c92 c93 c94 c95 c96 c97 c98 c99 c100 c101 c102 c103 c104 c105 c106 c107 c108 c109 c110 c111 c112 c113 c114 c115 c116 c117 c118 c119 c120 : Value) (big wide : Bool) (F : Nat) (S : ByteArray) (ok : Bool) (W : World) (cF0 : W.cell? ⟨F, 0, none⟩ = some (.bool big)) (cF1 : W.cell? ⟨F, 1, none⟩ = some (.bool wide))
    (HC : Hid (∀ u, Calls Try.prog 47 #[.agg #[.bool big, .bool wide], .agg #[.int .u64 0, .int .u64 0, .int .u64 0, .int .u64 0, .int .u64 0, .int .u64 0, .int .u64 0, .int .u64 0, .int .u64 0, .int .u64 0]] u fun e w' => e = .returned (.tuple #[.string S, .bool ok]) ∧ Below u.heap.size u w'))
    (hQ : ∀ (u55 u56 u57 u58 u59 u60 : Value) (w' : World), Below W.heap.size W w' → Q .normal ⟨#[c0, c1, c2, c3, c4, c5, c6, c7, c8, c9, c10, c11, c12, .pointer (some ⟨F, 0, none⟩), c14, c15, .string S, .bool ok, c18, c19, c20, c21, c22, c23, c24, c25, c26, c27, c28, c29, c30, c31, c32, c33, c34, c35, c36, c37, c38, c39, c40, c41, c42, c43, c44, c45, c46, c47, c48, c49, c50, c51, c52, c53, c54, u55, u56, u57, u58, u59, u60, c61, c62, c63, c64, c65, c66, c67, c68, c69, c70, c71, c72, c73, c74, c75, c76, c77, c78, c79, c80, c81, c82, c83, c84, c85, c86, c87, c88, c89, c90, c91, c92, c93, c94, c95, c96, c97, c98, c99, c100, c101, c102, c103, c104, c105, c106, c107, c108, c109, c110, c111, c112, c113, c114, c115, c116, c117, c118, c119, c120], []⟩ w') :
    (Code.region 5 #[{ dst := some 56, op := Go.Op.load 34 (Go.Operand.tmp 13), type := 34, pos := "law.go:20", after := #[], guard := none }, { dst := some 57, op := Go.Op.build 52 #[], type := 52, pos := "law.go:20", after := #[], guard := none }, { dst := some 58, op := Go.Op.call { callee := Go.Callee.value (Go.Operand.func 47), args := #[Go.Operand.tmp 56, Go.Operand.tmp 57], argTypes := #[34, 52] }, type := 133, pos := "law.go:20", after := #[{ on := 0, ground := Go.Ground.data }, { on := 1, ground := Go.Ground.data }], guard := none }, { dst := some 55, op := Go.Op.move (Go.Operand.tmp 58), type := 133, pos := "law.go:20", after := #[{ on := 2, ground := Go.Ground.data }], guard := none }, { dst := some 59, op := Go.Op.extract (Go.Operand.tmp 55) 0, type := 9, pos := "law.go:20", after := #[{ on := 3, ground := Go.Ground.data }], guard := none }, { dst := some 60, op := Go.Op.extract (Go.Operand.tmp 55) 1, type := 4, pos := "law.go:20", after := #[{ on := 3, ground := Go.Ground.data }, { on := 6, ground := Go.Ground.gcOnly Go.Departure.lateStores }], guard := none }, { dst := some 16, op := Go.Op.assign (Go.Operand.tmp 59), type := 9, pos := "law.go:20", after := #[{ on := 4, ground := Go.Ground.data }, { on := 2, ground := Go.Ground.chain }, { on := 0, ground := Go.Ground.phase }, { on := 1, ground := Go.Ground.phase }, { on := 2, ground := Go.Ground.phase }, { on := 3, ground := Go.Ground.phase }, { on := 4, ground := Go.Ground.phase }, { on := 5, ground := Go.Ground.textOnly Go.Departure.lateStores }], guard := none }, { dst := some 17, op := Go.Op.assign (Go.Operand.tmp 60), type := 4, pos := "law.go:20", after := #[{ on := 5, ground := Go.Ground.data }, { on := 6, ground := Go.Ground.chain }, { on := 0, ground := Go.Ground.phase }, { on := 1, ground := Go.Ground.phase }, { on := 2, ground := Go.Ground.phase }, { on := 3, ground := Go.Ground.phase }, { on := 4, ground := Go.Ground.phase }, { on := 5, ground := Go.Ground.phase }, { on := 6, ground := Go.Ground.phase }], guard := none }] false).wp Try.prog Q ⟨#[c0, c1, c2, c3, c4, c5, c6, c7, c8, c9, c10, c11, c12, .pointer (some ⟨F, 0, none⟩), c14, c15, c16, c17, c18, c19, c20, c21, c22, c23, c24, c25, c26, c27, c28, c29, c30, c31, c32, c33, c34, c35, c36, c37, c38, c39, c40, c41, c42, c43, c44, c45, c46, c47, c48, c49, c50, c51, c52, c53, c54, c55, c56, c57, c58, c59, c60, c61, c62, c63, c64, c65, c66, c67, c68, c69, c70, c71, c72, c73, c74, c75, c76, c77, c78, c79, c80, c81, c82, c83, c84, c85, c86, c87, c88, c89, c90, c91, c92, c93, c94, c95, c96, c97, c98, c99, c100, c101, c102, c103, c104, c105, c106, c107, c108, c109, c110, c111, c112, c113, c114, c115, c116, c117, c118, c119, c120], []⟩ W := by
  try dsimp only at hQ ⊢
  have HQ := Lib.hid hQ; clear hQ
  refine wp_region_lit (l := [{ dst := some 56, op := Go.Op.load 34 (Go.Operand.tmp 13), type := 34, pos := "law.go:20", after := #[], guard := none }, { dst := some 57, op := Go.Op.build 52 #[], type := 52, pos := "law.go:20", after := #[], guard := none }, { dst := some 58, op := Go.Op.call { callee := Go.Callee.value (Go.Operand.func 47), args := #[Go.Operand.tmp 56, Go.Operand.tmp 57], argTypes := #[34, 52] }, type := 133, pos := "law.go:20", after := #[{ on := 0, ground := Go.Ground.data }, { on := 1, ground := Go.Ground.data }], guard := none }, { dst := some 55, op := Go.Op.move (Go.Operand.tmp 58), type := 133, pos := "law.go:20", after := #[{ on := 2, ground := Go.Ground.data }], guard := none }, { dst := some 59, op := Go.Op.extract (Go.Operand.tmp 55) 0, type := 9, pos := "law.go:20", after := #[{ on := 3, ground := Go.Ground.data }], guard := none }, { dst := some 60, op := Go.Op.extract (Go.Operand.tmp 55) 1, type := 4, pos := "law.go:20", after := #[{ on := 3, ground := Go.Ground.data }, { on := 6, ground := Go.Ground.gcOnly Go.Departure.lateStores }], guard := none }, { dst := some 16, op := Go.Op.assign (Go.Operand.tmp 59), type := 9, pos := "law.go:20", after := #[{ on := 4, ground := Go.Ground.data }, { on := 2, ground := Go.Ground.chain }, { on := 0, ground := Go.Ground.phase }, { on := 1, ground := Go.Ground.phase }, { on := 2, ground := Go.Ground.phase }, { on := 3, ground := Go.Ground.phase }, { on := 4, ground := Go.Ground.phase }, { on := 5, ground := Go.Ground.textOnly Go.Departure.lateStores }], guard := none }, { dst := some 17, op := Go.Op.assign (Go.Operand.tmp 60), type := 4, pos := "law.go:20", after := #[{ on := 5, ground := Go.Ground.data }, { on := 6, ground := Go.Ground.chain }, { on := 0, ground := Go.Ground.phase }, { on := 1, ground := Go.Ground.phase }, { on := 2, ground := Go.Ground.phase }, { on := 3, ground := Go.Ground.phase }, { on := 4, ground := Go.Ground.phase }, { on := 5, ground := Go.Ground.phase }, { on := 6, ground := Go.Ground.phase }], guard := none }]) ?_
  refine wpList_step (fun K hK => ?_)
  go_simp
  refine hK _ _ ?_
  clear hK K
  try simp only [Act.put, List.setIfInBounds_toArray, List.set_cons_zero, List.set_cons_succ]
  refine wpList_buildTo rfl 52 _ rfl _ rfl #[.int .u64 0, .int .u64 0, .int .u64 0, .int .u64 0, .int .u64 0, .int .u64 0, .int .u64 0, .int .u64 0, .int .u64 0, .int .u64 0] (by kernel_rfl) ?_
  try simp only [Act.put, List.setIfInBounds_toArray, List.set_cons_zero, List.set_cons_succ]
  refine wpList_step (fun K hK => ?_)
  (first | go_at_call 47 | (go_simp; go_at_call 47))
  refine (HC.out _).mono ?_
  rintro e w4 ⟨rfl, b4⟩
  try go_simp
  refine hK _ _ ?_
  clear hK K
  try simp only [Act.put, List.setIfInBounds_toArray, List.set_cons_zero, List.set_cons_succ]
  refine wpList_step (fun K hK => ?_)
  go_simp
  refine hK _ _ ?_
  clear hK K
  try simp only [Act.put, List.setIfInBounds_toArray, List.set_cons_zero, List.set_cons_succ]
  refine wpList_step (fun K hK => ?_)
  go_simp
  refine hK _ _ ?_
  clear hK K
  try simp only [Act.put, List.setIfInBounds_toArray, List.set_cons_zero, List.set_cons_succ]
  refine wpList_step (fun K hK => ?_)
  go_simp
  refine hK _ _ ?_
  clear hK K
  try simp only [Act.put, List.setIfInBounds_toArray, List.set_cons_zero, List.set_cons_succ]
  refine wpList_step (fun K hK => ?_)
  go_simp
  refine hK _ _ ?_
  clear hK K
  try simp only [Act.put, List.setIfInBounds_toArray, List.set_cons_zero, List.set_cons_succ]
  refine wpList_step (fun K hK => ?_)
  go_simp
  refine hK _ _ ?_
  clear hK K
  try simp only [Act.put, List.setIfInBounds_toArray, List.set_cons_zero, List.set_cons_succ]
  refine wpList_nil ?_
  exact HQ.out _ _ _ _ _ _ _ b4
set_option maxRecDepth 1000000 in
set_option maxHeartbeats 2000000 in
theorem mreg6 (Q : Exit → Act → World → Prop) (c0 c3 c4 c5 c6 c7 c8 c9 c10 c11 c12 c14 c16 c17 c18 c19 c20 c21 c22 c23 c24 c25 c26 c27 c28 c29 c30 c31 c32 c33 c34 c35 c36 c37 c38 c39 c40 c41 c42 c43 c44 c45 c46 c47 c48 c49 c50 c51 c52 c53 c54 c55 c56 c57 c58 c59 c60 c61 c62 c63 c64 c65 c66 c67 c68 c69 c70 c71 c72 c73 c74 c75 c76 c77 c78 c79 c80 c81 c82 c83 c84 c85 c86 c87 c88 c89 c90 c91 c92 c93 c94 c95 c96 c97 c98 c99 c100 c101 c102 c103 c104 c105 c106 c107 c108 c109 c110 c111 c112 c113 c114 c115 c116 c117 c118 c119 c120 : Value) (big wide : Bool) (F kd bg ts : Nat) (tb S : ByteArray) (ok : Bool) (W : World) (cF0 : W.cell? ⟨F, 0, none⟩ = some (.bool big)) (cF1 : W.cell? ⟨F, 1, none⟩ = some (.bool wide)) (e0 : IntKind.u64.wrap (tb.size : Int) = (ts : Int))
    (HC : Hid (∀ u, Calls Try.prog 47 #[.agg #[.bool big, .bool wide], .agg #[.int .u64 0, .int .u64 (kd : Nat), .int .u64 0, .int .u64 0, .int .u64 (bg : Nat), .int .u64 (ts : Nat), .int .u64 0, .int .u64 0, .int .u64 0, .int .u64 0]] u fun e w' => e = .returned (.tuple #[.string S, .bool ok]) ∧ Below u.heap.size u w'))
    (hQ : ∀ (u61 u62 u63 u64 u65 u66 u67 u68 u69 u70 u71 : Value) (w' : World), Below W.heap.size W w' → Q .normal ⟨#[c0, .string tb, .int .u64 (kd : Nat), c3, c4, c5, c6, c7, c8, c9, c10, c11, c12, .pointer (some ⟨F, 0, none⟩), c14, .int .u64 (bg : Nat), c16, c17, .string S, .bool ok, c20, c21, c22, c23, c24, c25, c26, c27, c28, c29, c30, c31, c32, c33, c34, c35, c36, c37, c38, c39, c40, c41, c42, c43, c44, c45, c46, c47, c48, c49, c50, c51, c52, c53, c54, c55, c56, c57, c58, c59, c60, u61, u62, u63, u64, u65, u66, u67, u68, u69, u70, u71, c72, c73, c74, c75, c76, c77, c78, c79, c80, c81, c82, c83, c84, c85, c86, c87, c88, c89, c90, c91, c92, c93, c94, c95, c96, c97, c98, c99, c100, c101, c102, c103, c104, c105, c106, c107, c108, c109, c110, c111, c112, c113, c114, c115, c116, c117, c118, c119, c120], []⟩ w') :
    (Code.region 6 #[{ dst := some 62, op := Go.Op.load 34 (Go.Operand.tmp 13), type := 34, pos := "law.go:21", after := #[], guard := none }, { dst := some 63, op := Go.Op.move (Go.Operand.tmp 2), type := 29, pos := "law.go:21", after := #[], guard := none }, { dst := some 64, op := Go.Op.move (Go.Operand.tmp 15), type := 29, pos := "law.go:21", after := #[], guard := none }, { dst := some 65, op := Go.Op.move (Go.Operand.tmp 1), type := 9, pos := "law.go:21", after := #[], guard := none }, { dst := some 66, op := Go.Op.call { callee := Go.Callee.builtin Go.Builtin.len, args := #[Go.Operand.tmp 65], argTypes := #[9] }, type := 3, pos := "law.go:21", after := #[{ on := 3, ground := Go.Ground.data }], guard := none }, { dst := some 67, op := Go.Op.convert 3 29 (Go.Operand.tmp 66), type := 29, pos := "law.go:21", after := #[{ on := 4, ground := Go.Ground.data }], guard := none }, { dst := some 68, op := Go.Op.build 52 #[(1, Go.Operand.tmp 63), (4, Go.Operand.tmp 64), (5, Go.Operand.tmp 67)], type := 52, pos := "law.go:21", after := #[{ on := 1, ground := Go.Ground.data }, { on := 2, ground := Go.Ground.data }, { on := 5, ground := Go.Ground.data }], guard := none }, { dst := some 69, op := Go.Op.call { callee := Go.Callee.value (Go.Operand.func 47), args := #[Go.Operand.tmp 62, Go.Operand.tmp 68], argTypes := #[34, 52] }, type := 133, pos := "law.go:21", after := #[{ on := 0, ground := Go.Ground.data }, { on := 6, ground := Go.Ground.data }], guard := none }, { dst := some 61, op := Go.Op.move (Go.Operand.tmp 69), type := 133, pos := "law.go:21", after := #[{ on := 7, ground := Go.Ground.data }], guard := none }, { dst := some 70, op := Go.Op.extract (Go.Operand.tmp 61) 0, type := 9, pos := "law.go:21", after := #[{ on := 8, ground := Go.Ground.data }], guard := none }, { dst := some 71, op := Go.Op.extract (Go.Operand.tmp 61) 1, type := 4, pos := "law.go:21", after := #[{ on := 8, ground := Go.Ground.data }, { on := 11, ground := Go.Ground.gcOnly Go.Departure.lateStores }], guard := none }, { dst := some 18, op := Go.Op.assign (Go.Operand.tmp 70), type := 9, pos := "law.go:21", after := #[{ on := 9, ground := Go.Ground.data }, { on := 7, ground := Go.Ground.chain }, { on := 0, ground := Go.Ground.phase }, { on := 1, ground := Go.Ground.phase }, { on := 2, ground := Go.Ground.phase }, { on := 3, ground := Go.Ground.phase }, { on := 4, ground := Go.Ground.phase }, { on := 5, ground := Go.Ground.phase }, { on := 6, ground := Go.Ground.phase }, { on := 7, ground := Go.Ground.phase }, { on := 8, ground := Go.Ground.phase }, { on := 9, ground := Go.Ground.phase }, { on := 10, ground := Go.Ground.textOnly Go.Departure.lateStores }], guard := none }, { dst := some 19, op := Go.Op.assign (Go.Operand.tmp 71), type := 4, pos := "law.go:21", after := #[{ on := 10, ground := Go.Ground.data }, { on := 11, ground := Go.Ground.chain }, { on := 0, ground := Go.Ground.phase }, { on := 1, ground := Go.Ground.phase }, { on := 2, ground := Go.Ground.phase }, { on := 3, ground := Go.Ground.phase }, { on := 4, ground := Go.Ground.phase }, { on := 5, ground := Go.Ground.phase }, { on := 6, ground := Go.Ground.phase }, { on := 7, ground := Go.Ground.phase }, { on := 8, ground := Go.Ground.phase }, { on := 9, ground := Go.Ground.phase }, { on := 10, ground := Go.Ground.phase }, { on := 11, ground := Go.Ground.phase }], guard := none }] false).wp Try.prog Q ⟨#[c0, .string tb, .int .u64 (kd : Nat), c3, c4, c5, c6, c7, c8, c9, c10, c11, c12, .pointer (some ⟨F, 0, none⟩), c14, .int .u64 (bg : Nat), c16, c17, c18, c19, c20, c21, c22, c23, c24, c25, c26, c27, c28, c29, c30, c31, c32, c33, c34, c35, c36, c37, c38, c39, c40, c41, c42, c43, c44, c45, c46, c47, c48, c49, c50, c51, c52, c53, c54, c55, c56, c57, c58, c59, c60, c61, c62, c63, c64, c65, c66, c67, c68, c69, c70, c71, c72, c73, c74, c75, c76, c77, c78, c79, c80, c81, c82, c83, c84, c85, c86, c87, c88, c89, c90, c91, c92, c93, c94, c95, c96, c97, c98, c99, c100, c101, c102, c103, c104, c105, c106, c107, c108, c109, c110, c111, c112, c113, c114, c115, c116, c117, c118, c119, c120], []⟩ W := by
  try dsimp only at hQ ⊢
  have HQ := Lib.hid hQ; clear hQ
  refine wp_region_lit (l := [{ dst := some 62, op := Go.Op.load 34 (Go.Operand.tmp 13), type := 34, pos := "law.go:21", after := #[], guard := none }, { dst := some 63, op := Go.Op.move (Go.Operand.tmp 2), type := 29, pos := "law.go:21", after := #[], guard := none }, { dst := some 64, op := Go.Op.move (Go.Operand.tmp 15), type := 29, pos := "law.go:21", after := #[], guard := none }, { dst := some 65, op := Go.Op.move (Go.Operand.tmp 1), type := 9, pos := "law.go:21", after := #[], guard := none }, { dst := some 66, op := Go.Op.call { callee := Go.Callee.builtin Go.Builtin.len, args := #[Go.Operand.tmp 65], argTypes := #[9] }, type := 3, pos := "law.go:21", after := #[{ on := 3, ground := Go.Ground.data }], guard := none }, { dst := some 67, op := Go.Op.convert 3 29 (Go.Operand.tmp 66), type := 29, pos := "law.go:21", after := #[{ on := 4, ground := Go.Ground.data }], guard := none }, { dst := some 68, op := Go.Op.build 52 #[(1, Go.Operand.tmp 63), (4, Go.Operand.tmp 64), (5, Go.Operand.tmp 67)], type := 52, pos := "law.go:21", after := #[{ on := 1, ground := Go.Ground.data }, { on := 2, ground := Go.Ground.data }, { on := 5, ground := Go.Ground.data }], guard := none }, { dst := some 69, op := Go.Op.call { callee := Go.Callee.value (Go.Operand.func 47), args := #[Go.Operand.tmp 62, Go.Operand.tmp 68], argTypes := #[34, 52] }, type := 133, pos := "law.go:21", after := #[{ on := 0, ground := Go.Ground.data }, { on := 6, ground := Go.Ground.data }], guard := none }, { dst := some 61, op := Go.Op.move (Go.Operand.tmp 69), type := 133, pos := "law.go:21", after := #[{ on := 7, ground := Go.Ground.data }], guard := none }, { dst := some 70, op := Go.Op.extract (Go.Operand.tmp 61) 0, type := 9, pos := "law.go:21", after := #[{ on := 8, ground := Go.Ground.data }], guard := none }, { dst := some 71, op := Go.Op.extract (Go.Operand.tmp 61) 1, type := 4, pos := "law.go:21", after := #[{ on := 8, ground := Go.Ground.data }, { on := 11, ground := Go.Ground.gcOnly Go.Departure.lateStores }], guard := none }, { dst := some 18, op := Go.Op.assign (Go.Operand.tmp 70), type := 9, pos := "law.go:21", after := #[{ on := 9, ground := Go.Ground.data }, { on := 7, ground := Go.Ground.chain }, { on := 0, ground := Go.Ground.phase }, { on := 1, ground := Go.Ground.phase }, { on := 2, ground := Go.Ground.phase }, { on := 3, ground := Go.Ground.phase }, { on := 4, ground := Go.Ground.phase }, { on := 5, ground := Go.Ground.phase }, { on := 6, ground := Go.Ground.phase }, { on := 7, ground := Go.Ground.phase }, { on := 8, ground := Go.Ground.phase }, { on := 9, ground := Go.Ground.phase }, { on := 10, ground := Go.Ground.textOnly Go.Departure.lateStores }], guard := none }, { dst := some 19, op := Go.Op.assign (Go.Operand.tmp 71), type := 4, pos := "law.go:21", after := #[{ on := 10, ground := Go.Ground.data }, { on := 11, ground := Go.Ground.chain }, { on := 0, ground := Go.Ground.phase }, { on := 1, ground := Go.Ground.phase }, { on := 2, ground := Go.Ground.phase }, { on := 3, ground := Go.Ground.phase }, { on := 4, ground := Go.Ground.phase }, { on := 5, ground := Go.Ground.phase }, { on := 6, ground := Go.Ground.phase }, { on := 7, ground := Go.Ground.phase }, { on := 8, ground := Go.Ground.phase }, { on := 9, ground := Go.Ground.phase }, { on := 10, ground := Go.Ground.phase }, { on := 11, ground := Go.Ground.phase }], guard := none }]) ?_
  refine wpList_step (fun K hK => ?_)
  go_simp
  refine hK _ _ ?_
  clear hK K
  try simp only [Act.put, List.setIfInBounds_toArray, List.set_cons_zero, List.set_cons_succ]
  refine wpList_step (fun K hK => ?_)
  go_simp
  refine hK _ _ ?_
  clear hK K
  try simp only [Act.put, List.setIfInBounds_toArray, List.set_cons_zero, List.set_cons_succ]
  refine wpList_step (fun K hK => ?_)
  go_simp
  refine hK _ _ ?_
  clear hK K
  try simp only [Act.put, List.setIfInBounds_toArray, List.set_cons_zero, List.set_cons_succ]
  refine wpList_step (fun K hK => ?_)
  go_simp
  refine hK _ _ ?_
  clear hK K
  try simp only [Act.put, List.setIfInBounds_toArray, List.set_cons_zero, List.set_cons_succ]
  refine wpList_step (fun K hK => ?_)
  go_simp
  refine hK _ _ ?_
  clear hK K
  try simp only [Act.put, List.setIfInBounds_toArray, List.set_cons_zero, List.set_cons_succ]
  refine wpList_step (fun K hK => ?_)
  go_simp
  refine hK _ _ ?_
  clear hK K
  try simp only [Act.put, List.setIfInBounds_toArray, List.set_cons_zero, List.set_cons_succ]
  refine wpList_buildTo rfl 52 _ rfl _ rfl #[.int .u64 0, .int .u64 (kd : Nat), .int .u64 0, .int .u64 0, .int .u64 (bg : Nat), .int .u64 (ts : Nat), .int .u64 0, .int .u64 0, .int .u64 0, .int .u64 0] (by kernel_rfl) ?_
  try simp only [Act.put, List.setIfInBounds_toArray, List.set_cons_zero, List.set_cons_succ]
  refine wpList_step (fun K hK => ?_)
  (first | go_at_call 47 | (go_simp; go_at_call 47))
  refine (HC.out _).mono ?_
  rintro e w4 ⟨rfl, b4⟩
  try go_simp
  refine hK _ _ ?_
  clear hK K
  try simp only [Act.put, List.setIfInBounds_toArray, List.set_cons_zero, List.set_cons_succ]
  refine wpList_step (fun K hK => ?_)
  go_simp
  refine hK _ _ ?_
  clear hK K
  try simp only [Act.put, List.setIfInBounds_toArray, List.set_cons_zero, List.set_cons_succ]
  refine wpList_step (fun K hK => ?_)
  go_simp
  refine hK _ _ ?_
  clear hK K
  try simp only [Act.put, List.setIfInBounds_toArray, List.set_cons_zero, List.set_cons_succ]
  refine wpList_step (fun K hK => ?_)
  go_simp
  refine hK _ _ ?_
  clear hK K
  try simp only [Act.put, List.setIfInBounds_toArray, List.set_cons_zero, List.set_cons_succ]
  refine wpList_step (fun K hK => ?_)
  go_simp
  refine hK _ _ ?_
  clear hK K
  try simp only [Act.put, List.setIfInBounds_toArray, List.set_cons_zero, List.set_cons_succ]
  refine wpList_step (fun K hK => ?_)
  go_simp
  refine hK _ _ ?_
  clear hK K
  try simp only [Act.put, List.setIfInBounds_toArray, List.set_cons_zero, List.set_cons_succ]
  refine wpList_nil ?_
  exact HQ.out _ _ _ _ _ _ _ _ _ _ _ _ b4
set_option maxRecDepth 1000000 in
set_option maxHeartbeats 4000000 in
theorem mreg11 (Q : Exit → Act → World → Prop) (c0 c1 c2 c4 c5 c6 c7 c8 c9 c10 c11 c12 c14 c15 c16 c17 c18 c19 c21 c22 c23 c24 c25 c26 c27 c28 c29 c30 c31 c32 c33 c34 c35 c36 c37 c38 c39 c40 c41 c42 c43 c44 c45 c46 c47 c48 c49 c50 c51 c52 c53 c54 c55 c56 c57 c58 c59 c60 c61 c62 c63 c64 c65 c66 c67 c68 c69 c70 c71 c72 c73 c74 c75 c76 c77 c78 c79 c80 c81 c82 c83 c84 c85 c86 c87 c88 c89 c90 c91 c92 c93 c94 c95 c96 c97 c98 c99 c100 c101 c102 c103 c104 c105 c106 c107 c108 c109 c110 c111 c112 c113 c114 c115 c116 c117 c118 c119 c120 : Value) (big wide : Bool) (F bb o n cap k m : Nat) (S : ByteArray) (ok : Bool) (W : World) (k0 : (0 : Int) ≤ (k : Int)) (k1 : (k : Int) < (n : Int)) (X0 : Hid (∀ u, Below W.heap.size W u → u.cell? ⟨F, 0, none⟩ = some (.bool big))) (X1 : Hid (∀ u, Below W.heap.size W u → u.cell? ⟨F, 1, none⟩ = some (.bool wide))) (X2 : Hid (∀ u, Below W.heap.size W u → u.cell? ⟨bb, o + k, none⟩ = some (.int .u64 (m : Nat))))
    (HC : Hid (∀ u, Calls Try.prog 47 #[.agg #[.bool big, .bool wide], .agg #[.int .u64 (m : Nat), .int .u64 8, .int .u64 0, .int .u64 0, .int .u64 0, .int .u64 0, .int .u64 0, .int .u64 0, .int .u64 0, .int .u64 0]] u fun e w' => e = .returned (.tuple #[.string S, .bool ok]) ∧ Below u.heap.size u w'))
    (hP : ∀ c a w i v, Q (.panic c) (a.put (some i) v) w → Q (.panic c) a w)
    (hQ : ∀ (u81 u82 u83 u84 u85 u86 u87 u88 u89 u90 : Value) (w' : World), Below W.heap.size W w' → Q .normal ⟨#[c0, c1, c2, .slice (some ⟨bb, o, none⟩) n cap, c4, c5, c6, c7, c8, c9, c10, c11, c12, .pointer (some ⟨F, 0, none⟩), c14, c15, c16, c17, c18, c19, .int .i64 (k : Nat), .string S, .bool ok, c23, c24, c25, c26, c27, c28, c29, c30, c31, c32, c33, c34, c35, c36, c37, c38, c39, c40, c41, c42, c43, c44, c45, c46, c47, c48, c49, c50, c51, c52, c53, c54, c55, c56, c57, c58, c59, c60, c61, c62, c63, c64, c65, c66, c67, c68, c69, c70, c71, c72, c73, c74, c75, c76, c77, c78, c79, c80, u81, u82, u83, u84, u85, u86, u87, u88, u89, u90, c91, c92, c93, c94, c95, c96, c97, c98, c99, c100, c101, c102, c103, c104, c105, c106, c107, c108, c109, c110, c111, c112, c113, c114, c115, c116, c117, c118, c119, c120], []⟩ w') :
    (Code.region 11 #[{ dst := some 82, op := Go.Op.load 34 (Go.Operand.tmp 13), type := 34, pos := "law.go:24", after := #[], guard := none }, { dst := some 83, op := Go.Op.move (Go.Operand.tmp 3), type := 76, pos := "law.go:24", after := #[], guard := none }, { dst := some 84, op := Go.Op.move (Go.Operand.tmp 20), type := 3, pos := "law.go:24", after := #[], guard := none }, { dst := some 85, op := Go.Op.indexAddr 76 (Go.Operand.tmp 83) (Go.Operand.tmp 84), type := 0, pos := "law.go:24", after := #[{ on := 1, ground := Go.Ground.data }, { on := 2, ground := Go.Ground.data }], guard := none }, { dst := some 86, op := Go.Op.load 29 (Go.Operand.tmp 85), type := 29, pos := "law.go:24", after := #[{ on := 3, ground := Go.Ground.data }], guard := none }, { dst := some 87, op := Go.Op.build 52 #[(0, Go.Operand.tmp 86), (1, Go.Operand.const (Go.Value.int Go.IntKind.u64 8))], type := 52, pos := "law.go:24", after := #[{ on := 4, ground := Go.Ground.data }], guard := none }, { dst := some 88, op := Go.Op.call { callee := Go.Callee.value (Go.Operand.func 47), args := #[Go.Operand.tmp 82, Go.Operand.tmp 87], argTypes := #[34, 52] }, type := 133, pos := "law.go:24", after := #[{ on := 0, ground := Go.Ground.data }, { on := 5, ground := Go.Ground.data }], guard := none }, { dst := some 81, op := Go.Op.move (Go.Operand.tmp 88), type := 133, pos := "law.go:24", after := #[{ on := 6, ground := Go.Ground.data }], guard := none }, { dst := some 89, op := Go.Op.extract (Go.Operand.tmp 81) 0, type := 9, pos := "law.go:24", after := #[{ on := 7, ground := Go.Ground.data }], guard := none }, { dst := some 90, op := Go.Op.extract (Go.Operand.tmp 81) 1, type := 4, pos := "law.go:24", after := #[{ on := 7, ground := Go.Ground.data }, { on := 10, ground := Go.Ground.gcOnly Go.Departure.lateStores }], guard := none }, { dst := some 21, op := Go.Op.assign (Go.Operand.tmp 89), type := 9, pos := "law.go:24", after := #[{ on := 8, ground := Go.Ground.data }, { on := 6, ground := Go.Ground.chain }, { on := 0, ground := Go.Ground.phase }, { on := 1, ground := Go.Ground.phase }, { on := 2, ground := Go.Ground.phase }, { on := 3, ground := Go.Ground.phase }, { on := 4, ground := Go.Ground.phase }, { on := 5, ground := Go.Ground.phase }, { on := 6, ground := Go.Ground.phase }, { on := 7, ground := Go.Ground.phase }, { on := 8, ground := Go.Ground.phase }, { on := 9, ground := Go.Ground.textOnly Go.Departure.lateStores }], guard := none }, { dst := some 22, op := Go.Op.assign (Go.Operand.tmp 90), type := 4, pos := "law.go:24", after := #[{ on := 9, ground := Go.Ground.data }, { on := 10, ground := Go.Ground.chain }, { on := 0, ground := Go.Ground.phase }, { on := 1, ground := Go.Ground.phase }, { on := 2, ground := Go.Ground.phase }, { on := 3, ground := Go.Ground.phase }, { on := 4, ground := Go.Ground.phase }, { on := 5, ground := Go.Ground.phase }, { on := 6, ground := Go.Ground.phase }, { on := 7, ground := Go.Ground.phase }, { on := 8, ground := Go.Ground.phase }, { on := 9, ground := Go.Ground.phase }, { on := 10, ground := Go.Ground.phase }], guard := none }] true).wp Try.prog Q ⟨#[c0, c1, c2, .slice (some ⟨bb, o, none⟩) n cap, c4, c5, c6, c7, c8, c9, c10, c11, c12, .pointer (some ⟨F, 0, none⟩), c14, c15, c16, c17, c18, c19, .int .i64 (k : Nat), c21, c22, c23, c24, c25, c26, c27, c28, c29, c30, c31, c32, c33, c34, c35, c36, c37, c38, c39, c40, c41, c42, c43, c44, c45, c46, c47, c48, c49, c50, c51, c52, c53, c54, c55, c56, c57, c58, c59, c60, c61, c62, c63, c64, c65, c66, c67, c68, c69, c70, c71, c72, c73, c74, c75, c76, c77, c78, c79, c80, c81, c82, c83, c84, c85, c86, c87, c88, c89, c90, c91, c92, c93, c94, c95, c96, c97, c98, c99, c100, c101, c102, c103, c104, c105, c106, c107, c108, c109, c110, c111, c112, c113, c114, c115, c116, c117, c118, c119, c120], []⟩ W := by
  try dsimp only at hQ ⊢
  have HQ := Lib.hid hQ; clear hQ
  refine wp_region_held_drew (S := fun w' => Below W.heap.size W w') (by kernel_rfl) ?_ (fun hHeld => ?_)
  · exact (Below.refl _ _).drew
  generalize W.drew = W0 at *
  refine wpAnyH_take (i := 0) (oi := { dst := some 82, op := Go.Op.load 34 (Go.Operand.tmp 13), type := 34, pos := "law.go:24", after := #[], guard := none }) (v := ?_) rfl (by kernel_rfl) (by kernel_rfl) (by kernel_rfl) (fun c a w h => hP c a w _ _ h) (Or.inl ⟨by rfl, ?_⟩) (by assumption) ?_
  rotate_left
  · (intro w hSw; have q0 := X0.out w hSw; have q1 := X1.out w hSw; (try dsimp only at hSw); go_simp <;> with_reducible rfl)
  try simp only [Act.put, List.setIfInBounds_toArray, List.set_cons_zero, List.set_cons_succ]
  refine wpAnyH_take (i := 1) (oi := { dst := some 83, op := Go.Op.move (Go.Operand.tmp 3), type := 76, pos := "law.go:24", after := #[], guard := none }) (v := ?_) rfl (by kernel_rfl) (by kernel_rfl) (by kernel_rfl) (fun c a w h => hP c a w _ _ h) (Or.inl ⟨by rfl, ?_⟩) (by assumption) ?_
  rotate_left
  · (intro w hSw; (try dsimp only at hSw); go_simp <;> with_reducible rfl)
  try simp only [Act.put, List.setIfInBounds_toArray, List.set_cons_zero, List.set_cons_succ]
  refine wpAnyH_take (i := 2) (oi := { dst := some 84, op := Go.Op.move (Go.Operand.tmp 20), type := 3, pos := "law.go:24", after := #[], guard := none }) (v := ?_) rfl (by kernel_rfl) (by kernel_rfl) (by kernel_rfl) (fun c a w h => hP c a w _ _ h) (Or.inl ⟨by rfl, ?_⟩) (by assumption) ?_
  rotate_left
  · (intro w hSw; (try dsimp only at hSw); go_simp <;> with_reducible rfl)
  try simp only [Act.put, List.setIfInBounds_toArray, List.set_cons_zero, List.set_cons_succ]
  refine wpAnyH_take (i := 3) (oi := { dst := some 85, op := Go.Op.indexAddr 76 (Go.Operand.tmp 83) (Go.Operand.tmp 84), type := 0, pos := "law.go:24", after := #[{ on := 1, ground := Go.Ground.data }, { on := 2, ground := Go.Ground.data }], guard := none }) (v := ?_) rfl (by kernel_rfl) (by kernel_rfl) (by kernel_rfl) (fun c a w h => hP c a w _ _ h) (Or.inl ⟨by rfl, ?_⟩) (by assumption) ?_
  rotate_left
  · (intro w hSw; (try dsimp only at hSw); go_simp <;> with_reducible rfl)
  try simp only [Act.put, List.setIfInBounds_toArray, List.set_cons_zero, List.set_cons_succ]
  refine wpAnyH_take (i := 4) (oi := { dst := some 86, op := Go.Op.load 29 (Go.Operand.tmp 85), type := 29, pos := "law.go:24", after := #[{ on := 3, ground := Go.Ground.data }], guard := none }) (v := ?_) rfl (by kernel_rfl) (by kernel_rfl) (by kernel_rfl) (fun c a w h => hP c a w _ _ h) (Or.inl ⟨by rfl, ?_⟩) (by assumption) ?_
  rotate_left
  · (intro w hSw; have q0 := X2.out w hSw; (try dsimp only at hSw); go_simp <;> with_reducible rfl)
  try simp only [Act.put, List.setIfInBounds_toArray, List.set_cons_zero, List.set_cons_succ]
  refine wpAnyH_take (i := 5) (oi := { dst := some 87, op := Go.Op.build 52 #[(0, Go.Operand.tmp 86), (1, Go.Operand.const (Go.Value.int Go.IntKind.u64 8))], type := 52, pos := "law.go:24", after := #[{ on := 4, ground := Go.Ground.data }], guard := none }) (v := ?_) rfl (by kernel_rfl) (by kernel_rfl) (by kernel_rfl) (fun c a w h => hP c a w _ _ h) (Or.inl ⟨by rfl, ?_⟩) (by assumption) ?_
  rotate_left
  · (intro w hSw; (try dsimp only at hSw); go_simp <;> with_reducible rfl)
  try simp only [Act.put, List.setIfInBounds_toArray, List.set_cons_zero, List.set_cons_succ]
  refine wpAnyH_ready (rs := [6]) (by kernel_rfl) (by simp) ?_
  refine AllReadyH.cons (o := { dst := some 88, op := Go.Op.call { callee := Go.Callee.value (Go.Operand.func 47), args := #[Go.Operand.tmp 82, Go.Operand.tmp 87], argTypes := #[34, 52] }, type := 133, pos := "law.go:24", after := #[{ on := 0, ground := Go.Ground.data }, { on := 5, ground := Go.Ground.data }], guard := none }) rfl (fun K hK => ?_) AllReadyH.nil
  (first | go_at_call 47 | (go_simp; go_at_call 47))
  refine (HC.out _).mono ?_
  rintro e w4 ⟨rfl, b4⟩
  try go_wp2_with fail
  refine hK.out _ _ ?_ (fun hHeld2 => ?_)
  · exact hHeld.trans (b4.mono hHeld.size)
  clear hK K
  try simp only [Act.put, List.setIfInBounds_toArray, List.set_cons_zero, List.set_cons_succ]
  refine wpAnyH_take (i := 7) (oi := { dst := some 81, op := Go.Op.move (Go.Operand.tmp 88), type := 133, pos := "law.go:24", after := #[{ on := 6, ground := Go.Ground.data }], guard := none }) (v := ?_) rfl (by kernel_rfl) (by kernel_rfl) (by kernel_rfl) (fun c a w h => hP c a w _ _ h) (Or.inl ⟨by rfl, ?_⟩) (by assumption) ?_
  rotate_left
  · (intro w hSw; (try dsimp only at hSw); go_simp <;> with_reducible rfl)
  try simp only [Act.put, List.setIfInBounds_toArray, List.set_cons_zero, List.set_cons_succ]
  refine wpAnyH_take (i := 8) (oi := { dst := some 89, op := Go.Op.extract (Go.Operand.tmp 81) 0, type := 9, pos := "law.go:24", after := #[{ on := 7, ground := Go.Ground.data }], guard := none }) (v := ?_) rfl (by kernel_rfl) (by kernel_rfl) (by kernel_rfl) (fun c a w h => hP c a w _ _ h) (Or.inl ⟨by rfl, ?_⟩) (by assumption) ?_
  rotate_left
  · (intro w hSw; (try dsimp only at hSw); go_simp <;> with_reducible rfl)
  try simp only [Act.put, List.setIfInBounds_toArray, List.set_cons_zero, List.set_cons_succ]
  refine wpAnyH_take (i := 9) (oi := { dst := some 90, op := Go.Op.extract (Go.Operand.tmp 81) 1, type := 4, pos := "law.go:24", after := #[{ on := 7, ground := Go.Ground.data }, { on := 10, ground := Go.Ground.gcOnly Go.Departure.lateStores }], guard := none }) (v := ?_) rfl (by kernel_rfl) (by kernel_rfl) (by kernel_rfl) (fun c a w h => hP c a w _ _ h) (Or.inl ⟨by rfl, ?_⟩) (by assumption) ?_
  rotate_left
  · (intro w hSw; (try dsimp only at hSw); go_simp <;> with_reducible rfl)
  try simp only [Act.put, List.setIfInBounds_toArray, List.set_cons_zero, List.set_cons_succ]
  refine wpAnyH_take (i := 10) (oi := { dst := some 21, op := Go.Op.assign (Go.Operand.tmp 89), type := 9, pos := "law.go:24", after := #[{ on := 8, ground := Go.Ground.data }, { on := 6, ground := Go.Ground.chain }, { on := 0, ground := Go.Ground.phase }, { on := 1, ground := Go.Ground.phase }, { on := 2, ground := Go.Ground.phase }, { on := 3, ground := Go.Ground.phase }, { on := 4, ground := Go.Ground.phase }, { on := 5, ground := Go.Ground.phase }, { on := 6, ground := Go.Ground.phase }, { on := 7, ground := Go.Ground.phase }, { on := 8, ground := Go.Ground.phase }, { on := 9, ground := Go.Ground.textOnly Go.Departure.lateStores }], guard := none }) (v := ?_) rfl (by kernel_rfl) (by kernel_rfl) (by kernel_rfl) (fun c a w h => hP c a w _ _ h) (Or.inl ⟨by rfl, ?_⟩) (by assumption) ?_
  rotate_left
  · (intro w hSw; (try dsimp only at hSw); go_simp <;> with_reducible rfl)
  try simp only [Act.put, List.setIfInBounds_toArray, List.set_cons_zero, List.set_cons_succ]
  refine wpAnyH_take (i := 11) (oi := { dst := some 22, op := Go.Op.assign (Go.Operand.tmp 90), type := 4, pos := "law.go:24", after := #[{ on := 9, ground := Go.Ground.data }, { on := 10, ground := Go.Ground.chain }, { on := 0, ground := Go.Ground.phase }, { on := 1, ground := Go.Ground.phase }, { on := 2, ground := Go.Ground.phase }, { on := 3, ground := Go.Ground.phase }, { on := 4, ground := Go.Ground.phase }, { on := 5, ground := Go.Ground.phase }, { on := 6, ground := Go.Ground.phase }, { on := 7, ground := Go.Ground.phase }, { on := 8, ground := Go.Ground.phase }, { on := 9, ground := Go.Ground.phase }, { on := 10, ground := Go.Ground.phase }], guard := none }) (v := ?_) rfl (by kernel_rfl) (by kernel_rfl) (by kernel_rfl) (fun c a w h => hP c a w _ _ h) (Or.inl ⟨by rfl, ?_⟩) (by assumption) ?_
  rotate_left
  · (intro w hSw; (try dsimp only at hSw); go_simp <;> with_reducible rfl)
  try simp only [Act.put, List.setIfInBounds_toArray, List.set_cons_zero, List.set_cons_succ]
  refine wpAnyH_done (by kernel_rfl) ?_ _
  exact HQ.out _ _ _ _ _ _ _ _ _ _ _ hHeld2
set_option maxRecDepth 1000000 in
set_option maxHeartbeats 2000000 in
theorem mreg13 (Q : Exit → Act → World → Prop) (c0 c1 c2 c3 c4 c5 c6 c7 c8 c9 c11 c12 c13 c14 c15 c16 c17 c18 c19 c20 c21 c22 c23 c24 c25 c26 c27 c28 c29 c30 c31 c32 c33 c34 c35 c36 c37 c38 c39 c40 c41 c42 c43 c44 c45 c46 c47 c48 c49 c50 c51 c52 c53 c54 c55 c56 c57 c58 c59 c60 c61 c62 c63 c64 c65 c66 c67 c68 c69 c70 c71 c72 c73 c74 c75 c76 c77 c78 c79 c80 c81 c82 c83 c84 c85 c86 c87 c88 c89 c90 c91 c92 c93 c94 c95 c96 c97 c98 c99 c100 c101 c102 c103 c104 c105 c106 c107 c108 c109 c110 c111 c112 c113 c114 c115 c116 c117 c118 c119 c120 : Value) (T : Nat) (W : World) (hT : W.heap[T]? = some (.cells #[.bool false, .bool false, .int .u8 0, .int .u8 0, .string ⟨#[]⟩, .int .u64 0, .int .u64 0, .int .u64 0, .int .u64 0, .int .u64 0, .int .u64 0, .int .u64 0, .int .u64 0, .int .u64 0, .int .u64 0, .int .u64 0, .int .u64 0, .int .u64 0, .slice none 0 0, .slice none 0 0, .int .u64 0] 42 (0, 0)))
    (hQ : ∀ (u93 : Value) (w' : World), w'.heap[T]? = some (.cells #[.bool false, .bool false, .int .u8 0, .int .u8 0, .string ⟨#[]⟩, .int .u64 0, .int .u64 0, .int .u64 0, .int .u64 0, .int .u64 0, .int .u64 0, .int .u64 0, .int .u64 0, .int .u64 0, .int .u64 0, .int .u64 0, .int .u64 0, .int .u64 0, .slice none 0 0, .slice none 0 0, .int .u64 0] 42 (0, 0)) → Below T W w' → Q .normal ⟨#[c0, c1, c2, c3, c4, c5, c6, c7, c8, c9, .pointer (some ⟨T, 0, none⟩), .string ⟨#[]⟩, .bool false, c13, c14, c15, c16, c17, c18, c19, c20, c21, c22, c23, c24, c25, c26, c27, c28, c29, c30, c31, c32, c33, c34, c35, c36, c37, c38, c39, c40, c41, c42, c43, c44, c45, c46, c47, c48, c49, c50, c51, c52, c53, c54, c55, c56, c57, c58, c59, c60, c61, c62, c63, c64, c65, c66, c67, c68, c69, c70, c71, c72, c73, c74, c75, c76, c77, c78, c79, c80, c81, c82, c83, c84, c85, c86, c87, c88, c89, c90, c91, c92, u93, c94, c95, c96, c97, c98, c99, c100, c101, c102, c103, c104, c105, c106, c107, c108, c109, c110, c111, c112, c113, c114, c115, c116, c117, c118, c119, c120], []⟩ w') :
    (Code.region 13 #[{ dst := some 93, op := Go.Op.build 42 #[], type := 42, pos := "law.go:26", after := #[], guard := none }, { dst := none, op := Go.Op.store 42 (Go.Operand.tmp 10) (Go.Operand.tmp 93), type := 0, pos := "law.go:26", after := #[{ on := 0, ground := Go.Ground.data }, { on := 0, ground := Go.Ground.phase }], guard := none }, { dst := some 11, op := Go.Op.assign (Go.Operand.const (Go.Value.string { data := #[] })), type := 9, pos := "law.go:26", after := #[{ on := 1, ground := Go.Ground.chain }, { on := 0, ground := Go.Ground.phase }, { on := 1, ground := Go.Ground.phase }], guard := none }, { dst := some 12, op := Go.Op.assign (Go.Operand.const (Go.Value.bool false)), type := 4, pos := "law.go:26", after := #[{ on := 2, ground := Go.Ground.chain }, { on := 0, ground := Go.Ground.phase }, { on := 1, ground := Go.Ground.phase }, { on := 2, ground := Go.Ground.phase }], guard := none }] false).wp Try.prog Q ⟨#[c0, c1, c2, c3, c4, c5, c6, c7, c8, c9, .pointer (some ⟨T, 0, none⟩), c11, c12, c13, c14, c15, c16, c17, c18, c19, c20, c21, c22, c23, c24, c25, c26, c27, c28, c29, c30, c31, c32, c33, c34, c35, c36, c37, c38, c39, c40, c41, c42, c43, c44, c45, c46, c47, c48, c49, c50, c51, c52, c53, c54, c55, c56, c57, c58, c59, c60, c61, c62, c63, c64, c65, c66, c67, c68, c69, c70, c71, c72, c73, c74, c75, c76, c77, c78, c79, c80, c81, c82, c83, c84, c85, c86, c87, c88, c89, c90, c91, c92, c93, c94, c95, c96, c97, c98, c99, c100, c101, c102, c103, c104, c105, c106, c107, c108, c109, c110, c111, c112, c113, c114, c115, c116, c117, c118, c119, c120], []⟩ W := by
  try dsimp only at hQ ⊢
  have HQ := Lib.hid hQ; clear hQ
  refine wp_region_lit (l := [{ dst := some 93, op := Go.Op.build 42 #[], type := 42, pos := "law.go:26", after := #[], guard := none }, { dst := none, op := Go.Op.store 42 (Go.Operand.tmp 10) (Go.Operand.tmp 93), type := 0, pos := "law.go:26", after := #[{ on := 0, ground := Go.Ground.data }, { on := 0, ground := Go.Ground.phase }], guard := none }, { dst := some 11, op := Go.Op.assign (Go.Operand.const (Go.Value.string { data := #[] })), type := 9, pos := "law.go:26", after := #[{ on := 1, ground := Go.Ground.chain }, { on := 0, ground := Go.Ground.phase }, { on := 1, ground := Go.Ground.phase }], guard := none }, { dst := some 12, op := Go.Op.assign (Go.Operand.const (Go.Value.bool false)), type := 4, pos := "law.go:26", after := #[{ on := 2, ground := Go.Ground.chain }, { on := 0, ground := Go.Ground.phase }, { on := 1, ground := Go.Ground.phase }, { on := 2, ground := Go.Ground.phase }], guard := none }]) ?_
  refine wpList_buildTo rfl 42 _ rfl _ rfl #[.bool false, .bool false, .int .u8 0, .int .u8 0, .string ⟨#[]⟩, .int .u64 0, .int .u64 0, .int .u64 0, .int .u64 0, .int .u64 0, .int .u64 0, .int .u64 0, .int .u64 0, .int .u64 0, .int .u64 0, .int .u64 0, .int .u64 0, .int .u64 0, .slice none 0 0, .slice none 0 0, .int .u64 0] (by kernel_rfl) ?_
  try simp only [Act.put, List.setIfInBounds_toArray, List.set_cons_zero, List.set_cons_succ]
  refine wpList_store_rowTo rfl 42 _ _ rfl rfl T #[.bool false, .bool false, .int .u8 0, .int .u8 0, .string ⟨#[]⟩, .int .u64 0, .int .u64 0, .int .u64 0, .int .u64 0, .int .u64 0, .int .u64 0, .int .u64 0, .int .u64 0, .int .u64 0, .int .u64 0, .int .u64 0, .int .u64 0, .int .u64 0, .slice none 0 0, .slice none 0 0, .int .u64 0] (by rfl) (by rfl) 42 #[.bool false, .bool false, .int .u8 0, .int .u8 0, .string ⟨#[]⟩, .int .u64 0, .int .u64 0, .int .u64 0, .int .u64 0, .int .u64 0, .int .u64 0, .int .u64 0, .int .u64 0, .int .u64 0, .int .u64 0, .int .u64 0, .int .u64 0, .int .u64 0, .slice none 0 0, .slice none 0 0, .int .u64 0] hT (by kernel_rfl) rfl (by simp [Value.oneCell']) ?_
  try simp only [Act.put, List.setIfInBounds_toArray, List.set_cons_zero, List.set_cons_succ]
  refine wpList_step (fun K hK => ?_)
  go_simp
  refine hK _ _ ?_
  clear hK K
  try simp only [Act.put, List.setIfInBounds_toArray, List.set_cons_zero, List.set_cons_succ]
  refine wpList_step (fun K hK => ?_)
  go_simp
  refine hK _ _ ?_
  clear hK K
  try simp only [Act.put, List.setIfInBounds_toArray, List.set_cons_zero, List.set_cons_succ]
  refine wpList_nil ?_
  exact HQ.out _ _ (setRow_heap' _ _ _ _ _ _ hT) (setRow_below (Below.refl _ _) (Nat.le_refl _) _)
set_option maxRecDepth 1000000 in
set_option maxHeartbeats 2000000 in
theorem mreg15 (Q : Exit → Act → World → Prop) (c0 c1 c2 c3 c4 c5 c6 c7 c8 c9 c10 c11 c12 c15 c16 c17 c18 c19 c20 c21 c22 c23 c24 c25 c26 c27 c28 c29 c30 c31 c32 c33 c34 c35 c36 c37 c38 c39 c40 c41 c42 c43 c44 c45 c46 c47 c48 c49 c50 c51 c52 c53 c54 c55 c56 c57 c58 c59 c60 c61 c62 c63 c64 c65 c66 c67 c68 c69 c70 c71 c72 c73 c74 c75 c76 c77 c78 c79 c80 c81 c82 c83 c84 c85 c86 c87 c88 c89 c90 c91 c92 c93 c94 c95 c96 c97 c98 c99 c100 c101 c102 c103 c104 c105 c106 c107 c108 c109 c110 c111 c112 c113 c114 c115 c116 c117 c118 c119 c120 : Value) (big wide : Bool) (F H eh ph sh so nn ix : Nat) (S : ByteArray) (ok : Bool) (W : World) (cF0 : W.cell? ⟨F, 0, none⟩ = some (.bool big)) (cF1 : W.cell? ⟨F, 1, none⟩ = some (.bool wide)) (hH : W.heap[H]? = some (.cells #[.int .u64 0, .int .u64 0, .int .u64 1, .int .u64 0, .int .u64 0, .int .u64 (so : Nat), .int .u64 0, .int .u64 (eh : Nat), .int .u64 (ph : Nat), .int .u64 0, .int .u64 (sh : Nat), .int .u64 (nn : Nat), .int .u64 (ix : Nat)] 38 (0, 0)))
    (HC : Hid (∀ u, Calls Try.prog 49 #[.agg #[.bool big, .bool wide], .agg #[.int .u64 0, .int .u64 0, .int .u64 1, .int .u64 0, .int .u64 0, .int .u64 (so : Nat), .int .u64 0, .int .u64 (eh : Nat), .int .u64 (ph : Nat), .int .u64 0, .int .u64 (sh : Nat), .int .u64 (nn : Nat), .int .u64 (ix : Nat)]] u fun e w' => e = .returned (.tuple #[.string S, .bool ok]) ∧ Below u.heap.size u w'))
    (hQ : ∀ (u97 u98 u99 u100 u101 u102 : Value) (w' : World), Below W.heap.size W w' → Q .normal ⟨#[c0, c1, c2, c3, c4, c5, c6, c7, c8, c9, c10, c11, c12, .pointer (some ⟨F, 0, none⟩), .pointer (some ⟨H, 0, none⟩), c15, c16, c17, c18, c19, c20, c21, c22, .string S, .bool ok, c25, c26, c27, c28, c29, c30, c31, c32, c33, c34, c35, c36, c37, c38, c39, c40, c41, c42, c43, c44, c45, c46, c47, c48, c49, c50, c51, c52, c53, c54, c55, c56, c57, c58, c59, c60, c61, c62, c63, c64, c65, c66, c67, c68, c69, c70, c71, c72, c73, c74, c75, c76, c77, c78, c79, c80, c81, c82, c83, c84, c85, c86, c87, c88, c89, c90, c91, c92, c93, c94, c95, c96, u97, u98, u99, u100, u101, u102, c103, c104, c105, c106, c107, c108, c109, c110, c111, c112, c113, c114, c115, c116, c117, c118, c119, c120], []⟩ w') :
    (Code.region 15 #[{ dst := some 98, op := Go.Op.load 34 (Go.Operand.tmp 13), type := 34, pos := "law.go:30", after := #[], guard := none }, { dst := some 99, op := Go.Op.load 38 (Go.Operand.tmp 14), type := 38, pos := "law.go:30", after := #[], guard := none }, { dst := some 100, op := Go.Op.call { callee := Go.Callee.value (Go.Operand.func 49), args := #[Go.Operand.tmp 98, Go.Operand.tmp 99], argTypes := #[34, 38] }, type := 133, pos := "law.go:30", after := #[{ on := 0, ground := Go.Ground.data }, { on := 1, ground := Go.Ground.data }], guard := none }, { dst := some 97, op := Go.Op.move (Go.Operand.tmp 100), type := 133, pos := "law.go:30", after := #[{ on := 2, ground := Go.Ground.data }], guard := none }, { dst := some 101, op := Go.Op.extract (Go.Operand.tmp 97) 0, type := 9, pos := "law.go:30", after := #[{ on := 3, ground := Go.Ground.data }], guard := none }, { dst := some 102, op := Go.Op.extract (Go.Operand.tmp 97) 1, type := 4, pos := "law.go:30", after := #[{ on := 3, ground := Go.Ground.data }, { on := 6, ground := Go.Ground.gcOnly Go.Departure.lateStores }], guard := none }, { dst := some 23, op := Go.Op.assign (Go.Operand.tmp 101), type := 9, pos := "law.go:30", after := #[{ on := 4, ground := Go.Ground.data }, { on := 2, ground := Go.Ground.chain }, { on := 0, ground := Go.Ground.phase }, { on := 1, ground := Go.Ground.phase }, { on := 2, ground := Go.Ground.phase }, { on := 3, ground := Go.Ground.phase }, { on := 4, ground := Go.Ground.phase }, { on := 5, ground := Go.Ground.textOnly Go.Departure.lateStores }], guard := none }, { dst := some 24, op := Go.Op.assign (Go.Operand.tmp 102), type := 4, pos := "law.go:30", after := #[{ on := 5, ground := Go.Ground.data }, { on := 6, ground := Go.Ground.chain }, { on := 0, ground := Go.Ground.phase }, { on := 1, ground := Go.Ground.phase }, { on := 2, ground := Go.Ground.phase }, { on := 3, ground := Go.Ground.phase }, { on := 4, ground := Go.Ground.phase }, { on := 5, ground := Go.Ground.phase }, { on := 6, ground := Go.Ground.phase }], guard := none }] false).wp Try.prog Q ⟨#[c0, c1, c2, c3, c4, c5, c6, c7, c8, c9, c10, c11, c12, .pointer (some ⟨F, 0, none⟩), .pointer (some ⟨H, 0, none⟩), c15, c16, c17, c18, c19, c20, c21, c22, c23, c24, c25, c26, c27, c28, c29, c30, c31, c32, c33, c34, c35, c36, c37, c38, c39, c40, c41, c42, c43, c44, c45, c46, c47, c48, c49, c50, c51, c52, c53, c54, c55, c56, c57, c58, c59, c60, c61, c62, c63, c64, c65, c66, c67, c68, c69, c70, c71, c72, c73, c74, c75, c76, c77, c78, c79, c80, c81, c82, c83, c84, c85, c86, c87, c88, c89, c90, c91, c92, c93, c94, c95, c96, c97, c98, c99, c100, c101, c102, c103, c104, c105, c106, c107, c108, c109, c110, c111, c112, c113, c114, c115, c116, c117, c118, c119, c120], []⟩ W := by
  try dsimp only at hQ ⊢
  have HQ := Lib.hid hQ; clear hQ
  refine wp_region_lit (l := [{ dst := some 98, op := Go.Op.load 34 (Go.Operand.tmp 13), type := 34, pos := "law.go:30", after := #[], guard := none }, { dst := some 99, op := Go.Op.load 38 (Go.Operand.tmp 14), type := 38, pos := "law.go:30", after := #[], guard := none }, { dst := some 100, op := Go.Op.call { callee := Go.Callee.value (Go.Operand.func 49), args := #[Go.Operand.tmp 98, Go.Operand.tmp 99], argTypes := #[34, 38] }, type := 133, pos := "law.go:30", after := #[{ on := 0, ground := Go.Ground.data }, { on := 1, ground := Go.Ground.data }], guard := none }, { dst := some 97, op := Go.Op.move (Go.Operand.tmp 100), type := 133, pos := "law.go:30", after := #[{ on := 2, ground := Go.Ground.data }], guard := none }, { dst := some 101, op := Go.Op.extract (Go.Operand.tmp 97) 0, type := 9, pos := "law.go:30", after := #[{ on := 3, ground := Go.Ground.data }], guard := none }, { dst := some 102, op := Go.Op.extract (Go.Operand.tmp 97) 1, type := 4, pos := "law.go:30", after := #[{ on := 3, ground := Go.Ground.data }, { on := 6, ground := Go.Ground.gcOnly Go.Departure.lateStores }], guard := none }, { dst := some 23, op := Go.Op.assign (Go.Operand.tmp 101), type := 9, pos := "law.go:30", after := #[{ on := 4, ground := Go.Ground.data }, { on := 2, ground := Go.Ground.chain }, { on := 0, ground := Go.Ground.phase }, { on := 1, ground := Go.Ground.phase }, { on := 2, ground := Go.Ground.phase }, { on := 3, ground := Go.Ground.phase }, { on := 4, ground := Go.Ground.phase }, { on := 5, ground := Go.Ground.textOnly Go.Departure.lateStores }], guard := none }, { dst := some 24, op := Go.Op.assign (Go.Operand.tmp 102), type := 4, pos := "law.go:30", after := #[{ on := 5, ground := Go.Ground.data }, { on := 6, ground := Go.Ground.chain }, { on := 0, ground := Go.Ground.phase }, { on := 1, ground := Go.Ground.phase }, { on := 2, ground := Go.Ground.phase }, { on := 3, ground := Go.Ground.phase }, { on := 4, ground := Go.Ground.phase }, { on := 5, ground := Go.Ground.phase }, { on := 6, ground := Go.Ground.phase }], guard := none }]) ?_
  refine wpList_step (fun K hK => ?_)
  go_simp
  refine hK _ _ ?_
  clear hK K
  try simp only [Act.put, List.setIfInBounds_toArray, List.set_cons_zero, List.set_cons_succ]
  refine wpList_load_mid rfl 38 _ rfl H 0 (by rfl) [.int .u64 0, .int .u64 0, .int .u64 1, .int .u64 0, .int .u64 0, .int .u64 (so : Nat), .int .u64 0, .int .u64 (eh : Nat), .int .u64 (ph : Nat), .int .u64 0, .int .u64 (sh : Nat), .int .u64 (nn : Nat), .int .u64 (ix : Nat)] _ (range_of hH (by rfl)) Try.underlying38 (by rfl) (by kernel_rfl) ?_
  try simp only [Act.put, List.setIfInBounds_toArray, List.set_cons_zero, List.set_cons_succ]
  refine wpList_step (fun K hK => ?_)
  (first | go_at_call 49 | (go_simp; go_at_call 49))
  refine (HC.out _).mono ?_
  rintro e w4 ⟨rfl, b4⟩
  try go_simp
  refine hK _ _ ?_
  clear hK K
  try simp only [Act.put, List.setIfInBounds_toArray, List.set_cons_zero, List.set_cons_succ]
  refine wpList_step (fun K hK => ?_)
  go_simp
  refine hK _ _ ?_
  clear hK K
  try simp only [Act.put, List.setIfInBounds_toArray, List.set_cons_zero, List.set_cons_succ]
  refine wpList_step (fun K hK => ?_)
  go_simp
  refine hK _ _ ?_
  clear hK K
  try simp only [Act.put, List.setIfInBounds_toArray, List.set_cons_zero, List.set_cons_succ]
  refine wpList_step (fun K hK => ?_)
  go_simp
  refine hK _ _ ?_
  clear hK K
  try simp only [Act.put, List.setIfInBounds_toArray, List.set_cons_zero, List.set_cons_succ]
  refine wpList_step (fun K hK => ?_)
  go_simp
  refine hK _ _ ?_
  clear hK K
  try simp only [Act.put, List.setIfInBounds_toArray, List.set_cons_zero, List.set_cons_succ]
  refine wpList_step (fun K hK => ?_)
  go_simp
  refine hK _ _ ?_
  clear hK K
  try simp only [Act.put, List.setIfInBounds_toArray, List.set_cons_zero, List.set_cons_succ]
  refine wpList_nil ?_
  exact HQ.out _ _ _ _ _ _ _ b4
set_option maxRecDepth 1000000 in
set_option maxHeartbeats 2000000 in
theorem mreg16 (Q : Exit → Act → World → Prop) (c0 c2 c3 c4 c5 c6 c7 c8 c9 c10 c11 c12 c14 c15 c17 c18 c19 c20 c21 c22 c24 c25 c26 c27 c28 c29 c30 c31 c32 c33 c34 c35 c36 c37 c38 c39 c40 c41 c42 c43 c44 c45 c46 c47 c48 c49 c50 c51 c52 c53 c54 c55 c56 c57 c58 c59 c60 c61 c62 c63 c64 c65 c66 c67 c68 c69 c70 c71 c72 c73 c74 c75 c76 c77 c78 c79 c80 c81 c82 c83 c84 c85 c86 c87 c88 c89 c90 c91 c92 c93 c94 c95 c96 c97 c98 c99 c100 c101 c102 c103 c104 c105 c106 c107 c108 c109 c110 c111 c112 c113 c114 c115 c116 c117 c118 c119 c120 : Value) (big wide : Bool) (F : Nat) (S tb U I A1 A2 V : ByteArray) (W : World) (cF0 : W.cell? ⟨F, 0, none⟩ = some (.bool big)) (cF1 : W.cell? ⟨F, 1, none⟩ = some (.bool wide)) (s1 : ∀ u, (Op.stringOp .add I S).run Try.prog u = .ok (.string A1) u) (s2 : ∀ u, (Op.stringOp .add A1 tb).run Try.prog u = .ok (.string A2) u) (s3 : ∀ u, (Op.stringOp .add A2 U).run Try.prog u = .ok (.string V) u)
    (HC : Hid (∀ u, Calls Try.prog 25 #[.agg #[.bool big, .bool wide, .int .u8 0, .int .u8 0, .string ⟨#[]⟩]] u fun e w' => e = .returned (.string I) ∧ Below u.heap.size u w'))
    (hQ : ∀ (u103 u104 u105 u106 u107 u108 u109 u110 u111 : Value) (w' : World), Below W.heap.size W w' → Q .normal ⟨#[c0, .string tb, c2, c3, c4, c5, c6, c7, c8, c9, c10, c11, c12, .pointer (some ⟨F, 0, none⟩), c14, c15, .string U, c17, c18, c19, c20, c21, c22, .string S, c24, .string V, c26, c27, c28, c29, c30, c31, c32, c33, c34, c35, c36, c37, c38, c39, c40, c41, c42, c43, c44, c45, c46, c47, c48, c49, c50, c51, c52, c53, c54, c55, c56, c57, c58, c59, c60, c61, c62, c63, c64, c65, c66, c67, c68, c69, c70, c71, c72, c73, c74, c75, c76, c77, c78, c79, c80, c81, c82, c83, c84, c85, c86, c87, c88, c89, c90, c91, c92, c93, c94, c95, c96, c97, c98, c99, c100, c101, c102, u103, u104, u105, u106, u107, u108, u109, u110, u111, c112, c113, c114, c115, c116, c117, c118, c119, c120], []⟩ w') :
    (Code.region 16 #[{ dst := some 103, op := Go.Op.load 34 (Go.Operand.tmp 13), type := 34, pos := "law.go:31", after := #[], guard := none }, { dst := some 104, op := Go.Op.build 36 #[(0, Go.Operand.tmp 103)], type := 36, pos := "law.go:31", after := #[{ on := 0, ground := Go.Ground.data }], guard := none }, { dst := some 105, op := Go.Op.call { callee := Go.Callee.value (Go.Operand.func 25), args := #[Go.Operand.tmp 104], argTypes := #[36] }, type := 9, pos := "law.go:31", after := #[{ on := 1, ground := Go.Ground.data }], guard := none }, { dst := some 106, op := Go.Op.move (Go.Operand.tmp 23), type := 9, pos := "law.go:31", after := #[], guard := none }, { dst := some 107, op := Go.Op.binOp Go.BinOp.add 9 (Go.Operand.tmp 105) (Go.Operand.tmp 106) 9, type := 9, pos := "law.go:31", after := #[{ on := 2, ground := Go.Ground.data }, { on := 3, ground := Go.Ground.data }], guard := none }, { dst := some 108, op := Go.Op.move (Go.Operand.tmp 1), type := 9, pos := "law.go:31", after := #[], guard := none }, { dst := some 109, op := Go.Op.binOp Go.BinOp.add 9 (Go.Operand.tmp 107) (Go.Operand.tmp 108) 9, type := 9, pos := "law.go:31", after := #[{ on := 4, ground := Go.Ground.data }, { on := 5, ground := Go.Ground.data }], guard := none }, { dst := some 110, op := Go.Op.move (Go.Operand.tmp 16), type := 9, pos := "law.go:31", after := #[], guard := none }, { dst := some 111, op := Go.Op.binOp Go.BinOp.add 9 (Go.Operand.tmp 109) (Go.Operand.tmp 110) 9, type := 9, pos := "law.go:31", after := #[{ on := 6, ground := Go.Ground.data }, { on := 7, ground := Go.Ground.data }], guard := none }, { dst := some 25, op := Go.Op.assign (Go.Operand.tmp 111), type := 9, pos := "law.go:31", after := #[{ on := 8, ground := Go.Ground.data }, { on := 2, ground := Go.Ground.chain }, { on := 0, ground := Go.Ground.phase }, { on := 1, ground := Go.Ground.phase }, { on := 2, ground := Go.Ground.phase }, { on := 3, ground := Go.Ground.phase }, { on := 4, ground := Go.Ground.phase }, { on := 5, ground := Go.Ground.phase }, { on := 6, ground := Go.Ground.phase }, { on := 7, ground := Go.Ground.phase }, { on := 8, ground := Go.Ground.phase }], guard := none }] false).wp Try.prog Q ⟨#[c0, .string tb, c2, c3, c4, c5, c6, c7, c8, c9, c10, c11, c12, .pointer (some ⟨F, 0, none⟩), c14, c15, .string U, c17, c18, c19, c20, c21, c22, .string S, c24, c25, c26, c27, c28, c29, c30, c31, c32, c33, c34, c35, c36, c37, c38, c39, c40, c41, c42, c43, c44, c45, c46, c47, c48, c49, c50, c51, c52, c53, c54, c55, c56, c57, c58, c59, c60, c61, c62, c63, c64, c65, c66, c67, c68, c69, c70, c71, c72, c73, c74, c75, c76, c77, c78, c79, c80, c81, c82, c83, c84, c85, c86, c87, c88, c89, c90, c91, c92, c93, c94, c95, c96, c97, c98, c99, c100, c101, c102, c103, c104, c105, c106, c107, c108, c109, c110, c111, c112, c113, c114, c115, c116, c117, c118, c119, c120], []⟩ W := by
  try dsimp only at hQ ⊢
  have HQ := Lib.hid hQ; clear hQ
  refine wp_region_lit (l := [{ dst := some 103, op := Go.Op.load 34 (Go.Operand.tmp 13), type := 34, pos := "law.go:31", after := #[], guard := none }, { dst := some 104, op := Go.Op.build 36 #[(0, Go.Operand.tmp 103)], type := 36, pos := "law.go:31", after := #[{ on := 0, ground := Go.Ground.data }], guard := none }, { dst := some 105, op := Go.Op.call { callee := Go.Callee.value (Go.Operand.func 25), args := #[Go.Operand.tmp 104], argTypes := #[36] }, type := 9, pos := "law.go:31", after := #[{ on := 1, ground := Go.Ground.data }], guard := none }, { dst := some 106, op := Go.Op.move (Go.Operand.tmp 23), type := 9, pos := "law.go:31", after := #[], guard := none }, { dst := some 107, op := Go.Op.binOp Go.BinOp.add 9 (Go.Operand.tmp 105) (Go.Operand.tmp 106) 9, type := 9, pos := "law.go:31", after := #[{ on := 2, ground := Go.Ground.data }, { on := 3, ground := Go.Ground.data }], guard := none }, { dst := some 108, op := Go.Op.move (Go.Operand.tmp 1), type := 9, pos := "law.go:31", after := #[], guard := none }, { dst := some 109, op := Go.Op.binOp Go.BinOp.add 9 (Go.Operand.tmp 107) (Go.Operand.tmp 108) 9, type := 9, pos := "law.go:31", after := #[{ on := 4, ground := Go.Ground.data }, { on := 5, ground := Go.Ground.data }], guard := none }, { dst := some 110, op := Go.Op.move (Go.Operand.tmp 16), type := 9, pos := "law.go:31", after := #[], guard := none }, { dst := some 111, op := Go.Op.binOp Go.BinOp.add 9 (Go.Operand.tmp 109) (Go.Operand.tmp 110) 9, type := 9, pos := "law.go:31", after := #[{ on := 6, ground := Go.Ground.data }, { on := 7, ground := Go.Ground.data }], guard := none }, { dst := some 25, op := Go.Op.assign (Go.Operand.tmp 111), type := 9, pos := "law.go:31", after := #[{ on := 8, ground := Go.Ground.data }, { on := 2, ground := Go.Ground.chain }, { on := 0, ground := Go.Ground.phase }, { on := 1, ground := Go.Ground.phase }, { on := 2, ground := Go.Ground.phase }, { on := 3, ground := Go.Ground.phase }, { on := 4, ground := Go.Ground.phase }, { on := 5, ground := Go.Ground.phase }, { on := 6, ground := Go.Ground.phase }, { on := 7, ground := Go.Ground.phase }, { on := 8, ground := Go.Ground.phase }], guard := none }]) ?_
  refine wpList_step (fun K hK => ?_)
  go_simp
  refine hK _ _ ?_
  clear hK K
  try simp only [Act.put, List.setIfInBounds_toArray, List.set_cons_zero, List.set_cons_succ]
  refine wpList_buildTo rfl 36 _ rfl _ rfl #[.bool big, .bool wide, .int .u8 0, .int .u8 0, .string ⟨#[]⟩] (by kernel_rfl) ?_
  try simp only [Act.put, List.setIfInBounds_toArray, List.set_cons_zero, List.set_cons_succ]
  refine wpList_step (fun K hK => ?_)
  (first | go_at_call 25 | (go_simp; go_at_call 25))
  refine (HC.out _).mono ?_
  rintro e w4 ⟨rfl, b4⟩
  try go_simp
  refine hK _ _ ?_
  clear hK K
  try simp only [Act.put, List.setIfInBounds_toArray, List.set_cons_zero, List.set_cons_succ]
  refine wpList_step (fun K hK => ?_)
  go_simp
  refine hK _ _ ?_
  clear hK K
  try simp only [Act.put, List.setIfInBounds_toArray, List.set_cons_zero, List.set_cons_succ]
  refine wpList_step (fun K hK => ?_)
  go_simp
  refine hK _ _ ?_
  clear hK K
  try simp only [Act.put, List.setIfInBounds_toArray, List.set_cons_zero, List.set_cons_succ]
  refine wpList_step (fun K hK => ?_)
  go_simp
  refine hK _ _ ?_
  clear hK K
  try simp only [Act.put, List.setIfInBounds_toArray, List.set_cons_zero, List.set_cons_succ]
  refine wpList_step (fun K hK => ?_)
  go_simp
  refine hK _ _ ?_
  clear hK K
  try simp only [Act.put, List.setIfInBounds_toArray, List.set_cons_zero, List.set_cons_succ]
  refine wpList_step (fun K hK => ?_)
  go_simp
  refine hK _ _ ?_
  clear hK K
  try simp only [Act.put, List.setIfInBounds_toArray, List.set_cons_zero, List.set_cons_succ]
  refine wpList_step (fun K hK => ?_)
  go_simp
  refine hK _ _ ?_
  clear hK K
  try simp only [Act.put, List.setIfInBounds_toArray, List.set_cons_zero, List.set_cons_succ]
  refine wpList_step (fun K hK => ?_)
  go_simp
  refine hK _ _ ?_
  clear hK K
  try simp only [Act.put, List.setIfInBounds_toArray, List.set_cons_zero, List.set_cons_succ]
  refine wpList_nil ?_
  exact HQ.out _ _ _ _ _ _ _ _ _ _ b4
set_option maxRecDepth 1000000 in
set_option maxHeartbeats 2000000 in
theorem mreg17 (Q : Exit → Act → World → Prop) (c0 c1 c2 c3 c4 c5 c6 c7 c8 c9 c10 c11 c12 c13 c14 c15 c16 c17 c18 c19 c20 c21 c22 c23 c24 c26 c27 c28 c29 c30 c31 c32 c33 c34 c35 c36 c37 c38 c39 c40 c41 c42 c43 c44 c45 c46 c47 c48 c49 c50 c51 c52 c53 c54 c55 c56 c57 c58 c59 c60 c61 c62 c63 c64 c65 c66 c67 c68 c69 c70 c71 c72 c73 c74 c75 c76 c77 c78 c79 c80 c81 c82 c83 c84 c85 c86 c87 c88 c89 c90 c91 c92 c93 c94 c95 c96 c97 c98 c99 c100 c101 c102 c103 c104 c105 c106 c107 c108 c109 c110 c111 c112 c113 c114 c115 c116 c117 c118 c119 c120 : Value) (ones : Nat → Nat) (V : ByteArray) (W : World)
    (HC : Hid (∀ u, Calls Try.prog 16 #[.string V] u fun e w' => (∃ v k, FileIs ones V u v k w' ∧ e = .returned (.tuple #[v, .int .i64 k])) ∧ Below u.heap.size u w'))
    (hQ : ∀ (u112 u113 u114 u115 u116 : Value) (G : Nat) (big wide : Bool) (abi ver : Nat) (pad : ByteArray) (h0 h1 h2 h3 h4 h5 h6 h7 h8 h9 h10 h11 h12 : Nat) (As : Option Addr) (ns cs : Nat) (Ap : Option Addr) (np cp : Nat) (nm : Nat) (k : Int) (u w' : World), FileIs ones V u (.agg #[.bool big, .bool wide, .int .u8 (abi : Nat), .int .u8 (ver : Nat), .string pad, .int .u64 (h0 : Nat), .int .u64 (h1 : Nat), .int .u64 (h2 : Nat), .int .u64 (h3 : Nat), .int .u64 (h4 : Nat), .int .u64 (h5 : Nat), .int .u64 (h6 : Nat), .int .u64 (h7 : Nat), .int .u64 (h8 : Nat), .int .u64 (h9 : Nat), .int .u64 (h10 : Nat), .int .u64 (h11 : Nat), .int .u64 (h12 : Nat), .slice As ns cs, .slice Ap np cp, .int .u64 (nm : Nat)]) k w' → W = u → w'.heap[G]? = some (.cells #[.bool big, .bool wide, .int .u8 (abi : Nat), .int .u8 (ver : Nat), .string pad, .int .u64 (h0 : Nat), .int .u64 (h1 : Nat), .int .u64 (h2 : Nat), .int .u64 (h3 : Nat), .int .u64 (h4 : Nat), .int .u64 (h5 : Nat), .int .u64 (h6 : Nat), .int .u64 (h7 : Nat), .int .u64 (h8 : Nat), .int .u64 (h9 : Nat), .int .u64 (h10 : Nat), .int .u64 (h11 : Nat), .int .u64 (h12 : Nat), .slice As ns cs, .slice Ap np cp, .int .u64 (nm : Nat)] 42 (0, 0)) → W.heap.size ≤ G → Below W.heap.size W w' → Q .normal ⟨#[c0, c1, c2, c3, c4, c5, c6, c7, c8, c9, c10, c11, c12, c13, c14, c15, c16, c17, c18, c19, c20, c21, c22, c23, c24, .string V, .pointer (some ⟨G, 0, none⟩), .int .i64 k, c28, c29, c30, c31, c32, c33, c34, c35, c36, c37, c38, c39, c40, c41, c42, c43, c44, c45, c46, c47, c48, c49, c50, c51, c52, c53, c54, c55, c56, c57, c58, c59, c60, c61, c62, c63, c64, c65, c66, c67, c68, c69, c70, c71, c72, c73, c74, c75, c76, c77, c78, c79, c80, c81, c82, c83, c84, c85, c86, c87, c88, c89, c90, c91, c92, c93, c94, c95, c96, c97, c98, c99, c100, c101, c102, c103, c104, c105, c106, c107, c108, c109, c110, c111, u112, u113, u114, u115, u116, c117, c118, c119, c120], []⟩ w') :
    (Code.region 17 #[{ dst := some 113, op := Go.Op.move (Go.Operand.tmp 25), type := 9, pos := "law.go:32", after := #[], guard := none }, { dst := some 114, op := Go.Op.call { callee := Go.Callee.value (Go.Operand.func 16), args := #[Go.Operand.tmp 113], argTypes := #[9] }, type := 44, pos := "law.go:32", after := #[{ on := 0, ground := Go.Ground.data }], guard := none }, { dst := some 112, op := Go.Op.move (Go.Operand.tmp 114), type := 44, pos := "law.go:32", after := #[{ on := 1, ground := Go.Ground.data }], guard := none }, { dst := some 115, op := Go.Op.extract (Go.Operand.tmp 112) 0, type := 42, pos := "law.go:32", after := #[{ on := 2, ground := Go.Ground.data }], guard := none }, { dst := some 116, op := Go.Op.extract (Go.Operand.tmp 112) 1, type := 43, pos := "law.go:32", after := #[{ on := 2, ground := Go.Ground.data }, { on := 6, ground := Go.Ground.gcOnly Go.Departure.lateStores }], guard := none }, { dst := some 26, op := Go.Op.alloc 42, type := 0, pos := "law.go:32", after := #[], guard := none }, { dst := none, op := Go.Op.store 42 (Go.Operand.tmp 26) (Go.Operand.tmp 115), type := 0, pos := "law.go:32", after := #[{ on := 5, ground := Go.Ground.data }, { on := 3, ground := Go.Ground.data }, { on := 1, ground := Go.Ground.chain }, { on := 0, ground := Go.Ground.phase }, { on := 1, ground := Go.Ground.phase }, { on := 2, ground := Go.Ground.phase }, { on := 3, ground := Go.Ground.phase }, { on := 4, ground := Go.Ground.textOnly Go.Departure.lateStores }, { on := 5, ground := Go.Ground.phase }], guard := none }, { dst := some 27, op := Go.Op.assign (Go.Operand.tmp 116), type := 43, pos := "law.go:32", after := #[{ on := 4, ground := Go.Ground.data }, { on := 6, ground := Go.Ground.chain }, { on := 0, ground := Go.Ground.phase }, { on := 1, ground := Go.Ground.phase }, { on := 2, ground := Go.Ground.phase }, { on := 3, ground := Go.Ground.phase }, { on := 4, ground := Go.Ground.phase }, { on := 5, ground := Go.Ground.phase }, { on := 6, ground := Go.Ground.phase }], guard := none }] false).wp Try.prog Q ⟨#[c0, c1, c2, c3, c4, c5, c6, c7, c8, c9, c10, c11, c12, c13, c14, c15, c16, c17, c18, c19, c20, c21, c22, c23, c24, .string V, c26, c27, c28, c29, c30, c31, c32, c33, c34, c35, c36, c37, c38, c39, c40, c41, c42, c43, c44, c45, c46, c47, c48, c49, c50, c51, c52, c53, c54, c55, c56, c57, c58, c59, c60, c61, c62, c63, c64, c65, c66, c67, c68, c69, c70, c71, c72, c73, c74, c75, c76, c77, c78, c79, c80, c81, c82, c83, c84, c85, c86, c87, c88, c89, c90, c91, c92, c93, c94, c95, c96, c97, c98, c99, c100, c101, c102, c103, c104, c105, c106, c107, c108, c109, c110, c111, c112, c113, c114, c115, c116, c117, c118, c119, c120], []⟩ W := by
  try dsimp only at hQ ⊢
  have HQ := Lib.hid hQ; clear hQ
  refine wp_region_lit (l := [{ dst := some 113, op := Go.Op.move (Go.Operand.tmp 25), type := 9, pos := "law.go:32", after := #[], guard := none }, { dst := some 114, op := Go.Op.call { callee := Go.Callee.value (Go.Operand.func 16), args := #[Go.Operand.tmp 113], argTypes := #[9] }, type := 44, pos := "law.go:32", after := #[{ on := 0, ground := Go.Ground.data }], guard := none }, { dst := some 112, op := Go.Op.move (Go.Operand.tmp 114), type := 44, pos := "law.go:32", after := #[{ on := 1, ground := Go.Ground.data }], guard := none }, { dst := some 115, op := Go.Op.extract (Go.Operand.tmp 112) 0, type := 42, pos := "law.go:32", after := #[{ on := 2, ground := Go.Ground.data }], guard := none }, { dst := some 116, op := Go.Op.extract (Go.Operand.tmp 112) 1, type := 43, pos := "law.go:32", after := #[{ on := 2, ground := Go.Ground.data }, { on := 6, ground := Go.Ground.gcOnly Go.Departure.lateStores }], guard := none }, { dst := some 26, op := Go.Op.alloc 42, type := 0, pos := "law.go:32", after := #[], guard := none }, { dst := none, op := Go.Op.store 42 (Go.Operand.tmp 26) (Go.Operand.tmp 115), type := 0, pos := "law.go:32", after := #[{ on := 5, ground := Go.Ground.data }, { on := 3, ground := Go.Ground.data }, { on := 1, ground := Go.Ground.chain }, { on := 0, ground := Go.Ground.phase }, { on := 1, ground := Go.Ground.phase }, { on := 2, ground := Go.Ground.phase }, { on := 3, ground := Go.Ground.phase }, { on := 4, ground := Go.Ground.textOnly Go.Departure.lateStores }, { on := 5, ground := Go.Ground.phase }], guard := none }, { dst := some 27, op := Go.Op.assign (Go.Operand.tmp 116), type := 43, pos := "law.go:32", after := #[{ on := 4, ground := Go.Ground.data }, { on := 6, ground := Go.Ground.chain }, { on := 0, ground := Go.Ground.phase }, { on := 1, ground := Go.Ground.phase }, { on := 2, ground := Go.Ground.phase }, { on := 3, ground := Go.Ground.phase }, { on := 4, ground := Go.Ground.phase }, { on := 5, ground := Go.Ground.phase }, { on := 6, ground := Go.Ground.phase }], guard := none }]) ?_
  refine wpList_step (fun K hK => ?_)
  go_simp
  refine hK _ _ ?_
  clear hK K
  try simp only [Act.put, List.setIfInBounds_toArray, List.set_cons_zero, List.set_cons_succ]
  refine wpList_step (fun K hK => ?_)
  (first | go_at_call 16 | (go_simp; go_at_call 16))
  refine (HC.out _).mono ?_
  rintro e w4 ⟨⟨v, k, hfi, rfl⟩, b4⟩
  obtain ⟨big, wide, abi, ver, pad, h0, h1, h2, h3, h4, h5, h6, h7, h8, h9, h10, h11, h12, As, ns, cs, Ap, np, cp, nm, rfl⟩ := hfi.form
  have HFI := Lib.hid hfi; clear hfi
  try go_simp
  refine hK _ _ ?_
  clear hK K
  try simp only [Act.put, List.setIfInBounds_toArray, List.set_cons_zero, List.set_cons_succ]
  refine wpList_step (fun K hK => ?_)
  go_simp
  refine hK _ _ ?_
  clear hK K
  try simp only [Act.put, List.setIfInBounds_toArray, List.set_cons_zero, List.set_cons_succ]
  refine wpList_step (fun K hK => ?_)
  go_simp
  refine hK _ _ ?_
  clear hK K
  try simp only [Act.put, List.setIfInBounds_toArray, List.set_cons_zero, List.set_cons_succ]
  refine wpList_step (fun K hK => ?_)
  go_simp
  refine hK _ _ ?_
  clear hK K
  try simp only [Act.put, List.setIfInBounds_toArray, List.set_cons_zero, List.set_cons_succ]
  refine wpList_step (fun K hK => ?_)
  go_simp
  refine hK _ _ ?_
  clear hK K
  try simp only [Act.put, List.setIfInBounds_toArray, List.set_cons_zero, List.set_cons_succ]
  have hT := heap_alloc_new w4 (.cells #[.bool false, .bool false, .int .u8 0, .int .u8 0, .string ⟨#[]⟩, .int .u64 0, .int .u64 0, .int .u64 0, .int .u64 0, .int .u64 0, .int .u64 0, .int .u64 0, .int .u64 0, .int .u64 0, .int .u64 0, .int .u64 0, .int .u64 0, .int .u64 0, .slice none 0 0, .slice none 0 0, .int .u64 0] 42)
  refine wpList_store_rowTo rfl 42 _ _ rfl rfl w4.heap.size #[.bool big, .bool wide, .int .u8 (abi : Nat), .int .u8 (ver : Nat), .string pad, .int .u64 (h0 : Nat), .int .u64 (h1 : Nat), .int .u64 (h2 : Nat), .int .u64 (h3 : Nat), .int .u64 (h4 : Nat), .int .u64 (h5 : Nat), .int .u64 (h6 : Nat), .int .u64 (h7 : Nat), .int .u64 (h8 : Nat), .int .u64 (h9 : Nat), .int .u64 (h10 : Nat), .int .u64 (h11 : Nat), .int .u64 (h12 : Nat), .slice As ns cs, .slice Ap np cp, .int .u64 (nm : Nat)] (by rfl) (by rfl) 42 #[.bool false, .bool false, .int .u8 0, .int .u8 0, .string ⟨#[]⟩, .int .u64 0, .int .u64 0, .int .u64 0, .int .u64 0, .int .u64 0, .int .u64 0, .int .u64 0, .int .u64 0, .int .u64 0, .int .u64 0, .int .u64 0, .int .u64 0, .int .u64 0, .slice none 0 0, .slice none 0 0, .int .u64 0] hT (by kernel_rfl) rfl (by simp [Value.oneCell']) ?_
  try simp only [Act.put, List.setIfInBounds_toArray, List.set_cons_zero, List.set_cons_succ]
  refine wpList_step (fun K hK => ?_)
  go_simp
  refine hK _ _ ?_
  clear hK K
  try simp only [Act.put, List.setIfInBounds_toArray, List.set_cons_zero, List.set_cons_succ]
  refine wpList_nil ?_
  exact HQ.out _ _ _ _ _ _ _ _ _ _ _ _ _ _ _ _ _ _ _ _ _ _ _ _ _ _ _ _ _ _ _ _ _ _ (HFI.out.stay (fun b _ hb => (setRow_below (((Below.refl w4.heap.size w4).alloc (Nat.le_refl _) _)) (Nat.le_refl _) _).block b hb)) rfl (setRow_heap' _ _ _ _ _ _ hT) b4.size (setRow_below (b4.alloc b4.size _) b4.size _)
set_option maxRecDepth 1000000 in
set_option maxHeartbeats 2000000 in
theorem mreg18 (Q : Exit → Act → World → Prop) (c0 c1 c2 c3 c4 c5 c6 c7 c8 c9 c11 c12 c13 c14 c15 c16 c17 c18 c19 c20 c21 c22 c23 c24 c28 c29 c30 c31 c32 c33 c34 c35 c36 c37 c38 c39 c40 c41 c42 c43 c44 c45 c46 c47 c48 c49 c50 c51 c52 c53 c54 c55 c56 c57 c58 c59 c60 c61 c62 c63 c64 c65 c66 c67 c68 c69 c70 c71 c72 c73 c74 c75 c76 c77 c78 c79 c80 c81 c82 c83 c84 c85 c86 c87 c88 c89 c90 c91 c92 c93 c94 c95 c96 c97 c98 c99 c100 c101 c102 c103 c104 c105 c106 c107 c108 c109 c110 c111 c112 c113 c114 c115 c116 c117 c118 c119 c120 : Value) (big wide : Bool) (abi ver : Nat) (pad : ByteArray) (h0 h1 h2 h3 h4 h5 h6 h7 h8 h9 h10 h11 h12 : Nat) (As : Option Addr) (ns cs : Nat) (Ap : Option Addr) (np cp : Nat) (nm : Nat) (T G : Nat) (V : ByteArray) (k : Int) (W : World) (hT : W.heap[T]? = some (.cells #[.bool false, .bool false, .int .u8 0, .int .u8 0, .string ⟨#[]⟩, .int .u64 0, .int .u64 0, .int .u64 0, .int .u64 0, .int .u64 0, .int .u64 0, .int .u64 0, .int .u64 0, .int .u64 0, .int .u64 0, .int .u64 0, .int .u64 0, .int .u64 0, .slice none 0 0, .slice none 0 0, .int .u64 0] 42 (0, 0))) (hG : W.heap[G]? = some (.cells #[.bool big, .bool wide, .int .u8 (abi : Nat), .int .u8 (ver : Nat), .string pad, .int .u64 (h0 : Nat), .int .u64 (h1 : Nat), .int .u64 (h2 : Nat), .int .u64 (h3 : Nat), .int .u64 (h4 : Nat), .int .u64 (h5 : Nat), .int .u64 (h6 : Nat), .int .u64 (h7 : Nat), .int .u64 (h8 : Nat), .int .u64 (h9 : Nat), .int .u64 (h10 : Nat), .int .u64 (h11 : Nat), .int .u64 (h12 : Nat), .slice As ns cs, .slice Ap np cp, .int .u64 (nm : Nat)] 42 (0, 0)))
    (hQ : ∀ (u117 u118 u119 u120 : Value) (w' : World), w'.heap[T]? = some (.cells #[.bool big, .bool wide, .int .u8 (abi : Nat), .int .u8 (ver : Nat), .string pad, .int .u64 (h0 : Nat), .int .u64 (h1 : Nat), .int .u64 (h2 : Nat), .int .u64 (h3 : Nat), .int .u64 (h4 : Nat), .int .u64 (h5 : Nat), .int .u64 (h6 : Nat), .int .u64 (h7 : Nat), .int .u64 (h8 : Nat), .int .u64 (h9 : Nat), .int .u64 (h10 : Nat), .int .u64 (h11 : Nat), .int .u64 (h12 : Nat), .slice As ns cs, .slice Ap np cp, .int .u64 (nm : Nat)] 42 (0, 0)) → OnlyAt T W w' → Q .normal ⟨#[c0, c1, c2, c3, c4, c5, c6, c7, c8, c9, .pointer (some ⟨T, 0, none⟩), .string V, .bool (k == 0), c13, c14, c15, c16, c17, c18, c19, c20, c21, c22, c23, c24, .string V, .pointer (some ⟨G, 0, none⟩), .int .i64 k, c28, c29, c30, c31, c32, c33, c34, c35, c36, c37, c38, c39, c40, c41, c42, c43, c44, c45, c46, c47, c48, c49, c50, c51, c52, c53, c54, c55, c56, c57, c58, c59, c60, c61, c62, c63, c64, c65, c66, c67, c68, c69, c70, c71, c72, c73, c74, c75, c76, c77, c78, c79, c80, c81, c82, c83, c84, c85, c86, c87, c88, c89, c90, c91, c92, c93, c94, c95, c96, c97, c98, c99, c100, c101, c102, c103, c104, c105, c106, c107, c108, c109, c110, c111, c112, c113, c114, c115, c116, u117, u118, u119, u120], []⟩ w') :
    (Code.region 18 #[{ dst := some 117, op := Go.Op.load 42 (Go.Operand.tmp 26), type := 42, pos := "law.go:33", after := #[], guard := none }, { dst := some 118, op := Go.Op.move (Go.Operand.tmp 25), type := 9, pos := "law.go:33", after := #[{ on := 4, ground := Go.Ground.gcOnly Go.Departure.lateStores }], guard := none }, { dst := some 119, op := Go.Op.move (Go.Operand.tmp 27), type := 43, pos := "law.go:33", after := #[{ on := 5, ground := Go.Ground.gcOnly Go.Departure.lateStores }], guard := none }, { dst := some 120, op := Go.Op.binOp Go.BinOp.eql 43 (Go.Operand.tmp 119) (Go.Operand.const (Go.Value.int Go.IntKind.i64 0)) 43, type := 4, pos := "law.go:33", after := #[{ on := 2, ground := Go.Ground.data }, { on := 5, ground := Go.Ground.gcOnly Go.Departure.lateStores }], guard := none }, { dst := none, op := Go.Op.store 42 (Go.Operand.tmp 10) (Go.Operand.tmp 117), type := 0, pos := "law.go:33", after := #[{ on := 0, ground := Go.Ground.data }, { on := 0, ground := Go.Ground.phase }, { on := 1, ground := Go.Ground.textOnly Go.Departure.lateStores }, { on := 2, ground := Go.Ground.textOnly Go.Departure.lateStores }, { on := 3, ground := Go.Ground.textOnly Go.Departure.lateStores }], guard := none }, { dst := some 11, op := Go.Op.assign (Go.Operand.tmp 118), type := 9, pos := "law.go:33", after := #[{ on := 1, ground := Go.Ground.data }, { on := 4, ground := Go.Ground.chain }, { on := 0, ground := Go.Ground.phase }, { on := 1, ground := Go.Ground.phase }, { on := 2, ground := Go.Ground.textOnly Go.Departure.lateStores }, { on := 3, ground := Go.Ground.textOnly Go.Departure.lateStores }, { on := 4, ground := Go.Ground.phase }], guard := none }, { dst := some 12, op := Go.Op.assign (Go.Operand.tmp 120), type := 4, pos := "law.go:33", after := #[{ on := 3, ground := Go.Ground.data }, { on := 5, ground := Go.Ground.chain }, { on := 0, ground := Go.Ground.phase }, { on := 1, ground := Go.Ground.phase }, { on := 2, ground := Go.Ground.phase }, { on := 3, ground := Go.Ground.phase }, { on := 4, ground := Go.Ground.phase }, { on := 5, ground := Go.Ground.phase }], guard := none }] false).wp Try.prog Q ⟨#[c0, c1, c2, c3, c4, c5, c6, c7, c8, c9, .pointer (some ⟨T, 0, none⟩), c11, c12, c13, c14, c15, c16, c17, c18, c19, c20, c21, c22, c23, c24, .string V, .pointer (some ⟨G, 0, none⟩), .int .i64 k, c28, c29, c30, c31, c32, c33, c34, c35, c36, c37, c38, c39, c40, c41, c42, c43, c44, c45, c46, c47, c48, c49, c50, c51, c52, c53, c54, c55, c56, c57, c58, c59, c60, c61, c62, c63, c64, c65, c66, c67, c68, c69, c70, c71, c72, c73, c74, c75, c76, c77, c78, c79, c80, c81, c82, c83, c84, c85, c86, c87, c88, c89, c90, c91, c92, c93, c94, c95, c96, c97, c98, c99, c100, c101, c102, c103, c104, c105, c106, c107, c108, c109, c110, c111, c112, c113, c114, c115, c116, c117, c118, c119, c120], []⟩ W := by
  try dsimp only at hQ ⊢
  have HQ := Lib.hid hQ; clear hQ
  refine wp_region_lit (l := [{ dst := some 117, op := Go.Op.load 42 (Go.Operand.tmp 26), type := 42, pos := "law.go:33", after := #[], guard := none }, { dst := some 118, op := Go.Op.move (Go.Operand.tmp 25), type := 9, pos := "law.go:33", after := #[{ on := 4, ground := Go.Ground.gcOnly Go.Departure.lateStores }], guard := none }, { dst := some 119, op := Go.Op.move (Go.Operand.tmp 27), type := 43, pos := "law.go:33", after := #[{ on := 5, ground := Go.Ground.gcOnly Go.Departure.lateStores }], guard := none }, { dst := some 120, op := Go.Op.binOp Go.BinOp.eql 43 (Go.Operand.tmp 119) (Go.Operand.const (Go.Value.int Go.IntKind.i64 0)) 43, type := 4, pos := "law.go:33", after := #[{ on := 2, ground := Go.Ground.data }, { on := 5, ground := Go.Ground.gcOnly Go.Departure.lateStores }], guard := none }, { dst := none, op := Go.Op.store 42 (Go.Operand.tmp 10) (Go.Operand.tmp 117), type := 0, pos := "law.go:33", after := #[{ on := 0, ground := Go.Ground.data }, { on := 0, ground := Go.Ground.phase }, { on := 1, ground := Go.Ground.textOnly Go.Departure.lateStores }, { on := 2, ground := Go.Ground.textOnly Go.Departure.lateStores }, { on := 3, ground := Go.Ground.textOnly Go.Departure.lateStores }], guard := none }, { dst := some 11, op := Go.Op.assign (Go.Operand.tmp 118), type := 9, pos := "law.go:33", after := #[{ on := 1, ground := Go.Ground.data }, { on := 4, ground := Go.Ground.chain }, { on := 0, ground := Go.Ground.phase }, { on := 1, ground := Go.Ground.phase }, { on := 2, ground := Go.Ground.textOnly Go.Departure.lateStores }, { on := 3, ground := Go.Ground.textOnly Go.Departure.lateStores }, { on := 4, ground := Go.Ground.phase }], guard := none }, { dst := some 12, op := Go.Op.assign (Go.Operand.tmp 120), type := 4, pos := "law.go:33", after := #[{ on := 3, ground := Go.Ground.data }, { on := 5, ground := Go.Ground.chain }, { on := 0, ground := Go.Ground.phase }, { on := 1, ground := Go.Ground.phase }, { on := 2, ground := Go.Ground.phase }, { on := 3, ground := Go.Ground.phase }, { on := 4, ground := Go.Ground.phase }, { on := 5, ground := Go.Ground.phase }], guard := none }]) ?_
  refine wpList_load_mid rfl 42 _ rfl G 0 (by rfl) [.bool big, .bool wide, .int .u8 (abi : Nat), .int .u8 (ver : Nat), .string pad, .int .u64 (h0 : Nat), .int .u64 (h1 : Nat), .int .u64 (h2 : Nat), .int .u64 (h3 : Nat), .int .u64 (h4 : Nat), .int .u64 (h5 : Nat), .int .u64 (h6 : Nat), .int .u64 (h7 : Nat), .int .u64 (h8 : Nat), .int .u64 (h9 : Nat), .int .u64 (h10 : Nat), .int .u64 (h11 : Nat), .int .u64 (h12 : Nat), .slice As ns cs, .slice Ap np cp, .int .u64 (nm : Nat)] _ (range_of hG (by rfl)) Try.underlying42 (by rfl) (by kernel_rfl) ?_
  try simp only [Act.put, List.setIfInBounds_toArray, List.set_cons_zero, List.set_cons_succ]
  refine wpList_step (fun K hK => ?_)
  go_simp
  refine hK _ _ ?_
  clear hK K
  try simp only [Act.put, List.setIfInBounds_toArray, List.set_cons_zero, List.set_cons_succ]
  refine wpList_step (fun K hK => ?_)
  go_simp
  refine hK _ _ ?_
  clear hK K
  try simp only [Act.put, List.setIfInBounds_toArray, List.set_cons_zero, List.set_cons_succ]
  refine wpList_step (fun K hK => ?_)
  go_simp
  refine hK _ _ ?_
  clear hK K
  try simp only [Act.put, List.setIfInBounds_toArray, List.set_cons_zero, List.set_cons_succ]
  refine wpList_store_rowTo rfl 42 _ _ rfl rfl T #[.bool big, .bool wide, .int .u8 (abi : Nat), .int .u8 (ver : Nat), .string pad, .int .u64 (h0 : Nat), .int .u64 (h1 : Nat), .int .u64 (h2 : Nat), .int .u64 (h3 : Nat), .int .u64 (h4 : Nat), .int .u64 (h5 : Nat), .int .u64 (h6 : Nat), .int .u64 (h7 : Nat), .int .u64 (h8 : Nat), .int .u64 (h9 : Nat), .int .u64 (h10 : Nat), .int .u64 (h11 : Nat), .int .u64 (h12 : Nat), .slice As ns cs, .slice Ap np cp, .int .u64 (nm : Nat)] (by rfl) (by rfl) 42 #[.bool false, .bool false, .int .u8 0, .int .u8 0, .string ⟨#[]⟩, .int .u64 0, .int .u64 0, .int .u64 0, .int .u64 0, .int .u64 0, .int .u64 0, .int .u64 0, .int .u64 0, .int .u64 0, .int .u64 0, .int .u64 0, .int .u64 0, .int .u64 0, .slice none 0 0, .slice none 0 0, .int .u64 0] hT (by kernel_rfl) rfl (by simp [Value.oneCell']) ?_
  try simp only [Act.put, List.setIfInBounds_toArray, List.set_cons_zero, List.set_cons_succ]
  refine wpList_step (fun K hK => ?_)
  go_simp
  refine hK _ _ ?_
  clear hK K
  try simp only [Act.put, List.setIfInBounds_toArray, List.set_cons_zero, List.set_cons_succ]
  refine wpList_step (fun K hK => ?_)
  go_simp
  refine hK _ _ ?_
  clear hK K
  try simp only [Act.put, List.setIfInBounds_toArray, List.set_cons_zero, List.set_cons_succ]
  refine wpList_nil ?_
  exact HQ.out _ _ _ _ _ (setRow_heap' _ _ _ _ _ _ hT) (only_setRow _ _ _)
end Go.Proofs.Ytedocnidgiglaaa
