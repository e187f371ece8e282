/- The walk of NamesSections. Conditions: those written in each theorem. -/
import Derived.Test.YtedocnidgiglaaaTR
import Derived.Test.YtedocnidgiglaaaTS
namespace Go.Proofs.Ytedocnidgiglaaa
open Go.RowKit Go.WideShapes Go.ChangeShapes Go.ChangeAt
set_option linter.unusedVariables false
set_option maxRecDepth 1000000 in
set_option maxHeartbeats 2000000 in
theorem oreg7 (Q : Exit → Act → World → Prop) (c0 c1 c4 c5 c6 c7 c8 c9 c10 c11 c12 c13 c14 c15 c16 c17 c18 c19 c20 c21 c22 c23 c24 c25 c26 c27 c28 c29 c30 c31 c32 c33 c34 c35 c36 c37 c38 c39 c40 c41 c42 c43 c44 c45 c46 c47 c48 c49 c50 c51 c52 c53 c54 c55 c56 c57 c58 c59 c60 c61 c62 c63 c64 c65 c66 c67 c68 c69 c70 c71 c72 c73 c74 c75 c76 c77 c78 c79 c80 c81 c82 c83 c84 c85 c86 c87 c88 c89 c90 c91 c92 c93 c94 c95 c96 c97 c98 c99 c100 c101 c102 c103 c104 c105 c106 c107 c108 c109 c110 c111 c112 c113 c114 c115 c116 c117 c118 c119 c120 c121 c122 c123 c124 c125 c126 c127 c128 c129 c130 c131 c132 c133 c134 c135 c136 c137 c138 c139 c140 c141 c142 c143 c144 c145 c146 c147 c148 c149 c150 c151 c152 c153 c154 c155 c156 c157 c158 c159 c160 c161 c162 c163 c164 c165 c166 c167 c168 c169 c170 c171 c172 c173 c174 c175 c176 c177 c178 c179 c180 c181 c182 c183 c184 c185 c186 c187 c188 c189 c190 c191 c192 c193 : Value) (B m cap q2 ix nn : Nat) (p2 : Int) (A : Option Addr) (W : World) (cc2 : W.cell? ⟨B, 2, none⟩ = some (.int .i64 p2)) (hq2 : bits BinOp.and IntKind.i64 p2 7 = (q2 : Int)) (u2 : IntKind.u64.wrap (q2 : Int) = (q2 : Int)) (u4 : IntKind.i64.wrap ((m : Int) + 2) = (nn : Int)) (u5 : IntKind.u64.wrap (nn : Int) = (nn : Int)) (u7 : ((q2 : Int).tmod (nn : Int)) = (ix : Int)) (u6 : (q2 : Int) % (nn : Int) = (ix : Int)) (u8 : ((nn : Int) == 0) = false) (u0 : ¬ nn = 0)
    (hQ : ∀ (u41 u42 u43 u44 u45 u46 u47 u48 u49 : Value) (w' : World), W = w' → Q .normal ⟨#[c0, c1, .slice A m cap, .pointer (some ⟨B, 0, none⟩), c4, c5, c6, c7, .int .u64 (ix : Nat), c9, c10, c11, c12, c13, c14, c15, c16, c17, c18, c19, c20, c21, c22, c23, c24, c25, c26, c27, c28, c29, c30, c31, c32, c33, c34, c35, c36, c37, c38, c39, c40, u41, u42, u43, u44, u45, u46, u47, u48, u49, c50, c51, c52, c53, c54, c55, c56, c57, c58, c59, c60, c61, c62, c63, c64, c65, c66, c67, c68, c69, c70, c71, c72, c73, c74, c75, c76, c77, c78, c79, c80, c81, c82, c83, c84, c85, c86, c87, c88, c89, c90, c91, c92, c93, c94, c95, c96, c97, c98, c99, c100, c101, c102, c103, c104, c105, c106, c107, c108, c109, c110, c111, c112, c113, c114, c115, c116, c117, c118, c119, c120, c121, c122, c123, c124, c125, c126, c127, c128, c129, c130, c131, c132, c133, c134, c135, c136, c137, c138, c139, c140, c141, c142, c143, c144, c145, c146, c147, c148, c149, c150, c151, c152, c153, c154, c155, c156, c157, c158, c159, c160, c161, c162, c163, c164, c165, c166, c167, c168, c169, c170, c171, c172, c173, c174, c175, c176, c177, c178, c179, c180, c181, c182, c183, c184, c185, c186, c187, c188, c189, c190, c191, c192, c193], []⟩ w') :
    (Code.region 7 #[{ dst := some 41, op := Go.Op.indexAddr 75 (Go.Operand.tmp 3) (Go.Operand.const (Go.Value.int Go.IntKind.i64 2)), type := 0, pos := "law.go:54", after := #[], guard := none }, { dst := some 42, op := Go.Op.load 3 (Go.Operand.tmp 41), type := 3, pos := "law.go:54", after := #[{ on := 0, ground := Go.Ground.data }], guard := none }, { dst := some 43, op := Go.Op.binOp Go.BinOp.and 3 (Go.Operand.tmp 42) (Go.Operand.const (Go.Value.int Go.IntKind.i64 7)) 3, type := 3, pos := "law.go:54", after := #[{ on := 1, ground := Go.Ground.data }], guard := none }, { dst := some 44, op := Go.Op.convert 3 29 (Go.Operand.tmp 43), type := 29, pos := "law.go:54", after := #[{ on := 2, ground := Go.Ground.data }], guard := none }, { dst := some 45, op := Go.Op.move (Go.Operand.tmp 2), type := 76, pos := "law.go:54", after := #[], guard := none }, { dst := some 46, op := Go.Op.call { callee := Go.Callee.builtin Go.Builtin.len, args := #[Go.Operand.tmp 45], argTypes := #[76] }, type := 3, pos := "law.go:54", after := #[{ on := 4, ground := Go.Ground.data }], guard := none }, { dst := some 47, op := Go.Op.binOp Go.BinOp.add 3 (Go.Operand.tmp 46) (Go.Operand.const (Go.Value.int Go.IntKind.i64 2)) 3, type := 3, pos := "law.go:54", after := #[{ on := 5, ground := Go.Ground.data }], guard := none }, { dst := some 48, op := Go.Op.convert 3 29 (Go.Operand.tmp 47), type := 29, pos := "law.go:54", after := #[{ on := 6, ground := Go.Ground.data }], guard := none }, { dst := some 49, op := Go.Op.binOp Go.BinOp.rem 29 (Go.Operand.tmp 44) (Go.Operand.tmp 48) 29, type := 29, pos := "law.go:54", after := #[{ on := 3, ground := Go.Ground.data }, { on := 7, ground := Go.Ground.data }], guard := none }, { dst := some 8, op := Go.Op.assign (Go.Operand.tmp 49), type := 29, pos := "law.go:54", after := #[{ on := 8, ground := Go.Ground.data }, { on := 0, ground := Go.Ground.phase }, { on := 1, ground := Go.Ground.phase }, { on := 2, ground := Go.Ground.phase }, { on := 3, ground := Go.Ground.phase }, { on := 4, ground := Go.Ground.phase }, { on := 5, ground := Go.Ground.phase }, { on := 6, ground := Go.Ground.phase }, { on := 7, ground := Go.Ground.phase }, { on := 8, ground := Go.Ground.phase }], guard := none }] false).wp Try.prog Q ⟨#[c0, c1, .slice A m cap, .pointer (some ⟨B, 0, none⟩), c4, c5, c6, c7, c8, c9, c10, c11, c12, c13, c14, c15, c16, c17, c18, c19, c20, c21, c22, c23, c24, c25, c26, c27, c28, c29, c30, c31, c32, c33, c34, c35, c36, c37, c38, c39, c40, c41, c42, c43, c44, c45, c46, c47, c48, c49, c50, c51, c52, c53, c54, c55, c56, c57, c58, c59, c60, c61, c62, c63, c64, c65, c66, c67, c68, c69, c70, c71, c72, c73, c74, c75, c76, c77, c78, c79, c80, c81, c82, c83, c84, c85, c86, c87, c88, c89, c90, c91, c92, c93, c94, c95, c96, c97, c98, c99, c100, c101, c102, c103, c104, c105, c106, c107, c108, c109, c110, c111, c112, c113, c114, c115, c116, c117, c118, c119, c120, c121, c122, c123, c124, c125, c126, c127, c128, c129, c130, c131, c132, c133, c134, c135, c136, c137, c138, c139, c140, c141, c142, c143, c144, c145, c146, c147, c148, c149, c150, c151, c152, c153, c154, c155, c156, c157, c158, c159, c160, c161, c162, c163, c164, c165, c166, c167, c168, c169, c170, c171, c172, c173, c174, c175, c176, c177, c178, c179, c180, c181, c182, c183, c184, c185, c186, c187, c188, c189, c190, c191, c192, c193], []⟩ W := by
  try dsimp only at hQ ⊢
  have HQ := Lib.hid hQ; clear hQ
  refine wp_region_lit (l := [{ dst := some 41, op := Go.Op.indexAddr 75 (Go.Operand.tmp 3) (Go.Operand.const (Go.Value.int Go.IntKind.i64 2)), type := 0, pos := "law.go:54", after := #[], guard := none }, { dst := some 42, op := Go.Op.load 3 (Go.Operand.tmp 41), type := 3, pos := "law.go:54", after := #[{ on := 0, ground := Go.Ground.data }], guard := none }, { dst := some 43, op := Go.Op.binOp Go.BinOp.and 3 (Go.Operand.tmp 42) (Go.Operand.const (Go.Value.int Go.IntKind.i64 7)) 3, type := 3, pos := "law.go:54", after := #[{ on := 1, ground := Go.Ground.data }], guard := none }, { dst := some 44, op := Go.Op.convert 3 29 (Go.Operand.tmp 43), type := 29, pos := "law.go:54", after := #[{ on := 2, ground := Go.Ground.data }], guard := none }, { dst := some 45, op := Go.Op.move (Go.Operand.tmp 2), type := 76, pos := "law.go:54", after := #[], guard := none }, { dst := some 46, op := Go.Op.call { callee := Go.Callee.builtin Go.Builtin.len, args := #[Go.Operand.tmp 45], argTypes := #[76] }, type := 3, pos := "law.go:54", after := #[{ on := 4, ground := Go.Ground.data }], guard := none }, { dst := some 47, op := Go.Op.binOp Go.BinOp.add 3 (Go.Operand.tmp 46) (Go.Operand.const (Go.Value.int Go.IntKind.i64 2)) 3, type := 3, pos := "law.go:54", after := #[{ on := 5, ground := Go.Ground.data }], guard := none }, { dst := some 48, op := Go.Op.convert 3 29 (Go.Operand.tmp 47), type := 29, pos := "law.go:54", after := #[{ on := 6, ground := Go.Ground.data }], guard := none }, { dst := some 49, op := Go.Op.binOp Go.BinOp.rem 29 (Go.Operand.tmp 44) (Go.Operand.tmp 48) 29, type := 29, pos := "law.go:54", after := #[{ on := 3, ground := Go.Ground.data }, { on := 7, ground := Go.Ground.data }], guard := none }, { dst := some 8, op := Go.Op.assign (Go.Operand.tmp 49), type := 29, pos := "law.go:54", after := #[{ on := 8, ground := Go.Ground.data }, { on := 0, ground := Go.Ground.phase }, { on := 1, ground := Go.Ground.phase }, { on := 2, ground := Go.Ground.phase }, { on := 3, ground := Go.Ground.phase }, { on := 4, ground := Go.Ground.phase }, { on := 5, ground := Go.Ground.phase }, { on := 6, ground := Go.Ground.phase }, { on := 7, ground := Go.Ground.phase }, { on := 8, ground := Go.Ground.phase }], guard := none }]) ?_
  refine wpList_step (fun K hK => ?_)
  go_simp
  refine hK _ _ ?_
  clear hK K
  try simp only [Act.put, List.setIfInBounds_toArray, List.set_cons_zero, List.set_cons_succ]
  refine wpList_step (fun K hK => ?_)
  go_simp
  refine hK _ _ ?_
  clear hK K
  try simp only [Act.put, List.setIfInBounds_toArray, List.set_cons_zero, List.set_cons_succ]
  refine wpList_step (fun K hK => ?_)
  go_simp
  refine hK _ _ ?_
  clear hK K
  try simp only [Act.put, List.setIfInBounds_toArray, List.set_cons_zero, List.set_cons_succ]
  refine wpList_step (fun K hK => ?_)
  go_simp
  refine hK _ _ ?_
  clear hK K
  try simp only [Act.put, List.setIfInBounds_toArray, List.set_cons_zero, List.set_cons_succ]
  refine wpList_step (fun K hK => ?_)
  go_simp
  refine hK _ _ ?_
  clear hK K
  try simp only [Act.put, List.setIfInBounds_toArray, List.set_cons_zero, List.set_cons_succ]
  refine wpList_step (fun K hK => ?_)
  go_simp
  refine hK _ _ ?_
  clear hK K
  try simp only [Act.put, List.setIfInBounds_toArray, List.set_cons_zero, List.set_cons_succ]
  refine wpList_step (fun K hK => ?_)
  go_simp
  refine hK _ _ ?_
  clear hK K
  try simp only [Act.put, List.setIfInBounds_toArray, List.set_cons_zero, List.set_cons_succ]
  refine wpList_step (fun K hK => ?_)
  go_simp
  refine hK _ _ ?_
  clear hK K
  try simp only [Act.put, List.setIfInBounds_toArray, List.set_cons_zero, List.set_cons_succ]
  refine wpList_step (fun K hK => ?_)
  go_simp
  refine hK _ _ ?_
  clear hK K
  try simp only [Act.put, List.setIfInBounds_toArray, List.set_cons_zero, List.set_cons_succ]
  refine wpList_step (fun K hK => ?_)
  go_simp
  refine hK _ _ ?_
  clear hK K
  try simp only [Act.put, List.setIfInBounds_toArray, List.set_cons_zero, List.set_cons_succ]
  refine wpList_nil ?_
  exact HQ.out _ _ _ _ _ _ _ _ _ _ rfl
set_option maxRecDepth 1000000 in
set_option maxHeartbeats 2000000 in
theorem oreg12 (Q : Exit → Act → World → Prop) (c0 c1 c3 c4 c5 c6 c7 c8 c9 c10 c11 c12 c13 c14 c15 c16 c17 c18 c19 c20 c21 c22 c23 c24 c25 c26 c27 c28 c29 c30 c31 c32 c33 c34 c35 c36 c37 c38 c39 c40 c41 c42 c43 c44 c45 c46 c47 c48 c49 c50 c51 c52 c53 c54 c55 c56 c57 c58 c59 c60 c61 c62 c63 c64 c65 c66 c67 c68 c69 c70 c71 c72 c73 c74 c75 c76 c77 c78 c79 c80 c81 c82 c83 c84 c85 c86 c87 c88 c89 c90 c91 c92 c93 c94 c95 c96 c97 c98 c99 c100 c101 c102 c103 c104 c105 c106 c107 c108 c109 c110 c111 c112 c113 c114 c115 c116 c117 c118 c119 c120 c121 c122 c123 c124 c125 c126 c127 c128 c129 c130 c131 c132 c133 c134 c135 c136 c137 c138 c139 c140 c141 c142 c143 c144 c145 c146 c147 c148 c149 c150 c151 c152 c153 c154 c155 c156 c157 c158 c159 c160 c161 c162 c163 c164 c165 c166 c167 c168 c169 c170 c171 c172 c173 c174 c175 c176 c177 c178 c179 c180 c181 c182 c183 c184 c185 c186 c187 c188 c189 c190 c191 c192 c193 : Value) (m cap nn : Nat) (A : Option Addr) (R : Nat → Nat) (W : World) (hm : m ≤ 10) (hA : A = none → m = 0 ∧ cap = 0) (hnn : nn = m + 2) (hR : RowU W A m R)
    (hQ : ∀ (u69 u70 u71 : Value) (C : Option Addr) (cc : Nat) (w' : World), RowU w' C nn (allF R) → Below W.heap.size W w' → Q .normal ⟨#[c0, c1, .slice A m cap, c3, c4, c5, c6, c7, c8, c9, c10, c11, c12, c13, .slice C nn cc, c15, c16, c17, c18, c19, c20, c21, c22, c23, c24, c25, c26, c27, c28, c29, c30, c31, c32, c33, c34, c35, c36, c37, c38, c39, c40, c41, c42, c43, c44, c45, c46, c47, c48, c49, c50, c51, c52, c53, c54, c55, c56, c57, c58, c59, c60, c61, c62, c63, c64, c65, c66, c67, c68, u69, u70, u71, c72, c73, c74, c75, c76, c77, c78, c79, c80, c81, c82, c83, c84, c85, c86, c87, c88, c89, c90, c91, c92, c93, c94, c95, c96, c97, c98, c99, c100, c101, c102, c103, c104, c105, c106, c107, c108, c109, c110, c111, c112, c113, c114, c115, c116, c117, c118, c119, c120, c121, c122, c123, c124, c125, c126, c127, c128, c129, c130, c131, c132, c133, c134, c135, c136, c137, c138, c139, c140, c141, c142, c143, c144, c145, c146, c147, c148, c149, c150, c151, c152, c153, c154, c155, c156, c157, c158, c159, c160, c161, c162, c163, c164, c165, c166, c167, c168, c169, c170, c171, c172, c173, c174, c175, c176, c177, c178, c179, c180, c181, c182, c183, c184, c185, c186, c187, c188, c189, c190, c191, c192, c193], []⟩ w') :
    (Code.region 12 #[{ dst := some 69, op := Go.Op.buildSlice 76 2 #[(0, Go.Operand.const (Go.Value.int Go.IntKind.u64 0)), (1, Go.Operand.const (Go.Value.int Go.IntKind.u64 0))], type := 76, pos := "law.go:60", after := #[], guard := none }, { dst := some 70, op := Go.Op.move (Go.Operand.tmp 2), type := 76, pos := "law.go:60", after := #[], guard := none }, { dst := some 71, op := Go.Op.call { callee := Go.Callee.builtin Go.Builtin.append, args := #[Go.Operand.tmp 69, Go.Operand.tmp 70], argTypes := #[76, 76] }, type := 76, pos := "law.go:60", after := #[{ on := 0, ground := Go.Ground.data }, { on := 1, ground := Go.Ground.data }], guard := none }, { dst := some 14, op := Go.Op.assign (Go.Operand.tmp 71), type := 76, pos := "law.go:60", after := #[{ on := 2, ground := Go.Ground.data }, { on := 2, ground := Go.Ground.chain }, { on := 0, ground := Go.Ground.phase }, { on := 1, ground := Go.Ground.phase }, { on := 2, ground := Go.Ground.phase }], guard := none }] false).wp Try.prog Q ⟨#[c0, c1, .slice A m cap, c3, c4, c5, c6, c7, c8, c9, c10, c11, c12, c13, c14, c15, c16, c17, c18, c19, c20, c21, c22, c23, c24, c25, c26, c27, c28, c29, c30, c31, c32, c33, c34, c35, c36, c37, c38, c39, c40, c41, c42, c43, c44, c45, c46, c47, c48, c49, c50, c51, c52, c53, c54, c55, c56, c57, c58, c59, c60, c61, c62, c63, c64, c65, c66, c67, c68, c69, c70, c71, c72, c73, c74, c75, c76, c77, c78, c79, c80, c81, c82, c83, c84, c85, c86, c87, c88, c89, c90, c91, c92, c93, c94, c95, c96, c97, c98, c99, c100, c101, c102, c103, c104, c105, c106, c107, c108, c109, c110, c111, c112, c113, c114, c115, c116, c117, c118, c119, c120, c121, c122, c123, c124, c125, c126, c127, c128, c129, c130, c131, c132, c133, c134, c135, c136, c137, c138, c139, c140, c141, c142, c143, c144, c145, c146, c147, c148, c149, c150, c151, c152, c153, c154, c155, c156, c157, c158, c159, c160, c161, c162, c163, c164, c165, c166, c167, c168, c169, c170, c171, c172, c173, c174, c175, c176, c177, c178, c179, c180, c181, c182, c183, c184, c185, c186, c187, c188, c189, c190, c191, c192, c193], []⟩ W := by
  try dsimp only at hQ ⊢
  have HQ := Lib.hid hQ; clear hQ
  refine wp_region_lit (l := [{ dst := some 69, op := Go.Op.buildSlice 76 2 #[(0, Go.Operand.const (Go.Value.int Go.IntKind.u64 0)), (1, Go.Operand.const (Go.Value.int Go.IntKind.u64 0))], type := 76, pos := "law.go:60", after := #[], guard := none }, { dst := some 70, op := Go.Op.move (Go.Operand.tmp 2), type := 76, pos := "law.go:60", after := #[], guard := none }, { dst := some 71, op := Go.Op.call { callee := Go.Callee.builtin Go.Builtin.append, args := #[Go.Operand.tmp 69, Go.Operand.tmp 70], argTypes := #[76, 76] }, type := 76, pos := "law.go:60", after := #[{ on := 0, ground := Go.Ground.data }, { on := 1, ground := Go.Ground.data }], guard := none }, { dst := some 14, op := Go.Op.assign (Go.Operand.tmp 71), type := 76, pos := "law.go:60", after := #[{ on := 2, ground := Go.Ground.data }, { on := 2, ground := Go.Ground.chain }, { on := 0, ground := Go.Ground.phase }, { on := 1, ground := Go.Ground.phase }, { on := 2, ground := Go.Ground.phase }], guard := none }]) ?_
  refine wpList_step (fun K hK => ?_)
  go_simp
  refine hK _ _ ?_
  clear hK K
  try simp only [Act.put, List.setIfInBounds_toArray, List.set_cons_zero, List.set_cons_succ]
  have hO := two_own W
  have hB1 := below_more (Below.refl W.heap.size W) (.cells #[.int .u64 0, .int .u64 0] 29)
  have hR1 := hR.low hB1
  have HNN := Lib.hid hnn
  clear hnn
  refine wpList_step (fun K hK => ?_)
  go_simp
  refine hK _ _ ?_
  clear hK K
  try simp only [Act.put, List.setIfInBounds_toArray, List.set_cons_zero, List.set_cons_succ]
  refine wpList_step (fun K hK => ?_)
  refine app_u (W0 := W) _ _ rfl W.heap.size _ rfl hO (by simp) hB1 (Nat.le_refl _) A m cap R (by omega) rfl hA hR1 (fun v' u' hown hB2 => ?_)
  rw [← HNN.out] at hown
  obtain ⟨C, cc, rfl, hRC⟩ := own_rowU hown
  clear hown hO hR1
  refine hK _ _ ?_
  clear hK K
  try simp only [Act.put, List.setIfInBounds_toArray, List.set_cons_zero, List.set_cons_succ]
  refine wpList_step (fun K hK => ?_)
  go_simp
  refine hK _ _ ?_
  clear hK K
  try simp only [Act.put, List.setIfInBounds_toArray, List.set_cons_zero, List.set_cons_succ]
  refine wpList_nil ?_
  exact HQ.out _ _ _ _ _ _ hRC hB2
def PSec (f : Nat → Nat → Nat) (n : Nat) (s : ByteArray) (nm : Nat) (W : World) (v : Value) (k : Int) (w' : World) : Prop :=
  ((nmOk f n nm ∧ allB (tabN f n s nm) (fun i => f i 0) n = true) ∧ k = 0 ∧ ∃ b, v = .slice (some ⟨b, 0, none⟩) n n ∧ RowS w' (some ⟨b, 0, none⟩) n (fun i => strAt (tabN f n s nm) (f i 0))) ∨
  ((¬ nmOk f n nm ∨ allB (tabN f n s nm) (fun i => f i 0) n = false) ∧ k = 12 ∧ v = .slice none 0 0)
theorem psec_of {f : Nat → Nat → Nat} {n : Nat} {s : ByteArray} {nm : Nat} {W : World} {e : Ending} {w' : World} (h : NSecPost f n s nm W e w') : Below W.heap.size W w' ∧ ∃ v k, PSec f n s nm W v k w' ∧ e = .returned (.tuple #[v, .int .i64 k]) := by
  obtain ⟨hB, ⟨h1, h2, b, hb, he, hr⟩ | ⟨h1, he⟩⟩ := h
  · exact ⟨hB, _, _, .inl ⟨⟨h1, h2⟩, rfl, b, rfl, rowS_of_block hr⟩, he⟩
  · exact ⟨hB, _, _, .inr ⟨h1, rfl, rfl⟩, he⟩
theorem PSec.low {f : Nat → Nat → Nat} {n : Nat} {s : ByteArray} {nm : Nat} {W : World} {v : Value} {k : Int} {w1 w2 : World} (h : PSec f n s nm W v k w1) (hb : Below w1.heap.size w1 w2) : PSec f n s nm W v k w2 := by
  rcases h with ⟨h1, h2, b, h3, h4⟩ | h
  · exact .inl ⟨h1, h2, b, h3, h4.low hb⟩
  · exact .inr h
theorem tabS_none {f : Nat → Nat → Nat} {n : Nat} {s : ByteArray} {i : Nat} (h : tabE f n i = 14) : tabS f n s i = ⟨#[]⟩ := by
  unfold tabE at h
  unfold tabS
  split at h
  · cases h
  · rw [if_neg (by assumption)]
theorem nsec_f0 {f : Nat → Nat → Nat} {kd bg ts nn : Nat} {R : Nat → Nat} (hf : ∀ j, j < nn → ∀ k, k < 10 → f j k = (recN kd bg ts R j).getD k 0) (j : Nat) (hj : j < nn) : f j 0 = allF R j := by
  rw [hf j hj 0 (by decide)]
  match j with
  | 0 => rfl
  | 1 => rfl
  | i + 2 => show R i = _; unfold allF; rw [if_neg (by omega)]; rfl
theorem nsec_f1 {f : Nat → Nat → Nat} {kd bg ts nn : Nat} {R : Nat → Nat} (hf : ∀ j, j < nn → ∀ k, k < 10 → f j k = (recN kd bg ts R j).getD k 0) (j : Nat) (hj : j < nn) : f j 1 = if j = 0 then 0 else if j = 1 then kd else 8 := by
  rw [hf j hj 1 (by decide)]
  match j with
  | 0 => rfl
  | 1 => rfl
  | i + 2 => show 8 = _; rw [if_neg (by omega), if_neg (by omega)]
theorem nsec_E {f : Nat → Nat → Nat} {kd bg ts nn : Nat} {R : Nat → Nat} (hf : ∀ j, j < nn → ∀ k, k < 10 → f j k = (recN kd bg ts R j).getD k 0) (hn : 2 ≤ nn) (i : Nat) : tabE f nn i = if i = 1 ∧ kd = 3 then 0 else 14 := by
  unfold tabE
  by_cases hi : i < nn
  · have h1 := nsec_f1 hf i hi
    by_cases h2 : i = 1 ∧ kd = 3
    · rw [if_pos h2, if_pos ⟨hi, by rw [h1, if_neg (by omega), if_pos h2.1]; exact h2.2⟩]
    · rw [if_neg h2, if_neg]
      rintro ⟨_, h3⟩
      rw [h1] at h3
      split at h3
      · omega
      · split at h3
        · exact h2 ⟨by assumption, h3⟩
        · omega
  · rw [if_neg (fun h => hi h.1), if_neg (fun h => by omega)]
theorem nsec_S {f : Nat → Nat → Nat} {kd bg nn : Nat} {R : Nat → Nat} {T x : ByteArray} (hf : ∀ j, j < nn → ∀ k, k < 10 → f j k = (recN kd bg T.size R j).getD k 0) (hn : 2 ≤ nn) (hkd : kd = 3) (hx : x.extract bg (bg + T.size) = T) (hs : bg + T.size ≤ x.size) : tabS f nn x 1 = T := by
  have h1 : f 1 1 = 3 := by rw [hf 1 (by omega) 1 (by decide)]; exact hkd
  have h4 : f 1 4 = bg := hf 1 (by omega) 4 (by decide)
  have h5 : f 1 5 = T.size := hf 1 (by omega) 5 (by decide)
  unfold tabS dataS
  rw [if_pos ⟨by omega, h1⟩, h4, h5, if_pos ⟨by omega, by omega, hs⟩, hx]
theorem allB_one {R : Nat → Nat} {n : Nat} (h : ∀ i, i < n → R i = 0) : allB ⟨#[0]⟩ R n = true := by
  unfold allB
  rw [List.all_eq_true]
  intro i hi
  rw [okT_one, h i (List.mem_range.1 hi)]; rfl
theorem allB_two {R : Nat → Nat} {n i : Nat} (hi : i < n) (h : ¬ R i = 0) : allB ⟨#[0]⟩ R n = false := allB_no i hi (by rw [okT_one, decide_eq_false h])
end Go.Proofs.Ytedocnidgiglaaa
