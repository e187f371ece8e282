/- Regions of file of layer 11. Conditions: those written in each theorem. More regions of file of layer 11. Conditions: those written in each theorem. The contract of file of layer 11. Conditions: those written in each theorem. The contract of file of layer 11. Conditions: those written in each theorem. -/
import Derived.Test.YtedocnidgiglaaaTJ
import Derived.Test.YtedocnidgiglaaaJD
import Derived.Laws.OwnMore
import Derived.Test.YtedocnidgiglaaaNF
import Derived.Deep.CutBlock
import Derived.Deep.DeepCutAuto
import Derived.Test.YtedocnidgiglaaaEK
namespace Go.Proofs.Ytedocnidgiglaaa
open Go.RowKit
set_option linter.unusedVariables false
theorem infoR : (Try.prog.info? 52).map (fun i => (i.zero, i.size, i.bytes)) = some (some (.agg #[.int .u64 0, .int .u64 0, .int .u64 0, .int .u64 0, .int .u64 0, .int .u64 0, .int .u64 0, .int .u64 0, .int .u64 0, .int .u64 0]), 10, 80) := by kernel_rfl
/-- One record appended to a row of the call's own. -/
theorem app_rec {o : Oper} {ac : Act} {K : Act → World → Prop} {Q : Exit → Act → World → Prop} {W0 u : World} (s x : Operand) (ho : o.op = .call { callee := .builtin .append, args := #[s, x], argTypes := #[39, 39] })
    (base : Nat) (v : Value) (n : Nat) (xs : List Value) (hs : ac.eval s = v) (hown : u.ownsRow base 52 10 v n xs) (hbase : base ≤ u.heap.size) (hB : Below W0.heap.size W0 u) (h0 : W0.heap.size ≤ base) (hn : n ≤ 100)
    (b : Nat) (vs : List Value) (hx : ac.eval x = .slice (some ⟨b, 0, none⟩) 1 1) (hb : u.heap[b]? = some (.cells vs.toArray 52 (0, 0))) (hvs : vs.length = 10 ∧ ∀ z ∈ vs, z.oneCell' = true)
    (h : ∀ v' u', u'.ownsRow base 52 10 v' (n + 1) (xs ++ vs) → Below W0.heap.size W0 u' → Below base u u' → (∀ k, k < u.heap.size → v.ownBlock ≠ some k → u'.heap[k]? = u.heap[k]?) → K (ac.put o.dst v') u') : o.wp Try.prog ac u K Q := by
  obtain ⟨i0, hi, hz0, hz1, hz2⟩ := info_parts infoR
  refine wp_append_own u s x 39 ho base 52 i0 (.agg #[.int .u64 0, .int .u64 0, .int .u64 0, .int .u64 0, .int .u64 0, .int .u64 0, .int .u64 0, .int .u64 0, .int .u64 0, .int .u64 0]) 10 80 Try.underlying39 hi hz0 hz1 hz2 rfl (by decide) v n xs hs hown ⟨b, 0, none⟩ 1 1 vs hx (by rw [hvs.1, Nat.one_mul]) (fun j z hj => ?_) (fun z hz => ?_) (by unfold maxLen; omega) (by omega) hbase (fun v' u' hown' hg _ => ?_)
  · rw [Go.WideShapes.add_plain, Nat.zero_add, Lib.cell_of_heap hb]
    simpa using hj
  · exact hvs.2 z hz
  · exact h v' u' hown' (hB.grown hg (by omega) (fun k hk => Nat.le_trans h0 (own_floor hown k hk))) ((Below.refl _ _).grown hg hbase (fun k hk => own_floor hown k hk)) (fun k hk hne => hg.block _ hk (fun e => hne e.symm))
set_option maxRecDepth 1000000 in
set_option maxHeartbeats 2000000 in
theorem freg5 (Q : Exit → Act → World → Prop) (c0 c1 c2 c3 c4 c5 c6 c7 c8 c10 c11 c12 c13 c14 c15 c16 c17 c18 c19 c20 c21 c22 c23 c24 c25 c26 c27 c28 c29 c30 c31 c32 c33 c34 c35 c36 c37 c38 c39 c40 c41 c42 c43 c44 c45 c46 c47 c48 c49 c50 c51 c52 c53 c54 c55 c56 c57 c58 c59 c60 c61 c62 c63 c64 c65 c66 c67 c68 c69 c70 c71 c72 c73 c74 c75 c76 c77 c78 c79 c80 c81 c82 c83 c84 c85 c86 c87 c88 c89 c90 c91 c92 c93 c94 c95 c96 c97 c98 c99 c100 c101 c102 c103 c104 c105 c106 c107 c108 c109 c110 c111 c112 c113 c114 c115 c116 c117 c118 c119 c120 c121 c122 c123 c124 c125 c126 c127 c128 c129 c130 c131 c132 c133 c134 c135 c136 c137 c138 c139 c140 c141 c142 c143 c144 c145 c146 c147 c148 c149 c150 c151 c152 c153 c154 c155 c156 c157 c158 c159 c160 c161 c162 c163 c164 c165 c166 c167 c168 c169 c170 c171 c172 c173 c174 c175 c176 c177 c178 c179 c180 c181 c182 c183 c184 c185 c186 c187 c188 c189 c190 c191 c192 c193 c194 c195 c196 c197 c198 c199 c200 c201 c202 : Value) (big wide : Bool) (F eh ph sh : Nat) (W : World) (cF0 : W.cell? ⟨F, 0, none⟩ = some (.bool big)) (cF1 : W.cell? ⟨F, 1, none⟩ = some (.bool wide))
    (HC : Hid (∀ u, Calls Try.prog 45 #[.agg #[.bool big, .bool wide]] u fun e w' => e = .returned (.agg #[.int .u64 0, .int .u64 0, .int .u64 1, .int .u64 0, .int .u64 0, .int .u64 0, .int .u64 0, .int .u64 (eh : Nat), .int .u64 (ph : Nat), .int .u64 0, .int .u64 (sh : Nat), .int .u64 0, .int .u64 0]) ∧ Below u.heap.size u w'))
    (hQ : ∀ (u33 u34 : Value) (H : Nat) (w' : World), w'.heap[H]? = some (.cells #[.int .u64 0, .int .u64 0, .int .u64 1, .int .u64 0, .int .u64 0, .int .u64 0, .int .u64 0, .int .u64 (eh : Nat), .int .u64 (ph : Nat), .int .u64 0, .int .u64 (sh : Nat), .int .u64 0, .int .u64 0] 38 (0, 0)) → W.heap.size ≤ H → Below W.heap.size W w' → Q .normal ⟨#[c0, c1, c2, c3, c4, c5, c6, c7, c8, .pointer (some ⟨F, 0, none⟩), c10, c11, c12, .pointer (some ⟨H, 0, none⟩), c14, c15, c16, c17, c18, c19, c20, c21, c22, c23, c24, c25, c26, c27, c28, c29, c30, c31, c32, u33, u34, c35, c36, c37, c38, c39, c40, c41, c42, c43, c44, c45, c46, c47, c48, c49, c50, c51, c52, c53, c54, c55, c56, c57, c58, c59, c60, c61, c62, c63, c64, c65, c66, c67, c68, c69, c70, c71, c72, c73, c74, c75, c76, c77, c78, c79, c80, c81, c82, c83, c84, c85, c86, c87, c88, c89, c90, c91, c92, c93, c94, c95, c96, c97, c98, c99, c100, c101, c102, c103, c104, c105, c106, c107, c108, c109, c110, c111, c112, c113, c114, c115, c116, c117, c118, c119, c120, c121, c122, c123, c124, c125, c126, c127, c128, c129, c130, c131, c132, c133, c134, c135, c136, c137, c138, c139, c140, c141, c142, c143, c144, c145, c146, c147, c148, c149, c150, c151, c152, c153, c154, c155, c156, c157, c158, c159, c160, c161, c162, c163, c164, c165, c166, c167, c168, c169, c170, c171, c172, c173, c174, c175, c176, c177, c178, c179, c180, c181, c182, c183, c184, c185, c186, c187, c188, c189, c190, c191, c192, c193, c194, c195, c196, c197, c198, c199, c200, c201, c202], []⟩ w') :
    (Code.region 5 #[⟨some 33, .load 34 (.tmp 9), 34, "law.go:31", #[], none⟩, ⟨some 34, .call { callee := .value (.func 45), args := #[.tmp 33], argTypes := #[34] }, 38, "law.go:31", #[⟨0, .data⟩], none⟩, ⟨some 13, .alloc 38, 0, "law.go:31", #[], none⟩, ⟨none, .store 38 (.tmp 13) (.tmp 34), 0, "law.go:31", #[⟨2, .data⟩, ⟨1, .data⟩, ⟨1, .chain⟩, ⟨0, .phase⟩, ⟨1, .phase⟩, ⟨2, .phase⟩], none⟩] false).wp Try.prog Q ⟨#[c0, c1, c2, c3, c4, c5, c6, c7, c8, .pointer (some ⟨F, 0, none⟩), c10, c11, c12, c13, c14, c15, c16, c17, c18, c19, c20, c21, c22, c23, c24, c25, c26, c27, c28, c29, c30, c31, c32, c33, c34, c35, c36, c37, c38, c39, c40, c41, c42, c43, c44, c45, c46, c47, c48, c49, c50, c51, c52, c53, c54, c55, c56, c57, c58, c59, c60, c61, c62, c63, c64, c65, c66, c67, c68, c69, c70, c71, c72, c73, c74, c75, c76, c77, c78, c79, c80, c81, c82, c83, c84, c85, c86, c87, c88, c89, c90, c91, c92, c93, c94, c95, c96, c97, c98, c99, c100, c101, c102, c103, c104, c105, c106, c107, c108, c109, c110, c111, c112, c113, c114, c115, c116, c117, c118, c119, c120, c121, c122, c123, c124, c125, c126, c127, c128, c129, c130, c131, c132, c133, c134, c135, c136, c137, c138, c139, c140, c141, c142, c143, c144, c145, c146, c147, c148, c149, c150, c151, c152, c153, c154, c155, c156, c157, c158, c159, c160, c161, c162, c163, c164, c165, c166, c167, c168, c169, c170, c171, c172, c173, c174, c175, c176, c177, c178, c179, c180, c181, c182, c183, c184, c185, c186, c187, c188, c189, c190, c191, c192, c193, c194, c195, c196, c197, c198, c199, c200, c201, c202], []⟩ W := by
  try dsimp only at hQ ⊢
  have HQ := Lib.hid hQ; clear hQ
  refine wp_region_lit (l := _) ?_
  refine wpList_step (fun K hK => ?_)
  go_simp
  refine hK _ _ ?_
  clear hK K
  try simp only [Act.put, List.setIfInBounds_toArray, List.set_cons_zero, List.set_cons_succ]
  refine wpList_step (fun K hK => ?_)
  (first | go_at_call 45 | (go_simp; go_at_call 45))
  refine (HC.out _).mono ?_
  rintro e w4 ⟨rfl, b4⟩
  try go_simp
  refine hK _ _ ?_
  clear hK K
  try simp only [Act.put, List.setIfInBounds_toArray, List.set_cons_zero, List.set_cons_succ]
  clear cF0 cF1
  refine wpList_step (fun K hK => ?_)
  go_simp
  refine hK _ _ ?_
  clear hK K
  try simp only [Act.put, List.setIfInBounds_toArray, List.set_cons_zero, List.set_cons_succ]
  have hT := heap_alloc_new w4 (.cells #[.int .u64 0, .int .u64 0, .int .u64 0, .int .u64 0, .int .u64 0, .int .u64 0, .int .u64 0, .int .u64 0, .int .u64 0, .int .u64 0, .int .u64 0, .int .u64 0, .int .u64 0] 38)
  refine wpList_store_rowTo rfl 38 _ _ rfl rfl w4.heap.size #[.int .u64 0, .int .u64 0, .int .u64 1, .int .u64 0, .int .u64 0, .int .u64 0, .int .u64 0, .int .u64 (eh : Nat), .int .u64 (ph : Nat), .int .u64 0, .int .u64 (sh : Nat), .int .u64 0, .int .u64 0] (by rfl) (by rfl) 38 #[.int .u64 0, .int .u64 0, .int .u64 0, .int .u64 0, .int .u64 0, .int .u64 0, .int .u64 0, .int .u64 0, .int .u64 0, .int .u64 0, .int .u64 0, .int .u64 0, .int .u64 0] hT (by kernel_rfl) rfl (by simp [Value.oneCell']) ?_
  try simp only [Act.put, List.setIfInBounds_toArray, List.set_cons_zero, List.set_cons_succ]
  refine wpList_nil ?_
  exact HQ.out _ _ _ _ (setRow_heap' _ _ _ _ _ _ hT) b4.size (setRow_below (b4.alloc b4.size _) b4.size _)
set_option maxRecDepth 1000000 in
set_option maxHeartbeats 2000000 in
theorem freg6 (Q : Exit → Act → World → Prop) (c0 c2 c3 c4 c5 c6 c7 c8 c9 c10 c11 c12 c14 c15 c16 c17 c18 c19 c20 c21 c22 c23 c24 c25 c26 c27 c28 c29 c30 c31 c32 c33 c34 c35 c36 c37 c38 c39 c40 c41 c42 c43 c44 c45 c46 c47 c48 c49 c50 c51 c52 c53 c54 c55 c56 c57 c58 c59 c60 c61 c62 c63 c64 c65 c66 c67 c68 c69 c70 c71 c72 c73 c74 c75 c76 c77 c78 c79 c80 c81 c82 c83 c84 c85 c86 c87 c88 c89 c90 c91 c92 c93 c94 c95 c96 c97 c98 c99 c100 c101 c102 c103 c104 c105 c106 c107 c108 c109 c110 c111 c112 c113 c114 c115 c116 c117 c118 c119 c120 c121 c122 c123 c124 c125 c126 c127 c128 c129 c130 c131 c132 c133 c134 c135 c136 c137 c138 c139 c140 c141 c142 c143 c144 c145 c146 c147 c148 c149 c150 c151 c152 c153 c154 c155 c156 c157 c158 c159 c160 c161 c162 c163 c164 c165 c166 c167 c168 c169 c170 c171 c172 c173 c174 c175 c176 c177 c178 c179 c180 c181 c182 c183 c184 c185 c186 c187 c188 c189 c190 c191 c192 c193 c194 c195 c196 c197 c198 c199 c200 c201 c202 : Value) (H n cap sn eh ph sh : Nat) (A : Option Addr) (W : World) (hH : W.heap[H]? = some (.cells #[.int .u64 0, .int .u64 0, .int .u64 1, .int .u64 0, .int .u64 0, .int .u64 0, .int .u64 0, .int .u64 (eh : Nat), .int .u64 (ph : Nat), .int .u64 0, .int .u64 (sh : Nat), .int .u64 0, .int .u64 0] 38 (0, 0))) (e1 : IntKind.i64.wrap ((n : Int) + 1) = (sn : Int)) (e2 : IntKind.u64.wrap (sn : Int) = (sn : Int))
    (hQ : ∀ (u35 u36 u37 u38 u39 : Value) (w' : World), w'.heap[H]? = some (.cells #[.int .u64 0, .int .u64 0, .int .u64 1, .int .u64 0, .int .u64 0, .int .u64 0, .int .u64 0, .int .u64 (eh : Nat), .int .u64 (ph : Nat), .int .u64 0, .int .u64 (sh : Nat), .int .u64 (sn : Nat), .int .u64 0] 38 (0, 0)) → OnlyAt H W w' → Q .normal ⟨#[c0, .slice A n cap, c2, c3, c4, c5, c6, c7, c8, c9, c10, c11, c12, .pointer (some ⟨H, 0, none⟩), c14, c15, c16, c17, c18, c19, c20, c21, c22, c23, c24, c25, c26, c27, c28, c29, c30, c31, c32, c33, c34, u35, u36, u37, u38, u39, c40, c41, c42, c43, c44, c45, c46, c47, c48, c49, c50, c51, c52, c53, c54, c55, c56, c57, c58, c59, c60, c61, c62, c63, c64, c65, c66, c67, c68, c69, c70, c71, c72, c73, c74, c75, c76, c77, c78, c79, c80, c81, c82, c83, c84, c85, c86, c87, c88, c89, c90, c91, c92, c93, c94, c95, c96, c97, c98, c99, c100, c101, c102, c103, c104, c105, c106, c107, c108, c109, c110, c111, c112, c113, c114, c115, c116, c117, c118, c119, c120, c121, c122, c123, c124, c125, c126, c127, c128, c129, c130, c131, c132, c133, c134, c135, c136, c137, c138, c139, c140, c141, c142, c143, c144, c145, c146, c147, c148, c149, c150, c151, c152, c153, c154, c155, c156, c157, c158, c159, c160, c161, c162, c163, c164, c165, c166, c167, c168, c169, c170, c171, c172, c173, c174, c175, c176, c177, c178, c179, c180, c181, c182, c183, c184, c185, c186, c187, c188, c189, c190, c191, c192, c193, c194, c195, c196, c197, c198, c199, c200, c201, c202], []⟩ w') :
    (Code.region 6 #[⟨some 35, .move (.tmp 1), 22, "law.go:32", #[], none⟩, ⟨some 36, .call { callee := .builtin .len, args := #[.tmp 35], argTypes := #[22] }, 3, "law.go:32", #[⟨0, .data⟩], none⟩, ⟨some 37, .binOp .add 3 (.tmp 36) (.const (.int .i64 1)) 3, 3, "law.go:32", #[⟨1, .data⟩], none⟩, ⟨some 38, .convert 3 29 (.tmp 37), 29, "law.go:32", #[⟨2, .data⟩], none⟩, ⟨some 39, .fieldAddr 38 (.tmp 13) 11, 0, "law.go:32", #[⟨0, .phase⟩, ⟨1, .phase⟩, ⟨2, .phase⟩, ⟨3, .phase⟩], none⟩, ⟨none, .store 29 (.tmp 39) (.tmp 38), 0, "law.go:32", #[⟨4, .data⟩, ⟨3, .data⟩, ⟨0, .phase⟩, ⟨1, .phase⟩, ⟨2, .phase⟩, ⟨3, .phase⟩], none⟩] false).wp Try.prog Q ⟨#[c0, .slice A n cap, c2, c3, c4, c5, c6, c7, c8, c9, c10, c11, c12, .pointer (some ⟨H, 0, none⟩), c14, c15, c16, c17, c18, c19, c20, c21, c22, c23, c24, c25, c26, c27, c28, c29, c30, c31, c32, c33, c34, c35, c36, c37, c38, c39, c40, c41, c42, c43, c44, c45, c46, c47, c48, c49, c50, c51, c52, c53, c54, c55, c56, c57, c58, c59, c60, c61, c62, c63, c64, c65, c66, c67, c68, c69, c70, c71, c72, c73, c74, c75, c76, c77, c78, c79, c80, c81, c82, c83, c84, c85, c86, c87, c88, c89, c90, c91, c92, c93, c94, c95, c96, c97, c98, c99, c100, c101, c102, c103, c104, c105, c106, c107, c108, c109, c110, c111, c112, c113, c114, c115, c116, c117, c118, c119, c120, c121, c122, c123, c124, c125, c126, c127, c128, c129, c130, c131, c132, c133, c134, c135, c136, c137, c138, c139, c140, c141, c142, c143, c144, c145, c146, c147, c148, c149, c150, c151, c152, c153, c154, c155, c156, c157, c158, c159, c160, c161, c162, c163, c164, c165, c166, c167, c168, c169, c170, c171, c172, c173, c174, c175, c176, c177, c178, c179, c180, c181, c182, c183, c184, c185, c186, c187, c188, c189, c190, c191, c192, c193, c194, c195, c196, c197, c198, c199, c200, c201, c202], []⟩ W := by
  try dsimp only at hQ ⊢
  have HQ := Lib.hid hQ; clear hQ
  refine wp_region_lit (l := _) ?_
  refine wpList_step (fun K hK => ?_)
  go_simp
  refine hK _ _ ?_
  clear hK K
  try simp only [Act.put, List.setIfInBounds_toArray, List.set_cons_zero, List.set_cons_succ]
  refine wpList_step (fun K hK => ?_)
  go_simp
  refine hK _ _ ?_
  clear hK K
  try simp only [Act.put, List.setIfInBounds_toArray, List.set_cons_zero, List.set_cons_succ]
  refine wpList_step (fun K hK => ?_)
  go_simp
  refine hK _ _ ?_
  clear hK K
  try simp only [Act.put, List.setIfInBounds_toArray, List.set_cons_zero, List.set_cons_succ]
  refine wpList_step (fun K hK => ?_)
  go_simp
  refine hK _ _ ?_
  clear hK K
  try simp only [Act.put, List.setIfInBounds_toArray, List.set_cons_zero, List.set_cons_succ]
  refine wpList_step (fun K hK => ?_)
  go_simp
  refine hK _ _ ?_
  clear hK K
  try simp only [Act.put, List.setIfInBounds_toArray, List.set_cons_zero, List.set_cons_succ]
  have cP : W.cell? ⟨H, 11, none⟩ = some (.int .u64 0) := by rw [Lib.cell_of_heap hH]; rfl
  have fP : W.frozen? ⟨H, 11, none⟩ = false := Lib.frozen_of_heap hH 11
  refine wpList_step (fun K hK => ?_)
  go_simp
  refine hK _ _ ?_
  clear hK K
  try simp only [Act.put, List.setIfInBounds_toArray, List.set_cons_zero, List.set_cons_succ]
  have hH1 : (W.setCell ⟨H, 11, none⟩ (.int .u64 (sn : Nat))).heap[H]? = some (.cells #[.int .u64 0, .int .u64 0, .int .u64 1, .int .u64 0, .int .u64 0, .int .u64 0, .int .u64 0, .int .u64 (eh : Nat), .int .u64 (ph : Nat), .int .u64 0, .int .u64 (sh : Nat), .int .u64 (sn : Nat), .int .u64 0] 38 (0, 0)) := by have q := Lib.heap_setCell_same (i := 11) hH (.int .u64 (sn : Nat)); simpa using q
  have OhH1 := OnlyAt.setCell H 11 W (.int .u64 (sn : Nat))
  generalize W.setCell ⟨H, 11, none⟩ (.int .u64 (sn : Nat)) = W1 at *
  clear cP fP
  refine wpList_nil ?_
  exact HQ.out _ _ _ _ _ _ hH1 OhH1
set_option maxRecDepth 1000000 in
set_option maxHeartbeats 2000000 in
theorem freg19 (Q : Exit → Act → World → Prop) (c0 c1 c2 c3 c4 c5 c6 c7 c8 c9 c10 c14 c15 c16 c17 c18 c19 c20 c21 c22 c23 c24 c25 c26 c27 c28 c29 c30 c31 c32 c33 c34 c35 c36 c37 c38 c39 c40 c41 c42 c43 c44 c45 c46 c47 c48 c49 c50 c51 c52 c53 c54 c55 c56 c57 c58 c59 c60 c61 c62 c63 c64 c65 c66 c67 c68 c69 c70 c71 c72 c73 c74 c75 c76 c77 c78 c79 c80 c81 c82 c83 c84 c85 c86 c87 c88 c89 c90 c91 c92 c93 c94 c95 c96 c97 c98 c99 c100 c101 c102 c103 c104 c105 c106 c107 c108 c109 c110 c111 c112 c113 c114 c115 c116 c117 c118 c119 c120 c121 c122 c123 c124 c125 c126 c127 c128 c129 c130 c131 c132 c133 c134 c135 c136 c137 c138 c139 c140 c141 c142 c143 c144 c145 c146 c147 c148 c149 c150 c151 c152 c153 c154 c155 c156 c157 c158 c159 c160 c161 c162 c163 c164 c165 c166 c167 c168 c169 c170 c171 c172 c173 c174 c175 c176 c177 c178 c179 c180 c181 c182 c183 c184 c185 c186 c187 c188 c189 c190 c191 c192 c193 c194 c195 c196 c197 c198 c199 c200 c201 c202 : Value) (bg s2 : Nat) (bd : ByteArray) (H eh ph sh : Nat) (po so pn sn nm : Nat) (W : World) (hH : W.heap[H]? = some (.cells #[.int .u64 0, .int .u64 0, .int .u64 1, .int .u64 0, .int .u64 (po : Nat), .int .u64 (so : Nat), .int .u64 0, .int .u64 (eh : Nat), .int .u64 (ph : Nat), .int .u64 (pn : Nat), .int .u64 (sh : Nat), .int .u64 (sn : Nat), .int .u64 (nm : Nat)] 38 (0, 0))) (e1 : IntKind.u64.wrap (bd.size : Int) = (bd.size : Int)) (e2 : IntKind.u64.wrap ((bg : Int) + (bd.size : Int)) = (s2 : Int))
    (hQ : ∀ (u119 u120 u121 u122 u123 u124 : Value) (w' : World), w'.heap[H]? = some (.cells #[.int .u64 0, .int .u64 0, .int .u64 1, .int .u64 0, .int .u64 (po : Nat), .int .u64 (s2 : Nat), .int .u64 0, .int .u64 (eh : Nat), .int .u64 (ph : Nat), .int .u64 (pn : Nat), .int .u64 (sh : Nat), .int .u64 (sn : Nat), .int .u64 (nm : Nat)] 38 (0, 0)) → OnlyAt H W w' → Q .normal ⟨#[c0, c1, c2, c3, c4, c5, c6, c7, c8, c9, c10, .string bd, .int .u64 (bg : Nat), .pointer (some ⟨H, 0, none⟩), c14, c15, c16, c17, c18, c19, c20, c21, c22, c23, c24, c25, c26, c27, c28, c29, c30, c31, c32, c33, c34, c35, c36, c37, c38, c39, c40, c41, c42, c43, c44, c45, c46, c47, c48, c49, c50, c51, c52, c53, c54, c55, c56, c57, c58, c59, c60, c61, c62, c63, c64, c65, c66, c67, c68, c69, c70, c71, c72, c73, c74, c75, c76, c77, c78, c79, c80, c81, c82, c83, c84, c85, c86, c87, c88, c89, c90, c91, c92, c93, c94, c95, c96, c97, c98, c99, c100, c101, c102, c103, c104, c105, c106, c107, c108, c109, c110, c111, c112, c113, c114, c115, c116, c117, c118, u119, u120, u121, u122, u123, u124, c125, c126, c127, c128, c129, c130, c131, c132, c133, c134, c135, c136, c137, c138, c139, c140, c141, c142, c143, c144, c145, c146, c147, c148, c149, c150, c151, c152, c153, c154, c155, c156, c157, c158, c159, c160, c161, c162, c163, c164, c165, c166, c167, c168, c169, c170, c171, c172, c173, c174, c175, c176, c177, c178, c179, c180, c181, c182, c183, c184, c185, c186, c187, c188, c189, c190, c191, c192, c193, c194, c195, c196, c197, c198, c199, c200, c201, c202], []⟩ w') :
    (Code.region 19 #[⟨some 119, .move (.tmp 12), 29, "law.go:46", #[], none⟩, ⟨some 120, .move (.tmp 11), 9, "law.go:46", #[], none⟩, ⟨some 121, .call { callee := .builtin .len, args := #[.tmp 120], argTypes := #[9] }, 3, "law.go:46", #[⟨1, .data⟩], none⟩, ⟨some 122, .convert 3 29 (.tmp 121), 29, "law.go:46", #[⟨2, .data⟩], none⟩, ⟨some 123, .binOp .add 29 (.tmp 119) (.tmp 122) 29, 29, "law.go:46", #[⟨0, .data⟩, ⟨3, .data⟩], none⟩, ⟨some 124, .fieldAddr 38 (.tmp 13) 5, 0, "law.go:46", #[⟨0, .phase⟩, ⟨1, .phase⟩, ⟨2, .phase⟩, ⟨3, .phase⟩, ⟨4, .phase⟩], none⟩, ⟨none, .store 29 (.tmp 124) (.tmp 123), 0, "law.go:46", #[⟨5, .data⟩, ⟨4, .data⟩, ⟨0, .phase⟩, ⟨1, .phase⟩, ⟨2, .phase⟩, ⟨3, .phase⟩, ⟨4, .phase⟩], none⟩] false).wp Try.prog Q ⟨#[c0, c1, c2, c3, c4, c5, c6, c7, c8, c9, c10, .string bd, .int .u64 (bg : Nat), .pointer (some ⟨H, 0, none⟩), c14, c15, c16, c17, c18, c19, c20, c21, c22, c23, c24, c25, c26, c27, c28, c29, c30, c31, c32, c33, c34, c35, c36, c37, c38, c39, c40, c41, c42, c43, c44, c45, c46, c47, c48, c49, c50, c51, c52, c53, c54, c55, c56, c57, c58, c59, c60, c61, c62, c63, c64, c65, c66, c67, c68, c69, c70, c71, c72, c73, c74, c75, c76, c77, c78, c79, c80, c81, c82, c83, c84, c85, c86, c87, c88, c89, c90, c91, c92, c93, c94, c95, c96, c97, c98, c99, c100, c101, c102, c103, c104, c105, c106, c107, c108, c109, c110, c111, c112, c113, c114, c115, c116, c117, c118, c119, c120, c121, c122, c123, c124, c125, c126, c127, c128, c129, c130, c131, c132, c133, c134, c135, c136, c137, c138, c139, c140, c141, c142, c143, c144, c145, c146, c147, c148, c149, c150, c151, c152, c153, c154, c155, c156, c157, c158, c159, c160, c161, c162, c163, c164, c165, c166, c167, c168, c169, c170, c171, c172, c173, c174, c175, c176, c177, c178, c179, c180, c181, c182, c183, c184, c185, c186, c187, c188, c189, c190, c191, c192, c193, c194, c195, c196, c197, c198, c199, c200, c201, c202], []⟩ W := by
  try dsimp only at hQ ⊢
  have HQ := Lib.hid hQ; clear hQ
  refine wp_region_lit (l := _) ?_
  refine wpList_step (fun K hK => ?_)
  go_simp
  refine hK _ _ ?_
  clear hK K
  try simp only [Act.put, List.setIfInBounds_toArray, List.set_cons_zero, List.set_cons_succ]
  refine wpList_step (fun K hK => ?_)
  go_simp
  refine hK _ _ ?_
  clear hK K
  try simp only [Act.put, List.setIfInBounds_toArray, List.set_cons_zero, List.set_cons_succ]
  refine wpList_step (fun K hK => ?_)
  go_simp
  refine hK _ _ ?_
  clear hK K
  try simp only [Act.put, List.setIfInBounds_toArray, List.set_cons_zero, List.set_cons_succ]
  refine wpList_step (fun K hK => ?_)
  go_simp
  refine hK _ _ ?_
  clear hK K
  try simp only [Act.put, List.setIfInBounds_toArray, List.set_cons_zero, List.set_cons_succ]
  refine wpList_step (fun K hK => ?_)
  go_simp
  refine hK _ _ ?_
  clear hK K
  try simp only [Act.put, List.setIfInBounds_toArray, List.set_cons_zero, List.set_cons_succ]
  refine wpList_step (fun K hK => ?_)
  go_simp
  refine hK _ _ ?_
  clear hK K
  try simp only [Act.put, List.setIfInBounds_toArray, List.set_cons_zero, List.set_cons_succ]
  have cP : W.cell? ⟨H, 5, none⟩ = some (.int .u64 (so : Nat)) := by rw [Lib.cell_of_heap hH]; rfl
  have fP : W.frozen? ⟨H, 5, none⟩ = false := Lib.frozen_of_heap hH 5
  refine wpList_step (fun K hK => ?_)
  go_simp
  refine hK _ _ ?_
  clear hK K
  try simp only [Act.put, List.setIfInBounds_toArray, List.set_cons_zero, List.set_cons_succ]
  have hH1 : (W.setCell ⟨H, 5, none⟩ (.int .u64 (s2 : Nat))).heap[H]? = some (.cells #[.int .u64 0, .int .u64 0, .int .u64 1, .int .u64 0, .int .u64 (po : Nat), .int .u64 (s2 : Nat), .int .u64 0, .int .u64 (eh : Nat), .int .u64 (ph : Nat), .int .u64 (pn : Nat), .int .u64 (sh : Nat), .int .u64 (sn : Nat), .int .u64 (nm : Nat)] 38 (0, 0)) := by have q := Lib.heap_setCell_same (i := 5) hH (.int .u64 (s2 : Nat)); simpa using q
  have OhH1 := OnlyAt.setCell H 5 W (.int .u64 (s2 : Nat))
  generalize W.setCell ⟨H, 5, none⟩ (.int .u64 (s2 : Nat)) = W1 at *
  clear cP fP
  refine wpList_nil ?_
  exact HQ.out _ _ _ _ _ _ _ hH1 OhH1
set_option maxRecDepth 1000000 in
set_option maxHeartbeats 2000000 in
theorem freg20 (Q : Exit → Act → World → Prop) (c0 c1 c2 c4 c5 c6 c7 c8 c9 c10 c11 c12 c14 c15 c16 c17 c18 c19 c20 c21 c22 c23 c24 c25 c26 c27 c28 c29 c30 c31 c32 c33 c34 c35 c36 c37 c38 c39 c40 c41 c42 c43 c44 c45 c46 c47 c48 c49 c50 c51 c52 c53 c54 c55 c56 c57 c58 c59 c60 c61 c62 c63 c64 c65 c66 c67 c68 c69 c70 c71 c72 c73 c74 c75 c76 c77 c78 c79 c80 c81 c82 c83 c84 c85 c86 c87 c88 c89 c90 c91 c92 c93 c94 c95 c96 c97 c98 c99 c100 c101 c102 c103 c104 c105 c106 c107 c108 c109 c110 c111 c112 c113 c114 c115 c116 c117 c118 c119 c120 c121 c122 c123 c124 c125 c126 c127 c128 c129 c130 c131 c132 c133 c134 c135 c136 c137 c138 c139 c140 c141 c142 c143 c144 c145 c146 c147 c148 c149 c150 c151 c152 c153 c154 c155 c156 c157 c158 c159 c160 c161 c162 c163 c164 c165 c166 c167 c168 c169 c170 c171 c172 c173 c174 c175 c176 c177 c178 c179 c180 c181 c182 c183 c184 c185 c186 c187 c188 c189 c190 c191 c192 c193 c194 c195 c196 c197 c198 c199 c200 c201 c202 : Value) (n2 : Nat) (H eh ph sh : Nat) (po so pn sn nm : Nat) (W : World) (hH : W.heap[H]? = some (.cells #[.int .u64 0, .int .u64 0, .int .u64 1, .int .u64 0, .int .u64 (po : Nat), .int .u64 (so : Nat), .int .u64 0, .int .u64 (eh : Nat), .int .u64 (ph : Nat), .int .u64 (pn : Nat), .int .u64 (sh : Nat), .int .u64 (sn : Nat), .int .u64 (nm : Nat)] 38 (0, 0)))
    (hQ : ∀ (u125 u126 : Value) (w' : World), w'.heap[H]? = some (.cells #[.int .u64 0, .int .u64 0, .int .u64 1, .int .u64 0, .int .u64 (po : Nat), .int .u64 (so : Nat), .int .u64 0, .int .u64 (eh : Nat), .int .u64 (ph : Nat), .int .u64 (pn : Nat), .int .u64 (sh : Nat), .int .u64 (sn : Nat), .int .u64 (n2 : Nat)] 38 (0, 0)) → OnlyAt H W w' → Q .normal ⟨#[c0, c1, c2, .int .u64 (n2 : Nat), c4, c5, c6, c7, c8, c9, c10, c11, c12, .pointer (some ⟨H, 0, none⟩), c14, c15, c16, c17, c18, c19, c20, c21, c22, c23, c24, c25, c26, c27, c28, c29, c30, c31, c32, c33, c34, c35, c36, c37, c38, c39, c40, c41, c42, c43, c44, c45, c46, c47, c48, c49, c50, c51, c52, c53, c54, c55, c56, c57, c58, c59, c60, c61, c62, c63, c64, c65, c66, c67, c68, c69, c70, c71, c72, c73, c74, c75, c76, c77, c78, c79, c80, c81, c82, c83, c84, c85, c86, c87, c88, c89, c90, c91, c92, c93, c94, c95, c96, c97, c98, c99, c100, c101, c102, c103, c104, c105, c106, c107, c108, c109, c110, c111, c112, c113, c114, c115, c116, c117, c118, c119, c120, c121, c122, c123, c124, u125, u126, c127, c128, c129, c130, c131, c132, c133, c134, c135, c136, c137, c138, c139, c140, c141, c142, c143, c144, c145, c146, c147, c148, c149, c150, c151, c152, c153, c154, c155, c156, c157, c158, c159, c160, c161, c162, c163, c164, c165, c166, c167, c168, c169, c170, c171, c172, c173, c174, c175, c176, c177, c178, c179, c180, c181, c182, c183, c184, c185, c186, c187, c188, c189, c190, c191, c192, c193, c194, c195, c196, c197, c198, c199, c200, c201, c202], []⟩ w') :
    (Code.region 20 #[⟨some 125, .move (.tmp 3), 29, "law.go:47", #[], none⟩, ⟨some 126, .fieldAddr 38 (.tmp 13) 12, 0, "law.go:47", #[⟨0, .phase⟩], none⟩, ⟨none, .store 29 (.tmp 126) (.tmp 125), 0, "law.go:47", #[⟨1, .data⟩, ⟨0, .data⟩, ⟨0, .phase⟩], none⟩] false).wp Try.prog Q ⟨#[c0, c1, c2, .int .u64 (n2 : Nat), c4, c5, c6, c7, c8, c9, c10, c11, c12, .pointer (some ⟨H, 0, none⟩), c14, c15, c16, c17, c18, c19, c20, c21, c22, c23, c24, c25, c26, c27, c28, c29, c30, c31, c32, c33, c34, c35, c36, c37, c38, c39, c40, c41, c42, c43, c44, c45, c46, c47, c48, c49, c50, c51, c52, c53, c54, c55, c56, c57, c58, c59, c60, c61, c62, c63, c64, c65, c66, c67, c68, c69, c70, c71, c72, c73, c74, c75, c76, c77, c78, c79, c80, c81, c82, c83, c84, c85, c86, c87, c88, c89, c90, c91, c92, c93, c94, c95, c96, c97, c98, c99, c100, c101, c102, c103, c104, c105, c106, c107, c108, c109, c110, c111, c112, c113, c114, c115, c116, c117, c118, c119, c120, c121, c122, c123, c124, c125, c126, c127, c128, c129, c130, c131, c132, c133, c134, c135, c136, c137, c138, c139, c140, c141, c142, c143, c144, c145, c146, c147, c148, c149, c150, c151, c152, c153, c154, c155, c156, c157, c158, c159, c160, c161, c162, c163, c164, c165, c166, c167, c168, c169, c170, c171, c172, c173, c174, c175, c176, c177, c178, c179, c180, c181, c182, c183, c184, c185, c186, c187, c188, c189, c190, c191, c192, c193, c194, c195, c196, c197, c198, c199, c200, c201, c202], []⟩ W := by
  try dsimp only at hQ ⊢
  have HQ := Lib.hid hQ; clear hQ
  refine wp_region_lit (l := _) ?_
  refine wpList_step (fun K hK => ?_)
  go_simp
  refine hK _ _ ?_
  clear hK K
  try simp only [Act.put, List.setIfInBounds_toArray, List.set_cons_zero, List.set_cons_succ]
  refine wpList_step (fun K hK => ?_)
  go_simp
  refine hK _ _ ?_
  clear hK K
  try simp only [Act.put, List.setIfInBounds_toArray, List.set_cons_zero, List.set_cons_succ]
  have cP : W.cell? ⟨H, 12, none⟩ = some (.int .u64 (nm : Nat)) := by rw [Lib.cell_of_heap hH]; rfl
  have fP : W.frozen? ⟨H, 12, none⟩ = false := Lib.frozen_of_heap hH 12
  refine wpList_step (fun K hK => ?_)
  go_simp
  refine hK _ _ ?_
  clear hK K
  try simp only [Act.put, List.setIfInBounds_toArray, List.set_cons_zero, List.set_cons_succ]
  have hH1 : (W.setCell ⟨H, 12, none⟩ (.int .u64 (n2 : Nat))).heap[H]? = some (.cells #[.int .u64 0, .int .u64 0, .int .u64 1, .int .u64 0, .int .u64 (po : Nat), .int .u64 (so : Nat), .int .u64 0, .int .u64 (eh : Nat), .int .u64 (ph : Nat), .int .u64 (pn : Nat), .int .u64 (sh : Nat), .int .u64 (sn : Nat), .int .u64 (n2 : Nat)] 38 (0, 0)) := by have q := Lib.heap_setCell_same (i := 12) hH (.int .u64 (n2 : Nat)); simpa using q
  have OhH1 := OnlyAt.setCell H 12 W (.int .u64 (n2 : Nat))
  generalize W.setCell ⟨H, 12, none⟩ (.int .u64 (n2 : Nat)) = W1 at *
  clear cP fP
  refine wpList_nil ?_
  exact HQ.out _ _ _ hH1 OhH1
set_option maxRecDepth 1000000 in
set_option maxHeartbeats 2000000 in
theorem freg27 (Q : Exit → Act → World → Prop) (c0 c1 c3 c4 c5 c6 c7 c8 c9 c10 c11 c12 c14 c15 c16 c17 c18 c19 c20 c21 c22 c23 c24 c25 c26 c27 c28 c29 c30 c31 c32 c33 c34 c35 c36 c37 c38 c39 c40 c41 c42 c43 c44 c45 c46 c47 c48 c49 c50 c51 c52 c53 c54 c55 c56 c57 c58 c59 c60 c61 c62 c63 c64 c65 c66 c67 c68 c69 c70 c71 c72 c73 c74 c75 c76 c77 c78 c79 c80 c81 c82 c83 c84 c85 c86 c87 c88 c89 c90 c91 c92 c93 c94 c95 c96 c97 c98 c99 c100 c101 c102 c103 c104 c105 c106 c107 c108 c109 c110 c111 c112 c113 c114 c115 c116 c117 c118 c119 c120 c121 c122 c123 c124 c125 c126 c127 c128 c129 c130 c131 c132 c133 c134 c135 c136 c137 c138 c139 c140 c141 c142 c143 c144 c145 c146 c147 c148 c149 c150 c151 c152 c153 c154 c155 c156 c157 c158 c159 c160 c161 c162 c163 c164 c165 c166 c167 c168 c169 c170 c171 c172 c173 c174 c175 c176 c177 c178 c179 c180 c181 c182 c183 c184 c185 c186 c187 c188 c189 c190 c191 c192 c193 c194 c195 c196 c197 c198 c199 c200 c201 c202 : Value) (p2 : Nat) (H eh ph sh : Nat) (po so pn sn nm : Nat) (W : World) (hH : W.heap[H]? = some (.cells #[.int .u64 0, .int .u64 0, .int .u64 1, .int .u64 0, .int .u64 (po : Nat), .int .u64 (so : Nat), .int .u64 0, .int .u64 (eh : Nat), .int .u64 (ph : Nat), .int .u64 (pn : Nat), .int .u64 (sh : Nat), .int .u64 (sn : Nat), .int .u64 (nm : Nat)] 38 (0, 0))) (e1 : IntKind.u64.wrap (p2 : Int) = (p2 : Int))
    (hQ : ∀ (u145 u146 u147 : Value) (w' : World), w'.heap[H]? = some (.cells #[.int .u64 0, .int .u64 0, .int .u64 1, .int .u64 0, .int .u64 (po : Nat), .int .u64 (so : Nat), .int .u64 0, .int .u64 (eh : Nat), .int .u64 (ph : Nat), .int .u64 (p2 : Nat), .int .u64 (sh : Nat), .int .u64 (sn : Nat), .int .u64 (nm : Nat)] 38 (0, 0)) → OnlyAt H W w' → Q .normal ⟨#[c0, c1, .int .i64 (p2 : Nat), c3, c4, c5, c6, c7, c8, c9, c10, c11, c12, .pointer (some ⟨H, 0, none⟩), c14, c15, c16, c17, c18, c19, c20, c21, c22, c23, c24, c25, c26, c27, c28, c29, c30, c31, c32, c33, c34, c35, c36, c37, c38, c39, c40, c41, c42, c43, c44, c45, c46, c47, c48, c49, c50, c51, c52, c53, c54, c55, c56, c57, c58, c59, c60, c61, c62, c63, c64, c65, c66, c67, c68, c69, c70, c71, c72, c73, c74, c75, c76, c77, c78, c79, c80, c81, c82, c83, c84, c85, c86, c87, c88, c89, c90, c91, c92, c93, c94, c95, c96, c97, c98, c99, c100, c101, c102, c103, c104, c105, c106, c107, c108, c109, c110, c111, c112, c113, c114, c115, c116, c117, c118, c119, c120, c121, c122, c123, c124, c125, c126, c127, c128, c129, c130, c131, c132, c133, c134, c135, c136, c137, c138, c139, c140, c141, c142, c143, c144, u145, u146, u147, c148, c149, c150, c151, c152, c153, c154, c155, c156, c157, c158, c159, c160, c161, c162, c163, c164, c165, c166, c167, c168, c169, c170, c171, c172, c173, c174, c175, c176, c177, c178, c179, c180, c181, c182, c183, c184, c185, c186, c187, c188, c189, c190, c191, c192, c193, c194, c195, c196, c197, c198, c199, c200, c201, c202], []⟩ w') :
    (Code.region 27 #[⟨some 145, .move (.tmp 2), 3, "law.go:53", #[], none⟩, ⟨some 146, .convert 3 29 (.tmp 145), 29, "law.go:53", #[⟨0, .data⟩], none⟩, ⟨some 147, .fieldAddr 38 (.tmp 13) 9, 0, "law.go:53", #[⟨0, .phase⟩, ⟨1, .phase⟩], none⟩, ⟨none, .store 29 (.tmp 147) (.tmp 146), 0, "law.go:53", #[⟨2, .data⟩, ⟨1, .data⟩, ⟨0, .phase⟩, ⟨1, .phase⟩], none⟩] false).wp Try.prog Q ⟨#[c0, c1, .int .i64 (p2 : Nat), c3, c4, c5, c6, c7, c8, c9, c10, c11, c12, .pointer (some ⟨H, 0, none⟩), c14, c15, c16, c17, c18, c19, c20, c21, c22, c23, c24, c25, c26, c27, c28, c29, c30, c31, c32, c33, c34, c35, c36, c37, c38, c39, c40, c41, c42, c43, c44, c45, c46, c47, c48, c49, c50, c51, c52, c53, c54, c55, c56, c57, c58, c59, c60, c61, c62, c63, c64, c65, c66, c67, c68, c69, c70, c71, c72, c73, c74, c75, c76, c77, c78, c79, c80, c81, c82, c83, c84, c85, c86, c87, c88, c89, c90, c91, c92, c93, c94, c95, c96, c97, c98, c99, c100, c101, c102, c103, c104, c105, c106, c107, c108, c109, c110, c111, c112, c113, c114, c115, c116, c117, c118, c119, c120, c121, c122, c123, c124, c125, c126, c127, c128, c129, c130, c131, c132, c133, c134, c135, c136, c137, c138, c139, c140, c141, c142, c143, c144, c145, c146, c147, c148, c149, c150, c151, c152, c153, c154, c155, c156, c157, c158, c159, c160, c161, c162, c163, c164, c165, c166, c167, c168, c169, c170, c171, c172, c173, c174, c175, c176, c177, c178, c179, c180, c181, c182, c183, c184, c185, c186, c187, c188, c189, c190, c191, c192, c193, c194, c195, c196, c197, c198, c199, c200, c201, c202], []⟩ W := by
  try dsimp only at hQ ⊢
  have HQ := Lib.hid hQ; clear hQ
  refine wp_region_lit (l := _) ?_
  refine wpList_step (fun K hK => ?_)
  go_simp
  refine hK _ _ ?_
  clear hK K
  try simp only [Act.put, List.setIfInBounds_toArray, List.set_cons_zero, List.set_cons_succ]
  refine wpList_step (fun K hK => ?_)
  go_simp
  refine hK _ _ ?_
  clear hK K
  try simp only [Act.put, List.setIfInBounds_toArray, List.set_cons_zero, List.set_cons_succ]
  refine wpList_step (fun K hK => ?_)
  go_simp
  refine hK _ _ ?_
  clear hK K
  try simp only [Act.put, List.setIfInBounds_toArray, List.set_cons_zero, List.set_cons_succ]
  have cP : W.cell? ⟨H, 9, none⟩ = some (.int .u64 (pn : Nat)) := by rw [Lib.cell_of_heap hH]; rfl
  have fP : W.frozen? ⟨H, 9, none⟩ = false := Lib.frozen_of_heap hH 9
  refine wpList_step (fun K hK => ?_)
  go_simp
  refine hK _ _ ?_
  clear hK K
  try simp only [Act.put, List.setIfInBounds_toArray, List.set_cons_zero, List.set_cons_succ]
  have hH1 : (W.setCell ⟨H, 9, none⟩ (.int .u64 (p2 : Nat))).heap[H]? = some (.cells #[.int .u64 0, .int .u64 0, .int .u64 1, .int .u64 0, .int .u64 (po : Nat), .int .u64 (so : Nat), .int .u64 0, .int .u64 (eh : Nat), .int .u64 (ph : Nat), .int .u64 (p2 : Nat), .int .u64 (sh : Nat), .int .u64 (sn : Nat), .int .u64 (nm : Nat)] 38 (0, 0)) := by have q := Lib.heap_setCell_same (i := 9) hH (.int .u64 (p2 : Nat)); simpa using q
  have OhH1 := OnlyAt.setCell H 9 W (.int .u64 (p2 : Nat))
  generalize W.setCell ⟨H, 9, none⟩ (.int .u64 (p2 : Nat)) = W1 at *
  clear cP fP
  refine wpList_nil ?_
  exact HQ.out _ _ _ _ hH1 OhH1
set_option maxRecDepth 1000000 in
set_option maxHeartbeats 2000000 in
theorem freg29 (Q : Exit → Act → World → Prop) (c0 c1 c2 c3 c4 c5 c6 c7 c8 c9 c10 c11 c12 c14 c15 c16 c18 c19 c20 c21 c22 c23 c24 c25 c26 c27 c28 c29 c30 c31 c32 c33 c34 c35 c36 c37 c38 c39 c40 c41 c42 c43 c44 c45 c46 c47 c48 c49 c50 c51 c52 c53 c54 c55 c56 c57 c58 c59 c60 c61 c62 c63 c64 c65 c66 c67 c68 c69 c70 c71 c72 c73 c74 c75 c76 c77 c78 c79 c80 c81 c82 c83 c84 c85 c86 c87 c88 c89 c90 c91 c92 c93 c94 c95 c96 c97 c98 c99 c100 c101 c102 c103 c104 c105 c106 c107 c108 c109 c110 c111 c112 c113 c114 c115 c116 c117 c118 c119 c120 c121 c122 c123 c124 c125 c126 c127 c128 c129 c130 c131 c132 c133 c134 c135 c136 c137 c138 c139 c140 c141 c142 c143 c144 c145 c146 c147 c148 c149 c150 c151 c152 c153 c154 c155 c156 c157 c158 c159 c160 c161 c162 c163 c164 c165 c166 c167 c168 c169 c170 c171 c172 c173 c174 c175 c176 c177 c178 c179 c180 c181 c182 c183 c184 c185 c186 c187 c188 c189 c190 c191 c192 c193 c194 c195 c196 c197 c198 c199 c200 c201 c202 : Value) (o2 : Nat) (tb : ByteArray) (H eh ph sh : Nat) (po so pn sn nm : Nat) (W : World) (hH : W.heap[H]? = some (.cells #[.int .u64 0, .int .u64 0, .int .u64 1, .int .u64 0, .int .u64 (po : Nat), .int .u64 (so : Nat), .int .u64 0, .int .u64 (eh : Nat), .int .u64 (ph : Nat), .int .u64 (pn : Nat), .int .u64 (sh : Nat), .int .u64 (sn : Nat), .int .u64 (nm : Nat)] 38 (0, 0))) (d5 : W.cell? ⟨H, 5, none⟩ = some (.int .u64 (so : Nat))) (e1 : IntKind.u64.wrap (tb.size : Int) = (tb.size : Int)) (e2 : IntKind.u64.wrap ((so : Int) + (tb.size : Int)) = (o2 : Int))
    (hQ : ∀ (u150 u151 u152 u153 u154 u155 u156 : Value) (w' : World), w'.heap[H]? = some (.cells #[.int .u64 0, .int .u64 0, .int .u64 1, .int .u64 0, .int .u64 (o2 : Nat), .int .u64 (so : Nat), .int .u64 0, .int .u64 (eh : Nat), .int .u64 (ph : Nat), .int .u64 (pn : Nat), .int .u64 (sh : Nat), .int .u64 (sn : Nat), .int .u64 (nm : Nat)] 38 (0, 0)) → OnlyAt H W w' → Q .normal ⟨#[c0, c1, c2, c3, c4, c5, c6, c7, c8, c9, c10, c11, c12, .pointer (some ⟨H, 0, none⟩), c14, c15, c16, .string tb, c18, c19, c20, c21, c22, c23, c24, c25, c26, c27, c28, c29, c30, c31, c32, c33, c34, c35, c36, c37, c38, c39, c40, c41, c42, c43, c44, c45, c46, c47, c48, c49, c50, c51, c52, c53, c54, c55, c56, c57, c58, c59, c60, c61, c62, c63, c64, c65, c66, c67, c68, c69, c70, c71, c72, c73, c74, c75, c76, c77, c78, c79, c80, c81, c82, c83, c84, c85, c86, c87, c88, c89, c90, c91, c92, c93, c94, c95, c96, c97, c98, c99, c100, c101, c102, c103, c104, c105, c106, c107, c108, c109, c110, c111, c112, c113, c114, c115, c116, c117, c118, c119, c120, c121, c122, c123, c124, c125, c126, c127, c128, c129, c130, c131, c132, c133, c134, c135, c136, c137, c138, c139, c140, c141, c142, c143, c144, c145, c146, c147, c148, c149, u150, u151, u152, u153, u154, u155, u156, c157, c158, c159, c160, c161, c162, c163, c164, c165, c166, c167, c168, c169, c170, c171, c172, c173, c174, c175, c176, c177, c178, c179, c180, c181, c182, c183, c184, c185, c186, c187, c188, c189, c190, c191, c192, c193, c194, c195, c196, c197, c198, c199, c200, c201, c202], []⟩ w') :
    (Code.region 29 #[⟨some 150, .fieldAddr 38 (.tmp 13) 5, 0, "law.go:55", #[], none⟩, ⟨some 151, .load 29 (.tmp 150), 29, "law.go:55", #[⟨0, .data⟩], none⟩, ⟨some 152, .move (.tmp 17), 9, "law.go:55", #[], none⟩, ⟨some 153, .call { callee := .builtin .len, args := #[.tmp 152], argTypes := #[9] }, 3, "law.go:55", #[⟨2, .data⟩], none⟩, ⟨some 154, .convert 3 29 (.tmp 153), 29, "law.go:55", #[⟨3, .data⟩], none⟩, ⟨some 155, .binOp .add 29 (.tmp 151) (.tmp 154) 29, 29, "law.go:55", #[⟨1, .data⟩, ⟨4, .data⟩], none⟩, ⟨some 156, .fieldAddr 38 (.tmp 13) 4, 0, "law.go:55", #[⟨0, .phase⟩, ⟨1, .phase⟩, ⟨2, .phase⟩, ⟨3, .phase⟩, ⟨4, .phase⟩, ⟨5, .phase⟩], none⟩, ⟨none, .store 29 (.tmp 156) (.tmp 155), 0, "law.go:55", #[⟨6, .data⟩, ⟨5, .data⟩, ⟨0, .phase⟩, ⟨1, .phase⟩, ⟨2, .phase⟩, ⟨3, .phase⟩, ⟨4, .phase⟩, ⟨5, .phase⟩], none⟩] false).wp Try.prog Q ⟨#[c0, c1, c2, c3, c4, c5, c6, c7, c8, c9, c10, c11, c12, .pointer (some ⟨H, 0, none⟩), c14, c15, c16, .string tb, c18, c19, c20, c21, c22, c23, c24, c25, c26, c27, c28, c29, c30, c31, c32, c33, c34, c35, c36, c37, c38, c39, c40, c41, c42, c43, c44, c45, c46, c47, c48, c49, c50, c51, c52, c53, c54, c55, c56, c57, c58, c59, c60, c61, c62, c63, c64, c65, c66, c67, c68, c69, c70, c71, c72, c73, c74, c75, c76, c77, c78, c79, c80, c81, c82, c83, c84, c85, c86, c87, c88, c89, c90, c91, c92, c93, c94, c95, c96, c97, c98, c99, c100, c101, c102, c103, c104, c105, c106, c107, c108, c109, c110, c111, c112, c113, c114, c115, c116, c117, c118, c119, c120, c121, c122, c123, c124, c125, c126, c127, c128, c129, c130, c131, c132, c133, c134, c135, c136, c137, c138, c139, c140, c141, c142, c143, c144, c145, c146, c147, c148, c149, c150, c151, c152, c153, c154, c155, c156, c157, c158, c159, c160, c161, c162, c163, c164, c165, c166, c167, c168, c169, c170, c171, c172, c173, c174, c175, c176, c177, c178, c179, c180, c181, c182, c183, c184, c185, c186, c187, c188, c189, c190, c191, c192, c193, c194, c195, c196, c197, c198, c199, c200, c201, c202], []⟩ W := by
  try dsimp only at hQ ⊢
  have HQ := Lib.hid hQ; clear hQ
  refine wp_region_lit (l := _) ?_
  refine wpList_step (fun K hK => ?_)
  go_simp
  refine hK _ _ ?_
  clear hK K
  try simp only [Act.put, List.setIfInBounds_toArray, List.set_cons_zero, List.set_cons_succ]
  refine wpList_step (fun K hK => ?_)
  go_simp
  refine hK _ _ ?_
  clear hK K
  try simp only [Act.put, List.setIfInBounds_toArray, List.set_cons_zero, List.set_cons_succ]
  refine wpList_step (fun K hK => ?_)
  go_simp
  refine hK _ _ ?_
  clear hK K
  try simp only [Act.put, List.setIfInBounds_toArray, List.set_cons_zero, List.set_cons_succ]
  refine wpList_step (fun K hK => ?_)
  go_simp
  refine hK _ _ ?_
  clear hK K
  try simp only [Act.put, List.setIfInBounds_toArray, List.set_cons_zero, List.set_cons_succ]
  refine wpList_step (fun K hK => ?_)
  go_simp
  refine hK _ _ ?_
  clear hK K
  try simp only [Act.put, List.setIfInBounds_toArray, List.set_cons_zero, List.set_cons_succ]
  refine wpList_step (fun K hK => ?_)
  go_simp
  refine hK _ _ ?_
  clear hK K
  try simp only [Act.put, List.setIfInBounds_toArray, List.set_cons_zero, List.set_cons_succ]
  refine wpList_step (fun K hK => ?_)
  go_simp
  refine hK _ _ ?_
  clear hK K
  try simp only [Act.put, List.setIfInBounds_toArray, List.set_cons_zero, List.set_cons_succ]
  clear d5
  have cP : W.cell? ⟨H, 4, none⟩ = some (.int .u64 (po : Nat)) := by rw [Lib.cell_of_heap hH]; rfl
  have fP : W.frozen? ⟨H, 4, none⟩ = false := Lib.frozen_of_heap hH 4
  refine wpList_step (fun K hK => ?_)
  go_simp
  refine hK _ _ ?_
  clear hK K
  try simp only [Act.put, List.setIfInBounds_toArray, List.set_cons_zero, List.set_cons_succ]
  have hH1 : (W.setCell ⟨H, 4, none⟩ (.int .u64 (o2 : Nat))).heap[H]? = some (.cells #[.int .u64 0, .int .u64 0, .int .u64 1, .int .u64 0, .int .u64 (o2 : Nat), .int .u64 (so : Nat), .int .u64 0, .int .u64 (eh : Nat), .int .u64 (ph : Nat), .int .u64 (pn : Nat), .int .u64 (sh : Nat), .int .u64 (sn : Nat), .int .u64 (nm : Nat)] 38 (0, 0)) := by have q := Lib.heap_setCell_same (i := 4) hH (.int .u64 (o2 : Nat)); simpa using q
  have OhH1 := OnlyAt.setCell H 4 W (.int .u64 (o2 : Nat))
  generalize W.setCell ⟨H, 4, none⟩ (.int .u64 (o2 : Nat)) = W1 at *
  clear cP fP
  refine wpList_nil ?_
  exact HQ.out _ _ _ _ _ _ _ _ hH1 OhH1
set_option maxRecDepth 1000000 in
set_option maxHeartbeats 2000000 in
theorem freg9 (Q : Exit → Act → World → Prop) (c0 c1 c2 c3 c4 c5 c6 c7 c8 c9 c10 c11 c12 c15 c16 c17 c18 c19 c20 c21 c22 c23 c24 c25 c26 c27 c28 c29 c30 c31 c32 c33 c34 c35 c36 c37 c38 c39 c40 c41 c42 c43 c44 c45 c46 c47 c48 c49 c50 c51 c52 c53 c54 c55 c56 c57 c58 c59 c60 c61 c62 c63 c64 c65 c66 c67 c68 c69 c70 c71 c72 c73 c74 c75 c76 c77 c78 c79 c80 c81 c82 c83 c84 c85 c86 c87 c88 c89 c90 c91 c92 c93 c94 c95 c96 c97 c98 c99 c100 c101 c102 c103 c104 c105 c106 c107 c108 c109 c110 c111 c112 c113 c114 c115 c116 c117 c118 c119 c120 c121 c122 c123 c124 c125 c126 c127 c128 c129 c130 c131 c132 c133 c134 c135 c136 c137 c138 c139 c140 c141 c142 c143 c144 c145 c146 c147 c148 c149 c150 c151 c152 c153 c154 c155 c156 c157 c158 c159 c160 c161 c162 c163 c164 c165 c166 c167 c168 c169 c170 c171 c172 c173 c174 c175 c176 c177 c178 c179 c180 c181 c182 c183 c184 c185 c186 c187 c188 c189 c190 c191 c192 c193 c194 c195 c196 c197 c198 c199 c200 c201 c202 : Value) (H X sn : Nat) (W : World) (d11 : W.cell? ⟨H, 11, none⟩ = some (.int .u64 (sn : Nat))) (hX : W.heap[X]? = some (.cells #[.int .u64 0, .int .u64 0, .int .u64 0, .int .u64 0, .int .u64 0, .int .u64 0, .int .u64 0, .int .u64 0, .int .u64 0, .int .u64 0] 52 (0, 0)))
    (hQ : ∀ (u44 u45 u46 : Value) (w' : World), w'.heap[X]? = some (.cells #[.int .u64 0, .int .u64 0, .int .u64 0, .int .u64 0, .int .u64 0, .int .u64 (sn : Nat), .int .u64 0, .int .u64 0, .int .u64 0, .int .u64 0] 52 (0, 0)) → OnlyAt X W w' → Q .normal ⟨#[c0, c1, c2, c3, c4, c5, c6, c7, c8, c9, c10, c11, c12, .pointer (some ⟨H, 0, none⟩), .pointer (some ⟨X, 0, none⟩), c15, c16, c17, c18, c19, c20, c21, c22, c23, c24, c25, c26, c27, c28, c29, c30, c31, c32, c33, c34, c35, c36, c37, c38, c39, c40, c41, c42, c43, u44, u45, u46, c47, c48, c49, c50, c51, c52, c53, c54, c55, c56, c57, c58, c59, c60, c61, c62, c63, c64, c65, c66, c67, c68, c69, c70, c71, c72, c73, c74, c75, c76, c77, c78, c79, c80, c81, c82, c83, c84, c85, c86, c87, c88, c89, c90, c91, c92, c93, c94, c95, c96, c97, c98, c99, c100, c101, c102, c103, c104, c105, c106, c107, c108, c109, c110, c111, c112, c113, c114, c115, c116, c117, c118, c119, c120, c121, c122, c123, c124, c125, c126, c127, c128, c129, c130, c131, c132, c133, c134, c135, c136, c137, c138, c139, c140, c141, c142, c143, c144, c145, c146, c147, c148, c149, c150, c151, c152, c153, c154, c155, c156, c157, c158, c159, c160, c161, c162, c163, c164, c165, c166, c167, c168, c169, c170, c171, c172, c173, c174, c175, c176, c177, c178, c179, c180, c181, c182, c183, c184, c185, c186, c187, c188, c189, c190, c191, c192, c193, c194, c195, c196, c197, c198, c199, c200, c201, c202], []⟩ w') :
    (Code.region 9 #[⟨some 44, .fieldAddr 38 (.tmp 13) 11, 0, "law.go:35", #[], none⟩, ⟨some 45, .load 29 (.tmp 44), 29, "law.go:35", #[⟨0, .data⟩], none⟩, ⟨some 46, .fieldAddr 52 (.tmp 14) 5, 0, "law.go:35", #[⟨0, .phase⟩, ⟨1, .phase⟩], none⟩, ⟨none, .store 29 (.tmp 46) (.tmp 45), 0, "law.go:35", #[⟨2, .data⟩, ⟨1, .data⟩, ⟨0, .phase⟩, ⟨1, .phase⟩], none⟩] false).wp Try.prog Q ⟨#[c0, c1, c2, c3, c4, c5, c6, c7, c8, c9, c10, c11, c12, .pointer (some ⟨H, 0, none⟩), .pointer (some ⟨X, 0, none⟩), c15, c16, c17, c18, c19, c20, c21, c22, c23, c24, c25, c26, c27, c28, c29, c30, c31, c32, c33, c34, c35, c36, c37, c38, c39, c40, c41, c42, c43, c44, c45, c46, c47, c48, c49, c50, c51, c52, c53, c54, c55, c56, c57, c58, c59, c60, c61, c62, c63, c64, c65, c66, c67, c68, c69, c70, c71, c72, c73, c74, c75, c76, c77, c78, c79, c80, c81, c82, c83, c84, c85, c86, c87, c88, c89, c90, c91, c92, c93, c94, c95, c96, c97, c98, c99, c100, c101, c102, c103, c104, c105, c106, c107, c108, c109, c110, c111, c112, c113, c114, c115, c116, c117, c118, c119, c120, c121, c122, c123, c124, c125, c126, c127, c128, c129, c130, c131, c132, c133, c134, c135, c136, c137, c138, c139, c140, c141, c142, c143, c144, c145, c146, c147, c148, c149, c150, c151, c152, c153, c154, c155, c156, c157, c158, c159, c160, c161, c162, c163, c164, c165, c166, c167, c168, c169, c170, c171, c172, c173, c174, c175, c176, c177, c178, c179, c180, c181, c182, c183, c184, c185, c186, c187, c188, c189, c190, c191, c192, c193, c194, c195, c196, c197, c198, c199, c200, c201, c202], []⟩ W := by
  try dsimp only at hQ ⊢
  have HQ := Lib.hid hQ; clear hQ
  have cP : W.cell? ⟨X, 5, none⟩ = some (.int .u64 0) := by rw [Lib.cell_of_heap hX]; rfl
  have fP : W.frozen? ⟨X, 5, none⟩ = false := Lib.frozen_of_heap hX 5
  have q := Lib.heap_setCell_same (i := 5) hX (.int .u64 (sn : Nat))
  have hX1 : (W.setCell ⟨X, 5, none⟩ (.int .u64 (sn : Nat))).heap[X]? = some (.cells #[.int .u64 0, .int .u64 0, .int .u64 0, .int .u64 0, .int .u64 0, .int .u64 (sn : Nat), .int .u64 0, .int .u64 0, .int .u64 0, .int .u64 0] 52 (0, 0)) := by simpa using q
  have HX1 := Lib.hid hX1
  clear q hX hX1
  go_wp2
  exact HQ.out _ _ _ _ HX1.out (OnlyAt.setCell X 5 W _)
set_option maxRecDepth 1000000 in
set_option maxHeartbeats 2000000 in
theorem freg10 (Q : Exit → Act → World → Prop) (c0 c1 c2 c3 c4 c5 c6 c7 c8 c9 c10 c11 c12 c14 c15 c16 c17 c18 c19 c20 c21 c22 c23 c24 c25 c26 c27 c28 c29 c30 c31 c32 c33 c34 c35 c36 c37 c38 c39 c40 c41 c42 c43 c44 c45 c46 c47 c48 c49 c50 c51 c52 c53 c54 c55 c56 c57 c58 c59 c60 c61 c62 c63 c64 c65 c66 c67 c68 c69 c70 c71 c72 c73 c74 c75 c76 c77 c78 c79 c80 c81 c82 c83 c84 c85 c86 c87 c88 c89 c90 c91 c92 c93 c94 c95 c96 c97 c98 c99 c100 c101 c102 c103 c104 c105 c106 c107 c108 c109 c110 c111 c112 c113 c114 c115 c116 c117 c118 c119 c120 c121 c122 c123 c124 c125 c126 c127 c128 c129 c130 c131 c132 c133 c134 c135 c136 c137 c138 c139 c140 c141 c142 c143 c144 c145 c146 c147 c148 c149 c150 c151 c152 c153 c154 c155 c156 c157 c158 c159 c160 c161 c162 c163 c164 c165 c166 c167 c168 c169 c170 c171 c172 c173 c174 c175 c176 c177 c178 c179 c180 c181 c182 c183 c184 c185 c186 c187 c188 c189 c190 c191 c192 c193 c194 c195 c196 c197 c198 c199 c200 c201 c202 : Value) (H eh ph sh : Nat) (po so pn sn nm : Nat) (W : World) (hH : W.heap[H]? = some (.cells #[.int .u64 0, .int .u64 0, .int .u64 1, .int .u64 0, .int .u64 (po : Nat), .int .u64 (so : Nat), .int .u64 0, .int .u64 (eh : Nat), .int .u64 (ph : Nat), .int .u64 (pn : Nat), .int .u64 (sh : Nat), .int .u64 (sn : Nat), .int .u64 (nm : Nat)] 38 (0, 0)))
    (hQ : ∀ (u47 : Value) (w' : World), w'.heap[H]? = some (.cells #[.int .u64 0, .int .u64 0, .int .u64 1, .int .u64 0, .int .u64 (po : Nat), .int .u64 (so : Nat), .int .u64 0, .int .u64 (eh : Nat), .int .u64 (ph : Nat), .int .u64 (pn : Nat), .int .u64 (sh : Nat), .int .u64 0, .int .u64 (nm : Nat)] 38 (0, 0)) → OnlyAt H W w' → Q .normal ⟨#[c0, c1, c2, c3, c4, c5, c6, c7, c8, c9, c10, c11, c12, .pointer (some ⟨H, 0, none⟩), c14, c15, c16, c17, c18, c19, c20, c21, c22, c23, c24, c25, c26, c27, c28, c29, c30, c31, c32, c33, c34, c35, c36, c37, c38, c39, c40, c41, c42, c43, c44, c45, c46, u47, c48, c49, c50, c51, c52, c53, c54, c55, c56, c57, c58, c59, c60, c61, c62, c63, c64, c65, c66, c67, c68, c69, c70, c71, c72, c73, c74, c75, c76, c77, c78, c79, c80, c81, c82, c83, c84, c85, c86, c87, c88, c89, c90, c91, c92, c93, c94, c95, c96, c97, c98, c99, c100, c101, c102, c103, c104, c105, c106, c107, c108, c109, c110, c111, c112, c113, c114, c115, c116, c117, c118, c119, c120, c121, c122, c123, c124, c125, c126, c127, c128, c129, c130, c131, c132, c133, c134, c135, c136, c137, c138, c139, c140, c141, c142, c143, c144, c145, c146, c147, c148, c149, c150, c151, c152, c153, c154, c155, c156, c157, c158, c159, c160, c161, c162, c163, c164, c165, c166, c167, c168, c169, c170, c171, c172, c173, c174, c175, c176, c177, c178, c179, c180, c181, c182, c183, c184, c185, c186, c187, c188, c189, c190, c191, c192, c193, c194, c195, c196, c197, c198, c199, c200, c201, c202], []⟩ w') :
    (Code.region 10 #[⟨some 47, .fieldAddr 38 (.tmp 13) 11, 0, "law.go:36", #[], none⟩, ⟨none, .store 29 (.tmp 47) (.const (.int .u64 0)), 0, "law.go:36", #[⟨0, .data⟩], none⟩] false).wp Try.prog Q ⟨#[c0, c1, c2, c3, c4, c5, c6, c7, c8, c9, c10, c11, c12, .pointer (some ⟨H, 0, none⟩), c14, c15, c16, c17, c18, c19, c20, c21, c22, c23, c24, c25, c26, c27, c28, c29, c30, c31, c32, c33, c34, c35, c36, c37, c38, c39, c40, c41, c42, c43, c44, c45, c46, c47, c48, c49, c50, c51, c52, c53, c54, c55, c56, c57, c58, c59, c60, c61, c62, c63, c64, c65, c66, c67, c68, c69, c70, c71, c72, c73, c74, c75, c76, c77, c78, c79, c80, c81, c82, c83, c84, c85, c86, c87, c88, c89, c90, c91, c92, c93, c94, c95, c96, c97, c98, c99, c100, c101, c102, c103, c104, c105, c106, c107, c108, c109, c110, c111, c112, c113, c114, c115, c116, c117, c118, c119, c120, c121, c122, c123, c124, c125, c126, c127, c128, c129, c130, c131, c132, c133, c134, c135, c136, c137, c138, c139, c140, c141, c142, c143, c144, c145, c146, c147, c148, c149, c150, c151, c152, c153, c154, c155, c156, c157, c158, c159, c160, c161, c162, c163, c164, c165, c166, c167, c168, c169, c170, c171, c172, c173, c174, c175, c176, c177, c178, c179, c180, c181, c182, c183, c184, c185, c186, c187, c188, c189, c190, c191, c192, c193, c194, c195, c196, c197, c198, c199, c200, c201, c202], []⟩ W := by
  try dsimp only at hQ ⊢
  have HQ := Lib.hid hQ; clear hQ
  refine wp_region_lit (l := _) ?_
  refine wpList_step (fun K hK => ?_)
  go_simp
  refine hK _ _ ?_
  clear hK K
  try simp only [Act.put, List.setIfInBounds_toArray, List.set_cons_zero, List.set_cons_succ]
  have cP : W.cell? ⟨H, 11, none⟩ = some (.int .u64 (sn : Nat)) := by rw [Lib.cell_of_heap hH]; rfl
  have fP : W.frozen? ⟨H, 11, none⟩ = false := Lib.frozen_of_heap hH 11
  refine wpList_step (fun K hK => ?_)
  go_simp
  refine hK _ _ ?_
  clear hK K
  try simp only [Act.put, List.setIfInBounds_toArray, List.set_cons_zero, List.set_cons_succ]
  have hH1 : (W.setCell ⟨H, 11, none⟩ (.int .u64 0)).heap[H]? = some (.cells #[.int .u64 0, .int .u64 0, .int .u64 1, .int .u64 0, .int .u64 (po : Nat), .int .u64 (so : Nat), .int .u64 0, .int .u64 (eh : Nat), .int .u64 (ph : Nat), .int .u64 (pn : Nat), .int .u64 (sh : Nat), .int .u64 0, .int .u64 (nm : Nat)] 38 (0, 0)) := by have q := Lib.heap_setCell_same (i := 11) hH (.int .u64 0); simpa using q
  have OhH1 := OnlyAt.setCell H 11 W (.int .u64 0)
  generalize W.setCell ⟨H, 11, none⟩ (.int .u64 0) = W1 at *
  clear cP fP
  refine wpList_nil ?_
  exact HQ.out _ _ hH1 OhH1
set_option maxRecDepth 1000000 in
set_option maxHeartbeats 2000000 in
theorem freg11 (Q : Exit → Act → World → Prop) (c0 c1 c2 c3 c4 c5 c6 c7 c8 c9 c11 c12 c13 c15 c16 c17 c18 c19 c20 c21 c22 c23 c24 c25 c26 c27 c28 c29 c30 c31 c32 c33 c34 c35 c36 c37 c38 c39 c40 c41 c42 c43 c44 c45 c46 c47 c48 c49 c50 c51 c52 c53 c54 c55 c56 c57 c58 c59 c60 c61 c62 c63 c64 c65 c66 c67 c68 c69 c70 c71 c72 c73 c74 c75 c76 c77 c78 c79 c80 c81 c82 c83 c84 c85 c86 c87 c88 c89 c90 c91 c92 c93 c94 c95 c96 c97 c98 c99 c100 c101 c102 c103 c104 c105 c106 c107 c108 c109 c110 c111 c112 c113 c114 c115 c116 c117 c118 c119 c120 c121 c122 c123 c124 c125 c126 c127 c128 c129 c130 c131 c132 c133 c134 c135 c136 c137 c138 c139 c140 c141 c142 c143 c144 c145 c146 c147 c148 c149 c150 c151 c152 c153 c154 c155 c156 c157 c158 c159 c160 c161 c162 c163 c164 c165 c166 c167 c168 c169 c170 c171 c172 c173 c174 c175 c176 c177 c178 c179 c180 c181 c182 c183 c184 c185 c186 c187 c188 c189 c190 c191 c192 c193 c194 c195 c196 c197 c198 c199 c200 c201 c202 : Value) (X base n : Nat) (v : Value) (xs : List Value) (f : Nat → Nat) (W0 W : World) (hX : W.heap[X]? = some (.cells #[.int .u64 (f 0 : Nat), .int .u64 (f 1 : Nat), .int .u64 (f 2 : Nat), .int .u64 (f 3 : Nat), .int .u64 (f 4 : Nat), .int .u64 (f 5 : Nat), .int .u64 (f 6 : Nat), .int .u64 (f 7 : Nat), .int .u64 (f 8 : Nat), .int .u64 (f 9 : Nat)] 52 (0, 0))) (hown : W.ownsRow base 52 10 v n xs) (hbase : base ≤ W.heap.size) (h0 : Below W0.heap.size W0 W) (hbb : W0.heap.size ≤ base) (hn : n ≤ 100)
    (hQ : ∀ (u48 u49 u50 u51 : Value) (v' : Value) (w' : World), w'.ownsRow base 52 10 v' (n + 1) (xs ++ [.int .u64 (f 0 : Nat), .int .u64 (f 1 : Nat), .int .u64 (f 2 : Nat), .int .u64 (f 3 : Nat), .int .u64 (f 4 : Nat), .int .u64 (f 5 : Nat), .int .u64 (f 6 : Nat), .int .u64 (f 7 : Nat), .int .u64 (f 8 : Nat), .int .u64 (f 9 : Nat)]) → Below W0.heap.size W0 w' → Below base W w' → (v.ownBlock ≠ some X → w'.heap[X]? = some (.cells #[.int .u64 (f 0 : Nat), .int .u64 (f 1 : Nat), .int .u64 (f 2 : Nat), .int .u64 (f 3 : Nat), .int .u64 (f 4 : Nat), .int .u64 (f 5 : Nat), .int .u64 (f 6 : Nat), .int .u64 (f 7 : Nat), .int .u64 (f 8 : Nat), .int .u64 (f 9 : Nat)] 52 (0, 0))) → Q .normal ⟨#[c0, c1, c2, c3, c4, c5, c6, c7, c8, c9, v', c11, c12, c13, .pointer (some ⟨X, 0, none⟩), c15, c16, c17, c18, c19, c20, c21, c22, c23, c24, c25, c26, c27, c28, c29, c30, c31, c32, c33, c34, c35, c36, c37, c38, c39, c40, c41, c42, c43, c44, c45, c46, c47, u48, u49, u50, u51, c52, c53, c54, c55, c56, c57, c58, c59, c60, c61, c62, c63, c64, c65, c66, c67, c68, c69, c70, c71, c72, c73, c74, c75, c76, c77, c78, c79, c80, c81, c82, c83, c84, c85, c86, c87, c88, c89, c90, c91, c92, c93, c94, c95, c96, c97, c98, c99, c100, c101, c102, c103, c104, c105, c106, c107, c108, c109, c110, c111, c112, c113, c114, c115, c116, c117, c118, c119, c120, c121, c122, c123, c124, c125, c126, c127, c128, c129, c130, c131, c132, c133, c134, c135, c136, c137, c138, c139, c140, c141, c142, c143, c144, c145, c146, c147, c148, c149, c150, c151, c152, c153, c154, c155, c156, c157, c158, c159, c160, c161, c162, c163, c164, c165, c166, c167, c168, c169, c170, c171, c172, c173, c174, c175, c176, c177, c178, c179, c180, c181, c182, c183, c184, c185, c186, c187, c188, c189, c190, c191, c192, c193, c194, c195, c196, c197, c198, c199, c200, c201, c202], []⟩ w') :
    (Code.region 11 #[⟨some 48, .move (.tmp 10), 39, "law.go:38", #[], none⟩, ⟨some 49, .load 52 (.tmp 14), 52, "law.go:38", #[], none⟩, ⟨some 50, .buildSlice 39 1 #[(0, .tmp 49)], 39, "law.go:38", #[⟨1, .data⟩], none⟩, ⟨some 51, .call { callee := .builtin .append, args := #[.tmp 48, .tmp 50], argTypes := #[39, 39] }, 39, "law.go:38", #[⟨0, .data⟩, ⟨2, .data⟩], none⟩, ⟨some 10, .assign (.tmp 51), 39, "law.go:38", #[⟨3, .data⟩, ⟨3, .chain⟩, ⟨0, .phase⟩, ⟨1, .phase⟩, ⟨2, .phase⟩, ⟨3, .phase⟩], none⟩] false).wp Try.prog Q ⟨#[c0, c1, c2, c3, c4, c5, c6, c7, c8, c9, v, c11, c12, c13, .pointer (some ⟨X, 0, none⟩), c15, c16, c17, c18, c19, c20, c21, c22, c23, c24, c25, c26, c27, c28, c29, c30, c31, c32, c33, c34, c35, c36, c37, c38, c39, c40, c41, c42, c43, c44, c45, c46, c47, c48, c49, c50, c51, c52, c53, c54, c55, c56, c57, c58, c59, c60, c61, c62, c63, c64, c65, c66, c67, c68, c69, c70, c71, c72, c73, c74, c75, c76, c77, c78, c79, c80, c81, c82, c83, c84, c85, c86, c87, c88, c89, c90, c91, c92, c93, c94, c95, c96, c97, c98, c99, c100, c101, c102, c103, c104, c105, c106, c107, c108, c109, c110, c111, c112, c113, c114, c115, c116, c117, c118, c119, c120, c121, c122, c123, c124, c125, c126, c127, c128, c129, c130, c131, c132, c133, c134, c135, c136, c137, c138, c139, c140, c141, c142, c143, c144, c145, c146, c147, c148, c149, c150, c151, c152, c153, c154, c155, c156, c157, c158, c159, c160, c161, c162, c163, c164, c165, c166, c167, c168, c169, c170, c171, c172, c173, c174, c175, c176, c177, c178, c179, c180, c181, c182, c183, c184, c185, c186, c187, c188, c189, c190, c191, c192, c193, c194, c195, c196, c197, c198, c199, c200, c201, c202], []⟩ W := by
  try dsimp only at hQ ⊢
  have HQ := Lib.hid hQ; clear hQ
  refine wp_region_lit (l := _) ?_
  refine wpList_step (fun K hK => ?_)
  go_simp
  refine hK _ _ ?_
  clear hK K
  try simp only [Act.put, List.setIfInBounds_toArray, List.set_cons_zero, List.set_cons_succ]
  refine wpList_load_mid rfl 52 _ rfl X 0 (by rfl) [.int .u64 (f 0 : Nat), .int .u64 (f 1 : Nat), .int .u64 (f 2 : Nat), .int .u64 (f 3 : Nat), .int .u64 (f 4 : Nat), .int .u64 (f 5 : Nat), .int .u64 (f 6 : Nat), .int .u64 (f 7 : Nat), .int .u64 (f 8 : Nat), .int .u64 (f 9 : Nat)] _ (range_of hX (by rfl)) Try.underlying52 (by rfl) (by kernel_rfl) ?_
  try simp only [Act.put, List.setIfInBounds_toArray, List.set_cons_zero, List.set_cons_succ]
  refine wpList_step (fun K hK => ?_)
  go_simp
  refine hK _ _ ?_
  clear hK K
  try simp only [Act.put, List.setIfInBounds_toArray, List.set_cons_zero, List.set_cons_succ]
  have hNB := heap_alloc_new W (.cells #[.int .u64 (f 0 : Nat), .int .u64 (f 1 : Nat), .int .u64 (f 2 : Nat), .int .u64 (f 3 : Nat), .int .u64 (f 4 : Nat), .int .u64 (f 5 : Nat), .int .u64 (f 6 : Nat), .int .u64 (f 7 : Nat), .int .u64 (f 8 : Nat), .int .u64 (f 9 : Nat)] 52)
  have hB1 := below_more (Below.refl W.heap.size W) (.cells #[.int .u64 (f 0 : Nat), .int .u64 (f 1 : Nat), .int .u64 (f 2 : Nat), .int .u64 (f 3 : Nat), .int .u64 (f 4 : Nat), .int .u64 (f 5 : Nat), .int .u64 (f 6 : Nat), .int .u64 (f 7 : Nat), .int .u64 (f 8 : Nat), .int .u64 (f 9 : Nat)] 52)
  have hX2 := heap_up (.cells #[.int .u64 (f 0 : Nat), .int .u64 (f 1 : Nat), .int .u64 (f 2 : Nat), .int .u64 (f 3 : Nat), .int .u64 (f 4 : Nat), .int .u64 (f 5 : Nat), .int .u64 (f 6 : Nat), .int .u64 (f 7 : Nat), .int .u64 (f 8 : Nat), .int .u64 (f 9 : Nat)] 52) hX
  clear hX
  refine wpList_step (fun K hK => ?_)
  refine app_rec (W0 := W0) _ _ rfl base v n xs rfl (own_stay hown hB1) (by have := hB1.size; omega) (h0.trans (hB1.mono h0.size)) hbb hn _ [.int .u64 (f 0 : Nat), .int .u64 (f 1 : Nat), .int .u64 (f 2 : Nat), .int .u64 (f 3 : Nat), .int .u64 (f 4 : Nat), .int .u64 (f 5 : Nat), .int .u64 (f 6 : Nat), .int .u64 (f 7 : Nat), .int .u64 (f 8 : Nat), .int .u64 (f 9 : Nat)] rfl hNB ⟨rfl, by simp [Value.oneCell']⟩ (fun v' u' hown' hB2 hBu hKeep => ?_)
  have hB1b := hB1.mono hbase
  clear hown hNB hB1
  refine hK _ _ ?_
  clear hK K
  try simp only [Act.put, List.setIfInBounds_toArray, List.set_cons_zero, List.set_cons_succ]
  refine wpList_step (fun K hK => ?_)
  go_simp
  refine hK _ _ ?_
  clear hK K
  try simp only [Act.put, List.setIfInBounds_toArray, List.set_cons_zero, List.set_cons_succ]
  refine wpList_nil ?_
  exact HQ.out _ _ _ _ _ _ hown' hB2 (hB1b.trans hBu) (fun hne => by rw [hKeep _ (heap_lt hX2) hne]; exact hX2)
set_option maxRecDepth 1000000 in
set_option maxHeartbeats 2000000 in
theorem freg16 (Q : Exit → Act → World → Prop) (c0 c1 c2 c3 c4 c5 c6 c7 c8 c9 c11 c12 c13 c14 c15 c17 c18 c19 c20 c21 c22 c23 c24 c25 c26 c27 c28 c29 c30 c31 c32 c33 c34 c35 c36 c37 c38 c39 c40 c41 c42 c43 c44 c45 c46 c47 c48 c49 c50 c51 c52 c53 c54 c55 c56 c57 c58 c59 c60 c61 c62 c63 c64 c65 c66 c67 c68 c69 c70 c71 c72 c73 c74 c75 c76 c77 c78 c79 c80 c81 c82 c83 c84 c85 c86 c87 c88 c89 c90 c91 c92 c93 c94 c95 c96 c97 c98 c99 c100 c101 c102 c103 c104 c105 c106 c107 c108 c109 c110 c111 c112 c113 c114 c115 c116 c117 c118 c119 c120 c121 c122 c123 c124 c125 c126 c127 c128 c129 c130 c131 c132 c133 c134 c135 c136 c137 c138 c139 c140 c141 c142 c143 c144 c145 c146 c147 c148 c149 c150 c151 c152 c153 c154 c155 c156 c157 c158 c159 c160 c161 c162 c163 c164 c165 c166 c167 c168 c169 c170 c171 c172 c173 c174 c175 c176 c177 c178 c179 c180 c181 c182 c183 c184 c185 c186 c187 c188 c189 c190 c191 c192 c193 c194 c195 c196 c197 c198 c199 c200 c201 c202 : Value) (X base n : Nat) (v : Value) (xs : List Value) (f : Nat → Nat) (W0 W : World) (hX : W.heap[X]? = some (.cells #[.int .u64 (f 0 : Nat), .int .u64 (f 1 : Nat), .int .u64 (f 2 : Nat), .int .u64 (f 3 : Nat), .int .u64 (f 4 : Nat), .int .u64 (f 5 : Nat), .int .u64 (f 6 : Nat), .int .u64 (f 7 : Nat), .int .u64 (f 8 : Nat), .int .u64 (f 9 : Nat)] 52 (0, 0))) (hown : W.ownsRow base 52 10 v n xs) (hbase : base ≤ W.heap.size) (h0 : Below W0.heap.size W0 W) (hbb : W0.heap.size ≤ base) (hn : n ≤ 100)
    (hQ : ∀ (u106 u107 u108 u109 : Value) (v' : Value) (w' : World), w'.ownsRow base 52 10 v' (n + 1) (xs ++ [.int .u64 (f 0 : Nat), .int .u64 (f 1 : Nat), .int .u64 (f 2 : Nat), .int .u64 (f 3 : Nat), .int .u64 (f 4 : Nat), .int .u64 (f 5 : Nat), .int .u64 (f 6 : Nat), .int .u64 (f 7 : Nat), .int .u64 (f 8 : Nat), .int .u64 (f 9 : Nat)]) → Below W0.heap.size W0 w' → Below base W w' → (v.ownBlock ≠ some X → w'.heap[X]? = some (.cells #[.int .u64 (f 0 : Nat), .int .u64 (f 1 : Nat), .int .u64 (f 2 : Nat), .int .u64 (f 3 : Nat), .int .u64 (f 4 : Nat), .int .u64 (f 5 : Nat), .int .u64 (f 6 : Nat), .int .u64 (f 7 : Nat), .int .u64 (f 8 : Nat), .int .u64 (f 9 : Nat)] 52 (0, 0))) → Q .normal ⟨#[c0, c1, c2, c3, c4, c5, c6, c7, c8, c9, v', c11, c12, c13, c14, c15, .pointer (some ⟨X, 0, none⟩), c17, c18, c19, c20, c21, c22, c23, c24, c25, c26, c27, c28, c29, c30, c31, c32, c33, c34, c35, c36, c37, c38, c39, c40, c41, c42, c43, c44, c45, c46, c47, c48, c49, c50, c51, c52, c53, c54, c55, c56, c57, c58, c59, c60, c61, c62, c63, c64, c65, c66, c67, c68, c69, c70, c71, c72, c73, c74, c75, c76, c77, c78, c79, c80, c81, c82, c83, c84, c85, c86, c87, c88, c89, c90, c91, c92, c93, c94, c95, c96, c97, c98, c99, c100, c101, c102, c103, c104, c105, u106, u107, u108, u109, c110, c111, c112, c113, c114, c115, c116, c117, c118, c119, c120, c121, c122, c123, c124, c125, c126, c127, c128, c129, c130, c131, c132, c133, c134, c135, c136, c137, c138, c139, c140, c141, c142, c143, c144, c145, c146, c147, c148, c149, c150, c151, c152, c153, c154, c155, c156, c157, c158, c159, c160, c161, c162, c163, c164, c165, c166, c167, c168, c169, c170, c171, c172, c173, c174, c175, c176, c177, c178, c179, c180, c181, c182, c183, c184, c185, c186, c187, c188, c189, c190, c191, c192, c193, c194, c195, c196, c197, c198, c199, c200, c201, c202], []⟩ w') :
    (Code.region 16 #[⟨some 106, .move (.tmp 10), 39, "law.go:41", #[], none⟩, ⟨some 107, .load 52 (.tmp 16), 52, "law.go:41", #[], none⟩, ⟨some 108, .buildSlice 39 1 #[(0, .tmp 107)], 39, "law.go:41", #[⟨1, .data⟩], none⟩, ⟨some 109, .call { callee := .builtin .append, args := #[.tmp 106, .tmp 108], argTypes := #[39, 39] }, 39, "law.go:41", #[⟨0, .data⟩, ⟨2, .data⟩], none⟩, ⟨some 10, .assign (.tmp 109), 39, "law.go:41", #[⟨3, .data⟩, ⟨3, .chain⟩, ⟨0, .phase⟩, ⟨1, .phase⟩, ⟨2, .phase⟩, ⟨3, .phase⟩], none⟩] false).wp Try.prog Q ⟨#[c0, c1, c2, c3, c4, c5, c6, c7, c8, c9, v, c11, c12, c13, c14, c15, .pointer (some ⟨X, 0, none⟩), c17, c18, c19, c20, c21, c22, c23, c24, c25, c26, c27, c28, c29, c30, c31, c32, c33, c34, c35, c36, c37, c38, c39, c40, c41, c42, c43, c44, c45, c46, c47, c48, c49, c50, c51, c52, c53, c54, c55, c56, c57, c58, c59, c60, c61, c62, c63, c64, c65, c66, c67, c68, c69, c70, c71, c72, c73, c74, c75, c76, c77, c78, c79, c80, c81, c82, c83, c84, c85, c86, c87, c88, c89, c90, c91, c92, c93, c94, c95, c96, c97, c98, c99, c100, c101, c102, c103, c104, c105, c106, c107, c108, c109, c110, c111, c112, c113, c114, c115, c116, c117, c118, c119, c120, c121, c122, c123, c124, c125, c126, c127, c128, c129, c130, c131, c132, c133, c134, c135, c136, c137, c138, c139, c140, c141, c142, c143, c144, c145, c146, c147, c148, c149, c150, c151, c152, c153, c154, c155, c156, c157, c158, c159, c160, c161, c162, c163, c164, c165, c166, c167, c168, c169, c170, c171, c172, c173, c174, c175, c176, c177, c178, c179, c180, c181, c182, c183, c184, c185, c186, c187, c188, c189, c190, c191, c192, c193, c194, c195, c196, c197, c198, c199, c200, c201, c202], []⟩ W := by
  try dsimp only at hQ ⊢
  have HQ := Lib.hid hQ; clear hQ
  refine wp_region_lit (l := _) ?_
  refine wpList_step (fun K hK => ?_)
  go_simp
  refine hK _ _ ?_
  clear hK K
  try simp only [Act.put, List.setIfInBounds_toArray, List.set_cons_zero, List.set_cons_succ]
  refine wpList_load_mid rfl 52 _ rfl X 0 (by rfl) [.int .u64 (f 0 : Nat), .int .u64 (f 1 : Nat), .int .u64 (f 2 : Nat), .int .u64 (f 3 : Nat), .int .u64 (f 4 : Nat), .int .u64 (f 5 : Nat), .int .u64 (f 6 : Nat), .int .u64 (f 7 : Nat), .int .u64 (f 8 : Nat), .int .u64 (f 9 : Nat)] _ (range_of hX (by rfl)) Try.underlying52 (by rfl) (by kernel_rfl) ?_
  try simp only [Act.put, List.setIfInBounds_toArray, List.set_cons_zero, List.set_cons_succ]
  refine wpList_step (fun K hK => ?_)
  go_simp
  refine hK _ _ ?_
  clear hK K
  try simp only [Act.put, List.setIfInBounds_toArray, List.set_cons_zero, List.set_cons_succ]
  have hNB := heap_alloc_new W (.cells #[.int .u64 (f 0 : Nat), .int .u64 (f 1 : Nat), .int .u64 (f 2 : Nat), .int .u64 (f 3 : Nat), .int .u64 (f 4 : Nat), .int .u64 (f 5 : Nat), .int .u64 (f 6 : Nat), .int .u64 (f 7 : Nat), .int .u64 (f 8 : Nat), .int .u64 (f 9 : Nat)] 52)
  have hB1 := below_more (Below.refl W.heap.size W) (.cells #[.int .u64 (f 0 : Nat), .int .u64 (f 1 : Nat), .int .u64 (f 2 : Nat), .int .u64 (f 3 : Nat), .int .u64 (f 4 : Nat), .int .u64 (f 5 : Nat), .int .u64 (f 6 : Nat), .int .u64 (f 7 : Nat), .int .u64 (f 8 : Nat), .int .u64 (f 9 : Nat)] 52)
  have hX2 := heap_up (.cells #[.int .u64 (f 0 : Nat), .int .u64 (f 1 : Nat), .int .u64 (f 2 : Nat), .int .u64 (f 3 : Nat), .int .u64 (f 4 : Nat), .int .u64 (f 5 : Nat), .int .u64 (f 6 : Nat), .int .u64 (f 7 : Nat), .int .u64 (f 8 : Nat), .int .u64 (f 9 : Nat)] 52) hX
  clear hX
  refine wpList_step (fun K hK => ?_)
  refine app_rec (W0 := W0) _ _ rfl base v n xs rfl (own_stay hown hB1) (by have := hB1.size; omega) (h0.trans (hB1.mono h0.size)) hbb hn _ [.int .u64 (f 0 : Nat), .int .u64 (f 1 : Nat), .int .u64 (f 2 : Nat), .int .u64 (f 3 : Nat), .int .u64 (f 4 : Nat), .int .u64 (f 5 : Nat), .int .u64 (f 6 : Nat), .int .u64 (f 7 : Nat), .int .u64 (f 8 : Nat), .int .u64 (f 9 : Nat)] rfl hNB ⟨rfl, by simp [Value.oneCell']⟩ (fun v' u' hown' hB2 hBu hKeep => ?_)
  have hB1b := hB1.mono hbase
  clear hown hNB hB1
  refine hK _ _ ?_
  clear hK K
  try simp only [Act.put, List.setIfInBounds_toArray, List.set_cons_zero, List.set_cons_succ]
  refine wpList_step (fun K hK => ?_)
  go_simp
  refine hK _ _ ?_
  clear hK K
  try simp only [Act.put, List.setIfInBounds_toArray, List.set_cons_zero, List.set_cons_succ]
  refine wpList_nil ?_
  exact HQ.out _ _ _ _ _ _ hown' hB2 (hB1b.trans hBu) (fun hne => by rw [hKeep _ (heap_lt hX2) hne]; exact hX2)
end Go.Proofs.Ytedocnidgiglaaa
namespace Go.Proofs.Ytedocnidgiglaaa
open Go.RowKit
set_option linter.unusedVariables false
set_option maxRecDepth 1000000 in
set_option maxHeartbeats 4000000 in
theorem freg15 (Q : Exit → Act → World → Prop) (c0 c2 c3 c4 c5 c6 c7 c8 c9 c10 c13 c14 c16 c17 c18 c19 c20 c21 c22 c23 c24 c25 c26 c27 c28 c29 c30 c31 c32 c33 c34 c35 c36 c37 c38 c39 c40 c41 c42 c43 c44 c45 c46 c47 c48 c49 c50 c51 c52 c53 c54 c55 c56 c57 c58 c59 c60 c61 c62 c63 c64 c65 c66 c67 c68 c69 c70 c71 c72 c73 c74 c75 c76 c77 c78 c79 c80 c81 c82 c83 c84 c85 c86 c87 c88 c89 c90 c91 c92 c93 c94 c95 c96 c97 c98 c99 c100 c101 c102 c103 c104 c105 c106 c107 c108 c109 c110 c111 c112 c113 c114 c115 c116 c117 c118 c119 c120 c121 c122 c123 c124 c125 c126 c127 c128 c129 c130 c131 c132 c133 c134 c135 c136 c137 c138 c139 c140 c141 c142 c143 c144 c145 c146 c147 c148 c149 c150 c151 c152 c153 c154 c155 c156 c157 c158 c159 c160 c161 c162 c163 c164 c165 c166 c167 c168 c169 c170 c171 c172 c173 c174 c175 c176 c177 c178 c179 c180 c181 c182 c183 c184 c185 c186 c187 c188 c189 c190 c191 c192 c193 c194 c195 c196 c197 c198 c199 c200 c201 c202 : Value) (bb o n cap i bg off a0 a1 a2 a3 a4 a5 a6 : Nat) (bd D : ByteArray) (W : World) (i0 : (0 : Int) ≤ (i : Int)) (i1 : (i : Int) < (n : Int))
    (X0 : Hid (∀ u, Below W.heap.size W u → u.cell? ⟨bb, o + i * 8, none⟩ = some (.int .u64 (a0 : Nat))))
    (X1 : Hid (∀ u, Below W.heap.size W u → u.cell? ⟨bb, o + i * 8 + 1, none⟩ = some (.int .u64 (a1 : Nat))))
    (X2 : Hid (∀ u, Below W.heap.size W u → u.cell? ⟨bb, o + i * 8 + 2, none⟩ = some (.int .u64 (a2 : Nat))))
    (X3 : Hid (∀ u, Below W.heap.size W u → u.cell? ⟨bb, o + i * 8 + 3, none⟩ = some (.int .u64 (a3 : Nat))))
    (X4 : Hid (∀ u, Below W.heap.size W u → u.cell? ⟨bb, o + i * 8 + 4, none⟩ = some (.int .u64 (a4 : Nat))))
    (X5 : Hid (∀ u, Below W.heap.size W u → u.cell? ⟨bb, o + i * 8 + 5, none⟩ = some (.int .u64 (a5 : Nat))))
    (X6 : Hid (∀ u, Below W.heap.size W u → u.cell? ⟨bb, o + i * 8 + 6, none⟩ = some (.int .u64 (a6 : Nat))))
    (X7 : Hid (∀ u, Below W.heap.size W u → u.cell? ⟨bb, o + i * 8 + 7, none⟩ = some (.string D))) (e1 : IntKind.u64.wrap (bd.size : Int) = (bd.size : Int)) (e2 : IntKind.u64.wrap ((bg : Int) + (bd.size : Int)) = (off : Int)) (e3 : IntKind.u64.wrap (D.size : Int) = (D.size : Int))
    (hP : ∀ c a w i v, Q (.panic c) (a.put (some i) v) w → Q (.panic c) a w)
    (hQ : ∀ (u58 u59 u60 u61 u62 u63 u64 u65 u66 u67 u68 u69 u70 u71 u72 u73 u74 u75 u76 u77 u78 u79 u80 u81 u82 u83 u84 u85 u86 u87 u88 u89 u90 u91 u92 u93 u94 u95 u96 u97 u98 u99 u100 u101 u102 u103 u104 u105 : Value) (X : Nat) (w' : World), w'.heap[X]? = some (.cells #[.int .u64 (a0 : Nat), .int .u64 (a1 : Nat), .int .u64 (a2 : Nat), .int .u64 0, .int .u64 (off : Nat), .int .u64 (D.size : Nat), .int .u64 (a3 : Nat), .int .u64 (a4 : Nat), .int .u64 (a5 : Nat), .int .u64 (a6 : Nat)] 52 (0, 0)) → W.heap.size ≤ X → Below W.heap.size W w' → Q .normal ⟨#[c0, .slice (some ⟨bb, o, none⟩) n cap, c2, c3, c4, c5, c6, c7, c8, c9, c10, .string bd, .int .u64 (bg : Nat), c13, c14, .int .i64 (i : Nat), .pointer (some ⟨X, 0, none⟩), c17, c18, c19, c20, c21, c22, c23, c24, c25, c26, c27, c28, c29, c30, c31, c32, c33, c34, c35, c36, c37, c38, c39, c40, c41, c42, c43, c44, c45, c46, c47, c48, c49, c50, c51, c52, c53, c54, c55, c56, c57, u58, u59, u60, u61, u62, u63, u64, u65, u66, u67, u68, u69, u70, u71, u72, u73, u74, u75, u76, u77, u78, u79, u80, u81, u82, u83, u84, u85, u86, u87, u88, u89, u90, u91, u92, u93, u94, u95, u96, u97, u98, u99, u100, u101, u102, u103, u104, u105, c106, c107, c108, c109, c110, c111, c112, c113, c114, c115, c116, c117, c118, c119, c120, c121, c122, c123, c124, c125, c126, c127, c128, c129, c130, c131, c132, c133, c134, c135, c136, c137, c138, c139, c140, c141, c142, c143, c144, c145, c146, c147, c148, c149, c150, c151, c152, c153, c154, c155, c156, c157, c158, c159, c160, c161, c162, c163, c164, c165, c166, c167, c168, c169, c170, c171, c172, c173, c174, c175, c176, c177, c178, c179, c180, c181, c182, c183, c184, c185, c186, c187, c188, c189, c190, c191, c192, c193, c194, c195, c196, c197, c198, c199, c200, c201, c202], []⟩ w') :
    (Code.region 15 #[⟨some 58, .move (.tmp 1), 22, "law.go:40", #[], none⟩, ⟨some 59, .move (.tmp 15), 3, "law.go:40", #[], none⟩, ⟨some 60, .indexAddr 22 (.tmp 58) (.tmp 59), 0, "law.go:40", #[⟨0, .data⟩, ⟨1, .data⟩], none⟩, ⟨some 61, .fieldAddr 57 (.tmp 60) 0, 0, "law.go:40", #[⟨2, .data⟩], none⟩, ⟨some 62, .load 29 (.tmp 61), 29, "law.go:40", #[⟨3, .data⟩], none⟩, ⟨some 63, .move (.tmp 1), 22, "law.go:40", #[], none⟩, ⟨some 64, .move (.tmp 15), 3, "law.go:40", #[], none⟩, ⟨some 65, .indexAddr 22 (.tmp 63) (.tmp 64), 0, "law.go:40", #[⟨5, .data⟩, ⟨6, .data⟩], none⟩, ⟨some 66, .fieldAddr 57 (.tmp 65) 1, 0, "law.go:40", #[⟨7, .data⟩], none⟩, ⟨some 67, .load 29 (.tmp 66), 29, "law.go:40", #[⟨8, .data⟩], none⟩, ⟨some 68, .move (.tmp 1), 22, "law.go:40", #[], none⟩, ⟨some 69, .move (.tmp 15), 3, "law.go:40", #[], none⟩, ⟨some 70, .indexAddr 22 (.tmp 68) (.tmp 69), 0, "law.go:40", #[⟨10, .data⟩, ⟨11, .data⟩], none⟩, ⟨some 71, .fieldAddr 57 (.tmp 70) 2, 0, "law.go:40", #[⟨12, .data⟩], none⟩, ⟨some 72, .load 29 (.tmp 71), 29, "law.go:40", #[⟨13, .data⟩], none⟩, ⟨some 73, .move (.tmp 12), 29, "law.go:40", #[], none⟩, ⟨some 74, .move (.tmp 11), 9, "law.go:40", #[], none⟩, ⟨some 75, .call { callee := .builtin .len, args := #[.tmp 74], argTypes := #[9] }, 3, "law.go:40", #[⟨16, .data⟩], none⟩, ⟨some 76, .convert 3 29 (.tmp 75), 29, "law.go:40", #[⟨17, .data⟩], none⟩, ⟨some 77, .binOp .add 29 (.tmp 73) (.tmp 76) 29, 29, "law.go:40", #[⟨15, .data⟩, ⟨18, .data⟩], none⟩, ⟨some 78, .move (.tmp 1), 22, "law.go:40", #[], none⟩, ⟨some 79, .move (.tmp 15), 3, "law.go:40", #[], none⟩, ⟨some 80, .indexAddr 22 (.tmp 78) (.tmp 79), 0, "law.go:40", #[⟨20, .data⟩, ⟨21, .data⟩], none⟩, ⟨some 81, .fieldAddr 57 (.tmp 80) 7, 0, "law.go:40", #[⟨22, .data⟩], none⟩, ⟨some 82, .load 9 (.tmp 81), 9, "law.go:40", #[⟨23, .data⟩], none⟩, ⟨some 83, .call { callee := .builtin .len, args := #[.tmp 82], argTypes := #[9] }, 3, "law.go:40", #[⟨24, .data⟩], none⟩, ⟨some 84, .convert 3 29 (.tmp 83), 29, "law.go:40", #[⟨25, .data⟩], none⟩, ⟨some 85, .move (.tmp 1), 22, "law.go:40", #[], none⟩, ⟨some 86, .move (.tmp 15), 3, "law.go:40", #[], none⟩, ⟨some 87, .indexAddr 22 (.tmp 85) (.tmp 86), 0, "law.go:40", #[⟨27, .data⟩, ⟨28, .data⟩], none⟩, ⟨some 88, .fieldAddr 57 (.tmp 87) 3, 0, "law.go:40", #[⟨29, .data⟩], none⟩, ⟨some 89, .load 29 (.tmp 88), 29, "law.go:40", #[⟨30, .data⟩], none⟩, ⟨some 90, .move (.tmp 1), 22, "law.go:40", #[], none⟩, ⟨some 91, .move (.tmp 15), 3, "law.go:40", #[], none⟩, ⟨some 92, .indexAddr 22 (.tmp 90) (.tmp 91), 0, "law.go:40", #[⟨32, .data⟩, ⟨33, .data⟩], none⟩, ⟨some 93, .fieldAddr 57 (.tmp 92) 4, 0, "law.go:40", #[⟨34, .data⟩], none⟩, ⟨some 94, .load 29 (.tmp 93), 29, "law.go:40", #[⟨35, .data⟩], none⟩, ⟨some 95, .move (.tmp 1), 22, "law.go:40", #[], none⟩, ⟨some 96, .move (.tmp 15), 3, "law.go:40", #[], none⟩, ⟨some 97, .indexAddr 22 (.tmp 95) (.tmp 96), 0, "law.go:40", #[⟨37, .data⟩, ⟨38, .data⟩], none⟩, ⟨some 98, .fieldAddr 57 (.tmp 97) 5, 0, "law.go:40", #[⟨39, .data⟩], none⟩, ⟨some 99, .load 29 (.tmp 98), 29, "law.go:40", #[⟨40, .data⟩], none⟩, ⟨some 100, .move (.tmp 1), 22, "law.go:40", #[], none⟩, ⟨some 101, .move (.tmp 15), 3, "law.go:40", #[], none⟩, ⟨some 102, .indexAddr 22 (.tmp 100) (.tmp 101), 0, "law.go:40", #[⟨42, .data⟩, ⟨43, .data⟩], none⟩, ⟨some 103, .fieldAddr 57 (.tmp 102) 6, 0, "law.go:40", #[⟨44, .data⟩], none⟩, ⟨some 104, .load 29 (.tmp 103), 29, "law.go:40", #[⟨45, .data⟩], none⟩, ⟨some 105, .build 52 #[(0, .tmp 62), (1, .tmp 67), (2, .tmp 72), (4, .tmp 77), (5, .tmp 84), (6, .tmp 89), (7, .tmp 94), (8, .tmp 99), (9, .tmp 104)], 52, "law.go:40", #[⟨4, .data⟩, ⟨9, .data⟩, ⟨14, .data⟩, ⟨19, .data⟩, ⟨26, .data⟩, ⟨31, .data⟩, ⟨36, .data⟩, ⟨41, .data⟩, ⟨46, .data⟩], none⟩, ⟨some 16, .alloc 52, 0, "law.go:40", #[], none⟩, ⟨none, .store 52 (.tmp 16) (.tmp 105), 0, "law.go:40", #[⟨48, .data⟩, ⟨47, .data⟩, ⟨0, .phase⟩, ⟨1, .phase⟩, ⟨2, .phase⟩, ⟨3, .phase⟩, ⟨4, .phase⟩, ⟨5, .phase⟩, ⟨6, .phase⟩, ⟨7, .phase⟩, ⟨8, .phase⟩, ⟨9, .phase⟩, ⟨10, .phase⟩, ⟨11, .phase⟩, ⟨12, .phase⟩, ⟨13, .phase⟩, ⟨14, .phase⟩, ⟨15, .phase⟩, ⟨16, .phase⟩, ⟨17, .phase⟩, ⟨18, .phase⟩, ⟨19, .phase⟩, ⟨20, .phase⟩, ⟨21, .phase⟩, ⟨22, .phase⟩, ⟨23, .phase⟩, ⟨24, .phase⟩, ⟨25, .phase⟩, ⟨26, .phase⟩, ⟨27, .phase⟩, ⟨28, .phase⟩, ⟨29, .phase⟩, ⟨30, .phase⟩, ⟨31, .phase⟩, ⟨32, .phase⟩, ⟨33, .phase⟩, ⟨34, .phase⟩, ⟨35, .phase⟩, ⟨36, .phase⟩, ⟨37, .phase⟩, ⟨38, .phase⟩, ⟨39, .phase⟩, ⟨40, .phase⟩, ⟨41, .phase⟩, ⟨42, .phase⟩, ⟨43, .phase⟩, ⟨44, .phase⟩, ⟨45, .phase⟩, ⟨46, .phase⟩, ⟨47, .phase⟩, ⟨48, .phase⟩], none⟩] true).wp Try.prog Q ⟨#[c0, .slice (some ⟨bb, o, none⟩) n cap, c2, c3, c4, c5, c6, c7, c8, c9, c10, .string bd, .int .u64 (bg : Nat), c13, c14, .int .i64 (i : Nat), c16, c17, c18, c19, c20, c21, c22, c23, c24, c25, c26, c27, c28, c29, c30, c31, c32, c33, c34, c35, c36, c37, c38, c39, c40, c41, c42, c43, c44, c45, c46, c47, c48, c49, c50, c51, c52, c53, c54, c55, c56, c57, c58, c59, c60, c61, c62, c63, c64, c65, c66, c67, c68, c69, c70, c71, c72, c73, c74, c75, c76, c77, c78, c79, c80, c81, c82, c83, c84, c85, c86, c87, c88, c89, c90, c91, c92, c93, c94, c95, c96, c97, c98, c99, c100, c101, c102, c103, c104, c105, c106, c107, c108, c109, c110, c111, c112, c113, c114, c115, c116, c117, c118, c119, c120, c121, c122, c123, c124, c125, c126, c127, c128, c129, c130, c131, c132, c133, c134, c135, c136, c137, c138, c139, c140, c141, c142, c143, c144, c145, c146, c147, c148, c149, c150, c151, c152, c153, c154, c155, c156, c157, c158, c159, c160, c161, c162, c163, c164, c165, c166, c167, c168, c169, c170, c171, c172, c173, c174, c175, c176, c177, c178, c179, c180, c181, c182, c183, c184, c185, c186, c187, c188, c189, c190, c191, c192, c193, c194, c195, c196, c197, c198, c199, c200, c201, c202], []⟩ W := by
  try dsimp only at hQ ⊢
  have HQ := Lib.hid hQ; clear hQ
  refine wp_region_held_drew (S := fun w' => Below W.heap.size W w') (by kernel_rfl) ?_ (fun hHeld => ?_)
  · exact (Below.refl _ _).drew
  generalize W.drew = W0 at *
  refine wpAnyH_take (i := 0) (oi := ⟨some 58, .move (.tmp 1), 22, "law.go:40", #[], none⟩) (v := ?_) rfl (by kernel_rfl) (by kernel_rfl) (by kernel_rfl) (fun c a w h => hP c a w _ _ h) (Or.inl ⟨by rfl, ?_⟩) (by assumption) ?_
  rotate_left
  · (intro w hSw; (try dsimp only at hSw); go_simp <;> with_reducible rfl)
  try simp only [Act.put, List.setIfInBounds_toArray, List.set_cons_zero, List.set_cons_succ]
  refine wpAnyH_take (i := 1) (oi := ⟨some 59, .move (.tmp 15), 3, "law.go:40", #[], none⟩) (v := ?_) rfl (by kernel_rfl) (by kernel_rfl) (by kernel_rfl) (fun c a w h => hP c a w _ _ h) (Or.inl ⟨by rfl, ?_⟩) (by assumption) ?_
  rotate_left
  · (intro w hSw; (try dsimp only at hSw); go_simp <;> with_reducible rfl)
  try simp only [Act.put, List.setIfInBounds_toArray, List.set_cons_zero, List.set_cons_succ]
  refine wpAnyH_take (i := 5) (oi := ⟨some 63, .move (.tmp 1), 22, "law.go:40", #[], none⟩) (v := ?_) rfl (by kernel_rfl) (by kernel_rfl) (by kernel_rfl) (fun c a w h => hP c a w _ _ h) (Or.inl ⟨by rfl, ?_⟩) (by assumption) ?_
  rotate_left
  · (intro w hSw; (try dsimp only at hSw); go_simp <;> with_reducible rfl)
  try simp only [Act.put, List.setIfInBounds_toArray, List.set_cons_zero, List.set_cons_succ]
  refine wpAnyH_take (i := 6) (oi := ⟨some 64, .move (.tmp 15), 3, "law.go:40", #[], none⟩) (v := ?_) rfl (by kernel_rfl) (by kernel_rfl) (by kernel_rfl) (fun c a w h => hP c a w _ _ h) (Or.inl ⟨by rfl, ?_⟩) (by assumption) ?_
  rotate_left
  · (intro w hSw; (try dsimp only at hSw); go_simp <;> with_reducible rfl)
  try simp only [Act.put, List.setIfInBounds_toArray, List.set_cons_zero, List.set_cons_succ]
  refine wpAnyH_take (i := 10) (oi := ⟨some 68, .move (.tmp 1), 22, "law.go:40", #[], none⟩) (v := ?_) rfl (by kernel_rfl) (by kernel_rfl) (by kernel_rfl) (fun c a w h => hP c a w _ _ h) (Or.inl ⟨by rfl, ?_⟩) (by assumption) ?_
  rotate_left
  · (intro w hSw; (try dsimp only at hSw); go_simp <;> with_reducible rfl)
  try simp only [Act.put, List.setIfInBounds_toArray, List.set_cons_zero, List.set_cons_succ]
  refine wpAnyH_take (i := 11) (oi := ⟨some 69, .move (.tmp 15), 3, "law.go:40", #[], none⟩) (v := ?_) rfl (by kernel_rfl) (by kernel_rfl) (by kernel_rfl) (fun c a w h => hP c a w _ _ h) (Or.inl ⟨by rfl, ?_⟩) (by assumption) ?_
  rotate_left
  · (intro w hSw; (try dsimp only at hSw); go_simp <;> with_reducible rfl)
  try simp only [Act.put, List.setIfInBounds_toArray, List.set_cons_zero, List.set_cons_succ]
  refine wpAnyH_take (i := 15) (oi := ⟨some 73, .move (.tmp 12), 29, "law.go:40", #[], none⟩) (v := ?_) rfl (by kernel_rfl) (by kernel_rfl) (by kernel_rfl) (fun c a w h => hP c a w _ _ h) (Or.inl ⟨by rfl, ?_⟩) (by assumption) ?_
  rotate_left
  · (intro w hSw; (try dsimp only at hSw); go_simp <;> with_reducible rfl)
  try simp only [Act.put, List.setIfInBounds_toArray, List.set_cons_zero, List.set_cons_succ]
  refine wpAnyH_take (i := 16) (oi := ⟨some 74, .move (.tmp 11), 9, "law.go:40", #[], none⟩) (v := ?_) rfl (by kernel_rfl) (by kernel_rfl) (by kernel_rfl) (fun c a w h => hP c a w _ _ h) (Or.inl ⟨by rfl, ?_⟩) (by assumption) ?_
  rotate_left
  · (intro w hSw; (try dsimp only at hSw); go_simp <;> with_reducible rfl)
  try simp only [Act.put, List.setIfInBounds_toArray, List.set_cons_zero, List.set_cons_succ]
  refine wpAnyH_take (i := 20) (oi := ⟨some 78, .move (.tmp 1), 22, "law.go:40", #[], none⟩) (v := ?_) rfl (by kernel_rfl) (by kernel_rfl) (by kernel_rfl) (fun c a w h => hP c a w _ _ h) (Or.inl ⟨by rfl, ?_⟩) (by assumption) ?_
  rotate_left
  · (intro w hSw; (try dsimp only at hSw); go_simp <;> with_reducible rfl)
  try simp only [Act.put, List.setIfInBounds_toArray, List.set_cons_zero, List.set_cons_succ]
  refine wpAnyH_take (i := 21) (oi := ⟨some 79, .move (.tmp 15), 3, "law.go:40", #[], none⟩) (v := ?_) rfl (by kernel_rfl) (by kernel_rfl) (by kernel_rfl) (fun c a w h => hP c a w _ _ h) (Or.inl ⟨by rfl, ?_⟩) (by assumption) ?_
  rotate_left
  · (intro w hSw; (try dsimp only at hSw); go_simp <;> with_reducible rfl)
  try simp only [Act.put, List.setIfInBounds_toArray, List.set_cons_zero, List.set_cons_succ]
  refine wpAnyH_take (i := 27) (oi := ⟨some 85, .move (.tmp 1), 22, "law.go:40", #[], none⟩) (v := ?_) rfl (by kernel_rfl) (by kernel_rfl) (by kernel_rfl) (fun c a w h => hP c a w _ _ h) (Or.inl ⟨by rfl, ?_⟩) (by assumption) ?_
  rotate_left
  · (intro w hSw; (try dsimp only at hSw); go_simp <;> with_reducible rfl)
  try simp only [Act.put, List.setIfInBounds_toArray, List.set_cons_zero, List.set_cons_succ]
  refine wpAnyH_take (i := 28) (oi := ⟨some 86, .move (.tmp 15), 3, "law.go:40", #[], none⟩) (v := ?_) rfl (by kernel_rfl) (by kernel_rfl) (by kernel_rfl) (fun c a w h => hP c a w _ _ h) (Or.inl ⟨by rfl, ?_⟩) (by assumption) ?_
  rotate_left
  · (intro w hSw; (try dsimp only at hSw); go_simp <;> with_reducible rfl)
  try simp only [Act.put, List.setIfInBounds_toArray, List.set_cons_zero, List.set_cons_succ]
  refine wpAnyH_take (i := 32) (oi := ⟨some 90, .move (.tmp 1), 22, "law.go:40", #[], none⟩) (v := ?_) rfl (by kernel_rfl) (by kernel_rfl) (by kernel_rfl) (fun c a w h => hP c a w _ _ h) (Or.inl ⟨by rfl, ?_⟩) (by assumption) ?_
  rotate_left
  · (intro w hSw; (try dsimp only at hSw); go_simp <;> with_reducible rfl)
  try simp only [Act.put, List.setIfInBounds_toArray, List.set_cons_zero, List.set_cons_succ]
  refine wpAnyH_take (i := 33) (oi := ⟨some 91, .move (.tmp 15), 3, "law.go:40", #[], none⟩) (v := ?_) rfl (by kernel_rfl) (by kernel_rfl) (by kernel_rfl) (fun c a w h => hP c a w _ _ h) (Or.inl ⟨by rfl, ?_⟩) (by assumption) ?_
  rotate_left
  · (intro w hSw; (try dsimp only at hSw); go_simp <;> with_reducible rfl)
  try simp only [Act.put, List.setIfInBounds_toArray, List.set_cons_zero, List.set_cons_succ]
  refine wpAnyH_take (i := 37) (oi := ⟨some 95, .move (.tmp 1), 22, "law.go:40", #[], none⟩) (v := ?_) rfl (by kernel_rfl) (by kernel_rfl) (by kernel_rfl) (fun c a w h => hP c a w _ _ h) (Or.inl ⟨by rfl, ?_⟩) (by assumption) ?_
  rotate_left
  · (intro w hSw; (try dsimp only at hSw); go_simp <;> with_reducible rfl)
  try simp only [Act.put, List.setIfInBounds_toArray, List.set_cons_zero, List.set_cons_succ]
  refine wpAnyH_take (i := 38) (oi := ⟨some 96, .move (.tmp 15), 3, "law.go:40", #[], none⟩) (v := ?_) rfl (by kernel_rfl) (by kernel_rfl) (by kernel_rfl) (fun c a w h => hP c a w _ _ h) (Or.inl ⟨by rfl, ?_⟩) (by assumption) ?_
  rotate_left
  · (intro w hSw; (try dsimp only at hSw); go_simp <;> with_reducible rfl)
  try simp only [Act.put, List.setIfInBounds_toArray, List.set_cons_zero, List.set_cons_succ]
  refine wpAnyH_take (i := 42) (oi := ⟨some 100, .move (.tmp 1), 22, "law.go:40", #[], none⟩) (v := ?_) rfl (by kernel_rfl) (by kernel_rfl) (by kernel_rfl) (fun c a w h => hP c a w _ _ h) (Or.inl ⟨by rfl, ?_⟩) (by assumption) ?_
  rotate_left
  · (intro w hSw; (try dsimp only at hSw); go_simp <;> with_reducible rfl)
  try simp only [Act.put, List.setIfInBounds_toArray, List.set_cons_zero, List.set_cons_succ]
  refine wpAnyH_take (i := 43) (oi := ⟨some 101, .move (.tmp 15), 3, "law.go:40", #[], none⟩) (v := ?_) rfl (by kernel_rfl) (by kernel_rfl) (by kernel_rfl) (fun c a w h => hP c a w _ _ h) (Or.inl ⟨by rfl, ?_⟩) (by assumption) ?_
  rotate_left
  · (intro w hSw; (try dsimp only at hSw); go_simp <;> with_reducible rfl)
  try simp only [Act.put, List.setIfInBounds_toArray, List.set_cons_zero, List.set_cons_succ]
  refine wpAnyH_take (i := 2) (oi := ⟨some 60, .indexAddr 22 (.tmp 58) (.tmp 59), 0, "law.go:40", #[⟨0, .data⟩, ⟨1, .data⟩], none⟩) (v := ?_) rfl (by kernel_rfl) (by kernel_rfl) (by kernel_rfl) (fun c a w h => hP c a w _ _ h) (Or.inl ⟨by rfl, ?_⟩) (by assumption) ?_
  rotate_left
  · (intro w hSw; (try dsimp only at hSw); go_simp <;> with_reducible rfl)
  try simp only [Act.put, List.setIfInBounds_toArray, List.set_cons_zero, List.set_cons_succ]
  refine wpAnyH_take (i := 7) (oi := ⟨some 65, .indexAddr 22 (.tmp 63) (.tmp 64), 0, "law.go:40", #[⟨5, .data⟩, ⟨6, .data⟩], none⟩) (v := ?_) rfl (by kernel_rfl) (by kernel_rfl) (by kernel_rfl) (fun c a w h => hP c a w _ _ h) (Or.inl ⟨by rfl, ?_⟩) (by assumption) ?_
  rotate_left
  · (intro w hSw; (try dsimp only at hSw); go_simp <;> with_reducible rfl)
  try simp only [Act.put, List.setIfInBounds_toArray, List.set_cons_zero, List.set_cons_succ]
  refine wpAnyH_take (i := 12) (oi := ⟨some 70, .indexAddr 22 (.tmp 68) (.tmp 69), 0, "law.go:40", #[⟨10, .data⟩, ⟨11, .data⟩], none⟩) (v := ?_) rfl (by kernel_rfl) (by kernel_rfl) (by kernel_rfl) (fun c a w h => hP c a w _ _ h) (Or.inl ⟨by rfl, ?_⟩) (by assumption) ?_
  rotate_left
  · (intro w hSw; (try dsimp only at hSw); go_simp <;> with_reducible rfl)
  try simp only [Act.put, List.setIfInBounds_toArray, List.set_cons_zero, List.set_cons_succ]
  refine wpAnyH_take (i := 17) (oi := ⟨some 75, .call { callee := .builtin .len, args := #[.tmp 74], argTypes := #[9] }, 3, "law.go:40", #[⟨16, .data⟩], none⟩) (v := ?_) rfl (by kernel_rfl) (by kernel_rfl) (by kernel_rfl) (fun c a w h => hP c a w _ _ h) (Or.inl ⟨by rfl, ?_⟩) (by assumption) ?_
  rotate_left
  · (intro w hSw; (try dsimp only at hSw); go_simp <;> with_reducible rfl)
  try simp only [Act.put, List.setIfInBounds_toArray, List.set_cons_zero, List.set_cons_succ]
  refine wpAnyH_take (i := 22) (oi := ⟨some 80, .indexAddr 22 (.tmp 78) (.tmp 79), 0, "law.go:40", #[⟨20, .data⟩, ⟨21, .data⟩], none⟩) (v := ?_) rfl (by kernel_rfl) (by kernel_rfl) (by kernel_rfl) (fun c a w h => hP c a w _ _ h) (Or.inl ⟨by rfl, ?_⟩) (by assumption) ?_
  rotate_left
  · (intro w hSw; (try dsimp only at hSw); go_simp <;> with_reducible rfl)
  try simp only [Act.put, List.setIfInBounds_toArray, List.set_cons_zero, List.set_cons_succ]
  refine wpAnyH_take (i := 29) (oi := ⟨some 87, .indexAddr 22 (.tmp 85) (.tmp 86), 0, "law.go:40", #[⟨27, .data⟩, ⟨28, .data⟩], none⟩) (v := ?_) rfl (by kernel_rfl) (by kernel_rfl) (by kernel_rfl) (fun c a w h => hP c a w _ _ h) (Or.inl ⟨by rfl, ?_⟩) (by assumption) ?_
  rotate_left
  · (intro w hSw; (try dsimp only at hSw); go_simp <;> with_reducible rfl)
  try simp only [Act.put, List.setIfInBounds_toArray, List.set_cons_zero, List.set_cons_succ]
  refine wpAnyH_take (i := 34) (oi := ⟨some 92, .indexAddr 22 (.tmp 90) (.tmp 91), 0, "law.go:40", #[⟨32, .data⟩, ⟨33, .data⟩], none⟩) (v := ?_) rfl (by kernel_rfl) (by kernel_rfl) (by kernel_rfl) (fun c a w h => hP c a w _ _ h) (Or.inl ⟨by rfl, ?_⟩) (by assumption) ?_
  rotate_left
  · (intro w hSw; (try dsimp only at hSw); go_simp <;> with_reducible rfl)
  try simp only [Act.put, List.setIfInBounds_toArray, List.set_cons_zero, List.set_cons_succ]
  refine wpAnyH_take (i := 39) (oi := ⟨some 97, .indexAddr 22 (.tmp 95) (.tmp 96), 0, "law.go:40", #[⟨37, .data⟩, ⟨38, .data⟩], none⟩) (v := ?_) rfl (by kernel_rfl) (by kernel_rfl) (by kernel_rfl) (fun c a w h => hP c a w _ _ h) (Or.inl ⟨by rfl, ?_⟩) (by assumption) ?_
  rotate_left
  · (intro w hSw; (try dsimp only at hSw); go_simp <;> with_reducible rfl)
  try simp only [Act.put, List.setIfInBounds_toArray, List.set_cons_zero, List.set_cons_succ]
  refine wpAnyH_take (i := 44) (oi := ⟨some 102, .indexAddr 22 (.tmp 100) (.tmp 101), 0, "law.go:40", #[⟨42, .data⟩, ⟨43, .data⟩], none⟩) (v := ?_) rfl (by kernel_rfl) (by kernel_rfl) (by kernel_rfl) (fun c a w h => hP c a w _ _ h) (Or.inl ⟨by rfl, ?_⟩) (by assumption) ?_
  rotate_left
  · (intro w hSw; (try dsimp only at hSw); go_simp <;> with_reducible rfl)
  try simp only [Act.put, List.setIfInBounds_toArray, List.set_cons_zero, List.set_cons_succ]
  refine wpAnyH_take (i := 3) (oi := ⟨some 61, .fieldAddr 57 (.tmp 60) 0, 0, "law.go:40", #[⟨2, .data⟩], none⟩) (v := ?_) rfl (by kernel_rfl) (by kernel_rfl) (by kernel_rfl) (fun c a w h => hP c a w _ _ h) (Or.inl ⟨by rfl, ?_⟩) (by assumption) ?_
  rotate_left
  · (intro w hSw; (try dsimp only at hSw); go_simp <;> with_reducible rfl)
  try simp only [Act.put, List.setIfInBounds_toArray, List.set_cons_zero, List.set_cons_succ]
  refine wpAnyH_take (i := 8) (oi := ⟨some 66, .fieldAddr 57 (.tmp 65) 1, 0, "law.go:40", #[⟨7, .data⟩], none⟩) (v := ?_) rfl (by kernel_rfl) (by kernel_rfl) (by kernel_rfl) (fun c a w h => hP c a w _ _ h) (Or.inl ⟨by rfl, ?_⟩) (by assumption) ?_
  rotate_left
  · (intro w hSw; (try dsimp only at hSw); go_simp <;> with_reducible rfl)
  try simp only [Act.put, List.setIfInBounds_toArray, List.set_cons_zero, List.set_cons_succ]
  refine wpAnyH_take (i := 13) (oi := ⟨some 71, .fieldAddr 57 (.tmp 70) 2, 0, "law.go:40", #[⟨12, .data⟩], none⟩) (v := ?_) rfl (by kernel_rfl) (by kernel_rfl) (by kernel_rfl) (fun c a w h => hP c a w _ _ h) (Or.inl ⟨by rfl, ?_⟩) (by assumption) ?_
  rotate_left
  · (intro w hSw; (try dsimp only at hSw); go_simp <;> with_reducible rfl)
  try simp only [Act.put, List.setIfInBounds_toArray, List.set_cons_zero, List.set_cons_succ]
  refine wpAnyH_take (i := 18) (oi := ⟨some 76, .convert 3 29 (.tmp 75), 29, "law.go:40", #[⟨17, .data⟩], none⟩) (v := ?_) rfl (by kernel_rfl) (by kernel_rfl) (by kernel_rfl) (fun c a w h => hP c a w _ _ h) (Or.inl ⟨by rfl, ?_⟩) (by assumption) ?_
  rotate_left
  · (intro w hSw; (try dsimp only at hSw); go_simp <;> with_reducible rfl)
  try simp only [Act.put, List.setIfInBounds_toArray, List.set_cons_zero, List.set_cons_succ]
  refine wpAnyH_take (i := 23) (oi := ⟨some 81, .fieldAddr 57 (.tmp 80) 7, 0, "law.go:40", #[⟨22, .data⟩], none⟩) (v := ?_) rfl (by kernel_rfl) (by kernel_rfl) (by kernel_rfl) (fun c a w h => hP c a w _ _ h) (Or.inl ⟨by rfl, ?_⟩) (by assumption) ?_
  rotate_left
  · (intro w hSw; (try dsimp only at hSw); go_simp <;> with_reducible rfl)
  try simp only [Act.put, List.setIfInBounds_toArray, List.set_cons_zero, List.set_cons_succ]
  refine wpAnyH_take (i := 30) (oi := ⟨some 88, .fieldAddr 57 (.tmp 87) 3, 0, "law.go:40", #[⟨29, .data⟩], none⟩) (v := ?_) rfl (by kernel_rfl) (by kernel_rfl) (by kernel_rfl) (fun c a w h => hP c a w _ _ h) (Or.inl ⟨by rfl, ?_⟩) (by assumption) ?_
  rotate_left
  · (intro w hSw; (try dsimp only at hSw); go_simp <;> with_reducible rfl)
  try simp only [Act.put, List.setIfInBounds_toArray, List.set_cons_zero, List.set_cons_succ]
  refine wpAnyH_take (i := 35) (oi := ⟨some 93, .fieldAddr 57 (.tmp 92) 4, 0, "law.go:40", #[⟨34, .data⟩], none⟩) (v := ?_) rfl (by kernel_rfl) (by kernel_rfl) (by kernel_rfl) (fun c a w h => hP c a w _ _ h) (Or.inl ⟨by rfl, ?_⟩) (by assumption) ?_
  rotate_left
  · (intro w hSw; (try dsimp only at hSw); go_simp <;> with_reducible rfl)
  try simp only [Act.put, List.setIfInBounds_toArray, List.set_cons_zero, List.set_cons_succ]
  refine wpAnyH_take (i := 40) (oi := ⟨some 98, .fieldAddr 57 (.tmp 97) 5, 0, "law.go:40", #[⟨39, .data⟩], none⟩) (v := ?_) rfl (by kernel_rfl) (by kernel_rfl) (by kernel_rfl) (fun c a w h => hP c a w _ _ h) (Or.inl ⟨by rfl, ?_⟩) (by assumption) ?_
  rotate_left
  · (intro w hSw; (try dsimp only at hSw); go_simp <;> with_reducible rfl)
  try simp only [Act.put, List.setIfInBounds_toArray, List.set_cons_zero, List.set_cons_succ]
  refine wpAnyH_take (i := 45) (oi := ⟨some 103, .fieldAddr 57 (.tmp 102) 6, 0, "law.go:40", #[⟨44, .data⟩], none⟩) (v := ?_) rfl (by kernel_rfl) (by kernel_rfl) (by kernel_rfl) (fun c a w h => hP c a w _ _ h) (Or.inl ⟨by rfl, ?_⟩) (by assumption) ?_
  rotate_left
  · (intro w hSw; (try dsimp only at hSw); go_simp <;> with_reducible rfl)
  try simp only [Act.put, List.setIfInBounds_toArray, List.set_cons_zero, List.set_cons_succ]
  refine wpAnyH_take (i := 4) (oi := ⟨some 62, .load 29 (.tmp 61), 29, "law.go:40", #[⟨3, .data⟩], none⟩) (v := ?_) rfl (by kernel_rfl) (by kernel_rfl) (by kernel_rfl) (fun c a w h => hP c a w _ _ h) (Or.inl ⟨by rfl, ?_⟩) (by assumption) ?_
  rotate_left
  · (intro w hSw; have q0 := X0.out w hSw; (try dsimp only at hSw); go_simp <;> with_reducible rfl)
  try simp only [Act.put, List.setIfInBounds_toArray, List.set_cons_zero, List.set_cons_succ]
  refine wpAnyH_take (i := 9) (oi := ⟨some 67, .load 29 (.tmp 66), 29, "law.go:40", #[⟨8, .data⟩], none⟩) (v := ?_) rfl (by kernel_rfl) (by kernel_rfl) (by kernel_rfl) (fun c a w h => hP c a w _ _ h) (Or.inl ⟨by rfl, ?_⟩) (by assumption) ?_
  rotate_left
  · (intro w hSw; have q0 := X1.out w hSw; (try dsimp only at hSw); go_simp <;> with_reducible rfl)
  try simp only [Act.put, List.setIfInBounds_toArray, List.set_cons_zero, List.set_cons_succ]
  refine wpAnyH_take (i := 14) (oi := ⟨some 72, .load 29 (.tmp 71), 29, "law.go:40", #[⟨13, .data⟩], none⟩) (v := ?_) rfl (by kernel_rfl) (by kernel_rfl) (by kernel_rfl) (fun c a w h => hP c a w _ _ h) (Or.inl ⟨by rfl, ?_⟩) (by assumption) ?_
  rotate_left
  · (intro w hSw; have q0 := X2.out w hSw; (try dsimp only at hSw); go_simp <;> with_reducible rfl)
  try simp only [Act.put, List.setIfInBounds_toArray, List.set_cons_zero, List.set_cons_succ]
  refine wpAnyH_take (i := 19) (oi := ⟨some 77, .binOp .add 29 (.tmp 73) (.tmp 76) 29, 29, "law.go:40", #[⟨15, .data⟩, ⟨18, .data⟩], none⟩) (v := ?_) rfl (by kernel_rfl) (by kernel_rfl) (by kernel_rfl) (fun c a w h => hP c a w _ _ h) (Or.inl ⟨by rfl, ?_⟩) (by assumption) ?_
  rotate_left
  · (intro w hSw; (try dsimp only at hSw); go_simp <;> with_reducible rfl)
  try simp only [Act.put, List.setIfInBounds_toArray, List.set_cons_zero, List.set_cons_succ]
  refine wpAnyH_take (i := 24) (oi := ⟨some 82, .load 9 (.tmp 81), 9, "law.go:40", #[⟨23, .data⟩], none⟩) (v := ?_) rfl (by kernel_rfl) (by kernel_rfl) (by kernel_rfl) (fun c a w h => hP c a w _ _ h) (Or.inl ⟨by rfl, ?_⟩) (by assumption) ?_
  rotate_left
  · (intro w hSw; have q0 := X7.out w hSw; (try dsimp only at hSw); go_simp <;> with_reducible rfl)
  try simp only [Act.put, List.setIfInBounds_toArray, List.set_cons_zero, List.set_cons_succ]
  refine wpAnyH_take (i := 31) (oi := ⟨some 89, .load 29 (.tmp 88), 29, "law.go:40", #[⟨30, .data⟩], none⟩) (v := ?_) rfl (by kernel_rfl) (by kernel_rfl) (by kernel_rfl) (fun c a w h => hP c a w _ _ h) (Or.inl ⟨by rfl, ?_⟩) (by assumption) ?_
  rotate_left
  · (intro w hSw; have q0 := X3.out w hSw; (try dsimp only at hSw); go_simp <;> with_reducible rfl)
  try simp only [Act.put, List.setIfInBounds_toArray, List.set_cons_zero, List.set_cons_succ]
  refine wpAnyH_take (i := 36) (oi := ⟨some 94, .load 29 (.tmp 93), 29, "law.go:40", #[⟨35, .data⟩], none⟩) (v := ?_) rfl (by kernel_rfl) (by kernel_rfl) (by kernel_rfl) (fun c a w h => hP c a w _ _ h) (Or.inl ⟨by rfl, ?_⟩) (by assumption) ?_
  rotate_left
  · (intro w hSw; have q0 := X4.out w hSw; (try dsimp only at hSw); go_simp <;> with_reducible rfl)
  try simp only [Act.put, List.setIfInBounds_toArray, List.set_cons_zero, List.set_cons_succ]
  refine wpAnyH_take (i := 41) (oi := ⟨some 99, .load 29 (.tmp 98), 29, "law.go:40", #[⟨40, .data⟩], none⟩) (v := ?_) rfl (by kernel_rfl) (by kernel_rfl) (by kernel_rfl) (fun c a w h => hP c a w _ _ h) (Or.inl ⟨by rfl, ?_⟩) (by assumption) ?_
  rotate_left
  · (intro w hSw; have q0 := X5.out w hSw; (try dsimp only at hSw); go_simp <;> with_reducible rfl)
  try simp only [Act.put, List.setIfInBounds_toArray, List.set_cons_zero, List.set_cons_succ]
  refine wpAnyH_take (i := 46) (oi := ⟨some 104, .load 29 (.tmp 103), 29, "law.go:40", #[⟨45, .data⟩], none⟩) (v := ?_) rfl (by kernel_rfl) (by kernel_rfl) (by kernel_rfl) (fun c a w h => hP c a w _ _ h) (Or.inl ⟨by rfl, ?_⟩) (by assumption) ?_
  rotate_left
  · (intro w hSw; have q0 := X6.out w hSw; (try dsimp only at hSw); go_simp <;> with_reducible rfl)
  try simp only [Act.put, List.setIfInBounds_toArray, List.set_cons_zero, List.set_cons_succ]
  refine wpAnyH_take (i := 25) (oi := ⟨some 83, .call { callee := .builtin .len, args := #[.tmp 82], argTypes := #[9] }, 3, "law.go:40", #[⟨24, .data⟩], none⟩) (v := ?_) rfl (by kernel_rfl) (by kernel_rfl) (by kernel_rfl) (fun c a w h => hP c a w _ _ h) (Or.inl ⟨by rfl, ?_⟩) (by assumption) ?_
  rotate_left
  · (intro w hSw; (try dsimp only at hSw); go_simp <;> with_reducible rfl)
  try simp only [Act.put, List.setIfInBounds_toArray, List.set_cons_zero, List.set_cons_succ]
  refine wpAnyH_take (i := 26) (oi := ⟨some 84, .convert 3 29 (.tmp 83), 29, "law.go:40", #[⟨25, .data⟩], none⟩) (v := ?_) rfl (by kernel_rfl) (by kernel_rfl) (by kernel_rfl) (fun c a w h => hP c a w _ _ h) (Or.inl ⟨by rfl, ?_⟩) (by assumption) ?_
  rotate_left
  · (intro w hSw; (try dsimp only at hSw); go_simp <;> with_reducible rfl)
  try simp only [Act.put, List.setIfInBounds_toArray, List.set_cons_zero, List.set_cons_succ]
  refine wpAnyH_take (i := 47) (oi := ⟨some 105, .build 52 #[(0, .tmp 62), (1, .tmp 67), (2, .tmp 72), (4, .tmp 77), (5, .tmp 84), (6, .tmp 89), (7, .tmp 94), (8, .tmp 99), (9, .tmp 104)], 52, "law.go:40", #[⟨4, .data⟩, ⟨9, .data⟩, ⟨14, .data⟩, ⟨19, .data⟩, ⟨26, .data⟩, ⟨31, .data⟩, ⟨36, .data⟩, ⟨41, .data⟩, ⟨46, .data⟩], none⟩) (v := ?_) rfl (by kernel_rfl) (by kernel_rfl) (by kernel_rfl) (fun c a w h => hP c a w _ _ h) (Or.inl ⟨by rfl, ?_⟩) (by assumption) ?_
  rotate_left
  · (intro w hSw; (try dsimp only at hSw); go_simp <;> with_reducible rfl)
  try simp only [Act.put, List.setIfInBounds_toArray, List.set_cons_zero, List.set_cons_succ]
  refine wpAnyH_ready (rs := [48]) (by kernel_rfl) (by simp) ?_
  refine AllReadyH.cons (o := ⟨some 16, .alloc 52, 0, "law.go:40", #[], none⟩) rfl (fun K hK => ?_) AllReadyH.nil
  go_simp
  refine hK.out _ _ ?_ (fun hHeld2 => ?_)
  · exact hHeld.alloc hHeld.size _
  clear hK K
  try simp only [Act.put, List.setIfInBounds_toArray, List.set_cons_zero, List.set_cons_succ]
  refine wpAnyH_ready (rs := [49]) (by kernel_rfl) (by simp) ?_
  refine AllReadyH.cons (o := ⟨none, .store 52 (.tmp 16) (.tmp 105), 0, "law.go:40", #[⟨48, .data⟩, ⟨47, .data⟩, ⟨0, .phase⟩, ⟨1, .phase⟩, ⟨2, .phase⟩, ⟨3, .phase⟩, ⟨4, .phase⟩, ⟨5, .phase⟩, ⟨6, .phase⟩, ⟨7, .phase⟩, ⟨8, .phase⟩, ⟨9, .phase⟩, ⟨10, .phase⟩, ⟨11, .phase⟩, ⟨12, .phase⟩, ⟨13, .phase⟩, ⟨14, .phase⟩, ⟨15, .phase⟩, ⟨16, .phase⟩, ⟨17, .phase⟩, ⟨18, .phase⟩, ⟨19, .phase⟩, ⟨20, .phase⟩, ⟨21, .phase⟩, ⟨22, .phase⟩, ⟨23, .phase⟩, ⟨24, .phase⟩, ⟨25, .phase⟩, ⟨26, .phase⟩, ⟨27, .phase⟩, ⟨28, .phase⟩, ⟨29, .phase⟩, ⟨30, .phase⟩, ⟨31, .phase⟩, ⟨32, .phase⟩, ⟨33, .phase⟩, ⟨34, .phase⟩, ⟨35, .phase⟩, ⟨36, .phase⟩, ⟨37, .phase⟩, ⟨38, .phase⟩, ⟨39, .phase⟩, ⟨40, .phase⟩, ⟨41, .phase⟩, ⟨42, .phase⟩, ⟨43, .phase⟩, ⟨44, .phase⟩, ⟨45, .phase⟩, ⟨46, .phase⟩, ⟨47, .phase⟩, ⟨48, .phase⟩], none⟩) rfl (fun K hK => ?_) AllReadyH.nil
  have hT := heap_alloc_new W0 (.cells #[.int .u64 0, .int .u64 0, .int .u64 0, .int .u64 0, .int .u64 0, .int .u64 0, .int .u64 0, .int .u64 0, .int .u64 0, .int .u64 0] 52)
  refine wp_store_row 52 _ _ rfl W0.heap.size #[.int .u64 (a0 : Nat), .int .u64 (a1 : Nat), .int .u64 (a2 : Nat), .int .u64 0, .int .u64 (off : Nat), .int .u64 (D.size : Nat), .int .u64 (a3 : Nat), .int .u64 (a4 : Nat), .int .u64 (a5 : Nat), .int .u64 (a6 : Nat)] (by rfl) (by rfl) 52 #[.int .u64 0, .int .u64 0, .int .u64 0, .int .u64 0, .int .u64 0, .int .u64 0, .int .u64 0, .int .u64 0, .int .u64 0, .int .u64 0] hT (by kernel_rfl) rfl (by simp [Value.oneCell']) ?_
  refine hK.out _ _ ?_ (fun hHeld3_48 => ?_)
  · exact setRow_below hHeld2 hHeld.size _
  clear hK K
  try simp only [Act.put]
  refine wpAnyH_done (by kernel_rfl) ?_ _
  exact HQ.out _ _ _ _ _ _ _ _ _ _ _ _ _ _ _ _ _ _ _ _ _ _ _ _ _ _ _ _ _ _ _ _ _ _ _ _ _ _ _ _ _ _ _ _ _ _ _ _ _ _ (setRow_heap' _ _ _ _ _ _ hT) hHeld.size hHeld3_48
set_option maxRecDepth 1000000 in
set_option maxHeartbeats 2000000 in
theorem freg17 (Q : Exit → Act → World → Prop) (c0 c1 c2 c3 c4 c5 c6 c7 c8 c9 c10 c11 c12 c13 c14 c15 c17 c18 c19 c20 c21 c22 c23 c24 c25 c26 c27 c28 c29 c30 c31 c32 c33 c34 c35 c36 c37 c38 c39 c40 c41 c42 c43 c44 c45 c46 c47 c48 c49 c50 c51 c52 c53 c54 c55 c56 c57 c58 c59 c60 c61 c62 c63 c64 c65 c66 c67 c68 c69 c70 c71 c72 c73 c74 c75 c76 c77 c78 c79 c80 c81 c82 c83 c84 c85 c86 c87 c88 c89 c90 c91 c92 c93 c94 c95 c96 c97 c98 c99 c100 c101 c102 c103 c104 c105 c106 c107 c108 c109 c110 c111 c112 c113 c114 c115 c116 c117 c118 c119 c120 c121 c122 c123 c124 c125 c126 c127 c128 c129 c130 c131 c132 c133 c134 c135 c136 c137 c138 c139 c140 c141 c142 c143 c144 c145 c146 c147 c148 c149 c150 c151 c152 c153 c154 c155 c156 c157 c158 c159 c160 c161 c162 c163 c164 c165 c166 c167 c168 c169 c170 c171 c172 c173 c174 c175 c176 c177 c178 c179 c180 c181 c182 c183 c184 c185 c186 c187 c188 c189 c190 c191 c192 c193 c194 c195 c196 c197 c198 c199 c200 c201 c202 : Value) (X : Nat) (f : Nat → Nat) (b : Bool) (W : World) (hX : W.heap[X]? = some (.cells #[.int .u64 (f 0 : Nat), .int .u64 (f 1 : Nat), .int .u64 (f 2 : Nat), .int .u64 (f 3 : Nat), .int .u64 (f 4 : Nat), .int .u64 (f 5 : Nat), .int .u64 (f 6 : Nat), .int .u64 (f 7 : Nat), .int .u64 (f 8 : Nat), .int .u64 (f 9 : Nat)] 52 (0, 0)))
    (HC : Hid (∀ u, Calls Try.prog 46 #[.agg #[.int .u64 (f 0 : Nat), .int .u64 (f 1 : Nat), .int .u64 (f 2 : Nat), .int .u64 (f 3 : Nat), .int .u64 (f 4 : Nat), .int .u64 (f 5 : Nat), .int .u64 (f 6 : Nat), .int .u64 (f 7 : Nat), .int .u64 (f 8 : Nat), .int .u64 (f 9 : Nat)]] u fun e w' => e = .returned (.bool b) ∧ Below u.heap.size u w'))
    (hQ : ∀ (u110 : Value) (w' : World), Below W.heap.size W w' → Q .normal ⟨#[c0, c1, c2, c3, c4, c5, c6, c7, c8, c9, c10, c11, c12, c13, c14, c15, .pointer (some ⟨X, 0, none⟩), c17, c18, c19, c20, c21, c22, c23, c24, c25, c26, c27, c28, c29, c30, c31, c32, c33, c34, c35, c36, c37, c38, c39, c40, c41, c42, c43, c44, c45, c46, c47, c48, c49, c50, c51, c52, c53, c54, c55, c56, c57, c58, c59, c60, c61, c62, c63, c64, c65, c66, c67, c68, c69, c70, c71, c72, c73, c74, c75, c76, c77, c78, c79, c80, c81, c82, c83, c84, c85, c86, c87, c88, c89, c90, c91, c92, c93, c94, c95, c96, c97, c98, c99, c100, c101, c102, c103, c104, c105, c106, c107, c108, c109, u110, .bool b, c112, c113, c114, c115, c116, c117, c118, c119, c120, c121, c122, c123, c124, c125, c126, c127, c128, c129, c130, c131, c132, c133, c134, c135, c136, c137, c138, c139, c140, c141, c142, c143, c144, c145, c146, c147, c148, c149, c150, c151, c152, c153, c154, c155, c156, c157, c158, c159, c160, c161, c162, c163, c164, c165, c166, c167, c168, c169, c170, c171, c172, c173, c174, c175, c176, c177, c178, c179, c180, c181, c182, c183, c184, c185, c186, c187, c188, c189, c190, c191, c192, c193, c194, c195, c196, c197, c198, c199, c200, c201, c202], []⟩ w') :
    (Code.region 17 #[⟨some 110, .load 52 (.tmp 16), 52, "law.go:42", #[], none⟩, ⟨some 111, .call { callee := .value (.func 46), args := #[.tmp 110], argTypes := #[52] }, 4, "law.go:42", #[⟨0, .data⟩], none⟩] false).wp Try.prog Q ⟨#[c0, c1, c2, c3, c4, c5, c6, c7, c8, c9, c10, c11, c12, c13, c14, c15, .pointer (some ⟨X, 0, none⟩), c17, c18, c19, c20, c21, c22, c23, c24, c25, c26, c27, c28, c29, c30, c31, c32, c33, c34, c35, c36, c37, c38, c39, c40, c41, c42, c43, c44, c45, c46, c47, c48, c49, c50, c51, c52, c53, c54, c55, c56, c57, c58, c59, c60, c61, c62, c63, c64, c65, c66, c67, c68, c69, c70, c71, c72, c73, c74, c75, c76, c77, c78, c79, c80, c81, c82, c83, c84, c85, c86, c87, c88, c89, c90, c91, c92, c93, c94, c95, c96, c97, c98, c99, c100, c101, c102, c103, c104, c105, c106, c107, c108, c109, c110, c111, c112, c113, c114, c115, c116, c117, c118, c119, c120, c121, c122, c123, c124, c125, c126, c127, c128, c129, c130, c131, c132, c133, c134, c135, c136, c137, c138, c139, c140, c141, c142, c143, c144, c145, c146, c147, c148, c149, c150, c151, c152, c153, c154, c155, c156, c157, c158, c159, c160, c161, c162, c163, c164, c165, c166, c167, c168, c169, c170, c171, c172, c173, c174, c175, c176, c177, c178, c179, c180, c181, c182, c183, c184, c185, c186, c187, c188, c189, c190, c191, c192, c193, c194, c195, c196, c197, c198, c199, c200, c201, c202], []⟩ W := by
  try dsimp only at hQ ⊢
  have HQ := Lib.hid hQ; clear hQ
  refine wp_region_lit (l := _) ?_
  refine wpList_load_mid rfl 52 _ rfl X 0 (by rfl) [.int .u64 (f 0 : Nat), .int .u64 (f 1 : Nat), .int .u64 (f 2 : Nat), .int .u64 (f 3 : Nat), .int .u64 (f 4 : Nat), .int .u64 (f 5 : Nat), .int .u64 (f 6 : Nat), .int .u64 (f 7 : Nat), .int .u64 (f 8 : Nat), .int .u64 (f 9 : Nat)] _ (range_of hX (by rfl)) Try.underlying52 (by rfl) (by kernel_rfl) ?_
  try simp only [Act.put, List.setIfInBounds_toArray, List.set_cons_zero, List.set_cons_succ]
  refine wpList_step (fun K hK => ?_)
  (first | go_at_call 46 | (go_simp; go_at_call 46))
  refine (HC.out _).mono ?_
  rintro e w4 ⟨rfl, b4⟩
  try go_simp
  refine hK _ _ ?_
  clear hK K
  try simp only [Act.put, List.setIfInBounds_toArray, List.set_cons_zero, List.set_cons_succ]
  refine wpList_nil ?_
  exact HQ.out _ _ b4
set_option maxRecDepth 1000000 in
set_option maxHeartbeats 2000000 in
theorem freg34 (Q : Exit → Act → World → Prop) (c0 c1 c2 c3 c4 c5 c6 c7 c8 c9 c10 c11 c12 c13 c14 c15 c16 c17 c18 c19 c20 c21 c23 c24 c25 c26 c27 c28 c29 c30 c31 c32 c33 c34 c35 c36 c37 c38 c39 c40 c41 c42 c43 c44 c45 c46 c47 c48 c49 c50 c51 c52 c53 c54 c55 c56 c57 c58 c59 c60 c61 c62 c63 c64 c65 c66 c67 c68 c69 c70 c71 c72 c73 c74 c75 c76 c77 c78 c79 c80 c81 c82 c83 c84 c85 c86 c87 c88 c89 c90 c91 c92 c93 c94 c95 c96 c97 c98 c99 c100 c101 c102 c103 c104 c105 c106 c107 c108 c109 c110 c111 c112 c113 c114 c115 c116 c117 c118 c119 c120 c121 c122 c123 c124 c125 c126 c127 c128 c129 c130 c131 c132 c133 c134 c135 c136 c137 c138 c139 c140 c141 c142 c143 c144 c145 c146 c147 c148 c149 c150 c151 c152 c153 c154 c155 c156 c157 c158 c159 c160 c161 c162 c163 c164 c165 c166 c167 c168 c169 c170 c171 c172 c173 c174 c175 c176 c177 c178 c179 c180 c181 c182 c183 c184 c185 c186 c187 c188 c189 c190 c191 c192 c193 c194 c195 c196 c197 c198 c199 c200 c201 c202 : Value) (X : Nat) (f : Nat → Nat) (b : Bool) (W : World) (hX : W.heap[X]? = some (.cells #[.int .u64 (f 0 : Nat), .int .u64 (f 1 : Nat), .int .u64 (f 2 : Nat), .int .u64 (f 3 : Nat), .int .u64 (f 4 : Nat), .int .u64 (f 5 : Nat), .int .u64 (f 6 : Nat), .int .u64 (f 7 : Nat), .int .u64 (f 8 : Nat), .int .u64 (f 9 : Nat)] 52 (0, 0)))
    (HC : Hid (∀ u, Calls Try.prog 46 #[.agg #[.int .u64 (f 0 : Nat), .int .u64 (f 1 : Nat), .int .u64 (f 2 : Nat), .int .u64 (f 3 : Nat), .int .u64 (f 4 : Nat), .int .u64 (f 5 : Nat), .int .u64 (f 6 : Nat), .int .u64 (f 7 : Nat), .int .u64 (f 8 : Nat), .int .u64 (f 9 : Nat)]] u fun e w' => e = .returned (.bool b) ∧ Below u.heap.size u w'))
    (hQ : ∀ (u169 u170 : Value) (w' : World), Below W.heap.size W w' → Q .normal ⟨#[c0, c1, c2, c3, c4, c5, c6, c7, c8, c9, c10, c11, c12, c13, c14, c15, c16, c17, c18, c19, c20, c21, .pointer (some ⟨X, 0, none⟩), c23, c24, c25, c26, c27, c28, c29, c30, c31, c32, c33, c34, c35, c36, c37, c38, c39, c40, c41, c42, c43, c44, c45, c46, c47, c48, c49, c50, c51, c52, c53, c54, c55, c56, c57, c58, c59, c60, c61, c62, c63, c64, c65, c66, c67, c68, c69, c70, c71, c72, c73, c74, c75, c76, c77, c78, c79, c80, c81, c82, c83, c84, c85, c86, c87, c88, c89, c90, c91, c92, c93, c94, c95, c96, c97, c98, c99, c100, c101, c102, c103, c104, c105, c106, c107, c108, c109, c110, c111, c112, c113, c114, c115, c116, c117, c118, c119, c120, c121, c122, c123, c124, c125, c126, c127, c128, c129, c130, c131, c132, c133, c134, c135, c136, c137, c138, c139, c140, c141, c142, c143, c144, c145, c146, c147, c148, c149, c150, c151, c152, c153, c154, c155, c156, c157, c158, c159, c160, c161, c162, c163, c164, c165, c166, c167, c168, u169, u170, .bool (!b), c172, c173, c174, c175, c176, c177, c178, c179, c180, c181, c182, c183, c184, c185, c186, c187, c188, c189, c190, c191, c192, c193, c194, c195, c196, c197, c198, c199, c200, c201, c202], []⟩ w') :
    (Code.region 34 #[⟨some 169, .load 52 (.tmp 22), 52, "law.go:59", #[], none⟩, ⟨some 170, .call { callee := .value (.func 46), args := #[.tmp 169], argTypes := #[52] }, 4, "law.go:59", #[⟨0, .data⟩], none⟩, ⟨some 171, .unOp .not 4 (.tmp 170), 4, "law.go:59", #[⟨1, .data⟩], none⟩] false).wp Try.prog Q ⟨#[c0, c1, c2, c3, c4, c5, c6, c7, c8, c9, c10, c11, c12, c13, c14, c15, c16, c17, c18, c19, c20, c21, .pointer (some ⟨X, 0, none⟩), c23, c24, c25, c26, c27, c28, c29, c30, c31, c32, c33, c34, c35, c36, c37, c38, c39, c40, c41, c42, c43, c44, c45, c46, c47, c48, c49, c50, c51, c52, c53, c54, c55, c56, c57, c58, c59, c60, c61, c62, c63, c64, c65, c66, c67, c68, c69, c70, c71, c72, c73, c74, c75, c76, c77, c78, c79, c80, c81, c82, c83, c84, c85, c86, c87, c88, c89, c90, c91, c92, c93, c94, c95, c96, c97, c98, c99, c100, c101, c102, c103, c104, c105, c106, c107, c108, c109, c110, c111, c112, c113, c114, c115, c116, c117, c118, c119, c120, c121, c122, c123, c124, c125, c126, c127, c128, c129, c130, c131, c132, c133, c134, c135, c136, c137, c138, c139, c140, c141, c142, c143, c144, c145, c146, c147, c148, c149, c150, c151, c152, c153, c154, c155, c156, c157, c158, c159, c160, c161, c162, c163, c164, c165, c166, c167, c168, c169, c170, c171, c172, c173, c174, c175, c176, c177, c178, c179, c180, c181, c182, c183, c184, c185, c186, c187, c188, c189, c190, c191, c192, c193, c194, c195, c196, c197, c198, c199, c200, c201, c202], []⟩ W := by
  try dsimp only at hQ ⊢
  have HQ := Lib.hid hQ; clear hQ
  refine wp_region_lit (l := _) ?_
  refine wpList_load_mid rfl 52 _ rfl X 0 (by rfl) [.int .u64 (f 0 : Nat), .int .u64 (f 1 : Nat), .int .u64 (f 2 : Nat), .int .u64 (f 3 : Nat), .int .u64 (f 4 : Nat), .int .u64 (f 5 : Nat), .int .u64 (f 6 : Nat), .int .u64 (f 7 : Nat), .int .u64 (f 8 : Nat), .int .u64 (f 9 : Nat)] _ (range_of hX (by rfl)) Try.underlying52 (by rfl) (by kernel_rfl) ?_
  try simp only [Act.put, List.setIfInBounds_toArray, List.set_cons_zero, List.set_cons_succ]
  refine wpList_step (fun K hK => ?_)
  (first | go_at_call 46 | (go_simp; go_at_call 46))
  refine (HC.out _).mono ?_
  rintro e w4 ⟨rfl, b4⟩
  try go_simp
  refine hK _ _ ?_
  clear hK K
  try simp only [Act.put, List.setIfInBounds_toArray, List.set_cons_zero, List.set_cons_succ]
  refine wpList_step (fun K hK => ?_)
  go_simp
  refine hK _ _ ?_
  clear hK K
  try simp only [Act.put, List.setIfInBounds_toArray, List.set_cons_zero, List.set_cons_succ]
  refine wpList_nil ?_
  exact HQ.out _ _ _ b4
set_option maxRecDepth 1000000 in
set_option maxHeartbeats 4000000 in
theorem freg25 (Q : Exit → Act → World → Prop) (c0 c1 c2 c3 c4 c5 c6 c7 c8 c11 c12 c13 c14 c15 c16 c17 c19 c20 c21 c22 c23 c24 c25 c26 c27 c28 c29 c30 c31 c32 c33 c34 c35 c36 c37 c38 c39 c40 c41 c42 c43 c44 c45 c46 c47 c48 c49 c50 c51 c52 c53 c54 c55 c56 c57 c58 c59 c60 c61 c62 c63 c64 c65 c66 c67 c68 c69 c70 c71 c72 c73 c74 c75 c76 c77 c78 c79 c80 c81 c82 c83 c84 c85 c86 c87 c88 c89 c90 c91 c92 c93 c94 c95 c96 c97 c98 c99 c100 c101 c102 c103 c104 c105 c106 c107 c108 c109 c110 c111 c112 c113 c114 c115 c116 c117 c118 c119 c120 c121 c122 c123 c124 c125 c126 c127 c128 c129 c130 c131 c132 c133 c134 c135 c136 c137 c138 c139 c140 c141 c142 c143 c144 c145 c146 c147 c148 c149 c150 c151 c152 c153 c154 c155 c156 c157 c158 c159 c160 c161 c162 c163 c164 c165 c166 c167 c168 c169 c170 c171 c172 c173 c174 c175 c176 c177 c178 c179 c180 c181 c182 c183 c184 c185 c186 c187 c188 c189 c190 c191 c192 c193 c194 c195 c196 c197 c198 c199 c200 c201 c202 : Value) (big wide : Bool) (F gb go n cx k : Nat) (f : Nat → Nat) (S : ByteArray) (ok : Bool) (W : World) (k0 : (0 : Int) ≤ (k : Int)) (k1 : (k : Int) < (n : Int)) (X0 : Hid (∀ u, Below W.heap.size W u → u.cell? ⟨F, 0, none⟩ = some (.bool big))) (X1 : Hid (∀ u, Below W.heap.size W u → u.cell? ⟨F, 1, none⟩ = some (.bool wide))) (HRG : Hid (∀ u, Below W.heap.size W u → u.rangeAt gb (go + k * 10) [.int .u64 (f 0 : Nat), .int .u64 (f 1 : Nat), .int .u64 (f 2 : Nat), .int .u64 (f 3 : Nat), .int .u64 (f 4 : Nat), .int .u64 (f 5 : Nat), .int .u64 (f 6 : Nat), .int .u64 (f 7 : Nat), .int .u64 (f 8 : Nat), .int .u64 (f 9 : Nat)]))
    (HC : Hid (∀ u, Calls Try.prog 47 #[.agg #[.bool big, .bool wide], .agg #[.int .u64 (f 0 : Nat), .int .u64 (f 1 : Nat), .int .u64 (f 2 : Nat), .int .u64 (f 3 : Nat), .int .u64 (f 4 : Nat), .int .u64 (f 5 : Nat), .int .u64 (f 6 : Nat), .int .u64 (f 7 : Nat), .int .u64 (f 8 : Nat), .int .u64 (f 9 : Nat)]] u fun e w' => e = .returned (.tuple #[.string S, .bool ok]) ∧ Below u.heap.size u w'))
    (hP : ∀ c a w i v, Q (.panic c) (a.put (some i) v) w → Q (.panic c) a w)
    (hQ : ∀ (u133 u134 u135 u136 u137 u138 u139 u140 u141 : Value) (w' : World), Below W.heap.size W w' → Q .normal ⟨#[c0, c1, c2, c3, c4, c5, c6, c7, c8, .pointer (some ⟨F, 0, none⟩), .slice (some ⟨gb, go, none⟩) n cx, c11, c12, c13, c14, c15, c16, c17, .int .i64 (k : Nat), .string S, .bool ok, c21, c22, c23, c24, c25, c26, c27, c28, c29, c30, c31, c32, c33, c34, c35, c36, c37, c38, c39, c40, c41, c42, c43, c44, c45, c46, c47, c48, c49, c50, c51, c52, c53, c54, c55, c56, c57, c58, c59, c60, c61, c62, c63, c64, c65, c66, c67, c68, c69, c70, c71, c72, c73, c74, c75, c76, c77, c78, c79, c80, c81, c82, c83, c84, c85, c86, c87, c88, c89, c90, c91, c92, c93, c94, c95, c96, c97, c98, c99, c100, c101, c102, c103, c104, c105, c106, c107, c108, c109, c110, c111, c112, c113, c114, c115, c116, c117, c118, c119, c120, c121, c122, c123, c124, c125, c126, c127, c128, c129, c130, c131, c132, u133, u134, u135, u136, u137, u138, u139, u140, u141, c142, c143, c144, c145, c146, c147, c148, c149, c150, c151, c152, c153, c154, c155, c156, c157, c158, c159, c160, c161, c162, c163, c164, c165, c166, c167, c168, c169, c170, c171, c172, c173, c174, c175, c176, c177, c178, c179, c180, c181, c182, c183, c184, c185, c186, c187, c188, c189, c190, c191, c192, c193, c194, c195, c196, c197, c198, c199, c200, c201, c202], []⟩ w') :
    (Code.region 25 #[⟨some 134, .load 34 (.tmp 9), 34, "law.go:50", #[], none⟩, ⟨some 135, .move (.tmp 10), 39, "law.go:50", #[], none⟩, ⟨some 136, .move (.tmp 18), 3, "law.go:50", #[], none⟩, ⟨some 137, .indexAddr 39 (.tmp 135) (.tmp 136), 0, "law.go:50", #[⟨1, .data⟩, ⟨2, .data⟩], none⟩, ⟨some 138, .load 52 (.tmp 137), 52, "law.go:50", #[⟨3, .data⟩], none⟩, ⟨some 139, .call { callee := .value (.func 47), args := #[.tmp 134, .tmp 138], argTypes := #[34, 52] }, 133, "law.go:50", #[⟨0, .data⟩, ⟨4, .data⟩], none⟩, ⟨some 133, .move (.tmp 139), 133, "law.go:50", #[⟨5, .data⟩], none⟩, ⟨some 140, .extract (.tmp 133) 0, 9, "law.go:50", #[⟨6, .data⟩], none⟩, ⟨some 141, .extract (.tmp 133) 1, 4, "law.go:50", #[⟨6, .data⟩, ⟨9, .gcOnly .lateStores⟩], none⟩, ⟨some 19, .assign (.tmp 140), 9, "law.go:50", #[⟨7, .data⟩, ⟨5, .chain⟩, ⟨0, .phase⟩, ⟨1, .phase⟩, ⟨2, .phase⟩, ⟨3, .phase⟩, ⟨4, .phase⟩, ⟨5, .phase⟩, ⟨6, .phase⟩, ⟨7, .phase⟩, ⟨8, .textOnly .lateStores⟩], none⟩, ⟨some 20, .assign (.tmp 141), 4, "law.go:50", #[⟨8, .data⟩, ⟨9, .chain⟩, ⟨0, .phase⟩, ⟨1, .phase⟩, ⟨2, .phase⟩, ⟨3, .phase⟩, ⟨4, .phase⟩, ⟨5, .phase⟩, ⟨6, .phase⟩, ⟨7, .phase⟩, ⟨8, .phase⟩, ⟨9, .phase⟩], none⟩] true).wp Try.prog Q ⟨#[c0, c1, c2, c3, c4, c5, c6, c7, c8, .pointer (some ⟨F, 0, none⟩), .slice (some ⟨gb, go, none⟩) n cx, c11, c12, c13, c14, c15, c16, c17, .int .i64 (k : Nat), c19, c20, c21, c22, c23, c24, c25, c26, c27, c28, c29, c30, c31, c32, c33, c34, c35, c36, c37, c38, c39, c40, c41, c42, c43, c44, c45, c46, c47, c48, c49, c50, c51, c52, c53, c54, c55, c56, c57, c58, c59, c60, c61, c62, c63, c64, c65, c66, c67, c68, c69, c70, c71, c72, c73, c74, c75, c76, c77, c78, c79, c80, c81, c82, c83, c84, c85, c86, c87, c88, c89, c90, c91, c92, c93, c94, c95, c96, c97, c98, c99, c100, c101, c102, c103, c104, c105, c106, c107, c108, c109, c110, c111, c112, c113, c114, c115, c116, c117, c118, c119, c120, c121, c122, c123, c124, c125, c126, c127, c128, c129, c130, c131, c132, c133, c134, c135, c136, c137, c138, c139, c140, c141, c142, c143, c144, c145, c146, c147, c148, c149, c150, c151, c152, c153, c154, c155, c156, c157, c158, c159, c160, c161, c162, c163, c164, c165, c166, c167, c168, c169, c170, c171, c172, c173, c174, c175, c176, c177, c178, c179, c180, c181, c182, c183, c184, c185, c186, c187, c188, c189, c190, c191, c192, c193, c194, c195, c196, c197, c198, c199, c200, c201, c202], []⟩ W := by
  try dsimp only at hQ ⊢
  have HQ := Lib.hid hQ; clear hQ
  refine wp_region_held_drew (S := fun w' => Below W.heap.size W w') (by kernel_rfl) ?_ (fun hHeld => ?_)
  · exact (Below.refl _ _).drew
  generalize W.drew = W0 at *
  refine wpAnyH_take (i := 0) (oi := ⟨some 134, .load 34 (.tmp 9), 34, "law.go:50", #[], none⟩) (v := ?_) rfl (by kernel_rfl) (by kernel_rfl) (by kernel_rfl) (fun c a w h => hP c a w _ _ h) (Or.inl ⟨by rfl, ?_⟩) (by assumption) ?_
  rotate_left
  · (intro w hSw; have q0 := X0.out w hSw; have q1 := X1.out w hSw; (try dsimp only at hSw); go_simp <;> with_reducible rfl)
  try simp only [Act.put, List.setIfInBounds_toArray, List.set_cons_zero, List.set_cons_succ]
  refine wpAnyH_take (i := 1) (oi := ⟨some 135, .move (.tmp 10), 39, "law.go:50", #[], none⟩) (v := ?_) rfl (by kernel_rfl) (by kernel_rfl) (by kernel_rfl) (fun c a w h => hP c a w _ _ h) (Or.inl ⟨by rfl, ?_⟩) (by assumption) ?_
  rotate_left
  · (intro w hSw; (try dsimp only at hSw); go_simp <;> with_reducible rfl)
  try simp only [Act.put, List.setIfInBounds_toArray, List.set_cons_zero, List.set_cons_succ]
  refine wpAnyH_take (i := 2) (oi := ⟨some 136, .move (.tmp 18), 3, "law.go:50", #[], none⟩) (v := ?_) rfl (by kernel_rfl) (by kernel_rfl) (by kernel_rfl) (fun c a w h => hP c a w _ _ h) (Or.inl ⟨by rfl, ?_⟩) (by assumption) ?_
  rotate_left
  · (intro w hSw; (try dsimp only at hSw); go_simp <;> with_reducible rfl)
  try simp only [Act.put, List.setIfInBounds_toArray, List.set_cons_zero, List.set_cons_succ]
  refine wpAnyH_take (i := 3) (oi := ⟨some 137, .indexAddr 39 (.tmp 135) (.tmp 136), 0, "law.go:50", #[⟨1, .data⟩, ⟨2, .data⟩], none⟩) (v := ?_) rfl (by kernel_rfl) (by kernel_rfl) (by kernel_rfl) (fun c a w h => hP c a w _ _ h) (Or.inl ⟨by rfl, ?_⟩) (by assumption) ?_
  rotate_left
  · (intro w hSw; (try dsimp only at hSw); go_simp <;> with_reducible rfl)
  try simp only [Act.put, List.setIfInBounds_toArray, List.set_cons_zero, List.set_cons_succ]
  refine wpAnyH_take (i := 4) (oi := ⟨some 138, .load 52 (.tmp 137), 52, "law.go:50", #[⟨3, .data⟩], none⟩) (v := .agg #[.int .u64 (f 0 : Nat), .int .u64 (f 1 : Nat), .int .u64 (f 2 : Nat), .int .u64 (f 3 : Nat), .int .u64 (f 4 : Nat), .int .u64 (f 5 : Nat), .int .u64 (f 6 : Nat), .int .u64 (f 7 : Nat), .int .u64 (f 8 : Nat), .int .u64 (f 9 : Nat)]) rfl (by kernel_rfl) (by kernel_rfl) (by kernel_rfl) (fun c a w h => hP c a w _ _ h) (yieldsIf_load_mid (by rfl) 52 _ rfl gb (go + k * 10) rfl [.int .u64 (f 0 : Nat), .int .u64 (f 1 : Nat), .int .u64 (f 2 : Nat), .int .u64 (f 3 : Nat), .int .u64 (f 4 : Nat), .int .u64 (f 5 : Nat), .int .u64 (f 6 : Nat), .int .u64 (f 7 : Nat), .int .u64 (f 8 : Nat), .int .u64 (f 9 : Nat)] _ (fun u hu => HRG.out u hu) Try.underlying52 (by rfl) (by kernel_rfl)) (by assumption) ?_
  try simp only [Act.put, List.setIfInBounds_toArray, List.set_cons_zero, List.set_cons_succ]
  refine wpAnyH_ready (rs := [5]) (by kernel_rfl) (by simp) ?_
  refine AllReadyH.cons (o := ⟨some 139, .call { callee := .value (.func 47), args := #[.tmp 134, .tmp 138], argTypes := #[34, 52] }, 133, "law.go:50", #[⟨0, .data⟩, ⟨4, .data⟩], none⟩) rfl (fun K hK => ?_) AllReadyH.nil
  (first | go_at_call 47 | (go_simp; go_at_call 47))
  refine (HC.out _).mono ?_
  rintro e w4 ⟨rfl, b4⟩
  try go_wp2_with fail
  refine hK.out _ _ ?_ (fun hHeld2 => ?_)
  · exact hHeld.trans (b4.mono hHeld.size)
  clear hK K
  try simp only [Act.put, List.setIfInBounds_toArray, List.set_cons_zero, List.set_cons_succ]
  refine wpAnyH_take (i := 6) (oi := ⟨some 133, .move (.tmp 139), 133, "law.go:50", #[⟨5, .data⟩], none⟩) (v := ?_) rfl (by kernel_rfl) (by kernel_rfl) (by kernel_rfl) (fun c a w h => hP c a w _ _ h) (Or.inl ⟨by rfl, ?_⟩) (by assumption) ?_
  rotate_left
  · (intro w hSw; (try dsimp only at hSw); go_simp <;> with_reducible rfl)
  try simp only [Act.put, List.setIfInBounds_toArray, List.set_cons_zero, List.set_cons_succ]
  refine wpAnyH_take (i := 7) (oi := ⟨some 140, .extract (.tmp 133) 0, 9, "law.go:50", #[⟨6, .data⟩], none⟩) (v := ?_) rfl (by kernel_rfl) (by kernel_rfl) (by kernel_rfl) (fun c a w h => hP c a w _ _ h) (Or.inl ⟨by rfl, ?_⟩) (by assumption) ?_
  rotate_left
  · (intro w hSw; (try dsimp only at hSw); go_simp <;> with_reducible rfl)
  try simp only [Act.put, List.setIfInBounds_toArray, List.set_cons_zero, List.set_cons_succ]
  refine wpAnyH_take (i := 8) (oi := ⟨some 141, .extract (.tmp 133) 1, 4, "law.go:50", #[⟨6, .data⟩, ⟨9, .gcOnly .lateStores⟩], none⟩) (v := ?_) rfl (by kernel_rfl) (by kernel_rfl) (by kernel_rfl) (fun c a w h => hP c a w _ _ h) (Or.inl ⟨by rfl, ?_⟩) (by assumption) ?_
  rotate_left
  · (intro w hSw; (try dsimp only at hSw); go_simp <;> with_reducible rfl)
  try simp only [Act.put, List.setIfInBounds_toArray, List.set_cons_zero, List.set_cons_succ]
  refine wpAnyH_take (i := 9) (oi := ⟨some 19, .assign (.tmp 140), 9, "law.go:50", #[⟨7, .data⟩, ⟨5, .chain⟩, ⟨0, .phase⟩, ⟨1, .phase⟩, ⟨2, .phase⟩, ⟨3, .phase⟩, ⟨4, .phase⟩, ⟨5, .phase⟩, ⟨6, .phase⟩, ⟨7, .phase⟩, ⟨8, .textOnly .lateStores⟩], none⟩) (v := ?_) rfl (by kernel_rfl) (by kernel_rfl) (by kernel_rfl) (fun c a w h => hP c a w _ _ h) (Or.inl ⟨by rfl, ?_⟩) (by assumption) ?_
  rotate_left
  · (intro w hSw; (try dsimp only at hSw); go_simp <;> with_reducible rfl)
  try simp only [Act.put, List.setIfInBounds_toArray, List.set_cons_zero, List.set_cons_succ]
  refine wpAnyH_take (i := 10) (oi := ⟨some 20, .assign (.tmp 141), 4, "law.go:50", #[⟨8, .data⟩, ⟨9, .chain⟩, ⟨0, .phase⟩, ⟨1, .phase⟩, ⟨2, .phase⟩, ⟨3, .phase⟩, ⟨4, .phase⟩, ⟨5, .phase⟩, ⟨6, .phase⟩, ⟨7, .phase⟩, ⟨8, .phase⟩, ⟨9, .phase⟩], none⟩) (v := ?_) rfl (by kernel_rfl) (by kernel_rfl) (by kernel_rfl) (fun c a w h => hP c a w _ _ h) (Or.inl ⟨by rfl, ?_⟩) (by assumption) ?_
  rotate_left
  · (intro w hSw; (try dsimp only at hSw); go_simp <;> with_reducible rfl)
  try simp only [Act.put, List.setIfInBounds_toArray, List.set_cons_zero, List.set_cons_succ]
  refine wpAnyH_done (by kernel_rfl) ?_ _
  exact HQ.out _ _ _ _ _ _ _ _ _ _ hHeld2
set_option maxRecDepth 1000000 in
set_option maxHeartbeats 2000000 in
theorem freg33 (Q : Exit → Act → World → Prop) (c0 c1 c2 c3 c4 c5 c6 c7 c8 c9 c11 c12 c13 c14 c15 c16 c17 c18 c19 c20 c22 c23 c24 c25 c26 c27 c28 c29 c30 c31 c32 c33 c34 c35 c36 c37 c38 c39 c40 c41 c42 c43 c44 c45 c46 c47 c48 c49 c50 c51 c52 c53 c54 c55 c56 c57 c58 c59 c60 c61 c62 c63 c64 c65 c66 c67 c68 c69 c70 c71 c72 c73 c74 c75 c76 c77 c78 c79 c80 c81 c82 c83 c84 c85 c86 c87 c88 c89 c90 c91 c92 c93 c94 c95 c96 c97 c98 c99 c100 c101 c102 c103 c104 c105 c106 c107 c108 c109 c110 c111 c112 c113 c114 c115 c116 c117 c118 c119 c120 c121 c122 c123 c124 c125 c126 c127 c128 c129 c130 c131 c132 c133 c134 c135 c136 c137 c138 c139 c140 c141 c142 c143 c144 c145 c146 c147 c148 c149 c150 c151 c152 c153 c154 c155 c156 c157 c158 c159 c160 c161 c162 c163 c164 c165 c166 c167 c168 c169 c170 c171 c172 c173 c174 c175 c176 c177 c178 c179 c180 c181 c182 c183 c184 c185 c186 c187 c188 c189 c190 c191 c192 c193 c194 c195 c196 c197 c198 c199 c200 c201 c202 : Value) (gb go n cx k q : Nat) (f : Nat → Nat) (W : World) (q0 : (0 : Int) ≤ (q : Int)) (q1 : (q : Int) < (n : Int)) (u6 : (k : Int) % (n : Int) = (q : Int)) (u7 : (k : Int).tmod (n : Int) = (q : Int)) (u8 : ((n : Int) == 0) = false) (u0 : ¬ n = 0)
    (g0 : W.cell? ⟨gb, go + q * 10, none⟩ = some (.int .u64 (f 0 : Nat)))
    (g1 : W.cell? ⟨gb, go + q * 10 + 1, none⟩ = some (.int .u64 (f 1 : Nat)))
    (g2 : W.cell? ⟨gb, go + q * 10 + 2, none⟩ = some (.int .u64 (f 2 : Nat)))
    (g3 : W.cell? ⟨gb, go + q * 10 + 3, none⟩ = some (.int .u64 (f 3 : Nat)))
    (g4 : W.cell? ⟨gb, go + q * 10 + 4, none⟩ = some (.int .u64 (f 4 : Nat)))
    (g5 : W.cell? ⟨gb, go + q * 10 + 5, none⟩ = some (.int .u64 (f 5 : Nat)))
    (g6 : W.cell? ⟨gb, go + q * 10 + 6, none⟩ = some (.int .u64 (f 6 : Nat)))
    (g7 : W.cell? ⟨gb, go + q * 10 + 7, none⟩ = some (.int .u64 (f 7 : Nat)))
    (g8 : W.cell? ⟨gb, go + q * 10 + 8, none⟩ = some (.int .u64 (f 8 : Nat)))
    (g9 : W.cell? ⟨gb, go + q * 10 + 9, none⟩ = some (.int .u64 (f 9 : Nat)))
    (hQ : ∀ (u162 u163 u164 u165 u166 u167 u168 : Value) (X : Nat) (w' : World), w'.heap[X]? = some (.cells #[.int .u64 (f 0 : Nat), .int .u64 (f 1 : Nat), .int .u64 (f 2 : Nat), .int .u64 (f 3 : Nat), .int .u64 (f 4 : Nat), .int .u64 (f 5 : Nat), .int .u64 (f 6 : Nat), .int .u64 (f 7 : Nat), .int .u64 (f 8 : Nat), .int .u64 (f 9 : Nat)] 52 (0, 0)) → W.heap.size ≤ X → Below W.heap.size W w' → Q .normal ⟨#[c0, c1, c2, c3, c4, c5, c6, c7, c8, c9, .slice (some ⟨gb, go, none⟩) n cx, c11, c12, c13, c14, c15, c16, c17, c18, c19, c20, .int .i64 (k : Nat), .pointer (some ⟨X, 0, none⟩), c23, c24, c25, c26, c27, c28, c29, c30, c31, c32, c33, c34, c35, c36, c37, c38, c39, c40, c41, c42, c43, c44, c45, c46, c47, c48, c49, c50, c51, c52, c53, c54, c55, c56, c57, c58, c59, c60, c61, c62, c63, c64, c65, c66, c67, c68, c69, c70, c71, c72, c73, c74, c75, c76, c77, c78, c79, c80, c81, c82, c83, c84, c85, c86, c87, c88, c89, c90, c91, c92, c93, c94, c95, c96, c97, c98, c99, c100, c101, c102, c103, c104, c105, c106, c107, c108, c109, c110, c111, c112, c113, c114, c115, c116, c117, c118, c119, c120, c121, c122, c123, c124, c125, c126, c127, c128, c129, c130, c131, c132, c133, c134, c135, c136, c137, c138, c139, c140, c141, c142, c143, c144, c145, c146, c147, c148, c149, c150, c151, c152, c153, c154, c155, c156, c157, c158, c159, c160, c161, u162, u163, u164, u165, u166, u167, u168, c169, c170, c171, c172, c173, c174, c175, c176, c177, c178, c179, c180, c181, c182, c183, c184, c185, c186, c187, c188, c189, c190, c191, c192, c193, c194, c195, c196, c197, c198, c199, c200, c201, c202], []⟩ w') :
    (Code.region 33 #[⟨some 162, .move (.tmp 10), 39, "law.go:58", #[], none⟩, ⟨some 163, .move (.tmp 21), 3, "law.go:58", #[], none⟩, ⟨some 164, .move (.tmp 10), 39, "law.go:58", #[], none⟩, ⟨some 165, .call { callee := .builtin .len, args := #[.tmp 164], argTypes := #[39] }, 3, "law.go:58", #[⟨2, .data⟩], none⟩, ⟨some 166, .binOp .rem 3 (.tmp 163) (.tmp 165) 3, 3, "law.go:58", #[⟨1, .data⟩, ⟨3, .data⟩], none⟩, ⟨some 167, .indexAddr 39 (.tmp 162) (.tmp 166), 0, "law.go:58", #[⟨0, .data⟩, ⟨4, .data⟩], none⟩, ⟨some 168, .load 52 (.tmp 167), 52, "law.go:58", #[⟨5, .data⟩], none⟩, ⟨some 22, .alloc 52, 0, "law.go:58", #[], none⟩, ⟨none, .store 52 (.tmp 22) (.tmp 168), 0, "law.go:58", #[⟨7, .data⟩, ⟨6, .data⟩, ⟨0, .phase⟩, ⟨1, .phase⟩, ⟨2, .phase⟩, ⟨3, .phase⟩, ⟨4, .phase⟩, ⟨5, .phase⟩, ⟨6, .phase⟩, ⟨7, .phase⟩], none⟩] false).wp Try.prog Q ⟨#[c0, c1, c2, c3, c4, c5, c6, c7, c8, c9, .slice (some ⟨gb, go, none⟩) n cx, c11, c12, c13, c14, c15, c16, c17, c18, c19, c20, .int .i64 (k : Nat), c22, c23, c24, c25, c26, c27, c28, c29, c30, c31, c32, c33, c34, c35, c36, c37, c38, c39, c40, c41, c42, c43, c44, c45, c46, c47, c48, c49, c50, c51, c52, c53, c54, c55, c56, c57, c58, c59, c60, c61, c62, c63, c64, c65, c66, c67, c68, c69, c70, c71, c72, c73, c74, c75, c76, c77, c78, c79, c80, c81, c82, c83, c84, c85, c86, c87, c88, c89, c90, c91, c92, c93, c94, c95, c96, c97, c98, c99, c100, c101, c102, c103, c104, c105, c106, c107, c108, c109, c110, c111, c112, c113, c114, c115, c116, c117, c118, c119, c120, c121, c122, c123, c124, c125, c126, c127, c128, c129, c130, c131, c132, c133, c134, c135, c136, c137, c138, c139, c140, c141, c142, c143, c144, c145, c146, c147, c148, c149, c150, c151, c152, c153, c154, c155, c156, c157, c158, c159, c160, c161, c162, c163, c164, c165, c166, c167, c168, c169, c170, c171, c172, c173, c174, c175, c176, c177, c178, c179, c180, c181, c182, c183, c184, c185, c186, c187, c188, c189, c190, c191, c192, c193, c194, c195, c196, c197, c198, c199, c200, c201, c202], []⟩ W := by
  try dsimp only at hQ ⊢
  have HQ := Lib.hid hQ; clear hQ
  go_wp2
  exact HQ.out _ _ _ _ _ _ _ _ _ (heap_alloc_new _ _) (Nat.le_refl _) (below_more (Below.refl _ _) _)
set_option maxRecDepth 1000000 in
set_option maxHeartbeats 2000000 in
theorem freg35 (Q : Exit → Act → World → Prop) (c0 c1 c2 c3 c4 c5 c6 c7 c8 c9 c10 c11 c12 c13 c14 c15 c16 c17 c18 c19 c20 c21 c23 c24 c25 c26 c27 c28 c29 c30 c31 c32 c33 c34 c35 c36 c37 c38 c39 c40 c41 c42 c43 c44 c45 c46 c47 c48 c49 c50 c51 c52 c53 c54 c55 c56 c57 c58 c59 c60 c61 c62 c63 c64 c65 c66 c67 c68 c69 c70 c71 c72 c73 c74 c75 c76 c77 c78 c79 c80 c81 c82 c83 c84 c85 c86 c87 c88 c89 c90 c91 c92 c93 c94 c95 c96 c97 c98 c99 c100 c101 c102 c103 c104 c105 c106 c107 c108 c109 c110 c111 c112 c113 c114 c115 c116 c117 c118 c119 c120 c121 c122 c123 c124 c125 c126 c127 c128 c129 c130 c131 c132 c133 c134 c135 c136 c137 c138 c139 c140 c141 c142 c143 c144 c145 c146 c147 c148 c149 c150 c151 c152 c153 c154 c155 c156 c157 c158 c159 c160 c161 c162 c163 c164 c165 c166 c167 c168 c169 c170 c171 c172 c173 c174 c175 c176 c177 c178 c179 c180 c181 c182 c183 c184 c185 c186 c187 c188 c189 c190 c191 c192 c193 c194 c195 c196 c197 c198 c199 c200 c201 c202 : Value) (X : Nat) (f : Nat → Nat) (W : World) (hX : W.heap[X]? = some (.cells #[.int .u64 (f 0 : Nat), .int .u64 (f 1 : Nat), .int .u64 (f 2 : Nat), .int .u64 (f 3 : Nat), .int .u64 (f 4 : Nat), .int .u64 (f 5 : Nat), .int .u64 (f 6 : Nat), .int .u64 (f 7 : Nat), .int .u64 (f 8 : Nat), .int .u64 (f 9 : Nat)] 52 (0, 0)))
    (hQ : ∀ (u172 : Value) (w' : World), w'.heap[X]? = some (.cells #[.int .u64 (f 0 : Nat), .int .u64 (f 1 : Nat), .int .u64 (f 2 : Nat), .int .u64 (f 3 : Nat), .int .u64 (f 4 : Nat), .int .u64 0, .int .u64 (f 6 : Nat), .int .u64 (f 7 : Nat), .int .u64 (f 8 : Nat), .int .u64 (f 9 : Nat)] 52 (0, 0)) → OnlyAt X W w' → Q .normal ⟨#[c0, c1, c2, c3, c4, c5, c6, c7, c8, c9, c10, c11, c12, c13, c14, c15, c16, c17, c18, c19, c20, c21, .pointer (some ⟨X, 0, none⟩), c23, c24, c25, c26, c27, c28, c29, c30, c31, c32, c33, c34, c35, c36, c37, c38, c39, c40, c41, c42, c43, c44, c45, c46, c47, c48, c49, c50, c51, c52, c53, c54, c55, c56, c57, c58, c59, c60, c61, c62, c63, c64, c65, c66, c67, c68, c69, c70, c71, c72, c73, c74, c75, c76, c77, c78, c79, c80, c81, c82, c83, c84, c85, c86, c87, c88, c89, c90, c91, c92, c93, c94, c95, c96, c97, c98, c99, c100, c101, c102, c103, c104, c105, c106, c107, c108, c109, c110, c111, c112, c113, c114, c115, c116, c117, c118, c119, c120, c121, c122, c123, c124, c125, c126, c127, c128, c129, c130, c131, c132, c133, c134, c135, c136, c137, c138, c139, c140, c141, c142, c143, c144, c145, c146, c147, c148, c149, c150, c151, c152, c153, c154, c155, c156, c157, c158, c159, c160, c161, c162, c163, c164, c165, c166, c167, c168, c169, c170, c171, u172, c173, c174, c175, c176, c177, c178, c179, c180, c181, c182, c183, c184, c185, c186, c187, c188, c189, c190, c191, c192, c193, c194, c195, c196, c197, c198, c199, c200, c201, c202], []⟩ w') :
    (Code.region 35 #[⟨some 172, .fieldAddr 52 (.tmp 22) 5, 0, "law.go:60", #[], none⟩, ⟨none, .store 29 (.tmp 172) (.const (.int .u64 0)), 0, "law.go:60", #[⟨0, .data⟩], none⟩] false).wp Try.prog Q ⟨#[c0, c1, c2, c3, c4, c5, c6, c7, c8, c9, c10, c11, c12, c13, c14, c15, c16, c17, c18, c19, c20, c21, .pointer (some ⟨X, 0, none⟩), c23, c24, c25, c26, c27, c28, c29, c30, c31, c32, c33, c34, c35, c36, c37, c38, c39, c40, c41, c42, c43, c44, c45, c46, c47, c48, c49, c50, c51, c52, c53, c54, c55, c56, c57, c58, c59, c60, c61, c62, c63, c64, c65, c66, c67, c68, c69, c70, c71, c72, c73, c74, c75, c76, c77, c78, c79, c80, c81, c82, c83, c84, c85, c86, c87, c88, c89, c90, c91, c92, c93, c94, c95, c96, c97, c98, c99, c100, c101, c102, c103, c104, c105, c106, c107, c108, c109, c110, c111, c112, c113, c114, c115, c116, c117, c118, c119, c120, c121, c122, c123, c124, c125, c126, c127, c128, c129, c130, c131, c132, c133, c134, c135, c136, c137, c138, c139, c140, c141, c142, c143, c144, c145, c146, c147, c148, c149, c150, c151, c152, c153, c154, c155, c156, c157, c158, c159, c160, c161, c162, c163, c164, c165, c166, c167, c168, c169, c170, c171, c172, c173, c174, c175, c176, c177, c178, c179, c180, c181, c182, c183, c184, c185, c186, c187, c188, c189, c190, c191, c192, c193, c194, c195, c196, c197, c198, c199, c200, c201, c202], []⟩ W := by
  try dsimp only at hQ ⊢
  have HQ := Lib.hid hQ; clear hQ
  have cP : W.cell? ⟨X, 5, none⟩ = some (.int .u64 (f 5 : Nat)) := by rw [Lib.cell_of_heap hX]; rfl
  have fP : W.frozen? ⟨X, 5, none⟩ = false := Lib.frozen_of_heap hX 5
  have q := Lib.heap_setCell_same (i := 5) hX (.int .u64 0)
  have hX1 : (W.setCell ⟨X, 5, none⟩ (.int .u64 0)).heap[X]? = some (.cells #[.int .u64 (f 0 : Nat), .int .u64 (f 1 : Nat), .int .u64 (f 2 : Nat), .int .u64 (f 3 : Nat), .int .u64 (f 4 : Nat), .int .u64 0, .int .u64 (f 6 : Nat), .int .u64 (f 7 : Nat), .int .u64 (f 8 : Nat), .int .u64 (f 9 : Nat)] 52 (0, 0)) := by simpa using q
  have HX1 := Lib.hid hX1
  clear q hX hX1
  go_wp2
  exact HQ.out _ _ HX1.out (OnlyAt.setCell X 5 W _)
set_option maxRecDepth 1000000 in
set_option maxHeartbeats 2000000 in
theorem freg36 (Q : Exit → Act → World → Prop) (c0 c1 c2 c3 c4 c5 c6 c7 c8 c10 c11 c12 c13 c14 c15 c16 c17 c18 c19 c20 c21 c23 c24 c25 c26 c27 c28 c29 c30 c31 c32 c33 c34 c35 c36 c37 c38 c39 c40 c41 c42 c43 c44 c45 c46 c47 c48 c49 c50 c51 c52 c53 c54 c55 c56 c57 c58 c59 c60 c61 c62 c63 c64 c65 c66 c67 c68 c69 c70 c71 c72 c73 c74 c75 c76 c77 c78 c79 c80 c81 c82 c83 c84 c85 c86 c87 c88 c89 c90 c91 c92 c93 c94 c95 c96 c97 c98 c99 c100 c101 c102 c103 c104 c105 c106 c107 c108 c109 c110 c111 c112 c113 c114 c115 c116 c117 c118 c119 c120 c121 c122 c123 c124 c125 c126 c127 c128 c129 c130 c131 c132 c133 c134 c135 c136 c137 c138 c139 c140 c141 c142 c143 c144 c145 c146 c147 c148 c149 c150 c151 c152 c153 c154 c155 c156 c157 c158 c159 c160 c161 c162 c163 c164 c165 c166 c167 c168 c169 c170 c171 c172 c173 c174 c175 c176 c177 c178 c179 c180 c181 c182 c183 c184 c185 c186 c187 c188 c189 c190 c191 c192 c193 c194 c195 c196 c197 c198 c199 c200 c201 c202 : Value) (big wide : Bool) (F X off sz : Nat) (S : ByteArray) (ok : Bool) (W : World) (cF0 : W.cell? ⟨F, 0, none⟩ = some (.bool big)) (cF1 : W.cell? ⟨F, 1, none⟩ = some (.bool wide)) (d4 : W.cell? ⟨X, 4, none⟩ = some (.int .u64 (off : Nat))) (d5 : W.cell? ⟨X, 5, none⟩ = some (.int .u64 (sz : Nat)))
    (HC : Hid (∀ u, Calls Try.prog 48 #[.agg #[.bool big, .bool wide], .agg #[.int .u64 1, .int .u64 0, .int .u64 (off : Nat), .int .u64 0, .int .u64 0, .int .u64 (sz : Nat), .int .u64 (sz : Nat), .int .u64 0]] u fun e w' => e = .returned (.tuple #[.string S, .bool ok]) ∧ Below u.heap.size u w'))
    (hQ : ∀ (u173 u174 u175 u176 u177 u178 u179 u180 u181 u182 u183 u184 : Value) (w' : World), Below W.heap.size W w' → Q .normal ⟨#[c0, c1, c2, c3, c4, c5, c6, c7, c8, .pointer (some ⟨F, 0, none⟩), c10, c11, c12, c13, c14, c15, c16, c17, c18, c19, c20, c21, .pointer (some ⟨X, 0, none⟩), .string S, .bool ok, c25, c26, c27, c28, c29, c30, c31, c32, c33, c34, c35, c36, c37, c38, c39, c40, c41, c42, c43, c44, c45, c46, c47, c48, c49, c50, c51, c52, c53, c54, c55, c56, c57, c58, c59, c60, c61, c62, c63, c64, c65, c66, c67, c68, c69, c70, c71, c72, c73, c74, c75, c76, c77, c78, c79, c80, c81, c82, c83, c84, c85, c86, c87, c88, c89, c90, c91, c92, c93, c94, c95, c96, c97, c98, c99, c100, c101, c102, c103, c104, c105, c106, c107, c108, c109, c110, c111, c112, c113, c114, c115, c116, c117, c118, c119, c120, c121, c122, c123, c124, c125, c126, c127, c128, c129, c130, c131, c132, c133, c134, c135, c136, c137, c138, c139, c140, c141, c142, c143, c144, c145, c146, c147, c148, c149, c150, c151, c152, c153, c154, c155, c156, c157, c158, c159, c160, c161, c162, c163, c164, c165, c166, c167, c168, c169, c170, c171, c172, u173, u174, u175, u176, u177, u178, u179, u180, u181, u182, u183, u184, c185, c186, c187, c188, c189, c190, c191, c192, c193, c194, c195, c196, c197, c198, c199, c200, c201, c202], []⟩ w') :
    (Code.region 36 #[⟨some 174, .load 34 (.tmp 9), 34, "law.go:62", #[], none⟩, ⟨some 175, .fieldAddr 52 (.tmp 22) 4, 0, "law.go:62", #[], none⟩, ⟨some 176, .load 29 (.tmp 175), 29, "law.go:62", #[⟨1, .data⟩], none⟩, ⟨some 177, .fieldAddr 52 (.tmp 22) 5, 0, "law.go:62", #[], none⟩, ⟨some 178, .load 29 (.tmp 177), 29, "law.go:62", #[⟨3, .data⟩], none⟩, ⟨some 179, .fieldAddr 52 (.tmp 22) 5, 0, "law.go:62", #[], none⟩, ⟨some 180, .load 29 (.tmp 179), 29, "law.go:62", #[⟨5, .data⟩], none⟩, ⟨some 181, .build 72 #[(0, .const (.int .u64 1)), (2, .tmp 176), (5, .tmp 178), (6, .tmp 180)], 72, "law.go:62", #[⟨2, .data⟩, ⟨4, .data⟩, ⟨6, .data⟩], none⟩, ⟨some 182, .call { callee := .value (.func 48), args := #[.tmp 174, .tmp 181], argTypes := #[34, 72] }, 133, "law.go:62", #[⟨0, .data⟩, ⟨7, .data⟩], none⟩, ⟨some 173, .move (.tmp 182), 133, "law.go:62", #[⟨8, .data⟩], none⟩, ⟨some 183, .extract (.tmp 173) 0, 9, "law.go:62", #[⟨9, .data⟩], none⟩, ⟨some 184, .extract (.tmp 173) 1, 4, "law.go:62", #[⟨9, .data⟩, ⟨12, .gcOnly .lateStores⟩], none⟩, ⟨some 23, .assign (.tmp 183), 9, "law.go:62", #[⟨10, .data⟩, ⟨8, .chain⟩, ⟨0, .phase⟩, ⟨1, .phase⟩, ⟨2, .phase⟩, ⟨3, .phase⟩, ⟨4, .phase⟩, ⟨5, .phase⟩, ⟨6, .phase⟩, ⟨7, .phase⟩, ⟨8, .phase⟩, ⟨9, .phase⟩, ⟨10, .phase⟩, ⟨11, .textOnly .lateStores⟩], none⟩, ⟨some 24, .assign (.tmp 184), 4, "law.go:62", #[⟨11, .data⟩, ⟨12, .chain⟩, ⟨0, .phase⟩, ⟨1, .phase⟩, ⟨2, .phase⟩, ⟨3, .phase⟩, ⟨4, .phase⟩, ⟨5, .phase⟩, ⟨6, .phase⟩, ⟨7, .phase⟩, ⟨8, .phase⟩, ⟨9, .phase⟩, ⟨10, .phase⟩, ⟨11, .phase⟩, ⟨12, .phase⟩], none⟩] false).wp Try.prog Q ⟨#[c0, c1, c2, c3, c4, c5, c6, c7, c8, .pointer (some ⟨F, 0, none⟩), c10, c11, c12, c13, c14, c15, c16, c17, c18, c19, c20, c21, .pointer (some ⟨X, 0, none⟩), c23, c24, c25, c26, c27, c28, c29, c30, c31, c32, c33, c34, c35, c36, c37, c38, c39, c40, c41, c42, c43, c44, c45, c46, c47, c48, c49, c50, c51, c52, c53, c54, c55, c56, c57, c58, c59, c60, c61, c62, c63, c64, c65, c66, c67, c68, c69, c70, c71, c72, c73, c74, c75, c76, c77, c78, c79, c80, c81, c82, c83, c84, c85, c86, c87, c88, c89, c90, c91, c92, c93, c94, c95, c96, c97, c98, c99, c100, c101, c102, c103, c104, c105, c106, c107, c108, c109, c110, c111, c112, c113, c114, c115, c116, c117, c118, c119, c120, c121, c122, c123, c124, c125, c126, c127, c128, c129, c130, c131, c132, c133, c134, c135, c136, c137, c138, c139, c140, c141, c142, c143, c144, c145, c146, c147, c148, c149, c150, c151, c152, c153, c154, c155, c156, c157, c158, c159, c160, c161, c162, c163, c164, c165, c166, c167, c168, c169, c170, c171, c172, c173, c174, c175, c176, c177, c178, c179, c180, c181, c182, c183, c184, c185, c186, c187, c188, c189, c190, c191, c192, c193, c194, c195, c196, c197, c198, c199, c200, c201, c202], []⟩ W := by
  try dsimp only at hQ ⊢
  have HQ := Lib.hid hQ; clear hQ
  refine wp_region_lit (l := _) ?_
  refine wpList_step (fun K hK => ?_)
  go_simp
  refine hK _ _ ?_
  clear hK K
  try simp only [Act.put, List.setIfInBounds_toArray, List.set_cons_zero, List.set_cons_succ]
  refine wpList_step (fun K hK => ?_)
  go_simp
  refine hK _ _ ?_
  clear hK K
  try simp only [Act.put, List.setIfInBounds_toArray, List.set_cons_zero, List.set_cons_succ]
  refine wpList_step (fun K hK => ?_)
  go_simp
  refine hK _ _ ?_
  clear hK K
  try simp only [Act.put, List.setIfInBounds_toArray, List.set_cons_zero, List.set_cons_succ]
  refine wpList_step (fun K hK => ?_)
  go_simp
  refine hK _ _ ?_
  clear hK K
  try simp only [Act.put, List.setIfInBounds_toArray, List.set_cons_zero, List.set_cons_succ]
  refine wpList_step (fun K hK => ?_)
  go_simp
  refine hK _ _ ?_
  clear hK K
  try simp only [Act.put, List.setIfInBounds_toArray, List.set_cons_zero, List.set_cons_succ]
  refine wpList_step (fun K hK => ?_)
  go_simp
  refine hK _ _ ?_
  clear hK K
  try simp only [Act.put, List.setIfInBounds_toArray, List.set_cons_zero, List.set_cons_succ]
  refine wpList_step (fun K hK => ?_)
  go_simp
  refine hK _ _ ?_
  clear hK K
  try simp only [Act.put, List.setIfInBounds_toArray, List.set_cons_zero, List.set_cons_succ]
  refine wpList_buildTo rfl 72 _ rfl _ rfl #[.int .u64 1, .int .u64 0, .int .u64 (off : Nat), .int .u64 0, .int .u64 0, .int .u64 (sz : Nat), .int .u64 (sz : Nat), .int .u64 0] (by kernel_rfl) ?_
  try simp only [Act.put, List.setIfInBounds_toArray, List.set_cons_zero, List.set_cons_succ]
  refine wpList_step (fun K hK => ?_)
  (first | go_at_call 48 | (go_simp; go_at_call 48))
  refine (HC.out _).mono ?_
  rintro e w4 ⟨rfl, b4⟩
  try go_simp
  refine hK _ _ ?_
  clear hK K
  try simp only [Act.put, List.setIfInBounds_toArray, List.set_cons_zero, List.set_cons_succ]
  refine wpList_step (fun K hK => ?_)
  go_simp
  refine hK _ _ ?_
  clear hK K
  try simp only [Act.put, List.setIfInBounds_toArray, List.set_cons_zero, List.set_cons_succ]
  refine wpList_step (fun K hK => ?_)
  go_simp
  refine hK _ _ ?_
  clear hK K
  try simp only [Act.put, List.setIfInBounds_toArray, List.set_cons_zero, List.set_cons_succ]
  refine wpList_step (fun K hK => ?_)
  go_simp
  refine hK _ _ ?_
  clear hK K
  try simp only [Act.put, List.setIfInBounds_toArray, List.set_cons_zero, List.set_cons_succ]
  refine wpList_step (fun K hK => ?_)
  go_simp
  refine hK _ _ ?_
  clear hK K
  try simp only [Act.put, List.setIfInBounds_toArray, List.set_cons_zero, List.set_cons_succ]
  refine wpList_step (fun K hK => ?_)
  go_simp
  refine hK _ _ ?_
  clear hK K
  try simp only [Act.put, List.setIfInBounds_toArray, List.set_cons_zero, List.set_cons_succ]
  refine wpList_nil ?_
  exact HQ.out _ _ _ _ _ _ _ _ _ _ _ _ _ b4
set_option maxRecDepth 1000000 in
set_option maxHeartbeats 2000000 in
theorem freg38 (Q : Exit → Act → World → Prop) (c0 c1 c2 c3 c4 c5 c6 c7 c8 c10 c11 c12 c14 c15 c16 c17 c18 c19 c20 c21 c22 c23 c24 c25 c26 c27 c28 c29 c30 c31 c32 c33 c34 c35 c36 c37 c38 c39 c40 c41 c42 c43 c44 c45 c46 c47 c48 c49 c50 c51 c52 c53 c54 c55 c56 c57 c58 c59 c60 c61 c62 c63 c64 c65 c66 c67 c68 c69 c70 c71 c72 c73 c74 c75 c76 c77 c78 c79 c80 c81 c82 c83 c84 c85 c86 c87 c88 c89 c90 c91 c92 c93 c94 c95 c96 c97 c98 c99 c100 c101 c102 c103 c104 c105 c106 c107 c108 c109 c110 c111 c112 c113 c114 c115 c116 c117 c118 c119 c120 c121 c122 c123 c124 c125 c126 c127 c128 c129 c130 c131 c132 c133 c134 c135 c136 c137 c138 c139 c140 c141 c142 c143 c144 c145 c146 c147 c148 c149 c150 c151 c152 c153 c154 c155 c156 c157 c158 c159 c160 c161 c162 c163 c164 c165 c166 c167 c168 c169 c170 c171 c172 c173 c174 c175 c176 c177 c178 c179 c180 c181 c182 c183 c184 c185 c186 c187 c188 c189 c190 c191 c192 c193 c194 c195 c196 c197 c198 c199 c200 c201 c202 : Value) (big wide : Bool) (F H eh ph sh : Nat) (po so pn sn nm : Nat) (S : ByteArray) (ok : Bool) (W : World) (cF0 : W.cell? ⟨F, 0, none⟩ = some (.bool big)) (cF1 : W.cell? ⟨F, 1, none⟩ = some (.bool wide)) (hH : W.heap[H]? = some (.cells #[.int .u64 0, .int .u64 0, .int .u64 1, .int .u64 0, .int .u64 (po : Nat), .int .u64 (so : Nat), .int .u64 0, .int .u64 (eh : Nat), .int .u64 (ph : Nat), .int .u64 (pn : Nat), .int .u64 (sh : Nat), .int .u64 (sn : Nat), .int .u64 (nm : Nat)] 38 (0, 0)))
    (HC : Hid (∀ u, Calls Try.prog 49 #[.agg #[.bool big, .bool wide], .agg #[.int .u64 0, .int .u64 0, .int .u64 1, .int .u64 0, .int .u64 (po : Nat), .int .u64 (so : Nat), .int .u64 0, .int .u64 (eh : Nat), .int .u64 (ph : Nat), .int .u64 (pn : Nat), .int .u64 (sh : Nat), .int .u64 (sn : Nat), .int .u64 (nm : Nat)]] u fun e w' => e = .returned (.tuple #[.string S, .bool ok]) ∧ Below u.heap.size u w'))
    (hQ : ∀ (u188 u189 u190 u191 u192 u193 : Value) (w' : World), Below W.heap.size W w' → Q .normal ⟨#[c0, c1, c2, c3, c4, c5, c6, c7, c8, .pointer (some ⟨F, 0, none⟩), c10, c11, c12, .pointer (some ⟨H, 0, none⟩), c14, c15, c16, c17, c18, c19, c20, c21, c22, c23, c24, .string S, .bool ok, c27, c28, c29, c30, c31, c32, c33, c34, c35, c36, c37, c38, c39, c40, c41, c42, c43, c44, c45, c46, c47, c48, c49, c50, c51, c52, c53, c54, c55, c56, c57, c58, c59, c60, c61, c62, c63, c64, c65, c66, c67, c68, c69, c70, c71, c72, c73, c74, c75, c76, c77, c78, c79, c80, c81, c82, c83, c84, c85, c86, c87, c88, c89, c90, c91, c92, c93, c94, c95, c96, c97, c98, c99, c100, c101, c102, c103, c104, c105, c106, c107, c108, c109, c110, c111, c112, c113, c114, c115, c116, c117, c118, c119, c120, c121, c122, c123, c124, c125, c126, c127, c128, c129, c130, c131, c132, c133, c134, c135, c136, c137, c138, c139, c140, c141, c142, c143, c144, c145, c146, c147, c148, c149, c150, c151, c152, c153, c154, c155, c156, c157, c158, c159, c160, c161, c162, c163, c164, c165, c166, c167, c168, c169, c170, c171, c172, c173, c174, c175, c176, c177, c178, c179, c180, c181, c182, c183, c184, c185, c186, c187, u188, u189, u190, u191, u192, u193, c194, c195, c196, c197, c198, c199, c200, c201, c202], []⟩ w') :
    (Code.region 38 #[⟨some 189, .load 34 (.tmp 9), 34, "law.go:65", #[], none⟩, ⟨some 190, .load 38 (.tmp 13), 38, "law.go:65", #[], none⟩, ⟨some 191, .call { callee := .value (.func 49), args := #[.tmp 189, .tmp 190], argTypes := #[34, 38] }, 133, "law.go:65", #[⟨0, .data⟩, ⟨1, .data⟩], none⟩, ⟨some 188, .move (.tmp 191), 133, "law.go:65", #[⟨2, .data⟩], none⟩, ⟨some 192, .extract (.tmp 188) 0, 9, "law.go:65", #[⟨3, .data⟩], none⟩, ⟨some 193, .extract (.tmp 188) 1, 4, "law.go:65", #[⟨3, .data⟩, ⟨6, .gcOnly .lateStores⟩], none⟩, ⟨some 25, .assign (.tmp 192), 9, "law.go:65", #[⟨4, .data⟩, ⟨2, .chain⟩, ⟨0, .phase⟩, ⟨1, .phase⟩, ⟨2, .phase⟩, ⟨3, .phase⟩, ⟨4, .phase⟩, ⟨5, .textOnly .lateStores⟩], none⟩, ⟨some 26, .assign (.tmp 193), 4, "law.go:65", #[⟨5, .data⟩, ⟨6, .chain⟩, ⟨0, .phase⟩, ⟨1, .phase⟩, ⟨2, .phase⟩, ⟨3, .phase⟩, ⟨4, .phase⟩, ⟨5, .phase⟩, ⟨6, .phase⟩], none⟩] false).wp Try.prog Q ⟨#[c0, c1, c2, c3, c4, c5, c6, c7, c8, .pointer (some ⟨F, 0, none⟩), c10, c11, c12, .pointer (some ⟨H, 0, none⟩), c14, c15, c16, c17, c18, c19, c20, c21, c22, c23, c24, c25, c26, c27, c28, c29, c30, c31, c32, c33, c34, c35, c36, c37, c38, c39, c40, c41, c42, c43, c44, c45, c46, c47, c48, c49, c50, c51, c52, c53, c54, c55, c56, c57, c58, c59, c60, c61, c62, c63, c64, c65, c66, c67, c68, c69, c70, c71, c72, c73, c74, c75, c76, c77, c78, c79, c80, c81, c82, c83, c84, c85, c86, c87, c88, c89, c90, c91, c92, c93, c94, c95, c96, c97, c98, c99, c100, c101, c102, c103, c104, c105, c106, c107, c108, c109, c110, c111, c112, c113, c114, c115, c116, c117, c118, c119, c120, c121, c122, c123, c124, c125, c126, c127, c128, c129, c130, c131, c132, c133, c134, c135, c136, c137, c138, c139, c140, c141, c142, c143, c144, c145, c146, c147, c148, c149, c150, c151, c152, c153, c154, c155, c156, c157, c158, c159, c160, c161, c162, c163, c164, c165, c166, c167, c168, c169, c170, c171, c172, c173, c174, c175, c176, c177, c178, c179, c180, c181, c182, c183, c184, c185, c186, c187, c188, c189, c190, c191, c192, c193, c194, c195, c196, c197, c198, c199, c200, c201, c202], []⟩ W := by
  try dsimp only at hQ ⊢
  have HQ := Lib.hid hQ; clear hQ
  refine wp_region_lit (l := _) ?_
  refine wpList_step (fun K hK => ?_)
  go_simp
  refine hK _ _ ?_
  clear hK K
  try simp only [Act.put, List.setIfInBounds_toArray, List.set_cons_zero, List.set_cons_succ]
  refine wpList_load_mid rfl 38 _ rfl H 0 (by rfl) [.int .u64 0, .int .u64 0, .int .u64 1, .int .u64 0, .int .u64 (po : Nat), .int .u64 (so : Nat), .int .u64 0, .int .u64 (eh : Nat), .int .u64 (ph : Nat), .int .u64 (pn : Nat), .int .u64 (sh : Nat), .int .u64 (sn : Nat), .int .u64 (nm : Nat)] _ (range_of hH (by rfl)) Try.underlying38 (by rfl) (by kernel_rfl) ?_
  try simp only [Act.put, List.setIfInBounds_toArray, List.set_cons_zero, List.set_cons_succ]
  refine wpList_step (fun K hK => ?_)
  (first | go_at_call 49 | (go_simp; go_at_call 49))
  refine (HC.out _).mono ?_
  rintro e w4 ⟨rfl, b4⟩
  try go_simp
  refine hK _ _ ?_
  clear hK K
  try simp only [Act.put, List.setIfInBounds_toArray, List.set_cons_zero, List.set_cons_succ]
  refine wpList_step (fun K hK => ?_)
  go_simp
  refine hK _ _ ?_
  clear hK K
  try simp only [Act.put, List.setIfInBounds_toArray, List.set_cons_zero, List.set_cons_succ]
  refine wpList_step (fun K hK => ?_)
  go_simp
  refine hK _ _ ?_
  clear hK K
  try simp only [Act.put, List.setIfInBounds_toArray, List.set_cons_zero, List.set_cons_succ]
  refine wpList_step (fun K hK => ?_)
  go_simp
  refine hK _ _ ?_
  clear hK K
  try simp only [Act.put, List.setIfInBounds_toArray, List.set_cons_zero, List.set_cons_succ]
  refine wpList_step (fun K hK => ?_)
  go_simp
  refine hK _ _ ?_
  clear hK K
  try simp only [Act.put, List.setIfInBounds_toArray, List.set_cons_zero, List.set_cons_succ]
  refine wpList_step (fun K hK => ?_)
  go_simp
  refine hK _ _ ?_
  clear hK K
  try simp only [Act.put, List.setIfInBounds_toArray, List.set_cons_zero, List.set_cons_succ]
  refine wpList_nil ?_
  exact HQ.out _ _ _ _ _ _ _ b4
set_option maxRecDepth 1000000 in
set_option maxHeartbeats 2000000 in
theorem freg39 (Q : Exit → Act → World → Prop) (c0 c1 c2 c3 c4 c5 c6 c7 c8 c10 c12 c13 c14 c15 c16 c18 c19 c20 c21 c22 c23 c24 c26 c27 c28 c29 c30 c31 c32 c33 c34 c35 c36 c37 c38 c39 c40 c41 c42 c43 c44 c45 c46 c47 c48 c49 c50 c51 c52 c53 c54 c55 c56 c57 c58 c59 c60 c61 c62 c63 c64 c65 c66 c67 c68 c69 c70 c71 c72 c73 c74 c75 c76 c77 c78 c79 c80 c81 c82 c83 c84 c85 c86 c87 c88 c89 c90 c91 c92 c93 c94 c95 c96 c97 c98 c99 c100 c101 c102 c103 c104 c105 c106 c107 c108 c109 c110 c111 c112 c113 c114 c115 c116 c117 c118 c119 c120 c121 c122 c123 c124 c125 c126 c127 c128 c129 c130 c131 c132 c133 c134 c135 c136 c137 c138 c139 c140 c141 c142 c143 c144 c145 c146 c147 c148 c149 c150 c151 c152 c153 c154 c155 c156 c157 c158 c159 c160 c161 c162 c163 c164 c165 c166 c167 c168 c169 c170 c171 c172 c173 c174 c175 c176 c177 c178 c179 c180 c181 c182 c183 c184 c185 c186 c187 c188 c189 c190 c191 c192 c193 c194 c195 c196 c197 c198 c199 c200 c201 c202 : Value) (big wide : Bool) (F : Nat) (S bd tb I A1 A2 V : ByteArray) (W : World) (cF0 : W.cell? ⟨F, 0, none⟩ = some (.bool big)) (cF1 : W.cell? ⟨F, 1, none⟩ = some (.bool wide)) (s1 : ∀ u, (Op.stringOp .add I S).run Try.prog u = .ok (.string A1) u) (s2 : ∀ u, (Op.stringOp .add A1 bd).run Try.prog u = .ok (.string A2) u) (s3 : ∀ u, (Op.stringOp .add A2 tb).run Try.prog u = .ok (.string V) u)
    (HC : Hid (∀ u, Calls Try.prog 25 #[.agg #[.bool big, .bool wide, .int .u8 0, .int .u8 0, .string ⟨#[]⟩]] u fun e w' => e = .returned (.string I) ∧ Below u.heap.size u w'))
    (hQ : ∀ (u194 u195 u196 u197 u198 u199 u200 u201 u202 : Value) (w' : World), Below W.heap.size W w' → Q .normal ⟨#[c0, c1, c2, c3, c4, c5, c6, c7, .string V, .pointer (some ⟨F, 0, none⟩), c10, .string bd, c12, c13, c14, c15, c16, .string tb, c18, c19, c20, c21, c22, c23, c24, .string S, c26, c27, c28, c29, c30, c31, c32, c33, c34, c35, c36, c37, c38, c39, c40, c41, c42, c43, c44, c45, c46, c47, c48, c49, c50, c51, c52, c53, c54, c55, c56, c57, c58, c59, c60, c61, c62, c63, c64, c65, c66, c67, c68, c69, c70, c71, c72, c73, c74, c75, c76, c77, c78, c79, c80, c81, c82, c83, c84, c85, c86, c87, c88, c89, c90, c91, c92, c93, c94, c95, c96, c97, c98, c99, c100, c101, c102, c103, c104, c105, c106, c107, c108, c109, c110, c111, c112, c113, c114, c115, c116, c117, c118, c119, c120, c121, c122, c123, c124, c125, c126, c127, c128, c129, c130, c131, c132, c133, c134, c135, c136, c137, c138, c139, c140, c141, c142, c143, c144, c145, c146, c147, c148, c149, c150, c151, c152, c153, c154, c155, c156, c157, c158, c159, c160, c161, c162, c163, c164, c165, c166, c167, c168, c169, c170, c171, c172, c173, c174, c175, c176, c177, c178, c179, c180, c181, c182, c183, c184, c185, c186, c187, c188, c189, c190, c191, c192, c193, u194, u195, u196, u197, u198, u199, u200, u201, u202], []⟩ w') :
    (Code.region 39 #[⟨some 194, .load 34 (.tmp 9), 34, "law.go:66", #[], none⟩, ⟨some 195, .build 36 #[(0, .tmp 194)], 36, "law.go:66", #[⟨0, .data⟩], none⟩, ⟨some 196, .call { callee := .value (.func 25), args := #[.tmp 195], argTypes := #[36] }, 9, "law.go:66", #[⟨1, .data⟩], none⟩, ⟨some 197, .move (.tmp 25), 9, "law.go:66", #[], none⟩, ⟨some 198, .binOp .add 9 (.tmp 196) (.tmp 197) 9, 9, "law.go:66", #[⟨2, .data⟩, ⟨3, .data⟩], none⟩, ⟨some 199, .move (.tmp 11), 9, "law.go:66", #[], none⟩, ⟨some 200, .binOp .add 9 (.tmp 198) (.tmp 199) 9, 9, "law.go:66", #[⟨4, .data⟩, ⟨5, .data⟩], none⟩, ⟨some 201, .move (.tmp 17), 9, "law.go:66", #[], none⟩, ⟨some 202, .binOp .add 9 (.tmp 200) (.tmp 201) 9, 9, "law.go:66", #[⟨6, .data⟩, ⟨7, .data⟩], none⟩, ⟨some 8, .assign (.tmp 202), 9, "law.go:66", #[⟨8, .data⟩, ⟨2, .chain⟩, ⟨0, .phase⟩, ⟨1, .phase⟩, ⟨2, .phase⟩, ⟨3, .phase⟩, ⟨4, .phase⟩, ⟨5, .phase⟩, ⟨6, .phase⟩, ⟨7, .phase⟩, ⟨8, .phase⟩], none⟩] false).wp Try.prog Q ⟨#[c0, c1, c2, c3, c4, c5, c6, c7, c8, .pointer (some ⟨F, 0, none⟩), c10, .string bd, c12, c13, c14, c15, c16, .string tb, c18, c19, c20, c21, c22, c23, c24, .string S, c26, c27, c28, c29, c30, c31, c32, c33, c34, c35, c36, c37, c38, c39, c40, c41, c42, c43, c44, c45, c46, c47, c48, c49, c50, c51, c52, c53, c54, c55, c56, c57, c58, c59, c60, c61, c62, c63, c64, c65, c66, c67, c68, c69, c70, c71, c72, c73, c74, c75, c76, c77, c78, c79, c80, c81, c82, c83, c84, c85, c86, c87, c88, c89, c90, c91, c92, c93, c94, c95, c96, c97, c98, c99, c100, c101, c102, c103, c104, c105, c106, c107, c108, c109, c110, c111, c112, c113, c114, c115, c116, c117, c118, c119, c120, c121, c122, c123, c124, c125, c126, c127, c128, c129, c130, c131, c132, c133, c134, c135, c136, c137, c138, c139, c140, c141, c142, c143, c144, c145, c146, c147, c148, c149, c150, c151, c152, c153, c154, c155, c156, c157, c158, c159, c160, c161, c162, c163, c164, c165, c166, c167, c168, c169, c170, c171, c172, c173, c174, c175, c176, c177, c178, c179, c180, c181, c182, c183, c184, c185, c186, c187, c188, c189, c190, c191, c192, c193, c194, c195, c196, c197, c198, c199, c200, c201, c202], []⟩ W := by
  try dsimp only at hQ ⊢
  have HQ := Lib.hid hQ; clear hQ
  refine wp_region_lit (l := _) ?_
  refine wpList_step (fun K hK => ?_)
  go_simp
  refine hK _ _ ?_
  clear hK K
  try simp only [Act.put, List.setIfInBounds_toArray, List.set_cons_zero, List.set_cons_succ]
  refine wpList_buildTo rfl 36 _ rfl _ rfl #[.bool big, .bool wide, .int .u8 0, .int .u8 0, .string ⟨#[]⟩] (by kernel_rfl) ?_
  try simp only [Act.put, List.setIfInBounds_toArray, List.set_cons_zero, List.set_cons_succ]
  refine wpList_step (fun K hK => ?_)
  (first | go_at_call 25 | (go_simp; go_at_call 25))
  refine (HC.out _).mono ?_
  rintro e w4 ⟨rfl, b4⟩
  try go_simp
  refine hK _ _ ?_
  clear hK K
  try simp only [Act.put, List.setIfInBounds_toArray, List.set_cons_zero, List.set_cons_succ]
  refine wpList_step (fun K hK => ?_)
  go_simp
  refine hK _ _ ?_
  clear hK K
  try simp only [Act.put, List.setIfInBounds_toArray, List.set_cons_zero, List.set_cons_succ]
  refine wpList_step (fun K hK => ?_)
  go_simp
  refine hK _ _ ?_
  clear hK K
  try simp only [Act.put, List.setIfInBounds_toArray, List.set_cons_zero, List.set_cons_succ]
  refine wpList_step (fun K hK => ?_)
  go_simp
  refine hK _ _ ?_
  clear hK K
  try simp only [Act.put, List.setIfInBounds_toArray, List.set_cons_zero, List.set_cons_succ]
  refine wpList_step (fun K hK => ?_)
  go_simp
  refine hK _ _ ?_
  clear hK K
  try simp only [Act.put, List.setIfInBounds_toArray, List.set_cons_zero, List.set_cons_succ]
  refine wpList_step (fun K hK => ?_)
  go_simp
  refine hK _ _ ?_
  clear hK K
  try simp only [Act.put, List.setIfInBounds_toArray, List.set_cons_zero, List.set_cons_succ]
  refine wpList_step (fun K hK => ?_)
  go_simp
  refine hK _ _ ?_
  clear hK K
  try simp only [Act.put, List.setIfInBounds_toArray, List.set_cons_zero, List.set_cons_succ]
  refine wpList_step (fun K hK => ?_)
  go_simp
  refine hK _ _ ?_
  clear hK K
  try simp only [Act.put, List.setIfInBounds_toArray, List.set_cons_zero, List.set_cons_succ]
  refine wpList_nil ?_
  exact HQ.out _ _ _ _ _ _ _ _ _ _ b4
end Go.Proofs.Ytedocnidgiglaaa
namespace Go.Proofs.Ytedocnidgiglaaa
open Go.RowKit
set_option linter.unusedVariables false
def bodyS (g : Nat → Nat → Nat) (D : Nat → ByteArray) : Nat → ByteArray
  | 0 => ⟨#[]⟩
  | k + 1 => if g k 1 ≠ 0 ∧ g k 1 ≠ 8 then bodyS g D k ++ D k else bodyS g D k
theorem bodyS_le {g : Nat → Nat → Nat} {D : Nat → ByteArray} (h : ∀ i, (D i).size ≤ 60) : ∀ k, (bodyS g D k).size ≤ k * 60
  | 0 => Nat.zero_le _
  | k + 1 => by
    have := bodyS_le (g := g) h k
    have h2 := h k
    unfold bodyS
    split
    · rw [ByteArray.size_append, Nat.succ_mul]; omega
    · rw [Nat.succ_mul]; omega
def tabU (T : ByteArray) (S : Nat → ByteArray) : Nat → ByteArray
  | 0 => T
  | k + 1 => tabU T S k ++ S k
theorem tabU_le {T : ByteArray} {S : Nat → ByteArray} (h : ∀ i, (S i).size ≤ 64) : ∀ k, (tabU T S k).size ≤ T.size + k * 64
  | 0 => by show T.size ≤ _; omega
  | k + 1 => by
    have := tabU_le (T := T) h k
    have h2 := h k
    show (tabU T S k ++ S k).size ≤ _
    rw [ByteArray.size_append, Nat.succ_mul]; omega
/-- The numbers of the sections' headers of a file. -/
def fX (g : Nat → Nat → Nat) (D : Nat → ByteArray) (bg s0 : Nat) : Nat → Nat → Nat
  | 0, j => if j = 5 then s0 else 0
  | i + 1, j => if j = 0 then g i 0 else if j = 1 then g i 1 else if j = 2 then g i 2 else if j = 3 then 0 else if j = 4 then bg + (bodyS g D i).size else if j = 5 then (D i).size else if j = 6 then g i 3 else if j = 7 then g i 4 else if j = 8 then g i 5 else g i 6
def xsL (X : Nat → Nat → Nat) (k : Nat) : List Value := (flatF 10 X k).map fun m => Value.int .u64 (m : Nat)
theorem xsL_succ (X : Nat → Nat → Nat) (k : Nat) : xsL X (k + 1) = xsL X k ++ [.int .u64 (X k 0 : Nat), .int .u64 (X k 1 : Nat), .int .u64 (X k 2 : Nat), .int .u64 (X k 3 : Nat), .int .u64 (X k 4 : Nat), .int .u64 (X k 5 : Nat), .int .u64 (X k 6 : Nat), .int .u64 (X k 7 : Nat), .int .u64 (X k 8 : Nat), .int .u64 (X k 9 : Nat)] := by
  unfold xsL
  rw [flatF_succ, List.map_append]
  rfl
theorem own_range {w : World} {base n : Nat} {v : Value} {X : Nat → Nat → Nat} (h : w.ownsRow base 52 10 v n (xsL X n)) (hn : 0 < n) : ∃ gb c, v = .slice (some ⟨gb, 0, none⟩) n c ∧ gb < w.heap.size ∧ base ≤ gb ∧ ∀ k, k < n → ∀ j, j < 10 → w.cell? ⟨gb, k * 10 + j, none⟩ = some (.int .u64 (X k j : Nat)) := by
  rcases h.2 with ⟨_, rfl⟩ | ⟨g, cap, cur, rfl, hg, hb, _, _, _, ht⟩
  · omega
  · refine ⟨g, cap, rfl, heap_lt hb, hg, fun k hk j hj => ?_⟩
    rw [Lib.cell_of_heap hb]
    show cur[k * 10 + j]? = _
    have hlt : k * 10 + j < n * 10 := by
      have : (k + 1) * 10 ≤ n * 10 := Nat.mul_le_mul_right _ hk
      rw [Nat.succ_mul] at this; omega
    have h4 : cur.toList[k * 10 + j]? = (cur.toList.take (n * 10))[k * 10 + j]? := (List.getElem?_take_of_lt hlt).symm
    rw [← Array.getElem?_toList, h4, ht, xsL, List.getElem?_map, flatF_at 10 X n k j hk hj]; rfl
/-- Sections that come in. -/
def RowL (w : World) (A : Option Addr) (n : Nat) (g : Nat → Nat → Nat) (D : Nat → ByteArray) : Prop := ∀ i, i < n → ∃ b o, A = some ⟨b, o, none⟩ ∧ b < w.heap.size ∧ (∀ j, j < 7 → w.cell? ⟨b, o + i * 8 + j, none⟩ = some (.int .u64 (g i j : Nat))) ∧ w.cell? ⟨b, o + i * 8 + 7, none⟩ = some (.string (D i))
theorem RowL.low {w w' : World} {A : Option Addr} {n : Nat} {g : Nat → Nat → Nat} {D : Nat → ByteArray} (h : RowL w A n g D) (hb : Below w.heap.size w w') : RowL w' A n g D := fun i hi => by
  obtain ⟨b, o, e, hl, h0, h7⟩ := h i hi
  exact ⟨b, o, e, Nat.lt_of_lt_of_le hl hb.size, fun j hj => (hb.cell (p := ⟨b, _, none⟩) hl).trans (h0 j hj), (hb.cell (p := ⟨b, _, none⟩) hl).trans h7⟩
/-- What stays while the file is made: the form, the header, the sections' row. -/
structure Gf (w : World) (base F H : Nat) (big wide : Bool) (po so pn sn nm : Nat) (v : Value) (n : Nat) (X : Nat → Nat → Nat) (W : World) : Prop where
  f : W.heap[F]? = some (.cells #[.bool big, .bool wide] 34 (0, 0))
  h : W.heap[H]? = some (.cells #[.int .u64 0, .int .u64 0, .int .u64 1, .int .u64 0, .int .u64 (po : Nat), .int .u64 (so : Nat), .int .u64 0, .int .u64 (ehs wide : Nat), .int .u64 (phs wide : Nat), .int .u64 (pn : Nat), .int .u64 (shs wide : Nat), .int .u64 (sn : Nat), .int .u64 (nm : Nat)] 38 (0, 0))
  b : Below w.heap.size w W
  x : W.ownsRow base 52 10 v n (xsL X n)
theorem Gf.low {w : World} {base F H : Nat} {big wide : Bool} {po so pn sn nm : Nat} {v : Value} {n : Nat} {X : Nat → Nat → Nat} {W W' : World} (h : Gf w base F H big wide po so pn sn nm v n X W) (hb : Below W.heap.size W W') : Gf w base F H big wide po so pn sn nm v n X W' := ⟨heap_low h.f hb, heap_low h.h hb, h.b.trans (hb.mono h.b.size), own_stay h.x hb⟩
theorem Gf.c0 {w : World} {base F H : Nat} {big wide : Bool} {po so pn sn nm : Nat} {v : Value} {n : Nat} {X : Nat → Nat → Nat} {W : World} (h : Gf w base F H big wide po so pn sn nm v n X W) : W.cell? ⟨F, 0, none⟩ = some (.bool big) := by rw [Lib.cell_of_heap h.f]; rfl
theorem Gf.c1 {w : World} {base F H : Nat} {big wide : Bool} {po so pn sn nm : Nat} {v : Value} {n : Nat} {X : Nat → Nat → Nat} {W : World} (h : Gf w base F H big wide po so pn sn nm v n X W) : W.cell? ⟨F, 1, none⟩ = some (.bool wide) := by rw [Lib.cell_of_heap h.f]; rfl
theorem own_only {w w' : World} {B e size n R : Nat} {v : Value} {xs : List Value} (h : w.ownsRow B e size v n xs) (ho : OnlyAt R w w') (hR : R < B) : w'.ownsRow B e size v n xs := by
  refine ⟨h.1, ?_⟩
  rcases h.2 with h1 | ⟨g, cap, cur, h1, h2, h3, h4⟩
  · exact .inl h1
  · exact .inr ⟨g, cap, cur, h1, h2, heap_only h3 ho (by omega), h4⟩
/-- The header alone is another one. -/
theorem Gf.head {w : World} {base F H : Nat} {big wide : Bool} {po so pn sn nm po2 so2 pn2 sn2 nm2 : Nat} {v : Value} {n : Nat} {X : Nat → Nat → Nat} {W W' : World} (h : Gf w base F H big wide po so pn sn nm v n X W) (hH : W'.heap[H]? = some (.cells #[.int .u64 0, .int .u64 0, .int .u64 1, .int .u64 0, .int .u64 (po2 : Nat), .int .u64 (so2 : Nat), .int .u64 0, .int .u64 (ehs wide : Nat), .int .u64 (phs wide : Nat), .int .u64 (pn2 : Nat), .int .u64 (shs wide : Nat), .int .u64 (sn2 : Nat), .int .u64 (nm2 : Nat)] 38 (0, 0))) (ho : OnlyAt H W W') (hFH : F < H) (hHb : H < base) (hw : w.heap.size ≤ H) : Gf w base F H big wide po2 so2 pn2 sn2 nm2 v n X W' :=
  ⟨heap_only h.f ho (by omega), hH, h.b.trans (ho.below h.b.size hw), own_only h.x ho hHb⟩
/-- How many bytes a segment has that is a section's. -/
def segZ (X : Nat → Nat → Nat) (n j : Nat) : Nat := if X (j % (n + 1)) 1 ≠ 0 ∧ X (j % (n + 1)) 1 ≠ 8 then X (j % (n + 1)) 5 else 0
theorem own_lt {w : World} {B e size n : Nat} {v : Value} {xs : List Value} (h : w.ownsRow B e size v n xs) : ∀ k, v.ownBlock = some k → k < w.heap.size := fun k hk => by
  rcases h.2 with ⟨rfl, _⟩ | ⟨g, cap, cur, rfl, _, hb, _⟩
  · cases hk
  · cases hk; exact heap_lt hb
theorem own_cells {w : World} {base n gb c : Nat} {X : Nat → Nat → Nat} (h : w.ownsRow base 52 10 (.slice (some ⟨gb, 0, none⟩) n c) n (xsL X n)) (k : Nat) (hk : k < n) (j : Nat) (hj : j < 10) : w.cell? ⟨gb, k * 10 + j, none⟩ = some (.int .u64 (X k j : Nat)) := by
  obtain ⟨gb2, c2, e, _, _, hc⟩ := own_range h (by omega)
  cases e
  exact hc k hk j hj
theorem range10 {w : World} {gb k : Nat} {f : Nat → Nat} (h : ∀ j, j < 10 → w.cell? ⟨gb, k * 10 + j, none⟩ = some (.int .u64 (f j : Nat))) : w.rangeAt gb (0 + k * 10) [.int .u64 (f 0 : Nat), .int .u64 (f 1 : Nat), .int .u64 (f 2 : Nat), .int .u64 (f 3 : Nat), .int .u64 (f 4 : Nat), .int .u64 (f 5 : Nat), .int .u64 (f 6 : Nat), .int .u64 (f 7 : Nat), .int .u64 (f 8 : Nat), .int .u64 (f 9 : Nat)] := fun j v hj => by
  rw [Nat.zero_add]
  match j, hj with
  | 0, hj => cases hj; exact h 0 (by decide)
  | 1, hj => cases hj; exact h 1 (by decide)
  | 2, hj => cases hj; exact h 2 (by decide)
  | 3, hj => cases hj; exact h 3 (by decide)
  | 4, hj => cases hj; exact h 4 (by decide)
  | 5, hj => cases hj; exact h 5 (by decide)
  | 6, hj => cases hj; exact h 6 (by decide)
  | 7, hj => cases hj; exact h 7 (by decide)
  | 8, hj => cases hj; exact h 8 (by decide)
  | 9, hj => cases hj; exact h 9 (by decide)
  | j + 10, hj => cases hj
theorem form11 (fl : Int) (big wide : Bool) (hb : (bits BinOp.and IntKind.i64 fl 1 == 1) = big) (hw : (bits BinOp.and IntKind.i64 fl 2 == 2) = wide) (w : World) :
    Calls Try.prog 24 #[.int .i64 fl] w fun e w' => e = .returned (.agg #[.bool big, .bool wide]) ∧ Below w.heap.size w w' := by
  subst hb hw
  go_enter Try.func24, Try.ntmps24
  go_wp2
  generalize (bits BinOp.and IntKind.i64 fl 1 == 1) = big
  generalize (bits BinOp.and IntKind.i64 fl 2 == 2) = wide
  exact bodyPost_ret (v := .agg #[.bool big, .bool wide]) (by simp [results, Try.results24, go_sem]) rfl ⟨rfl, (Below.refl _ _).alloc (Nat.le_refl _) _⟩
end Go.Proofs.Ytedocnidgiglaaa
namespace Go.Proofs.Ytedocnidgiglaaa
open Go.RowKit
set_option linter.unusedVariables false
set_option maxRecDepth 1000000 in
set_option maxHeartbeats 4000000 in
theorem file_any (fl : Int) (big wide b4 : Bool) (hb : (bits BinOp.and IntKind.i64 fl 1 == 1) = big) (hw : (bits BinOp.and IntKind.i64 fl 2 == 2) = wide) (hb4 : (bits BinOp.and IntKind.i64 fl 4 == 4) = b4)
    (A : Option Addr) (n cap sg nm bg so sn s0 po : Nat) (g : Nat → Nat → Nat) (D : Nat → ByteArray) (X : Nat → Nat → Nat) (SR PR : Nat → ByteArray) (okS okP : Nat → Bool) (SE IDB : ByteArray) (oE : Bool)
    (hn : n ≤ 8) (hsg : sg ≤ 3) (hD : ∀ i, (D i).size ≤ 60) (hbg : bg = 16 + eLen wide) (hso : so = bg + (bodyS g D n).size) (hsn : sn = if b4 = true then 0 else n + 1) (hs0 : s0 = if b4 = true then n + 1 else 0) (hX : X = fX g D bg s0) (hpo : po = if 0 < sg then so + (tabU ⟨#[]⟩ SR (n + 1)).size else 0)
    (zS : ∀ i, (SR i).size ≤ 64) (zP : ∀ i, (PR i).size ≤ 64) (zE : SE.size ≤ 64) (zI : IDB.size ≤ 64)
    (HSR : Hid (∀ k, k < n + 1 → ∀ u, Calls Try.prog 47 #[.agg #[.bool big, .bool wide], .agg #[.int .u64 (X k 0 : Nat), .int .u64 (X k 1 : Nat), .int .u64 (X k 2 : Nat), .int .u64 (X k 3 : Nat), .int .u64 (X k 4 : Nat), .int .u64 (X k 5 : Nat), .int .u64 (X k 6 : Nat), .int .u64 (X k 7 : Nat), .int .u64 (X k 8 : Nat), .int .u64 (X k 9 : Nat)]] u fun e w' => e = .returned (.tuple #[.string (SR k), .bool (okS k)]) ∧ Below u.heap.size u w'))
    (HPR : Hid (∀ j, j < sg → ∀ u, Calls Try.prog 48 #[.agg #[.bool big, .bool wide], .agg #[.int .u64 1, .int .u64 0, .int .u64 (X (j % (n + 1)) 4 : Nat), .int .u64 0, .int .u64 0, .int .u64 (segZ X n j : Nat), .int .u64 (segZ X n j : Nat), .int .u64 0]] u fun e w' => e = .returned (.tuple #[.string (PR j), .bool (okP j)]) ∧ Below u.heap.size u w'))
    (HE : Hid (∀ u, Calls Try.prog 49 #[.agg #[.bool big, .bool wide], .agg #[.int .u64 0, .int .u64 0, .int .u64 1, .int .u64 0, .int .u64 (po : Nat), .int .u64 (so : Nat), .int .u64 0, .int .u64 (ehs wide : Nat), .int .u64 (phs wide : Nat), .int .u64 (sg : Nat), .int .u64 (shs wide : Nat), .int .u64 (sn : Nat), .int .u64 (nm : Nat)]] u fun e w' => e = .returned (.tuple #[.string SE, .bool oE]) ∧ Below u.heap.size u w'))
    (HI : Hid (∀ u, Calls Try.prog 25 #[.agg #[.bool big, .bool wide, .int .u8 0, .int .u8 0, .string ⟨#[]⟩]] u fun e w' => e = .returned (.string IDB) ∧ Below u.heap.size u w'))
    (w : World) (hR : RowL w A n g D) :
    Calls Try.prog 14 #[.int .i64 fl, .slice A n cap, .int .i64 (sg : Nat), .int .u64 (nm : Nat)] w fun e w' => e = .returned (.string (((IDB ++ SE) ++ bodyS g D n) ++ tabU (tabU ⟨#[]⟩ SR (n + 1)) PR sg)) ∧ Below w.heap.size w w' := by
  have hbl := fun k => bodyS_le (g := g) hD k
  have hel : eLen wide ≤ 48 := by cases wide <;> decide
  have htl := fun k => tabU_le (T := ⟨#[]⟩) zS k
  have hz0 : (⟨#[]⟩ : ByteArray).size = 0 := rfl
  have htu := fun k => tabU_le (T := tabU ⟨#[]⟩ SR (n + 1)) zP k
  have hb8 : (bodyS g D n).size ≤ 480 := by have := hbl n; omega
  have ht9 : (tabU ⟨#[]⟩ SR (n + 1)).size ≤ 576 := by have := htl (n + 1); rw [hz0] at this; omega
  have ht3 : (tabU (tabU ⟨#[]⟩ SR (n + 1)) PR sg).size ≤ 768 := by have := htu sg; omega
  have SB := Lib.hid (fun k (hk : k < n) u => show (Op.stringOp .add (bodyS g D k) (D k)).run Try.prog u = .ok (.string (bodyS g D k ++ D k)) u from run_string_add_sum u _ _ (by have := hbl k; have := hD k; omega))
  have ST := Lib.hid (fun k (hk : k < n + 1) u => show (Op.stringOp .add (tabU ⟨#[]⟩ SR k) (SR k)).run Try.prog u = .ok (.string (tabU ⟨#[]⟩ SR (k + 1))) u from run_string_add_sum u _ _ (by have := htl k; have := zS k; omega))
  have SU := Lib.hid (fun k (hk : k < sg) u => show (Op.stringOp .add (tabU (tabU ⟨#[]⟩ SR (n + 1)) PR k) (PR k)).run Try.prog u = .ok (.string (tabU (tabU ⟨#[]⟩ SR (n + 1)) PR (k + 1))) u from run_string_add_sum u _ _ (by have := htu k; have := zP k; omega))
  have S1 := Lib.hid (fun u => show (Op.stringOp .add IDB SE).run Try.prog u = .ok (.string (IDB ++ SE)) u from run_string_add_sum u _ _ (by omega))
  have S2 := Lib.hid (fun u => show (Op.stringOp .add (IDB ++ SE) (bodyS g D n)).run Try.prog u = .ok (.string ((IDB ++ SE) ++ bodyS g D n)) u from run_string_add_sum u _ _ (by rw [ByteArray.size_append]; omega))
  have S3 := Lib.hid (fun u => show (Op.stringOp .add ((IDB ++ SE) ++ bodyS g D n) (tabU (tabU ⟨#[]⟩ SR (n + 1)) PR sg)).run Try.prog u = .ok (.string (((IDB ++ SE) ++ bodyS g D n) ++ tabU (tabU ⟨#[]⟩ SR (n + 1)) PR sg)) u from run_string_add_sum u _ _ (by rw [ByteArray.size_append, ByteArray.size_append]; omega))
  have HBD := Lib.hid (fun k (hk : k < n) => show (bodyS g D k).size ≤ 480 from by have := hbl k; omega)
  have HDS := Lib.hid hD; have HSO := Lib.hid hso; have HSN := Lib.hid hsn; have HS0 := Lib.hid hs0; have HX := Lib.hid hX; have HPO := Lib.hid hpo; have HRL := Lib.hid hR
  clear hbl htl htu hz0 zS zP zE zI hso hsn hs0 hX hpo hR hD ht3
  have HFO := Lib.hid (fun u => form11 fl big wide hb hw u)
  clear hb hw
  go_enter Try.func14, Try.ntmps14
  go_upto_region 4 with (go_at_call 24; with_reducible refine (HFO.out _).mono ?_; rintro e w1 ⟨rfl, b1⟩)
  have HF0 := Lib.hid (heap_alloc_new w1 (.cells #[.bool big, .bool wide] 34))
  have HB0 := Lib.hid (b1.alloc b1.size (.cells #[.bool big, .bool wide] 34))
  have hwF : w.heap.size ≤ w1.heap.size := b1.size
  clear b1
  generalize w1.alloc (.cells #[.bool big, .bool wide] 34) = W0 at *
  generalize w1.heap.size = F at *
  have c0 : W0.cell? ⟨F, 0, none⟩ = some (.bool big) := by rw [Lib.cell_of_heap HF0.out]; rfl
  have c1 : W0.cell? ⟨F, 1, none⟩ = some (.bool wide) := by rw [Lib.cell_of_heap HF0.out]; rfl
  have hx : IntKind.u64.wrap (16 + (eLen wide : Int)) = (bg : Int) := by rw [IntKind.wrap_u64]; omega
  go_upto_region 5 with (go_at_call 44; with_reducible refine (esize big wide _).mono ?_; rintro e w2 ⟨rfl, b2⟩)
  rw [show (16 : Int) + (eLen wide : Int) = (bg : Int) by omega]
  have hbg64 : bg ≤ 64 := by omega
  clear hbg
  have HF2 := Lib.hid (heap_low HF0.out b2); have HB2 := Lib.hid (HB0.out.trans (b2.mono HB0.out.size)); clear HF0 HB0 b2 c0 c1 hx
  refine freg5 _ _ _ _ _ _ _ _ _ _ _ _ _ _ _ _ _ _ _ _ _ _ _ _ _ _ _ _ _ _ _ _ _ _ _ _ _ _ _ _ _ _ _ _ _ _ _ _ _ _ _ _ _ _ _ _ _ _ _ _ _ _ _ _ _ _ _ _ _ _ _ _ _ _ _ _ _ _ _ _ _ _ _ _ _ _ _ _ _ _ _ _ _ _ _ _ _ _ _ _ _ _ _ _ _ _ _ _ _ _ _ _ _ _ _ _ _ _ _ _ _ _ _ _ _ _ _ _ _ _ _ _ _ _ _ _ _ _ _ _ _ _ _ _ _ _ _ _ _ _ _ _ _ _ _ _ _ _ _ _ _ _ _ _ _ _ _ _ _ _ _ _ _ _ _ _ _ _ _ _ _ _ _ _ _ _ _ _ _ _ _ _ _ _ _ _ _ _ _ _ _ _ _ big wide F (ehs wide) (phs wide) (shs wide) w2 (by rw [Lib.cell_of_heap HF2.out]; rfl) (by rw [Lib.cell_of_heap HF2.out]; rfl) (Lib.hid (fun u => eplain big wide u)) (fun u33 u34 H w3 hH hWH b3 => ?_)
  have hFH : F < H := Nat.lt_of_lt_of_le (heap_lt HF2.out) hWH
  have HF3 := Lib.hid (heap_low HF2.out b3); have HH3 := Lib.hid hH; have HB3 := Lib.hid (HB2.out.trans (b3.mono HB2.out.size)); clear HF2 HB2 b3 hH hWH
  go_upto_region 6 with (fail)
  refine freg6 _ _ _ _ _ _ _ _ _ _ _ _ _ _ _ _ _ _ _ _ _ _ _ _ _ _ _ _ _ _ _ _ _ _ _ _ _ _ _ _ _ _ _ _ _ _ _ _ _ _ _ _ _ _ _ _ _ _ _ _ _ _ _ _ _ _ _ _ _ _ _ _ _ _ _ _ _ _ _ _ _ _ _ _ _ _ _ _ _ _ _ _ _ _ _ _ _ _ _ _ _ _ _ _ _ _ _ _ _ _ _ _ _ _ _ _ _ _ _ _ _ _ _ _ _ _ _ _ _ _ _ _ _ _ _ _ _ _ _ _ _ _ _ _ _ _ _ _ _ _ _ _ _ _ _ _ _ _ _ _ _ _ _ _ _ _ _ _ _ _ _ _ _ _ _ _ _ _ _ _ _ _ _ _ _ _ _ _ _ _ _ _ _ _ _ _ _ _ _ _ _ _ H n cap (n + 1) (ehs wide) (phs wide) (shs wide) A w3 HH3.out (by rw [IntKind.wrap_i64]; omega) (by rw [IntKind.wrap_u64]; omega) (fun u35 u36 u37 u38 u39 w4 hH o4 => ?_)
  have HF4 := Lib.hid (heap_only HF3.out o4 (by omega)); have HH4 := Lib.hid hH; have HB4 := Lib.hid (HB3.out.trans (o4.below HB3.out.size (by omega))); clear HF3 HH3 HB3 o4 hH
  go_upto_if 43 with (fail)
  have HF5 := Lib.hid (heap_up (.cells #[.int .u64 0, .int .u64 0, .int .u64 0, .int .u64 0, .int .u64 0, .int .u64 0, .int .u64 0, .int .u64 0, .int .u64 0, .int .u64 0] 52) HF4.out); have HH5 := Lib.hid (heap_up (.cells #[.int .u64 0, .int .u64 0, .int .u64 0, .int .u64 0, .int .u64 0, .int .u64 0, .int .u64 0, .int .u64 0, .int .u64 0, .int .u64 0] 52) HH4.out); have HB5 := Lib.hid (below_more HB4.out (.cells #[.int .u64 0, .int .u64 0, .int .u64 0, .int .u64 0, .int .u64 0, .int .u64 0, .int .u64 0, .int .u64 0, .int .u64 0, .int .u64 0] 52)); have HX5 := Lib.hid (heap_alloc_new w4 (.cells #[.int .u64 0, .int .u64 0, .int .u64 0, .int .u64 0, .int .u64 0, .int .u64 0, .int .u64 0, .int .u64 0, .int .u64 0, .int .u64 0] 52))
  have hHx : H < w4.heap.size := heap_lt HH4.out
  have hxs : w4.heap.size < (w4.alloc (.cells #[.int .u64 0, .int .u64 0, .int .u64 0, .int .u64 0, .int .u64 0, .int .u64 0, .int .u64 0, .int .u64 0, .int .u64 0, .int .u64 0] 52)).heap.size := by simp
  generalize w4.alloc (.cells #[.int .u64 0, .int .u64 0, .int .u64 0, .int .u64 0, .int .u64 0, .int .u64 0, .int .u64 0, .int .u64 0, .int .u64 0, .int .u64 0] 52) = w5 at *
  generalize w4.heap.size = xx at *
  clear HF4 HH4 HB4 hb4
  go_cut [] (fun wr => wr.heap[F]? = some (.cells #[.bool big, .bool wide] 34 (0, 0)) ∧ wr.heap[H]? = some (.cells #[.int .u64 0, .int .u64 0, .int .u64 1, .int .u64 0, .int .u64 0, .int .u64 0, .int .u64 0, .int .u64 (ehs wide : Nat), .int .u64 (phs wide : Nat), .int .u64 0, .int .u64 (shs wide : Nat), .int .u64 (sn : Nat), .int .u64 0] 38 (0, 0)) ∧ wr.heap[xx]? = some (.cells #[.int .u64 (X 0 0 : Nat), .int .u64 (X 0 1 : Nat), .int .u64 (X 0 2 : Nat), .int .u64 (X 0 3 : Nat), .int .u64 (X 0 4 : Nat), .int .u64 (X 0 5 : Nat), .int .u64 (X 0 6 : Nat), .int .u64 (X 0 7 : Nat), .int .u64 (X 0 8 : Nat), .int .u64 (X 0 9 : Nat)] 52 (0, 0)) ∧ Below w.heap.size w wr)
  case first =>
    cases b4 with
    | true =>
      have es : sn = 0 := HSN.out
      have e0 : s0 = n + 1 := HS0.out
      have hrx : ∀ wr : World, wr.heap[xx]? = some (.cells #[.int .u64 0, .int .u64 0, .int .u64 0, .int .u64 0, .int .u64 0, .int .u64 ((n + 1) : Nat), .int .u64 0, .int .u64 0, .int .u64 0, .int .u64 0] 52 (0, 0)) → wr.heap[xx]? = some (.cells #[.int .u64 (X 0 0 : Nat), .int .u64 (X 0 1 : Nat), .int .u64 (X 0 2 : Nat), .int .u64 (X 0 3 : Nat), .int .u64 (X 0 4 : Nat), .int .u64 (X 0 5 : Nat), .int .u64 (X 0 6 : Nat), .int .u64 (X 0 7 : Nat), .int .u64 (X 0 8 : Nat), .int .u64 (X 0 9 : Nat)] 52 (0, 0)) := fun wr h => by rw [HX.out, e0]; exact h
      have HRX := Lib.hid hrx
      subst es
      clear hrx e0
      go_upto_region 9 with (fail)
      refine freg9 _ _ _ _ _ _ _ _ _ _ _ _ _ _ _ _ _ _ _ _ _ _ _ _ _ _ _ _ _ _ _ _ _ _ _ _ _ _ _ _ _ _ _ _ _ _ _ _ _ _ _ _ _ _ _ _ _ _ _ _ _ _ _ _ _ _ _ _ _ _ _ _ _ _ _ _ _ _ _ _ _ _ _ _ _ _ _ _ _ _ _ _ _ _ _ _ _ _ _ _ _ _ _ _ _ _ _ _ _ _ _ _ _ _ _ _ _ _ _ _ _ _ _ _ _ _ _ _ _ _ _ _ _ _ _ _ _ _ _ _ _ _ _ _ _ _ _ _ _ _ _ _ _ _ _ _ _ _ _ _ _ _ _ _ _ _ _ _ _ _ _ _ _ _ _ _ _ _ _ _ _ _ _ _ _ _ _ _ _ _ _ _ _ _ _ _ _ _ _ _ _ _ H xx (n + 1) w5 (by rw [Lib.cell_of_heap HH5.out]; rfl) HX5.out (fun u44 u45 u46 w6 hX6 o6 => ?_)
      have HF6 := Lib.hid (heap_only HF5.out o6 (by omega)); have HH6 := Lib.hid (heap_only HH5.out o6 (by omega)); have HB6 := Lib.hid (HB5.out.trans (o6.below HB5.out.size (by omega))); have HX6 := Lib.hid hX6; clear o6 hX6
      go_upto_region 10 with (fail)
      refine freg10 _ _ _ _ _ _ _ _ _ _ _ _ _ _ _ _ _ _ _ _ _ _ _ _ _ _ _ _ _ _ _ _ _ _ _ _ _ _ _ _ _ _ _ _ _ _ _ _ _ _ _ _ _ _ _ _ _ _ _ _ _ _ _ _ _ _ _ _ _ _ _ _ _ _ _ _ _ _ _ _ _ _ _ _ _ _ _ _ _ _ _ _ _ _ _ _ _ _ _ _ _ _ _ _ _ _ _ _ _ _ _ _ _ _ _ _ _ _ _ _ _ _ _ _ _ _ _ _ _ _ _ _ _ _ _ _ _ _ _ _ _ _ _ _ _ _ _ _ _ _ _ _ _ _ _ _ _ _ _ _ _ _ _ _ _ _ _ _ _ _ _ _ _ _ _ _ _ _ _ _ _ _ _ _ _ _ _ _ _ _ _ _ _ _ _ _ _ _ _ _ _ _ _ H (ehs wide) (phs wide) (shs wide) 0 0 0 (n + 1) 0 w6 HH6.out (fun u47 w7 hH7 o7 => ?_)
      have HF7 := Lib.hid (heap_only HF6.out o7 (by omega)); have HX7 := Lib.hid (HRX.out _ (heap_only HX6.out o7 (by omega))); have HB7 := Lib.hid (HB6.out.trans (o7.below HB6.out.size (by omega))); have HH7 := Lib.hid hH7; clear o7 hH7
      go_wp2
      go_meet
      case rel => exact ⟨HF7.out, HH7.out, HX7.out, HB7.out⟩
    | false =>
      have es : n + 1 = sn := HSN.out.symm
      have e0 : s0 = 0 := HS0.out
      have HRX := Lib.hid (show w5.heap[xx]? = some (.cells #[.int .u64 (X 0 0 : Nat), .int .u64 (X 0 1 : Nat), .int .u64 (X 0 2 : Nat), .int .u64 (X 0 3 : Nat), .int .u64 (X 0 4 : Nat), .int .u64 (X 0 5 : Nat), .int .u64 (X 0 6 : Nat), .int .u64 (X 0 7 : Nat), .int .u64 (X 0 8 : Nat), .int .u64 (X 0 9 : Nat)] 52 (0, 0)) by rw [HX.out, e0]; exact HX5.out)
      have HH5b := Lib.hid (show w5.heap[H]? = some (.cells #[.int .u64 0, .int .u64 0, .int .u64 1, .int .u64 0, .int .u64 0, .int .u64 0, .int .u64 0, .int .u64 (ehs wide : Nat), .int .u64 (phs wide : Nat), .int .u64 0, .int .u64 (shs wide : Nat), .int .u64 (sn : Nat), .int .u64 0] 38 (0, 0)) by rw [← es]; exact HH5.out)
      clear es e0
      go_wp2
      go_meet
      case rel => exact ⟨HF5.out, HH5b.out, HRX.out, HB5.out⟩
  case rest =>
    rename World => wa
    obtain ⟨hf, hh, hx, hb⟩ := hcut
    have HFa := Lib.hid hf; have HHa := Lib.hid hh; have HXa := Lib.hid hx; have HBa := Lib.hid hb; clear hf hh hx hb HF5 HH5 HB5 HX5 hxs
    go_upto_region 11 with (fail)
    have hxa : xx < wa.heap.size := heap_lt HXa.out
    obtain ⟨base, hbase⟩ : ∃ base, base = wa.heap.size := ⟨_, rfl⟩
    refine freg11 _ _ _ _ _ _ _ _ _ _ _ _ _ _ _ _ _ _ _ _ _ _ _ _ _ _ _ _ _ _ _ _ _ _ _ _ _ _ _ _ _ _ _ _ _ _ _ _ _ _ _ _ _ _ _ _ _ _ _ _ _ _ _ _ _ _ _ _ _ _ _ _ _ _ _ _ _ _ _ _ _ _ _ _ _ _ _ _ _ _ _ _ _ _ _ _ _ _ _ _ _ _ _ _ _ _ _ _ _ _ _ _ _ _ _ _ _ _ _ _ _ _ _ _ _ _ _ _ _ _ _ _ _ _ _ _ _ _ _ _ _ _ _ _ _ _ _ _ _ _ _ _ _ _ _ _ _ _ _ _ _ _ _ _ _ _ _ _ _ _ _ _ _ _ _ _ _ _ _ _ _ _ _ _ _ _ _ _ _ _ _ _ _ _ _ _ _ _ _ _ _ _ xx base 0 _ [] (X 0) w wa HXa.out (World.ownsRow_nil _ _ _ _) (by omega) HBa.out (by have := HBa.out.size; omega) (by omega) (fun u48 u49 u50 u51 v1 w8 hown hb1 hb2 _ => ?_)
    have hFb : F < base := by omega
    have hHb : H < base := by omega
    have HG8 := Lib.hid (show Gf w base F H big wide 0 0 0 sn 0 v1 1 X w8 from ⟨heap_low' HFa.out hb2 hFb, heap_low' HHa.out hb2 hHb, hb1, by rw [xsL_succ]; exact hown⟩)
    have hb88 : base ≤ w8.heap.size := by have := hb2.size; omega
    clear hown hb1 hb2 HFa HHa HXa HBa hxa hbase
    go_wp2
    go_loopw [10, 11, 15] (fun v t i wr => ∃ k : Nat, k ≤ n ∧ i = .int .i64 (k : Int) ∧ t = .string (bodyS g D k) ∧ Gf w base F H big wide 0 0 0 sn 0 v (k + 1) X wr ∧ base ≤ wr.heap.size) (fun _ _ i _ => n - (intOf i).toNat)
    case atStart => exact ⟨0, Nat.zero_le _, rfl, rfl, HG8.out, hb88⟩
    case round =>
      obtain ⟨k, hk, rfl, rfl, hG, hbs⟩ := hrel
      have HG := Lib.hid hG; clear hG HG8
      have hFw : F < _ := heap_lt HG.out.f
      by_cases hlt : k < n
      · obtain ⟨bb, o, rfl, hbl, hg7, hd7⟩ := (HRL.out.low HG.out.b) k hlt
        have HG7 := Lib.hid hg7; have HD7 := Lib.hid hd7; clear hg7 hd7
        have k0 : (0 : Int) ≤ (k : Int) := by omega
        have k1 : (k : Int) < (n : Int) := by omega
        have k2 : k + 1 ≤ 1048576 := by omega
        have hbk := HBD.out k hlt
        have hdk := HDS.out k
        go_upto_region 15 with (fail)
        refine freg15 _ _ _ _ _ _ _ _ _ _ _ _ _ _ _ _ _ _ _ _ _ _ _ _ _ _ _ _ _ _ _ _ _ _ _ _ _ _ _ _ _ _ _ _ _ _ _ _ _ _ _ _ _ _ _ _ _ _ _ _ _ _ _ _ _ _ _ _ _ _ _ _ _ _ _ _ _ _ _ _ _ _ _ _ _ _ _ _ _ _ _ _ _ _ _ _ _ _ _ _ _ _ _ _ _ _ _ _ _ _ _ _ _ _ _ _ _ _ _ _ _ _ _ _ _ _ _ _ _ _ _ _ _ _ _ _ _ _ _ _ _ _ _ _ _ _ _ _ _ _ _ _ _ _ _ _ _ _ _ _ _ _ _ _ _ _ _ _ _ _ _ _ _ _ _ _ _ _ _ _ _ _ _ _ _ _ _ _ _ _ _ _ _ _ _ _ _ _ _ _ bb o n cap k bg (bg + (bodyS g D k).size) (g k 0) (g k 1) (g k 2) (g k 3) (g k 4) (g k 5) (g k 6) (bodyS g D k) (D k) _ k0 k1 (Lib.hid (fun u hu => (hu.cell (p := ⟨bb, _, none⟩) hbl).trans (HG7.out 0 (by decide)))) (Lib.hid (fun u hu => (hu.cell (p := ⟨bb, _, none⟩) hbl).trans (HG7.out 1 (by decide)))) (Lib.hid (fun u hu => (hu.cell (p := ⟨bb, _, none⟩) hbl).trans (HG7.out 2 (by decide)))) (Lib.hid (fun u hu => (hu.cell (p := ⟨bb, _, none⟩) hbl).trans (HG7.out 3 (by decide)))) (Lib.hid (fun u hu => (hu.cell (p := ⟨bb, _, none⟩) hbl).trans (HG7.out 4 (by decide)))) (Lib.hid (fun u hu => (hu.cell (p := ⟨bb, _, none⟩) hbl).trans (HG7.out 5 (by decide)))) (Lib.hid (fun u hu => (hu.cell (p := ⟨bb, _, none⟩) hbl).trans (HG7.out 6 (by decide)))) (Lib.hid (fun u hu => (hu.cell (p := ⟨bb, _, none⟩) hbl).trans HD7.out)) (by rw [IntKind.wrap_u64]; omega) (by rw [IntKind.wrap_u64]; omega) (by rw [IntKind.wrap_u64]; omega) (fun _ _ _ _ _ h => h) (fun u58 u59 u60 u61 u62 u63 u64 u65 u66 u67 u68 u69 u70 u71 u72 u73 u74 u75 u76 u77 u78 u79 u80 u81 u82 u83 u84 u85 u86 u87 u88 u89 u90 u91 u92 u93 u94 u95 u96 u97 u98 u99 u100 u101 u102 u103 u104 u105 xr w9 hX9 hxr b9 => ?_)
        have hrec : w9.heap[xr]? = some (.cells #[.int .u64 (X (k + 1) 0 : Nat), .int .u64 (X (k + 1) 1 : Nat), .int .u64 (X (k + 1) 2 : Nat), .int .u64 (X (k + 1) 3 : Nat), .int .u64 (X (k + 1) 4 : Nat), .int .u64 (X (k + 1) 5 : Nat), .int .u64 (X (k + 1) 6 : Nat), .int .u64 (X (k + 1) 7 : Nat), .int .u64 (X (k + 1) 8 : Nat), .int .u64 (X (k + 1) 9 : Nat)] 52 (0, 0)) := by rw [HX.out]; exact hX9
        have HRC := Lib.hid hrec; have HG9 := Lib.hid (HG.out.low b9)
        have hbs9 := Nat.le_trans hbs b9.size
        have hne := own_lt HG.out.x
        clear hrec hX9 b9 HG7 HD7 hbl
        go_upto_region 16 with (fail)
        refine freg16 _ _ _ _ _ _ _ _ _ _ _ _ _ _ _ _ _ _ _ _ _ _ _ _ _ _ _ _ _ _ _ _ _ _ _ _ _ _ _ _ _ _ _ _ _ _ _ _ _ _ _ _ _ _ _ _ _ _ _ _ _ _ _ _ _ _ _ _ _ _ _ _ _ _ _ _ _ _ _ _ _ _ _ _ _ _ _ _ _ _ _ _ _ _ _ _ _ _ _ _ _ _ _ _ _ _ _ _ _ _ _ _ _ _ _ _ _ _ _ _ _ _ _ _ _ _ _ _ _ _ _ _ _ _ _ _ _ _ _ _ _ _ _ _ _ _ _ _ _ _ _ _ _ _ _ _ _ _ _ _ _ _ _ _ _ _ _ _ _ _ _ _ _ _ _ _ _ _ _ _ _ _ _ _ _ _ _ _ _ _ _ _ _ _ _ _ _ _ _ _ _ _ xr base (k + 1) _ (xsL X (k + 1)) (X (k + 1)) w w9 HRC.out HG9.out.x hbs9 HG9.out.b (by omega) (by omega) (fun u106 u107 u108 u109 v2 w10 hown hb1 hb2 hkeep => ?_)
        have hX10 := hkeep (fun e => by have := hne _ e; omega)
        have HG10 := Lib.hid (show Gf w base F H big wide 0 0 0 sn 0 v2 (k + 1 + 1) X w10 from ⟨heap_low' HG9.out.f hb2 hFb, heap_low' HG9.out.h hb2 hHb, hb1, by rw [xsL_succ X (k + 1)]; exact hown⟩)
        have hbs10 := Nat.le_trans hbs9 hb2.size
        have HX10 := Lib.hid hX10
        clear hown hb1 hb2 hkeep hX10 hne HG9 HRC hxr HG
        have hX1 : X (k + 1) 1 = g k 1 := by rw [HX.out]; rfl
        go_upto_region 17 with (fail)
        refine freg17 _ _ _ _ _ _ _ _ _ _ _ _ _ _ _ _ _ _ _ _ _ _ _ _ _ _ _ _ _ _ _ _ _ _ _ _ _ _ _ _ _ _ _ _ _ _ _ _ _ _ _ _ _ _ _ _ _ _ _ _ _ _ _ _ _ _ _ _ _ _ _ _ _ _ _ _ _ _ _ _ _ _ _ _ _ _ _ _ _ _ _ _ _ _ _ _ _ _ _ _ _ _ _ _ _ _ _ _ _ _ _ _ _ _ _ _ _ _ _ _ _ _ _ _ _ _ _ _ _ _ _ _ _ _ _ _ _ _ _ _ _ _ _ _ _ _ _ _ _ _ _ _ _ _ _ _ _ _ _ _ _ _ _ _ _ _ _ _ _ _ _ _ _ _ _ _ _ _ _ _ _ _ _ _ _ _ _ _ _ _ _ _ _ _ _ _ _ _ _ _ _ _ _ xr (X (k + 1)) (decide (g k 1 ≠ 0 ∧ g k 1 ≠ 8)) w10 HX10.out (Lib.hid (fun u => (hasdata_any (X (k + 1) 0) (X (k + 1) 1) (X (k + 1) 2) (X (k + 1) 3) (X (k + 1) 4) (X (k + 1) 5) (X (k + 1) 6) (X (k + 1) 7) (X (k + 1) 8) (X (k + 1) 9) u).mono (fun e w' h => ⟨by rw [h.1]; simp only [hX1], h.2⟩))) (fun u110 w11 b11 => ?_)
        have HG11 := Lib.hid (HG10.out.low b11); have hbs11 := Nat.le_trans hbs10 b11.size
        clear b11 hX1 HG10 HX10
        have sx := SB.out k hlt
        have SX := Lib.hid sx; clear sx
        by_cases hd : g k 1 ≠ 0 ∧ g k 1 ≠ 8
        · rw [decide_eq_true hd]
          have HBE := Lib.hid (show bodyS g D k ++ D k = bodyS g D (k + 1) by show _ = (if g k 1 ≠ 0 ∧ g k 1 ≠ 8 then bodyS g D k ++ D k else bodyS g D k); rw [if_pos hd])
          obtain ⟨bb2, o2, e2, hbl2, _, hd72⟩ := (HRL.out.low HG11.out.b) k hlt
          cases e2
          clear hd
          have sx := SX.out
          go_wp2
          refine ⟨⟨k + 1, by omega, by go_num, by rw [HBE.out], HG11.out, hbs11⟩, by simp [intOf]; omega⟩
        · rw [decide_eq_false hd]
          have HBE := Lib.hid (show bodyS g D k = bodyS g D (k + 1) by show _ = (if g k 1 ≠ 0 ∧ g k 1 ≠ 8 then bodyS g D k ++ D k else bodyS g D k); rw [if_neg hd])
          clear hd
          go_wp2
          refine ⟨⟨k + 1, by omega, by go_num, by rw [← HBE.out], HG11.out, hbs11⟩, by simp [intOf]; omega⟩
      · obtain rfl : k = n := by omega
        obtain ⟨gb, cx, rfl, hgb, hgbase, _⟩ := own_range HG.out.x (by omega)
        go_upto_region 19 with (fail)
        refine freg19 _ _ _ _ _ _ _ _ _ _ _ _ _ _ _ _ _ _ _ _ _ _ _ _ _ _ _ _ _ _ _ _ _ _ _ _ _ _ _ _ _ _ _ _ _ _ _ _ _ _ _ _ _ _ _ _ _ _ _ _ _ _ _ _ _ _ _ _ _ _ _ _ _ _ _ _ _ _ _ _ _ _ _ _ _ _ _ _ _ _ _ _ _ _ _ _ _ _ _ _ _ _ _ _ _ _ _ _ _ _ _ _ _ _ _ _ _ _ _ _ _ _ _ _ _ _ _ _ _ _ _ _ _ _ _ _ _ _ _ _ _ _ _ _ _ _ _ _ _ _ _ _ _ _ _ _ _ _ _ _ _ _ _ _ _ _ _ _ _ _ _ _ _ _ _ _ _ _ _ _ _ _ _ _ _ _ _ _ _ _ _ _ _ _ _ _ _ _ _ _ _ bg so (bodyS g D k) H (ehs wide) (phs wide) (shs wide) 0 0 0 sn 0 _ HG.out.h (by rw [IntKind.wrap_u64]; omega) (by have := HSO.out; rw [IntKind.wrap_u64]; omega) (fun u119 u120 u121 u122 u123 u124 w12 hH12 o12 => ?_)
        have HG12 := Lib.hid (HG.out.head (po2 := 0) (so2 := so) (pn2 := 0) (sn2 := sn) (nm2 := 0) hH12 o12 hFH hHb (by omega))
        clear hH12 o12 HG hbs hFw
        go_upto_region 20 with (fail)
        refine freg20 _ _ _ _ _ _ _ _ _ _ _ _ _ _ _ _ _ _ _ _ _ _ _ _ _ _ _ _ _ _ _ _ _ _ _ _ _ _ _ _ _ _ _ _ _ _ _ _ _ _ _ _ _ _ _ _ _ _ _ _ _ _ _ _ _ _ _ _ _ _ _ _ _ _ _ _ _ _ _ _ _ _ _ _ _ _ _ _ _ _ _ _ _ _ _ _ _ _ _ _ _ _ _ _ _ _ _ _ _ _ _ _ _ _ _ _ _ _ _ _ _ _ _ _ _ _ _ _ _ _ _ _ _ _ _ _ _ _ _ _ _ _ _ _ _ _ _ _ _ _ _ _ _ _ _ _ _ _ _ _ _ _ _ _ _ _ _ _ _ _ _ _ _ _ _ _ _ _ _ _ _ _ _ _ _ _ _ _ _ _ _ _ _ _ _ _ _ _ _ _ _ _ nm H (ehs wide) (phs wide) (shs wide) 0 so 0 sn 0 w12 HG12.out.h (fun u125 u126 w13 hH13 o13 => ?_)
        have HG13 := Lib.hid (HG12.out.head (po2 := 0) (so2 := so) (pn2 := 0) (sn2 := sn) (nm2 := nm) hH13 o13 hFH hHb (by omega))
        clear hH13 o13 HG12
        go_wp2
        go_loopw [17, 18] (fun t i wr => ∃ j : Nat, j ≤ k + 1 ∧ i = .int .i64 (j : Int) ∧ t = .string (tabU ⟨#[]⟩ SR j) ∧ Gf w base F H big wide 0 so 0 sn nm (.slice (some ⟨gb, 0, none⟩) (k + 1) cx) (k + 1) X wr) (fun _ i _ => k + 1 - (intOf i).toNat)
        case atStart => exact ⟨0, Nat.zero_le _, rfl, rfl, HG13.out⟩
        case round =>
          obtain ⟨j, hj, rfl, rfl, hG⟩ := hrel
          have HG := Lib.hid hG; clear hG HG13
          by_cases hlt : j < k + 1
          · have k0 : (0 : Int) ≤ (j : Int) := by omega
            have k1 : (j : Int) < ((k + 1 : Nat) : Int) := by omega
            have k2 : j + 1 ≤ 1048576 := by omega
            go_upto_region 25 with (fail)
            refine freg25 _ _ _ _ _ _ _ _ _ _ _ _ _ _ _ _ _ _ _ _ _ _ _ _ _ _ _ _ _ _ _ _ _ _ _ _ _ _ _ _ _ _ _ _ _ _ _ _ _ _ _ _ _ _ _ _ _ _ _ _ _ _ _ _ _ _ _ _ _ _ _ _ _ _ _ _ _ _ _ _ _ _ _ _ _ _ _ _ _ _ _ _ _ _ _ _ _ _ _ _ _ _ _ _ _ _ _ _ _ _ _ _ _ _ _ _ _ _ _ _ _ _ _ _ _ _ _ _ _ _ _ _ _ _ _ _ _ _ _ _ _ _ _ _ _ _ _ _ _ _ _ _ _ _ _ _ _ _ _ _ _ _ _ _ _ _ _ _ _ _ _ _ _ _ _ _ _ _ _ _ _ _ _ _ _ _ _ _ _ _ _ _ _ _ _ _ _ _ _ _ _ big wide F gb 0 (k + 1) cx j (X j) (SR j) (okS j) _ k0 k1 (Lib.hid (fun u hu => (HG.out.low hu).c0)) (Lib.hid (fun u hu => (HG.out.low hu).c1)) (Lib.hid (fun u hu => range10 (fun i hi => own_cells (HG.out.low hu).x j hlt i hi))) (Lib.hid (HSR.out j hlt)) (fun _ _ _ _ _ h => h) (fun u133 u134 u135 u136 u137 u138 u139 u140 u141 w14 b14 => ?_)
            have HG14 := Lib.hid (HG.out.low b14); clear b14 HG
            have sx := ST.out j hlt
            go_wp2
            exact ⟨⟨j + 1, by omega, by go_num, rfl, HG14.out⟩, by simp [intOf]; omega⟩
          · obtain rfl : j = k + 1 := by omega
            obtain ⟨T1, hT1⟩ : ∃ T, T = tabU ⟨#[]⟩ SR (k + 1) := ⟨_, rfl⟩
            rw [← hT1] at ht9 SU S3 HPO ⊢
            have HT1 := Lib.hid hT1; clear hT1
            go_upto_region 27 with (fail)
            refine freg27 _ _ _ _ _ _ _ _ _ _ _ _ _ _ _ _ _ _ _ _ _ _ _ _ _ _ _ _ _ _ _ _ _ _ _ _ _ _ _ _ _ _ _ _ _ _ _ _ _ _ _ _ _ _ _ _ _ _ _ _ _ _ _ _ _ _ _ _ _ _ _ _ _ _ _ _ _ _ _ _ _ _ _ _ _ _ _ _ _ _ _ _ _ _ _ _ _ _ _ _ _ _ _ _ _ _ _ _ _ _ _ _ _ _ _ _ _ _ _ _ _ _ _ _ _ _ _ _ _ _ _ _ _ _ _ _ _ _ _ _ _ _ _ _ _ _ _ _ _ _ _ _ _ _ _ _ _ _ _ _ _ _ _ _ _ _ _ _ _ _ _ _ _ _ _ _ _ _ _ _ _ _ _ _ _ _ _ _ _ _ _ _ _ _ _ _ _ _ _ _ _ _ sg H (ehs wide) (phs wide) (shs wide) 0 so 0 sn nm _ HG.out.h (by rw [IntKind.wrap_u64]; omega) (fun u145 u146 u147 w15 hH15 o15 => ?_)
            have HG15 := Lib.hid (HG.out.head (po2 := 0) (so2 := so) (pn2 := sg) (sn2 := sn) (nm2 := nm) hH15 o15 hFH hHb (by omega))
            clear hH15 o15 HG
            go_upto_if 149 with (fail)
            go_cut [] (fun wr => Gf w base F H big wide po so sg sn nm (.slice (some ⟨gb, 0, none⟩) (k + 1) cx) (k + 1) X wr)
            case first =>
              by_cases hs : 0 < sg
              · have y : decide (0 < sg) = true := decide_eq_true hs
                have hpo : po = so + T1.size := by rw [HPO.out, if_pos hs]
                have hso2 := HSO.out
                go_upto_region 29 with (fail)
                refine freg29 _ _ _ _ _ _ _ _ _ _ _ _ _ _ _ _ _ _ _ _ _ _ _ _ _ _ _ _ _ _ _ _ _ _ _ _ _ _ _ _ _ _ _ _ _ _ _ _ _ _ _ _ _ _ _ _ _ _ _ _ _ _ _ _ _ _ _ _ _ _ _ _ _ _ _ _ _ _ _ _ _ _ _ _ _ _ _ _ _ _ _ _ _ _ _ _ _ _ _ _ _ _ _ _ _ _ _ _ _ _ _ _ _ _ _ _ _ _ _ _ _ _ _ _ _ _ _ _ _ _ _ _ _ _ _ _ _ _ _ _ _ _ _ _ _ _ _ _ _ _ _ _ _ _ _ _ _ _ _ _ _ _ _ _ _ _ _ _ _ _ _ _ _ _ _ _ _ _ _ _ _ _ _ _ _ _ _ _ _ _ _ _ _ _ _ _ _ _ _ _ _ _ po T1 H (ehs wide) (phs wide) (shs wide) 0 so sg sn nm w15 HG15.out.h (by rw [Lib.cell_of_heap HG15.out.h]; rfl) (by rw [IntKind.wrap_u64]; omega) (by rw [IntKind.wrap_u64]; omega) (fun u150 u151 u152 u153 u154 u155 u156 w16 hH16 o16 => ?_)
                have HG16 := Lib.hid (HG15.out.head (po2 := po) (so2 := so) (pn2 := sg) (sn2 := sn) (nm2 := nm) hH16 o16 hFH hHb (by omega))
                clear hH16 o16 hpo hso2 hs
                go_wp2
                go_meet
                case rel => exact HG16.out
              · have y : decide (0 < sg) = false := decide_eq_false hs
                have y2 : ¬ (0 : Int) < (sg : Int) := by omega
                have y3 : ¬ 0 < sg := hs
                have hpo : po = 0 := by rw [HPO.out, if_neg hs]
                have HG16 := Lib.hid (show Gf w base F H big wide po so sg sn nm (.slice (some ⟨gb, 0, none⟩) (k + 1) cx) (k + 1) X w15 by rw [hpo]; exact HG15.out)
                clear hpo hs
                go_wp2
                go_meet
                case rel => exact HG16.out
            case rest =>
              have HG17 := Lib.hid hcut; clear hcut HG15
              go_wp2
              go_loopw [17, 21] (fun t i wr => ∃ j : Nat, j ≤ sg ∧ i = .int .i64 (j : Int) ∧ t = .string (tabU T1 PR j) ∧ Gf w base F H big wide po so sg sn nm (.slice (some ⟨gb, 0, none⟩) (k + 1) cx) (k + 1) X wr) (fun _ i _ => sg - (intOf i).toNat)
              case atStart => exact ⟨0, Nat.zero_le _, rfl, rfl, HG17.out⟩
              case round =>
                obtain ⟨j, hj, rfl, rfl, hG⟩ := hrel
                have HG := Lib.hid hG; clear hG HG17
                by_cases hlt : j < sg
                · have k0 : (0 : Int) ≤ (j : Int) := by omega
                  have k1 : (j : Int) < (sg : Int) := by omega
                  have k2 : j + 1 ≤ 1048576 := by omega
                  obtain ⟨q, hq⟩ : ∃ q, q = j % (k + 1) := ⟨_, rfl⟩
                  have hql : q < k + 1 := by rw [hq]; exact Nat.mod_lt _ (by omega)
                  have HPj := HPR.out j hlt
                  have hsz : segZ X k j = if X q 1 ≠ 0 ∧ X q 1 ≠ 8 then X q 5 else 0 := by unfold segZ; rw [← hq]
                  rw [← hq] at HPj
                  obtain ⟨sz, hsz2⟩ : ∃ sz, sz = segZ X k j := ⟨_, rfl⟩
                  rw [← hsz2] at HPj hsz
                  have HPJ := Lib.hid HPj; have HSZ := Lib.hid hsz; clear HPj hsz hsz2
                  have em : (j : Int) % ((k + 1 : Nat) : Int) = (q : Int) := by rw [hq]; simp
                  have et : (j : Int).tmod ((k + 1 : Nat) : Int) = (q : Int) := by rw [Int.tmod_eq_emod_of_nonneg (by omega)]; exact em
                  have hcs := fun i hi => own_cells HG.out.x q hql i hi
                  have HCS := Lib.hid hcs; clear hcs hq
                  go_upto_region 33 with (fail)
                  refine freg33 _ _ _ _ _ _ _ _ _ _ _ _ _ _ _ _ _ _ _ _ _ _ _ _ _ _ _ _ _ _ _ _ _ _ _ _ _ _ _ _ _ _ _ _ _ _ _ _ _ _ _ _ _ _ _ _ _ _ _ _ _ _ _ _ _ _ _ _ _ _ _ _ _ _ _ _ _ _ _ _ _ _ _ _ _ _ _ _ _ _ _ _ _ _ _ _ _ _ _ _ _ _ _ _ _ _ _ _ _ _ _ _ _ _ _ _ _ _ _ _ _ _ _ _ _ _ _ _ _ _ _ _ _ _ _ _ _ _ _ _ _ _ _ _ _ _ _ _ _ _ _ _ _ _ _ _ _ _ _ _ _ _ _ _ _ _ _ _ _ _ _ _ _ _ _ _ _ _ _ _ _ _ _ _ _ _ _ _ _ _ _ _ _ _ _ _ _ _ _ _ _ _ gb 0 (k + 1) cx j q (X q) _ (by omega) (by omega) em et (by simp <;> omega) (by omega) (by rw [Nat.zero_add]; exact HCS.out 0 (by decide)) (by rw [Nat.zero_add]; exact HCS.out 1 (by decide)) (by rw [Nat.zero_add]; exact HCS.out 2 (by decide)) (by rw [Nat.zero_add]; exact HCS.out 3 (by decide)) (by rw [Nat.zero_add]; exact HCS.out 4 (by decide)) (by rw [Nat.zero_add]; exact HCS.out 5 (by decide)) (by rw [Nat.zero_add]; exact HCS.out 6 (by decide)) (by rw [Nat.zero_add]; exact HCS.out 7 (by decide)) (by rw [Nat.zero_add]; exact HCS.out 8 (by decide)) (by rw [Nat.zero_add]; exact HCS.out 9 (by decide)) (fun u162 u163 u164 u165 u166 u167 u168 y w18 hY hyw b18 => ?_)
                  have HY := Lib.hid hY; have HB18 := Lib.hid b18; clear hY b18 HCS em et
                  go_upto_region 34 with (fail)
                  refine freg34 _ _ _ _ _ _ _ _ _ _ _ _ _ _ _ _ _ _ _ _ _ _ _ _ _ _ _ _ _ _ _ _ _ _ _ _ _ _ _ _ _ _ _ _ _ _ _ _ _ _ _ _ _ _ _ _ _ _ _ _ _ _ _ _ _ _ _ _ _ _ _ _ _ _ _ _ _ _ _ _ _ _ _ _ _ _ _ _ _ _ _ _ _ _ _ _ _ _ _ _ _ _ _ _ _ _ _ _ _ _ _ _ _ _ _ _ _ _ _ _ _ _ _ _ _ _ _ _ _ _ _ _ _ _ _ _ _ _ _ _ _ _ _ _ _ _ _ _ _ _ _ _ _ _ _ _ _ _ _ _ _ _ _ _ _ _ _ _ _ _ _ _ _ _ _ _ _ _ _ _ _ _ _ _ _ _ _ _ _ _ _ _ _ _ _ _ _ _ _ _ _ _ _ y (X q) (decide (X q 1 ≠ 0 ∧ X q 1 ≠ 8)) w18 HY.out (Lib.hid (fun u => hasdata_any (X q 0) (X q 1) (X q 2) (X q 3) (X q 4) (X q 5) (X q 6) (X q 7) (X q 8) (X q 9) u)) (fun u169 u170 w19 b19 => ?_)
                  have HY19 := Lib.hid (heap_low HY.out b19); have HB19 := Lib.hid (HB18.out.trans (b19.mono HB18.out.size)); clear b19 HY HB18
                  go_upto_if 171 with (fail)
                  go_cut [] (fun wr => wr.cell? ⟨y, 4, none⟩ = some (.int .u64 (X q 4 : Nat)) ∧ wr.cell? ⟨y, 5, none⟩ = some (.int .u64 (sz : Nat)) ∧ Gf w base F H big wide po so sg sn nm (.slice (some ⟨gb, 0, none⟩) (k + 1) cx) (k + 1) X wr)
                  case first =>
                    by_cases hd : X q 1 ≠ 0 ∧ X q 1 ≠ 8
                    · rw [decide_eq_true hd]
                      have ez : sz = X q 5 := by rw [HSZ.out, if_pos hd]
                      have r4 : w19.cell? ⟨y, 4, none⟩ = some (.int .u64 (X q 4 : Nat)) := by rw [Lib.cell_of_heap HY19.out]; rfl
                      have r5 : w19.cell? ⟨y, 5, none⟩ = some (.int .u64 (sz : Nat)) := by rw [Lib.cell_of_heap HY19.out, ez]; rfl
                      have R45 := Lib.hid (And.intro r4 (And.intro r5 (HG.out.low HB19.out)))
                      clear hd ez r4 r5
                      go_wp2
                      go_meet
                      case rel => exact R45.out
                    · rw [decide_eq_false hd]
                      have ez : sz = 0 := by rw [HSZ.out, if_neg hd]
                      go_upto_region 35 with (fail)
                      refine freg35 _ _ _ _ _ _ _ _ _ _ _ _ _ _ _ _ _ _ _ _ _ _ _ _ _ _ _ _ _ _ _ _ _ _ _ _ _ _ _ _ _ _ _ _ _ _ _ _ _ _ _ _ _ _ _ _ _ _ _ _ _ _ _ _ _ _ _ _ _ _ _ _ _ _ _ _ _ _ _ _ _ _ _ _ _ _ _ _ _ _ _ _ _ _ _ _ _ _ _ _ _ _ _ _ _ _ _ _ _ _ _ _ _ _ _ _ _ _ _ _ _ _ _ _ _ _ _ _ _ _ _ _ _ _ _ _ _ _ _ _ _ _ _ _ _ _ _ _ _ _ _ _ _ _ _ _ _ _ _ _ _ _ _ _ _ _ _ _ _ _ _ _ _ _ _ _ _ _ _ _ _ _ _ _ _ _ _ _ _ _ _ _ _ _ _ _ _ _ _ _ _ _ _ y (X q) w19 HY19.out (fun u172 w20 hY20 o20 => ?_)
                      have r4 : w20.cell? ⟨y, 4, none⟩ = some (.int .u64 (X q 4 : Nat)) := by rw [Lib.cell_of_heap hY20]; rfl
                      have r5 : w20.cell? ⟨y, 5, none⟩ = some (.int .u64 (sz : Nat)) := by rw [Lib.cell_of_heap hY20, ez]; rfl
                      have R45 := Lib.hid (And.intro r4 (And.intro r5 (HG.out.low (HB19.out.trans (o20.below HB19.out.size hyw)))))
                      clear hd ez r4 r5 hY20 o20
                      go_wp2
                      go_meet
                      case rel => exact R45.out
                  case rest =>
                    obtain ⟨r4, r5, hG⟩ := hcut
                    have HG20 := Lib.hid hG; clear hG HG HY19 HB19
                    go_upto_region 36 with (fail)
                    refine freg36 _ _ _ _ _ _ _ _ _ _ _ _ _ _ _ _ _ _ _ _ _ _ _ _ _ _ _ _ _ _ _ _ _ _ _ _ _ _ _ _ _ _ _ _ _ _ _ _ _ _ _ _ _ _ _ _ _ _ _ _ _ _ _ _ _ _ _ _ _ _ _ _ _ _ _ _ _ _ _ _ _ _ _ _ _ _ _ _ _ _ _ _ _ _ _ _ _ _ _ _ _ _ _ _ _ _ _ _ _ _ _ _ _ _ _ _ _ _ _ _ _ _ _ _ _ _ _ _ _ _ _ _ _ _ _ _ _ _ _ _ _ _ _ _ _ _ _ _ _ _ _ _ _ _ _ _ _ _ _ _ _ _ _ _ _ _ _ _ _ _ _ _ _ _ _ _ _ _ _ _ _ _ _ _ _ _ _ _ _ _ _ _ _ _ _ _ _ _ _ _ _ _ big wide F y (X q 4) sz (PR j) (okP j) _ HG20.out.c0 HG20.out.c1 r4 r5 HPJ (fun u173 u174 u175 u176 u177 u178 u179 u180 u181 u182 u183 u184 w21 b21 => ?_)
                    have HG21 := Lib.hid (HG20.out.low b21); clear b21 HG20 r4 r5
                    have sx := SU.out j hlt
                    go_wp2
                    exact ⟨⟨j + 1, by omega, by go_num, rfl, HG21.out⟩, by simp [intOf]; omega⟩
                · obtain rfl : j = sg := by omega
                  go_upto_region 38 with (fail)
                  refine freg38 _ _ _ _ _ _ _ _ _ _ _ _ _ _ _ _ _ _ _ _ _ _ _ _ _ _ _ _ _ _ _ _ _ _ _ _ _ _ _ _ _ _ _ _ _ _ _ _ _ _ _ _ _ _ _ _ _ _ _ _ _ _ _ _ _ _ _ _ _ _ _ _ _ _ _ _ _ _ _ _ _ _ _ _ _ _ _ _ _ _ _ _ _ _ _ _ _ _ _ _ _ _ _ _ _ _ _ _ _ _ _ _ _ _ _ _ _ _ _ _ _ _ _ _ _ _ _ _ _ _ _ _ _ _ _ _ _ _ _ _ _ _ _ _ _ _ _ _ _ _ _ _ _ _ _ _ _ _ _ _ _ _ _ _ _ _ _ _ _ _ _ _ _ _ _ _ _ _ _ _ _ _ _ _ _ _ _ _ _ _ _ _ _ _ _ _ _ _ _ _ _ _ big wide F H (ehs wide) (phs wide) (shs wide) po so j sn nm SE oE _ HG.out.c0 HG.out.c1 HG.out.h HE (fun u188 u189 u190 u191 u192 u193 w22 b22 => ?_)
                  have HG22 := Lib.hid (HG.out.low b22); clear b22 HG
                  go_upto_region 39 with (fail)
                  refine freg39 _ _ _ _ _ _ _ _ _ _ _ _ _ _ _ _ _ _ _ _ _ _ _ _ _ _ _ _ _ _ _ _ _ _ _ _ _ _ _ _ _ _ _ _ _ _ _ _ _ _ _ _ _ _ _ _ _ _ _ _ _ _ _ _ _ _ _ _ _ _ _ _ _ _ _ _ _ _ _ _ _ _ _ _ _ _ _ _ _ _ _ _ _ _ _ _ _ _ _ _ _ _ _ _ _ _ _ _ _ _ _ _ _ _ _ _ _ _ _ _ _ _ _ _ _ _ _ _ _ _ _ _ _ _ _ _ _ _ _ _ _ _ _ _ _ _ _ _ _ _ _ _ _ _ _ _ _ _ _ _ _ _ _ _ _ _ _ _ _ _ _ _ _ _ _ _ _ _ _ _ _ _ _ _ _ _ _ _ _ _ _ _ _ _ _ _ _ _ _ _ big wide F SE (bodyS g D k) (tabU T1 PR j) IDB (IDB ++ SE) ((IDB ++ SE) ++ bodyS g D k) (((IDB ++ SE) ++ bodyS g D k) ++ tabU T1 PR j) w22 HG22.out.c0 HG22.out.c1 S1.out S2.out S3.out HI (fun u194 u195 u196 u197 u198 u199 u200 u201 u202 w23 b23 => ?_)
                  have HG23 := Lib.hid (HG22.out.low b23); clear b23 HG22
                  go_wp2
                  go_ret
                  exact ⟨by rw [← HT1.out]; first | done | rfl, HG23.out.b⟩
end Go.Proofs.Ytedocnidgiglaaa
