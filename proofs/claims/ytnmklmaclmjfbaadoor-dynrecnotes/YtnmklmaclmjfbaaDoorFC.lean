/- The first loop of DynrecNotes: the region that appends. Conditions: those written in each theorem. -/
import Derived.Test.YtnmklmaclmjfbaaDoorDV
import Derived.Test.YtnmklmaclmjfbaaDoorDK
namespace Go.Proofs.YtnmklmaclmjfbaaDoor
open Go.RowKit
set_option linter.unusedVariables false
theorem infoNr : (Tryd.prog.info? 49).map (fun i => (i.zero, i.size, i.bytes)) = some (some (.agg #[.int .u64 0, .string ⟨#[]⟩, .string ⟨#[]⟩]), 3, 40) := by kernel_rfl
set_option maxRecDepth 1000000 in
set_option maxHeartbeats 400000 in
theorem nreg11 (Q : Exit → Act → World → Prop) (c0 c1 c2 c3 c4 c5 c6 c7 c10 c12 c13 c14 c15 c16 c17 c18 c19 c20 c21 c22 c23 c24 c25 c26 c27 c28 c29 c30 c31 c32 c33 c34 c35 c36 c37 c38 c39 c40 c41 c42 c43 c44 c45 c46 c47 c48 c49 c50 c51 c52 c53 c54 c55 c56 c57 c58 c59 c60 c61 c62 c63 c64 c65 c66 c67 c68 c69 c70 c71 c72 c73 c74 c75 c76 c77 c78 c79 c80 c81 c82 c83 c84 c85 c86 c87 c88 c89 c90 c91 c92 c93 c94 c95 c96 c97 c98 c99 c100 c101 c102 c103 c104 c105 c106 c107 c108 c109 c110 c111 c112 c113 c114 c115 c116 c117 c118 c119 c120 c121 c122 c123 c124 c125 c126 c127 c128 c129 c130 c131 c132 c133 c134 c135 c136 c137 c138 c139 c140 c141 c142 c143 c144 c145 c146 c147 c148 c149 c150 c151 c152 c153 c154 c155 c156 c157 c158 c159 c160 c161 c162 c163 c164 c165 c166 c167 c168 c169 c170 c171 c172 c173 : Value) (v8 v9 : Value) (g : Nat) (x : Nt) (B n8 n9 : Nat) (l8 l9 : List Value) (W : World) (hR : W.heap[g]? = some (.cells #[.int .u64 (x.ty : Nat), .string x.name, .string x.desc] 47 (0, 0))) (hBW : B ≤ W.heap.size) (h8 : W.ownsRow B 48 3 v8 n8 l8) (h9 : W.ownsRow B 49 3 v9 n9 l9) (hn8 : n8 ≤ 1000) (hn9 : n9 ≤ 1000)
    (hP : ∀ c a w i v, Q (.panic c) (a.put (some i) v) w → Q (.panic c) a w)
    (hQ : ∀ (u59 u60 u61 u62 u63 u64 u65 u66 : Value) (y8 y9 : Value) (w' : World), Below B W w' → w'.ownsRow B 48 3 y8 (n8 + 1) (l8 ++ [.int .u64 (x.ty : Nat), .string x.name, .string x.desc]) → w'.ownsRow B 49 3 y9 (n9 + 1) (l9 ++ [.int .u64 (x.ty : Nat), .string x.name, .string x.desc]) → Q .normal ⟨#[c0, c1, c2, c3, c4, c5, c6, c7, y8, y9, c10, .pointer (some ⟨g, 0, none⟩), c12, c13, c14, c15, c16, c17, c18, c19, c20, c21, c22, c23, c24, c25, c26, c27, c28, c29, c30, c31, c32, c33, c34, c35, c36, c37, c38, c39, c40, c41, c42, c43, c44, c45, c46, c47, c48, c49, c50, c51, c52, c53, c54, c55, c56, c57, c58, u59, u60, u61, u62, u63, u64, u65, u66, c67, c68, c69, c70, c71, c72, c73, c74, c75, c76, c77, c78, c79, c80, c81, c82, c83, c84, c85, c86, c87, c88, c89, c90, c91, c92, c93, c94, c95, c96, c97, c98, c99, c100, c101, c102, c103, c104, c105, c106, c107, c108, c109, c110, c111, c112, c113, c114, c115, c116, c117, c118, c119, c120, c121, c122, c123, c124, c125, c126, c127, c128, c129, c130, c131, c132, c133, c134, c135, c136, c137, c138, c139, c140, c141, c142, c143, c144, c145, c146, c147, c148, c149, c150, c151, c152, c153, c154, c155, c156, c157, c158, c159, c160, c161, c162, c163, c164, c165, c166, c167, c168, c169, c170, c171, c172, c173], []⟩ w') :
    (Code.region 11 #[{ dst := some 59, op := Go.Op.move (Go.Operand.tmp 8), type := 44, pos := "law.go:73", after := #[], guard := none }, { dst := some 60, op := Go.Op.load 47 (Go.Operand.tmp 11), type := 47, pos := "law.go:73", after := #[], guard := none }, { dst := some 61, op := Go.Op.buildSlice 44 1 #[(0, Go.Operand.tmp 60)], type := 44, pos := "law.go:73", after := #[{ on := 1, ground := Go.Ground.data }], guard := none }, { dst := some 62, op := Go.Op.call { callee := Go.Callee.builtin Go.Builtin.append, args := #[Go.Operand.tmp 59, Go.Operand.tmp 61], argTypes := #[44, 44] }, type := 44, pos := "law.go:73", after := #[{ on := 0, ground := Go.Ground.data }, { on := 2, ground := Go.Ground.data }], guard := none }, { dst := some 63, op := Go.Op.move (Go.Operand.tmp 9), type := 45, pos := "law.go:73", after := #[], guard := none }, { dst := some 64, op := Go.Op.load 47 (Go.Operand.tmp 11), type := 47, pos := "law.go:73", after := #[], guard := none }, { dst := some 65, op := Go.Op.buildSlice 45 1 #[(0, Go.Operand.tmp 64)], type := 45, pos := "law.go:73", after := #[{ on := 5, ground := Go.Ground.data }], guard := none }, { dst := some 66, op := Go.Op.call { callee := Go.Callee.builtin Go.Builtin.append, args := #[Go.Operand.tmp 63, Go.Operand.tmp 65], argTypes := #[45, 45] }, type := 45, pos := "law.go:73", after := #[{ on := 4, ground := Go.Ground.data }, { on := 6, ground := Go.Ground.data }, { on := 3, ground := Go.Ground.chain }], guard := none }, { dst := some 8, op := Go.Op.assign (Go.Operand.tmp 62), type := 44, pos := "law.go:73", after := #[{ on := 3, ground := Go.Ground.data }, { on := 7, ground := Go.Ground.chain }, { on := 0, ground := Go.Ground.phase }, { on := 1, ground := Go.Ground.phase }, { on := 2, ground := Go.Ground.phase }, { on := 3, ground := Go.Ground.phase }, { on := 4, ground := Go.Ground.textOnly Go.Departure.lateStores }, { on := 5, ground := Go.Ground.textOnly Go.Departure.lateStores }, { on := 6, ground := Go.Ground.textOnly Go.Departure.lateStores }, { on := 7, ground := Go.Ground.textOnly Go.Departure.lateStoresUnsure }], guard := none }, { dst := some 9, op := Go.Op.assign (Go.Operand.tmp 66), type := 45, pos := "law.go:73", after := #[{ on := 7, ground := Go.Ground.data }, { on := 8, ground := Go.Ground.chain }, { on := 0, ground := Go.Ground.phase }, { on := 1, ground := Go.Ground.phase }, { on := 2, ground := Go.Ground.phase }, { on := 3, ground := Go.Ground.phase }, { on := 4, ground := Go.Ground.phase }, { on := 5, ground := Go.Ground.phase }, { on := 6, ground := Go.Ground.phase }, { on := 7, ground := Go.Ground.phase }, { on := 8, ground := Go.Ground.phase }], guard := none }] true).wp Tryd.prog Q ⟨#[c0, c1, c2, c3, c4, c5, c6, c7, v8, v9, c10, .pointer (some ⟨g, 0, none⟩), c12, c13, c14, c15, c16, c17, c18, c19, c20, c21, c22, c23, c24, c25, c26, c27, c28, c29, c30, c31, c32, c33, c34, c35, c36, c37, c38, c39, c40, c41, c42, c43, c44, c45, c46, c47, c48, c49, c50, c51, c52, c53, c54, c55, c56, c57, c58, c59, c60, c61, c62, c63, c64, c65, c66, c67, c68, c69, c70, c71, c72, c73, c74, c75, c76, c77, c78, c79, c80, c81, c82, c83, c84, c85, c86, c87, c88, c89, c90, c91, c92, c93, c94, c95, c96, c97, c98, c99, c100, c101, c102, c103, c104, c105, c106, c107, c108, c109, c110, c111, c112, c113, c114, c115, c116, c117, c118, c119, c120, c121, c122, c123, c124, c125, c126, c127, c128, c129, c130, c131, c132, c133, c134, c135, c136, c137, c138, c139, c140, c141, c142, c143, c144, c145, c146, c147, c148, c149, c150, c151, c152, c153, c154, c155, c156, c157, c158, c159, c160, c161, c162, c163, c164, c165, c166, c167, c168, c169, c170, c171, c172, c173], []⟩ W := by
  obtain ⟨i8, hi8, hz8, hs8, hb8⟩ := info_parts infoNt
  obtain ⟨i9, hi9, hz9, hs9, hb9⟩ := info_parts infoNr
  dsimp only at hQ ⊢
  have HQ := Lib.hid hQ; clear hQ
  have X0 : Hid (∀ u : World, (Below B W u ∧ u.heap[g]? = some (.cells #[.int .u64 (x.ty : Nat), .string x.name, .string x.desc] 47 (0, 0))) → u.cell? ⟨g, 0, none⟩ = some (.int .u64 (x.ty : Nat))) := Lib.hid (fun u hu => by rw [Lib.cell_of_heap hu.2]; rfl)
  have X1 : Hid (∀ u : World, (Below B W u ∧ u.heap[g]? = some (.cells #[.int .u64 (x.ty : Nat), .string x.name, .string x.desc] 47 (0, 0))) → u.cell? ⟨g, 1, none⟩ = some (.string x.name)) := Lib.hid (fun u hu => by rw [Lib.cell_of_heap hu.2]; rfl)
  have X2 : Hid (∀ u : World, (Below B W u ∧ u.heap[g]? = some (.cells #[.int .u64 (x.ty : Nat), .string x.name, .string x.desc] 47 (0, 0))) → u.cell? ⟨g, 2, none⟩ = some (.string x.desc)) := Lib.hid (fun u hu => by rw [Lib.cell_of_heap hu.2]; rfl)
  refine wp_region_held_drew (S := fun w' => Below B W w' ∧ w'.heap[g]? = some (.cells #[.int .u64 (x.ty : Nat), .string x.name, .string x.desc] 47 (0, 0))) (by kernel_rfl) ?_ (fun hHeld => ?_)
  · exact ⟨(Below.refl _ _).drew, hR⟩
  have HO8_ := Lib.hid (own_stay h8 ((Below.refl _ W).drew))
  have HO9_ := Lib.hid (own_stay h9 ((Below.refl _ W).drew))
  generalize W.drew = W0 at *
  refine wpAnyH_take (i := 0) (oi := { dst := some 59, op := Go.Op.move (Go.Operand.tmp 8), type := 44, pos := "law.go:73", after := #[], guard := none }) (v := ?_) rfl (by kernel_rfl) (by kernel_rfl) (by kernel_rfl) (fun c a w h => hP c a w _ _ h) (Or.inl ⟨by rfl, ?_⟩) (by assumption) ?_
  rotate_left
  · (intro w hSw; (try dsimp only at hSw); go_simp <;> with_reducible rfl)
  try simp only [Act.put, List.setIfInBounds_toArray, List.set_cons_zero, List.set_cons_succ]
  refine wpAnyH_take (i := 1) (oi := { dst := some 60, op := Go.Op.load 47 (Go.Operand.tmp 11), type := 47, pos := "law.go:73", after := #[], guard := none }) (v := ?_) rfl (by kernel_rfl) (by kernel_rfl) (by kernel_rfl) (fun c a w h => hP c a w _ _ h) (Or.inl ⟨by rfl, ?_⟩) (by assumption) ?_
  rotate_left
  · (intro w hSw; have q0 := X0.out w hSw; have q1 := X1.out w hSw; have q2 := X2.out w hSw; (try dsimp only at hSw); go_simp <;> with_reducible rfl)
  try simp only [Act.put, List.setIfInBounds_toArray, List.set_cons_zero, List.set_cons_succ]
  refine wpAnyH_take (i := 4) (oi := { dst := some 63, op := Go.Op.move (Go.Operand.tmp 9), type := 45, pos := "law.go:73", after := #[], guard := none }) (v := ?_) rfl (by kernel_rfl) (by kernel_rfl) (by kernel_rfl) (fun c a w h => hP c a w _ _ h) (Or.inl ⟨by rfl, ?_⟩) (by assumption) ?_
  rotate_left
  · (intro w hSw; (try dsimp only at hSw); go_simp <;> with_reducible rfl)
  try simp only [Act.put, List.setIfInBounds_toArray, List.set_cons_zero, List.set_cons_succ]
  refine wpAnyH_take (i := 5) (oi := { dst := some 64, op := Go.Op.load 47 (Go.Operand.tmp 11), type := 47, pos := "law.go:73", after := #[], guard := none }) (v := ?_) rfl (by kernel_rfl) (by kernel_rfl) (by kernel_rfl) (fun c a w h => hP c a w _ _ h) (Or.inl ⟨by rfl, ?_⟩) (by assumption) ?_
  rotate_left
  · (intro w hSw; have q0 := X0.out w hSw; have q1 := X1.out w hSw; have q2 := X2.out w hSw; (try dsimp only at hSw); go_simp <;> with_reducible rfl)
  try simp only [Act.put, List.setIfInBounds_toArray, List.set_cons_zero, List.set_cons_succ]
  refine wpAnyH_ready (rs := [2, 6]) (by kernel_rfl) (by simp) ?_
  refine (AllReadyH.cons (o := { dst := some 61, op := Go.Op.buildSlice 44 1 #[(0, Go.Operand.tmp 60)], type := 44, pos := "law.go:73", after := #[{ on := 1, ground := Go.Ground.data }], guard := none }) rfl (fun K hK => ?_) (AllReadyH.cons (o := { dst := some 65, op := Go.Op.buildSlice 45 1 #[(0, Go.Operand.tmp 64)], type := 45, pos := "law.go:73", after := #[{ on := 5, ground := Go.Ground.data }], guard := none }) rfl (fun K hK => ?_) AllReadyH.nil))
  · try go_simp
    have HO8_2 := Lib.hid (own_stay HO8_.out ((Below.refl _ W0).alloc (Nat.le_refl _) (.cells #[.int .u64 (x.ty : Nat), .string x.name, .string x.desc] 48)))
    have HO9_2 := Lib.hid (own_stay HO9_.out ((Below.refl _ W0).alloc (Nat.le_refl _) (.cells #[.int .u64 (x.ty : Nat), .string x.name, .string x.desc] 48)))
    have HT2_2 : Hid ((W0.alloc (.cells #[.int .u64 (x.ty : Nat), .string x.name, .string x.desc] 48)).heap[W0.heap.size]? = some (.cells #[.int .u64 (x.ty : Nat), .string x.name, .string x.desc] 48 (0, 0))) := Lib.hid (by have q := heap_alloc_new W0 (.cells #[.int .u64 (x.ty : Nat), .string x.name, .string x.desc] 48); exact q)
    refine hK.out _ _ ?_ (fun hHeld2 => ?_)
    · exact ⟨hHeld.1.alloc (Nat.le_trans hBW hHeld.1.size) _, heap_up _ hHeld.2⟩
    clear hK K
    try simp only [Act.put, List.setIfInBounds_toArray, List.set_cons_zero, List.set_cons_succ]
    refine wpAnyH_ready (rs := [3, 6]) (by kernel_rfl) (by simp) ?_
    refine (AllReadyH.cons (o := { dst := some 62, op := Go.Op.call { callee := Go.Callee.builtin Go.Builtin.append, args := #[Go.Operand.tmp 59, Go.Operand.tmp 61], argTypes := #[44, 44] }, type := 44, pos := "law.go:73", after := #[{ on := 0, ground := Go.Ground.data }, { on := 2, ground := Go.Ground.data }], guard := none }) rfl (fun K hK => ?_) (AllReadyH.cons (o := { dst := some 65, op := Go.Op.buildSlice 45 1 #[(0, Go.Operand.tmp 64)], type := 45, pos := "law.go:73", after := #[{ on := 5, ground := Go.Ground.data }], guard := none }) rfl (fun K hK => ?_) AllReadyH.nil))
    · refine wp_append_own _ (.tmp 59) (.tmp 61) 44 rfl B 48 i8 (.agg #[.int .u64 0, .string ⟨#[]⟩, .string ⟨#[]⟩]) 3 40 Tryd.underlying44 hi8 hz8 hs8 hb8 rfl (by decide) v8 n8 l8 rfl HO8_2.out ⟨W0.heap.size, 0, none⟩ 1 1 [.int .u64 (x.ty : Nat), .string x.name, .string x.desc] rfl rfl (cells_at HT2_2.out) (by simp [Value.oneCell']) (by unfold maxLen; omega) (by omega) (Nat.le_trans hBW hHeld2.1.size) ?_
      intro y8_2_3 w_2_3 o_2_3 g_2_3 _
      have HO8_2_3 := Lib.hid o_2_3
      have HO9_2_3 := Lib.hid (own_beside HO8_2.out HO9_2.out (by decide) g_2_3)
      refine hK.out _ _ ?_ (fun hHeld3_2 => ?_)
      · exact ⟨hHeld2.1.grown g_2_3 (Nat.le_trans hBW hHeld2.1.size) (own_floor HO8_2.out), kind_beside HO8_2.out hHeld2.2 (by decide) g_2_3⟩
      clear hK K
      try simp only [Act.put, List.setIfInBounds_toArray, List.set_cons_zero, List.set_cons_succ]
      refine wpAnyH_ready (rs := [6]) (by kernel_rfl) (by simp) ?_
      refine AllReadyH.cons (o := { dst := some 65, op := Go.Op.buildSlice 45 1 #[(0, Go.Operand.tmp 64)], type := 45, pos := "law.go:73", after := #[{ on := 5, ground := Go.Ground.data }], guard := none }) rfl (fun K hK => ?_) AllReadyH.nil
      try go_simp
      have HO8_2_3_6 := Lib.hid (own_stay HO8_2_3.out ((Below.refl _ w_2_3).alloc (Nat.le_refl _) (.cells #[.int .u64 (x.ty : Nat), .string x.name, .string x.desc] 49)))
      have HO9_2_3_6 := Lib.hid (own_stay HO9_2_3.out ((Below.refl _ w_2_3).alloc (Nat.le_refl _) (.cells #[.int .u64 (x.ty : Nat), .string x.name, .string x.desc] 49)))
      have HT6_2_3_6 : Hid ((w_2_3.alloc (.cells #[.int .u64 (x.ty : Nat), .string x.name, .string x.desc] 49)).heap[w_2_3.heap.size]? = some (.cells #[.int .u64 (x.ty : Nat), .string x.name, .string x.desc] 49 (0, 0))) := Lib.hid (by have q := heap_alloc_new w_2_3 (.cells #[.int .u64 (x.ty : Nat), .string x.name, .string x.desc] 49); exact q)
      refine hK.out _ _ ?_ (fun hHeld4_2_3 => ?_)
      · exact ⟨hHeld3_2.1.alloc (Nat.le_trans hBW hHeld3_2.1.size) _, heap_up _ hHeld3_2.2⟩
      clear hK K
      try simp only [Act.put, List.setIfInBounds_toArray, List.set_cons_zero, List.set_cons_succ]
      refine wpAnyH_ready (rs := [7]) (by kernel_rfl) (by simp) ?_
      refine AllReadyH.cons (o := { dst := some 66, op := Go.Op.call { callee := Go.Callee.builtin Go.Builtin.append, args := #[Go.Operand.tmp 63, Go.Operand.tmp 65], argTypes := #[45, 45] }, type := 45, pos := "law.go:73", after := #[{ on := 4, ground := Go.Ground.data }, { on := 6, ground := Go.Ground.data }, { on := 3, ground := Go.Ground.chain }], guard := none }) rfl (fun K hK => ?_) AllReadyH.nil
      refine wp_append_own _ (.tmp 63) (.tmp 65) 45 rfl B 49 i9 (.agg #[.int .u64 0, .string ⟨#[]⟩, .string ⟨#[]⟩]) 3 40 Tryd.underlying45 hi9 hz9 hs9 hb9 rfl (by decide) v9 n9 l9 rfl HO9_2_3_6.out ⟨w_2_3.heap.size, 0, none⟩ 1 1 [.int .u64 (x.ty : Nat), .string x.name, .string x.desc] rfl rfl (cells_at HT6_2_3_6.out) (by simp [Value.oneCell']) (by unfold maxLen; omega) (by omega) (Nat.le_trans hBW hHeld4_2_3.1.size) ?_
      intro y9_2_3_6_7 w_2_3_6_7 o_2_3_6_7 g_2_3_6_7 _
      have HO9_2_3_6_7 := Lib.hid o_2_3_6_7
      have HO8_2_3_6_7 := Lib.hid (own_beside HO9_2_3_6.out HO8_2_3_6.out (by decide) g_2_3_6_7)
      refine hK.out _ _ ?_ (fun hHeld5_2_3_6 => ?_)
      · exact ⟨hHeld4_2_3.1.grown g_2_3_6_7 (Nat.le_trans hBW hHeld4_2_3.1.size) (own_floor HO9_2_3_6.out), kind_beside HO9_2_3_6.out hHeld4_2_3.2 (by decide) g_2_3_6_7⟩
      clear hK K
      try simp only [Act.put, List.setIfInBounds_toArray, List.set_cons_zero, List.set_cons_succ]
      refine wpAnyH_take (i := 8) (oi := { dst := some 8, op := Go.Op.assign (Go.Operand.tmp 62), type := 44, pos := "law.go:73", after := #[{ on := 3, ground := Go.Ground.data }, { on := 7, ground := Go.Ground.chain }, { on := 0, ground := Go.Ground.phase }, { on := 1, ground := Go.Ground.phase }, { on := 2, ground := Go.Ground.phase }, { on := 3, ground := Go.Ground.phase }, { on := 4, ground := Go.Ground.textOnly Go.Departure.lateStores }, { on := 5, ground := Go.Ground.textOnly Go.Departure.lateStores }, { on := 6, ground := Go.Ground.textOnly Go.Departure.lateStores }, { on := 7, ground := Go.Ground.textOnly Go.Departure.lateStoresUnsure }], guard := none }) (v := ?_) rfl (by kernel_rfl) (by kernel_rfl) (by kernel_rfl) (fun c a w h => hP c a w _ _ h) (Or.inl ⟨by rfl, ?_⟩) (by assumption) ?_
      rotate_left
      · (intro w hSw; (try dsimp only at hSw); go_simp <;> with_reducible rfl)
      try simp only [Act.put, List.setIfInBounds_toArray, List.set_cons_zero, List.set_cons_succ]
      refine wpAnyH_take (i := 9) (oi := { dst := some 9, op := Go.Op.assign (Go.Operand.tmp 66), type := 45, pos := "law.go:73", after := #[{ on := 7, ground := Go.Ground.data }, { on := 8, ground := Go.Ground.chain }, { on := 0, ground := Go.Ground.phase }, { on := 1, ground := Go.Ground.phase }, { on := 2, ground := Go.Ground.phase }, { on := 3, ground := Go.Ground.phase }, { on := 4, ground := Go.Ground.phase }, { on := 5, ground := Go.Ground.phase }, { on := 6, ground := Go.Ground.phase }, { on := 7, ground := Go.Ground.phase }, { on := 8, ground := Go.Ground.phase }], guard := none }) (v := ?_) rfl (by kernel_rfl) (by kernel_rfl) (by kernel_rfl) (fun c a w h => hP c a w _ _ h) (Or.inl ⟨by rfl, ?_⟩) (by assumption) ?_
      rotate_left
      · (intro w hSw; (try dsimp only at hSw); go_simp <;> with_reducible rfl)
      try simp only [Act.put, List.setIfInBounds_toArray, List.set_cons_zero, List.set_cons_succ]
      refine wpAnyH_done (by kernel_rfl) ?_ _
      exact HQ.out _ _ _ _ _ _ _ _ _ _ _ hHeld5_2_3_6.1 HO8_2_3_6_7.out HO9_2_3_6_7.out
    · try go_simp
      have HO8_2_6 := Lib.hid (own_stay HO8_2.out ((Below.refl _ (W0.alloc (.cells #[.int .u64 (x.ty : Nat), .string x.name, .string x.desc] 48))).alloc (Nat.le_refl _) (.cells #[.int .u64 (x.ty : Nat), .string x.name, .string x.desc] 49)))
      have HO9_2_6 := Lib.hid (own_stay HO9_2.out ((Below.refl _ (W0.alloc (.cells #[.int .u64 (x.ty : Nat), .string x.name, .string x.desc] 48))).alloc (Nat.le_refl _) (.cells #[.int .u64 (x.ty : Nat), .string x.name, .string x.desc] 49)))
      have HT6_2_6 : Hid (((W0.alloc (.cells #[.int .u64 (x.ty : Nat), .string x.name, .string x.desc] 48)).alloc (.cells #[.int .u64 (x.ty : Nat), .string x.name, .string x.desc] 49)).heap[(W0.heap.size + 1)]? = some (.cells #[.int .u64 (x.ty : Nat), .string x.name, .string x.desc] 49 (0, 0))) := Lib.hid (by have q := heap_alloc_new (W0.alloc (.cells #[.int .u64 (x.ty : Nat), .string x.name, .string x.desc] 48)) (.cells #[.int .u64 (x.ty : Nat), .string x.name, .string x.desc] 49); rw [ev_one] at q; exact q)
      have HT2_2_6 : Hid (((W0.alloc (.cells #[.int .u64 (x.ty : Nat), .string x.name, .string x.desc] 48)).alloc (.cells #[.int .u64 (x.ty : Nat), .string x.name, .string x.desc] 49)).heap[W0.heap.size]? = some (.cells #[.int .u64 (x.ty : Nat), .string x.name, .string x.desc] 48 (0, 0))) := Lib.hid (heap_up _ HT2_2.out)
      refine hK.out _ _ ?_ (fun hHeld3_2 => ?_)
      · exact ⟨hHeld2.1.alloc (Nat.le_trans hBW hHeld2.1.size) _, heap_up _ hHeld2.2⟩
      clear hK K
      try simp only [Act.put, List.setIfInBounds_toArray, List.set_cons_zero, List.set_cons_succ]
      refine wpAnyH_ready (rs := [3]) (by kernel_rfl) (by simp) ?_
      refine AllReadyH.cons (o := { dst := some 62, op := Go.Op.call { callee := Go.Callee.builtin Go.Builtin.append, args := #[Go.Operand.tmp 59, Go.Operand.tmp 61], argTypes := #[44, 44] }, type := 44, pos := "law.go:73", after := #[{ on := 0, ground := Go.Ground.data }, { on := 2, ground := Go.Ground.data }], guard := none }) rfl (fun K hK => ?_) AllReadyH.nil
      refine wp_append_own _ (.tmp 59) (.tmp 61) 44 rfl B 48 i8 (.agg #[.int .u64 0, .string ⟨#[]⟩, .string ⟨#[]⟩]) 3 40 Tryd.underlying44 hi8 hz8 hs8 hb8 rfl (by decide) v8 n8 l8 rfl HO8_2_6.out ⟨W0.heap.size, 0, none⟩ 1 1 [.int .u64 (x.ty : Nat), .string x.name, .string x.desc] rfl rfl (cells_at HT2_2_6.out) (by simp [Value.oneCell']) (by unfold maxLen; omega) (by omega) (Nat.le_trans hBW hHeld3_2.1.size) ?_
      intro y8_2_6_3 w_2_6_3 o_2_6_3 g_2_6_3 _
      have HO8_2_6_3 := Lib.hid o_2_6_3
      have HO9_2_6_3 := Lib.hid (own_beside HO8_2_6.out HO9_2_6.out (by decide) g_2_6_3)
      have HT6_2_6_3 : Hid (w_2_6_3.heap[(W0.heap.size + 1)]? = some (.cells #[.int .u64 (x.ty : Nat), .string x.name, .string x.desc] 49 (0, 0))) := Lib.hid (kind_beside HO8_2_6.out HT6_2_6.out (by decide) g_2_6_3)
      refine hK.out _ _ ?_ (fun hHeld4_2_6 => ?_)
      · exact ⟨hHeld3_2.1.grown g_2_6_3 (Nat.le_trans hBW hHeld3_2.1.size) (own_floor HO8_2_6.out), kind_beside HO8_2_6.out hHeld3_2.2 (by decide) g_2_6_3⟩
      clear hK K
      try simp only [Act.put, List.setIfInBounds_toArray, List.set_cons_zero, List.set_cons_succ]
      refine wpAnyH_ready (rs := [7]) (by kernel_rfl) (by simp) ?_
      refine AllReadyH.cons (o := { dst := some 66, op := Go.Op.call { callee := Go.Callee.builtin Go.Builtin.append, args := #[Go.Operand.tmp 63, Go.Operand.tmp 65], argTypes := #[45, 45] }, type := 45, pos := "law.go:73", after := #[{ on := 4, ground := Go.Ground.data }, { on := 6, ground := Go.Ground.data }, { on := 3, ground := Go.Ground.chain }], guard := none }) rfl (fun K hK => ?_) AllReadyH.nil
      refine wp_append_own _ (.tmp 63) (.tmp 65) 45 rfl B 49 i9 (.agg #[.int .u64 0, .string ⟨#[]⟩, .string ⟨#[]⟩]) 3 40 Tryd.underlying45 hi9 hz9 hs9 hb9 rfl (by decide) v9 n9 l9 rfl HO9_2_6_3.out ⟨(W0.heap.size + 1), 0, none⟩ 1 1 [.int .u64 (x.ty : Nat), .string x.name, .string x.desc] rfl rfl (cells_at HT6_2_6_3.out) (by simp [Value.oneCell']) (by unfold maxLen; omega) (by omega) (Nat.le_trans hBW hHeld4_2_6.1.size) ?_
      intro y9_2_6_3_7 w_2_6_3_7 o_2_6_3_7 g_2_6_3_7 _
      have HO9_2_6_3_7 := Lib.hid o_2_6_3_7
      have HO8_2_6_3_7 := Lib.hid (own_beside HO9_2_6_3.out HO8_2_6_3.out (by decide) g_2_6_3_7)
      refine hK.out _ _ ?_ (fun hHeld5_2_6_3 => ?_)
      · exact ⟨hHeld4_2_6.1.grown g_2_6_3_7 (Nat.le_trans hBW hHeld4_2_6.1.size) (own_floor HO9_2_6_3.out), kind_beside HO9_2_6_3.out hHeld4_2_6.2 (by decide) g_2_6_3_7⟩
      clear hK K
      try simp only [Act.put, List.setIfInBounds_toArray, List.set_cons_zero, List.set_cons_succ]
      refine wpAnyH_take (i := 8) (oi := { dst := some 8, op := Go.Op.assign (Go.Operand.tmp 62), type := 44, pos := "law.go:73", after := #[{ on := 3, ground := Go.Ground.data }, { on := 7, ground := Go.Ground.chain }, { on := 0, ground := Go.Ground.phase }, { on := 1, ground := Go.Ground.phase }, { on := 2, ground := Go.Ground.phase }, { on := 3, ground := Go.Ground.phase }, { on := 4, ground := Go.Ground.textOnly Go.Departure.lateStores }, { on := 5, ground := Go.Ground.textOnly Go.Departure.lateStores }, { on := 6, ground := Go.Ground.textOnly Go.Departure.lateStores }, { on := 7, ground := Go.Ground.textOnly Go.Departure.lateStoresUnsure }], guard := none }) (v := ?_) rfl (by kernel_rfl) (by kernel_rfl) (by kernel_rfl) (fun c a w h => hP c a w _ _ h) (Or.inl ⟨by rfl, ?_⟩) (by assumption) ?_
      rotate_left
      · (intro w hSw; (try dsimp only at hSw); go_simp <;> with_reducible rfl)
      try simp only [Act.put, List.setIfInBounds_toArray, List.set_cons_zero, List.set_cons_succ]
      refine wpAnyH_take (i := 9) (oi := { dst := some 9, op := Go.Op.assign (Go.Operand.tmp 66), type := 45, pos := "law.go:73", after := #[{ on := 7, ground := Go.Ground.data }, { on := 8, ground := Go.Ground.chain }, { on := 0, ground := Go.Ground.phase }, { on := 1, ground := Go.Ground.phase }, { on := 2, ground := Go.Ground.phase }, { on := 3, ground := Go.Ground.phase }, { on := 4, ground := Go.Ground.phase }, { on := 5, ground := Go.Ground.phase }, { on := 6, ground := Go.Ground.phase }, { on := 7, ground := Go.Ground.phase }, { on := 8, ground := Go.Ground.phase }], guard := none }) (v := ?_) rfl (by kernel_rfl) (by kernel_rfl) (by kernel_rfl) (fun c a w h => hP c a w _ _ h) (Or.inl ⟨by rfl, ?_⟩) (by assumption) ?_
      rotate_left
      · (intro w hSw; (try dsimp only at hSw); go_simp <;> with_reducible rfl)
      try simp only [Act.put, List.setIfInBounds_toArray, List.set_cons_zero, List.set_cons_succ]
      refine wpAnyH_done (by kernel_rfl) ?_ _
      exact HQ.out _ _ _ _ _ _ _ _ _ _ _ hHeld5_2_6_3.1 HO8_2_6_3_7.out HO9_2_6_3_7.out
  · try go_simp
    have HO8_6 := Lib.hid (own_stay HO8_.out ((Below.refl _ W0).alloc (Nat.le_refl _) (.cells #[.int .u64 (x.ty : Nat), .string x.name, .string x.desc] 49)))
    have HO9_6 := Lib.hid (own_stay HO9_.out ((Below.refl _ W0).alloc (Nat.le_refl _) (.cells #[.int .u64 (x.ty : Nat), .string x.name, .string x.desc] 49)))
    have HT6_6 : Hid ((W0.alloc (.cells #[.int .u64 (x.ty : Nat), .string x.name, .string x.desc] 49)).heap[W0.heap.size]? = some (.cells #[.int .u64 (x.ty : Nat), .string x.name, .string x.desc] 49 (0, 0))) := Lib.hid (by have q := heap_alloc_new W0 (.cells #[.int .u64 (x.ty : Nat), .string x.name, .string x.desc] 49); exact q)
    refine hK.out _ _ ?_ (fun hHeld2 => ?_)
    · exact ⟨hHeld.1.alloc (Nat.le_trans hBW hHeld.1.size) _, heap_up _ hHeld.2⟩
    clear hK K
    try simp only [Act.put, List.setIfInBounds_toArray, List.set_cons_zero, List.set_cons_succ]
    refine wpAnyH_ready (rs := [2]) (by kernel_rfl) (by simp) ?_
    refine AllReadyH.cons (o := { dst := some 61, op := Go.Op.buildSlice 44 1 #[(0, Go.Operand.tmp 60)], type := 44, pos := "law.go:73", after := #[{ on := 1, ground := Go.Ground.data }], guard := none }) rfl (fun K hK => ?_) AllReadyH.nil
    try go_simp
    have HO8_6_2 := Lib.hid (own_stay HO8_6.out ((Below.refl _ (W0.alloc (.cells #[.int .u64 (x.ty : Nat), .string x.name, .string x.desc] 49))).alloc (Nat.le_refl _) (.cells #[.int .u64 (x.ty : Nat), .string x.name, .string x.desc] 48)))
    have HO9_6_2 := Lib.hid (own_stay HO9_6.out ((Below.refl _ (W0.alloc (.cells #[.int .u64 (x.ty : Nat), .string x.name, .string x.desc] 49))).alloc (Nat.le_refl _) (.cells #[.int .u64 (x.ty : Nat), .string x.name, .string x.desc] 48)))
    have HT2_6_2 : Hid (((W0.alloc (.cells #[.int .u64 (x.ty : Nat), .string x.name, .string x.desc] 49)).alloc (.cells #[.int .u64 (x.ty : Nat), .string x.name, .string x.desc] 48)).heap[(W0.heap.size + 1)]? = some (.cells #[.int .u64 (x.ty : Nat), .string x.name, .string x.desc] 48 (0, 0))) := Lib.hid (by have q := heap_alloc_new (W0.alloc (.cells #[.int .u64 (x.ty : Nat), .string x.name, .string x.desc] 49)) (.cells #[.int .u64 (x.ty : Nat), .string x.name, .string x.desc] 48); rw [ev_one] at q; exact q)
    have HT6_6_2 : Hid (((W0.alloc (.cells #[.int .u64 (x.ty : Nat), .string x.name, .string x.desc] 49)).alloc (.cells #[.int .u64 (x.ty : Nat), .string x.name, .string x.desc] 48)).heap[W0.heap.size]? = some (.cells #[.int .u64 (x.ty : Nat), .string x.name, .string x.desc] 49 (0, 0))) := Lib.hid (heap_up _ HT6_6.out)
    refine hK.out _ _ ?_ (fun hHeld3_6 => ?_)
    · exact ⟨hHeld2.1.alloc (Nat.le_trans hBW hHeld2.1.size) _, heap_up _ hHeld2.2⟩
    clear hK K
    try simp only [Act.put, List.setIfInBounds_toArray, List.set_cons_zero, List.set_cons_succ]
    refine wpAnyH_ready (rs := [3]) (by kernel_rfl) (by simp) ?_
    refine AllReadyH.cons (o := { dst := some 62, op := Go.Op.call { callee := Go.Callee.builtin Go.Builtin.append, args := #[Go.Operand.tmp 59, Go.Operand.tmp 61], argTypes := #[44, 44] }, type := 44, pos := "law.go:73", after := #[{ on := 0, ground := Go.Ground.data }, { on := 2, ground := Go.Ground.data }], guard := none }) rfl (fun K hK => ?_) AllReadyH.nil
    refine wp_append_own _ (.tmp 59) (.tmp 61) 44 rfl B 48 i8 (.agg #[.int .u64 0, .string ⟨#[]⟩, .string ⟨#[]⟩]) 3 40 Tryd.underlying44 hi8 hz8 hs8 hb8 rfl (by decide) v8 n8 l8 rfl HO8_6_2.out ⟨(W0.heap.size + 1), 0, none⟩ 1 1 [.int .u64 (x.ty : Nat), .string x.name, .string x.desc] rfl rfl (cells_at HT2_6_2.out) (by simp [Value.oneCell']) (by unfold maxLen; omega) (by omega) (Nat.le_trans hBW hHeld3_6.1.size) ?_
    intro y8_6_2_3 w_6_2_3 o_6_2_3 g_6_2_3 _
    have HO8_6_2_3 := Lib.hid o_6_2_3
    have HO9_6_2_3 := Lib.hid (own_beside HO8_6_2.out HO9_6_2.out (by decide) g_6_2_3)
    have HT6_6_2_3 : Hid (w_6_2_3.heap[W0.heap.size]? = some (.cells #[.int .u64 (x.ty : Nat), .string x.name, .string x.desc] 49 (0, 0))) := Lib.hid (kind_beside HO8_6_2.out HT6_6_2.out (by decide) g_6_2_3)
    refine hK.out _ _ ?_ (fun hHeld4_6_2 => ?_)
    · exact ⟨hHeld3_6.1.grown g_6_2_3 (Nat.le_trans hBW hHeld3_6.1.size) (own_floor HO8_6_2.out), kind_beside HO8_6_2.out hHeld3_6.2 (by decide) g_6_2_3⟩
    clear hK K
    try simp only [Act.put, List.setIfInBounds_toArray, List.set_cons_zero, List.set_cons_succ]
    refine wpAnyH_ready (rs := [7]) (by kernel_rfl) (by simp) ?_
    refine AllReadyH.cons (o := { dst := some 66, op := Go.Op.call { callee := Go.Callee.builtin Go.Builtin.append, args := #[Go.Operand.tmp 63, Go.Operand.tmp 65], argTypes := #[45, 45] }, type := 45, pos := "law.go:73", after := #[{ on := 4, ground := Go.Ground.data }, { on := 6, ground := Go.Ground.data }, { on := 3, ground := Go.Ground.chain }], guard := none }) rfl (fun K hK => ?_) AllReadyH.nil
    refine wp_append_own _ (.tmp 63) (.tmp 65) 45 rfl B 49 i9 (.agg #[.int .u64 0, .string ⟨#[]⟩, .string ⟨#[]⟩]) 3 40 Tryd.underlying45 hi9 hz9 hs9 hb9 rfl (by decide) v9 n9 l9 rfl HO9_6_2_3.out ⟨W0.heap.size, 0, none⟩ 1 1 [.int .u64 (x.ty : Nat), .string x.name, .string x.desc] rfl rfl (cells_at HT6_6_2_3.out) (by simp [Value.oneCell']) (by unfold maxLen; omega) (by omega) (Nat.le_trans hBW hHeld4_6_2.1.size) ?_
    intro y9_6_2_3_7 w_6_2_3_7 o_6_2_3_7 g_6_2_3_7 _
    have HO9_6_2_3_7 := Lib.hid o_6_2_3_7
    have HO8_6_2_3_7 := Lib.hid (own_beside HO9_6_2_3.out HO8_6_2_3.out (by decide) g_6_2_3_7)
    refine hK.out _ _ ?_ (fun hHeld5_6_2_3 => ?_)
    · exact ⟨hHeld4_6_2.1.grown g_6_2_3_7 (Nat.le_trans hBW hHeld4_6_2.1.size) (own_floor HO9_6_2_3.out), kind_beside HO9_6_2_3.out hHeld4_6_2.2 (by decide) g_6_2_3_7⟩
    clear hK K
    try simp only [Act.put, List.setIfInBounds_toArray, List.set_cons_zero, List.set_cons_succ]
    refine wpAnyH_take (i := 8) (oi := { dst := some 8, op := Go.Op.assign (Go.Operand.tmp 62), type := 44, pos := "law.go:73", after := #[{ on := 3, ground := Go.Ground.data }, { on := 7, ground := Go.Ground.chain }, { on := 0, ground := Go.Ground.phase }, { on := 1, ground := Go.Ground.phase }, { on := 2, ground := Go.Ground.phase }, { on := 3, ground := Go.Ground.phase }, { on := 4, ground := Go.Ground.textOnly Go.Departure.lateStores }, { on := 5, ground := Go.Ground.textOnly Go.Departure.lateStores }, { on := 6, ground := Go.Ground.textOnly Go.Departure.lateStores }, { on := 7, ground := Go.Ground.textOnly Go.Departure.lateStoresUnsure }], guard := none }) (v := ?_) rfl (by kernel_rfl) (by kernel_rfl) (by kernel_rfl) (fun c a w h => hP c a w _ _ h) (Or.inl ⟨by rfl, ?_⟩) (by assumption) ?_
    rotate_left
    · (intro w hSw; (try dsimp only at hSw); go_simp <;> with_reducible rfl)
    try simp only [Act.put, List.setIfInBounds_toArray, List.set_cons_zero, List.set_cons_succ]
    refine wpAnyH_take (i := 9) (oi := { dst := some 9, op := Go.Op.assign (Go.Operand.tmp 66), type := 45, pos := "law.go:73", after := #[{ on := 7, ground := Go.Ground.data }, { on := 8, ground := Go.Ground.chain }, { on := 0, ground := Go.Ground.phase }, { on := 1, ground := Go.Ground.phase }, { on := 2, ground := Go.Ground.phase }, { on := 3, ground := Go.Ground.phase }, { on := 4, ground := Go.Ground.phase }, { on := 5, ground := Go.Ground.phase }, { on := 6, ground := Go.Ground.phase }, { on := 7, ground := Go.Ground.phase }, { on := 8, ground := Go.Ground.phase }], guard := none }) (v := ?_) rfl (by kernel_rfl) (by kernel_rfl) (by kernel_rfl) (fun c a w h => hP c a w _ _ h) (Or.inl ⟨by rfl, ?_⟩) (by assumption) ?_
    rotate_left
    · (intro w hSw; (try dsimp only at hSw); go_simp <;> with_reducible rfl)
    try simp only [Act.put, List.setIfInBounds_toArray, List.set_cons_zero, List.set_cons_succ]
    refine wpAnyH_done (by kernel_rfl) ?_ _
    exact HQ.out _ _ _ _ _ _ _ _ _ _ _ hHeld5_6_2_3.1 HO8_6_2_3_7.out HO9_6_2_3_7.out
end Go.Proofs.YtnmklmaclmjfbaaDoor
