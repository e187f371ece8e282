/- The first loop of DynrecEntries: its drawn region. Conditions: those written in each theorem. -/
import Derived.Test.YtnmklmaclmjfbaaDoorDU
import Derived.Test.YtnmklmaclmjfbaaDoorDH
namespace Go.Proofs.YtnmklmaclmjfbaaDoor
open Go.RowKit
set_option linter.unusedVariables false
theorem infoF : (Tryd.prog.info? 35).map (fun i => (i.zero, i.size, i.bytes)) = some (some (.agg #[.int .u64 0, .int .u64 0]), 2, 16) := by kernel_rfl
theorem ev_one (w : World) (o : Obj) : (w.alloc o).heap.size = w.heap.size + 1 := by simp
theorem cells_at {w : World} {g : Nat} {l : List Value} {t : TypeId} (h : w.heap[g]? = some (.cells l.toArray t (0, 0))) : ∀ j u, l[j]? = some u → w.cell? ((⟨g, 0, none⟩ : Addr).add j) = some u := fun j u hu => by
  rw [Go.WideShapes.add_plain, Nat.zero_add, Lib.cell_of_heap h]
  simpa using hu
theorem kind_beside {w w' : World} {B e size n : Nat} {v : Value} {xs : List Value} {g e2 : Nat} {c : Array Value} (h : w.ownsRow B e size v n xs) (h2 : w.heap[g]? = some (.cells c e2 (0, 0))) (he : e ≠ e2) (hg : w.grownBy w' v.ownBlock) :
    w'.heap[g]? = some (.cells c e2 (0, 0)) := by
  rw [hg.block g (Array.getElem?_eq_some_iff.1 h2).1 (fun e1 => ?_)]
  · exact h2
  · rcases h.2 with ⟨rfl, _⟩ | ⟨g1, cap, cur, rfl, _, h3, _⟩
    · cases e1
    · cases e1
      rw [h3] at h2
      injection h2 with h2
      injection h2 with _ h2 _
      exact he h2
set_option maxRecDepth 1000000 in
set_option maxHeartbeats 400000 in
theorem ereg9 (Q : Exit → Act → World → Prop) (c0 c2 c3 c4 c5 c6 c7 c11 c12 c13 c14 c15 c16 c17 c18 c19 c20 c21 c22 c23 c24 c25 c26 c27 c28 c29 c30 c31 c32 c33 c34 c35 c36 c37 c38 c39 c40 c41 c42 c43 c44 c45 c46 c47 c48 c49 c50 c51 c52 c53 c54 c55 c56 c57 c58 c59 c60 c61 c62 c63 c64 c65 c66 c67 c68 c69 c70 c71 c72 c73 c74 c75 c76 c77 c78 c79 c80 c81 c82 c83 c84 c85 c86 c87 c88 c89 c90 c91 c92 c93 c94 c95 c96 c97 c98 c99 c100 c101 c102 c103 c104 c105 c106 c107 c108 c109 c110 c111 c112 c113 c114 c115 c116 c117 c118 c119 c120 c121 c122 c123 c124 c125 c126 c127 c128 c129 c130 c131 c132 c133 c134 c135 : Value) (v8 v9 : Value) (b o n cap k t v B n8 n9 : Nat) (l8 l9 : List Value) (W : World) (k0 : (0 : Int) ≤ (k : Int)) (k1 : (k : Int) < (n : Int)) (hBW : B ≤ W.heap.size) (h8 : W.ownsRow B 34 2 v8 n8 l8) (h9 : W.ownsRow B 35 2 v9 n9 l9) (hn8 : n8 ≤ 1000) (hn9 : n9 ≤ 1000)
    (X0 : Hid (∀ u, Below B W u → u.cell? ⟨b, o + k * 2, none⟩ = some (.int .u64 (t : Nat)))) (X1 : Hid (∀ u, Below B W u → u.cell? ⟨b, o + k * 2 + 1, none⟩ = some (.int .u64 (v : Nat))))
    (hP : ∀ c a w i v, Q (.panic c) (a.put (some i) v) w → Q (.panic c) a w)
    (hQ : ∀ (u34 u35 u36 u37 u38 u39 u40 u41 u42 u43 u44 u45 u46 u47 u48 u49 u50 u51 u52 u53 u54 u55 u56 u57 u58 u59 u60 u61 : Value) (y8 y9 : Value) (w' : World), Below B W w' → w'.ownsRow B 34 2 y8 (n8 + 1) (l8 ++ [.int .u64 (t : Nat), .int .u64 (v : Nat)]) → w'.ownsRow B 35 2 y9 (n9 + 1) (l9 ++ [.int .u64 (t : Nat), .int .u64 (v : Nat)]) → Q .normal ⟨#[c0, .slice (some ⟨b, o, none⟩) n cap, c2, c3, c4, c5, c6, c7, y8, y9, .int .i64 (k : Int), c11, c12, c13, c14, c15, c16, c17, c18, c19, c20, c21, c22, c23, c24, c25, c26, c27, c28, c29, c30, c31, c32, c33, u34, u35, u36, u37, u38, u39, u40, u41, u42, u43, u44, u45, u46, u47, u48, u49, u50, u51, u52, u53, u54, u55, u56, u57, u58, u59, u60, u61, c62, c63, c64, c65, c66, c67, c68, c69, c70, c71, c72, c73, c74, c75, c76, c77, c78, c79, c80, c81, c82, c83, c84, c85, c86, c87, c88, c89, c90, c91, c92, c93, c94, c95, c96, c97, c98, c99, c100, c101, c102, c103, c104, c105, c106, c107, c108, c109, c110, c111, c112, c113, c114, c115, c116, c117, c118, c119, c120, c121, c122, c123, c124, c125, c126, c127, c128, c129, c130, c131, c132, c133, c134, c135], []⟩ w') :
    (Code.region 9 #[{ dst := some 34, op := Go.Op.move (Go.Operand.tmp 8), type := 29, pos := "law.go:39", after := #[], guard := none }, { dst := some 35, op := Go.Op.move (Go.Operand.tmp 1), type := 22, pos := "law.go:39", after := #[], guard := none }, { dst := some 36, op := Go.Op.move (Go.Operand.tmp 10), type := 3, pos := "law.go:39", after := #[], guard := none }, { dst := some 37, op := Go.Op.indexAddr 22 (Go.Operand.tmp 35) (Go.Operand.tmp 36), type := 0, pos := "law.go:39", after := #[{ on := 1, ground := Go.Ground.data }, { on := 2, ground := Go.Ground.data }], guard := none }, { dst := some 38, op := Go.Op.indexAddr 32 (Go.Operand.tmp 37) (Go.Operand.const (Go.Value.int Go.IntKind.i64 0)), type := 0, pos := "law.go:39", after := #[{ on := 3, ground := Go.Ground.data }], guard := none }, { dst := some 39, op := Go.Op.load 31 (Go.Operand.tmp 38), type := 31, pos := "law.go:39", after := #[{ on := 4, ground := Go.Ground.data }], guard := none }, { dst := some 40, op := Go.Op.move (Go.Operand.tmp 1), type := 22, pos := "law.go:39", after := #[], guard := none }, { dst := some 41, op := Go.Op.move (Go.Operand.tmp 10), type := 3, pos := "law.go:39", after := #[], guard := none }, { dst := some 42, op := Go.Op.indexAddr 22 (Go.Operand.tmp 40) (Go.Operand.tmp 41), type := 0, pos := "law.go:39", after := #[{ on := 6, ground := Go.Ground.data }, { on := 7, ground := Go.Ground.data }], guard := none }, { dst := some 43, op := Go.Op.indexAddr 32 (Go.Operand.tmp 42) (Go.Operand.const (Go.Value.int Go.IntKind.i64 1)), type := 0, pos := "law.go:39", after := #[{ on := 8, ground := Go.Ground.data }], guard := none }, { dst := some 44, op := Go.Op.load 31 (Go.Operand.tmp 43), type := 31, pos := "law.go:39", after := #[{ on := 9, ground := Go.Ground.data }], guard := none }, { dst := some 45, op := Go.Op.build 34 #[(0, Go.Operand.tmp 39), (1, Go.Operand.tmp 44)], type := 34, pos := "law.go:39", after := #[{ on := 5, ground := Go.Ground.data }, { on := 10, ground := Go.Ground.data }], guard := none }, { dst := some 46, op := Go.Op.buildSlice 29 1 #[(0, Go.Operand.tmp 45)], type := 29, pos := "law.go:39", after := #[{ on := 11, ground := Go.Ground.data }], guard := none }, { dst := some 47, op := Go.Op.call { callee := Go.Callee.builtin Go.Builtin.append, args := #[Go.Operand.tmp 34, Go.Operand.tmp 46], argTypes := #[29, 29] }, type := 29, pos := "law.go:39", after := #[{ on := 0, ground := Go.Ground.data }, { on := 12, ground := Go.Ground.data }], guard := none }, { dst := some 48, op := Go.Op.move (Go.Operand.tmp 9), type := 30, pos := "law.go:39", after := #[], guard := none }, { dst := some 49, op := Go.Op.move (Go.Operand.tmp 1), type := 22, pos := "law.go:39", after := #[], guard := none }, { dst := some 50, op := Go.Op.move (Go.Operand.tmp 10), type := 3, pos := "law.go:39", after := #[], guard := none }, { dst := some 51, op := Go.Op.indexAddr 22 (Go.Operand.tmp 49) (Go.Operand.tmp 50), type := 0, pos := "law.go:39", after := #[{ on := 15, ground := Go.Ground.data }, { on := 16, ground := Go.Ground.data }], guard := none }, { dst := some 52, op := Go.Op.indexAddr 32 (Go.Operand.tmp 51) (Go.Operand.const (Go.Value.int Go.IntKind.i64 0)), type := 0, pos := "law.go:39", after := #[{ on := 17, ground := Go.Ground.data }], guard := none }, { dst := some 53, op := Go.Op.load 31 (Go.Operand.tmp 52), type := 31, pos := "law.go:39", after := #[{ on := 18, ground := Go.Ground.data }], guard := none }, { dst := some 54, op := Go.Op.move (Go.Operand.tmp 1), type := 22, pos := "law.go:39", after := #[], guard := none }, { dst := some 55, op := Go.Op.move (Go.Operand.tmp 10), type := 3, pos := "law.go:39", after := #[], guard := none }, { dst := some 56, op := Go.Op.indexAddr 22 (Go.Operand.tmp 54) (Go.Operand.tmp 55), type := 0, pos := "law.go:39", after := #[{ on := 20, ground := Go.Ground.data }, { on := 21, ground := Go.Ground.data }], guard := none }, { dst := some 57, op := Go.Op.indexAddr 32 (Go.Operand.tmp 56) (Go.Operand.const (Go.Value.int Go.IntKind.i64 1)), type := 0, pos := "law.go:39", after := #[{ on := 22, ground := Go.Ground.data }], guard := none }, { dst := some 58, op := Go.Op.load 31 (Go.Operand.tmp 57), type := 31, pos := "law.go:39", after := #[{ on := 23, ground := Go.Ground.data }], guard := none }, { dst := some 59, op := Go.Op.build 35 #[(0, Go.Operand.tmp 53), (1, Go.Operand.tmp 58)], type := 35, pos := "law.go:39", after := #[{ on := 19, ground := Go.Ground.data }, { on := 24, ground := Go.Ground.data }], guard := none }, { dst := some 60, op := Go.Op.buildSlice 30 1 #[(0, Go.Operand.tmp 59)], type := 30, pos := "law.go:39", after := #[{ on := 25, ground := Go.Ground.data }], guard := none }, { dst := some 61, op := Go.Op.call { callee := Go.Callee.builtin Go.Builtin.append, args := #[Go.Operand.tmp 48, Go.Operand.tmp 60], argTypes := #[30, 30] }, type := 30, pos := "law.go:39", after := #[{ on := 14, ground := Go.Ground.data }, { on := 26, ground := Go.Ground.data }, { on := 13, ground := Go.Ground.chain }], guard := none }, { dst := some 8, op := Go.Op.assign (Go.Operand.tmp 47), type := 29, pos := "law.go:39", after := #[{ on := 13, ground := Go.Ground.data }, { on := 27, ground := Go.Ground.chain }, { on := 0, ground := Go.Ground.phase }, { on := 1, ground := Go.Ground.phase }, { on := 2, ground := Go.Ground.phase }, { on := 3, ground := Go.Ground.phase }, { on := 4, ground := Go.Ground.phase }, { on := 5, ground := Go.Ground.phase }, { on := 6, ground := Go.Ground.phase }, { on := 7, ground := Go.Ground.phase }, { on := 8, ground := Go.Ground.phase }, { on := 9, ground := Go.Ground.phase }, { on := 10, ground := Go.Ground.phase }, { on := 11, ground := Go.Ground.phase }, { on := 12, ground := Go.Ground.phase }, { on := 13, ground := Go.Ground.phase }, { on := 14, ground := Go.Ground.textOnly Go.Departure.lateStores }, { on := 15, ground := Go.Ground.textOnly Go.Departure.lateStores }, { on := 16, ground := Go.Ground.textOnly Go.Departure.lateStores }, { on := 17, ground := Go.Ground.textOnly Go.Departure.lateStores }, { on := 18, ground := Go.Ground.textOnly Go.Departure.lateStores }, { on := 19, ground := Go.Ground.textOnly Go.Departure.lateStores }, { on := 20, ground := Go.Ground.textOnly Go.Departure.lateStores }, { on := 21, ground := Go.Ground.textOnly Go.Departure.lateStores }, { on := 22, ground := Go.Ground.textOnly Go.Departure.lateStores }, { on := 23, ground := Go.Ground.textOnly Go.Departure.lateStores }, { on := 24, ground := Go.Ground.textOnly Go.Departure.lateStores }, { on := 25, ground := Go.Ground.textOnly Go.Departure.lateStores }, { on := 26, ground := Go.Ground.textOnly Go.Departure.lateStores }, { on := 27, ground := Go.Ground.textOnly Go.Departure.lateStoresUnsure }], guard := none }, { dst := some 9, op := Go.Op.assign (Go.Operand.tmp 61), type := 30, pos := "law.go:39", after := #[{ on := 27, ground := Go.Ground.data }, { on := 28, ground := Go.Ground.chain }, { on := 0, ground := Go.Ground.phase }, { on := 1, ground := Go.Ground.phase }, { on := 2, ground := Go.Ground.phase }, { on := 3, ground := Go.Ground.phase }, { on := 4, ground := Go.Ground.phase }, { on := 5, ground := Go.Ground.phase }, { on := 6, ground := Go.Ground.phase }, { on := 7, ground := Go.Ground.phase }, { on := 8, ground := Go.Ground.phase }, { on := 9, ground := Go.Ground.phase }, { on := 10, ground := Go.Ground.phase }, { on := 11, ground := Go.Ground.phase }, { on := 12, ground := Go.Ground.phase }, { on := 13, ground := Go.Ground.phase }, { on := 14, ground := Go.Ground.phase }, { on := 15, ground := Go.Ground.phase }, { on := 16, ground := Go.Ground.phase }, { on := 17, ground := Go.Ground.phase }, { on := 18, ground := Go.Ground.phase }, { on := 19, ground := Go.Ground.phase }, { on := 20, ground := Go.Ground.phase }, { on := 21, ground := Go.Ground.phase }, { on := 22, ground := Go.Ground.phase }, { on := 23, ground := Go.Ground.phase }, { on := 24, ground := Go.Ground.phase }, { on := 25, ground := Go.Ground.phase }, { on := 26, ground := Go.Ground.phase }, { on := 27, ground := Go.Ground.phase }, { on := 28, ground := Go.Ground.phase }], guard := none }] true).wp Tryd.prog Q ⟨#[c0, .slice (some ⟨b, o, none⟩) n cap, c2, c3, c4, c5, c6, c7, v8, v9, .int .i64 (k : Int), c11, c12, c13, c14, c15, c16, c17, c18, c19, c20, c21, c22, c23, c24, c25, c26, c27, c28, c29, c30, c31, c32, c33, c34, c35, c36, c37, c38, c39, c40, c41, c42, c43, c44, c45, c46, c47, c48, c49, c50, c51, c52, c53, c54, c55, c56, c57, c58, c59, c60, c61, c62, c63, c64, c65, c66, c67, c68, c69, c70, c71, c72, c73, c74, c75, c76, c77, c78, c79, c80, c81, c82, c83, c84, c85, c86, c87, c88, c89, c90, c91, c92, c93, c94, c95, c96, c97, c98, c99, c100, c101, c102, c103, c104, c105, c106, c107, c108, c109, c110, c111, c112, c113, c114, c115, c116, c117, c118, c119, c120, c121, c122, c123, c124, c125, c126, c127, c128, c129, c130, c131, c132, c133, c134, c135], []⟩ W := by
  obtain ⟨i8, hi8, hz8, hs8, hb8⟩ := info_parts infoE
  obtain ⟨i9, hi9, hz9, hs9, hb9⟩ := info_parts infoF
  dsimp only at hQ ⊢
  have HQ := Lib.hid hQ; clear hQ
  refine wp_region_held_drew (S := fun w' => Below B W w') (by kernel_rfl) ?_ (fun hHeld => ?_)
  · exact (Below.refl _ _).drew
  have HO8_ := Lib.hid (own_stay h8 ((Below.refl _ W).drew))
  have HO9_ := Lib.hid (own_stay h9 ((Below.refl _ W).drew))
  generalize W.drew = W0 at *
  refine wpAnyH_take (i := 0) (oi := { dst := some 34, op := Go.Op.move (Go.Operand.tmp 8), type := 29, pos := "law.go:39", after := #[], guard := none }) (v := ?_) rfl (by kernel_rfl) (by kernel_rfl) (by kernel_rfl) (fun c a w h => hP c a w _ _ h) (Or.inl ⟨by rfl, ?_⟩) (by assumption) ?_
  rotate_left
  · (intro w hSw; (try dsimp only at hSw); go_simp <;> with_reducible rfl)
  try simp only [Act.put, List.setIfInBounds_toArray, List.set_cons_zero, List.set_cons_succ]
  refine wpAnyH_take (i := 1) (oi := { dst := some 35, op := Go.Op.move (Go.Operand.tmp 1), type := 22, pos := "law.go:39", after := #[], guard := none }) (v := ?_) rfl (by kernel_rfl) (by kernel_rfl) (by kernel_rfl) (fun c a w h => hP c a w _ _ h) (Or.inl ⟨by rfl, ?_⟩) (by assumption) ?_
  rotate_left
  · (intro w hSw; (try dsimp only at hSw); go_simp <;> with_reducible rfl)
  try simp only [Act.put, List.setIfInBounds_toArray, List.set_cons_zero, List.set_cons_succ]
  refine wpAnyH_take (i := 2) (oi := { dst := some 36, op := Go.Op.move (Go.Operand.tmp 10), type := 3, pos := "law.go:39", after := #[], guard := none }) (v := ?_) rfl (by kernel_rfl) (by kernel_rfl) (by kernel_rfl) (fun c a w h => hP c a w _ _ h) (Or.inl ⟨by rfl, ?_⟩) (by assumption) ?_
  rotate_left
  · (intro w hSw; (try dsimp only at hSw); go_simp <;> with_reducible rfl)
  try simp only [Act.put, List.setIfInBounds_toArray, List.set_cons_zero, List.set_cons_succ]
  refine wpAnyH_take (i := 6) (oi := { dst := some 40, op := Go.Op.move (Go.Operand.tmp 1), type := 22, pos := "law.go:39", after := #[], guard := none }) (v := ?_) rfl (by kernel_rfl) (by kernel_rfl) (by kernel_rfl) (fun c a w h => hP c a w _ _ h) (Or.inl ⟨by rfl, ?_⟩) (by assumption) ?_
  rotate_left
  · (intro w hSw; (try dsimp only at hSw); go_simp <;> with_reducible rfl)
  try simp only [Act.put, List.setIfInBounds_toArray, List.set_cons_zero, List.set_cons_succ]
  refine wpAnyH_take (i := 7) (oi := { dst := some 41, op := Go.Op.move (Go.Operand.tmp 10), type := 3, pos := "law.go:39", after := #[], guard := none }) (v := ?_) rfl (by kernel_rfl) (by kernel_rfl) (by kernel_rfl) (fun c a w h => hP c a w _ _ h) (Or.inl ⟨by rfl, ?_⟩) (by assumption) ?_
  rotate_left
  · (intro w hSw; (try dsimp only at hSw); go_simp <;> with_reducible rfl)
  try simp only [Act.put, List.setIfInBounds_toArray, List.set_cons_zero, List.set_cons_succ]
  refine wpAnyH_take (i := 14) (oi := { dst := some 48, op := Go.Op.move (Go.Operand.tmp 9), type := 30, pos := "law.go:39", after := #[], guard := none }) (v := ?_) rfl (by kernel_rfl) (by kernel_rfl) (by kernel_rfl) (fun c a w h => hP c a w _ _ h) (Or.inl ⟨by rfl, ?_⟩) (by assumption) ?_
  rotate_left
  · (intro w hSw; (try dsimp only at hSw); go_simp <;> with_reducible rfl)
  try simp only [Act.put, List.setIfInBounds_toArray, List.set_cons_zero, List.set_cons_succ]
  refine wpAnyH_take (i := 15) (oi := { dst := some 49, op := Go.Op.move (Go.Operand.tmp 1), type := 22, pos := "law.go:39", after := #[], guard := none }) (v := ?_) rfl (by kernel_rfl) (by kernel_rfl) (by kernel_rfl) (fun c a w h => hP c a w _ _ h) (Or.inl ⟨by rfl, ?_⟩) (by assumption) ?_
  rotate_left
  · (intro w hSw; (try dsimp only at hSw); go_simp <;> with_reducible rfl)
  try simp only [Act.put, List.setIfInBounds_toArray, List.set_cons_zero, List.set_cons_succ]
  refine wpAnyH_take (i := 16) (oi := { dst := some 50, op := Go.Op.move (Go.Operand.tmp 10), type := 3, pos := "law.go:39", after := #[], guard := none }) (v := ?_) rfl (by kernel_rfl) (by kernel_rfl) (by kernel_rfl) (fun c a w h => hP c a w _ _ h) (Or.inl ⟨by rfl, ?_⟩) (by assumption) ?_
  rotate_left
  · (intro w hSw; (try dsimp only at hSw); go_simp <;> with_reducible rfl)
  try simp only [Act.put, List.setIfInBounds_toArray, List.set_cons_zero, List.set_cons_succ]
  refine wpAnyH_take (i := 20) (oi := { dst := some 54, op := Go.Op.move (Go.Operand.tmp 1), type := 22, pos := "law.go:39", after := #[], guard := none }) (v := ?_) rfl (by kernel_rfl) (by kernel_rfl) (by kernel_rfl) (fun c a w h => hP c a w _ _ h) (Or.inl ⟨by rfl, ?_⟩) (by assumption) ?_
  rotate_left
  · (intro w hSw; (try dsimp only at hSw); go_simp <;> with_reducible rfl)
  try simp only [Act.put, List.setIfInBounds_toArray, List.set_cons_zero, List.set_cons_succ]
  refine wpAnyH_take (i := 21) (oi := { dst := some 55, op := Go.Op.move (Go.Operand.tmp 10), type := 3, pos := "law.go:39", after := #[], guard := none }) (v := ?_) rfl (by kernel_rfl) (by kernel_rfl) (by kernel_rfl) (fun c a w h => hP c a w _ _ h) (Or.inl ⟨by rfl, ?_⟩) (by assumption) ?_
  rotate_left
  · (intro w hSw; (try dsimp only at hSw); go_simp <;> with_reducible rfl)
  try simp only [Act.put, List.setIfInBounds_toArray, List.set_cons_zero, List.set_cons_succ]
  refine wpAnyH_take (i := 3) (oi := { dst := some 37, op := Go.Op.indexAddr 22 (Go.Operand.tmp 35) (Go.Operand.tmp 36), type := 0, pos := "law.go:39", after := #[{ on := 1, ground := Go.Ground.data }, { on := 2, ground := Go.Ground.data }], guard := none }) (v := ?_) rfl (by kernel_rfl) (by kernel_rfl) (by kernel_rfl) (fun c a w h => hP c a w _ _ h) (Or.inl ⟨by rfl, ?_⟩) (by assumption) ?_
  rotate_left
  · (intro w hSw; (try dsimp only at hSw); go_simp <;> with_reducible rfl)
  try simp only [Act.put, List.setIfInBounds_toArray, List.set_cons_zero, List.set_cons_succ]
  refine wpAnyH_take (i := 8) (oi := { dst := some 42, op := Go.Op.indexAddr 22 (Go.Operand.tmp 40) (Go.Operand.tmp 41), type := 0, pos := "law.go:39", after := #[{ on := 6, ground := Go.Ground.data }, { on := 7, ground := Go.Ground.data }], guard := none }) (v := ?_) rfl (by kernel_rfl) (by kernel_rfl) (by kernel_rfl) (fun c a w h => hP c a w _ _ h) (Or.inl ⟨by rfl, ?_⟩) (by assumption) ?_
  rotate_left
  · (intro w hSw; (try dsimp only at hSw); go_simp <;> with_reducible rfl)
  try simp only [Act.put, List.setIfInBounds_toArray, List.set_cons_zero, List.set_cons_succ]
  refine wpAnyH_take (i := 17) (oi := { dst := some 51, op := Go.Op.indexAddr 22 (Go.Operand.tmp 49) (Go.Operand.tmp 50), type := 0, pos := "law.go:39", after := #[{ on := 15, ground := Go.Ground.data }, { on := 16, ground := Go.Ground.data }], guard := none }) (v := ?_) rfl (by kernel_rfl) (by kernel_rfl) (by kernel_rfl) (fun c a w h => hP c a w _ _ h) (Or.inl ⟨by rfl, ?_⟩) (by assumption) ?_
  rotate_left
  · (intro w hSw; (try dsimp only at hSw); go_simp <;> with_reducible rfl)
  try simp only [Act.put, List.setIfInBounds_toArray, List.set_cons_zero, List.set_cons_succ]
  refine wpAnyH_take (i := 22) (oi := { dst := some 56, op := Go.Op.indexAddr 22 (Go.Operand.tmp 54) (Go.Operand.tmp 55), type := 0, pos := "law.go:39", after := #[{ on := 20, ground := Go.Ground.data }, { on := 21, ground := Go.Ground.data }], guard := none }) (v := ?_) rfl (by kernel_rfl) (by kernel_rfl) (by kernel_rfl) (fun c a w h => hP c a w _ _ h) (Or.inl ⟨by rfl, ?_⟩) (by assumption) ?_
  rotate_left
  · (intro w hSw; (try dsimp only at hSw); go_simp <;> with_reducible rfl)
  try simp only [Act.put, List.setIfInBounds_toArray, List.set_cons_zero, List.set_cons_succ]
  refine wpAnyH_take (i := 4) (oi := { dst := some 38, op := Go.Op.indexAddr 32 (Go.Operand.tmp 37) (Go.Operand.const (Go.Value.int Go.IntKind.i64 0)), type := 0, pos := "law.go:39", after := #[{ on := 3, ground := Go.Ground.data }], guard := none }) (v := ?_) rfl (by kernel_rfl) (by kernel_rfl) (by kernel_rfl) (fun c a w h => hP c a w _ _ h) (Or.inl ⟨by rfl, ?_⟩) (by assumption) ?_
  rotate_left
  · (intro w hSw; (try dsimp only at hSw); go_simp <;> with_reducible rfl)
  try simp only [Act.put, List.setIfInBounds_toArray, List.set_cons_zero, List.set_cons_succ]
  refine wpAnyH_take (i := 9) (oi := { dst := some 43, op := Go.Op.indexAddr 32 (Go.Operand.tmp 42) (Go.Operand.const (Go.Value.int Go.IntKind.i64 1)), type := 0, pos := "law.go:39", after := #[{ on := 8, ground := Go.Ground.data }], guard := none }) (v := ?_) rfl (by kernel_rfl) (by kernel_rfl) (by kernel_rfl) (fun c a w h => hP c a w _ _ h) (Or.inl ⟨by rfl, ?_⟩) (by assumption) ?_
  rotate_left
  · (intro w hSw; (try dsimp only at hSw); go_simp <;> with_reducible rfl)
  try simp only [Act.put, List.setIfInBounds_toArray, List.set_cons_zero, List.set_cons_succ]
  refine wpAnyH_take (i := 18) (oi := { dst := some 52, op := Go.Op.indexAddr 32 (Go.Operand.tmp 51) (Go.Operand.const (Go.Value.int Go.IntKind.i64 0)), type := 0, pos := "law.go:39", after := #[{ on := 17, ground := Go.Ground.data }], guard := none }) (v := ?_) rfl (by kernel_rfl) (by kernel_rfl) (by kernel_rfl) (fun c a w h => hP c a w _ _ h) (Or.inl ⟨by rfl, ?_⟩) (by assumption) ?_
  rotate_left
  · (intro w hSw; (try dsimp only at hSw); go_simp <;> with_reducible rfl)
  try simp only [Act.put, List.setIfInBounds_toArray, List.set_cons_zero, List.set_cons_succ]
  refine wpAnyH_take (i := 23) (oi := { dst := some 57, op := Go.Op.indexAddr 32 (Go.Operand.tmp 56) (Go.Operand.const (Go.Value.int Go.IntKind.i64 1)), type := 0, pos := "law.go:39", after := #[{ on := 22, ground := Go.Ground.data }], guard := none }) (v := ?_) rfl (by kernel_rfl) (by kernel_rfl) (by kernel_rfl) (fun c a w h => hP c a w _ _ h) (Or.inl ⟨by rfl, ?_⟩) (by assumption) ?_
  rotate_left
  · (intro w hSw; (try dsimp only at hSw); go_simp <;> with_reducible rfl)
  try simp only [Act.put, List.setIfInBounds_toArray, List.set_cons_zero, List.set_cons_succ]
  refine wpAnyH_take (i := 5) (oi := { dst := some 39, op := Go.Op.load 31 (Go.Operand.tmp 38), type := 31, pos := "law.go:39", after := #[{ on := 4, ground := Go.Ground.data }], guard := none }) (v := ?_) rfl (by kernel_rfl) (by kernel_rfl) (by kernel_rfl) (fun c a w h => hP c a w _ _ h) (Or.inl ⟨by rfl, ?_⟩) (by assumption) ?_
  rotate_left
  · (intro w hSw; have q0 := X0.out w hSw; (try dsimp only at hSw); go_simp <;> with_reducible rfl)
  try simp only [Act.put, List.setIfInBounds_toArray, List.set_cons_zero, List.set_cons_succ]
  refine wpAnyH_take (i := 10) (oi := { dst := some 44, op := Go.Op.load 31 (Go.Operand.tmp 43), type := 31, pos := "law.go:39", after := #[{ on := 9, ground := Go.Ground.data }], guard := none }) (v := ?_) rfl (by kernel_rfl) (by kernel_rfl) (by kernel_rfl) (fun c a w h => hP c a w _ _ h) (Or.inl ⟨by rfl, ?_⟩) (by assumption) ?_
  rotate_left
  · (intro w hSw; have q0 := X1.out w hSw; (try dsimp only at hSw); go_simp <;> with_reducible rfl)
  try simp only [Act.put, List.setIfInBounds_toArray, List.set_cons_zero, List.set_cons_succ]
  refine wpAnyH_take (i := 19) (oi := { dst := some 53, op := Go.Op.load 31 (Go.Operand.tmp 52), type := 31, pos := "law.go:39", after := #[{ on := 18, ground := Go.Ground.data }], guard := none }) (v := ?_) rfl (by kernel_rfl) (by kernel_rfl) (by kernel_rfl) (fun c a w h => hP c a w _ _ h) (Or.inl ⟨by rfl, ?_⟩) (by assumption) ?_
  rotate_left
  · (intro w hSw; have q0 := X0.out w hSw; (try dsimp only at hSw); go_simp <;> with_reducible rfl)
  try simp only [Act.put, List.setIfInBounds_toArray, List.set_cons_zero, List.set_cons_succ]
  refine wpAnyH_take (i := 24) (oi := { dst := some 58, op := Go.Op.load 31 (Go.Operand.tmp 57), type := 31, pos := "law.go:39", after := #[{ on := 23, ground := Go.Ground.data }], guard := none }) (v := ?_) rfl (by kernel_rfl) (by kernel_rfl) (by kernel_rfl) (fun c a w h => hP c a w _ _ h) (Or.inl ⟨by rfl, ?_⟩) (by assumption) ?_
  rotate_left
  · (intro w hSw; have q0 := X1.out w hSw; (try dsimp only at hSw); go_simp <;> with_reducible rfl)
  try simp only [Act.put, List.setIfInBounds_toArray, List.set_cons_zero, List.set_cons_succ]
  refine wpAnyH_take (i := 11) (oi := { dst := some 45, op := Go.Op.build 34 #[(0, Go.Operand.tmp 39), (1, Go.Operand.tmp 44)], type := 34, pos := "law.go:39", after := #[{ on := 5, ground := Go.Ground.data }, { on := 10, ground := Go.Ground.data }], guard := none }) (v := ?_) rfl (by kernel_rfl) (by kernel_rfl) (by kernel_rfl) (fun c a w h => hP c a w _ _ h) (Or.inl ⟨by rfl, ?_⟩) (by assumption) ?_
  rotate_left
  · (intro w hSw; (try dsimp only at hSw); go_simp <;> with_reducible rfl)
  try simp only [Act.put, List.setIfInBounds_toArray, List.set_cons_zero, List.set_cons_succ]
  refine wpAnyH_take (i := 25) (oi := { dst := some 59, op := Go.Op.build 35 #[(0, Go.Operand.tmp 53), (1, Go.Operand.tmp 58)], type := 35, pos := "law.go:39", after := #[{ on := 19, ground := Go.Ground.data }, { on := 24, ground := Go.Ground.data }], guard := none }) (v := ?_) rfl (by kernel_rfl) (by kernel_rfl) (by kernel_rfl) (fun c a w h => hP c a w _ _ h) (Or.inl ⟨by rfl, ?_⟩) (by assumption) ?_
  rotate_left
  · (intro w hSw; (try dsimp only at hSw); go_simp <;> with_reducible rfl)
  try simp only [Act.put, List.setIfInBounds_toArray, List.set_cons_zero, List.set_cons_succ]
  refine wpAnyH_ready (rs := [12, 26]) (by kernel_rfl) (by simp) ?_
  refine (AllReadyH.cons (o := { dst := some 46, op := Go.Op.buildSlice 29 1 #[(0, Go.Operand.tmp 45)], type := 29, pos := "law.go:39", after := #[{ on := 11, ground := Go.Ground.data }], guard := none }) rfl (fun K hK => ?_) (AllReadyH.cons (o := { dst := some 60, op := Go.Op.buildSlice 30 1 #[(0, Go.Operand.tmp 59)], type := 30, pos := "law.go:39", after := #[{ on := 25, ground := Go.Ground.data }], guard := none }) rfl (fun K hK => ?_) AllReadyH.nil))
  · try go_simp
    have HO8_12 := Lib.hid (own_stay HO8_.out ((Below.refl _ W0).alloc (Nat.le_refl _) (.cells #[.int .u64 (t : Nat), .int .u64 (v : Nat)] 34)))
    have HO9_12 := Lib.hid (own_stay HO9_.out ((Below.refl _ W0).alloc (Nat.le_refl _) (.cells #[.int .u64 (t : Nat), .int .u64 (v : Nat)] 34)))
    have HT12_12 : Hid ((W0.alloc (.cells #[.int .u64 (t : Nat), .int .u64 (v : Nat)] 34)).heap[W0.heap.size]? = some (.cells #[.int .u64 (t : Nat), .int .u64 (v : Nat)] 34 (0, 0))) := Lib.hid (by have q := heap_alloc_new W0 (.cells #[.int .u64 (t : Nat), .int .u64 (v : Nat)] 34); exact q)
    refine hK.out _ _ ?_ (fun hHeld2 => ?_)
    · exact hHeld.alloc (Nat.le_trans hBW hHeld.size) _
    clear hK K
    try simp only [Act.put, List.setIfInBounds_toArray, List.set_cons_zero, List.set_cons_succ]
    refine wpAnyH_ready (rs := [13, 26]) (by kernel_rfl) (by simp) ?_
    refine (AllReadyH.cons (o := { dst := some 47, op := Go.Op.call { callee := Go.Callee.builtin Go.Builtin.append, args := #[Go.Operand.tmp 34, Go.Operand.tmp 46], argTypes := #[29, 29] }, type := 29, pos := "law.go:39", after := #[{ on := 0, ground := Go.Ground.data }, { on := 12, ground := Go.Ground.data }], guard := none }) rfl (fun K hK => ?_) (AllReadyH.cons (o := { dst := some 60, op := Go.Op.buildSlice 30 1 #[(0, Go.Operand.tmp 59)], type := 30, pos := "law.go:39", after := #[{ on := 25, ground := Go.Ground.data }], guard := none }) rfl (fun K hK => ?_) AllReadyH.nil))
    · refine wp_append_own _ (.tmp 34) (.tmp 46) 29 rfl B 34 i8 (.agg #[.int .u64 0, .int .u64 0]) 2 16 Tryd.underlying29 hi8 hz8 hs8 hb8 rfl (by decide) v8 n8 l8 rfl HO8_12.out ⟨W0.heap.size, 0, none⟩ 1 1 [.int .u64 (t : Nat), .int .u64 (v : Nat)] rfl rfl (cells_at HT12_12.out) (by simp [Value.oneCell']) (by unfold maxLen; omega) (by omega) (Nat.le_trans hBW hHeld2.size) ?_
      intro y8_12_13 w_12_13 o_12_13 g_12_13 _
      have HO8_12_13 := Lib.hid o_12_13
      have HO9_12_13 := Lib.hid (own_beside HO8_12.out HO9_12.out (by decide) g_12_13)
      refine hK.out _ _ ?_ (fun hHeld3_12 => ?_)
      · exact hHeld2.grown g_12_13 (Nat.le_trans hBW hHeld2.size) (own_floor HO8_12.out)
      clear hK K
      try simp only [Act.put, List.setIfInBounds_toArray, List.set_cons_zero, List.set_cons_succ]
      refine wpAnyH_ready (rs := [26]) (by kernel_rfl) (by simp) ?_
      refine AllReadyH.cons (o := { dst := some 60, op := Go.Op.buildSlice 30 1 #[(0, Go.Operand.tmp 59)], type := 30, pos := "law.go:39", after := #[{ on := 25, ground := Go.Ground.data }], guard := none }) rfl (fun K hK => ?_) AllReadyH.nil
      try go_simp
      have HO8_12_13_26 := Lib.hid (own_stay HO8_12_13.out ((Below.refl _ w_12_13).alloc (Nat.le_refl _) (.cells #[.int .u64 (t : Nat), .int .u64 (v : Nat)] 35)))
      have HO9_12_13_26 := Lib.hid (own_stay HO9_12_13.out ((Below.refl _ w_12_13).alloc (Nat.le_refl _) (.cells #[.int .u64 (t : Nat), .int .u64 (v : Nat)] 35)))
      have HT26_12_13_26 : Hid ((w_12_13.alloc (.cells #[.int .u64 (t : Nat), .int .u64 (v : Nat)] 35)).heap[w_12_13.heap.size]? = some (.cells #[.int .u64 (t : Nat), .int .u64 (v : Nat)] 35 (0, 0))) := Lib.hid (by have q := heap_alloc_new w_12_13 (.cells #[.int .u64 (t : Nat), .int .u64 (v : Nat)] 35); exact q)
      refine hK.out _ _ ?_ (fun hHeld4_12_13 => ?_)
      · exact hHeld3_12.alloc (Nat.le_trans hBW hHeld3_12.size) _
      clear hK K
      try simp only [Act.put, List.setIfInBounds_toArray, List.set_cons_zero, List.set_cons_succ]
      refine wpAnyH_ready (rs := [27]) (by kernel_rfl) (by simp) ?_
      refine AllReadyH.cons (o := { dst := some 61, op := Go.Op.call { callee := Go.Callee.builtin Go.Builtin.append, args := #[Go.Operand.tmp 48, Go.Operand.tmp 60], argTypes := #[30, 30] }, type := 30, pos := "law.go:39", after := #[{ on := 14, ground := Go.Ground.data }, { on := 26, ground := Go.Ground.data }, { on := 13, ground := Go.Ground.chain }], guard := none }) rfl (fun K hK => ?_) AllReadyH.nil
      refine wp_append_own _ (.tmp 48) (.tmp 60) 30 rfl B 35 i9 (.agg #[.int .u64 0, .int .u64 0]) 2 16 Tryd.underlying30 hi9 hz9 hs9 hb9 rfl (by decide) v9 n9 l9 rfl HO9_12_13_26.out ⟨w_12_13.heap.size, 0, none⟩ 1 1 [.int .u64 (t : Nat), .int .u64 (v : Nat)] rfl rfl (cells_at HT26_12_13_26.out) (by simp [Value.oneCell']) (by unfold maxLen; omega) (by omega) (Nat.le_trans hBW hHeld4_12_13.size) ?_
      intro y9_12_13_26_27 w_12_13_26_27 o_12_13_26_27 g_12_13_26_27 _
      have HO9_12_13_26_27 := Lib.hid o_12_13_26_27
      have HO8_12_13_26_27 := Lib.hid (own_beside HO9_12_13_26.out HO8_12_13_26.out (by decide) g_12_13_26_27)
      refine hK.out _ _ ?_ (fun hHeld5_12_13_26 => ?_)
      · exact hHeld4_12_13.grown g_12_13_26_27 (Nat.le_trans hBW hHeld4_12_13.size) (own_floor HO9_12_13_26.out)
      clear hK K
      try simp only [Act.put, List.setIfInBounds_toArray, List.set_cons_zero, List.set_cons_succ]
      refine wpAnyH_take (i := 28) (oi := { dst := some 8, op := Go.Op.assign (Go.Operand.tmp 47), type := 29, pos := "law.go:39", after := #[{ on := 13, ground := Go.Ground.data }, { on := 27, ground := Go.Ground.chain }, { on := 0, ground := Go.Ground.phase }, { on := 1, ground := Go.Ground.phase }, { on := 2, ground := Go.Ground.phase }, { on := 3, ground := Go.Ground.phase }, { on := 4, ground := Go.Ground.phase }, { on := 5, ground := Go.Ground.phase }, { on := 6, ground := Go.Ground.phase }, { on := 7, ground := Go.Ground.phase }, { on := 8, ground := Go.Ground.phase }, { on := 9, ground := Go.Ground.phase }, { on := 10, ground := Go.Ground.phase }, { on := 11, ground := Go.Ground.phase }, { on := 12, ground := Go.Ground.phase }, { on := 13, ground := Go.Ground.phase }, { on := 14, ground := Go.Ground.textOnly Go.Departure.lateStores }, { on := 15, ground := Go.Ground.textOnly Go.Departure.lateStores }, { on := 16, ground := Go.Ground.textOnly Go.Departure.lateStores }, { on := 17, ground := Go.Ground.textOnly Go.Departure.lateStores }, { on := 18, ground := Go.Ground.textOnly Go.Departure.lateStores }, { on := 19, ground := Go.Ground.textOnly Go.Departure.lateStores }, { on := 20, ground := Go.Ground.textOnly Go.Departure.lateStores }, { on := 21, ground := Go.Ground.textOnly Go.Departure.lateStores }, { on := 22, ground := Go.Ground.textOnly Go.Departure.lateStores }, { on := 23, ground := Go.Ground.textOnly Go.Departure.lateStores }, { on := 24, ground := Go.Ground.textOnly Go.Departure.lateStores }, { on := 25, ground := Go.Ground.textOnly Go.Departure.lateStores }, { on := 26, ground := Go.Ground.textOnly Go.Departure.lateStores }, { on := 27, ground := Go.Ground.textOnly Go.Departure.lateStoresUnsure }], guard := none }) (v := ?_) rfl (by kernel_rfl) (by kernel_rfl) (by kernel_rfl) (fun c a w h => hP c a w _ _ h) (Or.inl ⟨by rfl, ?_⟩) (by assumption) ?_
      rotate_left
      · (intro w hSw; (try dsimp only at hSw); go_simp <;> with_reducible rfl)
      try simp only [Act.put, List.setIfInBounds_toArray, List.set_cons_zero, List.set_cons_succ]
      refine wpAnyH_take (i := 29) (oi := { dst := some 9, op := Go.Op.assign (Go.Operand.tmp 61), type := 30, pos := "law.go:39", after := #[{ on := 27, ground := Go.Ground.data }, { on := 28, ground := Go.Ground.chain }, { on := 0, ground := Go.Ground.phase }, { on := 1, ground := Go.Ground.phase }, { on := 2, ground := Go.Ground.phase }, { on := 3, ground := Go.Ground.phase }, { on := 4, ground := Go.Ground.phase }, { on := 5, ground := Go.Ground.phase }, { on := 6, ground := Go.Ground.phase }, { on := 7, ground := Go.Ground.phase }, { on := 8, ground := Go.Ground.phase }, { on := 9, ground := Go.Ground.phase }, { on := 10, ground := Go.Ground.phase }, { on := 11, ground := Go.Ground.phase }, { on := 12, ground := Go.Ground.phase }, { on := 13, ground := Go.Ground.phase }, { on := 14, ground := Go.Ground.phase }, { on := 15, ground := Go.Ground.phase }, { on := 16, ground := Go.Ground.phase }, { on := 17, ground := Go.Ground.phase }, { on := 18, ground := Go.Ground.phase }, { on := 19, ground := Go.Ground.phase }, { on := 20, ground := Go.Ground.phase }, { on := 21, ground := Go.Ground.phase }, { on := 22, ground := Go.Ground.phase }, { on := 23, ground := Go.Ground.phase }, { on := 24, ground := Go.Ground.phase }, { on := 25, ground := Go.Ground.phase }, { on := 26, ground := Go.Ground.phase }, { on := 27, ground := Go.Ground.phase }, { on := 28, ground := Go.Ground.phase }], guard := none }) (v := ?_) rfl (by kernel_rfl) (by kernel_rfl) (by kernel_rfl) (fun c a w h => hP c a w _ _ h) (Or.inl ⟨by rfl, ?_⟩) (by assumption) ?_
      rotate_left
      · (intro w hSw; (try dsimp only at hSw); go_simp <;> with_reducible rfl)
      try simp only [Act.put, List.setIfInBounds_toArray, List.set_cons_zero, List.set_cons_succ]
      refine wpAnyH_done (by kernel_rfl) ?_ _
      exact HQ.out _ _ _ _ _ _ _ _ _ _ _ _ _ _ _ _ _ _ _ _ _ _ _ _ _ _ _ _ _ _ _ hHeld5_12_13_26 HO8_12_13_26_27.out HO9_12_13_26_27.out
    · try go_simp
      have HO8_12_26 := Lib.hid (own_stay HO8_12.out ((Below.refl _ (W0.alloc (.cells #[.int .u64 (t : Nat), .int .u64 (v : Nat)] 34))).alloc (Nat.le_refl _) (.cells #[.int .u64 (t : Nat), .int .u64 (v : Nat)] 35)))
      have HO9_12_26 := Lib.hid (own_stay HO9_12.out ((Below.refl _ (W0.alloc (.cells #[.int .u64 (t : Nat), .int .u64 (v : Nat)] 34))).alloc (Nat.le_refl _) (.cells #[.int .u64 (t : Nat), .int .u64 (v : Nat)] 35)))
      have HT26_12_26 : Hid (((W0.alloc (.cells #[.int .u64 (t : Nat), .int .u64 (v : Nat)] 34)).alloc (.cells #[.int .u64 (t : Nat), .int .u64 (v : Nat)] 35)).heap[(W0.heap.size + 1)]? = some (.cells #[.int .u64 (t : Nat), .int .u64 (v : Nat)] 35 (0, 0))) := Lib.hid (by have q := heap_alloc_new (W0.alloc (.cells #[.int .u64 (t : Nat), .int .u64 (v : Nat)] 34)) (.cells #[.int .u64 (t : Nat), .int .u64 (v : Nat)] 35); rw [ev_one] at q; exact q)
      have HT12_12_26 : Hid (((W0.alloc (.cells #[.int .u64 (t : Nat), .int .u64 (v : Nat)] 34)).alloc (.cells #[.int .u64 (t : Nat), .int .u64 (v : Nat)] 35)).heap[W0.heap.size]? = some (.cells #[.int .u64 (t : Nat), .int .u64 (v : Nat)] 34 (0, 0))) := Lib.hid (heap_up _ HT12_12.out)
      refine hK.out _ _ ?_ (fun hHeld3_12 => ?_)
      · exact hHeld2.alloc (Nat.le_trans hBW hHeld2.size) _
      clear hK K
      try simp only [Act.put, List.setIfInBounds_toArray, List.set_cons_zero, List.set_cons_succ]
      refine wpAnyH_ready (rs := [13]) (by kernel_rfl) (by simp) ?_
      refine AllReadyH.cons (o := { dst := some 47, op := Go.Op.call { callee := Go.Callee.builtin Go.Builtin.append, args := #[Go.Operand.tmp 34, Go.Operand.tmp 46], argTypes := #[29, 29] }, type := 29, pos := "law.go:39", after := #[{ on := 0, ground := Go.Ground.data }, { on := 12, ground := Go.Ground.data }], guard := none }) rfl (fun K hK => ?_) AllReadyH.nil
      refine wp_append_own _ (.tmp 34) (.tmp 46) 29 rfl B 34 i8 (.agg #[.int .u64 0, .int .u64 0]) 2 16 Tryd.underlying29 hi8 hz8 hs8 hb8 rfl (by decide) v8 n8 l8 rfl HO8_12_26.out ⟨W0.heap.size, 0, none⟩ 1 1 [.int .u64 (t : Nat), .int .u64 (v : Nat)] rfl rfl (cells_at HT12_12_26.out) (by simp [Value.oneCell']) (by unfold maxLen; omega) (by omega) (Nat.le_trans hBW hHeld3_12.size) ?_
      intro y8_12_26_13 w_12_26_13 o_12_26_13 g_12_26_13 _
      have HO8_12_26_13 := Lib.hid o_12_26_13
      have HO9_12_26_13 := Lib.hid (own_beside HO8_12_26.out HO9_12_26.out (by decide) g_12_26_13)
      have HT26_12_26_13 : Hid (w_12_26_13.heap[(W0.heap.size + 1)]? = some (.cells #[.int .u64 (t : Nat), .int .u64 (v : Nat)] 35 (0, 0))) := Lib.hid (kind_beside HO8_12_26.out HT26_12_26.out (by decide) g_12_26_13)
      refine hK.out _ _ ?_ (fun hHeld4_12_26 => ?_)
      · exact hHeld3_12.grown g_12_26_13 (Nat.le_trans hBW hHeld3_12.size) (own_floor HO8_12_26.out)
      clear hK K
      try simp only [Act.put, List.setIfInBounds_toArray, List.set_cons_zero, List.set_cons_succ]
      refine wpAnyH_ready (rs := [27]) (by kernel_rfl) (by simp) ?_
      refine AllReadyH.cons (o := { dst := some 61, op := Go.Op.call { callee := Go.Callee.builtin Go.Builtin.append, args := #[Go.Operand.tmp 48, Go.Operand.tmp 60], argTypes := #[30, 30] }, type := 30, pos := "law.go:39", after := #[{ on := 14, ground := Go.Ground.data }, { on := 26, ground := Go.Ground.data }, { on := 13, ground := Go.Ground.chain }], guard := none }) rfl (fun K hK => ?_) AllReadyH.nil
      refine wp_append_own _ (.tmp 48) (.tmp 60) 30 rfl B 35 i9 (.agg #[.int .u64 0, .int .u64 0]) 2 16 Tryd.underlying30 hi9 hz9 hs9 hb9 rfl (by decide) v9 n9 l9 rfl HO9_12_26_13.out ⟨(W0.heap.size + 1), 0, none⟩ 1 1 [.int .u64 (t : Nat), .int .u64 (v : Nat)] rfl rfl (cells_at HT26_12_26_13.out) (by simp [Value.oneCell']) (by unfold maxLen; omega) (by omega) (Nat.le_trans hBW hHeld4_12_26.size) ?_
      intro y9_12_26_13_27 w_12_26_13_27 o_12_26_13_27 g_12_26_13_27 _
      have HO9_12_26_13_27 := Lib.hid o_12_26_13_27
      have HO8_12_26_13_27 := Lib.hid (own_beside HO9_12_26_13.out HO8_12_26_13.out (by decide) g_12_26_13_27)
      refine hK.out _ _ ?_ (fun hHeld5_12_26_13 => ?_)
      · exact hHeld4_12_26.grown g_12_26_13_27 (Nat.le_trans hBW hHeld4_12_26.size) (own_floor HO9_12_26_13.out)
      clear hK K
      try simp only [Act.put, List.setIfInBounds_toArray, List.set_cons_zero, List.set_cons_succ]
      refine wpAnyH_take (i := 28) (oi := { dst := some 8, op := Go.Op.assign (Go.Operand.tmp 47), type := 29, pos := "law.go:39", after := #[{ on := 13, ground := Go.Ground.data }, { on := 27, ground := Go.Ground.chain }, { on := 0, ground := Go.Ground.phase }, { on := 1, ground := Go.Ground.phase }, { on := 2, ground := Go.Ground.phase }, { on := 3, ground := Go.Ground.phase }, { on := 4, ground := Go.Ground.phase }, { on := 5, ground := Go.Ground.phase }, { on := 6, ground := Go.Ground.phase }, { on := 7, ground := Go.Ground.phase }, { on := 8, ground := Go.Ground.phase }, { on := 9, ground := Go.Ground.phase }, { on := 10, ground := Go.Ground.phase }, { on := 11, ground := Go.Ground.phase }, { on := 12, ground := Go.Ground.phase }, { on := 13, ground := Go.Ground.phase }, { on := 14, ground := Go.Ground.textOnly Go.Departure.lateStores }, { on := 15, ground := Go.Ground.textOnly Go.Departure.lateStores }, { on := 16, ground := Go.Ground.textOnly Go.Departure.lateStores }, { on := 17, ground := Go.Ground.textOnly Go.Departure.lateStores }, { on := 18, ground := Go.Ground.textOnly Go.Departure.lateStores }, { on := 19, ground := Go.Ground.textOnly Go.Departure.lateStores }, { on := 20, ground := Go.Ground.textOnly Go.Departure.lateStores }, { on := 21, ground := Go.Ground.textOnly Go.Departure.lateStores }, { on := 22, ground := Go.Ground.textOnly Go.Departure.lateStores }, { on := 23, ground := Go.Ground.textOnly Go.Departure.lateStores }, { on := 24, ground := Go.Ground.textOnly Go.Departure.lateStores }, { on := 25, ground := Go.Ground.textOnly Go.Departure.lateStores }, { on := 26, ground := Go.Ground.textOnly Go.Departure.lateStores }, { on := 27, ground := Go.Ground.textOnly Go.Departure.lateStoresUnsure }], guard := none }) (v := ?_) rfl (by kernel_rfl) (by kernel_rfl) (by kernel_rfl) (fun c a w h => hP c a w _ _ h) (Or.inl ⟨by rfl, ?_⟩) (by assumption) ?_
      rotate_left
      · (intro w hSw; (try dsimp only at hSw); go_simp <;> with_reducible rfl)
      try simp only [Act.put, List.setIfInBounds_toArray, List.set_cons_zero, List.set_cons_succ]
      refine wpAnyH_take (i := 29) (oi := { dst := some 9, op := Go.Op.assign (Go.Operand.tmp 61), type := 30, pos := "law.go:39", after := #[{ on := 27, ground := Go.Ground.data }, { on := 28, ground := Go.Ground.chain }, { on := 0, ground := Go.Ground.phase }, { on := 1, ground := Go.Ground.phase }, { on := 2, ground := Go.Ground.phase }, { on := 3, ground := Go.Ground.phase }, { on := 4, ground := Go.Ground.phase }, { on := 5, ground := Go.Ground.phase }, { on := 6, ground := Go.Ground.phase }, { on := 7, ground := Go.Ground.phase }, { on := 8, ground := Go.Ground.phase }, { on := 9, ground := Go.Ground.phase }, { on := 10, ground := Go.Ground.phase }, { on := 11, ground := Go.Ground.phase }, { on := 12, ground := Go.Ground.phase }, { on := 13, ground := Go.Ground.phase }, { on := 14, ground := Go.Ground.phase }, { on := 15, ground := Go.Ground.phase }, { on := 16, ground := Go.Ground.phase }, { on := 17, ground := Go.Ground.phase }, { on := 18, ground := Go.Ground.phase }, { on := 19, ground := Go.Ground.phase }, { on := 20, ground := Go.Ground.phase }, { on := 21, ground := Go.Ground.phase }, { on := 22, ground := Go.Ground.phase }, { on := 23, ground := Go.Ground.phase }, { on := 24, ground := Go.Ground.phase }, { on := 25, ground := Go.Ground.phase }, { on := 26, ground := Go.Ground.phase }, { on := 27, ground := Go.Ground.phase }, { on := 28, ground := Go.Ground.phase }], guard := none }) (v := ?_) rfl (by kernel_rfl) (by kernel_rfl) (by kernel_rfl) (fun c a w h => hP c a w _ _ h) (Or.inl ⟨by rfl, ?_⟩) (by assumption) ?_
      rotate_left
      · (intro w hSw; (try dsimp only at hSw); go_simp <;> with_reducible rfl)
      try simp only [Act.put, List.setIfInBounds_toArray, List.set_cons_zero, List.set_cons_succ]
      refine wpAnyH_done (by kernel_rfl) ?_ _
      exact HQ.out _ _ _ _ _ _ _ _ _ _ _ _ _ _ _ _ _ _ _ _ _ _ _ _ _ _ _ _ _ _ _ hHeld5_12_26_13 HO8_12_26_13_27.out HO9_12_26_13_27.out
  · try go_simp
    have HO8_26 := Lib.hid (own_stay HO8_.out ((Below.refl _ W0).alloc (Nat.le_refl _) (.cells #[.int .u64 (t : Nat), .int .u64 (v : Nat)] 35)))
    have HO9_26 := Lib.hid (own_stay HO9_.out ((Below.refl _ W0).alloc (Nat.le_refl _) (.cells #[.int .u64 (t : Nat), .int .u64 (v : Nat)] 35)))
    have HT26_26 : Hid ((W0.alloc (.cells #[.int .u64 (t : Nat), .int .u64 (v : Nat)] 35)).heap[W0.heap.size]? = some (.cells #[.int .u64 (t : Nat), .int .u64 (v : Nat)] 35 (0, 0))) := Lib.hid (by have q := heap_alloc_new W0 (.cells #[.int .u64 (t : Nat), .int .u64 (v : Nat)] 35); exact q)
    refine hK.out _ _ ?_ (fun hHeld2 => ?_)
    · exact hHeld.alloc (Nat.le_trans hBW hHeld.size) _
    clear hK K
    try simp only [Act.put, List.setIfInBounds_toArray, List.set_cons_zero, List.set_cons_succ]
    refine wpAnyH_ready (rs := [12]) (by kernel_rfl) (by simp) ?_
    refine AllReadyH.cons (o := { dst := some 46, op := Go.Op.buildSlice 29 1 #[(0, Go.Operand.tmp 45)], type := 29, pos := "law.go:39", after := #[{ on := 11, ground := Go.Ground.data }], guard := none }) rfl (fun K hK => ?_) AllReadyH.nil
    try go_simp
    have HO8_26_12 := Lib.hid (own_stay HO8_26.out ((Below.refl _ (W0.alloc (.cells #[.int .u64 (t : Nat), .int .u64 (v : Nat)] 35))).alloc (Nat.le_refl _) (.cells #[.int .u64 (t : Nat), .int .u64 (v : Nat)] 34)))
    have HO9_26_12 := Lib.hid (own_stay HO9_26.out ((Below.refl _ (W0.alloc (.cells #[.int .u64 (t : Nat), .int .u64 (v : Nat)] 35))).alloc (Nat.le_refl _) (.cells #[.int .u64 (t : Nat), .int .u64 (v : Nat)] 34)))
    have HT12_26_12 : Hid (((W0.alloc (.cells #[.int .u64 (t : Nat), .int .u64 (v : Nat)] 35)).alloc (.cells #[.int .u64 (t : Nat), .int .u64 (v : Nat)] 34)).heap[(W0.heap.size + 1)]? = some (.cells #[.int .u64 (t : Nat), .int .u64 (v : Nat)] 34 (0, 0))) := Lib.hid (by have q := heap_alloc_new (W0.alloc (.cells #[.int .u64 (t : Nat), .int .u64 (v : Nat)] 35)) (.cells #[.int .u64 (t : Nat), .int .u64 (v : Nat)] 34); rw [ev_one] at q; exact q)
    have HT26_26_12 : Hid (((W0.alloc (.cells #[.int .u64 (t : Nat), .int .u64 (v : Nat)] 35)).alloc (.cells #[.int .u64 (t : Nat), .int .u64 (v : Nat)] 34)).heap[W0.heap.size]? = some (.cells #[.int .u64 (t : Nat), .int .u64 (v : Nat)] 35 (0, 0))) := Lib.hid (heap_up _ HT26_26.out)
    refine hK.out _ _ ?_ (fun hHeld3_26 => ?_)
    · exact hHeld2.alloc (Nat.le_trans hBW hHeld2.size) _
    clear hK K
    try simp only [Act.put, List.setIfInBounds_toArray, List.set_cons_zero, List.set_cons_succ]
    refine wpAnyH_ready (rs := [13]) (by kernel_rfl) (by simp) ?_
    refine AllReadyH.cons (o := { dst := some 47, op := Go.Op.call { callee := Go.Callee.builtin Go.Builtin.append, args := #[Go.Operand.tmp 34, Go.Operand.tmp 46], argTypes := #[29, 29] }, type := 29, pos := "law.go:39", after := #[{ on := 0, ground := Go.Ground.data }, { on := 12, ground := Go.Ground.data }], guard := none }) rfl (fun K hK => ?_) AllReadyH.nil
    refine wp_append_own _ (.tmp 34) (.tmp 46) 29 rfl B 34 i8 (.agg #[.int .u64 0, .int .u64 0]) 2 16 Tryd.underlying29 hi8 hz8 hs8 hb8 rfl (by decide) v8 n8 l8 rfl HO8_26_12.out ⟨(W0.heap.size + 1), 0, none⟩ 1 1 [.int .u64 (t : Nat), .int .u64 (v : Nat)] rfl rfl (cells_at HT12_26_12.out) (by simp [Value.oneCell']) (by unfold maxLen; omega) (by omega) (Nat.le_trans hBW hHeld3_26.size) ?_
    intro y8_26_12_13 w_26_12_13 o_26_12_13 g_26_12_13 _
    have HO8_26_12_13 := Lib.hid o_26_12_13
    have HO9_26_12_13 := Lib.hid (own_beside HO8_26_12.out HO9_26_12.out (by decide) g_26_12_13)
    have HT26_26_12_13 : Hid (w_26_12_13.heap[W0.heap.size]? = some (.cells #[.int .u64 (t : Nat), .int .u64 (v : Nat)] 35 (0, 0))) := Lib.hid (kind_beside HO8_26_12.out HT26_26_12.out (by decide) g_26_12_13)
    refine hK.out _ _ ?_ (fun hHeld4_26_12 => ?_)
    · exact hHeld3_26.grown g_26_12_13 (Nat.le_trans hBW hHeld3_26.size) (own_floor HO8_26_12.out)
    clear hK K
    try simp only [Act.put, List.setIfInBounds_toArray, List.set_cons_zero, List.set_cons_succ]
    refine wpAnyH_ready (rs := [27]) (by kernel_rfl) (by simp) ?_
    refine AllReadyH.cons (o := { dst := some 61, op := Go.Op.call { callee := Go.Callee.builtin Go.Builtin.append, args := #[Go.Operand.tmp 48, Go.Operand.tmp 60], argTypes := #[30, 30] }, type := 30, pos := "law.go:39", after := #[{ on := 14, ground := Go.Ground.data }, { on := 26, ground := Go.Ground.data }, { on := 13, ground := Go.Ground.chain }], guard := none }) rfl (fun K hK => ?_) AllReadyH.nil
    refine wp_append_own _ (.tmp 48) (.tmp 60) 30 rfl B 35 i9 (.agg #[.int .u64 0, .int .u64 0]) 2 16 Tryd.underlying30 hi9 hz9 hs9 hb9 rfl (by decide) v9 n9 l9 rfl HO9_26_12_13.out ⟨W0.heap.size, 0, none⟩ 1 1 [.int .u64 (t : Nat), .int .u64 (v : Nat)] rfl rfl (cells_at HT26_26_12_13.out) (by simp [Value.oneCell']) (by unfold maxLen; omega) (by omega) (Nat.le_trans hBW hHeld4_26_12.size) ?_
    intro y9_26_12_13_27 w_26_12_13_27 o_26_12_13_27 g_26_12_13_27 _
    have HO9_26_12_13_27 := Lib.hid o_26_12_13_27
    have HO8_26_12_13_27 := Lib.hid (own_beside HO9_26_12_13.out HO8_26_12_13.out (by decide) g_26_12_13_27)
    refine hK.out _ _ ?_ (fun hHeld5_26_12_13 => ?_)
    · exact hHeld4_26_12.grown g_26_12_13_27 (Nat.le_trans hBW hHeld4_26_12.size) (own_floor HO9_26_12_13.out)
    clear hK K
    try simp only [Act.put, List.setIfInBounds_toArray, List.set_cons_zero, List.set_cons_succ]
    refine wpAnyH_take (i := 28) (oi := { dst := some 8, op := Go.Op.assign (Go.Operand.tmp 47), type := 29, pos := "law.go:39", after := #[{ on := 13, ground := Go.Ground.data }, { on := 27, ground := Go.Ground.chain }, { on := 0, ground := Go.Ground.phase }, { on := 1, ground := Go.Ground.phase }, { on := 2, ground := Go.Ground.phase }, { on := 3, ground := Go.Ground.phase }, { on := 4, ground := Go.Ground.phase }, { on := 5, ground := Go.Ground.phase }, { on := 6, ground := Go.Ground.phase }, { on := 7, ground := Go.Ground.phase }, { on := 8, ground := Go.Ground.phase }, { on := 9, ground := Go.Ground.phase }, { on := 10, ground := Go.Ground.phase }, { on := 11, ground := Go.Ground.phase }, { on := 12, ground := Go.Ground.phase }, { on := 13, ground := Go.Ground.phase }, { on := 14, ground := Go.Ground.textOnly Go.Departure.lateStores }, { on := 15, ground := Go.Ground.textOnly Go.Departure.lateStores }, { on := 16, ground := Go.Ground.textOnly Go.Departure.lateStores }, { on := 17, ground := Go.Ground.textOnly Go.Departure.lateStores }, { on := 18, ground := Go.Ground.textOnly Go.Departure.lateStores }, { on := 19, ground := Go.Ground.textOnly Go.Departure.lateStores }, { on := 20, ground := Go.Ground.textOnly Go.Departure.lateStores }, { on := 21, ground := Go.Ground.textOnly Go.Departure.lateStores }, { on := 22, ground := Go.Ground.textOnly Go.Departure.lateStores }, { on := 23, ground := Go.Ground.textOnly Go.Departure.lateStores }, { on := 24, ground := Go.Ground.textOnly Go.Departure.lateStores }, { on := 25, ground := Go.Ground.textOnly Go.Departure.lateStores }, { on := 26, ground := Go.Ground.textOnly Go.Departure.lateStores }, { on := 27, ground := Go.Ground.textOnly Go.Departure.lateStoresUnsure }], guard := none }) (v := ?_) rfl (by kernel_rfl) (by kernel_rfl) (by kernel_rfl) (fun c a w h => hP c a w _ _ h) (Or.inl ⟨by rfl, ?_⟩) (by assumption) ?_
    rotate_left
    · (intro w hSw; (try dsimp only at hSw); go_simp <;> with_reducible rfl)
    try simp only [Act.put, List.setIfInBounds_toArray, List.set_cons_zero, List.set_cons_succ]
    refine wpAnyH_take (i := 29) (oi := { dst := some 9, op := Go.Op.assign (Go.Operand.tmp 61), type := 30, pos := "law.go:39", after := #[{ on := 27, ground := Go.Ground.data }, { on := 28, ground := Go.Ground.chain }, { on := 0, ground := Go.Ground.phase }, { on := 1, ground := Go.Ground.phase }, { on := 2, ground := Go.Ground.phase }, { on := 3, ground := Go.Ground.phase }, { on := 4, ground := Go.Ground.phase }, { on := 5, ground := Go.Ground.phase }, { on := 6, ground := Go.Ground.phase }, { on := 7, ground := Go.Ground.phase }, { on := 8, ground := Go.Ground.phase }, { on := 9, ground := Go.Ground.phase }, { on := 10, ground := Go.Ground.phase }, { on := 11, ground := Go.Ground.phase }, { on := 12, ground := Go.Ground.phase }, { on := 13, ground := Go.Ground.phase }, { on := 14, ground := Go.Ground.phase }, { on := 15, ground := Go.Ground.phase }, { on := 16, ground := Go.Ground.phase }, { on := 17, ground := Go.Ground.phase }, { on := 18, ground := Go.Ground.phase }, { on := 19, ground := Go.Ground.phase }, { on := 20, ground := Go.Ground.phase }, { on := 21, ground := Go.Ground.phase }, { on := 22, ground := Go.Ground.phase }, { on := 23, ground := Go.Ground.phase }, { on := 24, ground := Go.Ground.phase }, { on := 25, ground := Go.Ground.phase }, { on := 26, ground := Go.Ground.phase }, { on := 27, ground := Go.Ground.phase }, { on := 28, ground := Go.Ground.phase }], guard := none }) (v := ?_) rfl (by kernel_rfl) (by kernel_rfl) (by kernel_rfl) (fun c a w h => hP c a w _ _ h) (Or.inl ⟨by rfl, ?_⟩) (by assumption) ?_
    rotate_left
    · (intro w hSw; (try dsimp only at hSw); go_simp <;> with_reducible rfl)
    try simp only [Act.put, List.setIfInBounds_toArray, List.set_cons_zero, List.set_cons_succ]
    refine wpAnyH_done (by kernel_rfl) ?_ _
    exact HQ.out _ _ _ _ _ _ _ _ _ _ _ _ _ _ _ _ _ _ _ _ _ _ _ _ _ _ _ _ _ _ _ hHeld5_26_12_13 HO8_26_12_13_27.out HO9_26_12_13_27.out
end Go.Proofs.YtnmklmaclmjfbaaDoor
