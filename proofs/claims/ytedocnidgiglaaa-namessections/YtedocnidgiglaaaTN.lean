/- The contract of layer 12's speaks. Conditions: those written in each theorem. -/
import Derived.Test.YtedocnidgiglaaaTM
import Derived.Test.YtedocnidgiglaaaJD
namespace Go.Proofs.Ytedocnidgiglaaa
open Go.RowKit
set_option linter.unusedVariables false
set_option maxRecDepth 1000000 in
set_option maxHeartbeats 2000000 in
theorem spreg1 (Q : Exit → Act → World → Prop) (c0 c1 c2 c3 c4 c5 c6 c7 c8 c9 c10 c11 c12 c13 c14 c15 c16 c17 c18 c19 c20 c21 c22 c23 c24 c25 c26 c27 c28 c29 c30 c31 c32 c33 c34 c35 c36 c37 c38 c39 c40 c41 c42 c43 c44 c45 c46 c47 : Value) (V : ByteArray) (W : World)
    (PV : World → Value → World → Prop) (hPV : ∀ u v w1 w2, W.heap.size ≤ u.heap.size → PV u v w1 → Below w1.heap.size w1 w2 → PV W v w2) (hform : ∀ u v w1, PV u v w1 → ∃ (big wide : Bool) (abi ver : Nat) (pad : ByteArray) (h0 h1 h2 h3 h4 h5 h6 h7 h8 h9 h10 h11 h12 : Nat) (As : Option Addr) (ns cs : Nat) (Ap : Option Addr) (np cp : Nat) (nm : Nat), v = .agg #[.bool big, .bool wide, .int .u8 (abi : Nat), .int .u8 (ver : Nat), .string pad, .int .u64 (h0 : Nat), .int .u64 (h1 : Nat), .int .u64 (h2 : Nat), .int .u64 (h3 : Nat), .int .u64 (h4 : Nat), .int .u64 (h5 : Nat), .int .u64 (h6 : Nat), .int .u64 (h7 : Nat), .int .u64 (h8 : Nat), .int .u64 (h9 : Nat), .int .u64 (h10 : Nat), .int .u64 (h11 : Nat), .int .u64 (h12 : Nat), .slice As ns cs, .slice Ap np cp, .int .u64 (nm : Nat)])
    (HC : Hid (∀ u b, u.heap[b]? = some (.cells #[.int .u64 1, .int .u64 2] 29 (0, 0)) → Calls Try.prog 30 #[.int .i64 2, .string ⟨#[0, 97, 98, 99, 0]⟩, .int .u64 3, .slice (some ⟨b, 0, none⟩) 2 2, .int .u64 1] u fun e w' => Below u.heap.size u w' ∧ ∃ v, PV u v w' ∧ e = .returned (.tuple #[v, .string V, .bool true])))
    (hQ : ∀ (u8 u9 u10 u11 u12 u13 : Value) (B : Nat) (big wide : Bool) (abi ver : Nat) (pad : ByteArray) (h0 h1 h2 h3 h4 h5 h6 h7 h8 h9 h10 h11 h12 : Nat) (As : Option Addr) (ns cs : Nat) (Ap : Option Addr) (np cp : Nat) (nm : Nat) (w' : World), PV W (.agg #[.bool big, .bool wide, .int .u8 (abi : Nat), .int .u8 (ver : Nat), .string pad, .int .u64 (h0 : Nat), .int .u64 (h1 : Nat), .int .u64 (h2 : Nat), .int .u64 (h3 : Nat), .int .u64 (h4 : Nat), .int .u64 (h5 : Nat), .int .u64 (h6 : Nat), .int .u64 (h7 : Nat), .int .u64 (h8 : Nat), .int .u64 (h9 : Nat), .int .u64 (h10 : Nat), .int .u64 (h11 : Nat), .int .u64 (h12 : Nat), .slice As ns cs, .slice Ap np cp, .int .u64 (nm : Nat)]) w' → w'.heap[B]? = some (.cells #[.bool big, .bool wide, .int .u8 (abi : Nat), .int .u8 (ver : Nat), .string pad, .int .u64 (h0 : Nat), .int .u64 (h1 : Nat), .int .u64 (h2 : Nat), .int .u64 (h3 : Nat), .int .u64 (h4 : Nat), .int .u64 (h5 : Nat), .int .u64 (h6 : Nat), .int .u64 (h7 : Nat), .int .u64 (h8 : Nat), .int .u64 (h9 : Nat), .int .u64 (h10 : Nat), .int .u64 (h11 : Nat), .int .u64 (h12 : Nat), .slice As ns cs, .slice Ap np cp, .int .u64 (nm : Nat)] 42 (0, 0)) → Below W.heap.size W w' → Q .normal ⟨#[c0, .pointer (some ⟨B, 0, none⟩), .string V, .bool true, c4, c5, c6, c7, u8, u9, u10, u11, u12, u13, c14, c15, c16, c17, c18, c19, c20, c21, c22, c23, c24, c25, c26, c27, c28, c29, c30, c31, c32, c33, c34, c35, c36, c37, c38, c39, c40, c41, c42, c43, c44, c45, c46, c47], []⟩ w') :
    (Code.region 1 #[{ dst := some 9, op := Go.Op.buildSlice 76 2 #[(0, Go.Operand.const (Go.Value.int Go.IntKind.u64 1)), (1, Go.Operand.const (Go.Value.int Go.IntKind.u64 2))], type := 76, pos := "law.go:38", after := #[], guard := none }, { dst := some 10, op := Go.Op.call { callee := Go.Callee.value (Go.Operand.func 30), args := #[Go.Operand.const (Go.Value.int Go.IntKind.i64 2), Go.Operand.const (Go.Value.string { data := #[0, 97, 98, 99, 0] }), Go.Operand.const (Go.Value.int Go.IntKind.u64 3), Go.Operand.tmp 9, Go.Operand.const (Go.Value.int Go.IntKind.u64 1)], argTypes := #[3, 9, 29, 76, 29] }, type := 77, pos := "law.go:38", after := #[{ on := 0, ground := Go.Ground.data }], guard := none }, { dst := some 8, op := Go.Op.move (Go.Operand.tmp 10), type := 77, pos := "law.go:38", after := #[{ on := 1, ground := Go.Ground.data }], guard := none }, { dst := some 11, op := Go.Op.extract (Go.Operand.tmp 8) 0, type := 42, pos := "law.go:38", after := #[{ on := 2, ground := Go.Ground.data }], guard := none }, { dst := some 12, op := Go.Op.extract (Go.Operand.tmp 8) 1, type := 9, pos := "law.go:38", after := #[{ on := 2, ground := Go.Ground.data }, { on := 7, ground := Go.Ground.gcOnly Go.Departure.lateStores }], guard := none }, { dst := some 13, op := Go.Op.extract (Go.Operand.tmp 8) 2, type := 4, pos := "law.go:38", after := #[{ on := 2, ground := Go.Ground.data }, { on := 8, ground := Go.Ground.gcOnly Go.Departure.lateStores }], guard := none }, { dst := some 1, op := Go.Op.alloc 42, type := 0, pos := "law.go:38", after := #[], guard := none }, { dst := none, op := Go.Op.store 42 (Go.Operand.tmp 1) (Go.Operand.tmp 11), type := 0, pos := "law.go:38", after := #[{ on := 6, ground := Go.Ground.data }, { on := 3, ground := Go.Ground.data }, { on := 1, ground := Go.Ground.chain }, { on := 0, ground := Go.Ground.phase }, { on := 1, ground := Go.Ground.phase }, { on := 2, ground := Go.Ground.phase }, { on := 3, ground := Go.Ground.phase }, { on := 4, ground := Go.Ground.textOnly Go.Departure.lateStores }, { on := 5, ground := Go.Ground.textOnly Go.Departure.lateStores }, { on := 6, ground := Go.Ground.phase }], guard := none }, { dst := some 2, op := Go.Op.assign (Go.Operand.tmp 12), type := 9, pos := "law.go:38", after := #[{ on := 4, ground := Go.Ground.data }, { on := 7, ground := Go.Ground.chain }, { on := 0, ground := Go.Ground.phase }, { on := 1, ground := Go.Ground.phase }, { on := 2, ground := Go.Ground.phase }, { on := 3, ground := Go.Ground.phase }, { on := 4, ground := Go.Ground.phase }, { on := 5, ground := Go.Ground.textOnly Go.Departure.lateStores }, { on := 6, ground := Go.Ground.phase }, { on := 7, ground := Go.Ground.phase }], guard := none }, { dst := some 3, op := Go.Op.assign (Go.Operand.tmp 13), type := 4, pos := "law.go:38", after := #[{ on := 5, ground := Go.Ground.data }, { on := 8, ground := Go.Ground.chain }, { on := 0, ground := Go.Ground.phase }, { on := 1, ground := Go.Ground.phase }, { on := 2, ground := Go.Ground.phase }, { on := 3, ground := Go.Ground.phase }, { on := 4, ground := Go.Ground.phase }, { on := 5, ground := Go.Ground.phase }, { on := 6, ground := Go.Ground.phase }, { on := 7, ground := Go.Ground.phase }, { on := 8, ground := Go.Ground.phase }], guard := none }] false).wp Try.prog Q ⟨#[c0, c1, c2, c3, c4, c5, c6, c7, c8, c9, c10, c11, c12, c13, c14, c15, c16, c17, c18, c19, c20, c21, c22, c23, c24, c25, c26, c27, c28, c29, c30, c31, c32, c33, c34, c35, c36, c37, c38, c39, c40, c41, c42, c43, c44, c45, c46, c47], []⟩ W := by
  try dsimp only at hQ ⊢
  have HQ := Lib.hid hQ; clear hQ
  refine wp_region_lit (l := [{ dst := some 9, op := Go.Op.buildSlice 76 2 #[(0, Go.Operand.const (Go.Value.int Go.IntKind.u64 1)), (1, Go.Operand.const (Go.Value.int Go.IntKind.u64 2))], type := 76, pos := "law.go:38", after := #[], guard := none }, { dst := some 10, op := Go.Op.call { callee := Go.Callee.value (Go.Operand.func 30), args := #[Go.Operand.const (Go.Value.int Go.IntKind.i64 2), Go.Operand.const (Go.Value.string { data := #[0, 97, 98, 99, 0] }), Go.Operand.const (Go.Value.int Go.IntKind.u64 3), Go.Operand.tmp 9, Go.Operand.const (Go.Value.int Go.IntKind.u64 1)], argTypes := #[3, 9, 29, 76, 29] }, type := 77, pos := "law.go:38", after := #[{ on := 0, ground := Go.Ground.data }], guard := none }, { dst := some 8, op := Go.Op.move (Go.Operand.tmp 10), type := 77, pos := "law.go:38", after := #[{ on := 1, ground := Go.Ground.data }], guard := none }, { dst := some 11, op := Go.Op.extract (Go.Operand.tmp 8) 0, type := 42, pos := "law.go:38", after := #[{ on := 2, ground := Go.Ground.data }], guard := none }, { dst := some 12, op := Go.Op.extract (Go.Operand.tmp 8) 1, type := 9, pos := "law.go:38", after := #[{ on := 2, ground := Go.Ground.data }, { on := 7, ground := Go.Ground.gcOnly Go.Departure.lateStores }], guard := none }, { dst := some 13, op := Go.Op.extract (Go.Operand.tmp 8) 2, type := 4, pos := "law.go:38", after := #[{ on := 2, ground := Go.Ground.data }, { on := 8, ground := Go.Ground.gcOnly Go.Departure.lateStores }], guard := none }, { dst := some 1, op := Go.Op.alloc 42, type := 0, pos := "law.go:38", after := #[], guard := none }, { dst := none, op := Go.Op.store 42 (Go.Operand.tmp 1) (Go.Operand.tmp 11), type := 0, pos := "law.go:38", after := #[{ on := 6, ground := Go.Ground.data }, { on := 3, ground := Go.Ground.data }, { on := 1, ground := Go.Ground.chain }, { on := 0, ground := Go.Ground.phase }, { on := 1, ground := Go.Ground.phase }, { on := 2, ground := Go.Ground.phase }, { on := 3, ground := Go.Ground.phase }, { on := 4, ground := Go.Ground.textOnly Go.Departure.lateStores }, { on := 5, ground := Go.Ground.textOnly Go.Departure.lateStores }, { on := 6, ground := Go.Ground.phase }], guard := none }, { dst := some 2, op := Go.Op.assign (Go.Operand.tmp 12), type := 9, pos := "law.go:38", after := #[{ on := 4, ground := Go.Ground.data }, { on := 7, ground := Go.Ground.chain }, { on := 0, ground := Go.Ground.phase }, { on := 1, ground := Go.Ground.phase }, { on := 2, ground := Go.Ground.phase }, { on := 3, ground := Go.Ground.phase }, { on := 4, ground := Go.Ground.phase }, { on := 5, ground := Go.Ground.textOnly Go.Departure.lateStores }, { on := 6, ground := Go.Ground.phase }, { on := 7, ground := Go.Ground.phase }], guard := none }, { dst := some 3, op := Go.Op.assign (Go.Operand.tmp 13), type := 4, pos := "law.go:38", after := #[{ on := 5, ground := Go.Ground.data }, { on := 8, ground := Go.Ground.chain }, { on := 0, ground := Go.Ground.phase }, { on := 1, ground := Go.Ground.phase }, { on := 2, ground := Go.Ground.phase }, { on := 3, ground := Go.Ground.phase }, { on := 4, ground := Go.Ground.phase }, { on := 5, ground := Go.Ground.phase }, { on := 6, ground := Go.Ground.phase }, { on := 7, ground := Go.Ground.phase }, { on := 8, ground := Go.Ground.phase }], guard := none }]) ?_
  refine wpList_step (fun K hK => ?_)
  go_simp
  refine hK _ _ ?_
  clear hK K
  try simp only [Act.put, List.setIfInBounds_toArray, List.set_cons_zero, List.set_cons_succ]
  have hA := heap_alloc_new W (.cells #[.int .u64 1, .int .u64 2] 29)
  have hB1 := below_more (Below.refl W.heap.size W) (.cells #[.int .u64 1, .int .u64 2] 29)
  refine wpList_step (fun K hK => ?_)
  (first | go_at_call 30 | (go_simp; go_at_call 30))
  refine (HC.out _ _ hA).mono ?_
  rintro e w4 ⟨b4, v, hpv, rfl⟩
  have b5 := hB1.trans (b4.mono hB1.size)
  have hpv2 := hPV _ _ _ w4 hB1.size hpv (Below.refl _ _)
  obtain ⟨big, wide, abi, ver, pad, h0, h1, h2, h3, h4, h5, h6, h7, h8, h9, h10, h11, h12, As, ns, cs, Ap, np, cp, nm, rfl⟩ := hform _ _ _ hpv
  clear hpv hA hB1 b4
  try go_simp
  refine hK _ _ ?_
  clear hK K
  try simp only [Act.put, List.setIfInBounds_toArray, List.set_cons_zero, List.set_cons_succ]
  refine wpList_step (fun K hK => ?_)
  go_simp
  refine hK _ _ ?_
  clear hK K
  try simp only [Act.put, List.setIfInBounds_toArray, List.set_cons_zero, List.set_cons_succ]
  refine wpList_step (fun K hK => ?_)
  go_simp
  refine hK _ _ ?_
  clear hK K
  try simp only [Act.put, List.setIfInBounds_toArray, List.set_cons_zero, List.set_cons_succ]
  refine wpList_step (fun K hK => ?_)
  go_simp
  refine hK _ _ ?_
  clear hK K
  try simp only [Act.put, List.setIfInBounds_toArray, List.set_cons_zero, List.set_cons_succ]
  refine wpList_step (fun K hK => ?_)
  go_simp
  refine hK _ _ ?_
  clear hK K
  try simp only [Act.put, List.setIfInBounds_toArray, List.set_cons_zero, List.set_cons_succ]
  refine wpList_step (fun K hK => ?_)
  go_simp
  refine hK _ _ ?_
  clear hK K
  try simp only [Act.put, List.setIfInBounds_toArray, List.set_cons_zero, List.set_cons_succ]
  have hT := heap_alloc_new w4 (.cells #[.bool false, .bool false, .int .u8 0, .int .u8 0, .string ⟨#[]⟩, .int .u64 0, .int .u64 0, .int .u64 0, .int .u64 0, .int .u64 0, .int .u64 0, .int .u64 0, .int .u64 0, .int .u64 0, .int .u64 0, .int .u64 0, .int .u64 0, .int .u64 0, .slice none 0 0, .slice none 0 0, .int .u64 0] 42)
  refine wpList_store_rowTo rfl 42 _ _ rfl rfl w4.heap.size #[.bool big, .bool wide, .int .u8 (abi : Nat), .int .u8 (ver : Nat), .string pad, .int .u64 (h0 : Nat), .int .u64 (h1 : Nat), .int .u64 (h2 : Nat), .int .u64 (h3 : Nat), .int .u64 (h4 : Nat), .int .u64 (h5 : Nat), .int .u64 (h6 : Nat), .int .u64 (h7 : Nat), .int .u64 (h8 : Nat), .int .u64 (h9 : Nat), .int .u64 (h10 : Nat), .int .u64 (h11 : Nat), .int .u64 (h12 : Nat), .slice As ns cs, .slice Ap np cp, .int .u64 (nm : Nat)] (by rfl) (by rfl) 42 #[.bool false, .bool false, .int .u8 0, .int .u8 0, .string ⟨#[]⟩, .int .u64 0, .int .u64 0, .int .u64 0, .int .u64 0, .int .u64 0, .int .u64 0, .int .u64 0, .int .u64 0, .int .u64 0, .int .u64 0, .int .u64 0, .int .u64 0, .int .u64 0, .slice none 0 0, .slice none 0 0, .int .u64 0] hT (by kernel_rfl) rfl (by simp [Value.oneCell']) ?_
  try simp only [Act.put, List.setIfInBounds_toArray, List.set_cons_zero, List.set_cons_succ]
  refine wpList_step (fun K hK => ?_)
  go_simp
  refine hK _ _ ?_
  clear hK K
  try simp only [Act.put, List.setIfInBounds_toArray, List.set_cons_zero, List.set_cons_succ]
  refine wpList_step (fun K hK => ?_)
  go_simp
  refine hK _ _ ?_
  clear hK K
  try simp only [Act.put, List.setIfInBounds_toArray, List.set_cons_zero, List.set_cons_succ]
  refine wpList_nil ?_
  exact HQ.out _ _ _ _ _ _ _ _ _ _ _ _ _ _ _ _ _ _ _ _ _ _ _ _ _ _ _ _ _ _ _ _ _ (hPV _ _ _ _ (Nat.le_refl _) hpv2 (setRow_below (((Below.refl w4.heap.size w4).alloc (Nat.le_refl _) _)) (Nat.le_refl _) _)) (setRow_heap' _ _ _ _ _ _ hT) (setRow_below (b5.alloc b5.size _) b5.size _)
set_option maxRecDepth 1000000 in
set_option maxHeartbeats 2000000 in
theorem spreg2 (Q : Exit → Act → World → Prop) (c0 c3 c4 c5 c6 c7 c8 c9 c10 c11 c12 c13 c14 c15 c16 c17 c18 c19 c20 c21 c22 c23 c24 c25 c26 c27 c28 c29 c30 c31 c32 c33 c34 c35 c36 c37 c38 c39 c40 c41 c42 c43 c44 c45 c46 c47 : Value) (big wide : Bool) (abi ver : Nat) (pad : ByteArray) (h0 h1 h2 h3 h4 h5 h6 h7 h8 h9 h10 h11 h12 : Nat) (As : Option Addr) (ns cs : Nat) (Ap : Option Addr) (np cp : Nat) (nm : Nat) (B : Nat) (V : ByteArray) (W : World) (PS : World → Nat → World → Prop) (hB : W.heap[B]? = some (.cells #[.bool big, .bool wide, .int .u8 (abi : Nat), .int .u8 (ver : Nat), .string pad, .int .u64 (h0 : Nat), .int .u64 (h1 : Nat), .int .u64 (h2 : Nat), .int .u64 (h3 : Nat), .int .u64 (h4 : Nat), .int .u64 (h5 : Nat), .int .u64 (h6 : Nat), .int .u64 (h7 : Nat), .int .u64 (h8 : Nat), .int .u64 (h9 : Nat), .int .u64 (h10 : Nat), .int .u64 (h11 : Nat), .int .u64 (h12 : Nat), .slice As ns cs, .slice Ap np cp, .int .u64 (nm : Nat)] 42 (0, 0)))
    (HC : Hid (Calls Try.prog 31 #[.agg #[.bool big, .bool wide, .int .u8 (abi : Nat), .int .u8 (ver : Nat), .string pad, .int .u64 (h0 : Nat), .int .u64 (h1 : Nat), .int .u64 (h2 : Nat), .int .u64 (h3 : Nat), .int .u64 (h4 : Nat), .int .u64 (h5 : Nat), .int .u64 (h6 : Nat), .int .u64 (h7 : Nat), .int .u64 (h8 : Nat), .int .u64 (h9 : Nat), .int .u64 (h10 : Nat), .int .u64 (h11 : Nat), .int .u64 (h12 : Nat), .slice As ns cs, .slice Ap np cp, .int .u64 (nm : Nat)], .string V] W fun e w' => Below W.heap.size W w' ∧ ∃ b, PS W b w' ∧ e = .returned (.tuple #[.slice (some ⟨b, 0, none⟩) 4 4, .int .i64 0])))
    (hQ : ∀ (u14 u15 u16 u17 u18 u19 : Value) (b : Nat) (w' : World), PS W b w' → Below W.heap.size W w' → Q .normal ⟨#[c0, .pointer (some ⟨B, 0, none⟩), .string V, c3, .slice (some ⟨b, 0, none⟩) 4 4, .int .i64 0, c6, c7, c8, c9, c10, c11, c12, c13, u14, u15, u16, u17, u18, u19, c20, c21, c22, c23, c24, c25, c26, c27, c28, c29, c30, c31, c32, c33, c34, c35, c36, c37, c38, c39, c40, c41, c42, c43, c44, c45, c46, c47], []⟩ w') :
    (Code.region 2 #[{ dst := some 15, op := Go.Op.load 42 (Go.Operand.tmp 1), type := 42, pos := "law.go:39", after := #[], guard := none }, { dst := some 16, op := Go.Op.move (Go.Operand.tmp 2), type := 9, pos := "law.go:39", after := #[], guard := none }, { dst := some 17, op := Go.Op.call { callee := Go.Callee.value (Go.Operand.func 31), args := #[Go.Operand.tmp 15, Go.Operand.tmp 16], argTypes := #[42, 9] }, type := 80, pos := "law.go:39", after := #[{ on := 0, ground := Go.Ground.data }, { on := 1, ground := Go.Ground.data }], guard := none }, { dst := some 14, op := Go.Op.move (Go.Operand.tmp 17), type := 80, pos := "law.go:39", after := #[{ on := 2, ground := Go.Ground.data }], guard := none }, { dst := some 18, op := Go.Op.extract (Go.Operand.tmp 14) 0, type := 79, pos := "law.go:39", after := #[{ on := 3, ground := Go.Ground.data }], guard := none }, { dst := some 19, op := Go.Op.extract (Go.Operand.tmp 14) 1, type := 43, pos := "law.go:39", after := #[{ on := 3, ground := Go.Ground.data }, { on := 6, ground := Go.Ground.gcOnly Go.Departure.lateStores }], guard := none }, { dst := some 4, op := Go.Op.assign (Go.Operand.tmp 18), type := 79, pos := "law.go:39", after := #[{ on := 4, ground := Go.Ground.data }, { on := 2, ground := Go.Ground.chain }, { on := 0, ground := Go.Ground.phase }, { on := 1, ground := Go.Ground.phase }, { on := 2, ground := Go.Ground.phase }, { on := 3, ground := Go.Ground.phase }, { on := 4, ground := Go.Ground.phase }, { on := 5, ground := Go.Ground.textOnly Go.Departure.lateStores }], guard := none }, { dst := some 5, op := Go.Op.assign (Go.Operand.tmp 19), type := 43, pos := "law.go:39", after := #[{ on := 5, ground := Go.Ground.data }, { on := 6, ground := Go.Ground.chain }, { on := 0, ground := Go.Ground.phase }, { on := 1, ground := Go.Ground.phase }, { on := 2, ground := Go.Ground.phase }, { on := 3, ground := Go.Ground.phase }, { on := 4, ground := Go.Ground.phase }, { on := 5, ground := Go.Ground.phase }, { on := 6, ground := Go.Ground.phase }], guard := none }] false).wp Try.prog Q ⟨#[c0, .pointer (some ⟨B, 0, none⟩), .string V, c3, c4, c5, c6, c7, c8, c9, c10, c11, c12, c13, c14, c15, c16, c17, c18, c19, c20, c21, c22, c23, c24, c25, c26, c27, c28, c29, c30, c31, c32, c33, c34, c35, c36, c37, c38, c39, c40, c41, c42, c43, c44, c45, c46, c47], []⟩ W := by
  try dsimp only at hQ ⊢
  have HQ := Lib.hid hQ; clear hQ
  refine wp_region_lit (l := [{ dst := some 15, op := Go.Op.load 42 (Go.Operand.tmp 1), type := 42, pos := "law.go:39", after := #[], guard := none }, { dst := some 16, op := Go.Op.move (Go.Operand.tmp 2), type := 9, pos := "law.go:39", after := #[], guard := none }, { dst := some 17, op := Go.Op.call { callee := Go.Callee.value (Go.Operand.func 31), args := #[Go.Operand.tmp 15, Go.Operand.tmp 16], argTypes := #[42, 9] }, type := 80, pos := "law.go:39", after := #[{ on := 0, ground := Go.Ground.data }, { on := 1, ground := Go.Ground.data }], guard := none }, { dst := some 14, op := Go.Op.move (Go.Operand.tmp 17), type := 80, pos := "law.go:39", after := #[{ on := 2, ground := Go.Ground.data }], guard := none }, { dst := some 18, op := Go.Op.extract (Go.Operand.tmp 14) 0, type := 79, pos := "law.go:39", after := #[{ on := 3, ground := Go.Ground.data }], guard := none }, { dst := some 19, op := Go.Op.extract (Go.Operand.tmp 14) 1, type := 43, pos := "law.go:39", after := #[{ on := 3, ground := Go.Ground.data }, { on := 6, ground := Go.Ground.gcOnly Go.Departure.lateStores }], guard := none }, { dst := some 4, op := Go.Op.assign (Go.Operand.tmp 18), type := 79, pos := "law.go:39", after := #[{ on := 4, ground := Go.Ground.data }, { on := 2, ground := Go.Ground.chain }, { on := 0, ground := Go.Ground.phase }, { on := 1, ground := Go.Ground.phase }, { on := 2, ground := Go.Ground.phase }, { on := 3, ground := Go.Ground.phase }, { on := 4, ground := Go.Ground.phase }, { on := 5, ground := Go.Ground.textOnly Go.Departure.lateStores }], guard := none }, { dst := some 5, op := Go.Op.assign (Go.Operand.tmp 19), type := 43, pos := "law.go:39", after := #[{ on := 5, ground := Go.Ground.data }, { on := 6, ground := Go.Ground.chain }, { on := 0, ground := Go.Ground.phase }, { on := 1, ground := Go.Ground.phase }, { on := 2, ground := Go.Ground.phase }, { on := 3, ground := Go.Ground.phase }, { on := 4, ground := Go.Ground.phase }, { on := 5, ground := Go.Ground.phase }, { on := 6, ground := Go.Ground.phase }], guard := none }]) ?_
  refine wpList_load_mid rfl 42 _ rfl B 0 (by rfl) [.bool big, .bool wide, .int .u8 (abi : Nat), .int .u8 (ver : Nat), .string pad, .int .u64 (h0 : Nat), .int .u64 (h1 : Nat), .int .u64 (h2 : Nat), .int .u64 (h3 : Nat), .int .u64 (h4 : Nat), .int .u64 (h5 : Nat), .int .u64 (h6 : Nat), .int .u64 (h7 : Nat), .int .u64 (h8 : Nat), .int .u64 (h9 : Nat), .int .u64 (h10 : Nat), .int .u64 (h11 : Nat), .int .u64 (h12 : Nat), .slice As ns cs, .slice Ap np cp, .int .u64 (nm : Nat)] _ (range_of hB (by rfl)) Try.underlying42 (by rfl) (by kernel_rfl) ?_
  try simp only [Act.put, List.setIfInBounds_toArray, List.set_cons_zero, List.set_cons_succ]
  refine wpList_step (fun K hK => ?_)
  go_simp
  refine hK _ _ ?_
  clear hK K
  try simp only [Act.put, List.setIfInBounds_toArray, List.set_cons_zero, List.set_cons_succ]
  refine wpList_step (fun K hK => ?_)
  (first | go_at_call 31 | (go_simp; go_at_call 31))
  refine (HC.out).mono ?_
  rintro e w4 ⟨b4, b, hps, rfl⟩
  try go_simp
  refine hK _ _ ?_
  clear hK K
  try simp only [Act.put, List.setIfInBounds_toArray, List.set_cons_zero, List.set_cons_succ]
  refine wpList_step (fun K hK => ?_)
  go_simp
  refine hK _ _ ?_
  clear hK K
  try simp only [Act.put, List.setIfInBounds_toArray, List.set_cons_zero, List.set_cons_succ]
  refine wpList_step (fun K hK => ?_)
  go_simp
  refine hK _ _ ?_
  clear hK K
  try simp only [Act.put, List.setIfInBounds_toArray, List.set_cons_zero, List.set_cons_succ]
  refine wpList_step (fun K hK => ?_)
  go_simp
  refine hK _ _ ?_
  clear hK K
  try simp only [Act.put, List.setIfInBounds_toArray, List.set_cons_zero, List.set_cons_succ]
  refine wpList_step (fun K hK => ?_)
  go_simp
  refine hK _ _ ?_
  clear hK K
  try simp only [Act.put, List.setIfInBounds_toArray, List.set_cons_zero, List.set_cons_succ]
  refine wpList_step (fun K hK => ?_)
  go_simp
  refine hK _ _ ?_
  clear hK K
  try simp only [Act.put, List.setIfInBounds_toArray, List.set_cons_zero, List.set_cons_succ]
  refine wpList_nil ?_
  exact HQ.out _ _ _ _ _ _ _ _ hps b4
theorem vput0 (u : World) : Calls Try.prog 47 #[.agg #[.bool false, .bool true], .agg #[.int .u64 0, .int .u64 0, .int .u64 0, .int .u64 0, .int .u64 0, .int .u64 0, .int .u64 0, .int .u64 0, .int .u64 0, .int .u64 0]] u fun e w' => e = .returned (.tuple #[.string (vS [0, 0, 0, 0, 0, 0, 0, 0, 0, 0]), .bool true]) ∧ Below u.heap.size u w' :=
  sput false true 0 0 0 0 0 0 0 0 0 0 (by decide) (vS [0, 0, 0, 0, 0, 0, 0, 0, 0, 0]) true (by
    right; left
    refine ⟨rfl, ?_, by kernel_rfl, rfl⟩
    intro k hk
    have : ∀ k : Fin 10, 0 ≤ fullZ true (sSizes.getD k.1 0) ∧ fullZ true (sSizes.getD k.1 0) ≤ 8 ∧ ([0, 0, 0, 0, 0, 0, 0, 0, 0, 0] : List Nat).getD k.1 0 < 256 ^ (fullZ true (sSizes.getD k.1 0)).toNat := by decide
    exact this ⟨k, hk⟩) u
theorem vput1 (u : World) : Calls Try.prog 47 #[.agg #[.bool false, .bool true], .agg #[.int .u64 0, .int .u64 3, .int .u64 0, .int .u64 0, .int .u64 64, .int .u64 5, .int .u64 0, .int .u64 0, .int .u64 0, .int .u64 0]] u fun e w' => e = .returned (.tuple #[.string (vS [0, 3, 0, 0, 64, 5, 0, 0, 0, 0]), .bool true]) ∧ Below u.heap.size u w' :=
  sput false true 0 3 0 0 64 5 0 0 0 0 (by decide) (vS [0, 3, 0, 0, 64, 5, 0, 0, 0, 0]) true (by
    right; left
    refine ⟨rfl, ?_, by kernel_rfl, rfl⟩
    intro k hk
    have : ∀ k : Fin 10, 0 ≤ fullZ true (sSizes.getD k.1 0) ∧ fullZ true (sSizes.getD k.1 0) ≤ 8 ∧ ([0, 3, 0, 0, 64, 5, 0, 0, 0, 0] : List Nat).getD k.1 0 < 256 ^ (fullZ true (sSizes.getD k.1 0)).toNat := by decide
    exact this ⟨k, hk⟩) u
theorem vput2 (u : World) : Calls Try.prog 47 #[.agg #[.bool false, .bool true], .agg #[.int .u64 1, .int .u64 8, .int .u64 0, .int .u64 0, .int .u64 0, .int .u64 0, .int .u64 0, .int .u64 0, .int .u64 0, .int .u64 0]] u fun e w' => e = .returned (.tuple #[.string (vS [1, 8, 0, 0, 0, 0, 0, 0, 0, 0]), .bool true]) ∧ Below u.heap.size u w' :=
  sput false true 1 8 0 0 0 0 0 0 0 0 (by decide) (vS [1, 8, 0, 0, 0, 0, 0, 0, 0, 0]) true (by
    right; left
    refine ⟨rfl, ?_, by kernel_rfl, rfl⟩
    intro k hk
    have : ∀ k : Fin 10, 0 ≤ fullZ true (sSizes.getD k.1 0) ∧ fullZ true (sSizes.getD k.1 0) ≤ 8 ∧ ([1, 8, 0, 0, 0, 0, 0, 0, 0, 0] : List Nat).getD k.1 0 < 256 ^ (fullZ true (sSizes.getD k.1 0)).toNat := by decide
    exact this ⟨k, hk⟩) u
theorem vput3 (u : World) : Calls Try.prog 47 #[.agg #[.bool false, .bool true], .agg #[.int .u64 2, .int .u64 8, .int .u64 0, .int .u64 0, .int .u64 0, .int .u64 0, .int .u64 0, .int .u64 0, .int .u64 0, .int .u64 0]] u fun e w' => e = .returned (.tuple #[.string (vS [2, 8, 0, 0, 0, 0, 0, 0, 0, 0]), .bool true]) ∧ Below u.heap.size u w' :=
  sput false true 2 8 0 0 0 0 0 0 0 0 (by decide) (vS [2, 8, 0, 0, 0, 0, 0, 0, 0, 0]) true (by
    right; left
    refine ⟨rfl, ?_, by kernel_rfl, rfl⟩
    intro k hk
    have : ∀ k : Fin 10, 0 ≤ fullZ true (sSizes.getD k.1 0) ∧ fullZ true (sSizes.getD k.1 0) ≤ 8 ∧ ([2, 8, 0, 0, 0, 0, 0, 0, 0, 0] : List Nat).getD k.1 0 < 256 ^ (fullZ true (sSizes.getD k.1 0)).toNat := by decide
    exact this ⟨k, hk⟩) u
theorem vputE (u : World) : Calls Try.prog 49 #[.agg #[.bool false, .bool true], .agg #[.int .u64 0, .int .u64 0, .int .u64 1, .int .u64 0, .int .u64 0, .int .u64 69, .int .u64 0, .int .u64 (ehs true : Nat), .int .u64 (phs true : Nat), .int .u64 0, .int .u64 (shs true : Nat), .int .u64 4, .int .u64 1]] u fun e w' => e = .returned (.tuple #[.string vE, .bool true]) ∧ Below u.heap.size u w' :=
  eput false true 0 0 1 0 0 69 0 (ehs true) (phs true) 0 (shs true) 4 1 (by decide) vE true (by
    right; left
    refine ⟨rfl, ?_, by kernel_rfl, rfl⟩
    intro k hk
    have : ∀ k : Fin 13, 0 ≤ fullZ true (eSizes.getD k.1 0) ∧ fullZ true (eSizes.getD k.1 0) ≤ 8 ∧ ([0, 0, 1, 0, 0, 69, 0, ehs true, phs true, 0, shs true, 4, 1] : List Nat).getD k.1 0 < 256 ^ (fullZ true (eSizes.getD k.1 0)).toNat := by decide
    exact this ⟨k, hk⟩) u
theorem vbytes (u : World) : Calls Try.prog 25 #[.agg #[.bool false, .bool true, .int .u8 0, .int .u8 0, .string ⟨#[]⟩]] u fun e w' => e = .returned (.string vI) ∧ Below u.heap.size u w' := bytes_any false true 0 0 ⟨#[]⟩ u
def MadeIs (u : World) (v : Value) (w' : World) : Prop := FileIs (Pop.popF 64) vW u v 0 w'
theorem vmade (b : Nat) (u : World) (hb : u.heap[b]? = some (.cells #[.int .u64 1, .int .u64 2] 29 (0, 0))) :
    Calls Try.prog 30 #[.int .i64 2, .string ⟨#[0, 97, 98, 99, 0]⟩, .int .u64 3, .slice (some ⟨b, 0, none⟩) 2 2, .int .u64 1] u fun e w' => Below u.heap.size u w' ∧ ∃ v, MadeIs u v w' ∧ e = .returned (.tuple #[v, .string vW, .bool true]) := by
  have hm := made_any (Pop.popF 64) (Lib.hid (fun x hx u => ones_any x u hx)) 2 false true (by decide) (by decide) vT (vS [0, 0, 0, 0, 0, 0, 0, 0, 0, 0]) (vS [0, 3, 0, 0, 64, 5, 0, 0, 0, 0]) vE vI true true true 3 1 2 2 64 69 4 (some ⟨b, 0, none⟩) vR (fun i => vS [vR i, 8, 0, 0, 0, 0, 0, 0, 0, 0]) (fun _ => true)
    (by decide) (by decide) rfl rfl rfl (by decide +kernel) (by decide +kernel) (by decide +kernel) (by decide +kernel) (fun i => by
      unfold vR; split <;> decide +kernel)
    (Lib.hid vput0) (Lib.hid vput1) (Lib.hid (fun i hi => by
      match i, hi with
      | 0, _ => exact vput2
      | 1, _ => exact vput3)) (Lib.hid vputE) (Lib.hid vbytes) u (fun i hi => ?_)
  · refine hm.mono ?_
    rintro e w' ⟨hB, ⟨⟨i, _, h⟩, _⟩ | ⟨_, v, k, hfi, he⟩⟩
    · cases h
    · have hk : k = 0 := by
        rcases hfi with ⟨h0, _⟩ | ⟨_, h1, _⟩
        · exact absurd vW_err h0
        · exact h1
      subst hk
      exact ⟨hB, v, hfi, he⟩
  · refine ⟨b, 0, rfl, heap_lt hb, ?_⟩
    rw [Lib.cell_of_heap hb]
    match i, hi with
    | 0, _ => rfl
    | 1, _ => rfl
def SecIs (b : Nat) (w' : World) : Prop := w'.heap[b]? = some (.cells (rowT (fun i => strAt vT (fSec vW i 0)) 4 4) 9 (0, 0))
theorem vsecs (big wide : Bool) (abi ver : Nat) (pad : ByteArray) (h0 h1 h2 h3 h4 h5 h6 h7 h8 h9 h10 h11 h12 : Nat) (As : Option Addr) (ns cs : Nat) (Ap : Option Addr) (np cp : Nat) (nm : Nat) (u W : World) (h : MadeIs u (.agg #[.bool big, .bool wide, .int .u8 (abi : Nat), .int .u8 (ver : Nat), .string pad, .int .u64 (h0 : Nat), .int .u64 (h1 : Nat), .int .u64 (h2 : Nat), .int .u64 (h3 : Nat), .int .u64 (h4 : Nat), .int .u64 (h5 : Nat), .int .u64 (h6 : Nat), .int .u64 (h7 : Nat), .int .u64 (h8 : Nat), .int .u64 (h9 : Nat), .int .u64 (h10 : Nat), .int .u64 (h11 : Nat), .int .u64 (h12 : Nat), .slice As ns cs, .slice Ap np cp, .int .u64 (nm : Nat)]) W) : Calls Try.prog 31 #[.agg #[.bool big, .bool wide, .int .u8 (abi : Nat), .int .u8 (ver : Nat), .string pad, .int .u64 (h0 : Nat), .int .u64 (h1 : Nat), .int .u64 (h2 : Nat), .int .u64 (h3 : Nat), .int .u64 (h4 : Nat), .int .u64 (h5 : Nat), .int .u64 (h6 : Nat), .int .u64 (h7 : Nat), .int .u64 (h8 : Nat), .int .u64 (h9 : Nat), .int .u64 (h10 : Nat), .int .u64 (h11 : Nat), .int .u64 (h12 : Nat), .slice As ns cs, .slice Ap np cp, .int .u64 (nm : Nat)], .string vW] W fun e w' => Below W.heap.size W w' ∧ ∃ b, SecIs b w' ∧ e = .returned (.tuple #[.slice (some ⟨b, 0, none⟩) 4 4, .int .i64 0]) := by
  rcases h with ⟨h0, _⟩ | ⟨_, _, A, c, b2, hA, _, _, _, hv⟩
  · exact absurd vW_err h0
  rw [hv]
  refine (sections_any (bigB vW) (wideB vW) (byteN vW 7) (byteN vW 8) (vW.extract 9 16) (hdN vW 0) (hdN vW 1) (hdN vW 2) (hdN vW 3) (hdN vW 4) (hdN vW 5) (hdN vW 6) (hdN vW 7) (hdN vW 8) (hdN vW 9) (hdN vW 10) (hdN vW 11) (hdN vW 12) A (nSec vW) c (some ⟨b2, 0, none⟩) (nSeg vW) (nSeg vW) (nameS vW) (fSec vW) vW W (fun hp => by
    obtain ⟨b, _, _, e3, e4⟩ := hA hp
    exact ⟨b, e3, e4⟩) (fSec_64 vW) (by rw [vW_size]; decide) (by rw [vW_nm]; decide) (by rw [vW_n]; decide)).mono ?_
  rintro e w' hp
  unfold NSecPost at hp
  rw [vW_n, vW_nm, vW_tab] at hp
  rcases hp with ⟨hB, ⟨_, _, b, _, rfl, hr⟩ | ⟨h | h, _⟩⟩
  · exact ⟨hB, b, hr, rfl⟩
  · exact absurd (.inr vW_ok) h
  · rw [vW_all] at h; exact absurd h (by decide)
theorem vfind : findN (fun i => strAt vT (fSec vW i 0)) ⟨#[98, 99]⟩ 4 = 3 := by
  have n0 : ¬ strAt vT (fSec vW 0 0) = ⟨#[98, 99]⟩ := by rw [vW_0]; decide
  have n1 : ¬ strAt vT (fSec vW 1 0) = ⟨#[98, 99]⟩ := by rw [vW_1]; decide
  have n2 : ¬ strAt vT (fSec vW 2 0) = ⟨#[98, 99]⟩ := by rw [vW_2]; decide
  have f0 : findN (fun i => strAt vT (fSec vW i 0)) ⟨#[98, 99]⟩ 0 = 0 := rfl
  have f1 := findN_next f0 n0
  have f2 := findN_next f1 n1
  have f3 := findN_next f2 n2
  exact findN_stop f3 vW_3 4 (by decide)
set_option maxRecDepth 1000000 in
set_option maxHeartbeats 4000000 in
theorem speaks_any (w : World) : Calls Try.prog 29 #[] w fun e w' => e = .returned (.bool true) ∧ Below w.heap.size w w' := by
  go_enter Try.func29, Try.ntmps29
  go_upto_region 1 with (fail)
  refine spreg1 _ _ _ _ _ _ _ _ _ _ _ _ _ _ _ _ _ _ _ _ _ _ _ _ _ _ _ _ _ _ _ _ _ _ _ _ _ _ _ _ _ _ _ _ _ _ _ _ _ vW w MadeIs (fun u v w1 w2 hu hp hb => (FileIs.stay hp (fun b _ h2 => hb.block b h2)).base hu) (fun u v w1 hp => FileIs.form hp) (Lib.hid (fun u b hb => vmade b u hb)) (fun u8 u9 u10 u11 u12 u13 B big wide abi ver pad h0 h1 h2 h3 h4 h5 h6 h7 h8 h9 h10 h11 h12 As ns cs Ap np cp nm w1 hpv hB b1 => ?_)
  have HPV := Lib.hid hpv; have HB1 := Lib.hid b1; have HB := Lib.hid hB; clear hpv b1 hB
  go_upto_region 2 with (fail)
  refine spreg2 _ _ _ _ _ _ _ _ _ _ _ _ _ _ _ _ _ _ _ _ _ _ _ _ _ _ _ _ _ _ _ _ _ _ _ _ _ _ _ _ _ _ _ _ _ _ _ big wide abi ver pad h0 h1 h2 h3 h4 h5 h6 h7 h8 h9 h10 h11 h12 As ns cs Ap np cp nm B vW w1 (fun _ b w' => SecIs b w') HB.out (Lib.hid (vsecs big wide abi ver pad h0 h1 h2 h3 h4 h5 h6 h7 h8 h9 h10 h11 h12 As ns cs Ap np cp nm w w1 HPV.out)) (fun u14 u15 u16 u17 u18 u19 b w2 hs b2 => ?_)
  have HB2 := Lib.hid (HB1.out.trans (b2.mono HB1.out.size)); clear b2 HPV HB1 HB
  have hfd := find_any (some ⟨b, 0, none⟩) 4 4 (fun i => strAt vT (fSec vW i 0)) ⟨#[98, 99]⟩ (by decide) w2 (rowS_of_block hs)
  rw [vfind, if_pos (by decide), decide_eq_true (by decide)] at hfd
  have HFD := Lib.hid hfd; clear hfd
  have c2 : w2.cell? ⟨b, 2, none⟩ = some (.string ⟨#[97, 98, 99]⟩) := by
    rw [Lib.cell_of_heap hs]
    show (rowT (fun i => strAt vT (fSec vW i 0)) 4 4)[2]? = _
    rw [rowT_at, if_pos (by decide), if_pos (by decide), vW_2]
  clear hs
  generalize vW = V at *
  go_wp2_with (go_at_call 35; with_reducible refine HFD.out.mono ?_; rintro e w' ⟨rfl, rfl⟩)
  go_ret
  exact ⟨rfl, HB2.out⟩
end Go.Proofs.Ytedocnidgiglaaa
