/- The regions of RawAny's walk. Conditions: those written in each theorem. -/
import Derived.Test.YtedocnidgiglaaaJG
import Derived.Test.YtedocnidgiglaaaVN
namespace Go.Proofs.Ytedocnidgiglaaa
open Go.RowKit
set_option linter.unusedVariables false
set_option linter.unusedSimpArgs false
set_option maxRecDepth 1000000 in
set_option maxHeartbeats 2000000 in
theorem areg3 (Q : Exit → Act → World → Prop) (c0 c2 c3 c4 c5 c6 c7 c8 c9 c10 c11 c12 c13 c14 c15 c16 c17 c18 c19 c20 c21 c22 c23 c24 c25 c26 c27 c28 c29 c30 c31 c32 c33 c34 c35 c36 c37 c38 c39 c40 c41 c42 : Value) (s T : ByteArray) (m : Nat) (W : World) (mT1 : (if (s.size : Int) ≤ 400 then (s.size : Int) else 400) = (m : Int)) (mT2 : min (s.size : Int) 400 = (m : Int)) (tT0 : (0 : Int) ≤ (m : Int)) (tT1 : (m : Int) ≤ (s.size : Int)) (eT : s.extract 0 (m : Int).toNat = T) (eT2 : s.extract 0 m = T)
    (hQ : ∀ (u12 u13 u14 u15 u16 : Value) (w' : World), Below W.heap.size W w' → Q .normal ⟨#[c0, .string T, c2, c3, c4, c5, c6, c7, c8, c9, c10, c11, u12, u13, u14, u15, u16, c17, c18, c19, c20, c21, c22, c23, c24, c25, c26, c27, c28, c29, c30, c31, c32, c33, c34, c35, c36, c37, c38, c39, c40, c41, c42], []⟩ w') :
    (Code.region 3 #[⟨some 12, .move (.tmp 1), 9, "law.go:172", #[], none⟩, ⟨some 13, .move (.tmp 1), 9, "law.go:172", #[], none⟩, ⟨some 14, .call { callee := .builtin .len, args := #[.tmp 13], argTypes := #[9] }, 3, "law.go:172", #[⟨1, .data⟩], none⟩, ⟨some 15, .call { callee := .builtin .min, args := #[.tmp 14, .const (.int .i64 400)], argTypes := #[3, 3] }, 3, "law.go:172", #[⟨2, .data⟩], none⟩, ⟨some 16, .slice 9 (.tmp 12) none (some (.tmp 15)) none, 9, "law.go:172", #[⟨0, .data⟩, ⟨3, .data⟩], none⟩, ⟨some 1, .assign (.tmp 16), 9, "law.go:172", #[⟨4, .data⟩, ⟨0, .phase⟩, ⟨1, .phase⟩, ⟨2, .phase⟩, ⟨3, .phase⟩, ⟨4, .phase⟩], none⟩] false).wp Try.prog Q ⟨#[c0, .string s, c2, c3, c4, c5, c6, c7, c8, c9, c10, c11, c12, c13, c14, c15, c16, c17, c18, c19, c20, c21, c22, c23, c24, c25, c26, c27, c28, c29, c30, c31, c32, c33, c34, c35, c36, c37, c38, c39, c40, c41, c42], []⟩ W := by
  try dsimp only at hQ ⊢
  have HQ := Lib.hid hQ; clear hQ
  refine wp_region_lit (l := _) ?_
  refine wpList_step (fun K hK => ?_)
  go_simp
  refine hK _ _ ?_
  clear hK K
  try simp only [Act.put, List.setIfInBounds_toArray, List.set_cons_zero, List.set_cons_succ]
  refine wpList_step (fun K hK => ?_)
  go_simp
  refine hK _ _ ?_
  clear hK K
  try simp only [Act.put, List.setIfInBounds_toArray, List.set_cons_zero, List.set_cons_succ]
  refine wpList_step (fun K hK => ?_)
  go_simp
  refine hK _ _ ?_
  clear hK K
  try simp only [Act.put, List.setIfInBounds_toArray, List.set_cons_zero, List.set_cons_succ]
  refine wpList_step (fun K hK => ?_)
  go_simp
  refine hK _ _ ?_
  clear hK K
  try simp only [Act.put, List.setIfInBounds_toArray, List.set_cons_zero, List.set_cons_succ]
  refine wpList_step (fun K hK => ?_)
  go_simp
  refine hK _ _ ?_
  clear hK K
  try simp only [Act.put, List.setIfInBounds_toArray, List.set_cons_zero, List.set_cons_succ]
  refine wpList_step (fun K hK => ?_)
  go_simp
  refine hK _ _ ?_
  clear hK K
  try simp only [Act.put, List.setIfInBounds_toArray, List.set_cons_zero, List.set_cons_succ]
  refine wpList_nil ?_
  exact HQ.out _ _ _ _ _ _ (Below.refl _ _)
set_option maxRecDepth 1000000 in
set_option maxHeartbeats 2000000 in
theorem areg4 (Q : Exit → Act → World → Prop) (c2 c3 c4 c5 c6 c7 c8 c9 c10 c11 c12 c13 c14 c15 c16 c17 c18 c19 c20 c21 c22 c23 c24 c25 c26 c27 c28 c29 c30 c31 c32 c33 c34 c35 c36 c37 c38 c39 c40 c41 c42 : Value) (fl : Int) (big wide : Bool) (T I V : ByteArray) (W : World) (s1 : ∀ u, (Op.stringOp .add I T).run Try.prog u = .ok (.string V) u)
    (HF : Hid (∀ u, Calls Try.prog 24 #[.int .i64 fl] u fun e w' => e = .returned (.agg #[.bool big, .bool wide]) ∧ Below u.heap.size u w'))
    (HC : Hid (∀ u, Calls Try.prog 25 #[.agg #[.bool big, .bool wide, .int .u8 0, .int .u8 0, .string ⟨#[]⟩]] u fun e w' => e = .returned (.string I) ∧ Below u.heap.size u w'))
    (hQ : ∀ (u17 u18 u19 u20 u21 u22 : Value) (w' : World), Below W.heap.size W w' → Q .normal ⟨#[.int .i64 fl, .string T, c2, c3, c4, .string V, c6, c7, c8, c9, c10, c11, c12, c13, c14, c15, c16, u17, u18, u19, u20, u21, u22, c23, c24, c25, c26, c27, c28, c29, c30, c31, c32, c33, c34, c35, c36, c37, c38, c39, c40, c41, c42], []⟩ w') :
    (Code.region 4 #[⟨some 17, .move (.tmp 0), 3, "law.go:173", #[], none⟩, ⟨some 18, .call { callee := .value (.func 24), args := #[.tmp 17], argTypes := #[3] }, 34, "law.go:173", #[⟨0, .data⟩], none⟩, ⟨some 19, .build 36 #[(0, .tmp 18)], 36, "law.go:173", #[⟨1, .data⟩], none⟩, ⟨some 20, .call { callee := .value (.func 25), args := #[.tmp 19], argTypes := #[36] }, 9, "law.go:173", #[⟨2, .data⟩, ⟨1, .chain⟩], none⟩, ⟨some 21, .move (.tmp 1), 9, "law.go:173", #[], none⟩, ⟨some 22, .binOp .add 9 (.tmp 20) (.tmp 21) 9, 9, "law.go:173", #[⟨3, .data⟩, ⟨4, .data⟩], none⟩, ⟨some 5, .assign (.tmp 22), 9, "law.go:173", #[⟨5, .data⟩, ⟨3, .chain⟩, ⟨0, .phase⟩, ⟨1, .phase⟩, ⟨2, .phase⟩, ⟨3, .phase⟩, ⟨4, .phase⟩, ⟨5, .phase⟩], none⟩] false).wp Try.prog Q ⟨#[.int .i64 fl, .string T, c2, c3, c4, c5, c6, c7, c8, c9, c10, c11, c12, c13, c14, c15, c16, c17, c18, c19, c20, c21, c22, c23, c24, c25, c26, c27, c28, c29, c30, c31, c32, c33, c34, c35, c36, c37, c38, c39, c40, c41, c42], []⟩ W := by
  try dsimp only at hQ ⊢
  have HQ := Lib.hid hQ; clear hQ
  refine wp_region_lit (l := _) ?_
  refine wpList_step (fun K hK => ?_)
  go_simp
  refine hK _ _ ?_
  clear hK K
  try simp only [Act.put, List.setIfInBounds_toArray, List.set_cons_zero, List.set_cons_succ]
  refine wpList_step (fun K hK => ?_)
  (first | go_at_call 24 | (go_simp; go_at_call 24))
  refine (HF.out _).mono ?_
  rintro e w4 ⟨rfl, b4⟩
  try go_simp
  refine hK _ _ ?_
  clear hK K
  try simp only [Act.put, List.setIfInBounds_toArray, List.set_cons_zero, List.set_cons_succ]
  refine wpList_buildTo rfl 36 _ rfl _ rfl #[.bool big, .bool wide, .int .u8 0, .int .u8 0, .string ⟨#[]⟩] (by kernel_rfl) ?_
  try simp only [Act.put, List.setIfInBounds_toArray, List.set_cons_zero, List.set_cons_succ]
  refine wpList_step (fun K hK => ?_)
  (first | go_at_call 25 | (go_simp; go_at_call 25))
  refine (HC.out _).mono ?_
  rintro e w5 ⟨rfl, b5⟩
  try go_simp
  refine hK _ _ ?_
  clear hK K
  try simp only [Act.put, List.setIfInBounds_toArray, List.set_cons_zero, List.set_cons_succ]
  refine wpList_step (fun K hK => ?_)
  go_simp
  refine hK _ _ ?_
  clear hK K
  try simp only [Act.put, List.setIfInBounds_toArray, List.set_cons_zero, List.set_cons_succ]
  refine wpList_step (fun K hK => ?_)
  go_simp
  refine hK _ _ ?_
  clear hK K
  try simp only [Act.put, List.setIfInBounds_toArray, List.set_cons_zero, List.set_cons_succ]
  refine wpList_step (fun K hK => ?_)
  go_simp
  refine hK _ _ ?_
  clear hK K
  try simp only [Act.put, List.setIfInBounds_toArray, List.set_cons_zero, List.set_cons_succ]
  refine wpList_nil ?_
  exact HQ.out _ _ _ _ _ _ _ (b4.trans (b5.mono b4.size))
set_option maxRecDepth 1000000 in
set_option maxHeartbeats 2000000 in
theorem areg5 (Q : Exit → Act → World → Prop) (c0 c1 c2 c3 c4 c6 c7 c8 c9 c10 c11 c12 c13 c14 c15 c16 c17 c18 c19 c20 c21 c22 c23 c24 c25 c26 c27 c28 c29 c30 c31 c32 c33 c34 c35 c36 c37 c38 c39 c40 c41 c42 : Value) (ones : Nat → Nat) (V : ByteArray) (W : World)
    (HC : Hid (∀ u, Calls Try.prog 16 #[.string V] u fun e w' => (∃ v k, FileIs ones V u v k w' ∧ e = .returned (.tuple #[v, .int .i64 k])) ∧ Below u.heap.size u w'))
    (hQ : ∀ (u23 u24 u25 u26 u27 : Value) (G : Nat) (big wide : Bool) (abi ver : Nat) (pad : ByteArray) (h0 h1 h2 h3 h4 h5 h6 h7 h8 h9 h10 h11 h12 : Nat) (As : Option Addr) (ns cs : Nat) (Ap : Option Addr) (np cp : Nat) (nm : Nat) (k : Int) (u w' : World), FileIs ones V u (.agg #[.bool big, .bool wide, .int .u8 (abi : Nat), .int .u8 (ver : Nat), .string pad, .int .u64 (h0 : Nat), .int .u64 (h1 : Nat), .int .u64 (h2 : Nat), .int .u64 (h3 : Nat), .int .u64 (h4 : Nat), .int .u64 (h5 : Nat), .int .u64 (h6 : Nat), .int .u64 (h7 : Nat), .int .u64 (h8 : Nat), .int .u64 (h9 : Nat), .int .u64 (h10 : Nat), .int .u64 (h11 : Nat), .int .u64 (h12 : Nat), .slice As ns cs, .slice Ap np cp, .int .u64 (nm : Nat)]) k w' → W = u → w'.heap[G]? = some (.cells #[.bool big, .bool wide, .int .u8 (abi : Nat), .int .u8 (ver : Nat), .string pad, .int .u64 (h0 : Nat), .int .u64 (h1 : Nat), .int .u64 (h2 : Nat), .int .u64 (h3 : Nat), .int .u64 (h4 : Nat), .int .u64 (h5 : Nat), .int .u64 (h6 : Nat), .int .u64 (h7 : Nat), .int .u64 (h8 : Nat), .int .u64 (h9 : Nat), .int .u64 (h10 : Nat), .int .u64 (h11 : Nat), .int .u64 (h12 : Nat), .slice As ns cs, .slice Ap np cp, .int .u64 (nm : Nat)] 42 (0, 0)) → W.heap.size ≤ G → Below W.heap.size W w' → Q .normal ⟨#[c0, c1, c2, c3, c4, .string V, .pointer (some ⟨G, 0, none⟩), .int .i64 k, c8, c9, c10, c11, c12, c13, c14, c15, c16, c17, c18, c19, c20, c21, c22, u23, u24, u25, u26, u27, c28, c29, c30, c31, c32, c33, c34, c35, c36, c37, c38, c39, c40, c41, c42], []⟩ w') :
    (Code.region 5 #[⟨some 24, .move (.tmp 5), 9, "law.go:174", #[], none⟩, ⟨some 25, .call { callee := .value (.func 16), args := #[.tmp 24], argTypes := #[9] }, 44, "law.go:174", #[⟨0, .data⟩], none⟩, ⟨some 23, .move (.tmp 25), 44, "law.go:174", #[⟨1, .data⟩], none⟩, ⟨some 26, .extract (.tmp 23) 0, 42, "law.go:174", #[⟨2, .data⟩], none⟩, ⟨some 27, .extract (.tmp 23) 1, 43, "law.go:174", #[⟨2, .data⟩, ⟨6, .gcOnly .lateStores⟩], none⟩, ⟨some 6, .alloc 42, 0, "law.go:174", #[], none⟩, ⟨none, .store 42 (.tmp 6) (.tmp 26), 0, "law.go:174", #[⟨5, .data⟩, ⟨3, .data⟩, ⟨1, .chain⟩, ⟨0, .phase⟩, ⟨1, .phase⟩, ⟨2, .phase⟩, ⟨3, .phase⟩, ⟨4, .textOnly .lateStores⟩, ⟨5, .phase⟩], none⟩, ⟨some 7, .assign (.tmp 27), 43, "law.go:174", #[⟨4, .data⟩, ⟨6, .chain⟩, ⟨0, .phase⟩, ⟨1, .phase⟩, ⟨2, .phase⟩, ⟨3, .phase⟩, ⟨4, .phase⟩, ⟨5, .phase⟩, ⟨6, .phase⟩], none⟩] false).wp Try.prog Q ⟨#[c0, c1, c2, c3, c4, .string V, c6, c7, c8, c9, c10, c11, c12, c13, c14, c15, c16, c17, c18, c19, c20, c21, c22, c23, c24, c25, c26, c27, c28, c29, c30, c31, c32, c33, c34, c35, c36, c37, c38, c39, c40, c41, c42], []⟩ W := by
  try dsimp only at hQ ⊢
  have HQ := Lib.hid hQ; clear hQ
  refine wp_region_lit (l := _) ?_
  refine wpList_step (fun K hK => ?_)
  go_simp
  refine hK _ _ ?_
  clear hK K
  try simp only [Act.put, List.setIfInBounds_toArray, List.set_cons_zero, List.set_cons_succ]
  refine wpList_step (fun K hK => ?_)
  (first | go_at_call 16 | (go_simp; go_at_call 16))
  refine (HC.out _).mono ?_
  rintro e w4 ⟨⟨v, k, hfi, rfl⟩, b4⟩
  obtain ⟨big, wide, abi, ver, pad, h0, h1, h2, h3, h4, h5, h6, h7, h8, h9, h10, h11, h12, As, ns, cs, Ap, np, cp, nm, rfl⟩ := hfi.form
  have HFI := Lib.hid hfi; clear hfi
  try go_simp
  refine hK _ _ ?_
  clear hK K
  try simp only [Act.put, List.setIfInBounds_toArray, List.set_cons_zero, List.set_cons_succ]
  refine wpList_step (fun K hK => ?_)
  go_simp
  refine hK _ _ ?_
  clear hK K
  try simp only [Act.put, List.setIfInBounds_toArray, List.set_cons_zero, List.set_cons_succ]
  refine wpList_step (fun K hK => ?_)
  go_simp
  refine hK _ _ ?_
  clear hK K
  try simp only [Act.put, List.setIfInBounds_toArray, List.set_cons_zero, List.set_cons_succ]
  refine wpList_step (fun K hK => ?_)
  go_simp
  refine hK _ _ ?_
  clear hK K
  try simp only [Act.put, List.setIfInBounds_toArray, List.set_cons_zero, List.set_cons_succ]
  refine wpList_step (fun K hK => ?_)
  go_simp
  refine hK _ _ ?_
  clear hK K
  try simp only [Act.put, List.setIfInBounds_toArray, List.set_cons_zero, List.set_cons_succ]
  have hT := heap_alloc_new w4 (.cells #[.bool false, .bool false, .int .u8 0, .int .u8 0, .string ⟨#[]⟩, .int .u64 0, .int .u64 0, .int .u64 0, .int .u64 0, .int .u64 0, .int .u64 0, .int .u64 0, .int .u64 0, .int .u64 0, .int .u64 0, .int .u64 0, .int .u64 0, .int .u64 0, .slice none 0 0, .slice none 0 0, .int .u64 0] 42)
  refine wpList_store_rowTo rfl 42 _ _ rfl rfl w4.heap.size #[.bool big, .bool wide, .int .u8 (abi : Nat), .int .u8 (ver : Nat), .string pad, .int .u64 (h0 : Nat), .int .u64 (h1 : Nat), .int .u64 (h2 : Nat), .int .u64 (h3 : Nat), .int .u64 (h4 : Nat), .int .u64 (h5 : Nat), .int .u64 (h6 : Nat), .int .u64 (h7 : Nat), .int .u64 (h8 : Nat), .int .u64 (h9 : Nat), .int .u64 (h10 : Nat), .int .u64 (h11 : Nat), .int .u64 (h12 : Nat), .slice As ns cs, .slice Ap np cp, .int .u64 (nm : Nat)] (by rfl) (by rfl) 42 #[.bool false, .bool false, .int .u8 0, .int .u8 0, .string ⟨#[]⟩, .int .u64 0, .int .u64 0, .int .u64 0, .int .u64 0, .int .u64 0, .int .u64 0, .int .u64 0, .int .u64 0, .int .u64 0, .int .u64 0, .int .u64 0, .int .u64 0, .int .u64 0, .slice none 0 0, .slice none 0 0, .int .u64 0] hT (by kernel_rfl) rfl (by simp [Value.oneCell']) ?_
  try simp only [Act.put, List.setIfInBounds_toArray, List.set_cons_zero, List.set_cons_succ]
  refine wpList_step (fun K hK => ?_)
  go_simp
  refine hK _ _ ?_
  clear hK K
  try simp only [Act.put, List.setIfInBounds_toArray, List.set_cons_zero, List.set_cons_succ]
  refine wpList_nil ?_
  exact HQ.out _ _ _ _ _ _ _ _ _ _ _ _ _ _ _ _ _ _ _ _ _ _ _ _ _ _ _ _ _ _ _ _ _ _ (HFI.out.stay (fun b _ hb => (setRow_below (((Below.refl w4.heap.size w4).alloc (Nat.le_refl _) _)) (Nat.le_refl _) _).block b hb)) rfl (setRow_heap' _ _ _ _ _ _ hT) b4.size (setRow_below (b4.alloc b4.size _) b4.size _)
set_option maxRecDepth 1000000 in
set_option maxHeartbeats 2000000 in
theorem areg6 (Q : Exit → Act → World → Prop) (c0 c2 c3 c4 c5 c6 c7 c8 c9 c10 c11 c12 c13 c14 c15 c16 c17 c18 c19 c20 c21 c22 c23 c24 c25 c26 c27 c28 c29 c30 c31 c32 c33 c34 c35 c36 c37 c38 c39 c40 c41 c42 : Value) (ones : Nat → Nat) (V : ByteArray) (W : World)
    (HC : Hid (∀ u, Calls Try.prog 16 #[.string V] u fun e w' => (∃ v k, FileIs ones V u v k w' ∧ e = .returned (.tuple #[v, .int .i64 k])) ∧ Below u.heap.size u w'))
    (hQ : ∀ (u28 u29 u30 u31 u32 : Value) (G : Nat) (big wide : Bool) (abi ver : Nat) (pad : ByteArray) (h0 h1 h2 h3 h4 h5 h6 h7 h8 h9 h10 h11 h12 : Nat) (As : Option Addr) (ns cs : Nat) (Ap : Option Addr) (np cp : Nat) (nm : Nat) (k : Int) (u w' : World), FileIs ones V u (.agg #[.bool big, .bool wide, .int .u8 (abi : Nat), .int .u8 (ver : Nat), .string pad, .int .u64 (h0 : Nat), .int .u64 (h1 : Nat), .int .u64 (h2 : Nat), .int .u64 (h3 : Nat), .int .u64 (h4 : Nat), .int .u64 (h5 : Nat), .int .u64 (h6 : Nat), .int .u64 (h7 : Nat), .int .u64 (h8 : Nat), .int .u64 (h9 : Nat), .int .u64 (h10 : Nat), .int .u64 (h11 : Nat), .int .u64 (h12 : Nat), .slice As ns cs, .slice Ap np cp, .int .u64 (nm : Nat)]) k w' → W = u → w'.heap[G]? = some (.cells #[.bool big, .bool wide, .int .u8 (abi : Nat), .int .u8 (ver : Nat), .string pad, .int .u64 (h0 : Nat), .int .u64 (h1 : Nat), .int .u64 (h2 : Nat), .int .u64 (h3 : Nat), .int .u64 (h4 : Nat), .int .u64 (h5 : Nat), .int .u64 (h6 : Nat), .int .u64 (h7 : Nat), .int .u64 (h8 : Nat), .int .u64 (h9 : Nat), .int .u64 (h10 : Nat), .int .u64 (h11 : Nat), .int .u64 (h12 : Nat), .slice As ns cs, .slice Ap np cp, .int .u64 (nm : Nat)] 42 (0, 0)) → W.heap.size ≤ G → Below W.heap.size W w' → Q .normal ⟨#[c0, .string V, c2, c3, c4, c5, c6, c7, .pointer (some ⟨G, 0, none⟩), .int .i64 k, c10, c11, c12, c13, c14, c15, c16, c17, c18, c19, c20, c21, c22, c23, c24, c25, c26, c27, u28, u29, u30, u31, u32, c33, c34, c35, c36, c37, c38, c39, c40, c41, c42], []⟩ w') :
    (Code.region 6 #[⟨some 29, .move (.tmp 1), 9, "law.go:175", #[], none⟩, ⟨some 30, .call { callee := .value (.func 16), args := #[.tmp 29], argTypes := #[9] }, 44, "law.go:175", #[⟨0, .data⟩], none⟩, ⟨some 28, .move (.tmp 30), 44, "law.go:175", #[⟨1, .data⟩], none⟩, ⟨some 31, .extract (.tmp 28) 0, 42, "law.go:175", #[⟨2, .data⟩], none⟩, ⟨some 32, .extract (.tmp 28) 1, 43, "law.go:175", #[⟨2, .data⟩, ⟨6, .gcOnly .lateStores⟩], none⟩, ⟨some 8, .alloc 42, 0, "law.go:175", #[], none⟩, ⟨none, .store 42 (.tmp 8) (.tmp 31), 0, "law.go:175", #[⟨5, .data⟩, ⟨3, .data⟩, ⟨1, .chain⟩, ⟨0, .phase⟩, ⟨1, .phase⟩, ⟨2, .phase⟩, ⟨3, .phase⟩, ⟨4, .textOnly .lateStores⟩, ⟨5, .phase⟩], none⟩, ⟨some 9, .assign (.tmp 32), 43, "law.go:175", #[⟨4, .data⟩, ⟨6, .chain⟩, ⟨0, .phase⟩, ⟨1, .phase⟩, ⟨2, .phase⟩, ⟨3, .phase⟩, ⟨4, .phase⟩, ⟨5, .phase⟩, ⟨6, .phase⟩], none⟩] false).wp Try.prog Q ⟨#[c0, .string V, c2, c3, c4, c5, c6, c7, c8, c9, c10, c11, c12, c13, c14, c15, c16, c17, c18, c19, c20, c21, c22, c23, c24, c25, c26, c27, c28, c29, c30, c31, c32, c33, c34, c35, c36, c37, c38, c39, c40, c41, c42], []⟩ W := by
  try dsimp only at hQ ⊢
  have HQ := Lib.hid hQ; clear hQ
  refine wp_region_lit (l := _) ?_
  refine wpList_step (fun K hK => ?_)
  go_simp
  refine hK _ _ ?_
  clear hK K
  try simp only [Act.put, List.setIfInBounds_toArray, List.set_cons_zero, List.set_cons_succ]
  refine wpList_step (fun K hK => ?_)
  (first | go_at_call 16 | (go_simp; go_at_call 16))
  refine (HC.out _).mono ?_
  rintro e w4 ⟨⟨v, k, hfi, rfl⟩, b4⟩
  obtain ⟨big, wide, abi, ver, pad, h0, h1, h2, h3, h4, h5, h6, h7, h8, h9, h10, h11, h12, As, ns, cs, Ap, np, cp, nm, rfl⟩ := hfi.form
  have HFI := Lib.hid hfi; clear hfi
  try go_simp
  refine hK _ _ ?_
  clear hK K
  try simp only [Act.put, List.setIfInBounds_toArray, List.set_cons_zero, List.set_cons_succ]
  refine wpList_step (fun K hK => ?_)
  go_simp
  refine hK _ _ ?_
  clear hK K
  try simp only [Act.put, List.setIfInBounds_toArray, List.set_cons_zero, List.set_cons_succ]
  refine wpList_step (fun K hK => ?_)
  go_simp
  refine hK _ _ ?_
  clear hK K
  try simp only [Act.put, List.setIfInBounds_toArray, List.set_cons_zero, List.set_cons_succ]
  refine wpList_step (fun K hK => ?_)
  go_simp
  refine hK _ _ ?_
  clear hK K
  try simp only [Act.put, List.setIfInBounds_toArray, List.set_cons_zero, List.set_cons_succ]
  refine wpList_step (fun K hK => ?_)
  go_simp
  refine hK _ _ ?_
  clear hK K
  try simp only [Act.put, List.setIfInBounds_toArray, List.set_cons_zero, List.set_cons_succ]
  have hT := heap_alloc_new w4 (.cells #[.bool false, .bool false, .int .u8 0, .int .u8 0, .string ⟨#[]⟩, .int .u64 0, .int .u64 0, .int .u64 0, .int .u64 0, .int .u64 0, .int .u64 0, .int .u64 0, .int .u64 0, .int .u64 0, .int .u64 0, .int .u64 0, .int .u64 0, .int .u64 0, .slice none 0 0, .slice none 0 0, .int .u64 0] 42)
  refine wpList_store_rowTo rfl 42 _ _ rfl rfl w4.heap.size #[.bool big, .bool wide, .int .u8 (abi : Nat), .int .u8 (ver : Nat), .string pad, .int .u64 (h0 : Nat), .int .u64 (h1 : Nat), .int .u64 (h2 : Nat), .int .u64 (h3 : Nat), .int .u64 (h4 : Nat), .int .u64 (h5 : Nat), .int .u64 (h6 : Nat), .int .u64 (h7 : Nat), .int .u64 (h8 : Nat), .int .u64 (h9 : Nat), .int .u64 (h10 : Nat), .int .u64 (h11 : Nat), .int .u64 (h12 : Nat), .slice As ns cs, .slice Ap np cp, .int .u64 (nm : Nat)] (by rfl) (by rfl) 42 #[.bool false, .bool false, .int .u8 0, .int .u8 0, .string ⟨#[]⟩, .int .u64 0, .int .u64 0, .int .u64 0, .int .u64 0, .int .u64 0, .int .u64 0, .int .u64 0, .int .u64 0, .int .u64 0, .int .u64 0, .int .u64 0, .int .u64 0, .int .u64 0, .slice none 0 0, .slice none 0 0, .int .u64 0] hT (by kernel_rfl) rfl (by simp [Value.oneCell']) ?_
  try simp only [Act.put, List.setIfInBounds_toArray, List.set_cons_zero, List.set_cons_succ]
  refine wpList_step (fun K hK => ?_)
  go_simp
  refine hK _ _ ?_
  clear hK K
  try simp only [Act.put, List.setIfInBounds_toArray, List.set_cons_zero, List.set_cons_succ]
  refine wpList_nil ?_
  exact HQ.out _ _ _ _ _ _ _ _ _ _ _ _ _ _ _ _ _ _ _ _ _ _ _ _ _ _ _ _ _ _ _ _ _ _ (HFI.out.stay (fun b _ hb => (setRow_below (((Below.refl w4.heap.size w4).alloc (Nat.le_refl _) _)) (Nat.le_refl _) _).block b hb)) rfl (setRow_heap' _ _ _ _ _ _ hT) b4.size (setRow_below (b4.alloc b4.size _) b4.size _)
set_option maxRecDepth 1000000 in
set_option maxHeartbeats 2000000 in
theorem areg7 (Q : Exit → Act → World → Prop) (c0 c2 c3 c4 c6 c8 c10 c11 c12 c13 c14 c15 c16 c17 c18 c19 c20 c21 c22 c23 c24 c25 c26 c27 c28 c29 c30 c31 c32 c33 c34 c35 c36 c37 c38 c39 c40 c41 c42 : Value) (m1 m2 : Nat) (V T : ByteArray) (W : World)
    (H1 : Hid (∀ u, Calls Try.prog 17 #[.string V] u fun e w' => e = .returned (.int .i64 (m1 : Nat)) ∧ Below u.heap.size u w'))
    (H2 : Hid (∀ u, Calls Try.prog 17 #[.string T] u fun e w' => e = .returned (.int .i64 (m2 : Nat)) ∧ Below u.heap.size u w'))
    (hQ : ∀ (u33 u34 u35 u36 u37 u38 u39 u40 u41 u42 : Value) (w' : World), Below W.heap.size W w' → Q .normal ⟨#[c0, .string T, c2, c3, .bool true, .string V, c6, .int .i64 (m1 : Nat), c8, .int .i64 (m2 : Nat), c10, c11, c12, c13, c14, c15, c16, c17, c18, c19, c20, c21, c22, c23, c24, c25, c26, c27, c28, c29, c30, c31, c32, u33, u34, u35, u36, u37, u38, u39, u40, u41, u42], []⟩ w') :
    (Code.region 7 #[⟨some 33, .move (.tmp 7), 43, "law.go:176", #[], none⟩, ⟨some 34, .move (.tmp 5), 9, "law.go:176", #[], none⟩, ⟨some 35, .call { callee := .value (.func 17), args := #[.tmp 34], argTypes := #[9] }, 3, "law.go:176", #[⟨1, .data⟩], none⟩, ⟨some 36, .binOp .eql 3 (.tmp 33) (.tmp 35) 3, 4, "law.go:176", #[⟨0, .data⟩, ⟨2, .data⟩], none⟩, ⟨some 37, .move (.tmp 36), 4, "law.go:176", #[⟨3, .data⟩, ⟨2, .chain⟩], none⟩, ⟨some 38, .move (.tmp 9), 43, "law.go:176", #[⟨4, .guard⟩], some (4, true)⟩, ⟨some 39, .move (.tmp 1), 9, "law.go:176", #[⟨4, .guard⟩], some (4, true)⟩, ⟨some 40, .call { callee := .value (.func 17), args := #[.tmp 39], argTypes := #[9] }, 3, "law.go:176", #[⟨6, .data⟩, ⟨4, .chain⟩, ⟨4, .guard⟩], some (4, true)⟩, ⟨some 41, .binOp .eql 3 (.tmp 38) (.tmp 40) 3, 4, "law.go:176", #[⟨5, .data⟩, ⟨7, .data⟩, ⟨4, .guard⟩], some (4, true)⟩, ⟨some 42, .pick (.tmp 37) (.tmp 41) (.const (.bool false)), 4, "law.go:176", #[⟨4, .data⟩, ⟨8, .data⟩], none⟩, ⟨some 4, .assign (.tmp 42), 4, "law.go:176", #[⟨9, .data⟩, ⟨7, .chain⟩, ⟨0, .phase⟩, ⟨1, .phase⟩, ⟨2, .phase⟩, ⟨3, .phase⟩, ⟨4, .phase⟩, ⟨5, .phase⟩, ⟨6, .phase⟩, ⟨7, .phase⟩, ⟨8, .phase⟩, ⟨9, .phase⟩], none⟩] false).wp Try.prog Q ⟨#[c0, .string T, c2, c3, c4, .string V, c6, .int .i64 (m1 : Nat), c8, .int .i64 (m2 : Nat), c10, c11, c12, c13, c14, c15, c16, c17, c18, c19, c20, c21, c22, c23, c24, c25, c26, c27, c28, c29, c30, c31, c32, c33, c34, c35, c36, c37, c38, c39, c40, c41, c42], []⟩ W := by
  try dsimp only at hQ ⊢
  have HQ := Lib.hid hQ; clear hQ
  refine wp_region_lit (l := _) ?_
  refine wpList_step (fun K hK => ?_)
  go_simp
  refine hK _ _ ?_
  clear hK K
  try simp only [Act.put, List.setIfInBounds_toArray, List.set_cons_zero, List.set_cons_succ]
  refine wpList_step (fun K hK => ?_)
  go_simp
  refine hK _ _ ?_
  clear hK K
  try simp only [Act.put, List.setIfInBounds_toArray, List.set_cons_zero, List.set_cons_succ]
  refine wpList_step (fun K hK => ?_)
  (first | go_at_call 17 | (go_simp; go_at_call 17))
  refine (H1.out _).mono ?_
  rintro e w4 ⟨rfl, b4⟩
  try go_simp
  refine hK _ _ ?_
  clear hK K
  try simp only [Act.put, List.setIfInBounds_toArray, List.set_cons_zero, List.set_cons_succ]
  refine wpList_step (fun K hK => ?_)
  go_simp
  refine hK _ _ ?_
  clear hK K
  try simp only [Act.put, List.setIfInBounds_toArray, List.set_cons_zero, List.set_cons_succ]
  refine wpList_step (fun K hK => ?_)
  go_simp
  refine hK _ _ ?_
  clear hK K
  try simp only [Act.put, List.setIfInBounds_toArray, List.set_cons_zero, List.set_cons_succ]
  refine wpList_step (fun K hK => ?_)
  go_simp
  refine hK _ _ ?_
  clear hK K
  try simp only [Act.put, List.setIfInBounds_toArray, List.set_cons_zero, List.set_cons_succ]
  refine wpList_step (fun K hK => ?_)
  go_simp
  refine hK _ _ ?_
  clear hK K
  try simp only [Act.put, List.setIfInBounds_toArray, List.set_cons_zero, List.set_cons_succ]
  refine wpList_step (fun K hK => ?_)
  (first | go_at_call 17 | (go_simp; go_at_call 17))
  refine (H2.out _).mono ?_
  rintro e w5 ⟨rfl, b5⟩
  try go_simp
  refine hK _ _ ?_
  clear hK K
  try simp only [Act.put, List.setIfInBounds_toArray, List.set_cons_zero, List.set_cons_succ]
  refine wpList_step (fun K hK => ?_)
  go_simp
  refine hK _ _ ?_
  clear hK K
  try simp only [Act.put, List.setIfInBounds_toArray, List.set_cons_zero, List.set_cons_succ]
  refine wpList_step (fun K hK => ?_)
  go_simp
  refine hK _ _ ?_
  clear hK K
  try simp only [Act.put, List.setIfInBounds_toArray, List.set_cons_zero, List.set_cons_succ]
  refine wpList_step (fun K hK => ?_)
  go_simp
  refine hK _ _ ?_
  clear hK K
  try simp only [Act.put, List.setIfInBounds_toArray, List.set_cons_zero, List.set_cons_succ]
  refine wpList_nil ?_
  exact HQ.out _ _ _ _ _ _ _ _ _ _ _ (b4.trans (b5.mono b4.size))
end Go.Proofs.Ytedocnidgiglaaa
