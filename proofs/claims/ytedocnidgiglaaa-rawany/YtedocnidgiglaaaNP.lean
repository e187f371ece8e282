/- Drawn regions of raw's readSegments. Conditions: those written in each theorem. -/
import Derived.Test.YtedocnidgiglaaaNL
import Derived.Test.YtedocnidgiglaaaFK
namespace Go.Proofs.Ytedocnidgiglaaa
open Go.RowKit
set_option linter.unusedVariables false
set_option maxRecDepth 1000000 in
set_option maxHeartbeats 4000000 in
theorem greg7 (Q : Exit → Act → World → Prop) (c1 c2 c4 c5 c6 c7 c8 c9 c10 c11 c12 c13 c14 c15 c16 c17 c18 c19 c20 c21 c22 c23 c24 c25 c26 c27 c28 c29 c30 c31 c32 c33 c34 c35 c36 c37 c38 c39 c40 c41 c42 c43 c44 c45 c46 c47 c48 c49 c50 c51 c52 c53 c54 c55 c56 c57 c58 c59 c60 c61 c62 c63 c64 c65 c66 c67 c68 c69 c70 : Value) (P n : Nat) (big wide : Bool) (abi ver : Nat) (pad : ByteArray) (h0 h1 h2 h3 h4 h5 h6 h7 h8 h9 h10 h11 h12 : Nat) (vs vp : Value) (nm : Nat) (text : ByteArray) (ok : Bool) (PV : World → Value → World → Prop) (W : World) (hR : W.heap[P]? = some (.cells #[.bool big, .bool wide, .int .u8 (abi : Nat), .int .u8 (ver : Nat), .string pad, .int .u64 (h0 : Nat), .int .u64 (h1 : Nat), .int .u64 (h2 : Nat), .int .u64 (h3 : Nat), .int .u64 (h4 : Nat), .int .u64 (h5 : Nat), .int .u64 (h6 : Nat), .int .u64 (h7 : Nat), .int .u64 (h8 : Nat), .int .u64 (h9 : Nat), .int .u64 (h10 : Nat), .int .u64 (h11 : Nat), .int .u64 (h12 : Nat), vs, vp, .int .u64 (nm : Nat), .string text] 138 (0, 0)))
    (HC : Hid (∀ u, Calls Try.prog 94 #[.agg #[.bool big, .bool wide], .string text, .agg #[.int .u64 (h4 : Nat), .int .u64 (n : Nat), .int .u64 (phs wide : Nat)], .func (.func 95) #[] #[]] u fun e w' => (∃ A l1 l2, e = .returned (.tuple #[.slice A l1 l2, .bool ok]) ∧ PV u (.slice A l1 l2) w') ∧ Below u.heap.size u w'))
    (hPV : ∀ u v w' w2, W.heap.size ≤ u.heap.size → PV u v w' → OnlyAt P w' w2 → PV W v w2)
    (hP : ∀ c a w i v, Q (.panic c) (a.put (some i) v) w → Q (.panic c) a w)
    (hQ : ∀ (u45 u46 u47 u48 u49 u50 u51 u52 u53 u54 u55 u56 u57 u58 u59 u60 u61 u62 u63 u64 u65 u66 u67 u68 : Value) (yA : Option Addr) (y1 y2 : Nat) (w' : World), PV W (.slice yA y1 y2) w' → w'.heap[P]? = some (.cells #[.bool big, .bool wide, .int .u8 (abi : Nat), .int .u8 (ver : Nat), .string pad, .int .u64 (h0 : Nat), .int .u64 (h1 : Nat), .int .u64 (h2 : Nat), .int .u64 (h3 : Nat), .int .u64 (h4 : Nat), .int .u64 (h5 : Nat), .int .u64 (h6 : Nat), .int .u64 (h7 : Nat), .int .u64 (h8 : Nat), .int .u64 (h9 : Nat), .int .u64 (h10 : Nat), .int .u64 (h11 : Nat), .int .u64 (h12 : Nat), vs, .slice yA y1 y2, .int .u64 (nm : Nat), .string text] 138 (0, 0)) → OnlyAt P W w' → Q .normal ⟨#[.pointer (some ⟨P, 0, none⟩), c1, c2, .int .u64 (n : Nat), .bool ok, c5, c6, c7, c8, c9, c10, c11, c12, c13, c14, c15, c16, c17, c18, c19, c20, c21, c22, c23, c24, c25, c26, c27, c28, c29, c30, c31, c32, c33, c34, c35, c36, c37, c38, c39, c40, c41, c42, c43, c44, u45, u46, u47, u48, u49, u50, u51, u52, u53, u54, u55, u56, u57, u58, u59, u60, u61, u62, u63, u64, u65, u66, u67, u68, c69, c70], []⟩ w') :
    (Code.region 7 #[⟨some 46, .move (.tmp 0), 188, "parse.go:116", #[], none⟩, ⟨some 47, .move (.tmp 0), 188, "parse.go:116", #[], none⟩, ⟨some 48, .nilCheck (.tmp 47), 0, "parse.go:116", #[⟨1, .data⟩], none⟩, ⟨some 49, .fieldAddr 138 (.tmp 48) 0, 0, "parse.go:116", #[⟨2, .data⟩], none⟩, ⟨some 50, .fieldAddr 42 (.tmp 49) 0, 0, "parse.go:116", #[⟨3, .data⟩], none⟩, ⟨some 51, .fieldAddr 36 (.tmp 50) 0, 0, "parse.go:116", #[⟨4, .data⟩], none⟩, ⟨some 52, .load 34 (.tmp 51), 34, "parse.go:116", #[⟨5, .data⟩], none⟩, ⟨some 53, .move (.tmp 0), 188, "parse.go:116", #[], none⟩, ⟨some 54, .nilCheck (.tmp 53), 0, "parse.go:116", #[⟨7, .data⟩], none⟩, ⟨some 55, .fieldAddr 138 (.tmp 54) 1, 0, "parse.go:116", #[⟨8, .data⟩], none⟩, ⟨some 56, .load 9 (.tmp 55), 9, "parse.go:116", #[⟨9, .data⟩], none⟩, ⟨some 57, .move (.tmp 0), 188, "parse.go:116", #[], none⟩, ⟨some 58, .nilCheck (.tmp 57), 0, "parse.go:116", #[⟨11, .data⟩], none⟩, ⟨some 59, .fieldAddr 138 (.tmp 58) 0, 0, "parse.go:116", #[⟨12, .data⟩], none⟩, ⟨some 60, .load 42 (.tmp 59), 42, "parse.go:116", #[⟨13, .data⟩], none⟩, ⟨some 61, .move (.tmp 3), 29, "parse.go:116", #[], none⟩, ⟨some 62, .call { callee := .value (.func 65), args := #[.tmp 60, .tmp 61], argTypes := #[42, 29] }, 148, "parse.go:116", #[⟨14, .data⟩, ⟨15, .data⟩], none⟩, ⟨some 63, .call { callee := .value (.func 94), args := #[.tmp 52, .tmp 56, .tmp 62, .func 95], argTypes := #[34, 9, 148, 199] }, 197, "parse.go:116", #[⟨6, .data⟩, ⟨10, .data⟩, ⟨16, .data⟩, ⟨16, .chain⟩], none⟩, ⟨some 45, .move (.tmp 63), 197, "parse.go:116", #[⟨17, .data⟩], none⟩, ⟨some 64, .extract (.tmp 45) 0, 40, "parse.go:116", #[⟨18, .data⟩], none⟩, ⟨some 65, .extract (.tmp 45) 1, 4, "parse.go:116", #[⟨18, .data⟩, ⟨24, .gcOnly .lateStores⟩], none⟩, ⟨some 66, .nilCheck (.tmp 46), 0, "parse.go:116", #[⟨0, .data⟩, ⟨0, .phase⟩, ⟨1, .phase⟩, ⟨2, .phase⟩, ⟨3, .phase⟩, ⟨4, .phase⟩, ⟨5, .phase⟩, ⟨6, .phase⟩, ⟨7, .phase⟩, ⟨8, .phase⟩, ⟨9, .phase⟩, ⟨10, .phase⟩, ⟨11, .phase⟩, ⟨12, .phase⟩, ⟨13, .phase⟩, ⟨14, .phase⟩, ⟨15, .phase⟩, ⟨16, .phase⟩, ⟨17, .phase⟩, ⟨18, .phase⟩, ⟨19, .phase⟩, ⟨20, .textOnly .lateStores⟩], none⟩, ⟨some 67, .fieldAddr 138 (.tmp 66) 0, 0, "parse.go:116", #[⟨21, .data⟩, ⟨0, .phase⟩, ⟨1, .phase⟩, ⟨2, .phase⟩, ⟨3, .phase⟩, ⟨4, .phase⟩, ⟨5, .phase⟩, ⟨6, .phase⟩, ⟨7, .phase⟩, ⟨8, .phase⟩, ⟨9, .phase⟩, ⟨10, .phase⟩, ⟨11, .phase⟩, ⟨12, .phase⟩, ⟨13, .phase⟩, ⟨14, .phase⟩, ⟨15, .phase⟩, ⟨16, .phase⟩, ⟨17, .phase⟩, ⟨18, .phase⟩, ⟨19, .phase⟩, ⟨20, .textOnly .lateStores⟩], none⟩, ⟨some 68, .fieldAddr 42 (.tmp 67) 3, 0, "parse.go:116", #[⟨22, .data⟩, ⟨0, .phase⟩, ⟨1, .phase⟩, ⟨2, .phase⟩, ⟨3, .phase⟩, ⟨4, .phase⟩, ⟨5, .phase⟩, ⟨6, .phase⟩, ⟨7, .phase⟩, ⟨8, .phase⟩, ⟨9, .phase⟩, ⟨10, .phase⟩, ⟨11, .phase⟩, ⟨12, .phase⟩, ⟨13, .phase⟩, ⟨14, .phase⟩, ⟨15, .phase⟩, ⟨16, .phase⟩, ⟨17, .phase⟩, ⟨18, .phase⟩, ⟨19, .phase⟩, ⟨20, .textOnly .lateStores⟩], none⟩, ⟨none, .store 40 (.tmp 68) (.tmp 64), 0, "parse.go:116", #[⟨23, .data⟩, ⟨19, .data⟩, ⟨17, .chain⟩, ⟨0, .phase⟩, ⟨1, .phase⟩, ⟨2, .phase⟩, ⟨3, .phase⟩, ⟨4, .phase⟩, ⟨5, .phase⟩, ⟨6, .phase⟩, ⟨7, .phase⟩, ⟨8, .phase⟩, ⟨9, .phase⟩, ⟨10, .phase⟩, ⟨11, .phase⟩, ⟨12, .phase⟩, ⟨13, .phase⟩, ⟨14, .phase⟩, ⟨15, .phase⟩, ⟨16, .phase⟩, ⟨17, .phase⟩, ⟨18, .phase⟩, ⟨19, .phase⟩, ⟨20, .textOnly .lateStores⟩], none⟩, ⟨some 4, .assign (.tmp 65), 4, "parse.go:116", #[⟨20, .data⟩, ⟨24, .chain⟩, ⟨0, .phase⟩, ⟨1, .phase⟩, ⟨2, .phase⟩, ⟨3, .phase⟩, ⟨4, .phase⟩, ⟨5, .phase⟩, ⟨6, .phase⟩, ⟨7, .phase⟩, ⟨8, .phase⟩, ⟨9, .phase⟩, ⟨10, .phase⟩, ⟨11, .phase⟩, ⟨12, .phase⟩, ⟨13, .phase⟩, ⟨14, .phase⟩, ⟨15, .phase⟩, ⟨16, .phase⟩, ⟨17, .phase⟩, ⟨18, .phase⟩, ⟨19, .phase⟩, ⟨20, .phase⟩, ⟨21, .phase⟩, ⟨22, .phase⟩, ⟨23, .phase⟩, ⟨24, .phase⟩], none⟩] true).wp Try.prog Q ⟨#[.pointer (some ⟨P, 0, none⟩), c1, c2, .int .u64 (n : Nat), c4, c5, c6, c7, c8, c9, c10, c11, c12, c13, c14, c15, c16, c17, c18, c19, c20, c21, c22, c23, c24, c25, c26, c27, c28, c29, c30, c31, c32, c33, c34, c35, c36, c37, c38, c39, c40, c41, c42, c43, c44, c45, c46, c47, c48, c49, c50, c51, c52, c53, c54, c55, c56, c57, c58, c59, c60, c61, c62, c63, c64, c65, c66, c67, c68, c69, c70], []⟩ W := by
  dsimp only at hQ ⊢
  have HQ := Lib.hid hQ; clear hQ
  refine wp_region_heldL_drew (k := 24) (S1 := fun u => u.heap[P]? = some (.cells #[.bool big, .bool wide, .int .u8 (abi : Nat), .int .u8 (ver : Nat), .string pad, .int .u64 (h0 : Nat), .int .u64 (h1 : Nat), .int .u64 (h2 : Nat), .int .u64 (h3 : Nat), .int .u64 (h4 : Nat), .int .u64 (h5 : Nat), .int .u64 (h6 : Nat), .int .u64 (h7 : Nat), .int .u64 (h8 : Nat), .int .u64 (h9 : Nat), .int .u64 (h10 : Nat), .int .u64 (h11 : Nat), .int .u64 (h12 : Nat), vs, vp, .int .u64 (nm : Nat), .string text] 138 (0, 0))) (S2 := fun u => OnlyAt P W u) (by kernel_rfl) ?_
  have hA0 : W.drew.heap[P]? = some (.cells #[.bool big, .bool wide, .int .u8 (abi : Nat), .int .u8 (ver : Nat), .string pad, .int .u64 (h0 : Nat), .int .u64 (h1 : Nat), .int .u64 (h2 : Nat), .int .u64 (h3 : Nat), .int .u64 (h4 : Nat), .int .u64 (h5 : Nat), .int .u64 (h6 : Nat), .int .u64 (h7 : Nat), .int .u64 (h8 : Nat), .int .u64 (h9 : Nat), .int .u64 (h10 : Nat), .int .u64 (h11 : Nat), .int .u64 (h12 : Nat), vs, vp, .int .u64 (nm : Nat), .string text] 138 (0, 0)) := hR
  have hB0 : OnlyAt P W W.drew := (OnlyAt.refl _ _).drew
  generalize W.drew = W0 at *
  refine wpAnyL_take2 (i := 0) (oi := ⟨some 46, .move (.tmp 0), 188, "parse.go:116", #[], none⟩) (v := ?_) rfl (by kernel_rfl) (by kernel_rfl) (by kernel_rfl) (by kernel_rfl) (fun c a w h => hP c a w _ _ h) (Or.inl ⟨by rfl, ?_⟩) hA0 hB0 ?_
  rotate_left
  · (intro w hSw; (try dsimp only at hSw); go_simp <;> with_reducible rfl)
  try simp only [Act.put, List.setIfInBounds_toArray, List.set_cons_zero, List.set_cons_succ]
  refine wpAnyL_take2 (i := 1) (oi := ⟨some 47, .move (.tmp 0), 188, "parse.go:116", #[], none⟩) (v := ?_) rfl (by kernel_rfl) (by kernel_rfl) (by kernel_rfl) (by kernel_rfl) (fun c a w h => hP c a w _ _ h) (Or.inl ⟨by rfl, ?_⟩) hA0 hB0 ?_
  rotate_left
  · (intro w hSw; (try dsimp only at hSw); go_simp <;> with_reducible rfl)
  try simp only [Act.put, List.setIfInBounds_toArray, List.set_cons_zero, List.set_cons_succ]
  refine wpAnyL_take2 (i := 7) (oi := ⟨some 53, .move (.tmp 0), 188, "parse.go:116", #[], none⟩) (v := ?_) rfl (by kernel_rfl) (by kernel_rfl) (by kernel_rfl) (by kernel_rfl) (fun c a w h => hP c a w _ _ h) (Or.inl ⟨by rfl, ?_⟩) hA0 hB0 ?_
  rotate_left
  · (intro w hSw; (try dsimp only at hSw); go_simp <;> with_reducible rfl)
  try simp only [Act.put, List.setIfInBounds_toArray, List.set_cons_zero, List.set_cons_succ]
  refine wpAnyL_take2 (i := 11) (oi := ⟨some 57, .move (.tmp 0), 188, "parse.go:116", #[], none⟩) (v := ?_) rfl (by kernel_rfl) (by kernel_rfl) (by kernel_rfl) (by kernel_rfl) (fun c a w h => hP c a w _ _ h) (Or.inl ⟨by rfl, ?_⟩) hA0 hB0 ?_
  rotate_left
  · (intro w hSw; (try dsimp only at hSw); go_simp <;> with_reducible rfl)
  try simp only [Act.put, List.setIfInBounds_toArray, List.set_cons_zero, List.set_cons_succ]
  refine wpAnyL_take2 (i := 15) (oi := ⟨some 61, .move (.tmp 3), 29, "parse.go:116", #[], none⟩) (v := ?_) rfl (by kernel_rfl) (by kernel_rfl) (by kernel_rfl) (by kernel_rfl) (fun c a w h => hP c a w _ _ h) (Or.inl ⟨by rfl, ?_⟩) hA0 hB0 ?_
  rotate_left
  · (intro w hSw; (try dsimp only at hSw); go_simp <;> with_reducible rfl)
  try simp only [Act.put, List.setIfInBounds_toArray, List.set_cons_zero, List.set_cons_succ]
  refine wpAnyL_take2 (i := 2) (oi := ⟨some 48, .nilCheck (.tmp 47), 0, "parse.go:116", #[⟨1, .data⟩], none⟩) (v := ?_) rfl (by kernel_rfl) (by kernel_rfl) (by kernel_rfl) (by kernel_rfl) (fun c a w h => hP c a w _ _ h) (Or.inl ⟨by rfl, ?_⟩) hA0 hB0 ?_
  rotate_left
  · (intro w hSw; (try dsimp only at hSw); go_simp <;> with_reducible rfl)
  try simp only [Act.put, List.setIfInBounds_toArray, List.set_cons_zero, List.set_cons_succ]
  refine wpAnyL_take2 (i := 8) (oi := ⟨some 54, .nilCheck (.tmp 53), 0, "parse.go:116", #[⟨7, .data⟩], none⟩) (v := ?_) rfl (by kernel_rfl) (by kernel_rfl) (by kernel_rfl) (by kernel_rfl) (fun c a w h => hP c a w _ _ h) (Or.inl ⟨by rfl, ?_⟩) hA0 hB0 ?_
  rotate_left
  · (intro w hSw; (try dsimp only at hSw); go_simp <;> with_reducible rfl)
  try simp only [Act.put, List.setIfInBounds_toArray, List.set_cons_zero, List.set_cons_succ]
  refine wpAnyL_take2 (i := 12) (oi := ⟨some 58, .nilCheck (.tmp 57), 0, "parse.go:116", #[⟨11, .data⟩], none⟩) (v := ?_) rfl (by kernel_rfl) (by kernel_rfl) (by kernel_rfl) (by kernel_rfl) (fun c a w h => hP c a w _ _ h) (Or.inl ⟨by rfl, ?_⟩) hA0 hB0 ?_
  rotate_left
  · (intro w hSw; (try dsimp only at hSw); go_simp <;> with_reducible rfl)
  try simp only [Act.put, List.setIfInBounds_toArray, List.set_cons_zero, List.set_cons_succ]
  refine wpAnyL_take2 (i := 3) (oi := ⟨some 49, .fieldAddr 138 (.tmp 48) 0, 0, "parse.go:116", #[⟨2, .data⟩], none⟩) (v := ?_) rfl (by kernel_rfl) (by kernel_rfl) (by kernel_rfl) (by kernel_rfl) (fun c a w h => hP c a w _ _ h) (Or.inl ⟨by rfl, ?_⟩) hA0 hB0 ?_
  rotate_left
  · (intro w hSw; (try dsimp only at hSw); go_simp <;> with_reducible rfl)
  try simp only [Act.put, List.setIfInBounds_toArray, List.set_cons_zero, List.set_cons_succ]
  refine wpAnyL_take2 (i := 9) (oi := ⟨some 55, .fieldAddr 138 (.tmp 54) 1, 0, "parse.go:116", #[⟨8, .data⟩], none⟩) (v := ?_) rfl (by kernel_rfl) (by kernel_rfl) (by kernel_rfl) (by kernel_rfl) (fun c a w h => hP c a w _ _ h) (Or.inl ⟨by rfl, ?_⟩) hA0 hB0 ?_
  rotate_left
  · (intro w hSw; (try dsimp only at hSw); go_simp <;> with_reducible rfl)
  try simp only [Act.put, List.setIfInBounds_toArray, List.set_cons_zero, List.set_cons_succ]
  refine wpAnyL_take2 (i := 13) (oi := ⟨some 59, .fieldAddr 138 (.tmp 58) 0, 0, "parse.go:116", #[⟨12, .data⟩], none⟩) (v := ?_) rfl (by kernel_rfl) (by kernel_rfl) (by kernel_rfl) (by kernel_rfl) (fun c a w h => hP c a w _ _ h) (Or.inl ⟨by rfl, ?_⟩) hA0 hB0 ?_
  rotate_left
  · (intro w hSw; (try dsimp only at hSw); go_simp <;> with_reducible rfl)
  try simp only [Act.put, List.setIfInBounds_toArray, List.set_cons_zero, List.set_cons_succ]
  refine wpAnyL_take2 (i := 4) (oi := ⟨some 50, .fieldAddr 42 (.tmp 49) 0, 0, "parse.go:116", #[⟨3, .data⟩], none⟩) (v := ?_) rfl (by kernel_rfl) (by kernel_rfl) (by kernel_rfl) (by kernel_rfl) (fun c a w h => hP c a w _ _ h) (Or.inl ⟨by rfl, ?_⟩) hA0 hB0 ?_
  rotate_left
  · (intro w hSw; (try dsimp only at hSw); go_simp <;> with_reducible rfl)
  try simp only [Act.put, List.setIfInBounds_toArray, List.set_cons_zero, List.set_cons_succ]
  refine wpAnyL_take1 (i := 10) (oi := ⟨some 56, .load 9 (.tmp 55), 9, "parse.go:116", #[⟨9, .data⟩], none⟩) (v := ?_) rfl (by kernel_rfl) (by kernel_rfl) (by kernel_rfl) (by kernel_rfl) (by kernel_rfl) (by kernel_rfl) (fun c a w h => hP c a w _ _ h) (Or.inl ⟨by rfl, ?_⟩) hA0 hB0 ?_
  rotate_left
  · (intro w hSw; have q0 := (fun u (hu : u.heap[P]? = some (.cells #[.bool big, .bool wide, .int .u8 (abi : Nat), .int .u8 (ver : Nat), .string pad, .int .u64 (h0 : Nat), .int .u64 (h1 : Nat), .int .u64 (h2 : Nat), .int .u64 (h3 : Nat), .int .u64 (h4 : Nat), .int .u64 (h5 : Nat), .int .u64 (h6 : Nat), .int .u64 (h7 : Nat), .int .u64 (h8 : Nat), .int .u64 (h9 : Nat), .int .u64 (h10 : Nat), .int .u64 (h11 : Nat), .int .u64 (h12 : Nat), vs, vp, .int .u64 (nm : Nat), .string text] 138 (0, 0))) => show u.cell? ⟨P, 21, none⟩ = some (.string text) by rw [Lib.cell_of_heap hu]; rfl) w hSw; (try dsimp only at hSw); go_simp <;> with_reducible rfl)
  try simp only [Act.put, List.setIfInBounds_toArray, List.set_cons_zero, List.set_cons_succ]
  refine wpAnyL_take1 (i := 14) (oi := ⟨some 60, .load 42 (.tmp 59), 42, "parse.go:116", #[⟨13, .data⟩], none⟩) (v := .agg #[.bool big, .bool wide, .int .u8 (abi : Nat), .int .u8 (ver : Nat), .string pad, .int .u64 (h0 : Nat), .int .u64 (h1 : Nat), .int .u64 (h2 : Nat), .int .u64 (h3 : Nat), .int .u64 (h4 : Nat), .int .u64 (h5 : Nat), .int .u64 (h6 : Nat), .int .u64 (h7 : Nat), .int .u64 (h8 : Nat), .int .u64 (h9 : Nat), .int .u64 (h10 : Nat), .int .u64 (h11 : Nat), .int .u64 (h12 : Nat), vs, vp, .int .u64 (nm : Nat)]) rfl (by kernel_rfl) (by kernel_rfl) (by kernel_rfl) (by kernel_rfl) (by kernel_rfl) (by kernel_rfl) (fun c a w h => hP c a w _ _ h) (yieldsIf_load_mid (by rfl) 42 _ rfl P 0 rfl [.bool big, .bool wide, .int .u8 (abi : Nat), .int .u8 (ver : Nat), .string pad, .int .u64 (h0 : Nat), .int .u64 (h1 : Nat), .int .u64 (h2 : Nat), .int .u64 (h3 : Nat), .int .u64 (h4 : Nat), .int .u64 (h5 : Nat), .int .u64 (h6 : Nat), .int .u64 (h7 : Nat), .int .u64 (h8 : Nat), .int .u64 (h9 : Nat), .int .u64 (h10 : Nat), .int .u64 (h11 : Nat), .int .u64 (h12 : Nat), vs, vp, .int .u64 (nm : Nat)] _ (fun u hu => range_of hu (by rfl)) Try.underlying42 (by rfl) (by kernel_rfl)) hA0 hB0 ?_
  try simp only [Act.put, List.setIfInBounds_toArray, List.set_cons_zero, List.set_cons_succ]
  refine wpAnyL_take2 (i := 5) (oi := ⟨some 51, .fieldAddr 36 (.tmp 50) 0, 0, "parse.go:116", #[⟨4, .data⟩], none⟩) (v := ?_) rfl (by kernel_rfl) (by kernel_rfl) (by kernel_rfl) (by kernel_rfl) (fun c a w h => hP c a w _ _ h) (Or.inl ⟨by rfl, ?_⟩) hA0 hB0 ?_
  rotate_left
  · (intro w hSw; (try dsimp only at hSw); go_simp <;> with_reducible rfl)
  try simp only [Act.put, List.setIfInBounds_toArray, List.set_cons_zero, List.set_cons_succ]
  refine wpAnyL_take1 (i := 6) (oi := ⟨some 52, .load 34 (.tmp 51), 34, "parse.go:116", #[⟨5, .data⟩], none⟩) (v := ?_) rfl (by kernel_rfl) (by kernel_rfl) (by kernel_rfl) (by kernel_rfl) (by kernel_rfl) (by kernel_rfl) (fun c a w h => hP c a w _ _ h) (Or.inl ⟨by rfl, ?_⟩) hA0 hB0 ?_
  rotate_left
  · (intro w hSw; have q0 := (fun u (hu : u.heap[P]? = some (.cells #[.bool big, .bool wide, .int .u8 (abi : Nat), .int .u8 (ver : Nat), .string pad, .int .u64 (h0 : Nat), .int .u64 (h1 : Nat), .int .u64 (h2 : Nat), .int .u64 (h3 : Nat), .int .u64 (h4 : Nat), .int .u64 (h5 : Nat), .int .u64 (h6 : Nat), .int .u64 (h7 : Nat), .int .u64 (h8 : Nat), .int .u64 (h9 : Nat), .int .u64 (h10 : Nat), .int .u64 (h11 : Nat), .int .u64 (h12 : Nat), vs, vp, .int .u64 (nm : Nat), .string text] 138 (0, 0))) => show u.cell? ⟨P, 0, none⟩ = some (.bool big) by rw [Lib.cell_of_heap hu]; rfl) w hSw; have q1 := (fun u (hu : u.heap[P]? = some (.cells #[.bool big, .bool wide, .int .u8 (abi : Nat), .int .u8 (ver : Nat), .string pad, .int .u64 (h0 : Nat), .int .u64 (h1 : Nat), .int .u64 (h2 : Nat), .int .u64 (h3 : Nat), .int .u64 (h4 : Nat), .int .u64 (h5 : Nat), .int .u64 (h6 : Nat), .int .u64 (h7 : Nat), .int .u64 (h8 : Nat), .int .u64 (h9 : Nat), .int .u64 (h10 : Nat), .int .u64 (h11 : Nat), .int .u64 (h12 : Nat), vs, vp, .int .u64 (nm : Nat), .string text] 138 (0, 0))) => show u.cell? ⟨P, 1, none⟩ = some (.bool wide) by rw [Lib.cell_of_heap hu]; rfl) w hSw; (try dsimp only at hSw); go_simp <;> with_reducible rfl)
  try simp only [Act.put, List.setIfInBounds_toArray, List.set_cons_zero, List.set_cons_succ]
  refine wpAnyL_ready (rs := [16]) (by kernel_rfl) (by simp) ?_
  refine AllReadyL.consA (o := ⟨some 62, .call { callee := .value (.func 65), args := #[.tmp 60, .tmp 61], argTypes := #[42, 29] }, 148, "parse.go:116", #[⟨14, .data⟩, ⟨15, .data⟩], none⟩) rfl (fun K hK => ?_) AllReadyL.nil
  (first | go_at_call 65 | (go_simp; go_at_call 65))
  refine (ptable_any big wide abi ver pad h0 h1 h2 h3 h4 h5 h6 h7 h8 h9 h10 h11 h12 vs vp nm n _).mono ?_
  rintro e w3 ⟨rfl, bl3⟩
  try go_wp2_with fail
  have hA3 : w3.heap[P]? = some (.cells #[.bool big, .bool wide, .int .u8 (abi : Nat), .int .u8 (ver : Nat), .string pad, .int .u64 (h0 : Nat), .int .u64 (h1 : Nat), .int .u64 (h2 : Nat), .int .u64 (h3 : Nat), .int .u64 (h4 : Nat), .int .u64 (h5 : Nat), .int .u64 (h6 : Nat), .int .u64 (h7 : Nat), .int .u64 (h8 : Nat), .int .u64 (h9 : Nat), .int .u64 (h10 : Nat), .int .u64 (h11 : Nat), .int .u64 (h12 : Nat), vs, vp, .int .u64 (nm : Nat), .string text] 138 (0, 0)) := heap_low hA0 bl3
  have hB3 : OnlyAt P W w3 := only_low hB0 bl3
  refine hK.out _ _ hA3 hB3 ?_
  clear hK K
  try simp only [Act.put, List.setIfInBounds_toArray, List.set_cons_zero, List.set_cons_succ]
  refine wpAnyL_ready (rs := [17]) (by kernel_rfl) (by simp) ?_
  refine AllReadyL.consA (o := ⟨some 63, .call { callee := .value (.func 94), args := #[.tmp 52, .tmp 56, .tmp 62, .func 95], argTypes := #[34, 9, 148, 199] }, 197, "parse.go:116", #[⟨6, .data⟩, ⟨10, .data⟩, ⟨16, .data⟩, ⟨16, .chain⟩], none⟩) rfl (fun K hK => ?_) AllReadyL.nil
  (first | go_at_call 94 | (go_simp; go_at_call 94))
  refine (HC.out _).mono ?_
  rintro e w4 ⟨⟨yA, y1, y2, rfl, pv⟩, bl4⟩
  try go_wp2_with fail
  have hA4 : w4.heap[P]? = some (.cells #[.bool big, .bool wide, .int .u8 (abi : Nat), .int .u8 (ver : Nat), .string pad, .int .u64 (h0 : Nat), .int .u64 (h1 : Nat), .int .u64 (h2 : Nat), .int .u64 (h3 : Nat), .int .u64 (h4 : Nat), .int .u64 (h5 : Nat), .int .u64 (h6 : Nat), .int .u64 (h7 : Nat), .int .u64 (h8 : Nat), .int .u64 (h9 : Nat), .int .u64 (h10 : Nat), .int .u64 (h11 : Nat), .int .u64 (h12 : Nat), vs, vp, .int .u64 (nm : Nat), .string text] 138 (0, 0)) := heap_low hA3 bl4
  have hB4 : OnlyAt P W w4 := only_low hB3 bl4
  refine hK.out _ _ hA4 hB4 ?_
  clear hK K
  try simp only [Act.put, List.setIfInBounds_toArray, List.set_cons_zero, List.set_cons_succ]
  refine wpAnyL_take2 (i := 18) (oi := ⟨some 45, .move (.tmp 63), 197, "parse.go:116", #[⟨17, .data⟩], none⟩) (v := ?_) rfl (by kernel_rfl) (by kernel_rfl) (by kernel_rfl) (by kernel_rfl) (fun c a w h => hP c a w _ _ h) (Or.inl ⟨by rfl, ?_⟩) hA4 hB4 ?_
  rotate_left
  · (intro w hSw; (try dsimp only at hSw); go_simp <;> with_reducible rfl)
  try simp only [Act.put, List.setIfInBounds_toArray, List.set_cons_zero, List.set_cons_succ]
  refine wpAnyL_take2 (i := 19) (oi := ⟨some 64, .extract (.tmp 45) 0, 40, "parse.go:116", #[⟨18, .data⟩], none⟩) (v := ?_) rfl (by kernel_rfl) (by kernel_rfl) (by kernel_rfl) (by kernel_rfl) (fun c a w h => hP c a w _ _ h) (Or.inl ⟨by rfl, ?_⟩) hA4 hB4 ?_
  rotate_left
  · (intro w hSw; (try dsimp only at hSw); go_simp <;> with_reducible rfl)
  try simp only [Act.put, List.setIfInBounds_toArray, List.set_cons_zero, List.set_cons_succ]
  refine wpAnyL_take2 (i := 20) (oi := ⟨some 65, .extract (.tmp 45) 1, 4, "parse.go:116", #[⟨18, .data⟩, ⟨24, .gcOnly .lateStores⟩], none⟩) (v := ?_) rfl (by kernel_rfl) (by kernel_rfl) (by kernel_rfl) (by kernel_rfl) (fun c a w h => hP c a w _ _ h) (Or.inl ⟨by rfl, ?_⟩) hA4 hB4 ?_
  rotate_left
  · (intro w hSw; (try dsimp only at hSw); go_simp <;> with_reducible rfl)
  try simp only [Act.put, List.setIfInBounds_toArray, List.set_cons_zero, List.set_cons_succ]
  refine wpAnyL_take2 (i := 21) (oi := ⟨some 66, .nilCheck (.tmp 46), 0, "parse.go:116", #[⟨0, .data⟩, ⟨0, .phase⟩, ⟨1, .phase⟩, ⟨2, .phase⟩, ⟨3, .phase⟩, ⟨4, .phase⟩, ⟨5, .phase⟩, ⟨6, .phase⟩, ⟨7, .phase⟩, ⟨8, .phase⟩, ⟨9, .phase⟩, ⟨10, .phase⟩, ⟨11, .phase⟩, ⟨12, .phase⟩, ⟨13, .phase⟩, ⟨14, .phase⟩, ⟨15, .phase⟩, ⟨16, .phase⟩, ⟨17, .phase⟩, ⟨18, .phase⟩, ⟨19, .phase⟩, ⟨20, .textOnly .lateStores⟩], none⟩) (v := ?_) rfl (by kernel_rfl) (by kernel_rfl) (by kernel_rfl) (by kernel_rfl) (fun c a w h => hP c a w _ _ h) (Or.inl ⟨by rfl, ?_⟩) hA4 hB4 ?_
  rotate_left
  · (intro w hSw; (try dsimp only at hSw); go_simp <;> with_reducible rfl)
  try simp only [Act.put, List.setIfInBounds_toArray, List.set_cons_zero, List.set_cons_succ]
  refine wpAnyL_take2 (i := 22) (oi := ⟨some 67, .fieldAddr 138 (.tmp 66) 0, 0, "parse.go:116", #[⟨21, .data⟩, ⟨0, .phase⟩, ⟨1, .phase⟩, ⟨2, .phase⟩, ⟨3, .phase⟩, ⟨4, .phase⟩, ⟨5, .phase⟩, ⟨6, .phase⟩, ⟨7, .phase⟩, ⟨8, .phase⟩, ⟨9, .phase⟩, ⟨10, .phase⟩, ⟨11, .phase⟩, ⟨12, .phase⟩, ⟨13, .phase⟩, ⟨14, .phase⟩, ⟨15, .phase⟩, ⟨16, .phase⟩, ⟨17, .phase⟩, ⟨18, .phase⟩, ⟨19, .phase⟩, ⟨20, .textOnly .lateStores⟩], none⟩) (v := ?_) rfl (by kernel_rfl) (by kernel_rfl) (by kernel_rfl) (by kernel_rfl) (fun c a w h => hP c a w _ _ h) (Or.inl ⟨by rfl, ?_⟩) hA4 hB4 ?_
  rotate_left
  · (intro w hSw; (try dsimp only at hSw); go_simp <;> with_reducible rfl)
  try simp only [Act.put, List.setIfInBounds_toArray, List.set_cons_zero, List.set_cons_succ]
  refine wpAnyL_take2 (i := 23) (oi := ⟨some 68, .fieldAddr 42 (.tmp 67) 3, 0, "parse.go:116", #[⟨22, .data⟩, ⟨0, .phase⟩, ⟨1, .phase⟩, ⟨2, .phase⟩, ⟨3, .phase⟩, ⟨4, .phase⟩, ⟨5, .phase⟩, ⟨6, .phase⟩, ⟨7, .phase⟩, ⟨8, .phase⟩, ⟨9, .phase⟩, ⟨10, .phase⟩, ⟨11, .phase⟩, ⟨12, .phase⟩, ⟨13, .phase⟩, ⟨14, .phase⟩, ⟨15, .phase⟩, ⟨16, .phase⟩, ⟨17, .phase⟩, ⟨18, .phase⟩, ⟨19, .phase⟩, ⟨20, .textOnly .lateStores⟩], none⟩) (v := ?_) rfl (by kernel_rfl) (by kernel_rfl) (by kernel_rfl) (by kernel_rfl) (fun c a w h => hP c a w _ _ h) (Or.inl ⟨by rfl, ?_⟩) hA4 hB4 ?_
  rotate_left
  · (intro w hSw; (try dsimp only at hSw); go_simp <;> with_reducible rfl)
  try simp only [Act.put, List.setIfInBounds_toArray, List.set_cons_zero, List.set_cons_succ]
  refine wpAnyL_ready (rs := [24]) (by kernel_rfl) (by simp) ?_
  refine AllReadyL.consB (o := ⟨none, .store 40 (.tmp 68) (.tmp 64), 0, "parse.go:116", #[⟨23, .data⟩, ⟨19, .data⟩, ⟨17, .chain⟩, ⟨0, .phase⟩, ⟨1, .phase⟩, ⟨2, .phase⟩, ⟨3, .phase⟩, ⟨4, .phase⟩, ⟨5, .phase⟩, ⟨6, .phase⟩, ⟨7, .phase⟩, ⟨8, .phase⟩, ⟨9, .phase⟩, ⟨10, .phase⟩, ⟨11, .phase⟩, ⟨12, .phase⟩, ⟨13, .phase⟩, ⟨14, .phase⟩, ⟨15, .phase⟩, ⟨16, .phase⟩, ⟨17, .phase⟩, ⟨18, .phase⟩, ⟨19, .phase⟩, ⟨20, .textOnly .lateStores⟩], none⟩) rfl (by kernel_rfl) (fun K hK => ?_) AllReadyL.nil
  have cP : w4.cell? ⟨P, 19, none⟩ = some vp := by rw [Lib.cell_of_heap hA4]; rfl
  have fP : w4.frozen? ⟨P, 19, none⟩ = false := Lib.frozen_of_heap hA4 19
  go_simp
  have hA5 : (w4.setCell ⟨P, 19, none⟩ (.slice yA y1 y2)).heap[P]? = some (.cells #[.bool big, .bool wide, .int .u8 (abi : Nat), .int .u8 (ver : Nat), .string pad, .int .u64 (h0 : Nat), .int .u64 (h1 : Nat), .int .u64 (h2 : Nat), .int .u64 (h3 : Nat), .int .u64 (h4 : Nat), .int .u64 (h5 : Nat), .int .u64 (h6 : Nat), .int .u64 (h7 : Nat), .int .u64 (h8 : Nat), .int .u64 (h9 : Nat), .int .u64 (h10 : Nat), .int .u64 (h11 : Nat), .int .u64 (h12 : Nat), vs, .slice yA y1 y2, .int .u64 (nm : Nat), .string text] 138 (0, 0)) := by have q := Lib.heap_setCell_same (i := 19) hA4 (.slice yA y1 y2); simpa using q
  have hB5 : OnlyAt P W (w4.setCell ⟨P, 19, none⟩ (.slice yA y1 y2)) := hB4.trans (OnlyAt.setCell P 19 w4 (.slice yA y1 y2))
  clear cP fP
  refine hK.out _ _ hB5 ?_
  clear hK K
  try simp only [Act.put]
  refine wpAnyL_take3 (i := 25) (oi := ⟨some 4, .assign (.tmp 65), 4, "parse.go:116", #[⟨20, .data⟩, ⟨24, .chain⟩, ⟨0, .phase⟩, ⟨1, .phase⟩, ⟨2, .phase⟩, ⟨3, .phase⟩, ⟨4, .phase⟩, ⟨5, .phase⟩, ⟨6, .phase⟩, ⟨7, .phase⟩, ⟨8, .phase⟩, ⟨9, .phase⟩, ⟨10, .phase⟩, ⟨11, .phase⟩, ⟨12, .phase⟩, ⟨13, .phase⟩, ⟨14, .phase⟩, ⟨15, .phase⟩, ⟨16, .phase⟩, ⟨17, .phase⟩, ⟨18, .phase⟩, ⟨19, .phase⟩, ⟨20, .phase⟩, ⟨21, .phase⟩, ⟨22, .phase⟩, ⟨23, .phase⟩, ⟨24, .phase⟩], none⟩) (v := ?_) rfl (by kernel_rfl) (by kernel_rfl) (by kernel_rfl) (by kernel_rfl) (by kernel_rfl) (fun c a w h => hP c a w _ _ h) (Or.inl ⟨by rfl, ?_⟩) hB5 ?_
  rotate_left
  · (intro w hSw; (try dsimp only at hSw); go_simp <;> with_reducible rfl)
  try simp only [Act.put, List.setIfInBounds_toArray, List.set_cons_zero, List.set_cons_succ]
  refine wpAnyL_done (by kernel_rfl) ?_ _
  exact HQ.out _ _ _ _ _ _ _ _ _ _ _ _ _ _ _ _ _ _ _ _ _ _ _ _ _ _ _ _ (hPV _ _ _ _ hB3.size pv (OnlyAt.setCell P 19 w4 (.slice yA y1 y2))) hA5 hB5
end Go.Proofs.Ytedocnidgiglaaa
