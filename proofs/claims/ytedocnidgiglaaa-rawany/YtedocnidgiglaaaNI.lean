/- The drawn regions of raw's records. Conditions: those written in each theorem. -/
import Derived.Test.YtedocnidgiglaaaJC
namespace Go.Proofs.Ytedocnidgiglaaa
open Go.RowKit
set_option linter.unusedVariables false
set_option maxRecDepth 1000000 in
set_option maxHeartbeats 400000 in
theorem sreg8 (Q : Exit → Act → World → Prop) (c0 c1 c2 c5 c7 c8 c9 c11 c14 c15 c16 c17 c18 c19 c20 c21 c22 c23 c24 c25 c26 c27 c28 c29 c30 c31 c32 c33 c34 c35 c36 c37 c38 c39 c40 c41 c42 c43 c44 c45 c46 c47 c48 c49 c50 : Value) (big wide : Bool) (F T b n i z p : Nat) (r0 r1 r2 r3 r4 r5 r6 r7 r8 r9 : Nat) (L L2 : List Nat) (P : ByteArray) (W : World) (hR : W.heap[b]? = some (.cells (rowU64 L) 52 (0, 0))) (hBW : b ≤ W.heap.size)
    (i0 : (0 : Int) ≤ (i : Int)) (i1 : (i : Int) < (n : Int)) (iw : IntKind.u64.wrap (i : Int) = (i : Int)) (pw : IntKind.u64.wrap ((i : Int) * (z : Int)) = (p : Int)) (p0 : (0 : Int) ≤ (p : Int)) (p1 : (p : Int) ≤ (P.size : Int)) (hL : i * 10 + 10 ≤ L.length)
    (hnew : L.take (i * 10) ++ ([r0, r1, r2, r3, r4, r5, r6, r7, r8, r9] ++ L.drop (i * 10 + 10)) = L2)
    (X0 : Hid (∀ u, Below b W u → u.cell? ⟨F, 0, none⟩ = some (.bool big))) (X1 : Hid (∀ u, Below b W u → u.cell? ⟨F, 1, none⟩ = some (.bool wide))) (X2 : Hid (∀ u, Below b W u → u.cell? ⟨T, 2, none⟩ = some (.int .u64 (z : Nat))))
    (HC : Hid (∀ u, Calls Try.prog 93 #[.agg #[.bool big, .bool wide], .string (P.extract p P.size)] u fun e w' => e = .returned (.tuple #[.agg #[.int .u64 (r0 : Nat), .int .u64 (r1 : Nat), .int .u64 (r2 : Nat), .int .u64 (r3 : Nat), .int .u64 (r4 : Nat), .int .u64 (r5 : Nat), .int .u64 (r6 : Nat), .int .u64 (r7 : Nat), .int .u64 (r8 : Nat), .int .u64 (r9 : Nat)], .bool true]) ∧ Below u.heap.size u w'))
    (hP : ∀ c a w i v, Q (.panic c) (a.put (some i) v) w → Q (.panic c) a w)
    (hQ : ∀ (u31 u32 u33 u34 u35 u36 u37 u38 u39 u40 u41 u42 u43 u44 u45 u46 : Value) (w' : World), w'.heap[b]? = some (.cells (rowU64 L2) 52 (0, 0)) → Below b W w' → Q .normal ⟨#[c0, c1, c2, .func (.func 93) #[] #[], .pointer (some ⟨F, 0, none⟩), c5, .pointer (some ⟨T, 0, none⟩), c7, c8, c9, .string P, .bool true, .slice (some ⟨b, 0, none⟩) n n, .int .i64 (i : Int), c14, c15, c16, c17, c18, c19, c20, c21, c22, c23, c24, c25, c26, c27, c28, c29, c30, u31, u32, u33, u34, u35, u36, u37, u38, u39, u40, u41, u42, u43, u44, u45, u46, c47, c48, c49, c50], []⟩ w') :
    (Code.region 8 #[⟨some 32, .move (.tmp 12), 39, "table.go:40", #[], none⟩, ⟨some 33, .move (.tmp 13), 3, "table.go:40", #[], none⟩, ⟨some 34, .move (.tmp 3), 196, "table.go:40", #[], none⟩, ⟨some 35, .load 34 (.tmp 4), 34, "table.go:40", #[], none⟩, ⟨some 36, .move (.tmp 10), 9, "table.go:40", #[], none⟩, ⟨some 37, .move (.tmp 13), 3, "table.go:40", #[], none⟩, ⟨some 38, .convert 3 29 (.tmp 37), 29, "table.go:40", #[⟨5, .data⟩], none⟩, ⟨some 39, .fieldAddr 148 (.tmp 6) 2, 0, "table.go:40", #[], none⟩, ⟨some 40, .load 29 (.tmp 39), 29, "table.go:40", #[⟨7, .data⟩], none⟩, ⟨some 41, .binOp .mul 29 (.tmp 38) (.tmp 40) 29, 29, "table.go:40", #[⟨6, .data⟩, ⟨8, .data⟩], none⟩, ⟨some 42, .slice 9 (.tmp 36) (some (.tmp 41)) none none, 9, "table.go:40", #[⟨4, .data⟩, ⟨9, .data⟩], none⟩, ⟨some 43, .call { callee := .value (.tmp 34), args := #[.tmp 35, .tmp 42], argTypes := #[34, 9] }, 232, "table.go:40", #[⟨2, .data⟩, ⟨3, .data⟩, ⟨10, .data⟩], none⟩, ⟨some 31, .move (.tmp 43), 232, "table.go:40", #[⟨11, .data⟩], none⟩, ⟨some 44, .extract (.tmp 31) 0, 52, "table.go:40", #[⟨12, .data⟩], none⟩, ⟨some 45, .extract (.tmp 31) 1, 4, "table.go:40", #[⟨12, .data⟩, ⟨16, .gcOnly .lateStores⟩], none⟩, ⟨some 46, .indexAddr 39 (.tmp 32) (.tmp 33), 0, "table.go:40", #[⟨0, .data⟩, ⟨1, .data⟩, ⟨0, .phase⟩, ⟨1, .phase⟩, ⟨2, .phase⟩, ⟨3, .phase⟩, ⟨4, .phase⟩, ⟨5, .phase⟩, ⟨6, .phase⟩, ⟨7, .phase⟩, ⟨8, .phase⟩, ⟨9, .phase⟩, ⟨10, .phase⟩, ⟨11, .phase⟩, ⟨12, .phase⟩, ⟨13, .phase⟩, ⟨14, .textOnly .lateStores⟩], none⟩, ⟨none, .store 52 (.tmp 46) (.tmp 44), 0, "table.go:40", #[⟨15, .data⟩, ⟨13, .data⟩, ⟨11, .chain⟩, ⟨0, .phase⟩, ⟨1, .phase⟩, ⟨2, .phase⟩, ⟨3, .phase⟩, ⟨4, .phase⟩, ⟨5, .phase⟩, ⟨6, .phase⟩, ⟨7, .phase⟩, ⟨8, .phase⟩, ⟨9, .phase⟩, ⟨10, .phase⟩, ⟨11, .phase⟩, ⟨12, .phase⟩, ⟨13, .phase⟩, ⟨14, .textOnly .lateStores⟩], none⟩, ⟨some 11, .assign (.tmp 45), 4, "table.go:40", #[⟨14, .data⟩, ⟨16, .chain⟩, ⟨0, .phase⟩, ⟨1, .phase⟩, ⟨2, .phase⟩, ⟨3, .phase⟩, ⟨4, .phase⟩, ⟨5, .phase⟩, ⟨6, .phase⟩, ⟨7, .phase⟩, ⟨8, .phase⟩, ⟨9, .phase⟩, ⟨10, .phase⟩, ⟨11, .phase⟩, ⟨12, .phase⟩, ⟨13, .phase⟩, ⟨14, .phase⟩, ⟨15, .phase⟩, ⟨16, .phase⟩], none⟩] true).wp Try.prog Q ⟨#[c0, c1, c2, .func (.func 93) #[] #[], .pointer (some ⟨F, 0, none⟩), c5, .pointer (some ⟨T, 0, none⟩), c7, c8, c9, .string P, c11, .slice (some ⟨b, 0, none⟩) n n, .int .i64 (i : Int), c14, c15, c16, c17, c18, c19, c20, c21, c22, c23, c24, c25, c26, c27, c28, c29, c30, c31, c32, c33, c34, c35, c36, c37, c38, c39, c40, c41, c42, c43, c44, c45, c46, c47, c48, c49, c50], []⟩ W := by
  dsimp only at hQ ⊢
  have HQ := Lib.hid hQ; clear hQ
  refine wp_region_held_drew (S := fun w' => Below b W w') (by kernel_rfl) ?_ (fun hHeld => ?_)
  · exact (Below.refl _ _).drew
  have HR0 : Hid (W.drew.heap[b]? = some (.cells (rowU64 L) 52 (0, 0))) := Lib.hid hR
  generalize W.drew = W0 at *
  refine wpAnyH_take (i := 0) (oi := ⟨some 32, .move (.tmp 12), 39, "table.go:40", #[], none⟩) (v := ?_) rfl (by kernel_rfl) (by kernel_rfl) (by kernel_rfl) (fun c a w h => hP c a w _ _ h) (Or.inl ⟨by rfl, ?_⟩) (by assumption) ?_
  rotate_left
  · (intro w hSw; (try dsimp only at hSw); go_simp <;> with_reducible rfl)
  try simp only [Act.put, List.setIfInBounds_toArray, List.set_cons_zero, List.set_cons_succ]
  refine wpAnyH_take (i := 1) (oi := ⟨some 33, .move (.tmp 13), 3, "table.go:40", #[], none⟩) (v := ?_) rfl (by kernel_rfl) (by kernel_rfl) (by kernel_rfl) (fun c a w h => hP c a w _ _ h) (Or.inl ⟨by rfl, ?_⟩) (by assumption) ?_
  rotate_left
  · (intro w hSw; (try dsimp only at hSw); go_simp <;> with_reducible rfl)
  try simp only [Act.put, List.setIfInBounds_toArray, List.set_cons_zero, List.set_cons_succ]
  refine wpAnyH_take (i := 2) (oi := ⟨some 34, .move (.tmp 3), 196, "table.go:40", #[], none⟩) (v := ?_) rfl (by kernel_rfl) (by kernel_rfl) (by kernel_rfl) (fun c a w h => hP c a w _ _ h) (Or.inl ⟨by rfl, ?_⟩) (by assumption) ?_
  rotate_left
  · (intro w hSw; (try dsimp only at hSw); go_simp <;> with_reducible rfl)
  try simp only [Act.put, List.setIfInBounds_toArray, List.set_cons_zero, List.set_cons_succ]
  refine wpAnyH_take (i := 3) (oi := ⟨some 35, .load 34 (.tmp 4), 34, "table.go:40", #[], none⟩) (v := ?_) rfl (by kernel_rfl) (by kernel_rfl) (by kernel_rfl) (fun c a w h => hP c a w _ _ h) (Or.inl ⟨by rfl, ?_⟩) (by assumption) ?_
  rotate_left
  · (intro w hSw; have q0 := X0.out w hSw; have q1 := X1.out w hSw; (try dsimp only at hSw); go_simp <;> with_reducible rfl)
  try simp only [Act.put, List.setIfInBounds_toArray, List.set_cons_zero, List.set_cons_succ]
  refine wpAnyH_take (i := 4) (oi := ⟨some 36, .move (.tmp 10), 9, "table.go:40", #[], none⟩) (v := ?_) rfl (by kernel_rfl) (by kernel_rfl) (by kernel_rfl) (fun c a w h => hP c a w _ _ h) (Or.inl ⟨by rfl, ?_⟩) (by assumption) ?_
  rotate_left
  · (intro w hSw; (try dsimp only at hSw); go_simp <;> with_reducible rfl)
  try simp only [Act.put, List.setIfInBounds_toArray, List.set_cons_zero, List.set_cons_succ]
  refine wpAnyH_take (i := 5) (oi := ⟨some 37, .move (.tmp 13), 3, "table.go:40", #[], none⟩) (v := ?_) rfl (by kernel_rfl) (by kernel_rfl) (by kernel_rfl) (fun c a w h => hP c a w _ _ h) (Or.inl ⟨by rfl, ?_⟩) (by assumption) ?_
  rotate_left
  · (intro w hSw; (try dsimp only at hSw); go_simp <;> with_reducible rfl)
  try simp only [Act.put, List.setIfInBounds_toArray, List.set_cons_zero, List.set_cons_succ]
  refine wpAnyH_take (i := 7) (oi := ⟨some 39, .fieldAddr 148 (.tmp 6) 2, 0, "table.go:40", #[], none⟩) (v := ?_) rfl (by kernel_rfl) (by kernel_rfl) (by kernel_rfl) (fun c a w h => hP c a w _ _ h) (Or.inl ⟨by rfl, ?_⟩) (by assumption) ?_
  rotate_left
  · (intro w hSw; (try dsimp only at hSw); go_simp <;> with_reducible rfl)
  try simp only [Act.put, List.setIfInBounds_toArray, List.set_cons_zero, List.set_cons_succ]
  refine wpAnyH_take (i := 6) (oi := ⟨some 38, .convert 3 29 (.tmp 37), 29, "table.go:40", #[⟨5, .data⟩], none⟩) (v := ?_) rfl (by kernel_rfl) (by kernel_rfl) (by kernel_rfl) (fun c a w h => hP c a w _ _ h) (Or.inl ⟨by rfl, ?_⟩) (by assumption) ?_
  rotate_left
  · (intro w hSw; (try dsimp only at hSw); go_simp <;> with_reducible rfl)
  try simp only [Act.put, List.setIfInBounds_toArray, List.set_cons_zero, List.set_cons_succ]
  refine wpAnyH_take (i := 8) (oi := ⟨some 40, .load 29 (.tmp 39), 29, "table.go:40", #[⟨7, .data⟩], none⟩) (v := ?_) rfl (by kernel_rfl) (by kernel_rfl) (by kernel_rfl) (fun c a w h => hP c a w _ _ h) (Or.inl ⟨by rfl, ?_⟩) (by assumption) ?_
  rotate_left
  · (intro w hSw; have q0 := X2.out w hSw; (try dsimp only at hSw); go_simp <;> with_reducible rfl)
  try simp only [Act.put, List.setIfInBounds_toArray, List.set_cons_zero, List.set_cons_succ]
  refine wpAnyH_take (i := 9) (oi := ⟨some 41, .binOp .mul 29 (.tmp 38) (.tmp 40) 29, 29, "table.go:40", #[⟨6, .data⟩, ⟨8, .data⟩], none⟩) (v := ?_) rfl (by kernel_rfl) (by kernel_rfl) (by kernel_rfl) (fun c a w h => hP c a w _ _ h) (Or.inl ⟨by rfl, ?_⟩) (by assumption) ?_
  rotate_left
  · (intro w hSw; (try dsimp only at hSw); go_simp <;> with_reducible rfl)
  try simp only [Act.put, List.setIfInBounds_toArray, List.set_cons_zero, List.set_cons_succ]
  refine wpAnyH_take (i := 10) (oi := ⟨some 42, .slice 9 (.tmp 36) (some (.tmp 41)) none none, 9, "table.go:40", #[⟨4, .data⟩, ⟨9, .data⟩], none⟩) (v := ?_) rfl (by kernel_rfl) (by kernel_rfl) (by kernel_rfl) (fun c a w h => hP c a w _ _ h) (Or.inl ⟨by rfl, ?_⟩) (by assumption) ?_
  rotate_left
  · (intro w hSw; (try dsimp only at hSw); go_simp <;> with_reducible rfl)
  try simp only [Act.put, List.setIfInBounds_toArray, List.set_cons_zero, List.set_cons_succ]
  refine wpAnyH_ready (rs := [11]) (by kernel_rfl) (by simp) ?_
  refine AllReadyH.cons (o := ⟨some 43, .call { callee := .value (.tmp 34), args := #[.tmp 35, .tmp 42], argTypes := #[34, 9] }, 232, "table.go:40", #[⟨2, .data⟩, ⟨3, .data⟩, ⟨10, .data⟩], none⟩) rfl (fun K hK => ?_) AllReadyH.nil
  (first | go_at_call 93 | (go_simp; go_at_call 93))
  refine (HC.out _).mono ?_
  rintro e w3 ⟨rfl, h3⟩
  try go_wp2_with fail
  refine hK.out _ _ ?_ (fun hHeld2 => ?_)
  · exact hHeld.trans (h3.mono (Nat.le_trans hBW hHeld.size))
  clear hK K
  try simp only [Act.put, List.setIfInBounds_toArray, List.set_cons_zero, List.set_cons_succ]
  refine wpAnyH_take (i := 12) (oi := ⟨some 31, .move (.tmp 43), 232, "table.go:40", #[⟨11, .data⟩], none⟩) (v := ?_) rfl (by kernel_rfl) (by kernel_rfl) (by kernel_rfl) (fun c a w h => hP c a w _ _ h) (Or.inl ⟨by rfl, ?_⟩) (by assumption) ?_
  rotate_left
  · (intro w hSw; (try dsimp only at hSw); go_simp <;> with_reducible rfl)
  try simp only [Act.put, List.setIfInBounds_toArray, List.set_cons_zero, List.set_cons_succ]
  refine wpAnyH_take (i := 13) (oi := ⟨some 44, .extract (.tmp 31) 0, 52, "table.go:40", #[⟨12, .data⟩], none⟩) (v := ?_) rfl (by kernel_rfl) (by kernel_rfl) (by kernel_rfl) (fun c a w h => hP c a w _ _ h) (Or.inl ⟨by rfl, ?_⟩) (by assumption) ?_
  rotate_left
  · (intro w hSw; (try dsimp only at hSw); go_simp <;> with_reducible rfl)
  try simp only [Act.put, List.setIfInBounds_toArray, List.set_cons_zero, List.set_cons_succ]
  refine wpAnyH_take (i := 14) (oi := ⟨some 45, .extract (.tmp 31) 1, 4, "table.go:40", #[⟨12, .data⟩, ⟨16, .gcOnly .lateStores⟩], none⟩) (v := ?_) rfl (by kernel_rfl) (by kernel_rfl) (by kernel_rfl) (fun c a w h => hP c a w _ _ h) (Or.inl ⟨by rfl, ?_⟩) (by assumption) ?_
  rotate_left
  · (intro w hSw; (try dsimp only at hSw); go_simp <;> with_reducible rfl)
  try simp only [Act.put, List.setIfInBounds_toArray, List.set_cons_zero, List.set_cons_succ]
  refine wpAnyH_take (i := 15) (oi := ⟨some 46, .indexAddr 39 (.tmp 32) (.tmp 33), 0, "table.go:40", #[⟨0, .data⟩, ⟨1, .data⟩, ⟨0, .phase⟩, ⟨1, .phase⟩, ⟨2, .phase⟩, ⟨3, .phase⟩, ⟨4, .phase⟩, ⟨5, .phase⟩, ⟨6, .phase⟩, ⟨7, .phase⟩, ⟨8, .phase⟩, ⟨9, .phase⟩, ⟨10, .phase⟩, ⟨11, .phase⟩, ⟨12, .phase⟩, ⟨13, .phase⟩, ⟨14, .textOnly .lateStores⟩], none⟩) (v := ?_) rfl (by kernel_rfl) (by kernel_rfl) (by kernel_rfl) (fun c a w h => hP c a w _ _ h) (Or.inl ⟨by rfl, ?_⟩) (by assumption) ?_
  rotate_left
  · (intro w hSw; (try dsimp only at hSw); go_simp <;> with_reducible rfl)
  try simp only [Act.put, List.setIfInBounds_toArray, List.set_cons_zero, List.set_cons_succ]
  refine wpAnyH_ready (rs := [16]) (by kernel_rfl) (by simp) ?_
  refine AllReadyH.cons (o := ⟨none, .store 52 (.tmp 46) (.tmp 44), 0, "table.go:40", #[⟨15, .data⟩, ⟨13, .data⟩, ⟨11, .chain⟩, ⟨0, .phase⟩, ⟨1, .phase⟩, ⟨2, .phase⟩, ⟨3, .phase⟩, ⟨4, .phase⟩, ⟨5, .phase⟩, ⟨6, .phase⟩, ⟨7, .phase⟩, ⟨8, .phase⟩, ⟨9, .phase⟩, ⟨10, .phase⟩, ⟨11, .phase⟩, ⟨12, .phase⟩, ⟨13, .phase⟩, ⟨14, .textOnly .lateStores⟩], none⟩) rfl (fun K hK => ?_) AllReadyH.nil
  have HR3 : Hid (w3.heap[b]? = some (.cells (rowU64 L) 52 (0, 0))) := Lib.hid (heap_low HR0.out h3)
  refine wp_store_mid 52 _ _ rfl b (i * 10) #[.int .u64 (r0 : Nat), .int .u64 (r1 : Nat), .int .u64 (r2 : Nat), .int .u64 (r3 : Nat), .int .u64 (r4 : Nat), .int .u64 (r5 : Nat), .int .u64 (r6 : Nat), .int .u64 (r7 : Nat), .int .u64 (r8 : Nat), .int .u64 (r9 : Nat)] (by simp only [Act.eval]; rfl) (by rfl) (there_of HR3.out (by simp [rowU64]; omega)) (by kernel_rfl) (by simp [Value.oneCell']) ?_
  refine hK.out _ _ ?_ (fun hHeld3_11 => ?_)
  · exact below_setCells (Nat.le_refl _) _ _ hHeld2
  clear hK K
  try simp only [Act.put]
  refine wpAnyH_take (i := 17) (oi := ⟨some 11, .assign (.tmp 45), 4, "table.go:40", #[⟨14, .data⟩, ⟨16, .chain⟩, ⟨0, .phase⟩, ⟨1, .phase⟩, ⟨2, .phase⟩, ⟨3, .phase⟩, ⟨4, .phase⟩, ⟨5, .phase⟩, ⟨6, .phase⟩, ⟨7, .phase⟩, ⟨8, .phase⟩, ⟨9, .phase⟩, ⟨10, .phase⟩, ⟨11, .phase⟩, ⟨12, .phase⟩, ⟨13, .phase⟩, ⟨14, .phase⟩, ⟨15, .phase⟩, ⟨16, .phase⟩], none⟩) (v := ?_) rfl (by kernel_rfl) (by kernel_rfl) (by kernel_rfl) (fun c a w h => hP c a w _ _ h) (Or.inl ⟨by rfl, ?_⟩) (by assumption) ?_
  rotate_left
  · (intro w hSw; (try dsimp only at hSw); go_simp <;> with_reducible rfl)
  try simp only [Act.put, List.setIfInBounds_toArray, List.set_cons_zero, List.set_cons_succ]
  refine wpAnyH_done (by kernel_rfl) ?_ _
  exact HQ.out _ _ _ _ _ _ _ _ _ _ _ _ _ _ _ _ _ (by have q := heap_setCells [.int .u64 (r0 : Nat), .int .u64 (r1 : Nat), .int .u64 (r2 : Nat), .int .u64 (r3 : Nat), .int .u64 (r4 : Nat), .int .u64 (r5 : Nat), .int .u64 (r6 : Nat), .int .u64 (r7 : Nat), .int .u64 (r8 : Nat), .int .u64 (r9 : Nat)] (i * 10) HR3.out; rw [← hnew]; exact q.trans (by rw [show [.int .u64 (r0 : Nat), .int .u64 (r1 : Nat), .int .u64 (r2 : Nat), .int .u64 (r3 : Nat), .int .u64 (r4 : Nat), .int .u64 (r5 : Nat), .int .u64 (r6 : Nat), .int .u64 (r7 : Nat), .int .u64 (r8 : Nat), .int .u64 (r9 : Nat)] = ([r0, r1, r2, r3, r4, r5, r6, r7, r8, r9] : List Nat).map (fun n : Nat => Value.int .u64 (n : Int)) from rfl, stv_u64 _ _ _ (by simp; omega)]; rfl)) hHeld3_11
set_option maxRecDepth 1000000 in
set_option maxHeartbeats 400000 in
theorem preg8 (Q : Exit → Act → World → Prop) (c0 c1 c2 c5 c7 c8 c9 c11 c14 c15 c16 c17 c18 c19 c20 c21 c22 c23 c24 c25 c26 c27 c28 c29 c30 c31 c32 c33 c34 c35 c36 c37 c38 c39 c40 c41 c42 c43 c44 c45 c46 c47 c48 c49 c50 : Value) (big wide : Bool) (F T b n i z p : Nat) (r0 r1 r2 r3 r4 r5 r6 r7 : Nat) (L L2 : List Nat) (P : ByteArray) (W : World) (hR : W.heap[b]? = some (.cells (rowU64 L) 72 (0, 0))) (hBW : b ≤ W.heap.size)
    (i0 : (0 : Int) ≤ (i : Int)) (i1 : (i : Int) < (n : Int)) (iw : IntKind.u64.wrap (i : Int) = (i : Int)) (pw : IntKind.u64.wrap ((i : Int) * (z : Int)) = (p : Int)) (p0 : (0 : Int) ≤ (p : Int)) (p1 : (p : Int) ≤ (P.size : Int)) (hL : i * 8 + 8 ≤ L.length)
    (hnew : L.take (i * 8) ++ ([r0, r1, r2, r3, r4, r5, r6, r7] ++ L.drop (i * 8 + 8)) = L2)
    (X0 : Hid (∀ u, Below b W u → u.cell? ⟨F, 0, none⟩ = some (.bool big))) (X1 : Hid (∀ u, Below b W u → u.cell? ⟨F, 1, none⟩ = some (.bool wide))) (X2 : Hid (∀ u, Below b W u → u.cell? ⟨T, 2, none⟩ = some (.int .u64 (z : Nat))))
    (HC : Hid (∀ u, Calls Try.prog 95 #[.agg #[.bool big, .bool wide], .string (P.extract p P.size)] u fun e w' => e = .returned (.tuple #[.agg #[.int .u64 (r0 : Nat), .int .u64 (r1 : Nat), .int .u64 (r2 : Nat), .int .u64 (r3 : Nat), .int .u64 (r4 : Nat), .int .u64 (r5 : Nat), .int .u64 (r6 : Nat), .int .u64 (r7 : Nat)], .bool true]) ∧ Below u.heap.size u w'))
    (hP : ∀ c a w i v, Q (.panic c) (a.put (some i) v) w → Q (.panic c) a w)
    (hQ : ∀ (u31 u32 u33 u34 u35 u36 u37 u38 u39 u40 u41 u42 u43 u44 u45 u46 : Value) (w' : World), w'.heap[b]? = some (.cells (rowU64 L2) 72 (0, 0)) → Below b W w' → Q .normal ⟨#[c0, c1, c2, .func (.func 95) #[] #[], .pointer (some ⟨F, 0, none⟩), c5, .pointer (some ⟨T, 0, none⟩), c7, c8, c9, .string P, .bool true, .slice (some ⟨b, 0, none⟩) n n, .int .i64 (i : Int), c14, c15, c16, c17, c18, c19, c20, c21, c22, c23, c24, c25, c26, c27, c28, c29, c30, u31, u32, u33, u34, u35, u36, u37, u38, u39, u40, u41, u42, u43, u44, u45, u46, c47, c48, c49, c50], []⟩ w') :
    (Code.region 8 #[⟨some 32, .move (.tmp 12), 40, "table.go:40", #[], none⟩, ⟨some 33, .move (.tmp 13), 3, "table.go:40", #[], none⟩, ⟨some 34, .move (.tmp 3), 199, "table.go:40", #[], none⟩, ⟨some 35, .load 34 (.tmp 4), 34, "table.go:40", #[], none⟩, ⟨some 36, .move (.tmp 10), 9, "table.go:40", #[], none⟩, ⟨some 37, .move (.tmp 13), 3, "table.go:40", #[], none⟩, ⟨some 38, .convert 3 29 (.tmp 37), 29, "table.go:40", #[⟨5, .data⟩], none⟩, ⟨some 39, .fieldAddr 148 (.tmp 6) 2, 0, "table.go:40", #[], none⟩, ⟨some 40, .load 29 (.tmp 39), 29, "table.go:40", #[⟨7, .data⟩], none⟩, ⟨some 41, .binOp .mul 29 (.tmp 38) (.tmp 40) 29, 29, "table.go:40", #[⟨6, .data⟩, ⟨8, .data⟩], none⟩, ⟨some 42, .slice 9 (.tmp 36) (some (.tmp 41)) none none, 9, "table.go:40", #[⟨4, .data⟩, ⟨9, .data⟩], none⟩, ⟨some 43, .call { callee := .value (.tmp 34), args := #[.tmp 35, .tmp 42], argTypes := #[34, 9] }, 233, "table.go:40", #[⟨2, .data⟩, ⟨3, .data⟩, ⟨10, .data⟩], none⟩, ⟨some 31, .move (.tmp 43), 233, "table.go:40", #[⟨11, .data⟩], none⟩, ⟨some 44, .extract (.tmp 31) 0, 72, "table.go:40", #[⟨12, .data⟩], none⟩, ⟨some 45, .extract (.tmp 31) 1, 4, "table.go:40", #[⟨12, .data⟩, ⟨16, .gcOnly .lateStores⟩], none⟩, ⟨some 46, .indexAddr 40 (.tmp 32) (.tmp 33), 0, "table.go:40", #[⟨0, .data⟩, ⟨1, .data⟩, ⟨0, .phase⟩, ⟨1, .phase⟩, ⟨2, .phase⟩, ⟨3, .phase⟩, ⟨4, .phase⟩, ⟨5, .phase⟩, ⟨6, .phase⟩, ⟨7, .phase⟩, ⟨8, .phase⟩, ⟨9, .phase⟩, ⟨10, .phase⟩, ⟨11, .phase⟩, ⟨12, .phase⟩, ⟨13, .phase⟩, ⟨14, .textOnly .lateStores⟩], none⟩, ⟨none, .store 72 (.tmp 46) (.tmp 44), 0, "table.go:40", #[⟨15, .data⟩, ⟨13, .data⟩, ⟨11, .chain⟩, ⟨0, .phase⟩, ⟨1, .phase⟩, ⟨2, .phase⟩, ⟨3, .phase⟩, ⟨4, .phase⟩, ⟨5, .phase⟩, ⟨6, .phase⟩, ⟨7, .phase⟩, ⟨8, .phase⟩, ⟨9, .phase⟩, ⟨10, .phase⟩, ⟨11, .phase⟩, ⟨12, .phase⟩, ⟨13, .phase⟩, ⟨14, .textOnly .lateStores⟩], none⟩, ⟨some 11, .assign (.tmp 45), 4, "table.go:40", #[⟨14, .data⟩, ⟨16, .chain⟩, ⟨0, .phase⟩, ⟨1, .phase⟩, ⟨2, .phase⟩, ⟨3, .phase⟩, ⟨4, .phase⟩, ⟨5, .phase⟩, ⟨6, .phase⟩, ⟨7, .phase⟩, ⟨8, .phase⟩, ⟨9, .phase⟩, ⟨10, .phase⟩, ⟨11, .phase⟩, ⟨12, .phase⟩, ⟨13, .phase⟩, ⟨14, .phase⟩, ⟨15, .phase⟩, ⟨16, .phase⟩], none⟩] true).wp Try.prog Q ⟨#[c0, c1, c2, .func (.func 95) #[] #[], .pointer (some ⟨F, 0, none⟩), c5, .pointer (some ⟨T, 0, none⟩), c7, c8, c9, .string P, c11, .slice (some ⟨b, 0, none⟩) n n, .int .i64 (i : Int), c14, c15, c16, c17, c18, c19, c20, c21, c22, c23, c24, c25, c26, c27, c28, c29, c30, c31, c32, c33, c34, c35, c36, c37, c38, c39, c40, c41, c42, c43, c44, c45, c46, c47, c48, c49, c50], []⟩ W := by
  dsimp only at hQ ⊢
  have HQ := Lib.hid hQ; clear hQ
  refine wp_region_held_drew (S := fun w' => Below b W w') (by kernel_rfl) ?_ (fun hHeld => ?_)
  · exact (Below.refl _ _).drew
  have HR0 : Hid (W.drew.heap[b]? = some (.cells (rowU64 L) 72 (0, 0))) := Lib.hid hR
  generalize W.drew = W0 at *
  refine wpAnyH_take (i := 0) (oi := ⟨some 32, .move (.tmp 12), 40, "table.go:40", #[], none⟩) (v := ?_) rfl (by kernel_rfl) (by kernel_rfl) (by kernel_rfl) (fun c a w h => hP c a w _ _ h) (Or.inl ⟨by rfl, ?_⟩) (by assumption) ?_
  rotate_left
  · (intro w hSw; (try dsimp only at hSw); go_simp <;> with_reducible rfl)
  try simp only [Act.put, List.setIfInBounds_toArray, List.set_cons_zero, List.set_cons_succ]
  refine wpAnyH_take (i := 1) (oi := ⟨some 33, .move (.tmp 13), 3, "table.go:40", #[], none⟩) (v := ?_) rfl (by kernel_rfl) (by kernel_rfl) (by kernel_rfl) (fun c a w h => hP c a w _ _ h) (Or.inl ⟨by rfl, ?_⟩) (by assumption) ?_
  rotate_left
  · (intro w hSw; (try dsimp only at hSw); go_simp <;> with_reducible rfl)
  try simp only [Act.put, List.setIfInBounds_toArray, List.set_cons_zero, List.set_cons_succ]
  refine wpAnyH_take (i := 2) (oi := ⟨some 34, .move (.tmp 3), 199, "table.go:40", #[], none⟩) (v := ?_) rfl (by kernel_rfl) (by kernel_rfl) (by kernel_rfl) (fun c a w h => hP c a w _ _ h) (Or.inl ⟨by rfl, ?_⟩) (by assumption) ?_
  rotate_left
  · (intro w hSw; (try dsimp only at hSw); go_simp <;> with_reducible rfl)
  try simp only [Act.put, List.setIfInBounds_toArray, List.set_cons_zero, List.set_cons_succ]
  refine wpAnyH_take (i := 3) (oi := ⟨some 35, .load 34 (.tmp 4), 34, "table.go:40", #[], none⟩) (v := ?_) rfl (by kernel_rfl) (by kernel_rfl) (by kernel_rfl) (fun c a w h => hP c a w _ _ h) (Or.inl ⟨by rfl, ?_⟩) (by assumption) ?_
  rotate_left
  · (intro w hSw; have q0 := X0.out w hSw; have q1 := X1.out w hSw; (try dsimp only at hSw); go_simp <;> with_reducible rfl)
  try simp only [Act.put, List.setIfInBounds_toArray, List.set_cons_zero, List.set_cons_succ]
  refine wpAnyH_take (i := 4) (oi := ⟨some 36, .move (.tmp 10), 9, "table.go:40", #[], none⟩) (v := ?_) rfl (by kernel_rfl) (by kernel_rfl) (by kernel_rfl) (fun c a w h => hP c a w _ _ h) (Or.inl ⟨by rfl, ?_⟩) (by assumption) ?_
  rotate_left
  · (intro w hSw; (try dsimp only at hSw); go_simp <;> with_reducible rfl)
  try simp only [Act.put, List.setIfInBounds_toArray, List.set_cons_zero, List.set_cons_succ]
  refine wpAnyH_take (i := 5) (oi := ⟨some 37, .move (.tmp 13), 3, "table.go:40", #[], none⟩) (v := ?_) rfl (by kernel_rfl) (by kernel_rfl) (by kernel_rfl) (fun c a w h => hP c a w _ _ h) (Or.inl ⟨by rfl, ?_⟩) (by assumption) ?_
  rotate_left
  · (intro w hSw; (try dsimp only at hSw); go_simp <;> with_reducible rfl)
  try simp only [Act.put, List.setIfInBounds_toArray, List.set_cons_zero, List.set_cons_succ]
  refine wpAnyH_take (i := 7) (oi := ⟨some 39, .fieldAddr 148 (.tmp 6) 2, 0, "table.go:40", #[], none⟩) (v := ?_) rfl (by kernel_rfl) (by kernel_rfl) (by kernel_rfl) (fun c a w h => hP c a w _ _ h) (Or.inl ⟨by rfl, ?_⟩) (by assumption) ?_
  rotate_left
  · (intro w hSw; (try dsimp only at hSw); go_simp <;> with_reducible rfl)
  try simp only [Act.put, List.setIfInBounds_toArray, List.set_cons_zero, List.set_cons_succ]
  refine wpAnyH_take (i := 6) (oi := ⟨some 38, .convert 3 29 (.tmp 37), 29, "table.go:40", #[⟨5, .data⟩], none⟩) (v := ?_) rfl (by kernel_rfl) (by kernel_rfl) (by kernel_rfl) (fun c a w h => hP c a w _ _ h) (Or.inl ⟨by rfl, ?_⟩) (by assumption) ?_
  rotate_left
  · (intro w hSw; (try dsimp only at hSw); go_simp <;> with_reducible rfl)
  try simp only [Act.put, List.setIfInBounds_toArray, List.set_cons_zero, List.set_cons_succ]
  refine wpAnyH_take (i := 8) (oi := ⟨some 40, .load 29 (.tmp 39), 29, "table.go:40", #[⟨7, .data⟩], none⟩) (v := ?_) rfl (by kernel_rfl) (by kernel_rfl) (by kernel_rfl) (fun c a w h => hP c a w _ _ h) (Or.inl ⟨by rfl, ?_⟩) (by assumption) ?_
  rotate_left
  · (intro w hSw; have q0 := X2.out w hSw; (try dsimp only at hSw); go_simp <;> with_reducible rfl)
  try simp only [Act.put, List.setIfInBounds_toArray, List.set_cons_zero, List.set_cons_succ]
  refine wpAnyH_take (i := 9) (oi := ⟨some 41, .binOp .mul 29 (.tmp 38) (.tmp 40) 29, 29, "table.go:40", #[⟨6, .data⟩, ⟨8, .data⟩], none⟩) (v := ?_) rfl (by kernel_rfl) (by kernel_rfl) (by kernel_rfl) (fun c a w h => hP c a w _ _ h) (Or.inl ⟨by rfl, ?_⟩) (by assumption) ?_
  rotate_left
  · (intro w hSw; (try dsimp only at hSw); go_simp <;> with_reducible rfl)
  try simp only [Act.put, List.setIfInBounds_toArray, List.set_cons_zero, List.set_cons_succ]
  refine wpAnyH_take (i := 10) (oi := ⟨some 42, .slice 9 (.tmp 36) (some (.tmp 41)) none none, 9, "table.go:40", #[⟨4, .data⟩, ⟨9, .data⟩], none⟩) (v := ?_) rfl (by kernel_rfl) (by kernel_rfl) (by kernel_rfl) (fun c a w h => hP c a w _ _ h) (Or.inl ⟨by rfl, ?_⟩) (by assumption) ?_
  rotate_left
  · (intro w hSw; (try dsimp only at hSw); go_simp <;> with_reducible rfl)
  try simp only [Act.put, List.setIfInBounds_toArray, List.set_cons_zero, List.set_cons_succ]
  refine wpAnyH_ready (rs := [11]) (by kernel_rfl) (by simp) ?_
  refine AllReadyH.cons (o := ⟨some 43, .call { callee := .value (.tmp 34), args := #[.tmp 35, .tmp 42], argTypes := #[34, 9] }, 233, "table.go:40", #[⟨2, .data⟩, ⟨3, .data⟩, ⟨10, .data⟩], none⟩) rfl (fun K hK => ?_) AllReadyH.nil
  (first | go_at_call 95 | (go_simp; go_at_call 95))
  refine (HC.out _).mono ?_
  rintro e w3 ⟨rfl, h3⟩
  try go_wp2_with fail
  refine hK.out _ _ ?_ (fun hHeld2 => ?_)
  · exact hHeld.trans (h3.mono (Nat.le_trans hBW hHeld.size))
  clear hK K
  try simp only [Act.put, List.setIfInBounds_toArray, List.set_cons_zero, List.set_cons_succ]
  refine wpAnyH_take (i := 12) (oi := ⟨some 31, .move (.tmp 43), 233, "table.go:40", #[⟨11, .data⟩], none⟩) (v := ?_) rfl (by kernel_rfl) (by kernel_rfl) (by kernel_rfl) (fun c a w h => hP c a w _ _ h) (Or.inl ⟨by rfl, ?_⟩) (by assumption) ?_
  rotate_left
  · (intro w hSw; (try dsimp only at hSw); go_simp <;> with_reducible rfl)
  try simp only [Act.put, List.setIfInBounds_toArray, List.set_cons_zero, List.set_cons_succ]
  refine wpAnyH_take (i := 13) (oi := ⟨some 44, .extract (.tmp 31) 0, 72, "table.go:40", #[⟨12, .data⟩], none⟩) (v := ?_) rfl (by kernel_rfl) (by kernel_rfl) (by kernel_rfl) (fun c a w h => hP c a w _ _ h) (Or.inl ⟨by rfl, ?_⟩) (by assumption) ?_
  rotate_left
  · (intro w hSw; (try dsimp only at hSw); go_simp <;> with_reducible rfl)
  try simp only [Act.put, List.setIfInBounds_toArray, List.set_cons_zero, List.set_cons_succ]
  refine wpAnyH_take (i := 14) (oi := ⟨some 45, .extract (.tmp 31) 1, 4, "table.go:40", #[⟨12, .data⟩, ⟨16, .gcOnly .lateStores⟩], none⟩) (v := ?_) rfl (by kernel_rfl) (by kernel_rfl) (by kernel_rfl) (fun c a w h => hP c a w _ _ h) (Or.inl ⟨by rfl, ?_⟩) (by assumption) ?_
  rotate_left
  · (intro w hSw; (try dsimp only at hSw); go_simp <;> with_reducible rfl)
  try simp only [Act.put, List.setIfInBounds_toArray, List.set_cons_zero, List.set_cons_succ]
  refine wpAnyH_take (i := 15) (oi := ⟨some 46, .indexAddr 40 (.tmp 32) (.tmp 33), 0, "table.go:40", #[⟨0, .data⟩, ⟨1, .data⟩, ⟨0, .phase⟩, ⟨1, .phase⟩, ⟨2, .phase⟩, ⟨3, .phase⟩, ⟨4, .phase⟩, ⟨5, .phase⟩, ⟨6, .phase⟩, ⟨7, .phase⟩, ⟨8, .phase⟩, ⟨9, .phase⟩, ⟨10, .phase⟩, ⟨11, .phase⟩, ⟨12, .phase⟩, ⟨13, .phase⟩, ⟨14, .textOnly .lateStores⟩], none⟩) (v := ?_) rfl (by kernel_rfl) (by kernel_rfl) (by kernel_rfl) (fun c a w h => hP c a w _ _ h) (Or.inl ⟨by rfl, ?_⟩) (by assumption) ?_
  rotate_left
  · (intro w hSw; (try dsimp only at hSw); go_simp <;> with_reducible rfl)
  try simp only [Act.put, List.setIfInBounds_toArray, List.set_cons_zero, List.set_cons_succ]
  refine wpAnyH_ready (rs := [16]) (by kernel_rfl) (by simp) ?_
  refine AllReadyH.cons (o := ⟨none, .store 72 (.tmp 46) (.tmp 44), 0, "table.go:40", #[⟨15, .data⟩, ⟨13, .data⟩, ⟨11, .chain⟩, ⟨0, .phase⟩, ⟨1, .phase⟩, ⟨2, .phase⟩, ⟨3, .phase⟩, ⟨4, .phase⟩, ⟨5, .phase⟩, ⟨6, .phase⟩, ⟨7, .phase⟩, ⟨8, .phase⟩, ⟨9, .phase⟩, ⟨10, .phase⟩, ⟨11, .phase⟩, ⟨12, .phase⟩, ⟨13, .phase⟩, ⟨14, .textOnly .lateStores⟩], none⟩) rfl (fun K hK => ?_) AllReadyH.nil
  have HR3 : Hid (w3.heap[b]? = some (.cells (rowU64 L) 72 (0, 0))) := Lib.hid (heap_low HR0.out h3)
  refine wp_store_mid 72 _ _ rfl b (i * 8) #[.int .u64 (r0 : Nat), .int .u64 (r1 : Nat), .int .u64 (r2 : Nat), .int .u64 (r3 : Nat), .int .u64 (r4 : Nat), .int .u64 (r5 : Nat), .int .u64 (r6 : Nat), .int .u64 (r7 : Nat)] (by simp only [Act.eval]; rfl) (by rfl) (there_of HR3.out (by simp [rowU64]; omega)) (by kernel_rfl) (by simp [Value.oneCell']) ?_
  refine hK.out _ _ ?_ (fun hHeld3_11 => ?_)
  · exact below_setCells (Nat.le_refl _) _ _ hHeld2
  clear hK K
  try simp only [Act.put]
  refine wpAnyH_take (i := 17) (oi := ⟨some 11, .assign (.tmp 45), 4, "table.go:40", #[⟨14, .data⟩, ⟨16, .chain⟩, ⟨0, .phase⟩, ⟨1, .phase⟩, ⟨2, .phase⟩, ⟨3, .phase⟩, ⟨4, .phase⟩, ⟨5, .phase⟩, ⟨6, .phase⟩, ⟨7, .phase⟩, ⟨8, .phase⟩, ⟨9, .phase⟩, ⟨10, .phase⟩, ⟨11, .phase⟩, ⟨12, .phase⟩, ⟨13, .phase⟩, ⟨14, .phase⟩, ⟨15, .phase⟩, ⟨16, .phase⟩], none⟩) (v := ?_) rfl (by kernel_rfl) (by kernel_rfl) (by kernel_rfl) (fun c a w h => hP c a w _ _ h) (Or.inl ⟨by rfl, ?_⟩) (by assumption) ?_
  rotate_left
  · (intro w hSw; (try dsimp only at hSw); go_simp <;> with_reducible rfl)
  try simp only [Act.put, List.setIfInBounds_toArray, List.set_cons_zero, List.set_cons_succ]
  refine wpAnyH_done (by kernel_rfl) ?_ _
  exact HQ.out _ _ _ _ _ _ _ _ _ _ _ _ _ _ _ _ _ (by have q := heap_setCells [.int .u64 (r0 : Nat), .int .u64 (r1 : Nat), .int .u64 (r2 : Nat), .int .u64 (r3 : Nat), .int .u64 (r4 : Nat), .int .u64 (r5 : Nat), .int .u64 (r6 : Nat), .int .u64 (r7 : Nat)] (i * 8) HR3.out; rw [← hnew]; exact q.trans (by rw [show [.int .u64 (r0 : Nat), .int .u64 (r1 : Nat), .int .u64 (r2 : Nat), .int .u64 (r3 : Nat), .int .u64 (r4 : Nat), .int .u64 (r5 : Nat), .int .u64 (r6 : Nat), .int .u64 (r7 : Nat)] = ([r0, r1, r2, r3, r4, r5, r6, r7] : List Nat).map (fun n : Nat => Value.int .u64 (n : Int)) from rfl, stv_u64 _ _ _ (by simp; omega)]; rfl)) hHeld3_11
end Go.Proofs.Ytedocnidgiglaaa
