/- The drawn regions of raw's readHeader. Conditions: those written in each theorem. -/
import Derived.Test.YtedocnidgiglaaaNK
namespace Go.Proofs.Ytedocnidgiglaaa
open Go.RowKit
set_option linter.unusedVariables false
set_option maxRecDepth 1000000 in
set_option maxHeartbeats 4000000 in
theorem hreg4 (Q : Exit → Act → World → Prop) (c1 c2 c4 c5 c6 c7 c8 c9 c10 c11 c12 c13 c14 c15 c16 c17 c18 c19 c20 c21 c22 c23 c24 c25 c26 c27 c28 c29 c30 c31 c32 c33 c34 c35 c36 c37 c38 c39 c40 c41 c42 c43 c44 c45 c46 c47 c48 : Value) (P I : Nat) (big wide ok : Bool) (g0 g1 g2 g3 g4 g5 g6 g7 g8 g9 g10 g11 g12 : Nat) (text TX : ByteArray) (W : World) (k0 : (16 : Int) ≤ (text.size : Int)) (hTX : text.extract 16 text.size = TX)
    (X0 : Hid (∀ u, Below W.heap.size W u → u.cell? ⟨I, 0, none⟩ = some (.bool big))) (X1 : Hid (∀ u, Below W.heap.size W u → u.cell? ⟨I, 1, none⟩ = some (.bool wide))) (X2 : Hid (∀ u, Below W.heap.size W u → u.cell? ⟨P, 21, none⟩ = some (.string text)))
    (HC : Hid (∀ u, Calls Try.prog 89 #[.agg #[.bool big, .bool wide], .string TX] u fun e w' => e = .returned (.tuple #[.agg #[.int .u64 (g0 : Nat), .int .u64 (g1 : Nat), .int .u64 (g2 : Nat), .int .u64 (g3 : Nat), .int .u64 (g4 : Nat), .int .u64 (g5 : Nat), .int .u64 (g6 : Nat), .int .u64 (g7 : Nat), .int .u64 (g8 : Nat), .int .u64 (g9 : Nat), .int .u64 (g10 : Nat), .int .u64 (g11 : Nat), .int .u64 (g12 : Nat)], .bool ok]) ∧ Below u.heap.size u w'))
    (hP : ∀ c a w i v, Q (.panic c) (a.put (some i) v) w → Q (.panic c) a w)
    (hQ : ∀ (u18 u19 u20 u21 u22 u23 u24 u25 u26 u27 u28 : Value) (b : Nat) (w' : World), w'.heap[b]? = some (.cells #[.int .u64 (g0 : Nat), .int .u64 (g1 : Nat), .int .u64 (g2 : Nat), .int .u64 (g3 : Nat), .int .u64 (g4 : Nat), .int .u64 (g5 : Nat), .int .u64 (g6 : Nat), .int .u64 (g7 : Nat), .int .u64 (g8 : Nat), .int .u64 (g9 : Nat), .int .u64 (g10 : Nat), .int .u64 (g11 : Nat), .int .u64 (g12 : Nat)] 38 (0, 0)) → W.heap.size ≤ b → Below W.heap.size W w' → Q .normal ⟨#[.pointer (some ⟨P, 0, none⟩), c1, c2, .pointer (some ⟨I, 0, none⟩), c4, .pointer (some ⟨b, 0, none⟩), .bool ok, c7, c8, c9, c10, c11, c12, c13, c14, c15, c16, c17, u18, u19, u20, u21, u22, u23, u24, u25, u26, u27, u28, c29, c30, c31, c32, c33, c34, c35, c36, c37, c38, c39, c40, c41, c42, c43, c44, c45, c46, c47, c48], []⟩ w') :
    (Code.region 4 #[⟨some 19, .fieldAddr 36 (.tmp 3) 0, 0, "parse.go:53", #[], none⟩, ⟨some 20, .load 34 (.tmp 19), 34, "parse.go:53", #[⟨0, .data⟩], none⟩, ⟨some 21, .move (.tmp 0), 188, "parse.go:53", #[], none⟩, ⟨some 22, .nilCheck (.tmp 21), 0, "parse.go:53", #[⟨2, .data⟩], none⟩, ⟨some 23, .fieldAddr 138 (.tmp 22) 1, 0, "parse.go:53", #[⟨3, .data⟩], none⟩, ⟨some 24, .load 9 (.tmp 23), 9, "parse.go:53", #[⟨4, .data⟩], none⟩, ⟨some 25, .slice 9 (.tmp 24) (some (.const (.int .i64 16))) none none, 9, "parse.go:53", #[⟨5, .data⟩], none⟩, ⟨some 26, .call { callee := .value (.func 89), args := #[.tmp 20, .tmp 25], argTypes := #[34, 9] }, 191, "parse.go:53", #[⟨1, .data⟩, ⟨6, .data⟩], none⟩, ⟨some 18, .move (.tmp 26), 191, "parse.go:53", #[⟨7, .data⟩], none⟩, ⟨some 27, .extract (.tmp 18) 0, 38, "parse.go:53", #[⟨8, .data⟩], none⟩, ⟨some 28, .extract (.tmp 18) 1, 4, "parse.go:53", #[⟨8, .data⟩, ⟨12, .gcOnly .lateStores⟩], none⟩, ⟨some 5, .alloc 38, 0, "parse.go:53", #[], none⟩, ⟨none, .store 38 (.tmp 5) (.tmp 27), 0, "parse.go:53", #[⟨11, .data⟩, ⟨9, .data⟩, ⟨7, .chain⟩, ⟨0, .phase⟩, ⟨1, .phase⟩, ⟨2, .phase⟩, ⟨3, .phase⟩, ⟨4, .phase⟩, ⟨5, .phase⟩, ⟨6, .phase⟩, ⟨7, .phase⟩, ⟨8, .phase⟩, ⟨9, .phase⟩, ⟨10, .textOnly .lateStores⟩, ⟨11, .phase⟩], none⟩, ⟨some 6, .assign (.tmp 28), 4, "parse.go:53", #[⟨10, .data⟩, ⟨12, .chain⟩, ⟨0, .phase⟩, ⟨1, .phase⟩, ⟨2, .phase⟩, ⟨3, .phase⟩, ⟨4, .phase⟩, ⟨5, .phase⟩, ⟨6, .phase⟩, ⟨7, .phase⟩, ⟨8, .phase⟩, ⟨9, .phase⟩, ⟨10, .phase⟩, ⟨11, .phase⟩, ⟨12, .phase⟩], none⟩] true).wp Try.prog Q ⟨#[.pointer (some ⟨P, 0, none⟩), c1, c2, .pointer (some ⟨I, 0, none⟩), c4, c5, c6, c7, c8, c9, c10, c11, c12, c13, c14, c15, c16, c17, c18, c19, c20, c21, c22, c23, c24, c25, c26, c27, c28, c29, c30, c31, c32, c33, c34, c35, c36, c37, c38, c39, c40, c41, c42, c43, c44, c45, c46, c47, c48], []⟩ W := by
  dsimp only at hQ ⊢
  have HQ := Lib.hid hQ; clear hQ
  refine wp_region_held_drew (S := fun w' => Below W.heap.size W w') (by kernel_rfl) ?_ (fun hHeld => ?_)
  · exact (Below.refl _ _).drew
  generalize W.drew = W0 at *
  refine wpAnyH_take (i := 0) (oi := ⟨some 19, .fieldAddr 36 (.tmp 3) 0, 0, "parse.go:53", #[], none⟩) (v := ?_) rfl (by kernel_rfl) (by kernel_rfl) (by kernel_rfl) (fun c a w h => hP c a w _ _ h) (Or.inl ⟨by rfl, ?_⟩) (by assumption) ?_
  rotate_left
  · (intro w hSw; (try dsimp only at hSw); go_simp <;> with_reducible rfl)
  try simp only [Act.put, List.setIfInBounds_toArray, List.set_cons_zero, List.set_cons_succ]
  refine wpAnyH_take (i := 2) (oi := ⟨some 21, .move (.tmp 0), 188, "parse.go:53", #[], none⟩) (v := ?_) rfl (by kernel_rfl) (by kernel_rfl) (by kernel_rfl) (fun c a w h => hP c a w _ _ h) (Or.inl ⟨by rfl, ?_⟩) (by assumption) ?_
  rotate_left
  · (intro w hSw; (try dsimp only at hSw); go_simp <;> with_reducible rfl)
  try simp only [Act.put, List.setIfInBounds_toArray, List.set_cons_zero, List.set_cons_succ]
  refine wpAnyH_take (i := 1) (oi := ⟨some 20, .load 34 (.tmp 19), 34, "parse.go:53", #[⟨0, .data⟩], none⟩) (v := ?_) rfl (by kernel_rfl) (by kernel_rfl) (by kernel_rfl) (fun c a w h => hP c a w _ _ h) (Or.inl ⟨by rfl, ?_⟩) (by assumption) ?_
  rotate_left
  · (intro w hSw; have q0 := X0.out w hSw; have q1 := X1.out w hSw; (try dsimp only at hSw); go_simp <;> with_reducible rfl)
  try simp only [Act.put, List.setIfInBounds_toArray, List.set_cons_zero, List.set_cons_succ]
  refine wpAnyH_take (i := 3) (oi := ⟨some 22, .nilCheck (.tmp 21), 0, "parse.go:53", #[⟨2, .data⟩], none⟩) (v := ?_) rfl (by kernel_rfl) (by kernel_rfl) (by kernel_rfl) (fun c a w h => hP c a w _ _ h) (Or.inl ⟨by rfl, ?_⟩) (by assumption) ?_
  rotate_left
  · (intro w hSw; (try dsimp only at hSw); go_simp <;> with_reducible rfl)
  try simp only [Act.put, List.setIfInBounds_toArray, List.set_cons_zero, List.set_cons_succ]
  refine wpAnyH_take (i := 4) (oi := ⟨some 23, .fieldAddr 138 (.tmp 22) 1, 0, "parse.go:53", #[⟨3, .data⟩], none⟩) (v := ?_) rfl (by kernel_rfl) (by kernel_rfl) (by kernel_rfl) (fun c a w h => hP c a w _ _ h) (Or.inl ⟨by rfl, ?_⟩) (by assumption) ?_
  rotate_left
  · (intro w hSw; (try dsimp only at hSw); go_simp <;> with_reducible rfl)
  try simp only [Act.put, List.setIfInBounds_toArray, List.set_cons_zero, List.set_cons_succ]
  refine wpAnyH_take (i := 5) (oi := ⟨some 24, .load 9 (.tmp 23), 9, "parse.go:53", #[⟨4, .data⟩], none⟩) (v := ?_) rfl (by kernel_rfl) (by kernel_rfl) (by kernel_rfl) (fun c a w h => hP c a w _ _ h) (Or.inl ⟨by rfl, ?_⟩) (by assumption) ?_
  rotate_left
  · (intro w hSw; have q0 := X2.out w hSw; (try dsimp only at hSw); go_simp <;> with_reducible rfl)
  try simp only [Act.put, List.setIfInBounds_toArray, List.set_cons_zero, List.set_cons_succ]
  refine wpAnyH_take (i := 6) (oi := ⟨some 25, .slice 9 (.tmp 24) (some (.const (.int .i64 16))) none none, 9, "parse.go:53", #[⟨5, .data⟩], none⟩) (v := ?_) rfl (by kernel_rfl) (by kernel_rfl) (by kernel_rfl) (fun c a w h => hP c a w _ _ h) (Or.inl ⟨by rfl, ?_⟩) (by assumption) ?_
  rotate_left
  · (intro w hSw; (try dsimp only at hSw); go_simp <;> with_reducible rfl)
  try simp only [Act.put, List.setIfInBounds_toArray, List.set_cons_zero, List.set_cons_succ]
  refine wpAnyH_ready (rs := [7, 11]) (by kernel_rfl) (by simp) ?_
  refine (AllReadyH.cons (o := ⟨some 26, .call { callee := .value (.func 89), args := #[.tmp 20, .tmp 25], argTypes := #[34, 9] }, 191, "parse.go:53", #[⟨1, .data⟩, ⟨6, .data⟩], none⟩) rfl (fun K hK => ?_) (AllReadyH.cons (o := ⟨some 5, .alloc 38, 0, "parse.go:53", #[], none⟩) rfl (fun K hK => ?_) AllReadyH.nil))
  · (first | go_at_call 89 | (go_simp; go_at_call 89))
    refine (HC.out _).mono ?_
    rintro e w_7 ⟨rfl, h_7⟩
    try go_wp2_with fail
    refine hK.out _ _ ?_ (fun hHeld2 => ?_)
    · exact hHeld.trans (h_7.mono hHeld.size)
    clear hK K
    try simp only [Act.put, List.setIfInBounds_toArray, List.set_cons_zero, List.set_cons_succ]
    refine wpAnyH_take (i := 8) (oi := ⟨some 18, .move (.tmp 26), 191, "parse.go:53", #[⟨7, .data⟩], none⟩) (v := ?_) rfl (by kernel_rfl) (by kernel_rfl) (by kernel_rfl) (fun c a w h => hP c a w _ _ h) (Or.inl ⟨by rfl, ?_⟩) (by assumption) ?_
    rotate_left
    · (intro w hSw; (try dsimp only at hSw); go_simp <;> with_reducible rfl)
    try simp only [Act.put, List.setIfInBounds_toArray, List.set_cons_zero, List.set_cons_succ]
    refine wpAnyH_take (i := 9) (oi := ⟨some 27, .extract (.tmp 18) 0, 38, "parse.go:53", #[⟨8, .data⟩], none⟩) (v := ?_) rfl (by kernel_rfl) (by kernel_rfl) (by kernel_rfl) (fun c a w h => hP c a w _ _ h) (Or.inl ⟨by rfl, ?_⟩) (by assumption) ?_
    rotate_left
    · (intro w hSw; (try dsimp only at hSw); go_simp <;> with_reducible rfl)
    try simp only [Act.put, List.setIfInBounds_toArray, List.set_cons_zero, List.set_cons_succ]
    refine wpAnyH_take (i := 10) (oi := ⟨some 28, .extract (.tmp 18) 1, 4, "parse.go:53", #[⟨8, .data⟩, ⟨12, .gcOnly .lateStores⟩], none⟩) (v := ?_) rfl (by kernel_rfl) (by kernel_rfl) (by kernel_rfl) (fun c a w h => hP c a w _ _ h) (Or.inl ⟨by rfl, ?_⟩) (by assumption) ?_
    rotate_left
    · (intro w hSw; (try dsimp only at hSw); go_simp <;> with_reducible rfl)
    try simp only [Act.put, List.setIfInBounds_toArray, List.set_cons_zero, List.set_cons_succ]
    refine wpAnyH_ready (rs := [11]) (by kernel_rfl) (by simp) ?_
    refine AllReadyH.cons (o := ⟨some 5, .alloc 38, 0, "parse.go:53", #[], none⟩) rfl (fun K hK => ?_) AllReadyH.nil
    try go_simp
    have HT_7_11 : Hid ((w_7.alloc (.cells #[.int .u64 0, .int .u64 0, .int .u64 0, .int .u64 0, .int .u64 0, .int .u64 0, .int .u64 0, .int .u64 0, .int .u64 0, .int .u64 0, .int .u64 0, .int .u64 0, .int .u64 0] 38)).heap[w_7.heap.size]? = some (.cells #[.int .u64 0, .int .u64 0, .int .u64 0, .int .u64 0, .int .u64 0, .int .u64 0, .int .u64 0, .int .u64 0, .int .u64 0, .int .u64 0, .int .u64 0, .int .u64 0, .int .u64 0] 38 (0, 0))) := Lib.hid (heap_alloc_new _ _)
    have hg_7_11 : W.heap.size ≤ w_7.heap.size := hHeld2.size
    refine hK.out _ _ ?_ (fun hHeld3_7 => ?_)
    · exact below_more hHeld2 _
    clear hK K
    try simp only [Act.put, List.setIfInBounds_toArray, List.set_cons_zero, List.set_cons_succ]
    refine wpAnyH_ready (rs := [12]) (by kernel_rfl) (by simp) ?_
    refine AllReadyH.cons (o := ⟨none, .store 38 (.tmp 5) (.tmp 27), 0, "parse.go:53", #[⟨11, .data⟩, ⟨9, .data⟩, ⟨7, .chain⟩, ⟨0, .phase⟩, ⟨1, .phase⟩, ⟨2, .phase⟩, ⟨3, .phase⟩, ⟨4, .phase⟩, ⟨5, .phase⟩, ⟨6, .phase⟩, ⟨7, .phase⟩, ⟨8, .phase⟩, ⟨9, .phase⟩, ⟨10, .textOnly .lateStores⟩, ⟨11, .phase⟩], none⟩) rfl (fun K hK => ?_) AllReadyH.nil
    refine wp_store_row 38 _ _ rfl (w_7.heap.size) #[.int .u64 (g0 : Nat), .int .u64 (g1 : Nat), .int .u64 (g2 : Nat), .int .u64 (g3 : Nat), .int .u64 (g4 : Nat), .int .u64 (g5 : Nat), .int .u64 (g6 : Nat), .int .u64 (g7 : Nat), .int .u64 (g8 : Nat), .int .u64 (g9 : Nat), .int .u64 (g10 : Nat), .int .u64 (g11 : Nat), .int .u64 (g12 : Nat)] (by rfl) (by rfl) 38 #[.int .u64 0, .int .u64 0, .int .u64 0, .int .u64 0, .int .u64 0, .int .u64 0, .int .u64 0, .int .u64 0, .int .u64 0, .int .u64 0, .int .u64 0, .int .u64 0, .int .u64 0] HT_7_11.out (by kernel_rfl) rfl (by simp [Value.oneCell']) ?_
    refine hK.out _ _ ?_ (fun hHeld4_7_11 => ?_)
    · exact setRow_below hHeld3_7 hg_7_11 _
    clear hK K
    try simp only [Act.put]
    refine wpAnyH_take (i := 13) (oi := ⟨some 6, .assign (.tmp 28), 4, "parse.go:53", #[⟨10, .data⟩, ⟨12, .chain⟩, ⟨0, .phase⟩, ⟨1, .phase⟩, ⟨2, .phase⟩, ⟨3, .phase⟩, ⟨4, .phase⟩, ⟨5, .phase⟩, ⟨6, .phase⟩, ⟨7, .phase⟩, ⟨8, .phase⟩, ⟨9, .phase⟩, ⟨10, .phase⟩, ⟨11, .phase⟩, ⟨12, .phase⟩], none⟩) (v := ?_) rfl (by kernel_rfl) (by kernel_rfl) (by kernel_rfl) (fun c a w h => hP c a w _ _ h) (Or.inl ⟨by rfl, ?_⟩) (by assumption) ?_
    rotate_left
    · (intro w hSw; (try dsimp only at hSw); go_simp <;> with_reducible rfl)
    try simp only [Act.put, List.setIfInBounds_toArray, List.set_cons_zero, List.set_cons_succ]
    refine wpAnyH_done (by kernel_rfl) ?_ _
    exact HQ.out _ _ _ _ _ _ _ _ _ _ _ _ _ (setRow_heap' _ (w_7.heap.size) _ _ _ _ HT_7_11.out) hg_7_11 hHeld4_7_11
  · try go_simp
    have HT_11 : Hid ((W0.alloc (.cells #[.int .u64 0, .int .u64 0, .int .u64 0, .int .u64 0, .int .u64 0, .int .u64 0, .int .u64 0, .int .u64 0, .int .u64 0, .int .u64 0, .int .u64 0, .int .u64 0, .int .u64 0] 38)).heap[W0.heap.size]? = some (.cells #[.int .u64 0, .int .u64 0, .int .u64 0, .int .u64 0, .int .u64 0, .int .u64 0, .int .u64 0, .int .u64 0, .int .u64 0, .int .u64 0, .int .u64 0, .int .u64 0, .int .u64 0] 38 (0, 0))) := Lib.hid (heap_alloc_new _ _)
    have hg_11 : W.heap.size ≤ W0.heap.size := hHeld.size
    refine hK.out _ _ ?_ (fun hHeld2 => ?_)
    · exact below_more hHeld _
    clear hK K
    try simp only [Act.put, List.setIfInBounds_toArray, List.set_cons_zero, List.set_cons_succ]
    refine wpAnyH_ready (rs := [7]) (by kernel_rfl) (by simp) ?_
    refine AllReadyH.cons (o := ⟨some 26, .call { callee := .value (.func 89), args := #[.tmp 20, .tmp 25], argTypes := #[34, 9] }, 191, "parse.go:53", #[⟨1, .data⟩, ⟨6, .data⟩], none⟩) rfl (fun K hK => ?_) AllReadyH.nil
    (first | go_at_call 89 | (go_simp; go_at_call 89))
    refine (HC.out _).mono ?_
    rintro e w_11_7 ⟨rfl, h_11_7⟩
    have HT_11_7 : Hid (w_11_7.heap[W0.heap.size]? = some (.cells #[.int .u64 0, .int .u64 0, .int .u64 0, .int .u64 0, .int .u64 0, .int .u64 0, .int .u64 0, .int .u64 0, .int .u64 0, .int .u64 0, .int .u64 0, .int .u64 0, .int .u64 0] 38 (0, 0))) := Lib.hid (heap_low HT_11.out h_11_7)
    try go_wp2_with fail
    refine hK.out _ _ ?_ (fun hHeld3_11 => ?_)
    · exact hHeld2.trans (h_11_7.mono hHeld2.size)
    clear hK K
    try simp only [Act.put, List.setIfInBounds_toArray, List.set_cons_zero, List.set_cons_succ]
    refine wpAnyH_take (i := 8) (oi := ⟨some 18, .move (.tmp 26), 191, "parse.go:53", #[⟨7, .data⟩], none⟩) (v := ?_) rfl (by kernel_rfl) (by kernel_rfl) (by kernel_rfl) (fun c a w h => hP c a w _ _ h) (Or.inl ⟨by rfl, ?_⟩) (by assumption) ?_
    rotate_left
    · (intro w hSw; (try dsimp only at hSw); go_simp <;> with_reducible rfl)
    try simp only [Act.put, List.setIfInBounds_toArray, List.set_cons_zero, List.set_cons_succ]
    refine wpAnyH_take (i := 9) (oi := ⟨some 27, .extract (.tmp 18) 0, 38, "parse.go:53", #[⟨8, .data⟩], none⟩) (v := ?_) rfl (by kernel_rfl) (by kernel_rfl) (by kernel_rfl) (fun c a w h => hP c a w _ _ h) (Or.inl ⟨by rfl, ?_⟩) (by assumption) ?_
    rotate_left
    · (intro w hSw; (try dsimp only at hSw); go_simp <;> with_reducible rfl)
    try simp only [Act.put, List.setIfInBounds_toArray, List.set_cons_zero, List.set_cons_succ]
    refine wpAnyH_take (i := 10) (oi := ⟨some 28, .extract (.tmp 18) 1, 4, "parse.go:53", #[⟨8, .data⟩, ⟨12, .gcOnly .lateStores⟩], none⟩) (v := ?_) rfl (by kernel_rfl) (by kernel_rfl) (by kernel_rfl) (fun c a w h => hP c a w _ _ h) (Or.inl ⟨by rfl, ?_⟩) (by assumption) ?_
    rotate_left
    · (intro w hSw; (try dsimp only at hSw); go_simp <;> with_reducible rfl)
    try simp only [Act.put, List.setIfInBounds_toArray, List.set_cons_zero, List.set_cons_succ]
    refine wpAnyH_ready (rs := [12]) (by kernel_rfl) (by simp) ?_
    refine AllReadyH.cons (o := ⟨none, .store 38 (.tmp 5) (.tmp 27), 0, "parse.go:53", #[⟨11, .data⟩, ⟨9, .data⟩, ⟨7, .chain⟩, ⟨0, .phase⟩, ⟨1, .phase⟩, ⟨2, .phase⟩, ⟨3, .phase⟩, ⟨4, .phase⟩, ⟨5, .phase⟩, ⟨6, .phase⟩, ⟨7, .phase⟩, ⟨8, .phase⟩, ⟨9, .phase⟩, ⟨10, .textOnly .lateStores⟩, ⟨11, .phase⟩], none⟩) rfl (fun K hK => ?_) AllReadyH.nil
    refine wp_store_row 38 _ _ rfl (W0.heap.size) #[.int .u64 (g0 : Nat), .int .u64 (g1 : Nat), .int .u64 (g2 : Nat), .int .u64 (g3 : Nat), .int .u64 (g4 : Nat), .int .u64 (g5 : Nat), .int .u64 (g6 : Nat), .int .u64 (g7 : Nat), .int .u64 (g8 : Nat), .int .u64 (g9 : Nat), .int .u64 (g10 : Nat), .int .u64 (g11 : Nat), .int .u64 (g12 : Nat)] (by rfl) (by rfl) 38 #[.int .u64 0, .int .u64 0, .int .u64 0, .int .u64 0, .int .u64 0, .int .u64 0, .int .u64 0, .int .u64 0, .int .u64 0, .int .u64 0, .int .u64 0, .int .u64 0, .int .u64 0] HT_11_7.out (by kernel_rfl) rfl (by simp [Value.oneCell']) ?_
    refine hK.out _ _ ?_ (fun hHeld4_11_7 => ?_)
    · exact setRow_below hHeld3_11 hg_11 _
    clear hK K
    try simp only [Act.put]
    refine wpAnyH_take (i := 13) (oi := ⟨some 6, .assign (.tmp 28), 4, "parse.go:53", #[⟨10, .data⟩, ⟨12, .chain⟩, ⟨0, .phase⟩, ⟨1, .phase⟩, ⟨2, .phase⟩, ⟨3, .phase⟩, ⟨4, .phase⟩, ⟨5, .phase⟩, ⟨6, .phase⟩, ⟨7, .phase⟩, ⟨8, .phase⟩, ⟨9, .phase⟩, ⟨10, .phase⟩, ⟨11, .phase⟩, ⟨12, .phase⟩], none⟩) (v := ?_) rfl (by kernel_rfl) (by kernel_rfl) (by kernel_rfl) (fun c a w h => hP c a w _ _ h) (Or.inl ⟨by rfl, ?_⟩) (by assumption) ?_
    rotate_left
    · (intro w hSw; (try dsimp only at hSw); go_simp <;> with_reducible rfl)
    try simp only [Act.put, List.setIfInBounds_toArray, List.set_cons_zero, List.set_cons_succ]
    refine wpAnyH_done (by kernel_rfl) ?_ _
    exact HQ.out _ _ _ _ _ _ _ _ _ _ _ _ _ (setRow_heap' _ (W0.heap.size) _ _ _ _ HT_11_7.out) hg_11 hHeld4_11_7
set_option maxRecDepth 1000000 in
set_option maxHeartbeats 4000000 in
theorem hreg7 (Q : Exit → Act → World → Prop) (c1 c2 c4 c6 c7 c8 c9 c10 c11 c12 c13 c14 c15 c16 c17 c18 c19 c20 c21 c22 c23 c24 c25 c26 c27 c28 c29 c30 c31 c32 c33 c34 c35 c36 c37 c38 c39 c40 c41 c42 c43 c44 c45 c46 c47 c48 : Value) (P I b : Nat) (big wide : Bool) (abi ver : Nat) (pad : ByteArray) (g0 g1 g2 g3 g4 g5 g6 g7 g8 g9 g10 g11 g12 : Nat) (text : ByteArray) (W : World) (hI : W.heap[I]? = some (.cells #[.bool big, .bool wide, .int .u8 (abi : Nat), .int .u8 (ver : Nat), .string pad] 36 (0, 0))) (hb : W.heap[b]? = some (.cells #[.int .u64 (g0 : Nat), .int .u64 (g1 : Nat), .int .u64 (g2 : Nat), .int .u64 (g3 : Nat), .int .u64 (g4 : Nat), .int .u64 (g5 : Nat), .int .u64 (g6 : Nat), .int .u64 (g7 : Nat), .int .u64 (g8 : Nat), .int .u64 (g9 : Nat), .int .u64 (g10 : Nat), .int .u64 (g11 : Nat), .int .u64 (g12 : Nat)] 38 (0, 0))) (hR : W.heap[P]? = some (.cells #[.bool false, .bool false, .int .u8 0, .int .u8 0, .string ⟨#[]⟩, .int .u64 0, .int .u64 0, .int .u64 0, .int .u64 0, .int .u64 0, .int .u64 0, .int .u64 0, .int .u64 0, .int .u64 0, .int .u64 0, .int .u64 0, .int .u64 0, .int .u64 0, .slice none 0 0, .slice none 0 0, .int .u64 0, .string text] 138 (0, 0))) (hIP : I ≠ P) (hbP : b ≠ P)
    (hP : ∀ c a w i v, Q (.panic c) (a.put (some i) v) w → Q (.panic c) a w)
    (hQ : ∀ (u31 u32 u33 u34 u35 u36 u37 u38 u39 u40 : Value) (w' : World), w'.heap[P]? = some (.cells #[.bool big, .bool wide, .int .u8 (abi : Nat), .int .u8 (ver : Nat), .string pad, .int .u64 (g0 : Nat), .int .u64 (g1 : Nat), .int .u64 (g2 : Nat), .int .u64 (g3 : Nat), .int .u64 (g4 : Nat), .int .u64 (g5 : Nat), .int .u64 (g6 : Nat), .int .u64 (g7 : Nat), .int .u64 (g8 : Nat), .int .u64 (g9 : Nat), .int .u64 (g10 : Nat), .int .u64 (g11 : Nat), .int .u64 (g12 : Nat), .slice none 0 0, .slice none 0 0, .int .u64 0, .string text] 138 (0, 0)) → OnlyAt P W w' → Q .normal ⟨#[.pointer (some ⟨P, 0, none⟩), c1, c2, .pointer (some ⟨I, 0, none⟩), c4, .pointer (some ⟨b, 0, none⟩), c6, c7, c8, c9, c10, c11, c12, c13, c14, c15, c16, c17, c18, c19, c20, c21, c22, c23, c24, c25, c26, c27, c28, c29, c30, u31, u32, u33, u34, u35, u36, u37, u38, u39, u40, c41, c42, c43, c44, c45, c46, c47, c48], []⟩ w') :
    (Code.region 7 #[⟨some 31, .move (.tmp 0), 188, "parse.go:57", #[], none⟩, ⟨some 32, .move (.tmp 0), 188, "parse.go:57", #[⟨7, .gcOnly .lateStores⟩], none⟩, ⟨some 33, .load 36 (.tmp 3), 36, "parse.go:57", #[], none⟩, ⟨some 34, .load 38 (.tmp 5), 38, "parse.go:57", #[⟨7, .gcOnly .lateStores⟩], none⟩, ⟨some 35, .nilCheck (.tmp 31), 0, "parse.go:57", #[⟨0, .data⟩, ⟨0, .phase⟩, ⟨1, .textOnly .lateStores⟩, ⟨2, .phase⟩, ⟨3, .textOnly .lateStores⟩], none⟩, ⟨some 36, .fieldAddr 138 (.tmp 35) 0, 0, "parse.go:57", #[⟨4, .data⟩, ⟨0, .phase⟩, ⟨1, .textOnly .lateStores⟩, ⟨2, .phase⟩, ⟨3, .textOnly .lateStores⟩], none⟩, ⟨some 37, .fieldAddr 42 (.tmp 36) 0, 0, "parse.go:57", #[⟨5, .data⟩, ⟨0, .phase⟩, ⟨1, .textOnly .lateStores⟩, ⟨2, .phase⟩, ⟨3, .textOnly .lateStores⟩], none⟩, ⟨none, .store 36 (.tmp 37) (.tmp 33), 0, "parse.go:57", #[⟨6, .data⟩, ⟨2, .data⟩, ⟨0, .phase⟩, ⟨1, .textOnly .lateStores⟩, ⟨2, .phase⟩, ⟨3, .textOnly .lateStores⟩], none⟩, ⟨some 38, .nilCheck (.tmp 32), 0, "parse.go:57", #[⟨1, .data⟩, ⟨0, .phase⟩, ⟨1, .phase⟩, ⟨2, .phase⟩, ⟨3, .phase⟩, ⟨4, .phase⟩, ⟨5, .phase⟩, ⟨6, .phase⟩, ⟨7, .phase⟩], none⟩, ⟨some 39, .fieldAddr 138 (.tmp 38) 0, 0, "parse.go:57", #[⟨8, .data⟩, ⟨0, .phase⟩, ⟨1, .phase⟩, ⟨2, .phase⟩, ⟨3, .phase⟩, ⟨4, .phase⟩, ⟨5, .phase⟩, ⟨6, .phase⟩, ⟨7, .phase⟩], none⟩, ⟨some 40, .fieldAddr 42 (.tmp 39) 1, 0, "parse.go:57", #[⟨9, .data⟩, ⟨0, .phase⟩, ⟨1, .phase⟩, ⟨2, .phase⟩, ⟨3, .phase⟩, ⟨4, .phase⟩, ⟨5, .phase⟩, ⟨6, .phase⟩, ⟨7, .phase⟩], none⟩, ⟨none, .store 38 (.tmp 40) (.tmp 34), 0, "parse.go:57", #[⟨10, .data⟩, ⟨3, .data⟩, ⟨7, .chain⟩, ⟨0, .phase⟩, ⟨1, .phase⟩, ⟨2, .phase⟩, ⟨3, .phase⟩, ⟨4, .phase⟩, ⟨5, .phase⟩, ⟨6, .phase⟩, ⟨7, .phase⟩], none⟩] true).wp Try.prog Q ⟨#[.pointer (some ⟨P, 0, none⟩), c1, c2, .pointer (some ⟨I, 0, none⟩), c4, .pointer (some ⟨b, 0, none⟩), c6, c7, c8, c9, c10, c11, c12, c13, c14, c15, c16, c17, c18, c19, c20, c21, c22, c23, c24, c25, c26, c27, c28, c29, c30, c31, c32, c33, c34, c35, c36, c37, c38, c39, c40, c41, c42, c43, c44, c45, c46, c47, c48], []⟩ W := by
  dsimp only at hQ ⊢
  have HQ := Lib.hid hQ; clear hQ
  refine wp_region_held_drew (S := fun w' => OnlyAt P W w') (by kernel_rfl) ?_ (fun hHeld => ?_)
  · exact (OnlyAt.refl _ _).drew
  have HR0 : Hid (W.drew.heap[P]? = some (.cells #[.bool false, .bool false, .int .u8 0, .int .u8 0, .string ⟨#[]⟩, .int .u64 0, .int .u64 0, .int .u64 0, .int .u64 0, .int .u64 0, .int .u64 0, .int .u64 0, .int .u64 0, .int .u64 0, .int .u64 0, .int .u64 0, .int .u64 0, .int .u64 0, .slice none 0 0, .slice none 0 0, .int .u64 0, .string text] 138 (0, 0))) := Lib.hid hR
  have HI := Lib.hid hI; have HB := Lib.hid hb; clear hI hb hR
  generalize W.drew = W0 at *
  refine wpAnyH_take (i := 0) (oi := ⟨some 31, .move (.tmp 0), 188, "parse.go:57", #[], none⟩) (v := ?_) rfl (by kernel_rfl) (by kernel_rfl) (by kernel_rfl) (fun c a w h => hP c a w _ _ h) (Or.inl ⟨by rfl, ?_⟩) (by assumption) ?_
  rotate_left
  · (intro w hSw; (try dsimp only at hSw); go_simp <;> with_reducible rfl)
  try simp only [Act.put, List.setIfInBounds_toArray, List.set_cons_zero, List.set_cons_succ]
  refine wpAnyH_take (i := 1) (oi := ⟨some 32, .move (.tmp 0), 188, "parse.go:57", #[⟨7, .gcOnly .lateStores⟩], none⟩) (v := ?_) rfl (by kernel_rfl) (by kernel_rfl) (by kernel_rfl) (fun c a w h => hP c a w _ _ h) (Or.inl ⟨by rfl, ?_⟩) (by assumption) ?_
  rotate_left
  · (intro w hSw; (try dsimp only at hSw); go_simp <;> with_reducible rfl)
  try simp only [Act.put, List.setIfInBounds_toArray, List.set_cons_zero, List.set_cons_succ]
  refine wpAnyH_take (i := 2) (oi := ⟨some 33, .load 36 (.tmp 3), 36, "parse.go:57", #[], none⟩) (v := ?_) rfl (by kernel_rfl) (by kernel_rfl) (by kernel_rfl) (fun c a w h => hP c a w _ _ h) (Or.inl ⟨by rfl, ?_⟩) (by assumption) ?_
  rotate_left
  · (intro w hSw; have q0 := (fun u hu => show u.cell? ⟨I, 0, none⟩ = some (.bool big) by rw [Lib.cell_of_heap (heap_only HI.out hu hIP)]; rfl) w hSw; have q1 := (fun u hu => show u.cell? ⟨I, 1, none⟩ = some (.bool wide) by rw [Lib.cell_of_heap (heap_only HI.out hu hIP)]; rfl) w hSw; have q2 := (fun u hu => show u.cell? ⟨I, 2, none⟩ = some (.int .u8 (abi : Nat)) by rw [Lib.cell_of_heap (heap_only HI.out hu hIP)]; rfl) w hSw; have q3 := (fun u hu => show u.cell? ⟨I, 3, none⟩ = some (.int .u8 (ver : Nat)) by rw [Lib.cell_of_heap (heap_only HI.out hu hIP)]; rfl) w hSw; have q4 := (fun u hu => show u.cell? ⟨I, 4, none⟩ = some (.string pad) by rw [Lib.cell_of_heap (heap_only HI.out hu hIP)]; rfl) w hSw; (try dsimp only at hSw); go_simp <;> with_reducible rfl)
  try simp only [Act.put, List.setIfInBounds_toArray, List.set_cons_zero, List.set_cons_succ]
  refine wpAnyH_take (i := 3) (oi := ⟨some 34, .load 38 (.tmp 5), 38, "parse.go:57", #[⟨7, .gcOnly .lateStores⟩], none⟩) (v := .agg #[.int .u64 (g0 : Nat), .int .u64 (g1 : Nat), .int .u64 (g2 : Nat), .int .u64 (g3 : Nat), .int .u64 (g4 : Nat), .int .u64 (g5 : Nat), .int .u64 (g6 : Nat), .int .u64 (g7 : Nat), .int .u64 (g8 : Nat), .int .u64 (g9 : Nat), .int .u64 (g10 : Nat), .int .u64 (g11 : Nat), .int .u64 (g12 : Nat)]) rfl (by kernel_rfl) (by kernel_rfl) (by kernel_rfl) (fun c a w h => hP c a w _ _ h) (yieldsIf_load_mid (by rfl) 38 _ rfl b 0 rfl [.int .u64 (g0 : Nat), .int .u64 (g1 : Nat), .int .u64 (g2 : Nat), .int .u64 (g3 : Nat), .int .u64 (g4 : Nat), .int .u64 (g5 : Nat), .int .u64 (g6 : Nat), .int .u64 (g7 : Nat), .int .u64 (g8 : Nat), .int .u64 (g9 : Nat), .int .u64 (g10 : Nat), .int .u64 (g11 : Nat), .int .u64 (g12 : Nat)] _ (fun u hu => range_of (heap_only HB.out hu hbP) (by rfl)) Try.underlying38 (by rfl) (by kernel_rfl)) (by assumption) ?_
  try simp only [Act.put, List.setIfInBounds_toArray, List.set_cons_zero, List.set_cons_succ]
  refine wpAnyH_take (i := 4) (oi := ⟨some 35, .nilCheck (.tmp 31), 0, "parse.go:57", #[⟨0, .data⟩, ⟨0, .phase⟩, ⟨1, .textOnly .lateStores⟩, ⟨2, .phase⟩, ⟨3, .textOnly .lateStores⟩], none⟩) (v := ?_) rfl (by kernel_rfl) (by kernel_rfl) (by kernel_rfl) (fun c a w h => hP c a w _ _ h) (Or.inl ⟨by rfl, ?_⟩) (by assumption) ?_
  rotate_left
  · (intro w hSw; (try dsimp only at hSw); go_simp <;> with_reducible rfl)
  try simp only [Act.put, List.setIfInBounds_toArray, List.set_cons_zero, List.set_cons_succ]
  refine wpAnyH_take (i := 5) (oi := ⟨some 36, .fieldAddr 138 (.tmp 35) 0, 0, "parse.go:57", #[⟨4, .data⟩, ⟨0, .phase⟩, ⟨1, .textOnly .lateStores⟩, ⟨2, .phase⟩, ⟨3, .textOnly .lateStores⟩], none⟩) (v := ?_) rfl (by kernel_rfl) (by kernel_rfl) (by kernel_rfl) (fun c a w h => hP c a w _ _ h) (Or.inl ⟨by rfl, ?_⟩) (by assumption) ?_
  rotate_left
  · (intro w hSw; (try dsimp only at hSw); go_simp <;> with_reducible rfl)
  try simp only [Act.put, List.setIfInBounds_toArray, List.set_cons_zero, List.set_cons_succ]
  refine wpAnyH_take (i := 6) (oi := ⟨some 37, .fieldAddr 42 (.tmp 36) 0, 0, "parse.go:57", #[⟨5, .data⟩, ⟨0, .phase⟩, ⟨1, .textOnly .lateStores⟩, ⟨2, .phase⟩, ⟨3, .textOnly .lateStores⟩], none⟩) (v := ?_) rfl (by kernel_rfl) (by kernel_rfl) (by kernel_rfl) (fun c a w h => hP c a w _ _ h) (Or.inl ⟨by rfl, ?_⟩) (by assumption) ?_
  rotate_left
  · (intro w hSw; (try dsimp only at hSw); go_simp <;> with_reducible rfl)
  try simp only [Act.put, List.setIfInBounds_toArray, List.set_cons_zero, List.set_cons_succ]
  refine wpAnyH_ready (rs := [7]) (by kernel_rfl) (by simp) ?_
  refine AllReadyH.cons (o := ⟨none, .store 36 (.tmp 37) (.tmp 33), 0, "parse.go:57", #[⟨6, .data⟩, ⟨2, .data⟩, ⟨0, .phase⟩, ⟨1, .textOnly .lateStores⟩, ⟨2, .phase⟩, ⟨3, .textOnly .lateStores⟩], none⟩) rfl (fun K hK => ?_) AllReadyH.nil
  refine wp_store_mid 36 _ _ rfl P 0 #[.bool big, .bool wide, .int .u8 (abi : Nat), .int .u8 (ver : Nat), .string pad] (by rfl) (by rfl) (there_of HR0.out (by simp)) (by kernel_rfl) (by simp [Value.oneCell']) ?_
  have HR1 : Hid ((W0.setCells P 0 [.bool big, .bool wide, .int .u8 (abi : Nat), .int .u8 (ver : Nat), .string pad]).heap[P]? = some (.cells #[.bool big, .bool wide, .int .u8 (abi : Nat), .int .u8 (ver : Nat), .string pad, .int .u64 0, .int .u64 0, .int .u64 0, .int .u64 0, .int .u64 0, .int .u64 0, .int .u64 0, .int .u64 0, .int .u64 0, .int .u64 0, .int .u64 0, .int .u64 0, .int .u64 0, .slice none 0 0, .slice none 0 0, .int .u64 0, .string text] 138 (0, 0))) := Lib.hid (by have q := heap_setCells [.bool big, .bool wide, .int .u8 (abi : Nat), .int .u8 (ver : Nat), .string pad] 0 HR0.out; simpa [stv] using q)
  refine hK.out _ _ ?_ (fun hHeld2 => ?_)
  · exact only_setCells _ _ hHeld
  clear hK K
  try simp only [Act.put]
  refine wpAnyH_take (i := 8) (oi := ⟨some 38, .nilCheck (.tmp 32), 0, "parse.go:57", #[⟨1, .data⟩, ⟨0, .phase⟩, ⟨1, .phase⟩, ⟨2, .phase⟩, ⟨3, .phase⟩, ⟨4, .phase⟩, ⟨5, .phase⟩, ⟨6, .phase⟩, ⟨7, .phase⟩], none⟩) (v := ?_) rfl (by kernel_rfl) (by kernel_rfl) (by kernel_rfl) (fun c a w h => hP c a w _ _ h) (Or.inl ⟨by rfl, ?_⟩) (by assumption) ?_
  rotate_left
  · (intro w hSw; (try dsimp only at hSw); go_simp <;> with_reducible rfl)
  try simp only [Act.put, List.setIfInBounds_toArray, List.set_cons_zero, List.set_cons_succ]
  refine wpAnyH_take (i := 9) (oi := ⟨some 39, .fieldAddr 138 (.tmp 38) 0, 0, "parse.go:57", #[⟨8, .data⟩, ⟨0, .phase⟩, ⟨1, .phase⟩, ⟨2, .phase⟩, ⟨3, .phase⟩, ⟨4, .phase⟩, ⟨5, .phase⟩, ⟨6, .phase⟩, ⟨7, .phase⟩], none⟩) (v := ?_) rfl (by kernel_rfl) (by kernel_rfl) (by kernel_rfl) (fun c a w h => hP c a w _ _ h) (Or.inl ⟨by rfl, ?_⟩) (by assumption) ?_
  rotate_left
  · (intro w hSw; (try dsimp only at hSw); go_simp <;> with_reducible rfl)
  try simp only [Act.put, List.setIfInBounds_toArray, List.set_cons_zero, List.set_cons_succ]
  refine wpAnyH_take (i := 10) (oi := ⟨some 40, .fieldAddr 42 (.tmp 39) 1, 0, "parse.go:57", #[⟨9, .data⟩, ⟨0, .phase⟩, ⟨1, .phase⟩, ⟨2, .phase⟩, ⟨3, .phase⟩, ⟨4, .phase⟩, ⟨5, .phase⟩, ⟨6, .phase⟩, ⟨7, .phase⟩], none⟩) (v := ?_) rfl (by kernel_rfl) (by kernel_rfl) (by kernel_rfl) (fun c a w h => hP c a w _ _ h) (Or.inl ⟨by rfl, ?_⟩) (by assumption) ?_
  rotate_left
  · (intro w hSw; (try dsimp only at hSw); go_simp <;> with_reducible rfl)
  try simp only [Act.put, List.setIfInBounds_toArray, List.set_cons_zero, List.set_cons_succ]
  refine wpAnyH_ready (rs := [11]) (by kernel_rfl) (by simp) ?_
  refine AllReadyH.cons (o := ⟨none, .store 38 (.tmp 40) (.tmp 34), 0, "parse.go:57", #[⟨10, .data⟩, ⟨3, .data⟩, ⟨7, .chain⟩, ⟨0, .phase⟩, ⟨1, .phase⟩, ⟨2, .phase⟩, ⟨3, .phase⟩, ⟨4, .phase⟩, ⟨5, .phase⟩, ⟨6, .phase⟩, ⟨7, .phase⟩], none⟩) rfl (fun K hK => ?_) AllReadyH.nil
  refine wp_store_mid 38 _ _ rfl P 5 #[.int .u64 (g0 : Nat), .int .u64 (g1 : Nat), .int .u64 (g2 : Nat), .int .u64 (g3 : Nat), .int .u64 (g4 : Nat), .int .u64 (g5 : Nat), .int .u64 (g6 : Nat), .int .u64 (g7 : Nat), .int .u64 (g8 : Nat), .int .u64 (g9 : Nat), .int .u64 (g10 : Nat), .int .u64 (g11 : Nat), .int .u64 (g12 : Nat)] (by rfl) (by rfl) (there_of HR1.out (by simp)) (by kernel_rfl) (by simp [Value.oneCell']) ?_
  have HR2 : Hid (((W0.setCells P 0 [.bool big, .bool wide, .int .u8 (abi : Nat), .int .u8 (ver : Nat), .string pad]).setCells P 5 [.int .u64 (g0 : Nat), .int .u64 (g1 : Nat), .int .u64 (g2 : Nat), .int .u64 (g3 : Nat), .int .u64 (g4 : Nat), .int .u64 (g5 : Nat), .int .u64 (g6 : Nat), .int .u64 (g7 : Nat), .int .u64 (g8 : Nat), .int .u64 (g9 : Nat), .int .u64 (g10 : Nat), .int .u64 (g11 : Nat), .int .u64 (g12 : Nat)]).heap[P]? = some (.cells #[.bool big, .bool wide, .int .u8 (abi : Nat), .int .u8 (ver : Nat), .string pad, .int .u64 (g0 : Nat), .int .u64 (g1 : Nat), .int .u64 (g2 : Nat), .int .u64 (g3 : Nat), .int .u64 (g4 : Nat), .int .u64 (g5 : Nat), .int .u64 (g6 : Nat), .int .u64 (g7 : Nat), .int .u64 (g8 : Nat), .int .u64 (g9 : Nat), .int .u64 (g10 : Nat), .int .u64 (g11 : Nat), .int .u64 (g12 : Nat), .slice none 0 0, .slice none 0 0, .int .u64 0, .string text] 138 (0, 0))) := Lib.hid (by have q := heap_setCells [.int .u64 (g0 : Nat), .int .u64 (g1 : Nat), .int .u64 (g2 : Nat), .int .u64 (g3 : Nat), .int .u64 (g4 : Nat), .int .u64 (g5 : Nat), .int .u64 (g6 : Nat), .int .u64 (g7 : Nat), .int .u64 (g8 : Nat), .int .u64 (g9 : Nat), .int .u64 (g10 : Nat), .int .u64 (g11 : Nat), .int .u64 (g12 : Nat)] 5 HR1.out; simpa [stv] using q)
  refine hK.out _ _ ?_ (fun hHeld3_7 => ?_)
  · exact only_setCells _ _ hHeld2
  clear hK K
  try simp only [Act.put]
  refine wpAnyH_done (by kernel_rfl) ?_ _
  exact HQ.out _ _ _ _ _ _ _ _ _ _ _ HR2.out hHeld3_7
set_option maxRecDepth 1000000 in
set_option maxHeartbeats 4000000 in
theorem hreg8 (Q : Exit → Act → World → Prop) (c1 c2 c3 c4 c6 c7 c8 c9 c10 c11 c12 c13 c14 c15 c16 c17 c18 c19 c20 c21 c22 c23 c24 c25 c26 c27 c28 c29 c30 c31 c32 c33 c34 c35 c36 c37 c38 c39 c40 c41 c42 c43 c44 c45 c46 c47 c48 : Value) (P b : Nat) (big wide : Bool) (r : Int) (g0 g1 g2 g3 g4 g5 g6 g7 g8 g9 g10 g11 g12 : Nat) (W : World) (hb : W.heap[b]? = some (.cells #[.int .u64 (g0 : Nat), .int .u64 (g1 : Nat), .int .u64 (g2 : Nat), .int .u64 (g3 : Nat), .int .u64 (g4 : Nat), .int .u64 (g5 : Nat), .int .u64 (g6 : Nat), .int .u64 (g7 : Nat), .int .u64 (g8 : Nat), .int .u64 (g9 : Nat), .int .u64 (g10 : Nat), .int .u64 (g11 : Nat), .int .u64 (g12 : Nat)] 38 (0, 0)))
    (X0 : Hid (∀ u, Below W.heap.size W u → u.cell? ⟨P, 0, none⟩ = some (.bool big))) (X1 : Hid (∀ u, Below W.heap.size W u → u.cell? ⟨P, 1, none⟩ = some (.bool wide)))
    (HC : Hid (∀ u, Calls Try.prog 90 #[.agg #[.int .u64 (g0 : Nat), .int .u64 (g1 : Nat), .int .u64 (g2 : Nat), .int .u64 (g3 : Nat), .int .u64 (g4 : Nat), .int .u64 (g5 : Nat), .int .u64 (g6 : Nat), .int .u64 (g7 : Nat), .int .u64 (g8 : Nat), .int .u64 (g9 : Nat), .int .u64 (g10 : Nat), .int .u64 (g11 : Nat), .int .u64 (g12 : Nat)], .agg #[.bool big, .bool wide]] u fun e w' => e = .returned (.int .i64 r) ∧ Below u.heap.size u w'))
    (hP : ∀ c a w i v, Q (.panic c) (a.put (some i) v) w → Q (.panic c) a w)
    (hQ : ∀ (u41 u42 u43 u44 u45 u46 u47 u48 : Value) (w' : World), Below W.heap.size W w' → Q .normal ⟨#[.pointer (some ⟨P, 0, none⟩), c1, .int .i64 r, c3, c4, .pointer (some ⟨b, 0, none⟩), c6, c7, c8, c9, c10, c11, c12, c13, c14, c15, c16, c17, c18, c19, c20, c21, c22, c23, c24, c25, c26, c27, c28, c29, c30, c31, c32, c33, c34, c35, c36, c37, c38, c39, c40, u41, u42, u43, u44, u45, u46, u47, u48], []⟩ w') :
    (Code.region 8 #[⟨some 41, .load 38 (.tmp 5), 38, "parse.go:58", #[], none⟩, ⟨some 42, .move (.tmp 0), 188, "parse.go:58", #[], none⟩, ⟨some 43, .nilCheck (.tmp 42), 0, "parse.go:58", #[⟨1, .data⟩], none⟩, ⟨some 44, .fieldAddr 138 (.tmp 43) 0, 0, "parse.go:58", #[⟨2, .data⟩], none⟩, ⟨some 45, .fieldAddr 42 (.tmp 44) 0, 0, "parse.go:58", #[⟨3, .data⟩], none⟩, ⟨some 46, .fieldAddr 36 (.tmp 45) 0, 0, "parse.go:58", #[⟨4, .data⟩], none⟩, ⟨some 47, .load 34 (.tmp 46), 34, "parse.go:58", #[⟨5, .data⟩], none⟩, ⟨some 48, .call { callee := .value (.func 90), args := #[.tmp 41, .tmp 47], argTypes := #[38, 34] }, 43, "parse.go:58", #[⟨0, .data⟩, ⟨6, .data⟩], none⟩, ⟨some 2, .assign (.tmp 48), 43, "parse.go:58", #[⟨7, .data⟩, ⟨7, .chain⟩, ⟨0, .phase⟩, ⟨1, .phase⟩, ⟨2, .phase⟩, ⟨3, .phase⟩, ⟨4, .phase⟩, ⟨5, .phase⟩, ⟨6, .phase⟩, ⟨7, .phase⟩], none⟩] true).wp Try.prog Q ⟨#[.pointer (some ⟨P, 0, none⟩), c1, c2, c3, c4, .pointer (some ⟨b, 0, none⟩), c6, c7, c8, c9, c10, c11, c12, c13, c14, c15, c16, c17, c18, c19, c20, c21, c22, c23, c24, c25, c26, c27, c28, c29, c30, c31, c32, c33, c34, c35, c36, c37, c38, c39, c40, c41, c42, c43, c44, c45, c46, c47, c48], []⟩ W := by
  dsimp only at hQ ⊢
  have HQ := Lib.hid hQ; clear hQ
  refine wp_region_held_drew (S := fun w' => Below W.heap.size W w') (by kernel_rfl) ?_ (fun hHeld => ?_)
  · exact (Below.refl _ _).drew
  have HB := Lib.hid hb; clear hb
  generalize W.drew = W0 at *
  refine wpAnyH_take (i := 0) (oi := ⟨some 41, .load 38 (.tmp 5), 38, "parse.go:58", #[], none⟩) (v := .agg #[.int .u64 (g0 : Nat), .int .u64 (g1 : Nat), .int .u64 (g2 : Nat), .int .u64 (g3 : Nat), .int .u64 (g4 : Nat), .int .u64 (g5 : Nat), .int .u64 (g6 : Nat), .int .u64 (g7 : Nat), .int .u64 (g8 : Nat), .int .u64 (g9 : Nat), .int .u64 (g10 : Nat), .int .u64 (g11 : Nat), .int .u64 (g12 : Nat)]) rfl (by kernel_rfl) (by kernel_rfl) (by kernel_rfl) (fun c a w h => hP c a w _ _ h) (yieldsIf_load_mid (by rfl) 38 _ rfl b 0 rfl [.int .u64 (g0 : Nat), .int .u64 (g1 : Nat), .int .u64 (g2 : Nat), .int .u64 (g3 : Nat), .int .u64 (g4 : Nat), .int .u64 (g5 : Nat), .int .u64 (g6 : Nat), .int .u64 (g7 : Nat), .int .u64 (g8 : Nat), .int .u64 (g9 : Nat), .int .u64 (g10 : Nat), .int .u64 (g11 : Nat), .int .u64 (g12 : Nat)] _ (fun u hu => range_of (heap_low HB.out hu) (by rfl)) Try.underlying38 (by rfl) (by kernel_rfl)) (by assumption) ?_
  try simp only [Act.put, List.setIfInBounds_toArray, List.set_cons_zero, List.set_cons_succ]
  refine wpAnyH_take (i := 1) (oi := ⟨some 42, .move (.tmp 0), 188, "parse.go:58", #[], none⟩) (v := ?_) rfl (by kernel_rfl) (by kernel_rfl) (by kernel_rfl) (fun c a w h => hP c a w _ _ h) (Or.inl ⟨by rfl, ?_⟩) (by assumption) ?_
  rotate_left
  · (intro w hSw; (try dsimp only at hSw); go_simp <;> with_reducible rfl)
  try simp only [Act.put, List.setIfInBounds_toArray, List.set_cons_zero, List.set_cons_succ]
  refine wpAnyH_take (i := 2) (oi := ⟨some 43, .nilCheck (.tmp 42), 0, "parse.go:58", #[⟨1, .data⟩], none⟩) (v := ?_) rfl (by kernel_rfl) (by kernel_rfl) (by kernel_rfl) (fun c a w h => hP c a w _ _ h) (Or.inl ⟨by rfl, ?_⟩) (by assumption) ?_
  rotate_left
  · (intro w hSw; (try dsimp only at hSw); go_simp <;> with_reducible rfl)
  try simp only [Act.put, List.setIfInBounds_toArray, List.set_cons_zero, List.set_cons_succ]
  refine wpAnyH_take (i := 3) (oi := ⟨some 44, .fieldAddr 138 (.tmp 43) 0, 0, "parse.go:58", #[⟨2, .data⟩], none⟩) (v := ?_) rfl (by kernel_rfl) (by kernel_rfl) (by kernel_rfl) (fun c a w h => hP c a w _ _ h) (Or.inl ⟨by rfl, ?_⟩) (by assumption) ?_
  rotate_left
  · (intro w hSw; (try dsimp only at hSw); go_simp <;> with_reducible rfl)
  try simp only [Act.put, List.setIfInBounds_toArray, List.set_cons_zero, List.set_cons_succ]
  refine wpAnyH_take (i := 4) (oi := ⟨some 45, .fieldAddr 42 (.tmp 44) 0, 0, "parse.go:58", #[⟨3, .data⟩], none⟩) (v := ?_) rfl (by kernel_rfl) (by kernel_rfl) (by kernel_rfl) (fun c a w h => hP c a w _ _ h) (Or.inl ⟨by rfl, ?_⟩) (by assumption) ?_
  rotate_left
  · (intro w hSw; (try dsimp only at hSw); go_simp <;> with_reducible rfl)
  try simp only [Act.put, List.setIfInBounds_toArray, List.set_cons_zero, List.set_cons_succ]
  refine wpAnyH_take (i := 5) (oi := ⟨some 46, .fieldAddr 36 (.tmp 45) 0, 0, "parse.go:58", #[⟨4, .data⟩], none⟩) (v := ?_) rfl (by kernel_rfl) (by kernel_rfl) (by kernel_rfl) (fun c a w h => hP c a w _ _ h) (Or.inl ⟨by rfl, ?_⟩) (by assumption) ?_
  rotate_left
  · (intro w hSw; (try dsimp only at hSw); go_simp <;> with_reducible rfl)
  try simp only [Act.put, List.setIfInBounds_toArray, List.set_cons_zero, List.set_cons_succ]
  refine wpAnyH_take (i := 6) (oi := ⟨some 47, .load 34 (.tmp 46), 34, "parse.go:58", #[⟨5, .data⟩], none⟩) (v := ?_) rfl (by kernel_rfl) (by kernel_rfl) (by kernel_rfl) (fun c a w h => hP c a w _ _ h) (Or.inl ⟨by rfl, ?_⟩) (by assumption) ?_
  rotate_left
  · (intro w hSw; have q0 := X0.out w hSw; have q1 := X1.out w hSw; (try dsimp only at hSw); go_simp <;> with_reducible rfl)
  try simp only [Act.put, List.setIfInBounds_toArray, List.set_cons_zero, List.set_cons_succ]
  refine wpAnyH_ready (rs := [7]) (by kernel_rfl) (by simp) ?_
  refine AllReadyH.cons (o := ⟨some 48, .call { callee := .value (.func 90), args := #[.tmp 41, .tmp 47], argTypes := #[38, 34] }, 43, "parse.go:58", #[⟨0, .data⟩, ⟨6, .data⟩], none⟩) rfl (fun K hK => ?_) AllReadyH.nil
  (first | go_at_call 90 | (go_simp; go_at_call 90))
  refine (HC.out _).mono ?_
  rintro e w3 ⟨rfl, h3⟩
  try go_wp2_with fail
  refine hK.out _ _ ?_ (fun hHeld2 => ?_)
  · exact hHeld.trans (h3.mono hHeld.size)
  clear hK K
  try simp only [Act.put, List.setIfInBounds_toArray, List.set_cons_zero, List.set_cons_succ]
  refine wpAnyH_take (i := 8) (oi := ⟨some 2, .assign (.tmp 48), 43, "parse.go:58", #[⟨7, .data⟩, ⟨7, .chain⟩, ⟨0, .phase⟩, ⟨1, .phase⟩, ⟨2, .phase⟩, ⟨3, .phase⟩, ⟨4, .phase⟩, ⟨5, .phase⟩, ⟨6, .phase⟩, ⟨7, .phase⟩], none⟩) (v := ?_) rfl (by kernel_rfl) (by kernel_rfl) (by kernel_rfl) (fun c a w h => hP c a w _ _ h) (Or.inl ⟨by rfl, ?_⟩) (by assumption) ?_
  rotate_left
  · (intro w hSw; (try dsimp only at hSw); go_simp <;> with_reducible rfl)
  try simp only [Act.put, List.setIfInBounds_toArray, List.set_cons_zero, List.set_cons_succ]
  refine wpAnyH_done (by kernel_rfl) ?_ _
  exact HQ.out _ _ _ _ _ _ _ _ _ hHeld2
end Go.Proofs.Ytedocnidgiglaaa
