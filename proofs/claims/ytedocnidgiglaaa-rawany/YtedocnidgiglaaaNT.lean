/- Drawn regions of raw's checks. Conditions: those written in each theorem. -/
import Derived.Test.YtedocnidgiglaaaNF
import Derived.Test.YtedocnidgiglaaaJC
namespace Go.Proofs.Ytedocnidgiglaaa
open Go.RowKit
set_option linter.unusedVariables false
set_option maxRecDepth 1000000 in
set_option maxHeartbeats 4000000 in
theorem creg6_yes (Q : Exit → Act → World → Prop) (c1 c2 c3 c5 c6 c7 c8 c9 c10 c11 c12 c13 c14 c15 c16 c17 c18 c19 c20 c21 c22 c23 c24 c25 c26 c27 c28 c29 c30 c31 c32 c33 : Value) (P B : Nat) (s0 s1 s2 s3 s4 s5 s6 s7 s8 s9 : Nat) (text : ByteArray) (z : Nat) (r : Bool) (W : World) (hB : W.heap[B]? = some (.cells #[.int .u64 (s0 : Nat), .int .u64 (s1 : Nat), .int .u64 (s2 : Nat), .int .u64 (s3 : Nat), .int .u64 (s4 : Nat), .int .u64 (s5 : Nat), .int .u64 (s6 : Nat), .int .u64 (s7 : Nat), .int .u64 (s8 : Nat), .int .u64 (s9 : Nat)] 52 (0, 0)))
    (HH : Hid (∀ u, Calls Try.prog 46 #[.agg #[.int .u64 (s0 : Nat), .int .u64 (s1 : Nat), .int .u64 (s2 : Nat), .int .u64 (s3 : Nat), .int .u64 (s4 : Nat), .int .u64 (s5 : Nat), .int .u64 (s6 : Nat), .int .u64 (s7 : Nat), .int .u64 (s8 : Nat), .int .u64 (s9 : Nat)]] u fun e w' => e = .returned (.bool true) ∧ Below u.heap.size u w'))
    (HI : Hid (∀ u, Calls Try.prog 97 #[.agg #[.int .u64 (s4 : Nat), .int .u64 (s5 : Nat)], .int .u64 (z : Nat)] u fun e w' => e = .returned (.bool r) ∧ Below u.heap.size u w')) (X0 : Hid (∀ u, Below W.heap.size W u → u.cell? ⟨P, 21, none⟩ = some (.string text))) (zw : IntKind.u64.wrap (text.size : Int) = (z : Int))
    (hP : ∀ c a w i v, Q (.panic c) (a.put (some i) v) w → Q (.panic c) a w)
    (hQ : ∀ (u19 u20 u21 u22 u23 u24 u25 u26 u27 u28 u29 u30 u31 : Value) (w' : World), Below W.heap.size W w' → Q .normal ⟨#[.pointer (some ⟨P, 0, none⟩), c1, c2, c3, .pointer (some ⟨B, 0, none⟩), c5, c6, c7, c8, c9, c10, c11, c12, c13, c14, c15, c16, c17, c18, u19, u20, u21, u22, u23, u24, u25, u26, u27, u28, u29, u30, u31, .bool (!r), c33], []⟩ w') :
    (Code.region 6 #[⟨some 19, .load 52 (.tmp 4), 52, "parse.go:127", #[], none⟩, ⟨some 20, .call { callee := .value (.func 46), args := #[.tmp 19], argTypes := #[52] }, 4, "parse.go:127", #[⟨0, .data⟩], none⟩, ⟨some 21, .move (.tmp 20), 4, "parse.go:127", #[⟨1, .data⟩, ⟨1, .chain⟩], none⟩, ⟨some 22, .load 52 (.tmp 4), 52, "parse.go:127", #[⟨2, .guard⟩], some (2, true)⟩, ⟨some 23, .call { callee := .value (.func 60), args := #[.tmp 22], argTypes := #[52] }, 63, "parse.go:127", #[⟨3, .data⟩, ⟨2, .chain⟩, ⟨2, .guard⟩], some (2, true)⟩, ⟨some 24, .move (.tmp 0), 188, "parse.go:127", #[⟨2, .guard⟩], some (2, true)⟩, ⟨some 25, .nilCheck (.tmp 24), 0, "parse.go:127", #[⟨5, .data⟩, ⟨2, .guard⟩], some (2, true)⟩, ⟨some 26, .fieldAddr 138 (.tmp 25) 1, 0, "parse.go:127", #[⟨6, .data⟩, ⟨2, .guard⟩], some (2, true)⟩, ⟨some 27, .load 9 (.tmp 26), 9, "parse.go:127", #[⟨7, .data⟩, ⟨2, .guard⟩], some (2, true)⟩, ⟨some 28, .call { callee := .builtin .len, args := #[.tmp 27], argTypes := #[9] }, 3, "parse.go:127", #[⟨8, .data⟩, ⟨2, .guard⟩], some (2, true)⟩, ⟨some 29, .convert 3 29 (.tmp 28), 29, "parse.go:127", #[⟨9, .data⟩, ⟨2, .guard⟩], some (2, true)⟩, ⟨some 30, .call { callee := .value (.func 97), args := #[.tmp 23, .tmp 29], argTypes := #[63, 29] }, 4, "parse.go:127", #[⟨4, .data⟩, ⟨10, .data⟩, ⟨4, .chain⟩, ⟨2, .guard⟩], some (2, true)⟩, ⟨some 31, .unOp .not 4 (.tmp 30), 4, "parse.go:127", #[⟨11, .data⟩, ⟨2, .guard⟩], some (2, true)⟩, ⟨some 32, .pick (.tmp 21) (.tmp 31) (.const (.bool false)), 4, "parse.go:127", #[⟨2, .data⟩, ⟨12, .data⟩], none⟩] true).wp Try.prog Q ⟨#[.pointer (some ⟨P, 0, none⟩), c1, c2, c3, .pointer (some ⟨B, 0, none⟩), c5, c6, c7, c8, c9, c10, c11, c12, c13, c14, c15, c16, c17, c18, c19, c20, c21, c22, c23, c24, c25, c26, c27, c28, c29, c30, c31, c32, c33], []⟩ W := by
  try dsimp only at hQ ⊢
  have HQ := Lib.hid hQ; clear hQ
  refine wp_region_held_drew (S := fun w' => Below W.heap.size W w') (by kernel_rfl) ?_ (fun hHeld => ?_)
  · exact (Below.refl _ _).drew
  have HB := Lib.hid hB; clear hB
  generalize W.drew = W0 at *
  refine wpAnyH_take (i := 0) (oi := ⟨some 19, .load 52 (.tmp 4), 52, "parse.go:127", #[], none⟩) (v := .agg #[.int .u64 (s0 : Nat), .int .u64 (s1 : Nat), .int .u64 (s2 : Nat), .int .u64 (s3 : Nat), .int .u64 (s4 : Nat), .int .u64 (s5 : Nat), .int .u64 (s6 : Nat), .int .u64 (s7 : Nat), .int .u64 (s8 : Nat), .int .u64 (s9 : Nat)]) rfl (by kernel_rfl) (by kernel_rfl) (by kernel_rfl) (fun c a w h => hP c a w _ _ h) (yieldsIf_load_mid (by rfl) 52 _ rfl B 0 rfl [.int .u64 (s0 : Nat), .int .u64 (s1 : Nat), .int .u64 (s2 : Nat), .int .u64 (s3 : Nat), .int .u64 (s4 : Nat), .int .u64 (s5 : Nat), .int .u64 (s6 : Nat), .int .u64 (s7 : Nat), .int .u64 (s8 : Nat), .int .u64 (s9 : Nat)] _ (fun u hu => range_of (heap_low HB.out hu) (by rfl)) Try.underlying52 (by rfl) (by kernel_rfl)) (by assumption) ?_
  try simp only [Act.put, List.setIfInBounds_toArray, List.set_cons_zero, List.set_cons_succ]
  refine wpAnyH_ready (rs := [1]) (by kernel_rfl) (by simp) ?_
  refine AllReadyH.cons (o := ⟨some 20, .call { callee := .value (.func 46), args := #[.tmp 19], argTypes := #[52] }, 4, "parse.go:127", #[⟨0, .data⟩], none⟩) rfl (fun K hK => ?_) AllReadyH.nil
  (first | go_at_call 46 | (go_simp; go_at_call 46))
  refine (HH.out _).mono ?_
  rintro e w3 ⟨rfl, b3⟩
  try go_wp2_with fail
  refine hK.out _ _ ?_ (fun hHeld2 => ?_)
  · exact hHeld.trans (b3.mono hHeld.size)
  clear hK K
  try simp only [Act.put, List.setIfInBounds_toArray, List.set_cons_zero, List.set_cons_succ]
  refine wpAnyH_take (i := 2) (oi := ⟨some 21, .move (.tmp 20), 4, "parse.go:127", #[⟨1, .data⟩, ⟨1, .chain⟩], none⟩) (v := ?_) rfl (by kernel_rfl) (by kernel_rfl) (by kernel_rfl) (fun c a w h => hP c a w _ _ h) (Or.inl ⟨by rfl, ?_⟩) (by assumption) ?_
  rotate_left
  · (intro w hSw; (try dsimp only at hSw); go_simp <;> with_reducible rfl)
  try simp only [Act.put, List.setIfInBounds_toArray, List.set_cons_zero, List.set_cons_succ]
  refine wpAnyH_take (i := 3) (oi := ⟨some 22, .load 52 (.tmp 4), 52, "parse.go:127", #[⟨2, .guard⟩], some (2, true)⟩) (v := .agg #[.int .u64 (s0 : Nat), .int .u64 (s1 : Nat), .int .u64 (s2 : Nat), .int .u64 (s3 : Nat), .int .u64 (s4 : Nat), .int .u64 (s5 : Nat), .int .u64 (s6 : Nat), .int .u64 (s7 : Nat), .int .u64 (s8 : Nat), .int .u64 (s9 : Nat)]) rfl (by kernel_rfl) (by kernel_rfl) (by kernel_rfl) (fun c a w h => hP c a w _ _ h) (yieldsIf_load_mid (by rfl) 52 _ rfl B 0 rfl [.int .u64 (s0 : Nat), .int .u64 (s1 : Nat), .int .u64 (s2 : Nat), .int .u64 (s3 : Nat), .int .u64 (s4 : Nat), .int .u64 (s5 : Nat), .int .u64 (s6 : Nat), .int .u64 (s7 : Nat), .int .u64 (s8 : Nat), .int .u64 (s9 : Nat)] _ (fun u hu => range_of (heap_low HB.out hu) (by rfl)) Try.underlying52 (by rfl) (by kernel_rfl)) (by assumption) ?_
  try simp only [Act.put, List.setIfInBounds_toArray, List.set_cons_zero, List.set_cons_succ]
  refine wpAnyH_take (i := 5) (oi := ⟨some 24, .move (.tmp 0), 188, "parse.go:127", #[⟨2, .guard⟩], some (2, true)⟩) (v := ?_) rfl (by kernel_rfl) (by kernel_rfl) (by kernel_rfl) (fun c a w h => hP c a w _ _ h) (Or.inl ⟨by rfl, ?_⟩) (by assumption) ?_
  rotate_left
  · (intro w hSw; (try dsimp only at hSw); go_simp <;> with_reducible rfl)
  try simp only [Act.put, List.setIfInBounds_toArray, List.set_cons_zero, List.set_cons_succ]
  refine wpAnyH_take (i := 6) (oi := ⟨some 25, .nilCheck (.tmp 24), 0, "parse.go:127", #[⟨5, .data⟩, ⟨2, .guard⟩], some (2, true)⟩) (v := ?_) rfl (by kernel_rfl) (by kernel_rfl) (by kernel_rfl) (fun c a w h => hP c a w _ _ h) (Or.inl ⟨by rfl, ?_⟩) (by assumption) ?_
  rotate_left
  · (intro w hSw; (try dsimp only at hSw); go_simp <;> with_reducible rfl)
  try simp only [Act.put, List.setIfInBounds_toArray, List.set_cons_zero, List.set_cons_succ]
  refine wpAnyH_take (i := 7) (oi := ⟨some 26, .fieldAddr 138 (.tmp 25) 1, 0, "parse.go:127", #[⟨6, .data⟩, ⟨2, .guard⟩], some (2, true)⟩) (v := ?_) rfl (by kernel_rfl) (by kernel_rfl) (by kernel_rfl) (fun c a w h => hP c a w _ _ h) (Or.inl ⟨by rfl, ?_⟩) (by assumption) ?_
  rotate_left
  · (intro w hSw; (try dsimp only at hSw); go_simp <;> with_reducible rfl)
  try simp only [Act.put, List.setIfInBounds_toArray, List.set_cons_zero, List.set_cons_succ]
  refine wpAnyH_take (i := 8) (oi := ⟨some 27, .load 9 (.tmp 26), 9, "parse.go:127", #[⟨7, .data⟩, ⟨2, .guard⟩], some (2, true)⟩) (v := ?_) rfl (by kernel_rfl) (by kernel_rfl) (by kernel_rfl) (fun c a w h => hP c a w _ _ h) (Or.inl ⟨by rfl, ?_⟩) (by assumption) ?_
  rotate_left
  · (intro w hSw; have q0 := X0.out w hSw; (try dsimp only at hSw); go_simp <;> with_reducible rfl)
  try simp only [Act.put, List.setIfInBounds_toArray, List.set_cons_zero, List.set_cons_succ]
  refine wpAnyH_take (i := 9) (oi := ⟨some 28, .call { callee := .builtin .len, args := #[.tmp 27], argTypes := #[9] }, 3, "parse.go:127", #[⟨8, .data⟩, ⟨2, .guard⟩], some (2, true)⟩) (v := ?_) rfl (by kernel_rfl) (by kernel_rfl) (by kernel_rfl) (fun c a w h => hP c a w _ _ h) (Or.inl ⟨by rfl, ?_⟩) (by assumption) ?_
  rotate_left
  · (intro w hSw; (try dsimp only at hSw); go_simp <;> with_reducible rfl)
  try simp only [Act.put, List.setIfInBounds_toArray, List.set_cons_zero, List.set_cons_succ]
  refine wpAnyH_take (i := 10) (oi := ⟨some 29, .convert 3 29 (.tmp 28), 29, "parse.go:127", #[⟨9, .data⟩, ⟨2, .guard⟩], some (2, true)⟩) (v := ?_) rfl (by kernel_rfl) (by kernel_rfl) (by kernel_rfl) (fun c a w h => hP c a w _ _ h) (Or.inl ⟨by rfl, ?_⟩) (by assumption) ?_
  rotate_left
  · (intro w hSw; (try dsimp only at hSw); go_simp <;> with_reducible rfl)
  try simp only [Act.put, List.setIfInBounds_toArray, List.set_cons_zero, List.set_cons_succ]
  refine wpAnyH_ready (rs := [4]) (by kernel_rfl) (by simp) ?_
  refine AllReadyH.cons (o := ⟨some 23, .call { callee := .value (.func 60), args := #[.tmp 22], argTypes := #[52] }, 63, "parse.go:127", #[⟨3, .data⟩, ⟨2, .chain⟩, ⟨2, .guard⟩], some (2, true)⟩) rfl (fun K hK => ?_) AllReadyH.nil
  (first | go_at_call 60 | (go_simp; go_at_call 60))
  refine (data_any s0 s1 s2 s3 s4 s5 s6 s7 s8 s9 _).mono ?_
  rintro e w4 ⟨rfl, b4⟩
  try go_wp2_with fail
  refine hK.out _ _ ?_ (fun hHeld3_1 => ?_)
  · exact hHeld2.trans (b4.mono hHeld2.size)
  clear hK K
  try simp only [Act.put, List.setIfInBounds_toArray, List.set_cons_zero, List.set_cons_succ]
  refine wpAnyH_ready (rs := [11]) (by kernel_rfl) (by simp) ?_
  refine AllReadyH.cons (o := ⟨some 30, .call { callee := .value (.func 97), args := #[.tmp 23, .tmp 29], argTypes := #[63, 29] }, 4, "parse.go:127", #[⟨4, .data⟩, ⟨10, .data⟩, ⟨4, .chain⟩, ⟨2, .guard⟩], some (2, true)⟩) rfl (fun K hK => ?_) AllReadyH.nil
  (first | go_at_call 97 | (go_simp; go_at_call 97))
  refine (HI.out _).mono ?_
  rintro e w5 ⟨rfl, b5⟩
  try go_wp2_with fail
  refine hK.out _ _ ?_ (fun hHeld4_1_4 => ?_)
  · exact hHeld3_1.trans (b5.mono hHeld3_1.size)
  clear hK K
  try simp only [Act.put, List.setIfInBounds_toArray, List.set_cons_zero, List.set_cons_succ]
  refine wpAnyH_take (i := 12) (oi := ⟨some 31, .unOp .not 4 (.tmp 30), 4, "parse.go:127", #[⟨11, .data⟩, ⟨2, .guard⟩], some (2, true)⟩) (v := ?_) rfl (by kernel_rfl) (by kernel_rfl) (by kernel_rfl) (fun c a w h => hP c a w _ _ h) (Or.inl ⟨by rfl, ?_⟩) (by assumption) ?_
  rotate_left
  · (intro w hSw; (try dsimp only at hSw); go_simp <;> with_reducible rfl)
  try simp only [Act.put, List.setIfInBounds_toArray, List.set_cons_zero, List.set_cons_succ]
  refine wpAnyH_take (i := 13) (oi := ⟨some 32, .pick (.tmp 21) (.tmp 31) (.const (.bool false)), 4, "parse.go:127", #[⟨2, .data⟩, ⟨12, .data⟩], none⟩) (v := ?_) rfl (by kernel_rfl) (by kernel_rfl) (by kernel_rfl) (fun c a w h => hP c a w _ _ h) (Or.inl ⟨by rfl, ?_⟩) (by assumption) ?_
  rotate_left
  · (intro w hSw; (try dsimp only at hSw); go_simp <;> with_reducible rfl)
  try simp only [Act.put, List.setIfInBounds_toArray, List.set_cons_zero, List.set_cons_succ]
  refine wpAnyH_done (by kernel_rfl) ?_ _
  exact HQ.out _ _ _ _ _ _ _ _ _ _ _ _ _ _ hHeld4_1_4
set_option maxRecDepth 1000000 in
set_option maxHeartbeats 4000000 in
theorem creg6_no (Q : Exit → Act → World → Prop) (c1 c2 c3 c5 c6 c7 c8 c9 c10 c11 c12 c13 c14 c15 c16 c17 c18 c19 c20 c21 c22 c23 c24 c25 c26 c27 c28 c29 c30 c31 c32 c33 : Value) (P B : Nat) (s0 s1 s2 s3 s4 s5 s6 s7 s8 s9 : Nat) (text : ByteArray) (W : World) (hB : W.heap[B]? = some (.cells #[.int .u64 (s0 : Nat), .int .u64 (s1 : Nat), .int .u64 (s2 : Nat), .int .u64 (s3 : Nat), .int .u64 (s4 : Nat), .int .u64 (s5 : Nat), .int .u64 (s6 : Nat), .int .u64 (s7 : Nat), .int .u64 (s8 : Nat), .int .u64 (s9 : Nat)] 52 (0, 0)))
    (HH : Hid (∀ u, Calls Try.prog 46 #[.agg #[.int .u64 (s0 : Nat), .int .u64 (s1 : Nat), .int .u64 (s2 : Nat), .int .u64 (s3 : Nat), .int .u64 (s4 : Nat), .int .u64 (s5 : Nat), .int .u64 (s6 : Nat), .int .u64 (s7 : Nat), .int .u64 (s8 : Nat), .int .u64 (s9 : Nat)]] u fun e w' => e = .returned (.bool false) ∧ Below u.heap.size u w'))
    (hP : ∀ c a w i v, Q (.panic c) (a.put (some i) v) w → Q (.panic c) a w)
    (hQ : ∀ (u19 u20 u21 u22 u23 u24 u25 u26 u27 u28 u29 u30 u31 : Value) (w' : World), Below W.heap.size W w' → Q .normal ⟨#[.pointer (some ⟨P, 0, none⟩), c1, c2, c3, .pointer (some ⟨B, 0, none⟩), c5, c6, c7, c8, c9, c10, c11, c12, c13, c14, c15, c16, c17, c18, u19, u20, u21, u22, u23, u24, u25, u26, u27, u28, u29, u30, u31, .bool false, c33], []⟩ w') :
    (Code.region 6 #[⟨some 19, .load 52 (.tmp 4), 52, "parse.go:127", #[], none⟩, ⟨some 20, .call { callee := .value (.func 46), args := #[.tmp 19], argTypes := #[52] }, 4, "parse.go:127", #[⟨0, .data⟩], none⟩, ⟨some 21, .move (.tmp 20), 4, "parse.go:127", #[⟨1, .data⟩, ⟨1, .chain⟩], none⟩, ⟨some 22, .load 52 (.tmp 4), 52, "parse.go:127", #[⟨2, .guard⟩], some (2, true)⟩, ⟨some 23, .call { callee := .value (.func 60), args := #[.tmp 22], argTypes := #[52] }, 63, "parse.go:127", #[⟨3, .data⟩, ⟨2, .chain⟩, ⟨2, .guard⟩], some (2, true)⟩, ⟨some 24, .move (.tmp 0), 188, "parse.go:127", #[⟨2, .guard⟩], some (2, true)⟩, ⟨some 25, .nilCheck (.tmp 24), 0, "parse.go:127", #[⟨5, .data⟩, ⟨2, .guard⟩], some (2, true)⟩, ⟨some 26, .fieldAddr 138 (.tmp 25) 1, 0, "parse.go:127", #[⟨6, .data⟩, ⟨2, .guard⟩], some (2, true)⟩, ⟨some 27, .load 9 (.tmp 26), 9, "parse.go:127", #[⟨7, .data⟩, ⟨2, .guard⟩], some (2, true)⟩, ⟨some 28, .call { callee := .builtin .len, args := #[.tmp 27], argTypes := #[9] }, 3, "parse.go:127", #[⟨8, .data⟩, ⟨2, .guard⟩], some (2, true)⟩, ⟨some 29, .convert 3 29 (.tmp 28), 29, "parse.go:127", #[⟨9, .data⟩, ⟨2, .guard⟩], some (2, true)⟩, ⟨some 30, .call { callee := .value (.func 97), args := #[.tmp 23, .tmp 29], argTypes := #[63, 29] }, 4, "parse.go:127", #[⟨4, .data⟩, ⟨10, .data⟩, ⟨4, .chain⟩, ⟨2, .guard⟩], some (2, true)⟩, ⟨some 31, .unOp .not 4 (.tmp 30), 4, "parse.go:127", #[⟨11, .data⟩, ⟨2, .guard⟩], some (2, true)⟩, ⟨some 32, .pick (.tmp 21) (.tmp 31) (.const (.bool false)), 4, "parse.go:127", #[⟨2, .data⟩, ⟨12, .data⟩], none⟩] true).wp Try.prog Q ⟨#[.pointer (some ⟨P, 0, none⟩), c1, c2, c3, .pointer (some ⟨B, 0, none⟩), c5, c6, c7, c8, c9, c10, c11, c12, c13, c14, c15, c16, c17, c18, c19, c20, c21, c22, c23, c24, c25, c26, c27, c28, c29, c30, c31, c32, c33], []⟩ W := by
  try dsimp only at hQ ⊢
  have HQ := Lib.hid hQ; clear hQ
  refine wp_region_held_drew (S := fun w' => Below W.heap.size W w') (by kernel_rfl) ?_ (fun hHeld => ?_)
  · exact (Below.refl _ _).drew
  have HB := Lib.hid hB; clear hB
  generalize W.drew = W0 at *
  refine wpAnyH_take (i := 0) (oi := ⟨some 19, .load 52 (.tmp 4), 52, "parse.go:127", #[], none⟩) (v := .agg #[.int .u64 (s0 : Nat), .int .u64 (s1 : Nat), .int .u64 (s2 : Nat), .int .u64 (s3 : Nat), .int .u64 (s4 : Nat), .int .u64 (s5 : Nat), .int .u64 (s6 : Nat), .int .u64 (s7 : Nat), .int .u64 (s8 : Nat), .int .u64 (s9 : Nat)]) rfl (by kernel_rfl) (by kernel_rfl) (by kernel_rfl) (fun c a w h => hP c a w _ _ h) (yieldsIf_load_mid (by rfl) 52 _ rfl B 0 rfl [.int .u64 (s0 : Nat), .int .u64 (s1 : Nat), .int .u64 (s2 : Nat), .int .u64 (s3 : Nat), .int .u64 (s4 : Nat), .int .u64 (s5 : Nat), .int .u64 (s6 : Nat), .int .u64 (s7 : Nat), .int .u64 (s8 : Nat), .int .u64 (s9 : Nat)] _ (fun u hu => range_of (heap_low HB.out hu) (by rfl)) Try.underlying52 (by rfl) (by kernel_rfl)) (by assumption) ?_
  try simp only [Act.put, List.setIfInBounds_toArray, List.set_cons_zero, List.set_cons_succ]
  refine wpAnyH_ready (rs := [1]) (by kernel_rfl) (by simp) ?_
  refine AllReadyH.cons (o := ⟨some 20, .call { callee := .value (.func 46), args := #[.tmp 19], argTypes := #[52] }, 4, "parse.go:127", #[⟨0, .data⟩], none⟩) rfl (fun K hK => ?_) AllReadyH.nil
  (first | go_at_call 46 | (go_simp; go_at_call 46))
  refine (HH.out _).mono ?_
  rintro e w3 ⟨rfl, b3⟩
  try go_wp2_with fail
  refine hK.out _ _ ?_ (fun hHeld2 => ?_)
  · exact hHeld.trans (b3.mono hHeld.size)
  clear hK K
  try simp only [Act.put, List.setIfInBounds_toArray, List.set_cons_zero, List.set_cons_succ]
  refine wpAnyH_take (i := 2) (oi := ⟨some 21, .move (.tmp 20), 4, "parse.go:127", #[⟨1, .data⟩, ⟨1, .chain⟩], none⟩) (v := ?_) rfl (by kernel_rfl) (by kernel_rfl) (by kernel_rfl) (fun c a w h => hP c a w _ _ h) (Or.inl ⟨by rfl, ?_⟩) (by assumption) ?_
  rotate_left
  · (intro w hSw; (try dsimp only at hSw); go_simp <;> with_reducible rfl)
  try simp only [Act.put, List.setIfInBounds_toArray, List.set_cons_zero, List.set_cons_succ]
  refine wpAnyH_take (i := 3) (oi := ⟨some 22, .load 52 (.tmp 4), 52, "parse.go:127", #[⟨2, .guard⟩], some (2, true)⟩) (v := undef) rfl (by kernel_rfl) (by kernel_rfl) (by kernel_rfl) (fun c a w h => hP c a w _ _ h) (Or.inr ⟨by rfl, rfl⟩) (by assumption) ?_
  try simp only [Act.put, List.setIfInBounds_toArray, List.set_cons_zero, List.set_cons_succ]
  refine wpAnyH_take (i := 5) (oi := ⟨some 24, .move (.tmp 0), 188, "parse.go:127", #[⟨2, .guard⟩], some (2, true)⟩) (v := undef) rfl (by kernel_rfl) (by kernel_rfl) (by kernel_rfl) (fun c a w h => hP c a w _ _ h) (Or.inr ⟨by rfl, rfl⟩) (by assumption) ?_
  try simp only [Act.put, List.setIfInBounds_toArray, List.set_cons_zero, List.set_cons_succ]
  refine wpAnyH_take (i := 4) (oi := ⟨some 23, .call { callee := .value (.func 60), args := #[.tmp 22], argTypes := #[52] }, 63, "parse.go:127", #[⟨3, .data⟩, ⟨2, .chain⟩, ⟨2, .guard⟩], some (2, true)⟩) (v := undef) rfl (by kernel_rfl) (by kernel_rfl) (by kernel_rfl) (fun c a w h => hP c a w _ _ h) (Or.inr ⟨by rfl, rfl⟩) (by assumption) ?_
  try simp only [Act.put, List.setIfInBounds_toArray, List.set_cons_zero, List.set_cons_succ]
  refine wpAnyH_take (i := 6) (oi := ⟨some 25, .nilCheck (.tmp 24), 0, "parse.go:127", #[⟨5, .data⟩, ⟨2, .guard⟩], some (2, true)⟩) (v := undef) rfl (by kernel_rfl) (by kernel_rfl) (by kernel_rfl) (fun c a w h => hP c a w _ _ h) (Or.inr ⟨by rfl, rfl⟩) (by assumption) ?_
  try simp only [Act.put, List.setIfInBounds_toArray, List.set_cons_zero, List.set_cons_succ]
  refine wpAnyH_take (i := 7) (oi := ⟨some 26, .fieldAddr 138 (.tmp 25) 1, 0, "parse.go:127", #[⟨6, .data⟩, ⟨2, .guard⟩], some (2, true)⟩) (v := undef) rfl (by kernel_rfl) (by kernel_rfl) (by kernel_rfl) (fun c a w h => hP c a w _ _ h) (Or.inr ⟨by rfl, rfl⟩) (by assumption) ?_
  try simp only [Act.put, List.setIfInBounds_toArray, List.set_cons_zero, List.set_cons_succ]
  refine wpAnyH_take (i := 8) (oi := ⟨some 27, .load 9 (.tmp 26), 9, "parse.go:127", #[⟨7, .data⟩, ⟨2, .guard⟩], some (2, true)⟩) (v := undef) rfl (by kernel_rfl) (by kernel_rfl) (by kernel_rfl) (fun c a w h => hP c a w _ _ h) (Or.inr ⟨by rfl, rfl⟩) (by assumption) ?_
  try simp only [Act.put, List.setIfInBounds_toArray, List.set_cons_zero, List.set_cons_succ]
  refine wpAnyH_take (i := 9) (oi := ⟨some 28, .call { callee := .builtin .len, args := #[.tmp 27], argTypes := #[9] }, 3, "parse.go:127", #[⟨8, .data⟩, ⟨2, .guard⟩], some (2, true)⟩) (v := undef) rfl (by kernel_rfl) (by kernel_rfl) (by kernel_rfl) (fun c a w h => hP c a w _ _ h) (Or.inr ⟨by rfl, rfl⟩) (by assumption) ?_
  try simp only [Act.put, List.setIfInBounds_toArray, List.set_cons_zero, List.set_cons_succ]
  refine wpAnyH_take (i := 10) (oi := ⟨some 29, .convert 3 29 (.tmp 28), 29, "parse.go:127", #[⟨9, .data⟩, ⟨2, .guard⟩], some (2, true)⟩) (v := undef) rfl (by kernel_rfl) (by kernel_rfl) (by kernel_rfl) (fun c a w h => hP c a w _ _ h) (Or.inr ⟨by rfl, rfl⟩) (by assumption) ?_
  try simp only [Act.put, List.setIfInBounds_toArray, List.set_cons_zero, List.set_cons_succ]
  refine wpAnyH_take (i := 11) (oi := ⟨some 30, .call { callee := .value (.func 97), args := #[.tmp 23, .tmp 29], argTypes := #[63, 29] }, 4, "parse.go:127", #[⟨4, .data⟩, ⟨10, .data⟩, ⟨4, .chain⟩, ⟨2, .guard⟩], some (2, true)⟩) (v := undef) rfl (by kernel_rfl) (by kernel_rfl) (by kernel_rfl) (fun c a w h => hP c a w _ _ h) (Or.inr ⟨by rfl, rfl⟩) (by assumption) ?_
  try simp only [Act.put, List.setIfInBounds_toArray, List.set_cons_zero, List.set_cons_succ]
  refine wpAnyH_take (i := 12) (oi := ⟨some 31, .unOp .not 4 (.tmp 30), 4, "parse.go:127", #[⟨11, .data⟩, ⟨2, .guard⟩], some (2, true)⟩) (v := undef) rfl (by kernel_rfl) (by kernel_rfl) (by kernel_rfl) (fun c a w h => hP c a w _ _ h) (Or.inr ⟨by rfl, rfl⟩) (by assumption) ?_
  try simp only [Act.put, List.setIfInBounds_toArray, List.set_cons_zero, List.set_cons_succ]
  refine wpAnyH_take (i := 13) (oi := ⟨some 32, .pick (.tmp 21) (.tmp 31) (.const (.bool false)), 4, "parse.go:127", #[⟨2, .data⟩, ⟨12, .data⟩], none⟩) (v := ?_) rfl (by kernel_rfl) (by kernel_rfl) (by kernel_rfl) (fun c a w h => hP c a w _ _ h) (Or.inl ⟨by rfl, ?_⟩) (by assumption) ?_
  rotate_left
  · (intro w hSw; (try dsimp only at hSw); go_simp <;> with_reducible rfl)
  try simp only [Act.put, List.setIfInBounds_toArray, List.set_cons_zero, List.set_cons_succ]
  refine wpAnyH_done (by kernel_rfl) ?_ _
  exact HQ.out _ _ _ _ _ _ _ _ _ _ _ _ _ _ hHeld2
set_option maxRecDepth 1000000 in
set_option maxHeartbeats 4000000 in
theorem creg4 (Q : Exit → Act → World → Prop) (c1 c2 c3 c5 c6 c7 c8 c9 c10 c11 c12 c13 c14 c15 c16 c17 c18 c19 c20 c21 c22 c23 c24 c25 : Value) (P B : Nat) (p0 p1 p2 p3 p4 p5 p6 p7 : Nat) (text : ByteArray) (z : Nat) (r : Bool) (W : World) (hB : W.heap[B]? = some (.cells #[.int .u64 (p0 : Nat), .int .u64 (p1 : Nat), .int .u64 (p2 : Nat), .int .u64 (p3 : Nat), .int .u64 (p4 : Nat), .int .u64 (p5 : Nat), .int .u64 (p6 : Nat), .int .u64 (p7 : Nat)] 72 (0, 0)))
    (HI : Hid (∀ u, Calls Try.prog 97 #[.agg #[.int .u64 (p2 : Nat), .int .u64 (p5 : Nat)], .int .u64 (z : Nat)] u fun e w' => e = .returned (.bool r) ∧ Below u.heap.size u w')) (X0 : Hid (∀ u, Below W.heap.size W u → u.cell? ⟨P, 21, none⟩ = some (.string text))) (zw : IntKind.u64.wrap (text.size : Int) = (z : Int))
    (hP : ∀ c a w i v, Q (.panic c) (a.put (some i) v) w → Q (.panic c) a w)
    (hQ : ∀ (u15 u16 u17 u18 u19 u20 u21 u22 u23 : Value) (w' : World), Below W.heap.size W w' → Q .normal ⟨#[.pointer (some ⟨P, 0, none⟩), c1, c2, c3, .pointer (some ⟨B, 0, none⟩), c5, c6, c7, c8, c9, c10, c11, c12, c13, c14, u15, u16, u17, u18, u19, u20, u21, u22, u23, .bool (!r), c25], []⟩ w') :
    (Code.region 4 #[⟨some 15, .load 72 (.tmp 4), 72, "parse.go:136", #[], none⟩, ⟨some 16, .call { callee := .value (.func 62), args := #[.tmp 15], argTypes := #[72] }, 63, "parse.go:136", #[⟨0, .data⟩], none⟩, ⟨some 17, .move (.tmp 0), 188, "parse.go:136", #[], none⟩, ⟨some 18, .nilCheck (.tmp 17), 0, "parse.go:136", #[⟨2, .data⟩], none⟩, ⟨some 19, .fieldAddr 138 (.tmp 18) 1, 0, "parse.go:136", #[⟨3, .data⟩], none⟩, ⟨some 20, .load 9 (.tmp 19), 9, "parse.go:136", #[⟨4, .data⟩], none⟩, ⟨some 21, .call { callee := .builtin .len, args := #[.tmp 20], argTypes := #[9] }, 3, "parse.go:136", #[⟨5, .data⟩], none⟩, ⟨some 22, .convert 3 29 (.tmp 21), 29, "parse.go:136", #[⟨6, .data⟩], none⟩, ⟨some 23, .call { callee := .value (.func 97), args := #[.tmp 16, .tmp 22], argTypes := #[63, 29] }, 4, "parse.go:136", #[⟨1, .data⟩, ⟨7, .data⟩, ⟨1, .chain⟩], none⟩, ⟨some 24, .unOp .not 4 (.tmp 23), 4, "parse.go:136", #[⟨8, .data⟩], none⟩] true).wp Try.prog Q ⟨#[.pointer (some ⟨P, 0, none⟩), c1, c2, c3, .pointer (some ⟨B, 0, none⟩), c5, c6, c7, c8, c9, c10, c11, c12, c13, c14, c15, c16, c17, c18, c19, c20, c21, c22, c23, c24, c25], []⟩ W := by
  try dsimp only at hQ ⊢
  have HQ := Lib.hid hQ; clear hQ
  refine wp_region_held_drew (S := fun w' => Below W.heap.size W w') (by kernel_rfl) ?_ (fun hHeld => ?_)
  · exact (Below.refl _ _).drew
  have HB := Lib.hid hB; clear hB
  generalize W.drew = W0 at *
  refine wpAnyH_take (i := 0) (oi := ⟨some 15, .load 72 (.tmp 4), 72, "parse.go:136", #[], none⟩) (v := .agg #[.int .u64 (p0 : Nat), .int .u64 (p1 : Nat), .int .u64 (p2 : Nat), .int .u64 (p3 : Nat), .int .u64 (p4 : Nat), .int .u64 (p5 : Nat), .int .u64 (p6 : Nat), .int .u64 (p7 : Nat)]) rfl (by kernel_rfl) (by kernel_rfl) (by kernel_rfl) (fun c a w h => hP c a w _ _ h) (yieldsIf_load_mid (by rfl) 72 _ rfl B 0 rfl [.int .u64 (p0 : Nat), .int .u64 (p1 : Nat), .int .u64 (p2 : Nat), .int .u64 (p3 : Nat), .int .u64 (p4 : Nat), .int .u64 (p5 : Nat), .int .u64 (p6 : Nat), .int .u64 (p7 : Nat)] _ (fun u hu => range_of (heap_low HB.out hu) (by rfl)) Try.underlying72 (by rfl) (by kernel_rfl)) (by assumption) ?_
  try simp only [Act.put, List.setIfInBounds_toArray, List.set_cons_zero, List.set_cons_succ]
  refine wpAnyH_take (i := 2) (oi := ⟨some 17, .move (.tmp 0), 188, "parse.go:136", #[], none⟩) (v := ?_) rfl (by kernel_rfl) (by kernel_rfl) (by kernel_rfl) (fun c a w h => hP c a w _ _ h) (Or.inl ⟨by rfl, ?_⟩) (by assumption) ?_
  rotate_left
  · (intro w hSw; (try dsimp only at hSw); go_simp <;> with_reducible rfl)
  try simp only [Act.put, List.setIfInBounds_toArray, List.set_cons_zero, List.set_cons_succ]
  refine wpAnyH_take (i := 3) (oi := ⟨some 18, .nilCheck (.tmp 17), 0, "parse.go:136", #[⟨2, .data⟩], none⟩) (v := ?_) rfl (by kernel_rfl) (by kernel_rfl) (by kernel_rfl) (fun c a w h => hP c a w _ _ h) (Or.inl ⟨by rfl, ?_⟩) (by assumption) ?_
  rotate_left
  · (intro w hSw; (try dsimp only at hSw); go_simp <;> with_reducible rfl)
  try simp only [Act.put, List.setIfInBounds_toArray, List.set_cons_zero, List.set_cons_succ]
  refine wpAnyH_take (i := 4) (oi := ⟨some 19, .fieldAddr 138 (.tmp 18) 1, 0, "parse.go:136", #[⟨3, .data⟩], none⟩) (v := ?_) rfl (by kernel_rfl) (by kernel_rfl) (by kernel_rfl) (fun c a w h => hP c a w _ _ h) (Or.inl ⟨by rfl, ?_⟩) (by assumption) ?_
  rotate_left
  · (intro w hSw; (try dsimp only at hSw); go_simp <;> with_reducible rfl)
  try simp only [Act.put, List.setIfInBounds_toArray, List.set_cons_zero, List.set_cons_succ]
  refine wpAnyH_take (i := 5) (oi := ⟨some 20, .load 9 (.tmp 19), 9, "parse.go:136", #[⟨4, .data⟩], none⟩) (v := ?_) rfl (by kernel_rfl) (by kernel_rfl) (by kernel_rfl) (fun c a w h => hP c a w _ _ h) (Or.inl ⟨by rfl, ?_⟩) (by assumption) ?_
  rotate_left
  · (intro w hSw; have q0 := X0.out w hSw; (try dsimp only at hSw); go_simp <;> with_reducible rfl)
  try simp only [Act.put, List.setIfInBounds_toArray, List.set_cons_zero, List.set_cons_succ]
  refine wpAnyH_take (i := 6) (oi := ⟨some 21, .call { callee := .builtin .len, args := #[.tmp 20], argTypes := #[9] }, 3, "parse.go:136", #[⟨5, .data⟩], none⟩) (v := ?_) rfl (by kernel_rfl) (by kernel_rfl) (by kernel_rfl) (fun c a w h => hP c a w _ _ h) (Or.inl ⟨by rfl, ?_⟩) (by assumption) ?_
  rotate_left
  · (intro w hSw; (try dsimp only at hSw); go_simp <;> with_reducible rfl)
  try simp only [Act.put, List.setIfInBounds_toArray, List.set_cons_zero, List.set_cons_succ]
  refine wpAnyH_take (i := 7) (oi := ⟨some 22, .convert 3 29 (.tmp 21), 29, "parse.go:136", #[⟨6, .data⟩], none⟩) (v := ?_) rfl (by kernel_rfl) (by kernel_rfl) (by kernel_rfl) (fun c a w h => hP c a w _ _ h) (Or.inl ⟨by rfl, ?_⟩) (by assumption) ?_
  rotate_left
  · (intro w hSw; (try dsimp only at hSw); go_simp <;> with_reducible rfl)
  try simp only [Act.put, List.setIfInBounds_toArray, List.set_cons_zero, List.set_cons_succ]
  refine wpAnyH_ready (rs := [1]) (by kernel_rfl) (by simp) ?_
  refine AllReadyH.cons (o := ⟨some 16, .call { callee := .value (.func 62), args := #[.tmp 15], argTypes := #[72] }, 63, "parse.go:136", #[⟨0, .data⟩], none⟩) rfl (fun K hK => ?_) AllReadyH.nil
  (first | go_at_call 62 | (go_simp; go_at_call 62))
  refine (image_any p0 p1 p2 p3 p4 p5 p6 p7 _).mono ?_
  rintro e w4 ⟨rfl, b4⟩
  try go_wp2_with fail
  refine hK.out _ _ ?_ (fun hHeld2 => ?_)
  · exact hHeld.trans (b4.mono hHeld.size)
  clear hK K
  try simp only [Act.put, List.setIfInBounds_toArray, List.set_cons_zero, List.set_cons_succ]
  refine wpAnyH_ready (rs := [8]) (by kernel_rfl) (by simp) ?_
  refine AllReadyH.cons (o := ⟨some 23, .call { callee := .value (.func 97), args := #[.tmp 16, .tmp 22], argTypes := #[63, 29] }, 4, "parse.go:136", #[⟨1, .data⟩, ⟨7, .data⟩, ⟨1, .chain⟩], none⟩) rfl (fun K hK => ?_) AllReadyH.nil
  (first | go_at_call 97 | (go_simp; go_at_call 97))
  refine (HI.out _).mono ?_
  rintro e w5 ⟨rfl, b5⟩
  try go_wp2_with fail
  refine hK.out _ _ ?_ (fun hHeld3_1 => ?_)
  · exact hHeld2.trans (b5.mono hHeld2.size)
  clear hK K
  try simp only [Act.put, List.setIfInBounds_toArray, List.set_cons_zero, List.set_cons_succ]
  refine wpAnyH_take (i := 9) (oi := ⟨some 24, .unOp .not 4 (.tmp 23), 4, "parse.go:136", #[⟨8, .data⟩], none⟩) (v := ?_) rfl (by kernel_rfl) (by kernel_rfl) (by kernel_rfl) (fun c a w h => hP c a w _ _ h) (Or.inl ⟨by rfl, ?_⟩) (by assumption) ?_
  rotate_left
  · (intro w hSw; (try dsimp only at hSw); go_simp <;> with_reducible rfl)
  try simp only [Act.put, List.setIfInBounds_toArray, List.set_cons_zero, List.set_cons_succ]
  refine wpAnyH_done (by kernel_rfl) ?_ _
  exact HQ.out _ _ _ _ _ _ _ _ _ _ hHeld3_1
end Go.Proofs.Ytedocnidgiglaaa
