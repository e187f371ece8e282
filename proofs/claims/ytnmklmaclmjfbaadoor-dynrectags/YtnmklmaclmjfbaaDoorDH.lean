/- The contract of dynrec's Dynamic. Conditions: those written in each theorem. -/
import Derived.Test.YtnmklmaclmjfbaaDoorDJ
import Derived.Test.YtnmklmaclmjfbaaDoorDB
namespace Go.Proofs.YtnmklmaclmjfbaaDoor
open Go.RowKit
set_option linter.unusedVariables false
theorem only_setRow {R : Nat} {W w : World} {b : Nat} (h : OnlyAt R W w) (hb : W.heap.size ≤ b) (cs : Array Value) : OnlyAt R W (w.setRow b cs) :=
  ⟨h.os, h.tape, h.output, by rw [setRow_size]; exact h.size, fun k hk hn => by rw [setRow_other _ _ _ _ (by omega)]; exact h.block k hk hn⟩
theorem rd_setRow {R : Nat} {w : World} {big : Bool} {s : ByteArray} {p : Nat} {e : Int} {b : Nat} (h : IsRd w R big s p e) (hb : R ≠ b) (cs : Array Value) : IsRd (w.setRow b cs) R big s p e := by
  unfold IsRd at h ⊢
  rw [setRow_other _ _ _ _ hb]
  exact h
theorem word_b (big wide : Bool) (w : World) :
    Calls Tryd.prog 24 #[.agg #[.bool big, .bool wide]] w fun e w' => e = .returned (.int .i64 (wordN wide : Int)) ∧ Below w.heap.size w w' :=
  (word_is big wide w).mono fun e w' ⟨h1, h2⟩ => ⟨h1, by subst h2; exact (Below.refl _ _).alloc (Nat.le_refl _) _⟩
set_option maxRecDepth 1000000 in
set_option maxHeartbeats 4000000 in
theorem dreg3 (Q : Exit → Act → World → Prop) (c0 c1 c3 c4 c5 c6 c8 c9 c10 c11 c12 c13 c14 c15 c16 c17 c18 c19 c20 c21 c22 c23 c24 c25 c26 c27 c28 c29 c30 c31 c32 : Value) (big wide : Bool) (s : ByteArray) (R bx p : Nat) (W : World) (h : IsRd W R big s p 0) (hs : s.size ≤ 1048576) (hw : 1 ≤ wordN wide ∧ wordN wide ≤ 8) (hlt : R < W.heap.size)
    (G0 : Hid (∀ u, OnlyAt R W u → u.cell? ⟨bx, 0, none⟩ = some (.bool big))) (G1 : Hid (∀ u, OnlyAt R W u → u.cell? ⟨bx, 1, none⟩ = some (.bool wide)))
    (hP : ∀ c a w i v, Q (.panic c) (a.put (some i) v) w → Q (.panic c) a w)
    (hQ : ∀ (u13 u14 u15 u16 u17 u18 u19 u20 u21 : Value) (b : Nat) (w' : World), IsRd w' R big s (nxP s (nxP s p (wordN wide) false) (wordN wide) (nxB s p (wordN wide) false)) (errI (nxB s (nxP s p (wordN wide) false) (wordN wide) (nxB s p (wordN wide) false))) → w'.heap[b]? = some (.cells #[.int .u64 ((nxV big s p (wordN wide) false) : Nat), .int .u64 ((nxV big s (nxP s p (wordN wide) false) (wordN wide) (nxB s p (wordN wide) false)) : Nat)] 34 (0, 0)) → OnlyAt R W w' → W.heap.size ≤ b → Q .normal ⟨#[c0, c1, .pointer (some ⟨bx, 0, none⟩), c3, c4, c5, c6, .pointer (some ⟨R, 0, none⟩), .pointer (some ⟨b, 0, none⟩), c9, c10, c11, c12, u13, u14, u15, u16, u17, u18, u19, u20, u21, c22, c23, c24, c25, c26, c27, c28, c29, c30, c31, c32], []⟩ w') :
    (Code.region 3 #[{ dst := some 13, op := Go.Op.move (Go.Operand.tmp 7), type := 75, pos := "dynrec.go:21", after := #[], guard := none }, { dst := some 14, op := Go.Op.load 27 (Go.Operand.tmp 2), type := 27, pos := "dynrec.go:21", after := #[], guard := none }, { dst := some 15, op := Go.Op.call { callee := Go.Callee.value (Go.Operand.func 24), args := #[Go.Operand.tmp 14], argTypes := #[27] }, type := 3, pos := "dynrec.go:21", after := #[{ on := 1, ground := Go.Ground.data }], guard := none }, { dst := some 16, op := Go.Op.call { callee := Go.Callee.value (Go.Operand.func 23), args := #[Go.Operand.tmp 13, Go.Operand.tmp 15], argTypes := #[75, 3] }, type := 31, pos := "dynrec.go:21", after := #[{ on := 0, ground := Go.Ground.data }, { on := 2, ground := Go.Ground.data }, { on := 2, ground := Go.Ground.chain }], guard := none }, { dst := some 17, op := Go.Op.move (Go.Operand.tmp 7), type := 75, pos := "dynrec.go:21", after := #[], guard := none }, { dst := some 18, op := Go.Op.load 27 (Go.Operand.tmp 2), type := 27, pos := "dynrec.go:21", after := #[], guard := none }, { dst := some 19, op := Go.Op.call { callee := Go.Callee.value (Go.Operand.func 24), args := #[Go.Operand.tmp 18], argTypes := #[27] }, type := 3, pos := "dynrec.go:21", after := #[{ on := 5, ground := Go.Ground.data }, { on := 3, ground := Go.Ground.chain }], guard := none }, { dst := some 20, op := Go.Op.call { callee := Go.Callee.value (Go.Operand.func 23), args := #[Go.Operand.tmp 17, Go.Operand.tmp 19], argTypes := #[75, 3] }, type := 31, pos := "dynrec.go:21", after := #[{ on := 4, ground := Go.Ground.data }, { on := 6, ground := Go.Ground.data }, { on := 6, ground := Go.Ground.chain }], guard := none }, { dst := some 21, op := Go.Op.build 34 #[(0, Go.Operand.tmp 16), (1, Go.Operand.tmp 20)], type := 34, pos := "dynrec.go:21", after := #[{ on := 3, ground := Go.Ground.data }, { on := 7, ground := Go.Ground.data }], guard := none }, { dst := some 8, op := Go.Op.alloc 34, type := 0, pos := "dynrec.go:21", after := #[], guard := none }, { dst := none, op := Go.Op.store 34 (Go.Operand.tmp 8) (Go.Operand.tmp 21), type := 0, pos := "dynrec.go:21", after := #[{ on := 9, ground := Go.Ground.data }, { on := 8, ground := Go.Ground.data }, { on := 7, ground := Go.Ground.chain }, { on := 0, ground := Go.Ground.phase }, { on := 1, ground := Go.Ground.phase }, { on := 2, ground := Go.Ground.phase }, { on := 3, ground := Go.Ground.phase }, { on := 4, ground := Go.Ground.phase }, { on := 5, ground := Go.Ground.phase }, { on := 6, ground := Go.Ground.phase }, { on := 7, ground := Go.Ground.phase }, { on := 8, ground := Go.Ground.phase }, { on := 9, ground := Go.Ground.phase }], guard := none }] true).wp Tryd.prog Q ⟨#[c0, c1, .pointer (some ⟨bx, 0, none⟩), c3, c4, c5, c6, .pointer (some ⟨R, 0, none⟩), c8, c9, c10, c11, c12, c13, c14, c15, c16, c17, c18, c19, c20, c21, c22, c23, c24, c25, c26, c27, c28, c29, c30, c31, c32], []⟩ W := by
  dsimp only at hQ ⊢
  have HQ := Lib.hid hQ; clear hQ
  refine wp_region_held_drew (S := fun w' => OnlyAt R W w') (by kernel_rfl) ?_ (fun hHeld => ?_)
  · exact (OnlyAt.refl _ _).drew
  have HI_ := Lib.hid (h.only (Below.refl W.heap.size W).drew)
  generalize W.drew = W0 at *
  refine wpAnyH_take (i := 0) (oi := { dst := some 13, op := Go.Op.move (Go.Operand.tmp 7), type := 75, pos := "dynrec.go:21", after := #[], guard := none }) (v := ?_) rfl (by kernel_rfl) (by kernel_rfl) (by kernel_rfl) (fun c a w h => hP c a w _ _ h) (Or.inl ⟨by rfl, ?_⟩) (by assumption) ?_
  rotate_left
  · (intro w hSw; (try dsimp only at hSw); go_simp <;> with_reducible rfl)
  try simp only [Act.put, List.setIfInBounds_toArray, List.set_cons_zero, List.set_cons_succ]
  refine wpAnyH_take (i := 1) (oi := { dst := some 14, op := Go.Op.load 27 (Go.Operand.tmp 2), type := 27, pos := "dynrec.go:21", after := #[], guard := none }) (v := ?_) rfl (by kernel_rfl) (by kernel_rfl) (by kernel_rfl) (fun c a w h => hP c a w _ _ h) (Or.inl ⟨by rfl, ?_⟩) (by assumption) ?_
  rotate_left
  · (intro w hSw; have q0 := G0.out w hSw; have q1 := G1.out w hSw; (try dsimp only at hSw); go_simp <;> with_reducible rfl)
  try simp only [Act.put, List.setIfInBounds_toArray, List.set_cons_zero, List.set_cons_succ]
  refine wpAnyH_take (i := 4) (oi := { dst := some 17, op := Go.Op.move (Go.Operand.tmp 7), type := 75, pos := "dynrec.go:21", after := #[], guard := none }) (v := ?_) rfl (by kernel_rfl) (by kernel_rfl) (by kernel_rfl) (fun c a w h => hP c a w _ _ h) (Or.inl ⟨by rfl, ?_⟩) (by assumption) ?_
  rotate_left
  · (intro w hSw; (try dsimp only at hSw); go_simp <;> with_reducible rfl)
  try simp only [Act.put, List.setIfInBounds_toArray, List.set_cons_zero, List.set_cons_succ]
  refine wpAnyH_take (i := 5) (oi := { dst := some 18, op := Go.Op.load 27 (Go.Operand.tmp 2), type := 27, pos := "dynrec.go:21", after := #[], guard := none }) (v := ?_) rfl (by kernel_rfl) (by kernel_rfl) (by kernel_rfl) (fun c a w h => hP c a w _ _ h) (Or.inl ⟨by rfl, ?_⟩) (by assumption) ?_
  rotate_left
  · (intro w hSw; have q0 := G0.out w hSw; have q1 := G1.out w hSw; (try dsimp only at hSw); go_simp <;> with_reducible rfl)
  try simp only [Act.put, List.setIfInBounds_toArray, List.set_cons_zero, List.set_cons_succ]
  refine wpAnyH_ready (rs := [2, 9]) (by kernel_rfl) (by simp) ?_
  refine (AllReadyH.cons (o := { dst := some 15, op := Go.Op.call { callee := Go.Callee.value (Go.Operand.func 24), args := #[Go.Operand.tmp 14], argTypes := #[27] }, type := 3, pos := "dynrec.go:21", after := #[{ on := 1, ground := Go.Ground.data }], guard := none }) rfl (fun K hK => ?_) (AllReadyH.cons (o := { dst := some 8, op := Go.Op.alloc 34, type := 0, pos := "dynrec.go:21", after := #[], guard := none }) rfl (fun K hK => ?_) AllReadyH.nil))
  · (first | go_at_call 24 | (go_simp; go_at_call 24))
    refine (word_b big wide _).mono ?_
    rintro e w_2 ⟨rfl, h_2⟩
    have HI_2 := Lib.hid (HI_.out.only h_2)
    try go_wp2_with fail
    refine hK.out _ _ ?_ (fun hHeld2 => ?_)
    · exact hHeld.trans (OnlyAt.of_below h_2)
    clear hK K
    try simp only [Act.put, List.setIfInBounds_toArray, List.set_cons_zero, List.set_cons_succ]
    refine wpAnyH_ready (rs := [3, 9]) (by kernel_rfl) (by simp) ?_
    refine (AllReadyH.cons (o := { dst := some 16, op := Go.Op.call { callee := Go.Callee.value (Go.Operand.func 23), args := #[Go.Operand.tmp 13, Go.Operand.tmp 15], argTypes := #[75, 3] }, type := 31, pos := "dynrec.go:21", after := #[{ on := 0, ground := Go.Ground.data }, { on := 2, ground := Go.Ground.data }, { on := 2, ground := Go.Ground.chain }], guard := none }) rfl (fun K hK => ?_) (AllReadyH.cons (o := { dst := some 8, op := Go.Op.alloc 34, type := 0, pos := "dynrec.go:21", after := #[], guard := none }) rfl (fun K hK => ?_) AllReadyH.nil))
    · (first | go_at_call 23 | (go_simp; go_at_call 23))
      refine (next_fn R big s p (wordN wide) false _ HI_2.out hs hw.1 hw.2).mono ?_
      rintro e w_2_3 ⟨rfl, i_2_3, o_2_3⟩
      have HI_2_3 := Lib.hid i_2_3
      try go_wp2_with fail
      refine hK.out _ _ ?_ (fun hHeld3_2 => ?_)
      · exact hHeld2.trans o_2_3
      clear hK K
      try simp only [Act.put, List.setIfInBounds_toArray, List.set_cons_zero, List.set_cons_succ]
      refine wpAnyH_ready (rs := [6, 9]) (by kernel_rfl) (by simp) ?_
      refine (AllReadyH.cons (o := { dst := some 19, op := Go.Op.call { callee := Go.Callee.value (Go.Operand.func 24), args := #[Go.Operand.tmp 18], argTypes := #[27] }, type := 3, pos := "dynrec.go:21", after := #[{ on := 5, ground := Go.Ground.data }, { on := 3, ground := Go.Ground.chain }], guard := none }) rfl (fun K hK => ?_) (AllReadyH.cons (o := { dst := some 8, op := Go.Op.alloc 34, type := 0, pos := "dynrec.go:21", after := #[], guard := none }) rfl (fun K hK => ?_) AllReadyH.nil))
      · (first | go_at_call 24 | (go_simp; go_at_call 24))
        refine (word_b big wide _).mono ?_
        rintro e w_2_3_6 ⟨rfl, h_2_3_6⟩
        have HI_2_3_6 := Lib.hid (HI_2_3.out.only h_2_3_6)
        try go_wp2_with fail
        refine hK.out _ _ ?_ (fun hHeld4_2_3 => ?_)
        · exact hHeld3_2.trans (OnlyAt.of_below h_2_3_6)
        clear hK K
        try simp only [Act.put, List.setIfInBounds_toArray, List.set_cons_zero, List.set_cons_succ]
        refine wpAnyH_ready (rs := [7, 9]) (by kernel_rfl) (by simp) ?_
        refine (AllReadyH.cons (o := { dst := some 20, op := Go.Op.call { callee := Go.Callee.value (Go.Operand.func 23), args := #[Go.Operand.tmp 17, Go.Operand.tmp 19], argTypes := #[75, 3] }, type := 31, pos := "dynrec.go:21", after := #[{ on := 4, ground := Go.Ground.data }, { on := 6, ground := Go.Ground.data }, { on := 6, ground := Go.Ground.chain }], guard := none }) rfl (fun K hK => ?_) (AllReadyH.cons (o := { dst := some 8, op := Go.Op.alloc 34, type := 0, pos := "dynrec.go:21", after := #[], guard := none }) rfl (fun K hK => ?_) AllReadyH.nil))
        · (first | go_at_call 23 | (go_simp; go_at_call 23))
          refine (next_fn R big s (nxP s p (wordN wide) false) (wordN wide) (nxB s p (wordN wide) false) _ HI_2_3_6.out hs hw.1 hw.2).mono ?_
          rintro e w_2_3_6_7 ⟨rfl, i_2_3_6_7, o_2_3_6_7⟩
          have HI_2_3_6_7 := Lib.hid i_2_3_6_7
          try go_wp2_with fail
          refine hK.out _ _ ?_ (fun hHeld5_2_3_6 => ?_)
          · exact hHeld4_2_3.trans o_2_3_6_7
          clear hK K
          try simp only [Act.put, List.setIfInBounds_toArray, List.set_cons_zero, List.set_cons_succ]
          refine wpAnyH_take (i := 8) (oi := { dst := some 21, op := Go.Op.build 34 #[(0, Go.Operand.tmp 16), (1, Go.Operand.tmp 20)], type := 34, pos := "dynrec.go:21", after := #[{ on := 3, ground := Go.Ground.data }, { on := 7, ground := Go.Ground.data }], guard := none }) (v := ?_) rfl (by kernel_rfl) (by kernel_rfl) (by kernel_rfl) (fun c a w h => hP c a w _ _ h) (Or.inl ⟨by rfl, ?_⟩) (by assumption) ?_
          rotate_left
          · (intro w hSw; (try dsimp only at hSw); go_simp <;> with_reducible rfl)
          try simp only [Act.put, List.setIfInBounds_toArray, List.set_cons_zero, List.set_cons_succ]
          refine wpAnyH_ready (rs := [9]) (by kernel_rfl) (by simp) ?_
          refine AllReadyH.cons (o := { dst := some 8, op := Go.Op.alloc 34, type := 0, pos := "dynrec.go:21", after := #[], guard := none }) rfl (fun K hK => ?_) AllReadyH.nil
          try go_simp
          have HI_2_3_6_7_9 := Lib.hid (HI_2_3_6_7.out.only ((Below.refl _ w_2_3_6_7).alloc (Nat.le_refl _) (.cells #[.int .u64 0, .int .u64 0] 34)))
          have HR_2_3_6_7_9 : Hid ((w_2_3_6_7.alloc (.cells #[.int .u64 0, .int .u64 0] 34)).heap[w_2_3_6_7.heap.size]? = some (.cells #[.int .u64 0, .int .u64 0] 34 (0, 0))) := Lib.hid (heap_alloc_new _ _)
          have hNE_2_3_6_7_9 : W.heap.size ≤ w_2_3_6_7.heap.size ∧ R < W.heap.size := ⟨hHeld5_2_3_6.size, hlt⟩
          refine hK.out _ _ ?_ (fun hHeld6_2_3_6_7 => ?_)
          · exact hHeld5_2_3_6.trans (OnlyAt.of_below ((Below.refl _ _).alloc (Nat.le_refl _) _))
          clear hK K
          try simp only [Act.put, List.setIfInBounds_toArray, List.set_cons_zero, List.set_cons_succ]
          refine wpAnyH_ready (rs := [10]) (by kernel_rfl) (by simp) ?_
          refine AllReadyH.cons (o := { dst := none, op := Go.Op.store 34 (Go.Operand.tmp 8) (Go.Operand.tmp 21), type := 0, pos := "dynrec.go:21", after := #[{ on := 9, ground := Go.Ground.data }, { on := 8, ground := Go.Ground.data }, { on := 7, ground := Go.Ground.chain }, { on := 0, ground := Go.Ground.phase }, { on := 1, ground := Go.Ground.phase }, { on := 2, ground := Go.Ground.phase }, { on := 3, ground := Go.Ground.phase }, { on := 4, ground := Go.Ground.phase }, { on := 5, ground := Go.Ground.phase }, { on := 6, ground := Go.Ground.phase }, { on := 7, ground := Go.Ground.phase }, { on := 8, ground := Go.Ground.phase }, { on := 9, ground := Go.Ground.phase }], guard := none }) rfl (fun K hK => ?_) AllReadyH.nil
          refine wp_store_row 34 _ _ rfl (w_2_3_6_7.heap.size) #[.int .u64 ((nxV big s p (wordN wide) false) : Nat), .int .u64 ((nxV big s (nxP s p (wordN wide) false) (wordN wide) (nxB s p (wordN wide) false)) : Nat)] (by rfl) (by rfl) 34 #[.int .u64 0, .int .u64 0] HR_2_3_6_7_9.out (by kernel_rfl) rfl (by simp [Value.oneCell']) ?_
          refine hK.out _ _ ?_ (fun hHeld7_2_3_6_7_9 => ?_)
          · exact only_setRow hHeld6_2_3_6_7 hNE_2_3_6_7_9.1 _
          clear hK K
          try simp only [Act.put]
          refine wpAnyH_done (by kernel_rfl) ?_ _
          exact HQ.out _ _ _ _ _ _ _ _ _ (w_2_3_6_7.heap.size) _ (rd_setRow HI_2_3_6_7_9.out (by have := hNE_2_3_6_7_9; omega) _) (setRow_heap _ _ #[.int .u64 0, .int .u64 0] _ _ _ HR_2_3_6_7_9.out) hHeld7_2_3_6_7_9 hNE_2_3_6_7_9.1
        · try go_simp
          have HI_2_3_6_9 := Lib.hid (HI_2_3_6.out.only ((Below.refl _ w_2_3_6).alloc (Nat.le_refl _) (.cells #[.int .u64 0, .int .u64 0] 34)))
          have HR_2_3_6_9 : Hid ((w_2_3_6.alloc (.cells #[.int .u64 0, .int .u64 0] 34)).heap[w_2_3_6.heap.size]? = some (.cells #[.int .u64 0, .int .u64 0] 34 (0, 0))) := Lib.hid (heap_alloc_new _ _)
          have hNE_2_3_6_9 : W.heap.size ≤ w_2_3_6.heap.size ∧ R < W.heap.size := ⟨hHeld4_2_3.size, hlt⟩
          refine hK.out _ _ ?_ (fun hHeld5_2_3_6 => ?_)
          · exact hHeld4_2_3.trans (OnlyAt.of_below ((Below.refl _ _).alloc (Nat.le_refl _) _))
          clear hK K
          try simp only [Act.put, List.setIfInBounds_toArray, List.set_cons_zero, List.set_cons_succ]
          refine wpAnyH_ready (rs := [7]) (by kernel_rfl) (by simp) ?_
          refine AllReadyH.cons (o := { dst := some 20, op := Go.Op.call { callee := Go.Callee.value (Go.Operand.func 23), args := #[Go.Operand.tmp 17, Go.Operand.tmp 19], argTypes := #[75, 3] }, type := 31, pos := "dynrec.go:21", after := #[{ on := 4, ground := Go.Ground.data }, { on := 6, ground := Go.Ground.data }, { on := 6, ground := Go.Ground.chain }], guard := none }) rfl (fun K hK => ?_) AllReadyH.nil
          (first | go_at_call 23 | (go_simp; go_at_call 23))
          refine (next_fn R big s (nxP s p (wordN wide) false) (wordN wide) (nxB s p (wordN wide) false) _ HI_2_3_6_9.out hs hw.1 hw.2).mono ?_
          rintro e w_2_3_6_9_7 ⟨rfl, i_2_3_6_9_7, o_2_3_6_9_7⟩
          have HI_2_3_6_9_7 := Lib.hid i_2_3_6_9_7
          have HR_2_3_6_9_7 : Hid (w_2_3_6_9_7.heap[w_2_3_6.heap.size]? = some (.cells #[.int .u64 0, .int .u64 0] 34 (0, 0))) := Lib.hid (by rw [o_2_3_6_9_7.block _ (Array.getElem?_eq_some_iff.1 HR_2_3_6_9.out).1 (by have := hNE_2_3_6_9; omega)]; exact HR_2_3_6_9.out)
          try go_wp2_with fail
          refine hK.out _ _ ?_ (fun hHeld6_2_3_6_9 => ?_)
          · exact hHeld5_2_3_6.trans o_2_3_6_9_7
          clear hK K
          try simp only [Act.put, List.setIfInBounds_toArray, List.set_cons_zero, List.set_cons_succ]
          refine wpAnyH_take (i := 8) (oi := { dst := some 21, op := Go.Op.build 34 #[(0, Go.Operand.tmp 16), (1, Go.Operand.tmp 20)], type := 34, pos := "dynrec.go:21", after := #[{ on := 3, ground := Go.Ground.data }, { on := 7, ground := Go.Ground.data }], guard := none }) (v := ?_) rfl (by kernel_rfl) (by kernel_rfl) (by kernel_rfl) (fun c a w h => hP c a w _ _ h) (Or.inl ⟨by rfl, ?_⟩) (by assumption) ?_
          rotate_left
          · (intro w hSw; (try dsimp only at hSw); go_simp <;> with_reducible rfl)
          try simp only [Act.put, List.setIfInBounds_toArray, List.set_cons_zero, List.set_cons_succ]
          refine wpAnyH_ready (rs := [10]) (by kernel_rfl) (by simp) ?_
          refine AllReadyH.cons (o := { dst := none, op := Go.Op.store 34 (Go.Operand.tmp 8) (Go.Operand.tmp 21), type := 0, pos := "dynrec.go:21", after := #[{ on := 9, ground := Go.Ground.data }, { on := 8, ground := Go.Ground.data }, { on := 7, ground := Go.Ground.chain }, { on := 0, ground := Go.Ground.phase }, { on := 1, ground := Go.Ground.phase }, { on := 2, ground := Go.Ground.phase }, { on := 3, ground := Go.Ground.phase }, { on := 4, ground := Go.Ground.phase }, { on := 5, ground := Go.Ground.phase }, { on := 6, ground := Go.Ground.phase }, { on := 7, ground := Go.Ground.phase }, { on := 8, ground := Go.Ground.phase }, { on := 9, ground := Go.Ground.phase }], guard := none }) rfl (fun K hK => ?_) AllReadyH.nil
          refine wp_store_row 34 _ _ rfl (w_2_3_6.heap.size) #[.int .u64 ((nxV big s p (wordN wide) false) : Nat), .int .u64 ((nxV big s (nxP s p (wordN wide) false) (wordN wide) (nxB s p (wordN wide) false)) : Nat)] (by rfl) (by rfl) 34 #[.int .u64 0, .int .u64 0] HR_2_3_6_9_7.out (by kernel_rfl) rfl (by simp [Value.oneCell']) ?_
          refine hK.out _ _ ?_ (fun hHeld7_2_3_6_9_7 => ?_)
          · exact only_setRow hHeld6_2_3_6_9 hNE_2_3_6_9.1 _
          clear hK K
          try simp only [Act.put]
          refine wpAnyH_done (by kernel_rfl) ?_ _
          exact HQ.out _ _ _ _ _ _ _ _ _ (w_2_3_6.heap.size) _ (rd_setRow HI_2_3_6_9_7.out (by have := hNE_2_3_6_9; omega) _) (setRow_heap _ _ #[.int .u64 0, .int .u64 0] _ _ _ HR_2_3_6_9_7.out) hHeld7_2_3_6_9_7 hNE_2_3_6_9.1
      · try go_simp
        have HI_2_3_9 := Lib.hid (HI_2_3.out.only ((Below.refl _ w_2_3).alloc (Nat.le_refl _) (.cells #[.int .u64 0, .int .u64 0] 34)))
        have HR_2_3_9 : Hid ((w_2_3.alloc (.cells #[.int .u64 0, .int .u64 0] 34)).heap[w_2_3.heap.size]? = some (.cells #[.int .u64 0, .int .u64 0] 34 (0, 0))) := Lib.hid (heap_alloc_new _ _)
        have hNE_2_3_9 : W.heap.size ≤ w_2_3.heap.size ∧ R < W.heap.size := ⟨hHeld3_2.size, hlt⟩
        refine hK.out _ _ ?_ (fun hHeld4_2_3 => ?_)
        · exact hHeld3_2.trans (OnlyAt.of_below ((Below.refl _ _).alloc (Nat.le_refl _) _))
        clear hK K
        try simp only [Act.put, List.setIfInBounds_toArray, List.set_cons_zero, List.set_cons_succ]
        refine wpAnyH_ready (rs := [6]) (by kernel_rfl) (by simp) ?_
        refine AllReadyH.cons (o := { dst := some 19, op := Go.Op.call { callee := Go.Callee.value (Go.Operand.func 24), args := #[Go.Operand.tmp 18], argTypes := #[27] }, type := 3, pos := "dynrec.go:21", after := #[{ on := 5, ground := Go.Ground.data }, { on := 3, ground := Go.Ground.chain }], guard := none }) rfl (fun K hK => ?_) AllReadyH.nil
        (first | go_at_call 24 | (go_simp; go_at_call 24))
        refine (word_b big wide _).mono ?_
        rintro e w_2_3_9_6 ⟨rfl, h_2_3_9_6⟩
        have HI_2_3_9_6 := Lib.hid (HI_2_3_9.out.only h_2_3_9_6)
        have HR_2_3_9_6 : Hid (w_2_3_9_6.heap[w_2_3.heap.size]? = some (.cells #[.int .u64 0, .int .u64 0] 34 (0, 0))) := Lib.hid (by rw [h_2_3_9_6.block _ (Array.getElem?_eq_some_iff.1 HR_2_3_9.out).1]; exact HR_2_3_9.out)
        try go_wp2_with fail
        refine hK.out _ _ ?_ (fun hHeld5_2_3_9 => ?_)
        · exact hHeld4_2_3.trans (OnlyAt.of_below h_2_3_9_6)
        clear hK K
        try simp only [Act.put, List.setIfInBounds_toArray, List.set_cons_zero, List.set_cons_succ]
        refine wpAnyH_ready (rs := [7]) (by kernel_rfl) (by simp) ?_
        refine AllReadyH.cons (o := { dst := some 20, op := Go.Op.call { callee := Go.Callee.value (Go.Operand.func 23), args := #[Go.Operand.tmp 17, Go.Operand.tmp 19], argTypes := #[75, 3] }, type := 31, pos := "dynrec.go:21", after := #[{ on := 4, ground := Go.Ground.data }, { on := 6, ground := Go.Ground.data }, { on := 6, ground := Go.Ground.chain }], guard := none }) rfl (fun K hK => ?_) AllReadyH.nil
        (first | go_at_call 23 | (go_simp; go_at_call 23))
        refine (next_fn R big s (nxP s p (wordN wide) false) (wordN wide) (nxB s p (wordN wide) false) _ HI_2_3_9_6.out hs hw.1 hw.2).mono ?_
        rintro e w_2_3_9_6_7 ⟨rfl, i_2_3_9_6_7, o_2_3_9_6_7⟩
        have HI_2_3_9_6_7 := Lib.hid i_2_3_9_6_7
        have HR_2_3_9_6_7 : Hid (w_2_3_9_6_7.heap[w_2_3.heap.size]? = some (.cells #[.int .u64 0, .int .u64 0] 34 (0, 0))) := Lib.hid (by rw [o_2_3_9_6_7.block _ (Array.getElem?_eq_some_iff.1 HR_2_3_9_6.out).1 (by have := hNE_2_3_9; omega)]; exact HR_2_3_9_6.out)
        try go_wp2_with fail
        refine hK.out _ _ ?_ (fun hHeld6_2_3_9_6 => ?_)
        · exact hHeld5_2_3_9.trans o_2_3_9_6_7
        clear hK K
        try simp only [Act.put, List.setIfInBounds_toArray, List.set_cons_zero, List.set_cons_succ]
        refine wpAnyH_take (i := 8) (oi := { dst := some 21, op := Go.Op.build 34 #[(0, Go.Operand.tmp 16), (1, Go.Operand.tmp 20)], type := 34, pos := "dynrec.go:21", after := #[{ on := 3, ground := Go.Ground.data }, { on := 7, ground := Go.Ground.data }], guard := none }) (v := ?_) rfl (by kernel_rfl) (by kernel_rfl) (by kernel_rfl) (fun c a w h => hP c a w _ _ h) (Or.inl ⟨by rfl, ?_⟩) (by assumption) ?_
        rotate_left
        · (intro w hSw; (try dsimp only at hSw); go_simp <;> with_reducible rfl)
        try simp only [Act.put, List.setIfInBounds_toArray, List.set_cons_zero, List.set_cons_succ]
        refine wpAnyH_ready (rs := [10]) (by kernel_rfl) (by simp) ?_
        refine AllReadyH.cons (o := { dst := none, op := Go.Op.store 34 (Go.Operand.tmp 8) (Go.Operand.tmp 21), type := 0, pos := "dynrec.go:21", after := #[{ on := 9, ground := Go.Ground.data }, { on := 8, ground := Go.Ground.data }, { on := 7, ground := Go.Ground.chain }, { on := 0, ground := Go.Ground.phase }, { on := 1, ground := Go.Ground.phase }, { on := 2, ground := Go.Ground.phase }, { on := 3, ground := Go.Ground.phase }, { on := 4, ground := Go.Ground.phase }, { on := 5, ground := Go.Ground.phase }, { on := 6, ground := Go.Ground.phase }, { on := 7, ground := Go.Ground.phase }, { on := 8, ground := Go.Ground.phase }, { on := 9, ground := Go.Ground.phase }], guard := none }) rfl (fun K hK => ?_) AllReadyH.nil
        refine wp_store_row 34 _ _ rfl (w_2_3.heap.size) #[.int .u64 ((nxV big s p (wordN wide) false) : Nat), .int .u64 ((nxV big s (nxP s p (wordN wide) false) (wordN wide) (nxB s p (wordN wide) false)) : Nat)] (by rfl) (by rfl) 34 #[.int .u64 0, .int .u64 0] HR_2_3_9_6_7.out (by kernel_rfl) rfl (by simp [Value.oneCell']) ?_
        refine hK.out _ _ ?_ (fun hHeld7_2_3_9_6_7 => ?_)
        · exact only_setRow hHeld6_2_3_9_6 hNE_2_3_9.1 _
        clear hK K
        try simp only [Act.put]
        refine wpAnyH_done (by kernel_rfl) ?_ _
        exact HQ.out _ _ _ _ _ _ _ _ _ (w_2_3.heap.size) _ (rd_setRow HI_2_3_9_6_7.out (by have := hNE_2_3_9; omega) _) (setRow_heap _ _ #[.int .u64 0, .int .u64 0] _ _ _ HR_2_3_9_6_7.out) hHeld7_2_3_9_6_7 hNE_2_3_9.1
    · try go_simp
      have HI_2_9 := Lib.hid (HI_2.out.only ((Below.refl _ w_2).alloc (Nat.le_refl _) (.cells #[.int .u64 0, .int .u64 0] 34)))
      have HR_2_9 : Hid ((w_2.alloc (.cells #[.int .u64 0, .int .u64 0] 34)).heap[w_2.heap.size]? = some (.cells #[.int .u64 0, .int .u64 0] 34 (0, 0))) := Lib.hid (heap_alloc_new _ _)
      have hNE_2_9 : W.heap.size ≤ w_2.heap.size ∧ R < W.heap.size := ⟨hHeld2.size, hlt⟩
      refine hK.out _ _ ?_ (fun hHeld3_2 => ?_)
      · exact hHeld2.trans (OnlyAt.of_below ((Below.refl _ _).alloc (Nat.le_refl _) _))
      clear hK K
      try simp only [Act.put, List.setIfInBounds_toArray, List.set_cons_zero, List.set_cons_succ]
      refine wpAnyH_ready (rs := [3]) (by kernel_rfl) (by simp) ?_
      refine AllReadyH.cons (o := { dst := some 16, op := Go.Op.call { callee := Go.Callee.value (Go.Operand.func 23), args := #[Go.Operand.tmp 13, Go.Operand.tmp 15], argTypes := #[75, 3] }, type := 31, pos := "dynrec.go:21", after := #[{ on := 0, ground := Go.Ground.data }, { on := 2, ground := Go.Ground.data }, { on := 2, ground := Go.Ground.chain }], guard := none }) rfl (fun K hK => ?_) AllReadyH.nil
      (first | go_at_call 23 | (go_simp; go_at_call 23))
      refine (next_fn R big s p (wordN wide) false _ HI_2_9.out hs hw.1 hw.2).mono ?_
      rintro e w_2_9_3 ⟨rfl, i_2_9_3, o_2_9_3⟩
      have HI_2_9_3 := Lib.hid i_2_9_3
      have HR_2_9_3 : Hid (w_2_9_3.heap[w_2.heap.size]? = some (.cells #[.int .u64 0, .int .u64 0] 34 (0, 0))) := Lib.hid (by rw [o_2_9_3.block _ (Array.getElem?_eq_some_iff.1 HR_2_9.out).1 (by have := hNE_2_9; omega)]; exact HR_2_9.out)
      try go_wp2_with fail
      refine hK.out _ _ ?_ (fun hHeld4_2_9 => ?_)
      · exact hHeld3_2.trans o_2_9_3
      clear hK K
      try simp only [Act.put, List.setIfInBounds_toArray, List.set_cons_zero, List.set_cons_succ]
      refine wpAnyH_ready (rs := [6]) (by kernel_rfl) (by simp) ?_
      refine AllReadyH.cons (o := { dst := some 19, op := Go.Op.call { callee := Go.Callee.value (Go.Operand.func 24), args := #[Go.Operand.tmp 18], argTypes := #[27] }, type := 3, pos := "dynrec.go:21", after := #[{ on := 5, ground := Go.Ground.data }, { on := 3, ground := Go.Ground.chain }], guard := none }) rfl (fun K hK => ?_) AllReadyH.nil
      (first | go_at_call 24 | (go_simp; go_at_call 24))
      refine (word_b big wide _).mono ?_
      rintro e w_2_9_3_6 ⟨rfl, h_2_9_3_6⟩
      have HI_2_9_3_6 := Lib.hid (HI_2_9_3.out.only h_2_9_3_6)
      have HR_2_9_3_6 : Hid (w_2_9_3_6.heap[w_2.heap.size]? = some (.cells #[.int .u64 0, .int .u64 0] 34 (0, 0))) := Lib.hid (by rw [h_2_9_3_6.block _ (Array.getElem?_eq_some_iff.1 HR_2_9_3.out).1]; exact HR_2_9_3.out)
      try go_wp2_with fail
      refine hK.out _ _ ?_ (fun hHeld5_2_9_3 => ?_)
      · exact hHeld4_2_9.trans (OnlyAt.of_below h_2_9_3_6)
      clear hK K
      try simp only [Act.put, List.setIfInBounds_toArray, List.set_cons_zero, List.set_cons_succ]
      refine wpAnyH_ready (rs := [7]) (by kernel_rfl) (by simp) ?_
      refine AllReadyH.cons (o := { dst := some 20, op := Go.Op.call { callee := Go.Callee.value (Go.Operand.func 23), args := #[Go.Operand.tmp 17, Go.Operand.tmp 19], argTypes := #[75, 3] }, type := 31, pos := "dynrec.go:21", after := #[{ on := 4, ground := Go.Ground.data }, { on := 6, ground := Go.Ground.data }, { on := 6, ground := Go.Ground.chain }], guard := none }) rfl (fun K hK => ?_) AllReadyH.nil
      (first | go_at_call 23 | (go_simp; go_at_call 23))
      refine (next_fn R big s (nxP s p (wordN wide) false) (wordN wide) (nxB s p (wordN wide) false) _ HI_2_9_3_6.out hs hw.1 hw.2).mono ?_
      rintro e w_2_9_3_6_7 ⟨rfl, i_2_9_3_6_7, o_2_9_3_6_7⟩
      have HI_2_9_3_6_7 := Lib.hid i_2_9_3_6_7
      have HR_2_9_3_6_7 : Hid (w_2_9_3_6_7.heap[w_2.heap.size]? = some (.cells #[.int .u64 0, .int .u64 0] 34 (0, 0))) := Lib.hid (by rw [o_2_9_3_6_7.block _ (Array.getElem?_eq_some_iff.1 HR_2_9_3_6.out).1 (by have := hNE_2_9; omega)]; exact HR_2_9_3_6.out)
      try go_wp2_with fail
      refine hK.out _ _ ?_ (fun hHeld6_2_9_3_6 => ?_)
      · exact hHeld5_2_9_3.trans o_2_9_3_6_7
      clear hK K
      try simp only [Act.put, List.setIfInBounds_toArray, List.set_cons_zero, List.set_cons_succ]
      refine wpAnyH_take (i := 8) (oi := { dst := some 21, op := Go.Op.build 34 #[(0, Go.Operand.tmp 16), (1, Go.Operand.tmp 20)], type := 34, pos := "dynrec.go:21", after := #[{ on := 3, ground := Go.Ground.data }, { on := 7, ground := Go.Ground.data }], guard := none }) (v := ?_) rfl (by kernel_rfl) (by kernel_rfl) (by kernel_rfl) (fun c a w h => hP c a w _ _ h) (Or.inl ⟨by rfl, ?_⟩) (by assumption) ?_
      rotate_left
      · (intro w hSw; (try dsimp only at hSw); go_simp <;> with_reducible rfl)
      try simp only [Act.put, List.setIfInBounds_toArray, List.set_cons_zero, List.set_cons_succ]
      refine wpAnyH_ready (rs := [10]) (by kernel_rfl) (by simp) ?_
      refine AllReadyH.cons (o := { dst := none, op := Go.Op.store 34 (Go.Operand.tmp 8) (Go.Operand.tmp 21), type := 0, pos := "dynrec.go:21", after := #[{ on := 9, ground := Go.Ground.data }, { on := 8, ground := Go.Ground.data }, { on := 7, ground := Go.Ground.chain }, { on := 0, ground := Go.Ground.phase }, { on := 1, ground := Go.Ground.phase }, { on := 2, ground := Go.Ground.phase }, { on := 3, ground := Go.Ground.phase }, { on := 4, ground := Go.Ground.phase }, { on := 5, ground := Go.Ground.phase }, { on := 6, ground := Go.Ground.phase }, { on := 7, ground := Go.Ground.phase }, { on := 8, ground := Go.Ground.phase }, { on := 9, ground := Go.Ground.phase }], guard := none }) rfl (fun K hK => ?_) AllReadyH.nil
      refine wp_store_row 34 _ _ rfl (w_2.heap.size) #[.int .u64 ((nxV big s p (wordN wide) false) : Nat), .int .u64 ((nxV big s (nxP s p (wordN wide) false) (wordN wide) (nxB s p (wordN wide) false)) : Nat)] (by rfl) (by rfl) 34 #[.int .u64 0, .int .u64 0] HR_2_9_3_6_7.out (by kernel_rfl) rfl (by simp [Value.oneCell']) ?_
      refine hK.out _ _ ?_ (fun hHeld7_2_9_3_6_7 => ?_)
      · exact only_setRow hHeld6_2_9_3_6 hNE_2_9.1 _
      clear hK K
      try simp only [Act.put]
      refine wpAnyH_done (by kernel_rfl) ?_ _
      exact HQ.out _ _ _ _ _ _ _ _ _ (w_2.heap.size) _ (rd_setRow HI_2_9_3_6_7.out (by have := hNE_2_9; omega) _) (setRow_heap _ _ #[.int .u64 0, .int .u64 0] _ _ _ HR_2_9_3_6_7.out) hHeld7_2_9_3_6_7 hNE_2_9.1
  · try go_simp
    have HI_9 := Lib.hid (HI_.out.only ((Below.refl _ W0).alloc (Nat.le_refl _) (.cells #[.int .u64 0, .int .u64 0] 34)))
    have HR_9 : Hid ((W0.alloc (.cells #[.int .u64 0, .int .u64 0] 34)).heap[W0.heap.size]? = some (.cells #[.int .u64 0, .int .u64 0] 34 (0, 0))) := Lib.hid (heap_alloc_new _ _)
    have hNE_9 : W.heap.size ≤ W0.heap.size ∧ R < W.heap.size := ⟨hHeld.size, hlt⟩
    refine hK.out _ _ ?_ (fun hHeld2 => ?_)
    · exact hHeld.trans (OnlyAt.of_below ((Below.refl _ _).alloc (Nat.le_refl _) _))
    clear hK K
    try simp only [Act.put, List.setIfInBounds_toArray, List.set_cons_zero, List.set_cons_succ]
    refine wpAnyH_ready (rs := [2]) (by kernel_rfl) (by simp) ?_
    refine AllReadyH.cons (o := { dst := some 15, op := Go.Op.call { callee := Go.Callee.value (Go.Operand.func 24), args := #[Go.Operand.tmp 14], argTypes := #[27] }, type := 3, pos := "dynrec.go:21", after := #[{ on := 1, ground := Go.Ground.data }], guard := none }) rfl (fun K hK => ?_) AllReadyH.nil
    (first | go_at_call 24 | (go_simp; go_at_call 24))
    refine (word_b big wide _).mono ?_
    rintro e w_9_2 ⟨rfl, h_9_2⟩
    have HI_9_2 := Lib.hid (HI_9.out.only h_9_2)
    have HR_9_2 : Hid (w_9_2.heap[W0.heap.size]? = some (.cells #[.int .u64 0, .int .u64 0] 34 (0, 0))) := Lib.hid (by rw [h_9_2.block _ (Array.getElem?_eq_some_iff.1 HR_9.out).1]; exact HR_9.out)
    try go_wp2_with fail
    refine hK.out _ _ ?_ (fun hHeld3_9 => ?_)
    · exact hHeld2.trans (OnlyAt.of_below h_9_2)
    clear hK K
    try simp only [Act.put, List.setIfInBounds_toArray, List.set_cons_zero, List.set_cons_succ]
    refine wpAnyH_ready (rs := [3]) (by kernel_rfl) (by simp) ?_
    refine AllReadyH.cons (o := { dst := some 16, op := Go.Op.call { callee := Go.Callee.value (Go.Operand.func 23), args := #[Go.Operand.tmp 13, Go.Operand.tmp 15], argTypes := #[75, 3] }, type := 31, pos := "dynrec.go:21", after := #[{ on := 0, ground := Go.Ground.data }, { on := 2, ground := Go.Ground.data }, { on := 2, ground := Go.Ground.chain }], guard := none }) rfl (fun K hK => ?_) AllReadyH.nil
    (first | go_at_call 23 | (go_simp; go_at_call 23))
    refine (next_fn R big s p (wordN wide) false _ HI_9_2.out hs hw.1 hw.2).mono ?_
    rintro e w_9_2_3 ⟨rfl, i_9_2_3, o_9_2_3⟩
    have HI_9_2_3 := Lib.hid i_9_2_3
    have HR_9_2_3 : Hid (w_9_2_3.heap[W0.heap.size]? = some (.cells #[.int .u64 0, .int .u64 0] 34 (0, 0))) := Lib.hid (by rw [o_9_2_3.block _ (Array.getElem?_eq_some_iff.1 HR_9_2.out).1 (by have := hNE_9; omega)]; exact HR_9_2.out)
    try go_wp2_with fail
    refine hK.out _ _ ?_ (fun hHeld4_9_2 => ?_)
    · exact hHeld3_9.trans o_9_2_3
    clear hK K
    try simp only [Act.put, List.setIfInBounds_toArray, List.set_cons_zero, List.set_cons_succ]
    refine wpAnyH_ready (rs := [6]) (by kernel_rfl) (by simp) ?_
    refine AllReadyH.cons (o := { dst := some 19, op := Go.Op.call { callee := Go.Callee.value (Go.Operand.func 24), args := #[Go.Operand.tmp 18], argTypes := #[27] }, type := 3, pos := "dynrec.go:21", after := #[{ on := 5, ground := Go.Ground.data }, { on := 3, ground := Go.Ground.chain }], guard := none }) rfl (fun K hK => ?_) AllReadyH.nil
    (first | go_at_call 24 | (go_simp; go_at_call 24))
    refine (word_b big wide _).mono ?_
    rintro e w_9_2_3_6 ⟨rfl, h_9_2_3_6⟩
    have HI_9_2_3_6 := Lib.hid (HI_9_2_3.out.only h_9_2_3_6)
    have HR_9_2_3_6 : Hid (w_9_2_3_6.heap[W0.heap.size]? = some (.cells #[.int .u64 0, .int .u64 0] 34 (0, 0))) := Lib.hid (by rw [h_9_2_3_6.block _ (Array.getElem?_eq_some_iff.1 HR_9_2_3.out).1]; exact HR_9_2_3.out)
    try go_wp2_with fail
    refine hK.out _ _ ?_ (fun hHeld5_9_2_3 => ?_)
    · exact hHeld4_9_2.trans (OnlyAt.of_below h_9_2_3_6)
    clear hK K
    try simp only [Act.put, List.setIfInBounds_toArray, List.set_cons_zero, List.set_cons_succ]
    refine wpAnyH_ready (rs := [7]) (by kernel_rfl) (by simp) ?_
    refine AllReadyH.cons (o := { dst := some 20, op := Go.Op.call { callee := Go.Callee.value (Go.Operand.func 23), args := #[Go.Operand.tmp 17, Go.Operand.tmp 19], argTypes := #[75, 3] }, type := 31, pos := "dynrec.go:21", after := #[{ on := 4, ground := Go.Ground.data }, { on := 6, ground := Go.Ground.data }, { on := 6, ground := Go.Ground.chain }], guard := none }) rfl (fun K hK => ?_) AllReadyH.nil
    (first | go_at_call 23 | (go_simp; go_at_call 23))
    refine (next_fn R big s (nxP s p (wordN wide) false) (wordN wide) (nxB s p (wordN wide) false) _ HI_9_2_3_6.out hs hw.1 hw.2).mono ?_
    rintro e w_9_2_3_6_7 ⟨rfl, i_9_2_3_6_7, o_9_2_3_6_7⟩
    have HI_9_2_3_6_7 := Lib.hid i_9_2_3_6_7
    have HR_9_2_3_6_7 : Hid (w_9_2_3_6_7.heap[W0.heap.size]? = some (.cells #[.int .u64 0, .int .u64 0] 34 (0, 0))) := Lib.hid (by rw [o_9_2_3_6_7.block _ (Array.getElem?_eq_some_iff.1 HR_9_2_3_6.out).1 (by have := hNE_9; omega)]; exact HR_9_2_3_6.out)
    try go_wp2_with fail
    refine hK.out _ _ ?_ (fun hHeld6_9_2_3_6 => ?_)
    · exact hHeld5_9_2_3.trans o_9_2_3_6_7
    clear hK K
    try simp only [Act.put, List.setIfInBounds_toArray, List.set_cons_zero, List.set_cons_succ]
    refine wpAnyH_take (i := 8) (oi := { dst := some 21, op := Go.Op.build 34 #[(0, Go.Operand.tmp 16), (1, Go.Operand.tmp 20)], type := 34, pos := "dynrec.go:21", after := #[{ on := 3, ground := Go.Ground.data }, { on := 7, ground := Go.Ground.data }], guard := none }) (v := ?_) rfl (by kernel_rfl) (by kernel_rfl) (by kernel_rfl) (fun c a w h => hP c a w _ _ h) (Or.inl ⟨by rfl, ?_⟩) (by assumption) ?_
    rotate_left
    · (intro w hSw; (try dsimp only at hSw); go_simp <;> with_reducible rfl)
    try simp only [Act.put, List.setIfInBounds_toArray, List.set_cons_zero, List.set_cons_succ]
    refine wpAnyH_ready (rs := [10]) (by kernel_rfl) (by simp) ?_
    refine AllReadyH.cons (o := { dst := none, op := Go.Op.store 34 (Go.Operand.tmp 8) (Go.Operand.tmp 21), type := 0, pos := "dynrec.go:21", after := #[{ on := 9, ground := Go.Ground.data }, { on := 8, ground := Go.Ground.data }, { on := 7, ground := Go.Ground.chain }, { on := 0, ground := Go.Ground.phase }, { on := 1, ground := Go.Ground.phase }, { on := 2, ground := Go.Ground.phase }, { on := 3, ground := Go.Ground.phase }, { on := 4, ground := Go.Ground.phase }, { on := 5, ground := Go.Ground.phase }, { on := 6, ground := Go.Ground.phase }, { on := 7, ground := Go.Ground.phase }, { on := 8, ground := Go.Ground.phase }, { on := 9, ground := Go.Ground.phase }], guard := none }) rfl (fun K hK => ?_) AllReadyH.nil
    refine wp_store_row 34 _ _ rfl (W0.heap.size) #[.int .u64 ((nxV big s p (wordN wide) false) : Nat), .int .u64 ((nxV big s (nxP s p (wordN wide) false) (wordN wide) (nxB s p (wordN wide) false)) : Nat)] (by rfl) (by rfl) 34 #[.int .u64 0, .int .u64 0] HR_9_2_3_6_7.out (by kernel_rfl) rfl (by simp [Value.oneCell']) ?_
    refine hK.out _ _ ?_ (fun hHeld7_9_2_3_6_7 => ?_)
    · exact only_setRow hHeld6_9_2_3_6 hNE_9.1 _
    clear hK K
    try simp only [Act.put]
    refine wpAnyH_done (by kernel_rfl) ?_ _
    exact HQ.out _ _ _ _ _ _ _ _ _ (W0.heap.size) _ (rd_setRow HI_9_2_3_6_7.out (by have := hNE_9; omega) _) (setRow_heap _ _ #[.int .u64 0, .int .u64 0] _ _ _ HR_9_2_3_6_7.out) hHeld7_9_2_3_6_7 hNE_9.1
def cellsE (x : Nat × Nat) : List Value := [.int .u64 (x.1 : Nat), .int .u64 (x.2 : Nat)]
def flatE (l : List (Nat × Nat)) : List Value := l.flatMap cellsE
theorem flatE_snoc (l : List (Nat × Nat)) (x : Nat × Nat) : flatE (l ++ [x]) = flatE l ++ cellsE x := by simp [flatE]
theorem infoE : (Tryd.prog.info? 34).map (fun i => (i.zero, i.size, i.bytes)) = some (some (.agg #[.int .u64 0, .int .u64 0]), 2, 16) := by kernel_rfl
def DynPost (big wide : Bool) (s : ByteArray) (w : World) (e : Ending) (w' : World) : Prop := Below w.heap.size w w' ∧ ∃ k p l, runE big wide s k = some (p, l) ∧
  (((stepE big wide s p).bad = true ∧ e = .returned (.tuple #[.slice none 0 0, .int .i64 24])) ∨
   ((stepE big wide s p).bad = false ∧ (stepE big wide s p).t = 0 ∧ ∃ v, e = .returned (.tuple #[v, .int .i64 0]) ∧ w'.ownsRow w.heap.size 34 2 v k (flatE l)))
set_option maxRecDepth 100000 in
set_option maxHeartbeats 4000000 in
theorem dyn_any (big wide : Bool) (s : ByteArray) (hs : s.size ≤ 100000) (w : World) : Calls Tryd.prog 11 #[.agg #[.bool big, .bool wide], .string s] w (DynPost big wide s w) := by
  obtain ⟨i0, hi, hz0, hz1, hz2⟩ := info_parts infoE
  have hww := wordN_pos wide
  go_enter Tryd.func11, Tryd.ntmps11
  go_wp2_with fail
  refine (read_any big s 0 _).mono ?_
  rintro e w1 ⟨rfl, hI, hB, hsz⟩
  have hR0 : w.heap.size < (w.alloc (.cells #[.bool big, .bool wide] 27)).heap.size + 1 := by simp; omega
  have hR1 : (w.alloc (.cells #[.bool big, .bool wide] 27)).heap.size + 1 < w1.heap.size := by omega
  have hBw : Below w.heap.size w w1 := ((Below.refl _ _).alloc (Nat.le_refl _) _).trans (hB.mono (by simp))
  have hF : w1.heap[w.heap.size]? = some (.cells #[.bool big, .bool wide] 27 (0, 0)) := by rw [hB.block _ (by simp)]; exact heap_alloc_new w _
  clear hB hsz
  generalize (w.alloc (.cells #[.bool big, .bool wide] 27)).heap.size + 1 = R at *
  go_upto_block 0 with (fail)
  generalize hBB : w1.heap.size = B at *
  have HBB := Lib.hid hBB; clear hBB
  have hbxR : w.heap.size ≠ R := by omega
  have hbxB : w.heap.size < B := by omega
  have HI1 := Lib.hid hI; have HBW := Lib.hid hBw; have HFF := Lib.hid hF; clear hI hBw hF
  go_wp2
  go_loopw [6] (fun v wr => ∃ k p l, runE big wide s k = some (p, l) ∧ wr.ownsRow B 34 2 v k (flatE l) ∧ IsRd wr R big s p 0 ∧ wr.heap[w.heap.size]? = some (.cells #[.bool big, .bool wide] 27 (0, 0)) ∧ Below w.heap.size w wr ∧ B ≤ wr.heap.size) (fun v _ => s.size + 1 - lenV v)
  case atStart => exact ⟨0, 0, [], rfl, World.ownsRow_nil _ _ _ _, HI1.out, HFF.out, HBW.out, by rw [HBB.out]; exact Nat.le_refl _⟩
  case round =>
    obtain ⟨k, p, l, hrun, hown, hI, hF, hB, hBs⟩ := hrel
    obtain ⟨hpk, hps, hlk⟩ := runE_at k hrun
    have hk2 : k ≤ k * (2 * wordN wide) := Nat.le_mul_of_pos_right _ (by omega)
    have hks : k ≤ s.size := by omega
    have HRUN := Lib.hid hrun; have HOWN := Lib.hid hown; have HI := Lib.hid hI; have HF := Lib.hid hF; have HB := Lib.hid hB
    have HLV := Lib.hid (own_len hown)
    have hRw := hI.lt
    clear hrun hown hI hF hB hlk hpk hk2
    have GG : Hid (∀ u, OnlyAt R wr u → u.heap[w.heap.size]? = some (.cells #[.bool big, .bool wide] 27 (0, 0))) := Lib.hid (fun u hu => (hu.block _ (Array.getElem?_eq_some_iff.1 HF.out).1 hbxR).trans HF.out)
    have G0 : Hid (∀ u, OnlyAt R wr u → u.cell? ⟨w.heap.size, 0, none⟩ = some (.bool big)) := Lib.hid (fun u hu => by rw [Lib.cell_of_heap (GG.out u hu)]; rfl)
    have G1 : Hid (∀ u, OnlyAt R wr u → u.cell? ⟨w.heap.size, 1, none⟩ = some (.bool wide)) := Lib.hid (fun u hu => by rw [Lib.cell_of_heap (GG.out u hu)]; rfl)
    go_upto_region 3 with (fail)
    refine dreg3 _ _ _ _ _ _ _ _ _ _ _ _ _ _ _ _ _ _ _ _ _ _ _ _ _ _ _ _ _ _ _ _ big wide s R w.heap.size p wr HI.out (by omega) hww hRw G0 G1 (fun _ _ _ _ _ h => h) (fun u13 u14 u15 u16 u17 u18 u19 u20 u21 b w5 hI5 hrow5 hO5 hb5 => ?_)
    have HST : Hid (stepE big wide s p = ⟨(nxV big s p (wordN wide) false), (nxV big s (nxP s p (wordN wide) false) (wordN wide) (nxB s p (wordN wide) false)), (nxP s (nxP s p (wordN wide) false) (wordN wide) (nxB s p (wordN wide) false)), (nxB s (nxP s p (wordN wide) false) (wordN wide) (nxB s p (wordN wide) false))⟩) := Lib.hid rfl
    have HI5 := Lib.hid hI5; have HROW5 := Lib.hid hrow5; have HF5 := Lib.hid (GG.out _ hO5)
    have HB5 := Lib.hid (HB.out.trans (hO5.below HB.out.size (by omega)))
    have HOWN5 := Lib.hid (own_only2 (z := R) HOWN.out (Only2.of_only hO5) (by omega) (by omega))
    have hBs5 : B ≤ w5.heap.size := Nat.le_trans hBs hO5.size
    clear hI5 hrow5 hO5 hb5 G0 G1 GG
    generalize (nxV big s p (wordN wide) false) = t at *
    generalize (nxV big s (nxP s p (wordN wide) false) (wordN wide) (nxB s p (wordN wide) false)) = v2 at *
    generalize (nxP s (nxP s p (wordN wide) false) (wordN wide) (nxB s p (wordN wide) false)) = p2 at *
    generalize (nxB s (nxP s p (wordN wide) false) (wordN wide) (nxB s p (wordN wide) false)) = b2 at *
    have x0 : w5.cell? ⟨b, 0, none⟩ = some (.int .u64 (t : Nat)) := by rw [Lib.cell_of_heap HROW5.out]; rfl
    have x1 : w5.cell? ⟨b, 1, none⟩ = some (.int .u64 (v2 : Nat)) := by rw [Lib.cell_of_heap HROW5.out]; rfl
    have HBAD := Lib.hid (congrArg StE.bad HST.out)
    have HTT := Lib.hid (congrArg StE.t HST.out)
    cases b2
    · have he : IsRd w5 R big s p2 0 := HI5.out
      have HIE := Lib.hid he; clear he
      go_wp2_with fail
      refine (err_any R big s p2 0 _ HIE.out).mono ?_
      rintro e w6 ⟨rfl, rfl⟩
      by_cases ht : t = 0
      · have t1 : ((t : Int) == 0) = true := by rw [ht]; rfl
        have t2 : (t : Int) = 0 := by rw [ht]; rfl
        have HT0 := Lib.hid ht; clear ht
        obtain ⟨ao, n', cap, hv⟩ := own_shape HOWN5.out
        subst hv
        go_wp2
        go_ret2
        exact ⟨HB5.out, k, p, l, HRUN.out, .inr ⟨HBAD.out, by rw [HTT.out]; exact HT0.out, _, rfl, own_lower HOWN5.out (by omega)⟩⟩
      · have t1 : ((t : Int) == 0) = false := by simpa using ht
        have HT0 := Lib.hid ht; clear ht
        have k1 : k + 1 ≤ 1048576 := by omega
        go_wp2_with (first
          | (at_builtin; refine wpList_append_own _ rfl _ _ 29 rfl B 34 i0 (.agg #[.int .u64 0, .int .u64 0]) 2 16 Tryd.underlying29 hi hz0 hz1 hz2 rfl (by decide) _ _ _ rfl (own_stay HOWN5.out ((Below.refl _ _).alloc (Nat.le_refl _) _)) _ 1 1 [.int .u64 (t : Nat), .int .u64 (v2 : Nat)] rfl rfl (cells_new _ _ _) (by simp [Value.oneCell']) (by unfold maxLen; omega) (by omega) (by simp; omega) ?_; intro v' w12 hown' hg12 hnil12)
          | go_in)
        have hfl := own_floor HOWN5.out
        have hA12 : ∀ i, i < w5.heap.size → i < B → w12.heap[i]? = w5.heap[i]? := fun i h1 h2 => by
          rw [hg12.block i (by simp; omega) (fun e => by have := hfl i e.symm; omega), Below.heap_alloc _ _ _ h1]
        have hI12 : IsRd w12 R big s p2 0 := by unfold IsRd; rw [hA12 R HIE.out.lt (by omega)]; exact HIE.out
        have hF12 : w12.heap[w.heap.size]? = some (.cells #[.bool big, .bool wide] 27 (0, 0)) := by rw [hA12 _ (Array.getElem?_eq_some_iff.1 HF5.out).1 hbxB]; exact HF5.out
        have hB12 : Below w.heap.size w w12 := (HB5.out.alloc HB5.out.size _).grown hg12 (by have := HB5.out.size; simp; omega) (fun i hi => by have := hfl i hi; omega)
        have hrun2 := runE_succ HRUN.out HBAD.out (by rw [HTT.out]; exact HT0.out)
        rw [HST.out] at hrun2
        have hl2 := own_len hown'
        refine ⟨⟨k + 1, p2, l ++ [(t, v2)], hrun2, by rw [flatE_snoc]; exact hown', hI12, hF12, hB12, by have := hg12.size; simp at this; omega⟩, ?_⟩
        rw [hl2, HLV.out]
        omega
    · have he : IsRd w5 R big s p2 3 := HI5.out
      have HIE := Lib.hid he; clear he
      go_wp2_with fail
      refine (err_any R big s p2 3 _ HIE.out).mono ?_
      rintro e w6 ⟨rfl, rfl⟩
      go_wp2
      go_ret2
      exact ⟨HB5.out, k, p, l, HRUN.out, .inl ⟨HBAD.out, rfl⟩⟩
end Go.Proofs.YtnmklmaclmjfbaaDoor
