/- The walk of RelrecAll. Conditions: those written in each theorem. -/
import Derived.Test.YtddlflabdlgnbaaXS
import Derived.Test.YtddlflabdlgnbaaXG
namespace Go.Proofs.Ytddlflabdlgnbaa
open Go.RowKit
set_option maxRecDepth 100000 in
set_option maxHeartbeats 8000000 in
theorem rall_t (fl : Int) (A : Option Addr) (len cap m : Nat) (R : Nat → Rl) (s : ByteArray) (n : Nat) (hm : (len ≤ 10 ∧ m = len) ∨ (10 < len ∧ m = 10)) (hlc : len ≤ 9223372036854775807) (hs : (s.size ≤ 100 ∧ n = s.size) ∨ (100 < s.size ∧ n = 100)) (hn : ∀ i, i < len → (R i).off < 2 ^ 64 ∧ (R i).add < 2 ^ 64)
    (big wide a : Bool) (hb : (bits BinOp.and IntKind.i64 fl 1 == 1) = big) (hw : (bits BinOp.and IntKind.i64 fl 2 == 2) = wide) (ha : (bits BinOp.and IntKind.i64 fl 4 == 4) = a)
    (S : Nat → ByteArray) (ok : Nat → Bool) (hp : ∀ i, PutR big wide a (R i) (S i) (ok i)) (w : World) (hR : RowR w A len R) :
    Calls Try.prog 9 #[.int .i64 fl, .slice A len cap, .string s] w fun e w' => e = .returned (.bool true) ∧ Below w.heap.size w w' := by
  obtain ⟨i0, hi, hz0, hz1, hz2⟩ := info_parts info49
  have HP := Lib.hid hp; have HN := Lib.hid hn; have HR := Lib.hid hR; have HB := Lib.hid hb; have HW := Lib.hid hw; have HA := Lib.hid ha; have HM := Lib.hid hm; have HS := Lib.hid hs
  clear hp hn hR hb hw ha hm hs
  go_enter Try.func9, Try.ntmps9
  go_wp2_with fail
  refine (rspeaks _).mono ?_
  rintro e w1 ⟨rfl, h1⟩
  go_wp2_with fail
  refine (rform fl big wide HB.out HW.out _).mono ?_
  rintro e w2 ⟨rfl, h2⟩
  have b2 : Below w.heap.size w w2 := h1.trans (h2.mono h1.size)
  clear h1 h2
  have ha := HA.out
  go_upto_region 4 with (fail)
  have hW := below_more b2 (.cells #[.bool big, .bool wide] 46)
  have F0 : (w2.alloc (.cells #[.bool big, .bool wide] 46)).cell? ⟨w2.heap.size, 0, none⟩ = some (.bool big) := by simp
  have F1 : (w2.alloc (.cells #[.bool big, .bool wide] 46)).cell? ⟨w2.heap.size, 1, none⟩ = some (.bool wide) := by simp
  have hz : w2.heap.size < (w2.alloc (.cells #[.bool big, .bool wide] 46)).heap.size := by simp
  generalize (w2.alloc (.cells #[.bool big, .bool wide] 46)) = W1 at *
  generalize w2.heap.size = bx at *
  have HWW := Lib.hid hW
  have HF0 : Hid (∀ u, Below W1.heap.size W1 u → u.cell? ⟨bx, 0, none⟩ = some (.bool big)) := Lib.hid (fun u h => (h.cell (by exact hz)).trans F0)
  have HF1 : Hid (∀ u, Below W1.heap.size W1 u → u.cell? ⟨bx, 1, none⟩ = some (.bool wide)) := Lib.hid (fun u h => (h.cell (by exact hz)).trans F1)
  have HE : Hid (∀ u, Below W1.heap.size W1 u → Below w.heap.size w u) := Lib.hid (fun u h => HWW.out.trans (h.mono HWW.out.size))
  have hzw : w.heap.size ≤ W1.heap.size := hW.size
  clear F0 F1 b2 hW ha HB HW
  have hm10 : m ≤ 10 := by rcases HM.out with ⟨h1, h2⟩ | ⟨h1, h2⟩ <;> omega
  have hml : m ≤ len := by rcases HM.out with ⟨h1, h2⟩ | ⟨h1, h2⟩ <;> omega
  have HZ24 := Lib.hid (rLen_pos wide a)
  go_upto_block 0 with (fail)
  go_cut [9, 10, 11] (fun v wt g wr => wr.ownsRow W1.heap.size 49 4 v m (flatR R m) ∧ wt = .string ⟨(catR S m).toArray⟩ ∧ g = .bool (allOk ok m) ∧ Below W1.heap.size W1 wr)
  case first =>
    go_wp2
    go_loopw [9, 10, 11, 12] (fun v wt g i wr => ∃ k : Nat, k ≤ m ∧ i = .int .i64 (k : Int) ∧ wr.ownsRow W1.heap.size 49 4 v k (flatR R k) ∧ wt = .string ⟨(catR S k).toArray⟩ ∧ g = .bool (allOk ok k) ∧ Below W1.heap.size W1 wr) (fun _ _ _ i _ => m - (intOf i).toNat)
    case atStart => exact ⟨0, Nat.zero_le _, rfl, World.ownsRow_nil _ _ _ _, rfl, rfl, Below.refl _ _⟩
    case round =>
      obtain ⟨k, hk, rfl, hown, rfl, rfl, hB⟩ := hrel
      have HB := Lib.hid hB; have HOWN := Lib.hid hown; clear hB hown
      by_cases hlt : k < m
      · have hwr := HE.out _ HB.out
        have d1 : (k : Int) < (len : Int) := by omega
        have d2 : (k : Int) < 10 := by omega
        have d0 : (0 : Int) ≤ (k : Int) := by omega
        obtain ⟨b, o, rfl, hbl, hc0, hc1, hc2, hc3⟩ := HR.out.low hwr k (by omega)
        have hbw : b < w.heap.size := by
          obtain ⟨b', o', e, hl, _⟩ := HR.out k (by omega)
          injection e with e; injection e with e; omega
        have HRF := Lib.hid (fun u => rref_is (HP.out k) (HN.out k (by omega)) u)
        have HFL : Hid (flatR R (k + 1) = flatR R k ++ cellsR (R k)) := Lib.hid rfl
        have HCT := Lib.hid (cat_bytes S k)
        have HOK := Lib.hid (allOk_succ ok k)
        have HX : Hid (∀ u, Below W1.heap.size W1 u → u.cell? ⟨b, o + k * 4, none⟩ = some (.int .u64 ((R k).off : Nat)) ∧ u.cell? ⟨b, o + k * 4 + 1, none⟩ = some (.int .u64 ((R k).sym : Nat)) ∧ u.cell? ⟨b, o + k * 4 + 2, none⟩ = some (.int .u64 ((R k).ty : Nat)) ∧ u.cell? ⟨b, o + k * 4 + 3, none⟩ = some (.int .u64 ((R k).add : Nat))) := Lib.hid (fun u hu => by
          obtain ⟨b', o', e, _, h0, h1, h2, h3⟩ := HR.out.low (HE.out _ hu) k (by omega)
          injection e with e; injection e with e e2; subst e; subst e2
          exact ⟨h0, h1, h2, h3⟩)
        have hsk := putR_size (HP.out k)
        have hcl := catR_len S 24 k (fun i _ => putR_size (HP.out i))
        have hcs : (ByteArray.mk (catR S k).toArray).size = (catR S k).length := by simp [ByteArray.size]
        generalize R k = r at *
        obtain ⟨ro, rs, rt, ra⟩ := r
        generalize S k = sk at *
        generalize ok k = okk at *
        generalize allOk ok k = ak at *
        generalize (catR S k).length = cl at *
        generalize ByteArray.mk (catR S k).toArray = ck at *
        have k1 : k + 1 ≤ 1048576 := by omega
        go_upto_region 10 with (first
          | (at_builtin; refine wpList_append_own _ rfl _ _ 61 rfl W1.heap.size 49 i0 (.agg #[.int .u64 0, .int .u64 0, .int .u64 0, .int .u64 0]) 4 32 Try.underlying61 hi hz0 hz1 hz2 rfl (by decide) _ _ _ rfl (own_stay HOWN.out ((Below.refl _ _).alloc (Nat.le_refl _) _)) _ 1 1 (cellsR ⟨ro, rs, rt, ra⟩) rfl rfl (cells_new _ _ _) (by simp [cellsR, Value.oneCell']) (by unfold maxLen; omega) (by omega) (by have := HB.out.size; simp; omega) ?_; intro v' w5 hown' hg5 hnil5
             have hB5 : Below W1.heap.size W1 w5 := (HB.out.alloc HB.out.size _).grown hg5 (by have := HB.out.size; simp; omega) (own_floor HOWN.out)
             have HB5 := Lib.hid hB5; have HOWN5 := Lib.hid hown'; clear hB5 hown' hg5 hnil5 hc0 hc1 hc2 hc3)
          | go_in)
        have G0 : Hid (∀ u, Below w5.heap.size w5 u → u.cell? ⟨bx, 0, none⟩ = some (.bool big)) := Lib.hid (fun u h => HF0.out u (HB5.out.trans (h.mono HB5.out.size)))
        have G1 : Hid (∀ u, Below w5.heap.size w5 u → u.cell? ⟨bx, 1, none⟩ = some (.bool wide)) := Lib.hid (fun u h => HF1.out u (HB5.out.trans (h.mono HB5.out.size)))
        have X0 : Hid (∀ u, Below w5.heap.size w5 u → u.cell? ⟨b, o + k * 4, none⟩ = some (.int .u64 (ro : Nat))) := Lib.hid (fun u h => (HX.out u (HB5.out.trans (h.mono HB5.out.size))).1)
        have X1 : Hid (∀ u, Below w5.heap.size w5 u → u.cell? ⟨b, o + k * 4 + 1, none⟩ = some (.int .u64 (rs : Nat))) := Lib.hid (fun u h => (HX.out u (HB5.out.trans (h.mono HB5.out.size))).2.1)
        have X2 : Hid (∀ u, Below w5.heap.size w5 u → u.cell? ⟨b, o + k * 4 + 2, none⟩ = some (.int .u64 (rt : Nat))) := Lib.hid (fun u h => (HX.out u (HB5.out.trans (h.mono HB5.out.size))).2.2.1)
        have X3 : Hid (∀ u, Below w5.heap.size w5 u → u.cell? ⟨b, o + k * 4 + 3, none⟩ = some (.int .u64 (ra : Nat))) := Lib.hid (fun u h => (HX.out u (HB5.out.trans (h.mono HB5.out.size))).2.2.2)
        refine wp_region_held_drew (S := fun w' => Below w5.heap.size w5 w') (by kernel_rfl) ?_ (fun hHeld => ?_)
        · exact (Below.refl _ _).drew
        refine wpAnyH_take (i := 0) (oi := { dst := some 49, op := Go.Op.fieldAddr 46 (Go.Operand.tmp 7) 1, type := 0, pos := "law.go:78", after := #[], guard := none }) (v := ?_) rfl (by kernel_rfl) (by kernel_rfl) (by kernel_rfl) (fun _ _ _ h => h) (Or.inl ⟨by rfl, ?_⟩) (by assumption) ?_
        rotate_left
        · (intro w hSw; (try dsimp only at hSw); go_simp <;> with_reducible rfl)
        try simp only [Act.put, List.setIfInBounds_toArray, List.set_cons_zero, List.set_cons_succ]
        refine wpAnyH_take (i := 2) (oi := { dst := some 51, op := Go.Op.fieldAddr 46 (Go.Operand.tmp 7) 0, type := 0, pos := "law.go:78", after := #[], guard := none }) (v := ?_) rfl (by kernel_rfl) (by kernel_rfl) (by kernel_rfl) (fun _ _ _ h => h) (Or.inl ⟨by rfl, ?_⟩) (by assumption) ?_
        rotate_left
        · (intro w hSw; (try dsimp only at hSw); go_simp <;> with_reducible rfl)
        try simp only [Act.put, List.setIfInBounds_toArray, List.set_cons_zero, List.set_cons_succ]
        refine wpAnyH_take (i := 5) (oi := { dst := some 54, op := Go.Op.move (Go.Operand.tmp 8), type := 4, pos := "law.go:78", after := #[], guard := none }) (v := ?_) rfl (by kernel_rfl) (by kernel_rfl) (by kernel_rfl) (fun _ _ _ h => h) (Or.inl ⟨by rfl, ?_⟩) (by assumption) ?_
        rotate_left
        · (intro w hSw; (try dsimp only at hSw); go_simp <;> with_reducible rfl)
        try simp only [Act.put, List.setIfInBounds_toArray, List.set_cons_zero, List.set_cons_succ]
        refine wpAnyH_take (i := 6) (oi := { dst := some 55, op := Go.Op.move (Go.Operand.tmp 1), type := 60, pos := "law.go:78", after := #[], guard := none }) (v := ?_) rfl (by kernel_rfl) (by kernel_rfl) (by kernel_rfl) (fun _ _ _ h => h) (Or.inl ⟨by rfl, ?_⟩) (by assumption) ?_
        rotate_left
        · (intro w hSw; (try dsimp only at hSw); go_simp <;> with_reducible rfl)
        try simp only [Act.put, List.setIfInBounds_toArray, List.set_cons_zero, List.set_cons_succ]
        refine wpAnyH_take (i := 7) (oi := { dst := some 56, op := Go.Op.move (Go.Operand.tmp 12), type := 3, pos := "law.go:78", after := #[], guard := none }) (v := ?_) rfl (by kernel_rfl) (by kernel_rfl) (by kernel_rfl) (fun _ _ _ h => h) (Or.inl ⟨by rfl, ?_⟩) (by assumption) ?_
        rotate_left
        · (intro w hSw; (try dsimp only at hSw); go_simp <;> with_reducible rfl)
        try simp only [Act.put, List.setIfInBounds_toArray, List.set_cons_zero, List.set_cons_succ]
        refine wpAnyH_take (i := 1) (oi := { dst := some 50, op := Go.Op.load 4 (Go.Operand.tmp 49), type := 4, pos := "law.go:78", after := #[{ on := 0, ground := Go.Ground.data }], guard := none }) (v := ?_) rfl (by kernel_rfl) (by kernel_rfl) (by kernel_rfl) (fun _ _ _ h => h) (Or.inl ⟨by rfl, ?_⟩) (by assumption) ?_
        rotate_left
        · (intro w hSw; have q0 := G1.out w hSw; (try dsimp only at hSw); go_simp <;> with_reducible rfl)
        try simp only [Act.put, List.setIfInBounds_toArray, List.set_cons_zero, List.set_cons_succ]
        refine wpAnyH_take (i := 3) (oi := { dst := some 52, op := Go.Op.fieldAddr 44 (Go.Operand.tmp 51) 0, type := 0, pos := "law.go:78", after := #[{ on := 2, ground := Go.Ground.data }], guard := none }) (v := ?_) rfl (by kernel_rfl) (by kernel_rfl) (by kernel_rfl) (fun _ _ _ h => h) (Or.inl ⟨by rfl, ?_⟩) (by assumption) ?_
        rotate_left
        · (intro w hSw; (try dsimp only at hSw); go_simp <;> with_reducible rfl)
        try simp only [Act.put, List.setIfInBounds_toArray, List.set_cons_zero, List.set_cons_succ]
        refine wpAnyH_take (i := 8) (oi := { dst := some 57, op := Go.Op.indexAddr 60 (Go.Operand.tmp 55) (Go.Operand.tmp 56), type := 0, pos := "law.go:78", after := #[{ on := 6, ground := Go.Ground.data }, { on := 7, ground := Go.Ground.data }], guard := none }) (v := ?_) rfl (by kernel_rfl) (by kernel_rfl) (by kernel_rfl) (fun _ _ _ h => h) (Or.inl ⟨by rfl, ?_⟩) (by assumption) ?_
        rotate_left
        · (intro w hSw; (try dsimp only at hSw); go_simp <;> with_reducible rfl)
        try simp only [Act.put, List.setIfInBounds_toArray, List.set_cons_zero, List.set_cons_succ]
        refine wpAnyH_take (i := 4) (oi := { dst := some 53, op := Go.Op.load 4 (Go.Operand.tmp 52), type := 4, pos := "law.go:78", after := #[{ on := 3, ground := Go.Ground.data }], guard := none }) (v := ?_) rfl (by kernel_rfl) (by kernel_rfl) (by kernel_rfl) (fun _ _ _ h => h) (Or.inl ⟨by rfl, ?_⟩) (by assumption) ?_
        rotate_left
        · (intro w hSw; have q0 := G0.out w hSw; (try dsimp only at hSw); go_simp <;> with_reducible rfl)
        try simp only [Act.put, List.setIfInBounds_toArray, List.set_cons_zero, List.set_cons_succ]
        refine wpAnyH_take (i := 9) (oi := { dst := some 58, op := Go.Op.load 42 (Go.Operand.tmp 57), type := 42, pos := "law.go:78", after := #[{ on := 8, ground := Go.Ground.data }], guard := none }) (v := ?_) rfl (by kernel_rfl) (by kernel_rfl) (by kernel_rfl) (fun _ _ _ h => h) (Or.inl ⟨by rfl, ?_⟩) (by assumption) ?_
        rotate_left
        · (intro w hSw; have q0 := X0.out w hSw; have q1 := X1.out w hSw; have q2 := X2.out w hSw; have q3 := X3.out w hSw; (try dsimp only at hSw); go_simp <;> with_reducible rfl)
        try simp only [Act.put, List.setIfInBounds_toArray, List.set_cons_zero, List.set_cons_succ]
        refine wpAnyH_ready (rs := [10]) (by kernel_rfl) (by simp) ?_
        refine AllReadyH.cons (o := { dst := some 59, op := Go.Op.call { callee := Go.Callee.value (Go.Operand.func 24), args := #[Go.Operand.tmp 50, Go.Operand.tmp 53, Go.Operand.tmp 54, Go.Operand.tmp 58], argTypes := #[4, 4, 4, 51] }, type := 30, pos := "law.go:78", after := #[{ on := 1, ground := Go.Ground.data }, { on := 4, ground := Go.Ground.data }, { on := 5, ground := Go.Ground.data }, { on := 9, ground := Go.Ground.data }], guard := none }) rfl (fun K hK => ?_) AllReadyH.nil
        (first | go_at_call 24 | (go_simp; go_at_call 24))
        refine (HRF.out _).mono ?_
        rintro e w6 ⟨rfl, h6⟩
        try go_wp2_with fail
        refine hK.out _ _ ?_ (fun hHeld2 => ?_)
        · exact hHeld.trans (h6.mono hHeld.size)
        clear hK K
        try simp only [Act.put, List.setIfInBounds_toArray, List.set_cons_zero, List.set_cons_succ]
        refine wpAnyH_take (i := 11) (oi := { dst := some 48, op := Go.Op.move (Go.Operand.tmp 59), type := 30, pos := "law.go:78", after := #[{ on := 10, ground := Go.Ground.data }], guard := none }) (v := ?_) rfl (by kernel_rfl) (by kernel_rfl) (by kernel_rfl) (fun _ _ _ h => h) (Or.inl ⟨by rfl, ?_⟩) (by assumption) ?_
        rotate_left
        · (intro w hSw; (try dsimp only at hSw); go_simp <;> with_reducible rfl)
        try simp only [Act.put, List.setIfInBounds_toArray, List.set_cons_zero, List.set_cons_succ]
        refine wpAnyH_take (i := 12) (oi := { dst := some 60, op := Go.Op.extract (Go.Operand.tmp 48) 0, type := 9, pos := "law.go:78", after := #[{ on := 11, ground := Go.Ground.data }], guard := none }) (v := ?_) rfl (by kernel_rfl) (by kernel_rfl) (by kernel_rfl) (fun _ _ _ h => h) (Or.inl ⟨by rfl, ?_⟩) (by assumption) ?_
        rotate_left
        · (intro w hSw; (try dsimp only at hSw); go_simp <;> with_reducible rfl)
        try simp only [Act.put, List.setIfInBounds_toArray, List.set_cons_zero, List.set_cons_succ]
        refine wpAnyH_take (i := 13) (oi := { dst := some 61, op := Go.Op.extract (Go.Operand.tmp 48) 1, type := 4, pos := "law.go:78", after := #[{ on := 11, ground := Go.Ground.data }, { on := 14, ground := Go.Ground.gcOnly Go.Departure.lateStores }], guard := none }) (v := ?_) rfl (by kernel_rfl) (by kernel_rfl) (by kernel_rfl) (fun _ _ _ h => h) (Or.inl ⟨by rfl, ?_⟩) (by assumption) ?_
        rotate_left
        · (intro w hSw; (try dsimp only at hSw); go_simp <;> with_reducible rfl)
        try simp only [Act.put, List.setIfInBounds_toArray, List.set_cons_zero, List.set_cons_succ]
        refine wpAnyH_take (i := 14) (oi := { dst := some 13, op := Go.Op.assign (Go.Operand.tmp 60), type := 9, pos := "law.go:78", after := #[{ on := 12, ground := Go.Ground.data }, { on := 10, ground := Go.Ground.chain }, { on := 0, ground := Go.Ground.phase }, { on := 1, ground := Go.Ground.phase }, { on := 2, ground := Go.Ground.phase }, { on := 3, ground := Go.Ground.phase }, { on := 4, ground := Go.Ground.phase }, { on := 5, ground := Go.Ground.phase }, { on := 6, ground := Go.Ground.phase }, { on := 7, ground := Go.Ground.phase }, { on := 8, ground := Go.Ground.phase }, { on := 9, ground := Go.Ground.phase }, { on := 10, ground := Go.Ground.phase }, { on := 11, ground := Go.Ground.phase }, { on := 12, ground := Go.Ground.phase }, { on := 13, ground := Go.Ground.textOnly Go.Departure.lateStores }], guard := none }) (v := ?_) rfl (by kernel_rfl) (by kernel_rfl) (by kernel_rfl) (fun _ _ _ h => h) (Or.inl ⟨by rfl, ?_⟩) (by assumption) ?_
        rotate_left
        · (intro w hSw; (try dsimp only at hSw); go_simp <;> with_reducible rfl)
        try simp only [Act.put, List.setIfInBounds_toArray, List.set_cons_zero, List.set_cons_succ]
        refine wpAnyH_take (i := 15) (oi := { dst := some 14, op := Go.Op.assign (Go.Operand.tmp 61), type := 4, pos := "law.go:78", after := #[{ on := 13, ground := Go.Ground.data }, { on := 14, ground := Go.Ground.chain }, { on := 0, ground := Go.Ground.phase }, { on := 1, ground := Go.Ground.phase }, { on := 2, ground := Go.Ground.phase }, { on := 3, ground := Go.Ground.phase }, { on := 4, ground := Go.Ground.phase }, { on := 5, ground := Go.Ground.phase }, { on := 6, ground := Go.Ground.phase }, { on := 7, ground := Go.Ground.phase }, { on := 8, ground := Go.Ground.phase }, { on := 9, ground := Go.Ground.phase }, { on := 10, ground := Go.Ground.phase }, { on := 11, ground := Go.Ground.phase }, { on := 12, ground := Go.Ground.phase }, { on := 13, ground := Go.Ground.phase }, { on := 14, ground := Go.Ground.phase }], guard := none }) (v := ?_) rfl (by kernel_rfl) (by kernel_rfl) (by kernel_rfl) (fun _ _ _ h => h) (Or.inl ⟨by rfl, ?_⟩) (by assumption) ?_
        rotate_left
        · (intro w hSw; (try dsimp only at hSw); go_simp <;> with_reducible rfl)
        try simp only [Act.put, List.setIfInBounds_toArray, List.set_cons_zero, List.set_cons_succ]
        refine wpAnyH_done (by kernel_rfl) ?_ _
        have HOWN6 := Lib.hid (own_stay HOWN5.out hHeld2)
        have HB6 := Lib.hid (HB5.out.trans (hHeld2.mono HB5.out.size))
        clear hHeld hHeld2 h6
        cases ak
        · go_wp2
          exact ⟨⟨k + 1, by omega, by go_num, by rw [HFL.out]; exact HOWN6.out, by rw [← HCT.out], by rw [HOK.out]; rfl, HB6.out⟩, by simp [intOf]; omega⟩
        · go_wp2
          exact ⟨⟨k + 1, by omega, by go_num, by rw [HFL.out]; exact HOWN6.out, by rw [← HCT.out], by rw [HOK.out]; rfl, HB6.out⟩, by simp [intOf]; omega⟩
      · obtain rfl : k = m := by omega
        rcases HM.out with ⟨h1, h2⟩ | ⟨h1, h2⟩
        · have d1 : ¬ (k : Int) < (len : Int) := by omega
          clear h1 h2
          go_wp2
          go_meet
          case rel => exact ⟨HOWN.out, rfl, rfl, HB.out⟩
        · have d1 : (k : Int) < (len : Int) := by omega
          have d2 : ¬ (k : Int) < 10 := by omega
          clear h1 h2
          go_wp2
          go_meet
          case rel => exact ⟨HOWN.out, rfl, rfl, HB.out⟩
  case rest =>
    obtain ⟨hown, rfl, rfl, hB⟩ := hcut
    obtain ⟨A9, c9, rfl, hrow9⟩ := own_rowR hown
    have HPA := Lib.hid (putAll_any big wide a A9 c9 m R S ok (by omega) (fun i _ => putR_size (HP.out i)) (fun i hi u => rput_is (HP.out i) (HN.out i (by omega)) u) wc hrow9)
    have HBC := Lib.hid hB; have HROW9 := Lib.hid hrow9
    have f0 := HF0.out _ HBC.out
    have f1 := HF1.out _ HBC.out
    clear hB hrow9 hown hz
    cases hall : allOk ok m
    · have hpv : putV S ok m = .tuple #[.string ⟨#[]⟩, .bool false] := by unfold putV; rw [hall]; rfl
      rw [hpv] at HPA
      clear hpv
      generalize ByteArray.mk (catR S m).toArray = T at *
      go_wp2_with fail
      refine HPA.out.mono ?_
      rintro e w3 ⟨rfl, h3⟩
      have HB3 := Lib.hid (HBC.out.trans (h3.mono HBC.out.size))
      clear h3 f0 f1
      go_upto_region 25 with (fail)
      have hnn : n ≤ 100 ∧ n ≤ s.size := by rcases HS.out with ⟨h1, h2⟩ | ⟨h1, h2⟩ <;> omega
      have n0 : (0 : Int) ≤ (n : Int) := by omega
      have n1 : (n : Int) ≤ (s.size : Int) := by omega
      have n2 : min (s.size : Int) 100 = (n : Int) := by rcases HS.out with ⟨h1, h2⟩ | ⟨h1, h2⟩ <;> omega
      have n3 : (if (s.size : Int) ≤ 100 then (s.size : Int) else 100) = (n : Int) := by rcases HS.out with ⟨h1, h2⟩ | ⟨h1, h2⟩ <;> split <;> omega
      have hs2 : (s.extract 0 n).size ≤ 100 := by simp; omega
      go_upto_region 26 with (fail)
      generalize s.extract 0 n = s2 at *
      clear n0 n1 n2 n3 hnn
      have HRA2 := Lib.hid (fun u => readAll_any big wide a s2 (by omega) u)
      have f0 := HF0.out _ HB3.out
      have f1 := HF1.out _ HB3.out
      go_wp2_with fail
      refine (HRA2.out _).mono ?_
      rintro e w5 ⟨h5, ⟨hmod, v5, rfl, hown5⟩ | ⟨hmod, rfl⟩⟩
      · obtain ⟨A5, c5, rfl, hrow5⟩ := own_rowR hown5
        have HB6 := Lib.hid (HB3.out.trans (h5.mono HB3.out.size))
        have HPB := Lib.hid (fun u h => putAll_back big wide a s2 hs2 hmod A5 c5 _ rfl u h)
        have HROW5 := Lib.hid hrow5
        clear hown5 hrow5 h5 f0 f1
        have f0 := HF0.out _ HB6.out
        have f1 := HF1.out _ HB6.out
        have hq : ((s2.size : Int).tmod (rLen wide a : Int)) = 0 := by rw [← Int.ofNat_tmod, hmod]; rfl
        have hz24 := HZ24.out
        have HSIZE := Lib.hid (fun u => rsize_any big wide a u)
        clear hmod HZ24 HRA2
        generalize s2.size / rLen wide a = q5 at *
        generalize rLen wide a = z at *
        have hzn : (z : Int) ≠ 0 := by omega
        go_wp2_with fail
        refine (HSIZE.out _).mono ?_
        rintro e w6 ⟨rfl, h6⟩
        have HB7 := Lib.hid (HB6.out.trans (h6.mono HB6.out.size))
        replace HROW5 := Lib.hid (HROW5.out.low h6)
        clear h6 f0 f1
        have f0 := HF0.out _ HB7.out
        have f1 := HF1.out _ HB7.out
        go_wp2_with fail
        refine (HPB.out _ HROW5.out).mono ?_
        rintro e w7 ⟨rfl, h7⟩
        have HB8 := Lib.hid (HE.out _ (HB7.out.trans (h7.mono HB7.out.size)))
        clear h7 f0 f1
        go_wp2
        go_ret
        exact ⟨by simp, HB8.out⟩
      · have HB6 := Lib.hid (HB3.out.trans (h5.mono HB3.out.size))
        clear h5 f0 f1
        have f0 := HF0.out _ HB6.out
        have f1 := HF1.out _ HB6.out
        obtain ⟨rm, hq, hne⟩ : ∃ rm : Int, (s2.size : Int).tmod (rLen wide a : Int) = rm ∧ (rm == 0) = false := ⟨_, rfl, by rw [← Int.ofNat_tmod, beq_eq_false_iff_ne]; omega⟩
        have hne2 : ¬ rm = 0 := by simpa using hne
        have hz24 := HZ24.out
        have HSIZE := Lib.hid (fun u => rsize_any big wide a u)
        have HPB := Lib.hid (fun u => putAll_any big wide a none 0 0 (fun _ => ⟨0, 0, 0, 0⟩) (fun _ => ⟨#[]⟩) (fun _ => true) (by omega) (fun i hi => absurd hi (Nat.not_lt_zero _)) (fun i hi => absurd hi (Nat.not_lt_zero _)) u (fun i hi => absurd hi (Nat.not_lt_zero _)))
        have hpv0 : putV (fun _ => ⟨#[]⟩) (fun _ => true) 0 = .tuple #[.string ⟨#[]⟩, .bool true] := rfl
        rw [hpv0] at HPB
        clear hmod HZ24 HRA2 hpv0
        generalize rLen wide a = z at *
        have hzn : (z : Int) ≠ 0 := by omega
        go_wp2_with fail
        refine (HSIZE.out _).mono ?_
        rintro e w6 ⟨rfl, h6⟩
        have HB7 := Lib.hid (HB6.out.trans (h6.mono HB6.out.size))
        clear h6 f0 f1
        have f0 := HF0.out _ HB7.out
        have f1 := HF1.out _ HB7.out
        go_wp2_with fail
        refine (HPB.out _).mono ?_
        rintro e w7 ⟨rfl, h7⟩
        have HB8 := Lib.hid (HE.out _ (HB7.out.trans (h7.mono HB7.out.size)))
        clear h7 f0 f1
        go_wp2
        go_ret
        exact ⟨by simp, HB8.out⟩
    · obtain ⟨hTs, hTr⟩ := all_back (fun i _ => HP.out i) hall
      have hpv : putV S ok m = .tuple #[.string ⟨(catR S m).toArray⟩, .bool true] := by unfold putV; rw [hall]; rfl
      rw [hpv] at HPA
      clear hpv
      generalize ByteArray.mk (catR S m).toArray = T at *
      have hz24 := HZ24.out
      have hT : T.size ≤ 240 := by
        rw [hTs]
        exact Nat.le_trans (Nat.mul_le_mul hm10 hz24.2) (by omega)
      have hmod : T.size % rLen wide a = 0 := by rw [hTs]; exact Nat.mul_mod_left _ _
      have hdiv : T.size / rLen wide a = m := by rw [hTs]; exact Nat.mul_div_cancel _ (by omega)
      have hfl := flatR_congr m hTr
      have HRA := Lib.hid (fun u => readAll_any big wide a T (by omega) u)
      have HMOD := Lib.hid hmod; have HDIV := Lib.hid hdiv; have HFL := Lib.hid hfl
      clear hmod hdiv hfl hTs hTr hT hz24
      go_wp2_with fail
      refine HPA.out.mono ?_
      rintro e w3 ⟨rfl, h3⟩
      have HB3 := Lib.hid (HBC.out.trans (h3.mono HBC.out.size))
      replace HROW9 := Lib.hid (HROW9.out.low h3)
      clear h3 f0 f1
      have f0 := HF0.out _ HB3.out
      have f1 := HF1.out _ HB3.out
      go_wp2_with fail
      refine (HRA.out _).mono ?_
      rintro e w4 ⟨h4, ⟨hmod, v4, rfl, hown4⟩ | ⟨hmod, rfl⟩⟩
      rotate_left
      · exact absurd HMOD.out hmod
      rw [HDIV.out, HFL.out] at hown4
      obtain ⟨A4, c4, rfl, hrow4⟩ := own_rowR hown4
      replace HROW9 := Lib.hid (HROW9.out.low h4)
      have HROW4 := Lib.hid hrow4
      have HB4 := Lib.hid (HB3.out.trans (h4.mono HB3.out.size))
      clear h4 f0 f1 hmod hown4 hrow4 HB3
      go_wp2
      go_loopw [19] (fun i wr => ∃ k : Nat, k ≤ m ∧ i = .int .i64 (k : Int) ∧ Below w4.heap.size w4 wr) (fun i _ => m - (intOf i).toNat)
      case atStart => exact ⟨0, Nat.zero_le _, rfl, Below.refl _ _⟩
      case round =>
        obtain ⟨k, hk, rfl, hB⟩ := hrel
        have HB5 := Lib.hid hB; clear hB
        by_cases hlt : k < m
        · have d1 : (k : Int) < (m : Int) := by omega
          have d0 : (0 : Int) ≤ (k : Int) := by omega
          have k1 : k + 1 ≤ 1048576 := by omega
          obtain ⟨b, o, rfl, hbl, _⟩ := HROW9.out k hlt
          obtain ⟨b4, o4, rfl, hbl4, _⟩ := HROW4.out k hlt
          have HX : Hid (∀ u, Below wr.heap.size wr u → u.cell? ⟨b, o + k * 4, none⟩ = some (.int .u64 ((R k).off : Nat)) ∧ u.cell? ⟨b, o + k * 4 + 1, none⟩ = some (.int .u64 ((R k).sym : Nat)) ∧ u.cell? ⟨b, o + k * 4 + 2, none⟩ = some (.int .u64 ((R k).ty : Nat)) ∧ u.cell? ⟨b, o + k * 4 + 3, none⟩ = some (.int .u64 ((R k).add : Nat))) := Lib.hid (fun u hu => by
            obtain ⟨b', o', e, _, h0, h1, h2, h3⟩ := HROW9.out.low (HB5.out.trans (hu.mono HB5.out.size)) k hlt
            injection e with e; injection e with e e2; subst e; subst e2
            exact ⟨h0, h1, h2, h3⟩)
          have HY : Hid (∀ u, Below wr.heap.size wr u → u.cell? ⟨b4, o4 + k * 4, none⟩ = some (.int .u64 ((R k).off : Nat)) ∧ u.cell? ⟨b4, o4 + k * 4 + 1, none⟩ = some (.int .u64 ((R k).sym : Nat)) ∧ u.cell? ⟨b4, o4 + k * 4 + 2, none⟩ = some (.int .u64 ((R k).ty : Nat)) ∧ u.cell? ⟨b4, o4 + k * 4 + 3, none⟩ = some (.int .u64 ((R k).add : Nat))) := Lib.hid (fun u hu => by
            obtain ⟨b', o', e, _, h0, h1, h2, h3⟩ := HROW4.out.low (HB5.out.trans (hu.mono HB5.out.size)) k hlt
            injection e with e; injection e with e e2; subst e; subst e2
            exact ⟨h0, h1, h2, h3⟩)
          generalize R k = r at *
          obtain ⟨ro, rs, rt, ra⟩ := r
          have X0 := Lib.hid (fun u h => (HX.out u h).1)
          have X1 := Lib.hid (fun u h => (HX.out u h).2.1)
          have X2 := Lib.hid (fun u h => (HX.out u h).2.2.1)
          have X3 := Lib.hid (fun u h => (HX.out u h).2.2.2)
          have Y0 := Lib.hid (fun u h => (HY.out u h).1)
          have Y1 := Lib.hid (fun u h => (HY.out u h).2.1)
          have Y2 := Lib.hid (fun u h => (HY.out u h).2.2.1)
          have Y3 := Lib.hid (fun u h => (HY.out u h).2.2.2)
          go_upto_region 23 with (fail)
          refine wp_region_held_drew (S := fun w' => Below wr.heap.size wr w') (by kernel_rfl) ?_ (fun hHeld => ?_)
          · exact (Below.refl _ _).drew
          refine wpAnyH_take (i := 0) (oi := { dst := some 118, op := Go.Op.move (Go.Operand.tmp 17), type := 61, pos := "law.go:92", after := #[], guard := none }) (v := ?_) rfl (by kernel_rfl) (by kernel_rfl) (by kernel_rfl) (fun _ _ _ h => h) (Or.inl ⟨by rfl, ?_⟩) (by assumption) ?_
          rotate_left
          · (intro w hSw; (try dsimp only at hSw); go_simp <;> with_reducible rfl)
          try simp only [Act.put, List.setIfInBounds_toArray, List.set_cons_zero, List.set_cons_succ]
          refine wpAnyH_take (i := 1) (oi := { dst := some 119, op := Go.Op.move (Go.Operand.tmp 19), type := 3, pos := "law.go:92", after := #[], guard := none }) (v := ?_) rfl (by kernel_rfl) (by kernel_rfl) (by kernel_rfl) (fun _ _ _ h => h) (Or.inl ⟨by rfl, ?_⟩) (by assumption) ?_
          rotate_left
          · (intro w hSw; (try dsimp only at hSw); go_simp <;> with_reducible rfl)
          try simp only [Act.put, List.setIfInBounds_toArray, List.set_cons_zero, List.set_cons_succ]
          refine wpAnyH_take (i := 4) (oi := { dst := some 122, op := Go.Op.move (Go.Operand.tmp 9), type := 61, pos := "law.go:92", after := #[], guard := none }) (v := ?_) rfl (by kernel_rfl) (by kernel_rfl) (by kernel_rfl) (fun _ _ _ h => h) (Or.inl ⟨by rfl, ?_⟩) (by assumption) ?_
          rotate_left
          · (intro w hSw; (try dsimp only at hSw); go_simp <;> with_reducible rfl)
          try simp only [Act.put, List.setIfInBounds_toArray, List.set_cons_zero, List.set_cons_succ]
          refine wpAnyH_take (i := 5) (oi := { dst := some 123, op := Go.Op.move (Go.Operand.tmp 19), type := 3, pos := "law.go:92", after := #[], guard := none }) (v := ?_) rfl (by kernel_rfl) (by kernel_rfl) (by kernel_rfl) (fun _ _ _ h => h) (Or.inl ⟨by rfl, ?_⟩) (by assumption) ?_
          rotate_left
          · (intro w hSw; (try dsimp only at hSw); go_simp <;> with_reducible rfl)
          try simp only [Act.put, List.setIfInBounds_toArray, List.set_cons_zero, List.set_cons_succ]
          refine wpAnyH_take (i := 2) (oi := { dst := some 120, op := Go.Op.indexAddr 61 (Go.Operand.tmp 118) (Go.Operand.tmp 119), type := 0, pos := "law.go:92", after := #[{ on := 0, ground := Go.Ground.data }, { on := 1, ground := Go.Ground.data }], guard := none }) (v := ?_) rfl (by kernel_rfl) (by kernel_rfl) (by kernel_rfl) (fun _ _ _ h => h) (Or.inl ⟨by rfl, ?_⟩) (by assumption) ?_
          rotate_left
          · (intro w hSw; (try dsimp only at hSw); go_simp <;> with_reducible rfl)
          try simp only [Act.put, List.setIfInBounds_toArray, List.set_cons_zero, List.set_cons_succ]
          refine wpAnyH_take (i := 6) (oi := { dst := some 124, op := Go.Op.indexAddr 61 (Go.Operand.tmp 122) (Go.Operand.tmp 123), type := 0, pos := "law.go:92", after := #[{ on := 4, ground := Go.Ground.data }, { on := 5, ground := Go.Ground.data }], guard := none }) (v := ?_) rfl (by kernel_rfl) (by kernel_rfl) (by kernel_rfl) (fun _ _ _ h => h) (Or.inl ⟨by rfl, ?_⟩) (by assumption) ?_
          rotate_left
          · (intro w hSw; (try dsimp only at hSw); go_simp <;> with_reducible rfl)
          try simp only [Act.put, List.setIfInBounds_toArray, List.set_cons_zero, List.set_cons_succ]
          refine wpAnyH_take (i := 3) (oi := { dst := some 121, op := Go.Op.load 49 (Go.Operand.tmp 120), type := 49, pos := "law.go:92", after := #[{ on := 2, ground := Go.Ground.data }], guard := none }) (v := ?_) rfl (by kernel_rfl) (by kernel_rfl) (by kernel_rfl) (fun _ _ _ h => h) (Or.inl ⟨by rfl, ?_⟩) (by assumption) ?_
          rotate_left
          · (intro w hSw; have q0 := Y0.out w hSw; have q1 := Y1.out w hSw; have q2 := Y2.out w hSw; have q3 := Y3.out w hSw; (try dsimp only at hSw); go_simp <;> with_reducible rfl)
          try simp only [Act.put, List.setIfInBounds_toArray, List.set_cons_zero, List.set_cons_succ]
          refine wpAnyH_take (i := 7) (oi := { dst := some 125, op := Go.Op.load 49 (Go.Operand.tmp 124), type := 49, pos := "law.go:92", after := #[{ on := 6, ground := Go.Ground.data }], guard := none }) (v := ?_) rfl (by kernel_rfl) (by kernel_rfl) (by kernel_rfl) (fun _ _ _ h => h) (Or.inl ⟨by rfl, ?_⟩) (by assumption) ?_
          rotate_left
          · (intro w hSw; have q0 := X0.out w hSw; have q1 := X1.out w hSw; have q2 := X2.out w hSw; have q3 := X3.out w hSw; (try dsimp only at hSw); go_simp <;> with_reducible rfl)
          try simp only [Act.put, List.setIfInBounds_toArray, List.set_cons_zero, List.set_cons_succ]
          refine wpAnyH_take (i := 8) (oi := { dst := some 126, op := Go.Op.binOp Go.BinOp.neq 49 (Go.Operand.tmp 121) (Go.Operand.tmp 125) 49, type := 4, pos := "law.go:92", after := #[{ on := 3, ground := Go.Ground.data }, { on := 7, ground := Go.Ground.data }], guard := none }) (v := ?_) rfl (by kernel_rfl) (by kernel_rfl) (by kernel_rfl) (fun _ _ _ h => h) (Or.inl ⟨by rfl, ?_⟩) (by assumption) ?_
          rotate_left
          · (intro w hSw; (try dsimp only at hSw); go_simp <;> with_reducible rfl)
          try simp only [Act.put, List.setIfInBounds_toArray, List.set_cons_zero, List.set_cons_succ]
          refine wpAnyH_done (by kernel_rfl) ?_ _
          have HB6 := Lib.hid (HB5.out.trans (hHeld.mono HB5.out.size))
          clear hHeld
          go_wp2
          exact ⟨⟨k + 1, by omega, by go_num, HB6.out⟩, by simp [intOf]; omega⟩
        · obtain rfl : k = m := by omega
          have HB3 := Lib.hid (HB4.out.trans (HB5.out.mono HB4.out.size))
          go_upto_region 25 with (fail)
          have hnn : n ≤ 100 ∧ n ≤ s.size := by rcases HS.out with ⟨h1, h2⟩ | ⟨h1, h2⟩ <;> omega
          have n0 : (0 : Int) ≤ (n : Int) := by omega
          have n1 : (n : Int) ≤ (s.size : Int) := by omega
          have n2 : min (s.size : Int) 100 = (n : Int) := by rcases HS.out with ⟨h1, h2⟩ | ⟨h1, h2⟩ <;> omega
          have n3 : (if (s.size : Int) ≤ 100 then (s.size : Int) else 100) = (n : Int) := by rcases HS.out with ⟨h1, h2⟩ | ⟨h1, h2⟩ <;> split <;> omega
          have hs2 : (s.extract 0 n).size ≤ 100 := by simp; omega
          go_upto_region 26 with (fail)
          generalize s.extract 0 n = s2 at *
          clear n0 n1 n2 n3 hnn
          have HRA2 := Lib.hid (fun u => readAll_any big wide a s2 (by omega) u)
          have f0 := HF0.out _ HB3.out
          have f1 := HF1.out _ HB3.out
          go_wp2_with fail
          refine (HRA2.out _).mono ?_
          rintro e w5 ⟨h5, ⟨hmod, v5, rfl, hown5⟩ | ⟨hmod, rfl⟩⟩
          · obtain ⟨A5, c5, rfl, hrow5⟩ := own_rowR hown5
            have HB6 := Lib.hid (HB3.out.trans (h5.mono HB3.out.size))
            have HPB := Lib.hid (fun u h => putAll_back big wide a s2 hs2 hmod A5 c5 _ rfl u h)
            have HROW5 := Lib.hid hrow5
            clear hown5 hrow5 h5 f0 f1
            have f0 := HF0.out _ HB6.out
            have f1 := HF1.out _ HB6.out
            have hq : ((s2.size : Int).tmod (rLen wide a : Int)) = 0 := by rw [← Int.ofNat_tmod, hmod]; rfl
            have hz24 := HZ24.out
            have HSIZE := Lib.hid (fun u => rsize_any big wide a u)
            clear hmod HZ24 HRA2
            generalize s2.size / rLen wide a = q5 at *
            generalize rLen wide a = z at *
            have hzn : (z : Int) ≠ 0 := by omega
            go_wp2_with fail
            refine (HSIZE.out _).mono ?_
            rintro e w6 ⟨rfl, h6⟩
            have HB7 := Lib.hid (HB6.out.trans (h6.mono HB6.out.size))
            replace HROW5 := Lib.hid (HROW5.out.low h6)
            clear h6 f0 f1
            have f0 := HF0.out _ HB7.out
            have f1 := HF1.out _ HB7.out
            go_wp2_with fail
            refine (HPB.out _ HROW5.out).mono ?_
            rintro e w7 ⟨rfl, h7⟩
            have HB8 := Lib.hid (HE.out _ (HB7.out.trans (h7.mono HB7.out.size)))
            clear h7 f0 f1
            go_wp2
            go_ret
            exact ⟨by simp, HB8.out⟩
          · have HB6 := Lib.hid (HB3.out.trans (h5.mono HB3.out.size))
            clear h5 f0 f1
            have f0 := HF0.out _ HB6.out
            have f1 := HF1.out _ HB6.out
            obtain ⟨rm, hq, hne⟩ : ∃ rm : Int, (s2.size : Int).tmod (rLen wide a : Int) = rm ∧ (rm == 0) = false := ⟨_, rfl, by rw [← Int.ofNat_tmod, beq_eq_false_iff_ne]; omega⟩
            have hne2 : ¬ rm = 0 := by simpa using hne
            have hz24 := HZ24.out
            have HSIZE := Lib.hid (fun u => rsize_any big wide a u)
            have HPB := Lib.hid (fun u => putAll_any big wide a none 0 0 (fun _ => ⟨0, 0, 0, 0⟩) (fun _ => ⟨#[]⟩) (fun _ => true) (by omega) (fun i hi => absurd hi (Nat.not_lt_zero _)) (fun i hi => absurd hi (Nat.not_lt_zero _)) u (fun i hi => absurd hi (Nat.not_lt_zero _)))
            have hpv0 : putV (fun _ => ⟨#[]⟩) (fun _ => true) 0 = .tuple #[.string ⟨#[]⟩, .bool true] := rfl
            rw [hpv0] at HPB
            clear hmod HZ24 HRA2 hpv0
            generalize rLen wide a = z at *
            have hzn : (z : Int) ≠ 0 := by omega
            go_wp2_with fail
            refine (HSIZE.out _).mono ?_
            rintro e w6 ⟨rfl, h6⟩
            have HB7 := Lib.hid (HB6.out.trans (h6.mono HB6.out.size))
            clear h6 f0 f1
            have f0 := HF0.out _ HB7.out
            have f1 := HF1.out _ HB7.out
            go_wp2_with fail
            refine (HPB.out _).mono ?_
            rintro e w7 ⟨rfl, h7⟩
            have HB8 := Lib.hid (HE.out _ (HB7.out.trans (h7.mono HB7.out.size)))
            clear h7 f0 f1
            go_wp2
            go_ret
            exact ⟨by simp, HB8.out⟩
end Go.Proofs.Ytddlflabdlgnbaa
