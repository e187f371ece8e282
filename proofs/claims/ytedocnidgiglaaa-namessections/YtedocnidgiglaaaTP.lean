/- The walk of NamesAll. Conditions: those written in each theorem. -/
import Derived.Test.YtedocnidgiglaaaTN
import Derived.Test.YtedocnidgiglaaaJD
import Derived.Deep.QuietTactic
import Derived.BigQuiet
namespace Go.Proofs.Ytedocnidgiglaaa
open Go.RowKit
set_option linter.unusedVariables false
set_option maxRecDepth 1000000 in
set_option maxHeartbeats 4000000 in
theorem nreg3 (Q : Exit → Act → World → Prop) (c2 c3 c4 c5 c6 c7 c8 c9 c10 c11 c12 c13 c14 c15 c16 c17 c18 c19 c20 c21 c22 c23 c24 c25 c26 c27 c28 c29 c30 c31 c32 c33 c34 c35 c36 c37 c38 c39 c40 c41 c42 c43 c44 c45 c46 c47 c48 c49 c50 c51 c52 c53 c54 c55 c56 c57 c58 c59 c60 c61 c62 c63 c64 c65 c66 c67 c68 c69 c70 c71 c72 c73 c74 c75 c76 c77 c78 c79 c80 c81 c82 c83 c84 c85 c86 c87 c88 c89 c90 c91 c92 c93 c94 c95 c96 c97 c98 c99 c100 c101 : Value) (s T : ByteArray) (A : Option Addr) (n cap m : Nat) (m1 : Nat) (W : World) (mT1 : (if (s.size : Int) ≤ 100 then (s.size : Int) else 100) = (m1 : Int)) (mT2 : min (s.size : Int) 100 = (m1 : Int)) (tT0 : (0 : Int) ≤ (m1 : Int)) (tT1 : (m1 : Int) ≤ (s.size : Int)) (eT : s.extract 0 (m1 : Int).toNat = T) (eT2 : s.extract 0 m1 = T) (n1 : (if (n : Int) ≤ 20 then (n : Int) else 20) = (m : Int)) (n3 : min (n : Int) 20 = (m : Int)) (q5 : (0 : Int) ≤ (m : Int)) (q3 : (m : Int) ≤ (cap : Int))
    (hP : ∀ c a w i v, Q (.panic c) (a.put (some i) v) w → Q (.panic c) a w)
    (hQ : ∀ (u17 u18 u19 u20 u21 u22 u23 u24 u25 u26 : Value) (w' : World), Below W.heap.size W w' → Q .normal ⟨#[.string T, .slice A m cap, c2, c3, c4, c5, c6, c7, c8, c9, c10, c11, c12, c13, c14, c15, c16, u17, u18, u19, u20, u21, u22, u23, u24, u25, u26, c27, c28, c29, c30, c31, c32, c33, c34, c35, c36, c37, c38, c39, c40, c41, c42, c43, c44, c45, c46, c47, c48, c49, c50, c51, c52, c53, c54, c55, c56, c57, c58, c59, c60, c61, c62, c63, c64, c65, c66, c67, c68, c69, c70, c71, c72, c73, c74, c75, c76, c77, c78, c79, c80, c81, c82, c83, c84, c85, c86, c87, c88, c89, c90, c91, c92, c93, c94, c95, c96, c97, c98, c99, c100, c101], []⟩ w') :
    (Code.region 3 #[{ dst := some 17, op := Go.Op.move (Go.Operand.tmp 0), type := 9, pos := "law.go:91", after := #[], guard := none }, { dst := some 18, op := Go.Op.move (Go.Operand.tmp 0), type := 9, pos := "law.go:91", after := #[], guard := none }, { dst := some 19, op := Go.Op.call { callee := Go.Callee.builtin Go.Builtin.len, args := #[Go.Operand.tmp 18], argTypes := #[9] }, type := 3, pos := "law.go:91", after := #[{ on := 1, ground := Go.Ground.data }], guard := none }, { dst := some 20, op := Go.Op.call { callee := Go.Callee.builtin Go.Builtin.min, args := #[Go.Operand.tmp 19, Go.Operand.const (Go.Value.int Go.IntKind.i64 100)], argTypes := #[3, 3] }, type := 3, pos := "law.go:91", after := #[{ on := 2, ground := Go.Ground.data }], guard := none }, { dst := some 21, op := Go.Op.slice 9 (Go.Operand.tmp 17) none (some (Go.Operand.tmp 20)) none, type := 9, pos := "law.go:91", after := #[{ on := 0, ground := Go.Ground.data }, { on := 3, ground := Go.Ground.data }], guard := none }, { dst := some 22, op := Go.Op.move (Go.Operand.tmp 1), type := 76, pos := "law.go:91", after := #[], guard := none }, { dst := some 23, op := Go.Op.move (Go.Operand.tmp 1), type := 76, pos := "law.go:91", after := #[], guard := none }, { dst := some 24, op := Go.Op.call { callee := Go.Callee.builtin Go.Builtin.len, args := #[Go.Operand.tmp 23], argTypes := #[76] }, type := 3, pos := "law.go:91", after := #[{ on := 6, ground := Go.Ground.data }], guard := none }, { dst := some 25, op := Go.Op.call { callee := Go.Callee.builtin Go.Builtin.min, args := #[Go.Operand.tmp 24, Go.Operand.const (Go.Value.int Go.IntKind.i64 20)], argTypes := #[3, 3] }, type := 3, pos := "law.go:91", after := #[{ on := 7, ground := Go.Ground.data }], guard := none }, { dst := some 26, op := Go.Op.slice 76 (Go.Operand.tmp 22) none (some (Go.Operand.tmp 25)) none, type := 76, pos := "law.go:91", after := #[{ on := 5, ground := Go.Ground.data }, { on := 8, ground := Go.Ground.data }], guard := none }, { dst := some 0, op := Go.Op.assign (Go.Operand.tmp 21), type := 9, pos := "law.go:91", after := #[{ on := 4, ground := Go.Ground.data }, { on := 0, ground := Go.Ground.phase }, { on := 1, ground := Go.Ground.phase }, { on := 2, ground := Go.Ground.phase }, { on := 3, ground := Go.Ground.phase }, { on := 4, ground := Go.Ground.phase }, { on := 5, ground := Go.Ground.textOnly Go.Departure.lateStores }, { on := 6, ground := Go.Ground.textOnly Go.Departure.lateStores }, { on := 7, ground := Go.Ground.textOnly Go.Departure.lateStoresUnsure }, { on := 8, ground := Go.Ground.textOnly Go.Departure.lateStoresUnsure }, { on := 9, ground := Go.Ground.textOnly Go.Departure.lateStoresUnsure }], guard := none }, { dst := some 1, op := Go.Op.assign (Go.Operand.tmp 26), type := 76, pos := "law.go:91", after := #[{ on := 9, ground := Go.Ground.data }, { on := 10, ground := Go.Ground.chain }, { on := 0, ground := Go.Ground.phase }, { on := 1, ground := Go.Ground.phase }, { on := 2, ground := Go.Ground.phase }, { on := 3, ground := Go.Ground.phase }, { on := 4, ground := Go.Ground.phase }, { on := 5, ground := Go.Ground.phase }, { on := 6, ground := Go.Ground.phase }, { on := 7, ground := Go.Ground.phase }, { on := 8, ground := Go.Ground.phase }, { on := 9, ground := Go.Ground.phase }, { on := 10, ground := Go.Ground.phase }], guard := none }] true).wp Try.prog Q ⟨#[.string s, .slice A n cap, c2, c3, c4, c5, c6, c7, c8, c9, c10, c11, c12, c13, c14, c15, c16, c17, c18, c19, c20, c21, c22, c23, c24, c25, c26, c27, c28, c29, c30, c31, c32, c33, c34, c35, c36, c37, c38, c39, c40, c41, c42, c43, c44, c45, c46, c47, c48, c49, c50, c51, c52, c53, c54, c55, c56, c57, c58, c59, c60, c61, c62, c63, c64, c65, c66, c67, c68, c69, c70, c71, c72, c73, c74, c75, c76, c77, c78, c79, c80, c81, c82, c83, c84, c85, c86, c87, c88, c89, c90, c91, c92, c93, c94, c95, c96, c97, c98, c99, c100, c101], []⟩ W := by
  try dsimp only at hQ ⊢
  have HQ := Lib.hid hQ; clear hQ
  refine wp_region_held_drew (S := fun w' => Below W.heap.size W w') (by kernel_rfl) ?_ (fun hHeld => ?_)
  · exact (Below.refl _ _).drew
  generalize W.drew = W0 at *
  refine wpAnyH_take (i := 0) (oi := { dst := some 17, op := Go.Op.move (Go.Operand.tmp 0), type := 9, pos := "law.go:91", after := #[], guard := none }) (v := ?_) rfl (by kernel_rfl) (by kernel_rfl) (by kernel_rfl) (fun c a w h => hP c a w _ _ h) (Or.inl ⟨by rfl, ?_⟩) (by assumption) ?_
  rotate_left
  · (intro w hSw; (try dsimp only at hSw); go_simp <;> with_reducible rfl)
  try simp only [Act.put, List.setIfInBounds_toArray, List.set_cons_zero, List.set_cons_succ]
  refine wpAnyH_take (i := 1) (oi := { dst := some 18, op := Go.Op.move (Go.Operand.tmp 0), type := 9, pos := "law.go:91", after := #[], guard := none }) (v := ?_) rfl (by kernel_rfl) (by kernel_rfl) (by kernel_rfl) (fun c a w h => hP c a w _ _ h) (Or.inl ⟨by rfl, ?_⟩) (by assumption) ?_
  rotate_left
  · (intro w hSw; (try dsimp only at hSw); go_simp <;> with_reducible rfl)
  try simp only [Act.put, List.setIfInBounds_toArray, List.set_cons_zero, List.set_cons_succ]
  refine wpAnyH_take (i := 5) (oi := { dst := some 22, op := Go.Op.move (Go.Operand.tmp 1), type := 76, pos := "law.go:91", after := #[], guard := none }) (v := ?_) rfl (by kernel_rfl) (by kernel_rfl) (by kernel_rfl) (fun c a w h => hP c a w _ _ h) (Or.inl ⟨by rfl, ?_⟩) (by assumption) ?_
  rotate_left
  · (intro w hSw; (try dsimp only at hSw); go_simp <;> with_reducible rfl)
  try simp only [Act.put, List.setIfInBounds_toArray, List.set_cons_zero, List.set_cons_succ]
  refine wpAnyH_take (i := 6) (oi := { dst := some 23, op := Go.Op.move (Go.Operand.tmp 1), type := 76, pos := "law.go:91", after := #[], guard := none }) (v := ?_) rfl (by kernel_rfl) (by kernel_rfl) (by kernel_rfl) (fun c a w h => hP c a w _ _ h) (Or.inl ⟨by rfl, ?_⟩) (by assumption) ?_
  rotate_left
  · (intro w hSw; (try dsimp only at hSw); go_simp <;> with_reducible rfl)
  try simp only [Act.put, List.setIfInBounds_toArray, List.set_cons_zero, List.set_cons_succ]
  refine wpAnyH_take (i := 2) (oi := { dst := some 19, op := Go.Op.call { callee := Go.Callee.builtin Go.Builtin.len, args := #[Go.Operand.tmp 18], argTypes := #[9] }, type := 3, pos := "law.go:91", after := #[{ on := 1, ground := Go.Ground.data }], guard := none }) (v := ?_) rfl (by kernel_rfl) (by kernel_rfl) (by kernel_rfl) (fun c a w h => hP c a w _ _ h) (Or.inl ⟨by rfl, ?_⟩) (by assumption) ?_
  rotate_left
  · (intro w hSw; (try dsimp only at hSw); go_simp <;> with_reducible rfl)
  try simp only [Act.put, List.setIfInBounds_toArray, List.set_cons_zero, List.set_cons_succ]
  refine wpAnyH_take (i := 7) (oi := { dst := some 24, op := Go.Op.call { callee := Go.Callee.builtin Go.Builtin.len, args := #[Go.Operand.tmp 23], argTypes := #[76] }, type := 3, pos := "law.go:91", after := #[{ on := 6, ground := Go.Ground.data }], guard := none }) (v := ?_) rfl (by kernel_rfl) (by kernel_rfl) (by kernel_rfl) (fun c a w h => hP c a w _ _ h) (Or.inl ⟨by rfl, ?_⟩) (by assumption) ?_
  rotate_left
  · (intro w hSw; (try dsimp only at hSw); go_simp <;> with_reducible rfl)
  try simp only [Act.put, List.setIfInBounds_toArray, List.set_cons_zero, List.set_cons_succ]
  refine wpAnyH_take (i := 3) (oi := { dst := some 20, op := Go.Op.call { callee := Go.Callee.builtin Go.Builtin.min, args := #[Go.Operand.tmp 19, Go.Operand.const (Go.Value.int Go.IntKind.i64 100)], argTypes := #[3, 3] }, type := 3, pos := "law.go:91", after := #[{ on := 2, ground := Go.Ground.data }], guard := none }) (v := ?_) rfl (by kernel_rfl) (by kernel_rfl) (by kernel_rfl) (fun c a w h => hP c a w _ _ h) (Or.inl ⟨by rfl, ?_⟩) (by assumption) ?_
  rotate_left
  · (intro w hSw; (try dsimp only at hSw); go_simp <;> with_reducible rfl)
  try simp only [Act.put, List.setIfInBounds_toArray, List.set_cons_zero, List.set_cons_succ]
  refine wpAnyH_take (i := 8) (oi := { dst := some 25, op := Go.Op.call { callee := Go.Callee.builtin Go.Builtin.min, args := #[Go.Operand.tmp 24, Go.Operand.const (Go.Value.int Go.IntKind.i64 20)], argTypes := #[3, 3] }, type := 3, pos := "law.go:91", after := #[{ on := 7, ground := Go.Ground.data }], guard := none }) (v := ?_) rfl (by kernel_rfl) (by kernel_rfl) (by kernel_rfl) (fun c a w h => hP c a w _ _ h) (Or.inl ⟨by rfl, ?_⟩) (by assumption) ?_
  rotate_left
  · (intro w hSw; (try dsimp only at hSw); go_simp <;> with_reducible rfl)
  try simp only [Act.put, List.setIfInBounds_toArray, List.set_cons_zero, List.set_cons_succ]
  refine wpAnyH_take (i := 4) (oi := { dst := some 21, op := Go.Op.slice 9 (Go.Operand.tmp 17) none (some (Go.Operand.tmp 20)) none, type := 9, pos := "law.go:91", after := #[{ on := 0, ground := Go.Ground.data }, { on := 3, ground := Go.Ground.data }], guard := none }) (v := ?_) rfl (by kernel_rfl) (by kernel_rfl) (by kernel_rfl) (fun c a w h => hP c a w _ _ h) (Or.inl ⟨by rfl, ?_⟩) (by assumption) ?_
  rotate_left
  · (intro w hSw; (try dsimp only at hSw); go_simp <;> with_reducible rfl)
  try simp only [Act.put, List.setIfInBounds_toArray, List.set_cons_zero, List.set_cons_succ]
  refine wpAnyH_take (i := 9) (oi := { dst := some 26, op := Go.Op.slice 76 (Go.Operand.tmp 22) none (some (Go.Operand.tmp 25)) none, type := 76, pos := "law.go:91", after := #[{ on := 5, ground := Go.Ground.data }, { on := 8, ground := Go.Ground.data }], guard := none }) (v := ?_) rfl (by kernel_rfl) (by kernel_rfl) (by kernel_rfl) (fun c a w h => hP c a w _ _ h) (Or.inl ⟨by rfl, ?_⟩) (by assumption) ?_
  rotate_left
  · (intro w hSw; (try dsimp only at hSw); go_simp <;> with_reducible rfl)
  try simp only [Act.put, List.setIfInBounds_toArray, List.set_cons_zero, List.set_cons_succ]
  refine wpAnyH_take (i := 10) (oi := { dst := some 0, op := Go.Op.assign (Go.Operand.tmp 21), type := 9, pos := "law.go:91", after := #[{ on := 4, ground := Go.Ground.data }, { on := 0, ground := Go.Ground.phase }, { on := 1, ground := Go.Ground.phase }, { on := 2, ground := Go.Ground.phase }, { on := 3, ground := Go.Ground.phase }, { on := 4, ground := Go.Ground.phase }, { on := 5, ground := Go.Ground.textOnly Go.Departure.lateStores }, { on := 6, ground := Go.Ground.textOnly Go.Departure.lateStores }, { on := 7, ground := Go.Ground.textOnly Go.Departure.lateStoresUnsure }, { on := 8, ground := Go.Ground.textOnly Go.Departure.lateStoresUnsure }, { on := 9, ground := Go.Ground.textOnly Go.Departure.lateStoresUnsure }], guard := none }) (v := ?_) rfl (by kernel_rfl) (by kernel_rfl) (by kernel_rfl) (fun c a w h => hP c a w _ _ h) (Or.inl ⟨by rfl, ?_⟩) (by assumption) ?_
  rotate_left
  · (intro w hSw; (try dsimp only at hSw); go_simp <;> with_reducible rfl)
  try simp only [Act.put, List.setIfInBounds_toArray, List.set_cons_zero]
  refine wpAnyH_take (i := 11) (oi := { dst := some 1, op := Go.Op.assign (Go.Operand.tmp 26), type := 76, pos := "law.go:91", after := #[{ on := 9, ground := Go.Ground.data }, { on := 10, ground := Go.Ground.chain }, { on := 0, ground := Go.Ground.phase }, { on := 1, ground := Go.Ground.phase }, { on := 2, ground := Go.Ground.phase }, { on := 3, ground := Go.Ground.phase }, { on := 4, ground := Go.Ground.phase }, { on := 5, ground := Go.Ground.phase }, { on := 6, ground := Go.Ground.phase }, { on := 7, ground := Go.Ground.phase }, { on := 8, ground := Go.Ground.phase }, { on := 9, ground := Go.Ground.phase }, { on := 10, ground := Go.Ground.phase }], guard := none }) (v := ?_) rfl (by kernel_rfl) (by kernel_rfl) (by kernel_rfl) (fun c a w h => hP c a w _ _ h) (Or.inl ⟨by rfl, ?_⟩) (by assumption) ?_
  rotate_left
  · (intro w hSw; (try dsimp only at hSw); go_simp <;> with_reducible rfl)
  try simp only [Act.put, List.setIfInBounds_toArray, List.set_cons_zero, List.set_cons_succ]
  refine wpAnyH_done (by kernel_rfl) ?_ _
  exact HQ.out _ _ _ _ _ _ _ _ _ _ _ hHeld
set_option maxRecDepth 1000000 in
set_option maxHeartbeats 4000000 in
theorem namesAll_core (s T nm : ByteArray) (A : Option Addr) (n cap m1 m : Nat) (R : Nat → Nat) (hm1 : (s.size ≤ 100 ∧ m1 = s.size) ∨ (100 < s.size ∧ m1 = 100)) (hm : (n ≤ 20 ∧ m = n) ∨ (20 < n ∧ m = 20)) (hT : s.extract 0 m1 = T) (hnc : n ≤ cap) (w : World) (hR : RowU w A n R) :
    Calls Try.prog 8 #[.string s, .slice A n cap, .string nm] w fun e w' => e = .returned (.bool true) ∧ Below w.heap.size w w' := by
  have hTs : T.size ≤ 100 := by rw [← hT]; simp; omega
  have HM1 := Lib.hid hm1; have HM := Lib.hid hm; have HT := Lib.hid hT; have hm20 : m ≤ 20 := by omega
  have hmn : m ≤ n := by omega
  have HR := Lib.hid (hR.less hmn); clear hR hm1 hm hT
  go_enter Try.func8, Try.ntmps8
  go_wp2_with fail
  refine (speaks_any _).mono ?_
  rintro e w1 ⟨rfl, hb1⟩
  have HB1 := Lib.hid hb1; clear hb1
  go_upto_region 3 with (fail)
  refine nreg3 _ _ _ _ _ _ _ _ _ _ _ _ _ _ _ _ _ _ _ _ _ _ _ _ _ _ _ _ _ _ _ _ _ _ _ _ _ _ _ _ _ _ _ _ _ _ _ _ _ _ _ _ _ _ _ _ _ _ _ _ _ _ _ _ _ _ _ _ _ _ _ _ _ _ _ _ _ _ _ _ _ _ _ _ _ _ _ _ _ _ _ _ _ _ _ _ _ _ _ _ _ s T A n cap m m1 w1 (by have := HM1.out; split <;> omega) (by have := HM1.out; omega) (by omega) (by have := HM1.out; omega) (by rw [Int.toNat_natCast]; exact HT.out) HT.out (by have := HM.out; split <;> omega) (by have := HM.out; omega) (by omega) (by have := HM.out; omega) (fun _ _ _ _ _ h => h) (fun u17 u18 u19 u20 u21 u22 u23 u24 u25 u26 w2 b2 => ?_)
  have HB2 := Lib.hid (HB1.out.trans (b2.mono HB1.out.size)); clear b2 HB1 HM1 HM HT
  have HA := Lib.hid (all_any T A m cap R (by omega) (by unfold maxLen; omega) w2 (HR.out.low HB2.out))
  go_wp2_with fail
  refine HA.out.mono ?_
  rintro e w3 ⟨b3, h3⟩
  have HB3 := Lib.hid (HB2.out.trans (b3.mono HB2.out.size)); clear HA
  have HN := Lib.hid (refNames_any T A m cap R (by omega) (by unfold maxLen; omega) w3 (HR.out.low HB3.out))
  rcases h3 with ⟨hall, b, hb, rfl, hrow⟩ | ⟨hall, rfl⟩
  · have HROW := Lib.hid (rowS_of_block hrow); have HALL := Lib.hid hall; clear hrow hall b3 hb HB2
    go_wp2_with fail
    refine HN.out.mono ?_
    rintro e w4 ⟨b4, ⟨_, A4, c4, rfl, hrow4⟩ | ⟨hno, _⟩⟩
    · have HROW4 := Lib.hid hrow4; have HROWB := Lib.hid (HROW.out.low b4); have HB4 := Lib.hid (HB3.out.trans (b4.mono HB3.out.size)); clear b4 hrow4 HROW HB3 HN
      obtain ⟨f, hf⟩ : ∃ f, f = fun i => strAt T (R i) := ⟨_, rfl⟩
      rw [← hf] at HROW4 HROWB
      clear hf
      have k0 : (0 : Int) ≤ (m : Int) := by omega
      have k1 : (m : Int) ≤ 20 := by omega
      go_wp2
      go_loopw [11, 12] (fun v i wr => ∃ z : Int, -1 ≤ z ∧ z < (m : Int) ∧ i = .int .i64 z ∧ v = .int .i64 (fstZ f nm m z) ∧ Below w4.heap.size w4 wr) (fun _ i _ => (intOf i + 1).toNat)
      case atStart => exact ⟨_, by omega, by omega, rfl, by rw [fstZ_start], Below.refl _ _⟩
      case round =>
        obtain ⟨z, hz0, hz1, rfl, rfl, hB⟩ := hrel
        have HB := Lib.hid hB; clear hB
        by_cases hlt : 0 ≤ z
        · obtain ⟨k, rfl⟩ : ∃ k : Nat, z = (k : Int) := ⟨z.toNat, by omega⟩
          have hkm : k < m := by omega
          obtain ⟨bb, o, e1, hbl, hc1⟩ := HROWB.out.low HB.out k hkm
          obtain ⟨bc, oc, rfl, hbl2, hc2⟩ := HROW4.out.low HB.out k hkm
          cases e1
          rw [Nat.zero_add] at hc1
          have HST := Lib.hid (fstZ_step f nm m k hkm)
          have kk0 : (0 : Int) ≤ (k : Int) := by omega
          have kk1 : (k : Int) < (m : Int) := by omega
          by_cases he : f k = nm
          · rw [if_pos he] at HST
            rw [he] at hc1 hc2
            clear he
            generalize fstZ f nm m (k : Int) = z1 at *
            go_upto_region 12 with (fail)
            go_quiet (fail)
            go_wp2
            exact ⟨⟨_, by omega, by omega, rfl, by rw [HST.out], HB.out.trans ⟨rfl, rfl, rfl, Nat.le_refl _, fun _ _ => rfl⟩⟩, by simp [intOf] <;> omega⟩
          · rw [if_neg he] at HST
            have he2 := str_ne (fun h => he h.symm)
            have he3 := str_ne he
            clear he
            generalize f k = y at *
            generalize fstZ f nm m (k : Int) = z1 at *
            go_upto_region 12 with (fail)
            go_quiet (fail)
            go_wp2
            exact ⟨⟨_, by omega, by omega, rfl, by rw [HST.out], HB.out.trans ⟨rfl, rfl, rfl, Nat.le_refl _, fun _ _ => rfl⟩⟩, by simp [intOf] <;> omega⟩
        · obtain rfl : z = -1 := by omega
          have HF := Lib.hid (find_any (some ⟨b, 0, none⟩) m m f nm (by omega) wr (HROWB.out.low HB.out))
          have hend := fstZ_end f nm m
          rw [hend]
          clear hend
          by_cases hfd : findN f nm m < m
          · have e : idxV f nm m = ((findN f nm m : Nat) : Int) := by unfold idxV; rw [if_pos hfd]
            rw [e]
            rw [if_pos hfd, decide_eq_true hfd] at HF
            clear e hfd
            generalize findN f nm m = q at *
            have q0 : (0 : Int) ≤ (q : Int) := by omega
            go_wp2_with (go_at_call 35; with_reducible refine HF.out.mono ?_; rintro e w6 ⟨rfl, rfl⟩)
            go_ret
            exact ⟨rfl, HB4.out.trans (HB.out.mono HB4.out.size)⟩
          · have e : idxV f nm m = -1 := by unfold idxV; rw [if_neg hfd]
            rw [e]
            rw [if_neg hfd, decide_eq_false hfd] at HF
            clear e hfd
            go_wp2_with (go_at_call 35; with_reducible refine HF.out.mono ?_; rintro e w6 ⟨rfl, rfl⟩)
            go_ret
            exact ⟨rfl, HB4.out.trans (HB.out.mono HB4.out.size)⟩
    · rw [HALL.out] at hno; cases hno
  · have HALL := Lib.hid hall; clear hall b3 HB2
    go_wp2_with fail
    refine HN.out.mono ?_
    rintro e w4 ⟨b4, ⟨hno, _⟩ | ⟨_, rfl⟩⟩
    · rw [HALL.out] at hno; cases hno
    · have HB4 := Lib.hid (HB3.out.trans (b4.mono HB3.out.size)); clear b4 HB3 HN
      have HF := Lib.hid (find_any none 0 0 (fun _ => nm) nm (by omega) w4 (fun i hi => absurd hi (Nat.not_lt_zero _)))
      rw [if_neg (Nat.not_lt_zero _), decide_eq_false (Nat.not_lt_zero _)] at HF
      go_wp2
      refine wp_loop_rounds 1 ?_
      rw [rounds_succ]
      go_wp2_with (go_at_call 35; with_reducible refine HF.out.mono ?_; rintro e w6 ⟨rfl, rfl⟩)
      go_ret
      exact ⟨rfl, HB4.out⟩
theorem namesAll_wf (s : ByteArray) (A : Option Addr) (n cap : Nat) (zs : List Int) (nm : ByteArray) (w : World) (h : IsRow .u64 w A n cap zs) :
    Calls Try.prog 8 #[.string s, .slice A n cap, .string nm] w fun e w' => e = .returned (.bool true) ∧ Below w.heap.size w w' :=
  namesAll_core s _ nm A n cap (min s.size 100) (min n 20) _ (by omega) (by omega) rfl h.le_cap w h.rowU
end Go.Proofs.Ytedocnidgiglaaa
