/- The walk of TopRecords. Conditions: those written in each theorem. -/
import Derived.Laws.CopyOwn
import Derived.Laws.Tables
import Derived.OwnWalk
import Derived.Deep.CutBlock
import Derived.Deep.DeepCutAuto
import Derived.Test.YtnmklmaclmjfbaaQK
import Derived.Test.YtnmklmaclmjfbaaQL
namespace Go.Proofs.Ytnmklmaclmjfbaa
open Go.RowKit
set_option linter.unusedVariables false
set_option maxRecDepth 100000 in
set_option maxHeartbeats 8000000 in
theorem trec_t (fl : Int) (A : Option Addr) (len cap m : Nat) (R : Nat → Nat → Nat) (hm : (len ≤ 12 ∧ m = len) ∨ (12 < len ∧ m = 12)) (hlc : len ≤ 9223372036854775807) (hn : ∀ i, i < len → ∀ j, j < 3 → R i j < 4294967296)
    (big wide : Bool) (hb : (bits BinOp.and IntKind.i64 fl 1 == 1) = big) (hw : (bits BinOp.and IntKind.i64 fl 2 == 2) = wide)
    (T : Nat → ByteArray) (hT : ∀ i, i < m → RecP big wide (i % 4) (R i 0) (R i 1) (R i 2) (T i)) (w : World) (hR : RowT3 w A len R) :
    Calls Try.prog 9 #[.int .i64 fl, .slice A len cap] w fun e w' => e = .returned (.bool true) ∧ Below w.heap.size w w' := by
  have hm12 : m ≤ 12 ∧ m ≤ len := by rcases hm with ⟨h1, h2⟩ | ⟨h1, h2⟩ <;> omega
  have hcl : ∀ k, k ≤ m → (catR T k).length ≤ k * 64 := fun k hk => catR_len T 64 k (fun i hi => by rw [(hT i (by omega)).1]; exact (sizA_le wide _).2)
  obtain ⟨H, hHs, hHp, hHr⟩ := head_is big wide
  have hH48 : H.size ≤ 48 := by rw [hHs]; cases wide <;> decide
  have hclm := hcl m (Nat.le_refl _)
  have HCR := Lib.hid (fun u => read_upR big wide H T m (by omega) u)
  have HT := Lib.hid hT; have HN := Lib.hid hn; have HR := Lib.hid hR; have HM := Lib.hid hm
  have HHP := Lib.hid hHp; have HHR := Lib.hid hHr; have HCL := Lib.hid hcl; have HHS := Lib.hid hHs
  have HPL := Lib.hid (fun u => eplain big wide u); have HCK := Lib.hid (fun u => check_ok big wide u); have HES := Lib.hid (fun u => esize big wide u)
  have HTF := Lib.hid (fun u => tform fl big wide hb hw u)
  have HUZ := Lib.hid (upR_zero big wide H T)
  have hsz16 := upR_size big wide H T m
  have HU16 := Lib.hid (upR_16 big wide H T m); have HUC := Lib.hid (upR_cut big wide H T m _ hHs)
  have HT0 : Hid ((H ++ tailR T m 0).size ≤ 1048576) := Lib.hid (by rw [ByteArray.size_append, tail_all]; have : (ByteArray.mk (catR T m).toArray).size = (catR T m).length := by simp [ByteArray.size]
                                                                    omega)
  have hez : eLen wide ≤ 48 := by cases wide <;> decide
  have HADD0 := Lib.hid (add_str ⟨(identL big wide 0 0 []).toArray⟩ H (by have : (ByteArray.mk (identL big wide 0 0 []).toArray).size = 16 := by simp only [ByteArray.size, List.size_toArray, identL_length]
                                                                          omega))
  clear hT hn hR hm hHp hHr hcl hb hw hHs
  generalize ehs wide = eh at *
  generalize phs wide = ph at *
  generalize shs wide = sh at *
  go_enter Try.func9, Try.ntmps9
  go_wp2_with fail
  refine (trecords _).mono ?_
  rintro e w1 ⟨rfl, h1⟩
  go_wp2_with fail
  refine (HTF.out _).mono ?_
  rintro e w2 ⟨rfl, h2⟩
  have b2 : Below w.heap.size w w2 := h1.trans (h2.mono h1.size)
  clear h1 h2
  go_upto_region 4 with (fail)
  have hW := below_more b2 (.cells #[.bool big, .bool wide] 34)
  have F0 : (w2.alloc (.cells #[.bool big, .bool wide] 34)).cell? ⟨w2.heap.size, 0, none⟩ = some (.bool big) := by simp
  have F1 : (w2.alloc (.cells #[.bool big, .bool wide] 34)).cell? ⟨w2.heap.size, 1, none⟩ = some (.bool wide) := by simp
  have hz : w2.heap.size < (w2.alloc (.cells #[.bool big, .bool wide] 34)).heap.size := by simp
  generalize (w2.alloc (.cells #[.bool big, .bool wide] 34)) = W1 at *
  generalize w2.heap.size = bx at *
  have HWW := Lib.hid hW
  have HF0 : Hid (∀ u, Below W1.heap.size W1 u → u.cell? ⟨bx, 0, none⟩ = some (.bool big)) := Lib.hid (fun u h => (h.cell (by exact hz)).trans F0)
  have HF1 : Hid (∀ u, Below W1.heap.size W1 u → u.cell? ⟨bx, 1, none⟩ = some (.bool wide)) := Lib.hid (fun u h => (h.cell (by exact hz)).trans F1)
  have HE : Hid (∀ u, Below W1.heap.size W1 u → Below w.heap.size w u) := Lib.hid (fun u h => HWW.out.trans (h.mono HWW.out.size))
  have hzw : w.heap.size ≤ W1.heap.size := hW.size
  clear b2 hW
  go_wp2_with fail
  refine (bytes0 big wide _).mono ?_
  rintro e w4 ⟨rfl, h4⟩
  have HB4 := Lib.hid h4
  clear h4 F0 F1
  have G0 : Hid (∀ u, Below w4.heap.size w4 u → u.cell? ⟨bx, 0, none⟩ = some (.bool big)) := Lib.hid (fun u h => HF0.out u (HB4.out.trans (h.mono HB4.out.size)))
  have G1 : Hid (∀ u, Below w4.heap.size w4 u → u.cell? ⟨bx, 1, none⟩ = some (.bool wide)) := Lib.hid (fun u h => HF1.out u (HB4.out.trans (h.mono HB4.out.size)))
  go_upto_region 5 with (fail)
  refine wp_region_held_drew (S := fun w' => Below w4.heap.size w4 w') (by kernel_rfl) ?_ (fun hHeld => ?_)
  · exact (Below.refl _ _).drew
  refine wpAnyH_take (i := 0) (oi := { dst := some 41, op := Go.Op.load 34 (Go.Operand.tmp 5), type := 34, pos := "top05.go:33", after := #[], guard := none }) (v := ?_) rfl (by kernel_rfl) (by kernel_rfl) (by kernel_rfl) (fun _ _ _ h => h) (Or.inl ⟨by rfl, ?_⟩) (by assumption) ?_
  rotate_left
  · (intro w hSw; have q0 := G0.out w hSw; have q1 := G1.out w hSw; (try dsimp only at hSw); go_simp <;> with_reducible rfl)
  try simp only [Act.put, List.setIfInBounds_toArray, List.set_cons_zero, List.set_cons_succ]
  refine wpAnyH_take (i := 1) (oi := { dst := some 42, op := Go.Op.load 34 (Go.Operand.tmp 5), type := 34, pos := "top05.go:33", after := #[], guard := none }) (v := ?_) rfl (by kernel_rfl) (by kernel_rfl) (by kernel_rfl) (fun _ _ _ h => h) (Or.inl ⟨by rfl, ?_⟩) (by assumption) ?_
  rotate_left
  · (intro w hSw; have q0 := G0.out w hSw; have q1 := G1.out w hSw; (try dsimp only at hSw); go_simp <;> with_reducible rfl)
  try simp only [Act.put, List.setIfInBounds_toArray, List.set_cons_zero, List.set_cons_succ]
  refine wpAnyH_ready (rs := [2]) (by kernel_rfl) (by simp) ?_
  refine AllReadyH.cons (o := { dst := some 43, op := Go.Op.call { callee := Go.Callee.value (Go.Operand.func 36), args := #[Go.Operand.tmp 42], argTypes := #[34] }, type := 38, pos := "top05.go:33", after := #[{ on := 1, ground := Go.Ground.data }], guard := none }) rfl (fun K hK => ?_) AllReadyH.nil
  (first | go_at_call 36 | (go_simp; go_at_call 36))
  refine (HPL.out _).mono ?_
  rintro e w5 ⟨rfl, h5⟩
  try go_wp2_with fail
  refine hK.out _ _ ?_ (fun hHeld2 => ?_)
  · exact hHeld.trans (h5.mono hHeld.size)
  clear hK K
  try simp only [Act.put, List.setIfInBounds_toArray, List.set_cons_zero, List.set_cons_succ]
  refine wpAnyH_ready (rs := [3]) (by kernel_rfl) (by simp) ?_
  refine AllReadyH.cons (o := { dst := some 44, op := Go.Op.call { callee := Go.Callee.value (Go.Operand.func 35), args := #[Go.Operand.tmp 41, Go.Operand.tmp 43], argTypes := #[34, 38] }, type := 92, pos := "top05.go:33", after := #[{ on := 0, ground := Go.Ground.data }, { on := 2, ground := Go.Ground.data }, { on := 2, ground := Go.Ground.chain }], guard := none }) rfl (fun K hK => ?_) AllReadyH.nil
  (first | go_at_call 35 | (go_simp; go_at_call 35))
  refine (HHP.out _).mono ?_
  rintro e w6 ⟨rfl, h6⟩
  try go_wp2_with fail
  refine hK.out _ _ ?_ (fun hHeld3 => ?_)
  · exact hHeld2.trans (h6.mono hHeld2.size)
  clear hK K
  try simp only [Act.put, List.setIfInBounds_toArray, List.set_cons_zero, List.set_cons_succ]
  refine wpAnyH_take (i := 4) (oi := { dst := some 40, op := Go.Op.move (Go.Operand.tmp 44), type := 92, pos := "top05.go:33", after := #[{ on := 3, ground := Go.Ground.data }], guard := none }) (v := ?_) rfl (by kernel_rfl) (by kernel_rfl) (by kernel_rfl) (fun _ _ _ h => h) (Or.inl ⟨by rfl, ?_⟩) (by assumption) ?_
  rotate_left
  · (intro w hSw; (try dsimp only at hSw); go_simp <;> with_reducible rfl)
  try simp only [Act.put, List.setIfInBounds_toArray, List.set_cons_zero, List.set_cons_succ]
  refine wpAnyH_take (i := 5) (oi := { dst := some 45, op := Go.Op.extract (Go.Operand.tmp 40) 0, type := 9, pos := "top05.go:33", after := #[{ on := 4, ground := Go.Ground.data }], guard := none }) (v := ?_) rfl (by kernel_rfl) (by kernel_rfl) (by kernel_rfl) (fun _ _ _ h => h) (Or.inl ⟨by rfl, ?_⟩) (by assumption) ?_
  rotate_left
  · (intro w hSw; (try dsimp only at hSw); go_simp <;> with_reducible rfl)
  try simp only [Act.put, List.setIfInBounds_toArray, List.set_cons_zero, List.set_cons_succ]
  refine wpAnyH_take (i := 6) (oi := { dst := some 46, op := Go.Op.extract (Go.Operand.tmp 40) 1, type := 4, pos := "top05.go:33", after := #[{ on := 4, ground := Go.Ground.data }, { on := 7, ground := Go.Ground.gcOnly Go.Departure.lateStores }], guard := none }) (v := ?_) rfl (by kernel_rfl) (by kernel_rfl) (by kernel_rfl) (fun _ _ _ h => h) (Or.inl ⟨by rfl, ?_⟩) (by assumption) ?_
  rotate_left
  · (intro w hSw; (try dsimp only at hSw); go_simp <;> with_reducible rfl)
  try simp only [Act.put, List.setIfInBounds_toArray, List.set_cons_zero, List.set_cons_succ]
  refine wpAnyH_take (i := 7) (oi := { dst := some 7, op := Go.Op.assign (Go.Operand.tmp 45), type := 9, pos := "top05.go:33", after := #[{ on := 5, ground := Go.Ground.data }, { on := 3, ground := Go.Ground.chain }, { on := 0, ground := Go.Ground.phase }, { on := 1, ground := Go.Ground.phase }, { on := 2, ground := Go.Ground.phase }, { on := 3, ground := Go.Ground.phase }, { on := 4, ground := Go.Ground.phase }, { on := 5, ground := Go.Ground.phase }, { on := 6, ground := Go.Ground.textOnly Go.Departure.lateStores }], guard := none }) (v := ?_) rfl (by kernel_rfl) (by kernel_rfl) (by kernel_rfl) (fun _ _ _ h => h) (Or.inl ⟨by rfl, ?_⟩) (by assumption) ?_
  rotate_left
  · (intro w hSw; (try dsimp only at hSw); go_simp <;> with_reducible rfl)
  try simp only [Act.put, List.setIfInBounds_toArray, List.set_cons_zero, List.set_cons_succ]
  refine wpAnyH_take (i := 8) (oi := { dst := some 8, op := Go.Op.assign (Go.Operand.tmp 46), type := 4, pos := "top05.go:33", after := #[{ on := 6, ground := Go.Ground.data }, { on := 7, ground := Go.Ground.chain }, { on := 0, ground := Go.Ground.phase }, { on := 1, ground := Go.Ground.phase }, { on := 2, ground := Go.Ground.phase }, { on := 3, ground := Go.Ground.phase }, { on := 4, ground := Go.Ground.phase }, { on := 5, ground := Go.Ground.phase }, { on := 6, ground := Go.Ground.phase }, { on := 7, ground := Go.Ground.phase }], guard := none }) (v := ?_) rfl (by kernel_rfl) (by kernel_rfl) (by kernel_rfl) (fun _ _ _ h => h) (Or.inl ⟨by rfl, ?_⟩) (by assumption) ?_
  rotate_left
  · (intro w hSw; (try dsimp only at hSw); go_simp <;> with_reducible rfl)
  try simp only [Act.put, List.setIfInBounds_toArray, List.set_cons_zero, List.set_cons_succ]
  refine wpAnyH_done (by kernel_rfl) ?_ _
  have HB6 := Lib.hid (HB4.out.trans (hHeld3.mono HB4.out.size))
  clear hHeld hHeld2 hHeld3 h5 h6 G0 G1
  have hadd0 := HADD0.out
  have huz := HUZ.out
  go_upto_block 0 with (fail)
  refine blk0 _ _ _ _ _ _ _ _ _ _ _ _ _ _ _ _ _ _ _ _ _ _ _ _ _ _ _ _ _ _ _ _ _ _ _ _ _ _ _ _ _ _ _ _ _ _ _ _ _ _ _ _ _ _ _ _ _ _ _ _ _ _ _ _ _ _ _ _ _ _ _ _ _ _ _ _ _ _ _ _ _ _ _ _ _ _ _ _ _ _ _ _ _ _ _ _ _ _ _ _ _ _ _ _ _ _ _ _ _ _ _ _ _ _ _ _ _ _ _ _ _ _ _ _ _ _ _ _ _ _ _ _ _ _ _ _ _ _ _ _ _ _ _ _ _ _ _ _ _ _ _ _ _ _ _ _ _ _ _ _ _ _ _ _ _ _ _ _ _ _ _ _ _ _ _ _ _ _ _ _ _ _ _ _ _ _ _ _ _ _ _ _ _ _ _ _ _ _ _ _ _ _ _ _ _ _ _ _ _ _ _ _ _ _ _ _ _ _ _ _ _ _ _ _ _ _ _ _ _ _ _ _ _ _ _ _ _ _ _ _ _ _ _ _ _ _ _ _ _ _ _ _ _ _ _ _ _ _ _ _ _ _ _ _ _ _ _ _ _ _ _ _ _ _ _ _ _ _ _ _ _ _ _ _ _ _ _ _ _ _ _ _ _ _ _ _ _ _ _ _ _ _ _ _ _ _ _ _ _ _ _ _ _ _ _ _ _ _ _ _ _ _ _ _ _ _ _ _ _ _ _ _ _ _ _ _ _ _ _ _ _ _ A len cap m R big wide H T bx w W1 _ hm12 hH48 hclm hlc HT HN HR HM HF0 HF1 HE hz HB6 HCL (fun _ _ _ _ _ h => h) (fun u4 u9 u10 u11 u12 u13 u14 u50 u51 u52 u53 u54 u55 u56 u57 u58 u59 u60 u61 u62 u63 u64 u65 u66 u67 u68 u69 u70 u71 u72 u73 u74 u75 u76 u77 u78 u79 u80 u81 u82 u83 u84 u85 u86 u87 u88 u89 u90 u91 u92 u93 u94 u95 u96 u97 u98 u99 u100 u101 u102 u103 u104 u105 u106 u107 u108 u109 u110 u111 u112 u113 u114 u115 u116 u117 u118 u119 u120 u121 u122 u123 u124 u125 u126 u127 u128 u129 u130 u131 u132 u133 u134 wc hB => ?_)
  have HBC := Lib.hid hB; clear hB
  have f0 := HF0.out _ HBC.out
  have f1 := HF1.out _ HBC.out
  have h16 : (16 : Int) ≤ ((upR big wide H T m).size : Int) := by omega
  have hzs : (16 : Int) + (eLen wide : Int) ≤ ((upR big wide H T m).size : Int) := by have := HHS.out; omega
  have hu16 := HU16.out
  have huc := HUC.out
  clear hsz16 hadd0 huz
  generalize upR big wide H T m = sm at *
  go_wp2_with fail
  refine (HCR.out _).mono ?_
  rintro e w3 ⟨rfl, h3⟩
  have HB3 := Lib.hid (HBC.out.trans (h3.mono HBC.out.size))
  have zb3 : bx < w3.heap.size := by have h1 := HB3.out.size; omega
  clear h3 f0 f1
  have f0 := HF0.out _ HB3.out
  have f1 := HF1.out _ HB3.out
  go_upto_region 26 with (fail)
  have hW2 := below_more HB3.out (.cells #[.bool big, .bool wide, .int .u8 0, .int .u8 0, .string ⟨#[0, 0, 0, 0, 0, 0, 0]⟩] 36)
  generalize (w3.alloc (.cells #[.bool big, .bool wide, .int .u8 0, .int .u8 0, .string ⟨#[0, 0, 0, 0, 0, 0, 0]⟩] 36)) = W2 at *
  have HBW2 := Lib.hid hW2; clear hW2 f0 f1 zb3
  have G0 : Hid (∀ u, Below W2.heap.size W2 u → u.cell? ⟨bx, 0, none⟩ = some (.bool big)) := Lib.hid (fun u h => HF0.out u (HBW2.out.trans (h.mono HBW2.out.size)))
  have G1 : Hid (∀ u, Below W2.heap.size W2 u → u.cell? ⟨bx, 1, none⟩ = some (.bool wide)) := Lib.hid (fun u h => HF1.out u (HBW2.out.trans (h.mono HBW2.out.size)))
  have HUC2 := Lib.hid huc; have HZS := Lib.hid hzs; clear huc hzs
  have HMS : Hid ((H ++ tailR T m 0).size ≤ 1048576) := HT0
  go_cut [17, 18] (fun x ok wr => ∃ bh, x = .pointer (some ⟨bh, 0, none⟩) ∧ ok = .bool true ∧ wr.heap[bh]? = some (.cells #[.int .u64 0, .int .u64 0, .int .u64 1, .int .u64 0, .int .u64 0, .int .u64 0, .int .u64 0, .int .u64 (eh : Nat), .int .u64 (ph : Nat), .int .u64 0, .int .u64 (sh : Nat), .int .u64 0, .int .u64 0] 38 (0, 0)) ∧ Below W1.heap.size W1 wr)
  case first =>
    refine wp_region_held_drew (S := fun w' => Below W2.heap.size W2 w') (by kernel_rfl) ?_ (fun hHeld => ?_)
    · exact (Below.refl _ _).drew
    refine wpAnyH_take (i := 0) (oi := { dst := some 149, op := Go.Op.load 34 (Go.Operand.tmp 5), type := 34, pos := "top05.go:57", after := #[], guard := none }) (v := ?_) rfl (by kernel_rfl) (by kernel_rfl) (by kernel_rfl) (fun _ _ _ h => h) (Or.inl ⟨by rfl, ?_⟩) (by assumption) ?_
    rotate_left
    · (intro w hSw; have q0 := G0.out w hSw; have q1 := G1.out w hSw; (try dsimp only at hSw); go_simp <;> with_reducible rfl)
    try simp only [Act.put, List.setIfInBounds_toArray, List.set_cons_zero, List.set_cons_succ]
    refine wpAnyH_take (i := 1) (oi := { dst := some 150, op := Go.Op.move (Go.Operand.tmp 6), type := 9, pos := "top05.go:57", after := #[], guard := none }) (v := ?_) rfl (by kernel_rfl) (by kernel_rfl) (by kernel_rfl) (fun _ _ _ h => h) (Or.inl ⟨by rfl, ?_⟩) (by assumption) ?_
    rotate_left
    · (intro w hSw; (try dsimp only at hSw); go_simp <;> with_reducible rfl)
    try simp only [Act.put, List.setIfInBounds_toArray, List.set_cons_zero, List.set_cons_succ]
    refine wpAnyH_take (i := 2) (oi := { dst := some 151, op := Go.Op.slice 9 (Go.Operand.tmp 150) (some (Go.Operand.const (Go.Value.int Go.IntKind.i64 16))) none none, type := 9, pos := "top05.go:57", after := #[{ on := 1, ground := Go.Ground.data }], guard := none }) (v := ?_) rfl (by kernel_rfl) (by kernel_rfl) (by kernel_rfl) (fun _ _ _ h => h) (Or.inl ⟨by rfl, ?_⟩) (by assumption) ?_
    rotate_left
    · (intro w hSw; (try dsimp only at hSw); go_simp <;> with_reducible rfl)
    try simp only [Act.put, List.setIfInBounds_toArray, List.set_cons_zero, List.set_cons_succ]
    refine wpAnyH_ready (rs := [3, 7]) (by kernel_rfl) (by simp) ?_
    refine (AllReadyH.cons (o := { dst := some 152, op := Go.Op.call { callee := Go.Callee.value (Go.Operand.func 42), args := #[Go.Operand.tmp 149, Go.Operand.tmp 151], argTypes := #[34, 9] }, type := 107, pos := "top05.go:57", after := #[{ on := 0, ground := Go.Ground.data }, { on := 2, ground := Go.Ground.data }], guard := none }) rfl (fun K hK => ?_) (AllReadyH.cons (o := { dst := some 17, op := Go.Op.alloc 38, type := 0, pos := "top05.go:57", after := #[], guard := none }) rfl (fun K hK => ?_) AllReadyH.nil))
    · (first | go_at_call 42 | (go_simp; go_at_call 42))
      refine (HHR.out _ _ HMS.out).mono ?_
      rintro e w6 ⟨rfl, h6⟩
      try go_wp2_with fail
      refine hK.out _ _ ?_ (fun hHeld2 => ?_)
      · exact hHeld.trans (h6.mono hHeld.size)
      clear hK K
      try simp only [Act.put, List.setIfInBounds_toArray, List.set_cons_zero, List.set_cons_succ]
      refine wpAnyH_take (i := 4) (oi := { dst := some 148, op := Go.Op.move (Go.Operand.tmp 152), type := 107, pos := "top05.go:57", after := #[{ on := 3, ground := Go.Ground.data }], guard := none }) (v := ?_) rfl (by kernel_rfl) (by kernel_rfl) (by kernel_rfl) (fun _ _ _ h => h) (Or.inl ⟨by rfl, ?_⟩) (by assumption) ?_
      rotate_left
      · (intro w hSw; (try dsimp only at hSw); go_simp <;> with_reducible rfl)
      try simp only [Act.put, List.setIfInBounds_toArray, List.set_cons_zero, List.set_cons_succ]
      refine wpAnyH_take (i := 5) (oi := { dst := some 153, op := Go.Op.extract (Go.Operand.tmp 148) 0, type := 38, pos := "top05.go:57", after := #[{ on := 4, ground := Go.Ground.data }], guard := none }) (v := ?_) rfl (by kernel_rfl) (by kernel_rfl) (by kernel_rfl) (fun _ _ _ h => h) (Or.inl ⟨by rfl, ?_⟩) (by assumption) ?_
      rotate_left
      · (intro w hSw; (try dsimp only at hSw); go_simp <;> with_reducible rfl)
      try simp only [Act.put, List.setIfInBounds_toArray, List.set_cons_zero, List.set_cons_succ]
      refine wpAnyH_take (i := 6) (oi := { dst := some 154, op := Go.Op.extract (Go.Operand.tmp 148) 1, type := 4, pos := "top05.go:57", after := #[{ on := 4, ground := Go.Ground.data }, { on := 8, ground := Go.Ground.gcOnly Go.Departure.lateStores }], guard := none }) (v := ?_) rfl (by kernel_rfl) (by kernel_rfl) (by kernel_rfl) (fun _ _ _ h => h) (Or.inl ⟨by rfl, ?_⟩) (by assumption) ?_
      rotate_left
      · (intro w hSw; (try dsimp only at hSw); go_simp <;> with_reducible rfl)
      try simp only [Act.put, List.setIfInBounds_toArray, List.set_cons_zero, List.set_cons_succ]
      refine wpAnyH_ready (rs := [7]) (by kernel_rfl) (by simp) ?_
      refine AllReadyH.cons (o := { dst := some 17, op := Go.Op.alloc 38, type := 0, pos := "top05.go:57", after := #[], guard := none }) rfl (fun K hK => ?_) AllReadyH.nil
      try go_simp
      refine hK.out _ _ ?_ (fun hHeld3_3 => ?_)
      · exact hHeld2.alloc hHeld2.size _
      clear hK K
      try simp only [Act.put, List.setIfInBounds_toArray, List.set_cons_zero, List.set_cons_succ]
      refine wpAnyH_ready (rs := [8]) (by kernel_rfl) (by simp) ?_
      refine AllReadyH.cons (o := { dst := none, op := Go.Op.store 38 (Go.Operand.tmp 17) (Go.Operand.tmp 153), type := 0, pos := "top05.go:57", after := #[{ on := 7, ground := Go.Ground.data }, { on := 5, ground := Go.Ground.data }, { on := 3, ground := Go.Ground.chain }, { on := 0, ground := Go.Ground.phase }, { on := 1, ground := Go.Ground.phase }, { on := 2, ground := Go.Ground.phase }, { on := 3, ground := Go.Ground.phase }, { on := 4, ground := Go.Ground.phase }, { on := 5, ground := Go.Ground.phase }, { on := 6, ground := Go.Ground.textOnly Go.Departure.lateStores }, { on := 7, ground := Go.Ground.phase }], guard := none }) rfl (fun K hK => ?_) AllReadyH.nil
      refine wp_store_row 38 _ _ rfl w6.heap.size #[.int .u64 0, .int .u64 0, .int .u64 1, .int .u64 0, .int .u64 0, .int .u64 0, .int .u64 0, .int .u64 (eh : Nat), .int .u64 (ph : Nat), .int .u64 0, .int .u64 (sh : Nat), .int .u64 0, .int .u64 0] (by rfl) (by rfl) 38 #[.int .u64 0, .int .u64 0, .int .u64 0, .int .u64 0, .int .u64 0, .int .u64 0, .int .u64 0, .int .u64 0, .int .u64 0, .int .u64 0, .int .u64 0, .int .u64 0, .int .u64 0] (heap_alloc_new _ _) (by kernel_rfl) rfl (by simp [Value.oneCell']) ?_
      refine hK.out _ _ ?_ (fun hHeld4_3_7 => ?_)
      · exact below_setRow hHeld3_3 (by have := hHeld3_3.size; have := hHeld2.size; omega) _
      clear hK K
      try simp only [Act.put]
      refine wpAnyH_take (i := 9) (oi := { dst := some 18, op := Go.Op.assign (Go.Operand.tmp 154), type := 4, pos := "top05.go:57", after := #[{ on := 6, ground := Go.Ground.data }, { on := 8, ground := Go.Ground.chain }, { on := 0, ground := Go.Ground.phase }, { on := 1, ground := Go.Ground.phase }, { on := 2, ground := Go.Ground.phase }, { on := 3, ground := Go.Ground.phase }, { on := 4, ground := Go.Ground.phase }, { on := 5, ground := Go.Ground.phase }, { on := 6, ground := Go.Ground.phase }, { on := 7, ground := Go.Ground.phase }, { on := 8, ground := Go.Ground.phase }], guard := none }) (v := ?_) rfl (by kernel_rfl) (by kernel_rfl) (by kernel_rfl) (fun _ _ _ h => h) (Or.inl ⟨by rfl, ?_⟩) (by assumption) ?_
      rotate_left
      · (intro w hSw; (try dsimp only at hSw); go_simp <;> with_reducible rfl)
      try simp only [Act.put, List.setIfInBounds_toArray, List.set_cons_zero, List.set_cons_succ]
      refine wpAnyH_done (by kernel_rfl) ?_ _
      have hHx := hHeld4_3_7
      have hrow : ((w6.alloc (.cells #[.int .u64 0, .int .u64 0, .int .u64 0, .int .u64 0, .int .u64 0, .int .u64 0, .int .u64 0, .int .u64 0, .int .u64 0, .int .u64 0, .int .u64 0, .int .u64 0, .int .u64 0] 38)).setRow w6.heap.size #[.int .u64 0, .int .u64 0, .int .u64 1, .int .u64 0, .int .u64 0, .int .u64 0, .int .u64 0, .int .u64 (eh : Nat), .int .u64 (ph : Nat), .int .u64 0, .int .u64 (sh : Nat), .int .u64 0, .int .u64 0]).heap[w6.heap.size]? = some (.cells #[.int .u64 0, .int .u64 0, .int .u64 1, .int .u64 0, .int .u64 0, .int .u64 0, .int .u64 0, .int .u64 (eh : Nat), .int .u64 (ph : Nat), .int .u64 0, .int .u64 (sh : Nat), .int .u64 0, .int .u64 0] 38 (0, 0)) := setRow_heap _ _ #[.int .u64 0, .int .u64 0, .int .u64 0, .int .u64 0, .int .u64 0, .int .u64 0, .int .u64 0, .int .u64 0, .int .u64 0, .int .u64 0, .int .u64 0, .int .u64 0, .int .u64 0] _ _ _ (heap_alloc_new _ _)
      have HHX := Lib.hid hHx; have HROW := Lib.hid hrow; clear hHx hrow
      go_wp2_with fail
      go_meet
      case rel => exact ⟨_, rfl, rfl, HROW.out, HBW2.out.trans (HHX.out.mono HBW2.out.size)⟩
    · try go_simp
      refine hK.out _ _ ?_ (fun hHeld2 => ?_)
      · exact hHeld.alloc hHeld.size _
      clear hK K
      try simp only [Act.put, List.setIfInBounds_toArray, List.set_cons_zero, List.set_cons_succ]
      refine wpAnyH_ready (rs := [3]) (by kernel_rfl) (by simp) ?_
      refine AllReadyH.cons (o := { dst := some 152, op := Go.Op.call { callee := Go.Callee.value (Go.Operand.func 42), args := #[Go.Operand.tmp 149, Go.Operand.tmp 151], argTypes := #[34, 9] }, type := 107, pos := "top05.go:57", after := #[{ on := 0, ground := Go.Ground.data }, { on := 2, ground := Go.Ground.data }], guard := none }) rfl (fun K hK => ?_) AllReadyH.nil
      (first | go_at_call 42 | (go_simp; go_at_call 42))
      refine (HHR.out _ _ HMS.out).mono ?_
      rintro e w6 ⟨rfl, h6⟩
      try go_wp2_with fail
      refine hK.out _ _ ?_ (fun hHeld3_7 => ?_)
      · exact hHeld2.trans (h6.mono hHeld2.size)
      clear hK K
      try simp only [Act.put, List.setIfInBounds_toArray, List.set_cons_zero, List.set_cons_succ]
      refine wpAnyH_take (i := 4) (oi := { dst := some 148, op := Go.Op.move (Go.Operand.tmp 152), type := 107, pos := "top05.go:57", after := #[{ on := 3, ground := Go.Ground.data }], guard := none }) (v := ?_) rfl (by kernel_rfl) (by kernel_rfl) (by kernel_rfl) (fun _ _ _ h => h) (Or.inl ⟨by rfl, ?_⟩) (by assumption) ?_
      rotate_left
      · (intro w hSw; (try dsimp only at hSw); go_simp <;> with_reducible rfl)
      try simp only [Act.put, List.setIfInBounds_toArray, List.set_cons_zero, List.set_cons_succ]
      refine wpAnyH_take (i := 5) (oi := { dst := some 153, op := Go.Op.extract (Go.Operand.tmp 148) 0, type := 38, pos := "top05.go:57", after := #[{ on := 4, ground := Go.Ground.data }], guard := none }) (v := ?_) rfl (by kernel_rfl) (by kernel_rfl) (by kernel_rfl) (fun _ _ _ h => h) (Or.inl ⟨by rfl, ?_⟩) (by assumption) ?_
      rotate_left
      · (intro w hSw; (try dsimp only at hSw); go_simp <;> with_reducible rfl)
      try simp only [Act.put, List.setIfInBounds_toArray, List.set_cons_zero, List.set_cons_succ]
      refine wpAnyH_take (i := 6) (oi := { dst := some 154, op := Go.Op.extract (Go.Operand.tmp 148) 1, type := 4, pos := "top05.go:57", after := #[{ on := 4, ground := Go.Ground.data }, { on := 8, ground := Go.Ground.gcOnly Go.Departure.lateStores }], guard := none }) (v := ?_) rfl (by kernel_rfl) (by kernel_rfl) (by kernel_rfl) (fun _ _ _ h => h) (Or.inl ⟨by rfl, ?_⟩) (by assumption) ?_
      rotate_left
      · (intro w hSw; (try dsimp only at hSw); go_simp <;> with_reducible rfl)
      try simp only [Act.put, List.setIfInBounds_toArray, List.set_cons_zero, List.set_cons_succ]
      refine wpAnyH_ready (rs := [8]) (by kernel_rfl) (by simp) ?_
      refine AllReadyH.cons (o := { dst := none, op := Go.Op.store 38 (Go.Operand.tmp 17) (Go.Operand.tmp 153), type := 0, pos := "top05.go:57", after := #[{ on := 7, ground := Go.Ground.data }, { on := 5, ground := Go.Ground.data }, { on := 3, ground := Go.Ground.chain }, { on := 0, ground := Go.Ground.phase }, { on := 1, ground := Go.Ground.phase }, { on := 2, ground := Go.Ground.phase }, { on := 3, ground := Go.Ground.phase }, { on := 4, ground := Go.Ground.phase }, { on := 5, ground := Go.Ground.phase }, { on := 6, ground := Go.Ground.textOnly Go.Departure.lateStores }, { on := 7, ground := Go.Ground.phase }], guard := none }) rfl (fun K hK => ?_) AllReadyH.nil
      have hZ : w6.heap[W2.heap.size]? = some (.cells #[.int .u64 0, .int .u64 0, .int .u64 0, .int .u64 0, .int .u64 0, .int .u64 0, .int .u64 0, .int .u64 0, .int .u64 0, .int .u64 0, .int .u64 0, .int .u64 0, .int .u64 0] 38 (0, 0)) := by rw [h6.block _ (by show W2.heap.size < (W2.alloc _).heap.size; simp)]; exact heap_alloc_new W2 _
      refine wp_store_row 38 _ _ rfl W2.heap.size #[.int .u64 0, .int .u64 0, .int .u64 1, .int .u64 0, .int .u64 0, .int .u64 0, .int .u64 0, .int .u64 (eh : Nat), .int .u64 (ph : Nat), .int .u64 0, .int .u64 (sh : Nat), .int .u64 0, .int .u64 0] (by rfl) (by rfl) 38 #[.int .u64 0, .int .u64 0, .int .u64 0, .int .u64 0, .int .u64 0, .int .u64 0, .int .u64 0, .int .u64 0, .int .u64 0, .int .u64 0, .int .u64 0, .int .u64 0, .int .u64 0] hZ (by kernel_rfl) rfl (by simp [Value.oneCell']) ?_
      refine hK.out _ _ ?_ (fun hHeld4_7_3 => ?_)
      · exact below_setRow hHeld3_7 (Nat.le_refl _) _
      clear hK K
      try simp only [Act.put]
      refine wpAnyH_take (i := 9) (oi := { dst := some 18, op := Go.Op.assign (Go.Operand.tmp 154), type := 4, pos := "top05.go:57", after := #[{ on := 6, ground := Go.Ground.data }, { on := 8, ground := Go.Ground.chain }, { on := 0, ground := Go.Ground.phase }, { on := 1, ground := Go.Ground.phase }, { on := 2, ground := Go.Ground.phase }, { on := 3, ground := Go.Ground.phase }, { on := 4, ground := Go.Ground.phase }, { on := 5, ground := Go.Ground.phase }, { on := 6, ground := Go.Ground.phase }, { on := 7, ground := Go.Ground.phase }, { on := 8, ground := Go.Ground.phase }], guard := none }) (v := ?_) rfl (by kernel_rfl) (by kernel_rfl) (by kernel_rfl) (fun _ _ _ h => h) (Or.inl ⟨by rfl, ?_⟩) (by assumption) ?_
      rotate_left
      · (intro w hSw; (try dsimp only at hSw); go_simp <;> with_reducible rfl)
      try simp only [Act.put, List.setIfInBounds_toArray, List.set_cons_zero, List.set_cons_succ]
      refine wpAnyH_done (by kernel_rfl) ?_ _
      have hHx := hHeld4_7_3
      have hrow : (w6.setRow W2.heap.size #[.int .u64 0, .int .u64 0, .int .u64 1, .int .u64 0, .int .u64 0, .int .u64 0, .int .u64 0, .int .u64 (eh : Nat), .int .u64 (ph : Nat), .int .u64 0, .int .u64 (sh : Nat), .int .u64 0, .int .u64 0]).heap[W2.heap.size]? = some (.cells #[.int .u64 0, .int .u64 0, .int .u64 1, .int .u64 0, .int .u64 0, .int .u64 0, .int .u64 0, .int .u64 (eh : Nat), .int .u64 (ph : Nat), .int .u64 0, .int .u64 (sh : Nat), .int .u64 0, .int .u64 0] 38 (0, 0)) := setRow_heap _ _ #[.int .u64 0, .int .u64 0, .int .u64 0, .int .u64 0, .int .u64 0, .int .u64 0, .int .u64 0, .int .u64 0, .int .u64 0, .int .u64 0, .int .u64 0, .int .u64 0, .int .u64 0] _ _ _ (hZ)
      have HHX := Lib.hid hHx; have HROW := Lib.hid hrow; clear hHx hrow
      go_wp2_with fail
      go_meet
      case rel => exact ⟨_, rfl, rfl, HROW.out, HBW2.out.trans (HHX.out.mono HBW2.out.size)⟩
  case rest =>
    obtain ⟨bh, rfl, rfl, hrow, hB⟩ := hcut
    have HB5 := Lib.hid hB; clear hB
    have y0 : wc.cell? ⟨bh, 0, none⟩ = some (.int .u64 0) := by simp [World.cell?, hrow]
    have y1 : wc.cell? ⟨bh, 1, none⟩ = some (.int .u64 0) := by simp [World.cell?, hrow]
    have y2 : wc.cell? ⟨bh, 2, none⟩ = some (.int .u64 1) := by simp [World.cell?, hrow]
    have y3 : wc.cell? ⟨bh, 3, none⟩ = some (.int .u64 0) := by simp [World.cell?, hrow]
    have y4 : wc.cell? ⟨bh, 4, none⟩ = some (.int .u64 0) := by simp [World.cell?, hrow]
    have y5 : wc.cell? ⟨bh, 5, none⟩ = some (.int .u64 0) := by simp [World.cell?, hrow]
    have y6 : wc.cell? ⟨bh, 6, none⟩ = some (.int .u64 0) := by simp [World.cell?, hrow]
    have y7 : wc.cell? ⟨bh, 7, none⟩ = some (.int .u64 (eh : Nat)) := by simp [World.cell?, hrow]
    have y8 : wc.cell? ⟨bh, 8, none⟩ = some (.int .u64 (ph : Nat)) := by simp [World.cell?, hrow]
    have y9 : wc.cell? ⟨bh, 9, none⟩ = some (.int .u64 0) := by simp [World.cell?, hrow]
    have y10 : wc.cell? ⟨bh, 10, none⟩ = some (.int .u64 (sh : Nat)) := by simp [World.cell?, hrow]
    have y11 : wc.cell? ⟨bh, 11, none⟩ = some (.int .u64 0) := by simp [World.cell?, hrow]
    have y12 : wc.cell? ⟨bh, 12, none⟩ = some (.int .u64 0) := by simp [World.cell?, hrow]
    clear hrow
    have f0 := HF0.out _ HB5.out
    have f1 := HF1.out _ HB5.out
    go_wp2_with fail
    refine (HCK.out _).mono ?_
    rintro e w5 ⟨rfl, h5⟩
    have HB7 := Lib.hid (HB5.out.trans (h5.mono HB5.out.size))
    clear h5 f0 f1 y0 y1 y2 y3 y4 y5 y6 y7 y8 y9 y10 y11 y12
    have f0 := HF0.out _ HB7.out
    have f1 := HF1.out _ HB7.out
    have huc := HUC2.out; have hzs := HZS.out
    generalize eLen wide = ez at *
    go_wp2_with fail
    refine (HES.out _).mono ?_
    rintro e w8 ⟨rfl, h8⟩
    have HB8 := Lib.hid (HB7.out.trans (h8.mono HB7.out.size))
    clear h8 f0 f1
    have hz2 : (0 : Int) ≤ 16 + (ez : Int) := by omega
    have hzt : ((16 : Int) + (ez : Int)).toNat = 16 + ez := by omega
    go_upto_block 3 with (fail)
    refine blk3 _ _ _ _ _ _ _ _ _ _ _ _ _ _ _ _ _ _ _ _ _ _ _ _ _ _ _ _ _ _ _ _ _ _ _ _ _ _ _ _ _ _ _ _ _ _ _ _ _ _ _ _ _ _ _ _ _ _ _ _ _ _ _ _ _ _ _ _ _ _ _ _ _ _ _ _ _ _ _ _ _ _ _ _ _ _ _ _ _ _ _ _ _ _ _ _ _ _ _ _ _ _ _ _ _ _ _ _ _ _ _ _ _ _ _ _ _ _ _ _ _ _ _ _ _ _ _ _ _ _ _ _ _ _ _ _ _ _ _ _ _ _ _ _ _ _ _ _ _ _ _ _ _ _ _ _ _ _ _ _ _ _ _ _ _ _ _ _ _ _ _ _ _ _ _ _ _ _ _ _ _ _ _ _ _ _ _ _ _ _ _ _ _ _ _ _ _ _ _ _ _ _ _ _ _ _ _ _ _ _ _ _ _ _ _ _ _ _ _ _ _ _ _ _ _ _ _ _ _ _ _ _ _ _ _ _ _ _ _ _ _ _ _ _ _ _ _ _ _ _ _ _ _ _ _ _ _ _ _ _ _ _ _ _ _ _ _ _ _ _ _ _ _ _ _ _ _ _ _ _ _ _ _ _ _ _ _ _ _ _ _ _ _ _ _ _ _ _ _ _ _ _ _ _ _ _ _ _ _ _ _ _ _ _ _ _ _ _ _ _ _ _ _ _ _ _ _ _ _ _ _ _ _ _ _ _ _ _ _ _ _ _ A len cap m R big wide H T bx w W1 _ hm12 hH48 hclm hlc HT HN HR HM HF0 HF1 HE hz HB8 (fun _ _ _ _ _ h => h) (fun u4 u19 u20 u21 u22 u23 u24 u25 u26 u27 u28 u29 u30 u31 u32 u168 u169 u170 u171 u172 u173 u174 u175 u176 u177 u178 u179 u180 u181 u182 u183 u184 u185 u186 u187 u188 u189 u190 u191 u192 u193 u194 u195 u196 u197 u198 u199 u200 u201 u202 u203 u204 u205 u206 u207 u208 u209 u210 u211 u212 u213 u214 u215 u216 u217 u218 u219 u220 u221 u222 u223 u224 u225 u226 u227 u228 u229 u230 u231 u232 u233 u234 u235 u236 u237 u238 u239 u240 u241 u242 u243 u244 u245 u246 u247 u248 u249 u250 u251 u252 u253 u254 u255 u256 u257 u258 u259 u260 u261 u262 u263 u264 u265 u266 u267 u268 u269 u270 u271 u272 u273 u274 u275 u276 u277 u278 u279 u280 u281 u282 u283 u284 u285 u286 u287 u288 u289 u290 u291 u292 u293 u294 u295 u296 u297 u298 u299 u300 u301 u302 u303 u304 u305 u306 u307 u308 u309 u310 u311 u312 u313 u314 u315 u316 u317 u318 u319 u320 u321 u322 u323 u324 u325 u326 u327 u328 u329 u330 u331 u332 u333 u334 u335 u336 u337 u338 u339 u340 u341 u342 wd hB => ?_)
    go_wp2
    go_ret
    exact ⟨by first | rfl | simp, HE.out _ hB⟩
end Go.Proofs.Ytnmklmaclmjfbaa
