/- The walk of FormRecords. Conditions: those written in each theorem. -/
import Derived.Test.YtmbgbhhnjbkfdaaL
namespace Go.Proofs.Ytmbgbhhnjbkfdaa
open Go.RowKit
set_option maxRecDepth 100000 in
set_option maxHeartbeats 1000000 in
theorem records_core (fl : Int) (a1 a2 : Option Addr) (l1 c1 l2 c2 m1 m2 : Nat) (zs : List Int) (ns : List Nat) (w : World) (k1 : l1 ≤ c1) (k2 : l2 ≤ c2)
    (hm1 : (l1 ≤ 12 ∧ m1 = l1) ∨ (12 < l1 ∧ m1 = 12)) (hm2 : (l2 ≤ 12 ∧ m2 = l2) ∨ (12 < l2 ∧ m2 = 12)) (r1 : RowI w a1 m1 zs) (r2 : RowN w a2 m2 ns) :
    Calls Try.prog 9 #[.int .i64 fl, .slice a1 l1 c1, .slice a2 l2 c2] w fun e w' => e = .returned (.bool true) ∧ Below w.heap.size w w' := by
  have R1 := Lib.hid r1; clear r1
  have R2 := Lib.hid r2; clear r2
  have q1 : (m1 : Int) ≤ 12 := by omega
  have q2 : (m2 : Int) ≤ 12 := by omega
  have q3 : (m1 : Int) ≤ (c1 : Int) := by omega
  have q4 : (m2 : Int) ≤ (c2 : Int) := by omega
  have q5 : (0 : Int) ≤ (m1 : Int) := by omega
  have q6 : (0 : Int) ≤ (m2 : Int) := by omega
  have n1 : (if (l1 : Int) ≤ 12 then (l1 : Int) else 12) = (m1 : Int) := by split <;> omega
  have n2 : (if (l2 : Int) ≤ 12 then (l2 : Int) else 12) = (m2 : Int) := by split <;> omega
  have n3 : min (l1 : Int) 12 = (m1 : Int) := by omega
  have n4 : min (l2 : Int) 12 = (m2 : Int) := by omega
  clear hm1 hm2 k1 k2
  go_enter Try.func9, Try.ntmps9
  go_wp2_with fail
  refine (speaks4 _).mono ?_
  rintro e w1 ⟨rfl, h1⟩
  go_wp2
  generalize (bits BinOp.and IntKind.i64 fl 1 == 1) = big
  generalize (bits BinOp.and IntKind.i64 fl 2 == 2) = wide
  refine wp_region_held_drew (S := (fun _ => True)) (by kernel_rfl) ?_ (fun hHeld => ?_)
  · (try dsimp only); skip
  refine wpAnyH_take (i := 0) (oi := { dst := some 29, op := Go.Op.move (Go.Operand.tmp 1), type := 54, pos := "law.go:50", after := #[], guard := none }) (v := ?_) rfl (by kernel_rfl) (by kernel_rfl) (by kernel_rfl) (fun _ _ _ h => h) (Or.inl ⟨by rfl, ?_⟩) (by assumption) ?_
  rotate_left
  · (intro w hSw; (try dsimp only at hSw); go_simp <;> with_reducible rfl)
  try simp only [Act.put, List.setIfInBounds_toArray, List.set_cons_zero, List.set_cons_succ]
  refine wpAnyH_take (i := 1) (oi := { dst := some 30, op := Go.Op.move (Go.Operand.tmp 1), type := 54, pos := "law.go:50", after := #[], guard := none }) (v := ?_) rfl (by kernel_rfl) (by kernel_rfl) (by kernel_rfl) (fun _ _ _ h => h) (Or.inl ⟨by rfl, ?_⟩) (by assumption) ?_
  rotate_left
  · (intro w hSw; (try dsimp only at hSw); go_simp <;> with_reducible rfl)
  try simp only [Act.put, List.setIfInBounds_toArray, List.set_cons_zero, List.set_cons_succ]
  refine wpAnyH_take (i := 2) (oi := { dst := some 31, op := Go.Op.call { callee := Go.Callee.builtin Go.Builtin.len, args := #[Go.Operand.tmp 30], argTypes := #[54] }, type := 3, pos := "law.go:50", after := #[{ on := 1, ground := Go.Ground.data }], guard := none }) (v := ?_) rfl (by kernel_rfl) (by kernel_rfl) (by kernel_rfl) (fun _ _ _ h => h) (Or.inl ⟨by rfl, ?_⟩) (by assumption) ?_
  rotate_left
  · (intro w hSw; (try dsimp only at hSw); go_simp <;> with_reducible rfl)
  try simp only [Act.put, List.setIfInBounds_toArray, List.set_cons_zero, List.set_cons_succ]
  refine wpAnyH_take (i := 3) (oi := { dst := some 32, op := Go.Op.call { callee := Go.Callee.builtin Go.Builtin.min, args := #[Go.Operand.tmp 31, Go.Operand.const (Go.Value.int Go.IntKind.i64 12)], argTypes := #[3, 3] }, type := 3, pos := "law.go:50", after := #[{ on := 2, ground := Go.Ground.data }], guard := none }) (v := ?_) rfl (by kernel_rfl) (by kernel_rfl) (by kernel_rfl) (fun _ _ _ h => h) (Or.inl ⟨by rfl, ?_⟩) (by assumption) ?_
  rotate_left
  · (intro w hSw; (try dsimp only at hSw); go_simp <;> with_reducible rfl)
  try simp only [Act.put, List.setIfInBounds_toArray, List.set_cons_zero, List.set_cons_succ]
  refine wpAnyH_take (i := 4) (oi := { dst := some 33, op := Go.Op.slice 54 (Go.Operand.tmp 29) none (some (Go.Operand.tmp 32)) none, type := 54, pos := "law.go:50", after := #[{ on := 0, ground := Go.Ground.data }, { on := 3, ground := Go.Ground.data }], guard := none }) (v := ?_) rfl (by kernel_rfl) (by kernel_rfl) (by kernel_rfl) (fun _ _ _ h => h) (Or.inl ⟨by rfl, ?_⟩) (by assumption) ?_
  rotate_left
  · (intro w hSw; (try dsimp only at hSw); go_simp <;> with_reducible rfl)
  try simp only [Act.put, List.setIfInBounds_toArray, List.set_cons_zero, List.set_cons_succ]
  refine wpAnyH_take (i := 5) (oi := { dst := some 34, op := Go.Op.move (Go.Operand.tmp 2), type := 30, pos := "law.go:50", after := #[], guard := none }) (v := ?_) rfl (by kernel_rfl) (by kernel_rfl) (by kernel_rfl) (fun _ _ _ h => h) (Or.inl ⟨by rfl, ?_⟩) (by assumption) ?_
  rotate_left
  · (intro w hSw; (try dsimp only at hSw); go_simp <;> with_reducible rfl)
  try simp only [Act.put, List.setIfInBounds_toArray, List.set_cons_zero, List.set_cons_succ]
  refine wpAnyH_take (i := 6) (oi := { dst := some 35, op := Go.Op.move (Go.Operand.tmp 2), type := 30, pos := "law.go:50", after := #[], guard := none }) (v := ?_) rfl (by kernel_rfl) (by kernel_rfl) (by kernel_rfl) (fun _ _ _ h => h) (Or.inl ⟨by rfl, ?_⟩) (by assumption) ?_
  rotate_left
  · (intro w hSw; (try dsimp only at hSw); go_simp <;> with_reducible rfl)
  try simp only [Act.put, List.setIfInBounds_toArray, List.set_cons_zero, List.set_cons_succ]
  refine wpAnyH_take (i := 7) (oi := { dst := some 36, op := Go.Op.call { callee := Go.Callee.builtin Go.Builtin.len, args := #[Go.Operand.tmp 35], argTypes := #[30] }, type := 3, pos := "law.go:50", after := #[{ on := 6, ground := Go.Ground.data }], guard := none }) (v := ?_) rfl (by kernel_rfl) (by kernel_rfl) (by kernel_rfl) (fun _ _ _ h => h) (Or.inl ⟨by rfl, ?_⟩) (by assumption) ?_
  rotate_left
  · (intro w hSw; (try dsimp only at hSw); go_simp <;> with_reducible rfl)
  try simp only [Act.put, List.setIfInBounds_toArray, List.set_cons_zero, List.set_cons_succ]
  refine wpAnyH_take (i := 8) (oi := { dst := some 37, op := Go.Op.call { callee := Go.Callee.builtin Go.Builtin.min, args := #[Go.Operand.tmp 36, Go.Operand.const (Go.Value.int Go.IntKind.i64 12)], argTypes := #[3, 3] }, type := 3, pos := "law.go:50", after := #[{ on := 7, ground := Go.Ground.data }], guard := none }) (v := ?_) rfl (by kernel_rfl) (by kernel_rfl) (by kernel_rfl) (fun _ _ _ h => h) (Or.inl ⟨by rfl, ?_⟩) (by assumption) ?_
  rotate_left
  · (intro w hSw; (try dsimp only at hSw); go_simp <;> with_reducible rfl)
  try simp only [Act.put, List.setIfInBounds_toArray, List.set_cons_zero, List.set_cons_succ]
  refine wpAnyH_take (i := 9) (oi := { dst := some 38, op := Go.Op.slice 30 (Go.Operand.tmp 34) none (some (Go.Operand.tmp 37)) none, type := 30, pos := "law.go:50", after := #[{ on := 5, ground := Go.Ground.data }, { on := 8, ground := Go.Ground.data }], guard := none }) (v := ?_) rfl (by kernel_rfl) (by kernel_rfl) (by kernel_rfl) (fun _ _ _ h => h) (Or.inl ⟨by rfl, ?_⟩) (by assumption) ?_
  rotate_left
  · (intro w hSw; (try dsimp only at hSw); go_simp <;> with_reducible rfl)
  try simp only [Act.put, List.setIfInBounds_toArray, List.set_cons_zero, List.set_cons_succ]
  refine wpAnyH_take (i := 10) (oi := { dst := some 1, op := Go.Op.assign (Go.Operand.tmp 33), type := 54, pos := "law.go:50", after := #[{ on := 4, ground := Go.Ground.data }, { on := 0, ground := Go.Ground.phase }, { on := 1, ground := Go.Ground.phase }, { on := 2, ground := Go.Ground.phase }, { on := 3, ground := Go.Ground.phase }, { on := 4, ground := Go.Ground.phase }, { on := 5, ground := Go.Ground.textOnly Go.Departure.lateStores }, { on := 6, ground := Go.Ground.textOnly Go.Departure.lateStores }, { on := 7, ground := Go.Ground.textOnly Go.Departure.lateStoresUnsure }, { on := 8, ground := Go.Ground.textOnly Go.Departure.lateStoresUnsure }, { on := 9, ground := Go.Ground.textOnly Go.Departure.lateStoresUnsure }], guard := none }) (v := ?_) rfl (by kernel_rfl) (by kernel_rfl) (by kernel_rfl) (fun _ _ _ h => h) (Or.inl ⟨by rfl, ?_⟩) (by assumption) ?_
  rotate_left
  · (intro w hSw; (try dsimp only at hSw); go_simp <;> with_reducible rfl)
  try simp only [Act.put, List.setIfInBounds_toArray, List.set_cons_zero, List.set_cons_succ]
  refine wpAnyH_take (i := 11) (oi := { dst := some 2, op := Go.Op.assign (Go.Operand.tmp 38), type := 30, pos := "law.go:50", after := #[{ on := 9, ground := Go.Ground.data }, { on := 10, ground := Go.Ground.chain }, { on := 0, ground := Go.Ground.phase }, { on := 1, ground := Go.Ground.phase }, { on := 2, ground := Go.Ground.phase }, { on := 3, ground := Go.Ground.phase }, { on := 4, ground := Go.Ground.phase }, { on := 5, ground := Go.Ground.phase }, { on := 6, ground := Go.Ground.phase }, { on := 7, ground := Go.Ground.phase }, { on := 8, ground := Go.Ground.phase }, { on := 9, ground := Go.Ground.phase }, { on := 10, ground := Go.Ground.phase }], guard := none }) (v := ?_) rfl (by kernel_rfl) (by kernel_rfl) (by kernel_rfl) (fun _ _ _ h => h) (Or.inl ⟨by rfl, ?_⟩) (by assumption) ?_
  rotate_left
  · (intro w hSw; (try dsimp only at hSw); go_simp <;> with_reducible rfl)
  try simp only [Act.put, List.setIfInBounds_toArray, List.set_cons_zero, List.set_cons_succ]
  refine wpAnyH_done (by kernel_rfl) ?_ _
  obtain ⟨S, ok, hrec⟩ := recIs_exists big wide zs ns m1 m2
  have hsize := recIs_size hrec (by omega)
  have HREC := Lib.hid hrec; clear hrec
  have HSZ := Lib.hid hsize; clear hsize
  clear n1 n2 n3 n4
  have W0 : Below w.heap.size w (w1.alloc (.cells #[.bool big, .bool wide] 45)).drew := (h1.alloc h1.size _).drew
  go_wp2_with fail
  refine (record_is big wide a1 a2 m1 c1 m2 c2 zs ns S ok _ (by omega) (R1.out.kept W0 (Nat.le_refl _)) (R2.out.kept W0 (Nat.le_refl _)) HREC.out).mono ?_
  rintro e w2 ⟨rfl, h2⟩
  have W2 : Below w.heap.size w w2 := W0.trans (h2.mono W0.size)
  have b20 : w2.cell? ⟨w1.heap.size, 0, none⟩ = some (.bool big) := by rw [h2.cell (by simp)]; simp
  have b21 : w2.cell? ⟨w1.heap.size, 1, none⟩ = some (.bool wide) := by rw [h2.cell (by simp)]; simp
  have s2 : w1.heap.size < w2.heap.size := by have := h2.size; simp at this; omega
  clear h2 W0
  go_wp2_with fail
  refine (refRecord_is big wide a1 a2 m1 c1 m2 c2 zs ns S ok _ (by omega) (R1.out.kept W2 (Nat.le_refl _)) (R2.out.kept W2 (Nat.le_refl _)) HREC.out).mono ?_
  rintro e w3 ⟨rfl, h3⟩
  have W3 : Below w.heap.size w w3 := W2.trans (h3.mono W2.size)
  have b30 : w3.cell? ⟨w1.heap.size, 0, none⟩ = some (.bool big) := by rw [h3.cell (by exact s2)]; exact b20
  have b31 : w3.cell? ⟨w1.heap.size, 1, none⟩ = some (.bool wide) := by rw [h3.cell (by exact s2)]; exact b21
  have s3 : w1.heap.size < w3.heap.size := by have := h3.size; omega
  clear h3 W2 b20 b21 s2
  go_wp2_with fail
  refine (sizes_any big wide a1 m1 c1 zs _ (by omega) (R1.out.kept W3 (Nat.le_refl _))).mono ?_
  rintro e w4 ⟨b, hb1, hb2, rfl, hrow, h4⟩
  have W4 : Below w.heap.size w w4 := W3.trans (h4.mono W3.size)
  have b40 : w4.cell? ⟨w1.heap.size, 0, none⟩ = some (.bool big) := by rw [h4.cell (by exact s3)]; exact b30
  have b41 : w4.cell? ⟨w1.heap.size, 1, none⟩ = some (.bool wide) := by rw [h4.cell (by exact s3)]; exact b31
  have s4 : w1.heap.size < w4.heap.size := by have := h4.size; omega
  clear h4 W3 b30 b31 s3 hb1
  have HR := Lib.hid hrow; clear hrow
  generalize hsum : sumZ wide zs m1 = sum at *
  have HSUM := Lib.hid hsum; clear hsum
  go_wp2
  go_loopw [14, 15, 16] (fun t i _ wr => ∃ k : Nat, k ≤ m1 ∧ i = .int .i64 k ∧ t = .int .i64 (sumZ wide zs k) ∧ Below w4.heap.size w4 wr) (fun _ i _ _ => m1 - (intOf i).toNat)
  case atStart => exact ⟨0, Nat.zero_le _, rfl, rfl, Below.refl _ _⟩
  case round =>
    obtain ⟨k, hk, rfl, rfl, hg⟩ := hrel
    have c0 : wr.cell? ⟨w1.heap.size, 0, none⟩ = some (.bool big) := by rw [hg.cell (by exact s4)]; exact b40
    have c1' : wr.cell? ⟨w1.heap.size, 1, none⟩ = some (.bool wide) := by rw [hg.cell (by exact s4)]; exact b41
    by_cases hlt : k < m1
    · obtain ⟨b1, off1, rfl, hbb1, hc1⟩ := R1.out k hlt
      have hc1w : wr.cell? ⟨b1, off1 + k, none⟩ = some (.int .i64 (zs.getD k 0)) := by rw [hg.cell (by have := W4.size; show b1 < _; omega), W4.cell (by exact hbb1)]; exact hc1
      have hcf : wr.cell? ⟨b, k, none⟩ = some (.int .i64 (fullZ wide (zs.getD k 0))) := by
        rw [hg.cell (by exact hb2), cell_of_rowI HR.out k (by rw [fullL_length]; exact hlt)]
        have := fullL_getD wide zs m1 k hlt
        rw [List.getD_eq_getElem?_getD, List.getElem?_eq_getElem (by rw [fullL_length]; exact hlt)] at this
        rw [← this]; rfl
      have hstep : sumZ wide zs (k + 1) = wrap64 (sumZ wide zs k + fullZ wide (zs.getD k 0)) := rfl
      clear hc1
      generalize sumZ wide zs k = sk at *
      generalize zs.getD k 0 = z at *
      generalize hf : fullZ wide z = f at *
      have HST := Lib.hid hstep; clear hstep
      have hi0 : (0 : Int) ≤ (k : Int) := by omega
      have hi1 : (k : Int) < (m1 : Int) := by omega
      by_cases hz : z = 0
      · have hzb : (z == 0) = true := by simp [hz]
        have hf' : (wordN wide : Int) = f := by rw [← hf]; unfold fullZ; rw [if_pos hz]
        clear hf hz
        have hwf := fun W => word_is big wide W
        rw [hf'] at hwf
        have HWF := Lib.hid hwf; clear hwf hf'
        have hbr : b < wr.heap.size := Nat.lt_of_lt_of_le hb2 hg.size
        go_wp2_with (go_at_call 26; refine (HWF.out _).mono ?_; rintro e w5 ⟨rfl, rfl⟩)
        go_roundw
        case rel => exact ⟨k + 1, by omega, by go_num, int_eq (by rw [HST.out]), hg.alloc hg.size _⟩
        case measure => simp [intOf]; omega
      · have hzb : (z == 0) = false := by simp [hz]
        have hf' : f = z := by rw [← hf]; unfold fullZ; rw [if_neg hz]
        clear hf hz
        subst hf'
        go_wp2
        go_roundw
        case rel => exact ⟨k + 1, by omega, by go_num, int_eq (by rw [HST.out]), hg⟩
        case measure => simp [intOf]; omega
    · obtain rfl : k = m1 := by omega
      rw [HSUM.out]
      have Wr : Below w.heap.size w wr := W4.trans (hg.mono W4.size)
      have sr : w1.heap.size < wr.heap.size := by have := hg.size; omega
      clear hg b40 b41 W4 HR hb2
      generalize wr = wo at *
      go_wp2
      go_loop [17, 18] (fun t i => ∃ j : Nat, j ≤ m2 ∧ i = .int .i64 j ∧ t = .bool (fitsTo wide ns j)) (fun _ i => m2 - (intOf i).toNat)
      case atStart => exact ⟨0, Nat.zero_le _, rfl, rfl⟩
      case round =>
        obtain ⟨j, hj, rfl, rfl⟩ := hrel
        by_cases hlt2 : j < m2
        · obtain ⟨b2, off2, rfl, hbb2, hc2, hn2⟩ := R2.out j hlt2
          have hc2w : wo.cell? ⟨b2, off2 + j, none⟩ = some (.int .u64 (ns.getD j 0 : Nat)) := by rw [Wr.cell (by exact hbb2)]; exact hc2
          have hstep : fitsTo wide ns (j + 1) = (fitsTo wide ns j && fitAt wide ns j) := rfl
          have hfw := fit_wide ns j hn2
          have hfn := fit_narrow ns j
          clear hc2
          generalize ns.getD j 0 = y at *
          generalize fitsTo wide ns j = t at *
          have hi0 : (0 : Int) ≤ (j : Int) := by omega
          have hi1 : (j : Int) < (m2 : Int) := by omega
          have HN := Lib.hid hn2; clear hn2
          have hall : (t = false ∧ fitsTo wide ns (j + 1) = false) ∨ (t = true ∧ wide = true ∧ fitsTo wide ns (j + 1) = true) ∨ (t = true ∧ wide = false ∧ fitsTo wide ns (j + 1) = decide ((y : Int) < 4294967296)) := by
            cases t
            · left; exact ⟨rfl, by rw [hstep]; rfl⟩
            · right
              cases wide
              · right
                refine ⟨rfl, rfl, ?_⟩
                rw [hstep, hfn]
                simp
                omega
              · left; exact ⟨rfl, rfl, by rw [hstep, hfw]; rfl⟩
          clear hstep hfw hfn
          rcases hall with ⟨rfl, hs⟩ | ⟨rfl, hwd, hs⟩ | ⟨rfl, hwd, hs⟩
          · have HS := Lib.hid hs; clear hs
            go_wp2
            go_round
            case rel => exact ⟨j + 1, by omega, by go_num, by rw [HS.out]⟩
            case measure => simp [intOf]; omega
          · have HS := Lib.hid hs; clear hs
            rw [hwd] at c1'
            have HW := Lib.hid hwd; clear hwd
            go_wp2
            go_round
            case rel => exact ⟨j + 1, by omega, by go_num, by rw [HS.out]⟩
            case measure => simp [intOf]; omega
          · have HS := Lib.hid hs; clear hs
            rw [hwd] at c1'
            have HW := Lib.hid hwd; clear hwd
            go_wp2
            go_round
            case rel => exact ⟨j + 1, by omega, by go_num, by rw [HS.out]⟩
            case measure => simp [intOf]; omega
        · obtain rfl : j = m2 := by omega
          have hfin : ok = false ∨ (ok = true ∧ ((S.size : Int) == sum) = true) := by
            cases hok : ok
            · exact Or.inl rfl
            · exact Or.inr ⟨rfl, HSZ.out hok⟩
          rcases hfin with rfl | ⟨rfl, hss⟩
          all_goals
            go_wp2_with fail
            refine (allFit_is big wide a2 j c2 ns _ (by omega) (R2.out.kept Wr (Nat.le_refl _))).mono ?_
            rintro e w6 ⟨rfl, h6⟩
            generalize fitsTo wide ns j = t at *
            go_wp2
            go_ret
            exact ⟨rfl, Wr.trans (h6.mono Wr.size)⟩
end Go.Proofs.Ytmbgbhhnjbkfdaa
