/- The walk of StrtabAgain. Conditions: those written in each theorem. -/
import Derived.Laws.CopyOwn
import Derived.Laws.Tables
import Derived.Test.YtddlflabdlgnbaaWQ
namespace Go.Proofs.Ytddlflabdlgnbaa
open Go.RowKit Go.Shelf
theorem cell_up9 {W : World} {p : Addr} {v : Value} (o : Obj) (h : W.cell? p = some v) : (W.alloc o).cell? p = some v := by
  have hlt : p.block < W.heap.size := by
    rcases Nat.lt_or_ge p.block W.heap.size with h1 | h1
    · exact h1
    · simp [World.cell?, Array.getElem?_eq_none h1] at h
  rw [World.cell?_of_block (w := W) (Below.heap_alloc W o p.block hlt)]
  exact h
theorem own_two (w : World) (o : Obj) : ((w.alloc o).alloc (.cells #[] 9)).drew.ownsRow (w.heap.size + 1) 9 1 (.slice (some ⟨w.heap.size + 1, 0, none⟩) 0 0) 0 [] := by
  have h := own_kept (own_empty (w.alloc o)) (Below.refl _ _).drew
  rw [show (w.alloc o).heap.size = w.heap.size + 1 by simp] at h
  exact h
theorem cell_two (w : World) (o : Obj) (z : ByteArray) : ((w.alloc o).alloc (.cells #[.string z] 9)).drew.cell? ⟨w.heap.size + 1, 0, none⟩ = some (.string z) := by
  have h := heap_alloc_new (w.alloc o) (.cells #[.string z] 9)
  rw [show (w.alloc o).heap.size = w.heap.size + 1 by simp] at h
  exact (Lib.cell_of_heap h 0).trans rfl
theorem cell_one (w : World) (o : Obj) (z : ByteArray) : ((w.alloc (.cells #[.string z] 9)).alloc o).drew.cell? ⟨w.heap.size, 0, none⟩ = some (.string z) :=
  cell_up9 o ((Lib.cell_of_heap (heap_alloc_new w (.cells #[.string z] 9)) 0).trans rfl)
set_option maxRecDepth 100000 in
set_option maxHeartbeats 4000000 in
theorem again_t (a : Option Addr) (len cap m : Nat) (S : Nat → ByteArray) (x : ByteArray) (h1 : (m : Int) ≤ cap) (hm : m ≤ 15) (hml : m ≤ len) (n1 : min (len : Int) 15 = (m : Int)) (hsz : ∀ i, i < m → (S i).size ≤ 1048576) (w : World) (hS : IsStrs w a len cap S) : Calls Try.prog 4 #[.slice a len cap, .string x] w fun e w' => e = .returned (.bool true) ∧ Below w.heap.size w w' := by
  have n2 : (if (len : Int) ≤ 15 then (len : Int) else 15) = (m : Int) := by split <;> omega
  have n3 : (0 : Int) ≤ (m : Int) := by omega
  have hN0 : RowO w a (namesL S m) := rowO_of_strs hS hml
  have hok := namesL_ok S m 1048576 (by omega) (by omega) hsz
  have HS := Lib.hid hS; have HN0 := Lib.hid hN0; have HOK := Lib.hid hok; have HM := Lib.hid hm; have HSZ := Lib.hid hsz; clear hS hN0 hok hsz
  go_enter Try.func4, Try.ntmps4
  go_wp2_with fail
  refine (speaks_any _).mono ?_
  rintro e w1 ⟨rfl, hb1⟩
  have HB1 := Lib.hid hb1; clear hb1
  go_upto_region 3 with (fail)
  go_cut [0] (fun v wc => v = .slice a m cap ∧ wc = w1)
  case first =>
    rcases HS.out with ⟨rfl, rfl, rfl⟩ | ⟨y, rfl, hxb, hlc, hcm, hx⟩
    · obtain rfl : m = 0 := by omega
      go_wp2
      go_meet
      case rel => exact ⟨rfl, rfl⟩
    · clear hx hxb
      go_wp2
      go_meet
      case rel => exact ⟨rfl, rfl⟩
  case rest =>
    obtain ⟨rfl, rfl⟩ := hcut
    have hbuild := build_opt a cap (namesL S m) HOK.out wc (HN0.out.low HB1.out)
    rw [namesL_len] at hbuild
    have HBD := Lib.hid hbuild; clear hbuild h1 n1 n2 n3 hm
    go_wp2_with fail
    refine HBD.out.mono ?_
    rintro e w2 ⟨hb2, ⟨hbad, rfl⟩ | ⟨hno, hbig, rfl⟩ | ⟨hno, hsz, g2, hg2, rfl, hrowI⟩⟩
    · have hB2 := HB1.out.trans (hb2.mono HB1.out.size)
      have HB2 := Lib.hid hB2; clear hbad hb2 hB2
      go_wp2
      go_ret
      exact ⟨rfl, HB2.out⟩
    · have hB2 := HB1.out.trans (hb2.mono HB1.out.size)
      have HB2 := Lib.hid hB2; clear hno hbig hb2 hB2
      go_wp2
      go_ret
      exact ⟨rfl, HB2.out⟩
    · have hB2 := HB1.out.trans (hb2.mono HB1.out.size)
      have HB2 := Lib.hid hB2; clear hb2 hB2 hrowI
      have hzn : ∀ x ∈ namesL S m, NoZ x := fun x hx => by
        obtain ⟨i, hi, e⟩ := (mem_nth (namesL S m) x).1 hx
        have := noz_of_bad (hno i hi)
        rwa [e] at this
      rw [sizeN] at hsz
      have HZN := Lib.hid hzn; have HSZ2 := Lib.hid hsz
      have HRIGHT := Lib.hid (fun w => tab_right (namesL S m) hsz w)
      have HTS := Lib.hid (ba_size (tabN (namesL S m)))
      have HTD : Hid ((ByteArray.mk (tabN (namesL S m)).toArray).data.toList = tabN (namesL S m)) := Lib.hid (by simp)
      clear hzn hsz hno HBD
      generalize hT : ByteArray.mk (tabN (namesL S m)).toArray = T at *
      have HT := Lib.hid hT; clear hT
      by_cases hbg : 3000 < T.size
      · go_wp2
        go_ret
        exact ⟨rfl, HB2.out⟩
      · have hall := callsIn_wide.1 (all_yes 4 (by omega) T (by omega) HRIGHT.out w2)
        have HALL := Lib.hid hall; clear hall
        have HPN := Lib.hid (parts_num T (T.size + 1) 0 (Nat.zero_le _))
        have HLEN := Lib.hid (again_len HZN.out HSZ2.out T HTD.out (fun p x hx h0 => txt_from HZN.out p x hx h0))
        have HRW := Lib.hid (textC_row T)
        have HOK2 := Lib.hid (namesL_ok (textC T) (partsOf T).length T.size (by have : (partsOf T).length ≤ T.size - 0 := HPN.out; omega) (by omega) (fun i _ => textC_size T i))
        have HNZ2 := Lib.hid (textC_noz T)
        generalize textC T = C2 at *
        generalize hpl : (partsOf T).map (fun x => Value.string x.2) = PL at *
        clear hpl
        generalize (partsOf T).length = n2 at *
        have HBG := Lib.hid hbg
        go_wp2_with fail
        refine HALL.out.mono ?_
        rintro e w3 ⟨v3, rfl, hown, hnil, hb3⟩
        rw [HRW.out] at hown
        obtain ⟨A3, c3, rfl, hrow3⟩ := own_rowO hown
        have hbuild2 := build_opt A3 c3 (namesL C2 n2) HOK2.out w3 hrow3
        rw [namesL_len] at hbuild2
        have hB3 := HB2.out.trans (hb3.mono HB2.out.size)
        have HB3 := Lib.hid hB3; have HBD2 := Lib.hid hbuild2
        clear hb3 hB3 hown hrow3 hnil hbuild2 HALL HRW HRIGHT
        go_wp2_with fail
        refine HBD2.out.mono ?_
        rintro e w4 ⟨hb4, ⟨⟨i, hi, hbad⟩, rfl⟩ | ⟨hno, hbig, rfl⟩ | ⟨hno, hsz, g2, hg2, rfl, hrowI⟩⟩
        · exfalso
          exact bad_of_noz (HNZ2.out _ (nth_mem _ i hi)) hbad
        · exfalso
          rw [sizeN, HLEN.out] at hbig
          have := HSZ2.out
          omega
        have hB4 := HB3.out.trans (hb4.mono HB3.out.size)
        have HB4 := Lib.hid hB4
        have hUT : (ByteArray.mk (tabN (namesL C2 n2)).toArray).size = T.size := by rw [ba_size, HLEN.out, HTS.out]
        have HUT := Lib.hid hUT
        clear hb4 hB4 hUT hno hsz hrowI HBD2 HB3
        generalize ByteArray.mk (tabN (namesL C2 n2)).toArray = U at *
        have HC : Hid (∀ u, Below w4.heap.size w4 u → (a = none ∧ m = 0 ∧ cap = 0) ∨ ∃ y, a = some y ∧ ∀ j, j < m → u.cell? (y.add j) = some (.string (S j))) := Lib.hid (fun u hu => by
          rcases HS.out with ⟨h1, h2, h3⟩ | ⟨y, h1, hb, _, _, hc⟩
          · exact .inl ⟨h1, by omega, h3⟩
          · refine .inr ⟨y, h1, fun j hj => ?_⟩
            have hya : (y.add j).block = y.block := by unfold Addr.add; split <;> rfl
            have hyb := hb (by omega)
            have hBu := HB4.out.trans (hu.mono HB4.out.size)
            rw [hBu.cell (by rw [hya]; exact hyb)]
            exact (hc j (by omega)).1)
        have hxc : (x.extract 0 (min x.size 20)).size ≤ 20 := by simp; omega
        have HLAST := Lib.hid (fun A c u hr => build_last S m (x.extract 0 (min x.size 20)) HM.out HSZ.out hxc T.size (by rw [HTS.out]) (by have := HBG.out; omega) A c u hr)
        have m0 : (0 : Int) ≤ ((min x.size 20 : Nat) : Int) := by omega
        have m1 : ((min x.size 20 : Nat) : Int) ≤ (x.size : Int) := by omega
        have m2 : min (x.size : Int) 20 = ((min x.size 20 : Nat) : Int) := by omega
        have m3 : (if (x.size : Int) ≤ 20 then (x.size : Int) else 20) = ((min x.size 20 : Nat) : Int) := by split <;> omega
        clear hxc HLEN HOK2 HNZ2 HPN HZN HSZ2 HTD HT HTS HS HN0 HOK
        generalize min x.size 20 = mk at *
        go_upto_region 10 with (fail)
        refine wp_region_held_drew (S := fun w' => Below w4.heap.size w4 w') (by kernel_rfl) ?_ (fun hHeld => ?_)
        · exact (Below.refl _ _).drew
        refine wpAnyH_take (i := 1) (oi := { dst := some 41, op := Go.Op.move (Go.Operand.tmp 0), type := 22, pos := "law.go:86", after := #[], guard := none }) (v := ?_) rfl (by kernel_rfl) (by kernel_rfl) (by kernel_rfl) (fun _ _ _ h => h) (Or.inl ⟨by rfl, ?_⟩) (by assumption) ?_
        rotate_left
        · (intro w hSw; (try dsimp only at hSw); go_simp <;> with_reducible rfl)
        try simp only [Act.put, List.setIfInBounds_toArray, List.set_cons_zero, List.set_cons_succ]
        refine wpAnyH_take (i := 3) (oi := { dst := some 43, op := Go.Op.move (Go.Operand.tmp 1), type := 9, pos := "law.go:86", after := #[], guard := none }) (v := ?_) rfl (by kernel_rfl) (by kernel_rfl) (by kernel_rfl) (fun _ _ _ h => h) (Or.inl ⟨by rfl, ?_⟩) (by assumption) ?_
        rotate_left
        · (intro w hSw; (try dsimp only at hSw); go_simp <;> with_reducible rfl)
        try simp only [Act.put, List.setIfInBounds_toArray, List.set_cons_zero, List.set_cons_succ]
        refine wpAnyH_take (i := 4) (oi := { dst := some 44, op := Go.Op.move (Go.Operand.tmp 1), type := 9, pos := "law.go:86", after := #[], guard := none }) (v := ?_) rfl (by kernel_rfl) (by kernel_rfl) (by kernel_rfl) (fun _ _ _ h => h) (Or.inl ⟨by rfl, ?_⟩) (by assumption) ?_
        rotate_left
        · (intro w hSw; (try dsimp only at hSw); go_simp <;> with_reducible rfl)
        try simp only [Act.put, List.setIfInBounds_toArray, List.set_cons_zero, List.set_cons_succ]
        refine wpAnyH_take (i := 5) (oi := { dst := some 45, op := Go.Op.call { callee := Go.Callee.builtin Go.Builtin.len, args := #[Go.Operand.tmp 44], argTypes := #[9] }, type := 3, pos := "law.go:86", after := #[{ on := 4, ground := Go.Ground.data }], guard := none }) (v := ?_) rfl (by kernel_rfl) (by kernel_rfl) (by kernel_rfl) (fun _ _ _ h => h) (Or.inl ⟨by rfl, ?_⟩) (by assumption) ?_
        rotate_left
        · (intro w hSw; (try dsimp only at hSw); go_simp <;> with_reducible rfl)
        try simp only [Act.put, List.setIfInBounds_toArray, List.set_cons_zero, List.set_cons_succ]
        refine wpAnyH_take (i := 6) (oi := { dst := some 46, op := Go.Op.call { callee := Go.Callee.builtin Go.Builtin.min, args := #[Go.Operand.tmp 45, Go.Operand.const (Go.Value.int Go.IntKind.i64 20)], argTypes := #[3, 3] }, type := 3, pos := "law.go:86", after := #[{ on := 5, ground := Go.Ground.data }], guard := none }) (v := ?_) rfl (by kernel_rfl) (by kernel_rfl) (by kernel_rfl) (fun _ _ _ h => h) (Or.inl ⟨by rfl, ?_⟩) (by assumption) ?_
        rotate_left
        · (intro w hSw; (try dsimp only at hSw); go_simp <;> with_reducible rfl)
        try simp only [Act.put, List.setIfInBounds_toArray, List.set_cons_zero, List.set_cons_succ]
        refine wpAnyH_take (i := 7) (oi := { dst := some 47, op := Go.Op.slice 9 (Go.Operand.tmp 43) none (some (Go.Operand.tmp 46)) none, type := 9, pos := "law.go:86", after := #[{ on := 3, ground := Go.Ground.data }, { on := 6, ground := Go.Ground.data }], guard := none }) (v := ?_) rfl (by kernel_rfl) (by kernel_rfl) (by kernel_rfl) (fun _ _ _ h => h) (Or.inl ⟨by rfl, ?_⟩) (by assumption) ?_
        rotate_left
        · (intro w hSw; (try dsimp only at hSw); go_simp <;> with_reducible rfl)
        try simp only [Act.put, List.setIfInBounds_toArray, List.set_cons_zero, List.set_cons_succ]
        refine wpAnyH_ready (rs := [0, 8]) (by kernel_rfl) (by simp) ?_
        refine (AllReadyH.cons (o := { dst := some 40, op := Go.Op.buildSlice 22 0 #[], type := 22, pos := "law.go:86", after := #[], guard := none }) rfl (fun K hK => ?_) (AllReadyH.cons (o := { dst := some 48, op := Go.Op.buildSlice 22 1 #[(0, Go.Operand.tmp 47)], type := 22, pos := "law.go:86", after := #[{ on := 7, ground := Go.Ground.data }], guard := none }) rfl (fun K hK => ?_) AllReadyH.nil))
        · try go_simp
          have HO0 := Lib.hid (own_empty w4.drew)
          refine hK.out _ _ ?_ (fun hHeld2 => ?_)
          · exact hHeld.alloc hHeld.size _
          clear hK K
          try simp only [Act.put, List.setIfInBounds_toArray, List.set_cons_zero, List.set_cons_succ]
          refine wpAnyH_ready (rs := [2, 8]) (by kernel_rfl) (by simp) ?_
          refine (AllReadyH.cons (o := { dst := some 42, op := Go.Op.call { callee := Go.Callee.builtin Go.Builtin.append, args := #[Go.Operand.tmp 40, Go.Operand.tmp 41], argTypes := #[22, 22] }, type := 22, pos := "law.go:86", after := #[{ on := 0, ground := Go.Ground.data }, { on := 1, ground := Go.Ground.data }], guard := none }) rfl (fun K hK => ?_) (AllReadyH.cons (o := { dst := some 48, op := Go.Op.buildSlice 22 1 #[(0, Go.Operand.tmp 47)], type := 22, pos := "law.go:86", after := #[{ on := 7, ground := Go.Ground.data }], guard := none }) rfl (fun K hK => ?_) AllReadyH.nil))
          · (try dsimp only)
            refine app_names (W0 := w4) _ _ rfl (w4.drew.heap.size) _ rfl HO0.out (by first | (simp; done) | (simp; omega)) hHeld2 (by simp) a m cap S HM.out rfl (HC.out _ hHeld2) (fun v2 w5 hown5 hB5 hkeep5 hz5 => ?_)
            have HO2 := Lib.hid hown5; clear hown5
            have hz6 := hz5
            simp at hz6
            clear hkeep5
            refine hK.out _ _ ?_ (fun hHeld3_0 => ?_)
            · exact hB5
            clear hK K
            try simp only [Act.put, List.setIfInBounds_toArray, List.set_cons_zero, List.set_cons_succ]
            refine wpAnyH_ready (rs := [8]) (by kernel_rfl) (by simp) ?_
            refine AllReadyH.cons (o := { dst := some 48, op := Go.Op.buildSlice 22 1 #[(0, Go.Operand.tmp 47)], type := 22, pos := "law.go:86", after := #[{ on := 7, ground := Go.Ground.data }], guard := none }) rfl (fun K hK => ?_) AllReadyH.nil
            try go_simp
            refine hK.out _ _ ?_ (fun hHeld4_0_2 => ?_)
            · exact hHeld3_0.alloc hHeld3_0.size _
            clear hK K
            try simp only [Act.put, List.setIfInBounds_toArray, List.set_cons_zero, List.set_cons_succ]
            refine wpAnyH_ready (rs := [9]) (by kernel_rfl) (by simp) ?_
            refine AllReadyH.cons (o := { dst := some 49, op := Go.Op.call { callee := Go.Callee.builtin Go.Builtin.append, args := #[Go.Operand.tmp 42, Go.Operand.tmp 48], argTypes := #[22, 22] }, type := 22, pos := "law.go:86", after := #[{ on := 2, ground := Go.Ground.data }, { on := 8, ground := Go.Ground.data }, { on := 2, ground := Go.Ground.chain }], guard := none }) rfl (fun K hK => ?_) AllReadyH.nil
            (try dsimp only)
            refine app_one (W0 := w4) _ _ rfl (w4.drew.heap.size) m _ S HM.out rfl (own_kept HO2.out ((Below.refl _ _).alloc (Nat.le_refl _) _)) (by have := hz5; simp at this ⊢; omega) hHeld4_0_2 (by simp) _ (x.extract 0 mk) rfl (by simp [Addr.add]) (fun A9 c9 w9 hr9 hB9 => ?_)
            refine hK.out _ _ ?_ (fun hHeld5_0_2_8 => ?_)
            · exact hB9
            clear hK K
            try simp only [Act.put, List.setIfInBounds_toArray, List.set_cons_zero, List.set_cons_succ]
            refine wpAnyH_ready (rs := [10]) (by kernel_rfl) (by simp) ?_
            refine AllReadyH.cons (o := { dst := some 50, op := Go.Op.call { callee := Go.Callee.value (Go.Operand.func 13), args := #[Go.Operand.tmp 49], argTypes := #[22] }, type := 26, pos := "law.go:86", after := #[{ on := 9, ground := Go.Ground.data }, { on := 9, ground := Go.Ground.chain }], guard := none }) rfl (fun K hK => ?_) AllReadyH.nil
            (first | go_at_call 13 | (go_simp; go_at_call 13))
            refine (HLAST.out A9 c9 _ hr9).mono ?_
            rintro e w10 ⟨hb10, V, sl, g10, rfl, hg10⟩
            try go_wp2_with fail
            refine hK.out _ _ ?_ (fun hHeld6_0_2_8_9 => ?_)
            · exact hHeld5_0_2_8.trans (hb10.mono hHeld5_0_2_8.size)
            clear hK K
            try simp only [Act.put, List.setIfInBounds_toArray, List.set_cons_zero, List.set_cons_succ]
            refine wpAnyH_take (i := 11) (oi := { dst := some 39, op := Go.Op.move (Go.Operand.tmp 50), type := 26, pos := "law.go:86", after := #[{ on := 10, ground := Go.Ground.data }], guard := none }) (v := ?_) rfl (by kernel_rfl) (by kernel_rfl) (by kernel_rfl) (fun _ _ _ h => h) (Or.inl ⟨by rfl, ?_⟩) (by assumption) ?_
            rotate_left
            · (intro w hSw; (try dsimp only at hSw); go_simp <;> with_reducible rfl)
            try simp only [Act.put, List.setIfInBounds_toArray, List.set_cons_zero, List.set_cons_succ]
            refine wpAnyH_take (i := 12) (oi := { dst := some 51, op := Go.Op.extract (Go.Operand.tmp 39) 0, type := 9, pos := "law.go:86", after := #[{ on := 11, ground := Go.Ground.data }], guard := none }) (v := ?_) rfl (by kernel_rfl) (by kernel_rfl) (by kernel_rfl) (fun _ _ _ h => h) (Or.inl ⟨by rfl, ?_⟩) (by assumption) ?_
            rotate_left
            · (intro w hSw; (try dsimp only at hSw); go_simp <;> with_reducible rfl)
            try simp only [Act.put, List.setIfInBounds_toArray, List.set_cons_zero, List.set_cons_succ]
            refine wpAnyH_take (i := 13) (oi := { dst := some 52, op := Go.Op.extract (Go.Operand.tmp 39) 1, type := 24, pos := "law.go:86", after := #[{ on := 11, ground := Go.Ground.data }, { on := 15, ground := Go.Ground.gcOnly Go.Departure.lateStores }], guard := none }) (v := ?_) rfl (by kernel_rfl) (by kernel_rfl) (by kernel_rfl) (fun _ _ _ h => h) (Or.inl ⟨by rfl, ?_⟩) (by assumption) ?_
            rotate_left
            · (intro w hSw; (try dsimp only at hSw); go_simp <;> with_reducible rfl)
            try simp only [Act.put, List.setIfInBounds_toArray, List.set_cons_zero, List.set_cons_succ]
            refine wpAnyH_take (i := 14) (oi := { dst := some 53, op := Go.Op.extract (Go.Operand.tmp 39) 2, type := 25, pos := "law.go:86", after := #[{ on := 11, ground := Go.Ground.data }, { on := 16, ground := Go.Ground.gcOnly Go.Departure.lateStores }], guard := none }) (v := ?_) rfl (by kernel_rfl) (by kernel_rfl) (by kernel_rfl) (fun _ _ _ h => h) (Or.inl ⟨by rfl, ?_⟩) (by assumption) ?_
            rotate_left
            · (intro w hSw; (try dsimp only at hSw); go_simp <;> with_reducible rfl)
            try simp only [Act.put, List.setIfInBounds_toArray, List.set_cons_zero, List.set_cons_succ]
            refine wpAnyH_take (i := 15) (oi := { dst := some 11, op := Go.Op.assign (Go.Operand.tmp 51), type := 9, pos := "law.go:86", after := #[{ on := 12, ground := Go.Ground.data }, { on := 10, ground := Go.Ground.chain }, { on := 0, ground := Go.Ground.phase }, { on := 1, ground := Go.Ground.phase }, { on := 2, ground := Go.Ground.phase }, { on := 3, ground := Go.Ground.phase }, { on := 4, ground := Go.Ground.phase }, { on := 5, ground := Go.Ground.phase }, { on := 6, ground := Go.Ground.phase }, { on := 7, ground := Go.Ground.phase }, { on := 8, ground := Go.Ground.phase }, { on := 9, ground := Go.Ground.phase }, { on := 10, ground := Go.Ground.phase }, { on := 11, ground := Go.Ground.phase }, { on := 12, ground := Go.Ground.phase }, { on := 13, ground := Go.Ground.textOnly Go.Departure.lateStores }, { on := 14, ground := Go.Ground.textOnly Go.Departure.lateStores }], guard := none }) (v := ?_) rfl (by kernel_rfl) (by kernel_rfl) (by kernel_rfl) (fun _ _ _ h => h) (Or.inl ⟨by rfl, ?_⟩) (by assumption) ?_
            rotate_left
            · (intro w hSw; (try dsimp only at hSw); go_simp <;> with_reducible rfl)
            try simp only [Act.put, List.setIfInBounds_toArray, List.set_cons_zero, List.set_cons_succ]
            refine wpAnyH_take (i := 16) (oi := { dst := some 12, op := Go.Op.assign (Go.Operand.tmp 52), type := 24, pos := "law.go:86", after := #[{ on := 13, ground := Go.Ground.data }, { on := 15, ground := Go.Ground.chain }, { on := 0, ground := Go.Ground.phase }, { on := 1, ground := Go.Ground.phase }, { on := 2, ground := Go.Ground.phase }, { on := 3, ground := Go.Ground.phase }, { on := 4, ground := Go.Ground.phase }, { on := 5, ground := Go.Ground.phase }, { on := 6, ground := Go.Ground.phase }, { on := 7, ground := Go.Ground.phase }, { on := 8, ground := Go.Ground.phase }, { on := 9, ground := Go.Ground.phase }, { on := 10, ground := Go.Ground.phase }, { on := 11, ground := Go.Ground.phase }, { on := 12, ground := Go.Ground.phase }, { on := 13, ground := Go.Ground.phase }, { on := 14, ground := Go.Ground.textOnly Go.Departure.lateStores }, { on := 15, ground := Go.Ground.phase }], guard := none }) (v := ?_) rfl (by kernel_rfl) (by kernel_rfl) (by kernel_rfl) (fun _ _ _ h => h) (Or.inl ⟨by rfl, ?_⟩) (by assumption) ?_
            rotate_left
            · (intro w hSw; (try dsimp only at hSw); go_simp <;> with_reducible rfl)
            try simp only [Act.put, List.setIfInBounds_toArray, List.set_cons_zero, List.set_cons_succ]
            refine wpAnyH_take (i := 17) (oi := { dst := some 13, op := Go.Op.assign (Go.Operand.tmp 53), type := 25, pos := "law.go:86", after := #[{ on := 14, ground := Go.Ground.data }, { on := 16, ground := Go.Ground.chain }, { on := 0, ground := Go.Ground.phase }, { on := 1, ground := Go.Ground.phase }, { on := 2, ground := Go.Ground.phase }, { on := 3, ground := Go.Ground.phase }, { on := 4, ground := Go.Ground.phase }, { on := 5, ground := Go.Ground.phase }, { on := 6, ground := Go.Ground.phase }, { on := 7, ground := Go.Ground.phase }, { on := 8, ground := Go.Ground.phase }, { on := 9, ground := Go.Ground.phase }, { on := 10, ground := Go.Ground.phase }, { on := 11, ground := Go.Ground.phase }, { on := 12, ground := Go.Ground.phase }, { on := 13, ground := Go.Ground.phase }, { on := 14, ground := Go.Ground.phase }, { on := 15, ground := Go.Ground.phase }, { on := 16, ground := Go.Ground.phase }], guard := none }) (v := ?_) rfl (by kernel_rfl) (by kernel_rfl) (by kernel_rfl) (fun _ _ _ h => h) (Or.inl ⟨by rfl, ?_⟩) (by assumption) ?_
            rotate_left
            · (intro w hSw; (try dsimp only at hSw); go_simp <;> with_reducible rfl)
            try simp only [Act.put, List.setIfInBounds_toArray, List.set_cons_zero, List.set_cons_succ]
            refine wpAnyH_done (by kernel_rfl) ?_ _
            have hBE := HB4.out.trans (hHeld6_0_2_8_9.mono HB4.out.size)
            have HBE := Lib.hid hBE; clear hBE
            have hut : (U.size : Int) = (T.size : Int) := by rw [HUT.out]
            rcases hg10 with rfl | ⟨rfl, hv10⟩
            · go_wp2
              go_ret
              exact ⟨by simp, HBE.out⟩
            · have hv : (T.size : Int) ≤ (V.size : Int) := by omega
              go_wp2
              go_ret
              exact ⟨by simp, HBE.out⟩
          · try go_simp
            have HO1 : Hid (((w4.alloc (.cells #[] 9)).alloc (.cells #[.string (x.extract 0 mk)] 9)).drew.ownsRow w4.heap.size 9 1 (.slice (some ⟨w4.heap.size, 0, none⟩) 0 0) 0 []) := Lib.hid (own_kept (own_kept (own_empty w4) ((Below.refl _ _).alloc (Nat.le_refl _) _)) (Below.refl _ _).drew)
            refine hK.out _ _ ?_ (fun hHeld3_0 => ?_)
            · exact hHeld2.alloc hHeld2.size _
            clear hK K
            try simp only [Act.put, List.setIfInBounds_toArray, List.set_cons_zero, List.set_cons_succ]
            refine wpAnyH_ready (rs := [2]) (by kernel_rfl) (by simp) ?_
            refine AllReadyH.cons (o := { dst := some 42, op := Go.Op.call { callee := Go.Callee.builtin Go.Builtin.append, args := #[Go.Operand.tmp 40, Go.Operand.tmp 41], argTypes := #[22, 22] }, type := 22, pos := "law.go:86", after := #[{ on := 0, ground := Go.Ground.data }, { on := 1, ground := Go.Ground.data }], guard := none }) rfl (fun K hK => ?_) AllReadyH.nil
            (try dsimp only)
            refine app_names (W0 := w4) _ _ rfl (w4.heap.size) (.slice (some ⟨w4.heap.size, 0, none⟩) 0 0) rfl HO1.out (by first | (simp; done) | (simp; omega)) hHeld3_0 (by simp) a m cap S HM.out rfl (HC.out _ hHeld3_0) (fun v2 w5 hown5 hB5 hkeep5 hz5 => ?_)
            have HO2 := Lib.hid hown5; clear hown5
            have hx5 : w5.cell? ⟨w4.heap.size + 1, 0, none⟩ = some (.string (x.extract 0 mk)) := by rw [hkeep5 _ (by simp) (by simp [Value.ownBlock])]; exact cell_two w4 _ _
            clear hkeep5
            refine hK.out _ _ ?_ (fun hHeld4_0_8 => ?_)
            · exact hB5
            clear hK K
            try simp only [Act.put, List.setIfInBounds_toArray, List.set_cons_zero, List.set_cons_succ]
            refine wpAnyH_ready (rs := [9]) (by kernel_rfl) (by simp) ?_
            refine AllReadyH.cons (o := { dst := some 49, op := Go.Op.call { callee := Go.Callee.builtin Go.Builtin.append, args := #[Go.Operand.tmp 42, Go.Operand.tmp 48], argTypes := #[22, 22] }, type := 22, pos := "law.go:86", after := #[{ on := 2, ground := Go.Ground.data }, { on := 8, ground := Go.Ground.data }, { on := 2, ground := Go.Ground.chain }], guard := none }) rfl (fun K hK => ?_) AllReadyH.nil
            (try dsimp only)
            refine app_one (W0 := w4) _ _ rfl (w4.heap.size) m _ S HM.out rfl HO2.out (by have := hz5; simp at this ⊢; omega) hHeld4_0_8 (by simp) _ (x.extract 0 mk) rfl hx5 (fun A9 c9 w9 hr9 hB9 => ?_)
            refine hK.out _ _ ?_ (fun hHeld5_0_8_2 => ?_)
            · exact hB9
            clear hK K
            try simp only [Act.put, List.setIfInBounds_toArray, List.set_cons_zero, List.set_cons_succ]
            refine wpAnyH_ready (rs := [10]) (by kernel_rfl) (by simp) ?_
            refine AllReadyH.cons (o := { dst := some 50, op := Go.Op.call { callee := Go.Callee.value (Go.Operand.func 13), args := #[Go.Operand.tmp 49], argTypes := #[22] }, type := 26, pos := "law.go:86", after := #[{ on := 9, ground := Go.Ground.data }, { on := 9, ground := Go.Ground.chain }], guard := none }) rfl (fun K hK => ?_) AllReadyH.nil
            (first | go_at_call 13 | (go_simp; go_at_call 13))
            refine (HLAST.out A9 c9 _ hr9).mono ?_
            rintro e w10 ⟨hb10, V, sl, g10, rfl, hg10⟩
            try go_wp2_with fail
            refine hK.out _ _ ?_ (fun hHeld6_0_8_2_9 => ?_)
            · exact hHeld5_0_8_2.trans (hb10.mono hHeld5_0_8_2.size)
            clear hK K
            try simp only [Act.put, List.setIfInBounds_toArray, List.set_cons_zero, List.set_cons_succ]
            refine wpAnyH_take (i := 11) (oi := { dst := some 39, op := Go.Op.move (Go.Operand.tmp 50), type := 26, pos := "law.go:86", after := #[{ on := 10, ground := Go.Ground.data }], guard := none }) (v := ?_) rfl (by kernel_rfl) (by kernel_rfl) (by kernel_rfl) (fun _ _ _ h => h) (Or.inl ⟨by rfl, ?_⟩) (by assumption) ?_
            rotate_left
            · (intro w hSw; (try dsimp only at hSw); go_simp <;> with_reducible rfl)
            try simp only [Act.put, List.setIfInBounds_toArray, List.set_cons_zero, List.set_cons_succ]
            refine wpAnyH_take (i := 12) (oi := { dst := some 51, op := Go.Op.extract (Go.Operand.tmp 39) 0, type := 9, pos := "law.go:86", after := #[{ on := 11, ground := Go.Ground.data }], guard := none }) (v := ?_) rfl (by kernel_rfl) (by kernel_rfl) (by kernel_rfl) (fun _ _ _ h => h) (Or.inl ⟨by rfl, ?_⟩) (by assumption) ?_
            rotate_left
            · (intro w hSw; (try dsimp only at hSw); go_simp <;> with_reducible rfl)
            try simp only [Act.put, List.setIfInBounds_toArray, List.set_cons_zero, List.set_cons_succ]
            refine wpAnyH_take (i := 13) (oi := { dst := some 52, op := Go.Op.extract (Go.Operand.tmp 39) 1, type := 24, pos := "law.go:86", after := #[{ on := 11, ground := Go.Ground.data }, { on := 15, ground := Go.Ground.gcOnly Go.Departure.lateStores }], guard := none }) (v := ?_) rfl (by kernel_rfl) (by kernel_rfl) (by kernel_rfl) (fun _ _ _ h => h) (Or.inl ⟨by rfl, ?_⟩) (by assumption) ?_
            rotate_left
            · (intro w hSw; (try dsimp only at hSw); go_simp <;> with_reducible rfl)
            try simp only [Act.put, List.setIfInBounds_toArray, List.set_cons_zero, List.set_cons_succ]
            refine wpAnyH_take (i := 14) (oi := { dst := some 53, op := Go.Op.extract (Go.Operand.tmp 39) 2, type := 25, pos := "law.go:86", after := #[{ on := 11, ground := Go.Ground.data }, { on := 16, ground := Go.Ground.gcOnly Go.Departure.lateStores }], guard := none }) (v := ?_) rfl (by kernel_rfl) (by kernel_rfl) (by kernel_rfl) (fun _ _ _ h => h) (Or.inl ⟨by rfl, ?_⟩) (by assumption) ?_
            rotate_left
            · (intro w hSw; (try dsimp only at hSw); go_simp <;> with_reducible rfl)
            try simp only [Act.put, List.setIfInBounds_toArray, List.set_cons_zero, List.set_cons_succ]
            refine wpAnyH_take (i := 15) (oi := { dst := some 11, op := Go.Op.assign (Go.Operand.tmp 51), type := 9, pos := "law.go:86", after := #[{ on := 12, ground := Go.Ground.data }, { on := 10, ground := Go.Ground.chain }, { on := 0, ground := Go.Ground.phase }, { on := 1, ground := Go.Ground.phase }, { on := 2, ground := Go.Ground.phase }, { on := 3, ground := Go.Ground.phase }, { on := 4, ground := Go.Ground.phase }, { on := 5, ground := Go.Ground.phase }, { on := 6, ground := Go.Ground.phase }, { on := 7, ground := Go.Ground.phase }, { on := 8, ground := Go.Ground.phase }, { on := 9, ground := Go.Ground.phase }, { on := 10, ground := Go.Ground.phase }, { on := 11, ground := Go.Ground.phase }, { on := 12, ground := Go.Ground.phase }, { on := 13, ground := Go.Ground.textOnly Go.Departure.lateStores }, { on := 14, ground := Go.Ground.textOnly Go.Departure.lateStores }], guard := none }) (v := ?_) rfl (by kernel_rfl) (by kernel_rfl) (by kernel_rfl) (fun _ _ _ h => h) (Or.inl ⟨by rfl, ?_⟩) (by assumption) ?_
            rotate_left
            · (intro w hSw; (try dsimp only at hSw); go_simp <;> with_reducible rfl)
            try simp only [Act.put, List.setIfInBounds_toArray, List.set_cons_zero, List.set_cons_succ]
            refine wpAnyH_take (i := 16) (oi := { dst := some 12, op := Go.Op.assign (Go.Operand.tmp 52), type := 24, pos := "law.go:86", after := #[{ on := 13, ground := Go.Ground.data }, { on := 15, ground := Go.Ground.chain }, { on := 0, ground := Go.Ground.phase }, { on := 1, ground := Go.Ground.phase }, { on := 2, ground := Go.Ground.phase }, { on := 3, ground := Go.Ground.phase }, { on := 4, ground := Go.Ground.phase }, { on := 5, ground := Go.Ground.phase }, { on := 6, ground := Go.Ground.phase }, { on := 7, ground := Go.Ground.phase }, { on := 8, ground := Go.Ground.phase }, { on := 9, ground := Go.Ground.phase }, { on := 10, ground := Go.Ground.phase }, { on := 11, ground := Go.Ground.phase }, { on := 12, ground := Go.Ground.phase }, { on := 13, ground := Go.Ground.phase }, { on := 14, ground := Go.Ground.textOnly Go.Departure.lateStores }, { on := 15, ground := Go.Ground.phase }], guard := none }) (v := ?_) rfl (by kernel_rfl) (by kernel_rfl) (by kernel_rfl) (fun _ _ _ h => h) (Or.inl ⟨by rfl, ?_⟩) (by assumption) ?_
            rotate_left
            · (intro w hSw; (try dsimp only at hSw); go_simp <;> with_reducible rfl)
            try simp only [Act.put, List.setIfInBounds_toArray, List.set_cons_zero, List.set_cons_succ]
            refine wpAnyH_take (i := 17) (oi := { dst := some 13, op := Go.Op.assign (Go.Operand.tmp 53), type := 25, pos := "law.go:86", after := #[{ on := 14, ground := Go.Ground.data }, { on := 16, ground := Go.Ground.chain }, { on := 0, ground := Go.Ground.phase }, { on := 1, ground := Go.Ground.phase }, { on := 2, ground := Go.Ground.phase }, { on := 3, ground := Go.Ground.phase }, { on := 4, ground := Go.Ground.phase }, { on := 5, ground := Go.Ground.phase }, { on := 6, ground := Go.Ground.phase }, { on := 7, ground := Go.Ground.phase }, { on := 8, ground := Go.Ground.phase }, { on := 9, ground := Go.Ground.phase }, { on := 10, ground := Go.Ground.phase }, { on := 11, ground := Go.Ground.phase }, { on := 12, ground := Go.Ground.phase }, { on := 13, ground := Go.Ground.phase }, { on := 14, ground := Go.Ground.phase }, { on := 15, ground := Go.Ground.phase }, { on := 16, ground := Go.Ground.phase }], guard := none }) (v := ?_) rfl (by kernel_rfl) (by kernel_rfl) (by kernel_rfl) (fun _ _ _ h => h) (Or.inl ⟨by rfl, ?_⟩) (by assumption) ?_
            rotate_left
            · (intro w hSw; (try dsimp only at hSw); go_simp <;> with_reducible rfl)
            try simp only [Act.put, List.setIfInBounds_toArray, List.set_cons_zero, List.set_cons_succ]
            refine wpAnyH_done (by kernel_rfl) ?_ _
            have hBE := HB4.out.trans (hHeld6_0_8_2_9.mono HB4.out.size)
            have HBE := Lib.hid hBE; clear hBE
            have hut : (U.size : Int) = (T.size : Int) := by rw [HUT.out]
            rcases hg10 with rfl | ⟨rfl, hv10⟩
            · go_wp2
              go_ret
              exact ⟨by simp, HBE.out⟩
            · have hv : (T.size : Int) ≤ (V.size : Int) := by omega
              go_wp2
              go_ret
              exact ⟨by simp, HBE.out⟩
        · try go_simp
          refine hK.out _ _ ?_ (fun hHeld2 => ?_)
          · exact hHeld.alloc hHeld.size _
          clear hK K
          try simp only [Act.put, List.setIfInBounds_toArray, List.set_cons_zero, List.set_cons_succ]
          refine wpAnyH_ready (rs := [0]) (by kernel_rfl) (by simp) ?_
          refine AllReadyH.cons (o := { dst := some 40, op := Go.Op.buildSlice 22 0 #[], type := 22, pos := "law.go:86", after := #[], guard := none }) rfl (fun K hK => ?_) AllReadyH.nil
          try go_simp
          have HO0 : Hid (((w4.alloc (.cells #[.string (x.extract 0 mk)] 9)).alloc (.cells #[] 9)).drew.ownsRow (w4.heap.size + 1) 9 1 (.slice (some ⟨w4.heap.size + 1, 0, none⟩) 0 0) 0 []) := Lib.hid (own_two w4 _)
          refine hK.out _ _ ?_ (fun hHeld3_8 => ?_)
          · exact hHeld2.alloc hHeld2.size _
          clear hK K
          try simp only [Act.put, List.setIfInBounds_toArray, List.set_cons_zero, List.set_cons_succ]
          refine wpAnyH_ready (rs := [2]) (by kernel_rfl) (by simp) ?_
          refine AllReadyH.cons (o := { dst := some 42, op := Go.Op.call { callee := Go.Callee.builtin Go.Builtin.append, args := #[Go.Operand.tmp 40, Go.Operand.tmp 41], argTypes := #[22, 22] }, type := 22, pos := "law.go:86", after := #[{ on := 0, ground := Go.Ground.data }, { on := 1, ground := Go.Ground.data }], guard := none }) rfl (fun K hK => ?_) AllReadyH.nil
          (try dsimp only)
          refine app_names (W0 := w4) _ _ rfl ((w4.heap.size + 1)) (.slice (some ⟨w4.heap.size + 1, 0, none⟩) 0 0) rfl HO0.out (by first | (simp; done) | (simp; omega)) hHeld3_8 (by simp) a m cap S HM.out rfl (HC.out _ hHeld3_8) (fun v2 w5 hown5 hB5 hkeep5 hz5 => ?_)
          have HO2 := Lib.hid hown5; clear hown5
          have hx5 : w5.cell? ⟨w4.heap.size, 0, none⟩ = some (.string (x.extract 0 mk)) := by rw [hkeep5 _ (by simp; omega) (by simp [Value.ownBlock])]; exact cell_one w4 _ _
          clear hkeep5
          refine hK.out _ _ ?_ (fun hHeld4_8_0 => ?_)
          · exact hB5
          clear hK K
          try simp only [Act.put, List.setIfInBounds_toArray, List.set_cons_zero, List.set_cons_succ]
          refine wpAnyH_ready (rs := [9]) (by kernel_rfl) (by simp) ?_
          refine AllReadyH.cons (o := { dst := some 49, op := Go.Op.call { callee := Go.Callee.builtin Go.Builtin.append, args := #[Go.Operand.tmp 42, Go.Operand.tmp 48], argTypes := #[22, 22] }, type := 22, pos := "law.go:86", after := #[{ on := 2, ground := Go.Ground.data }, { on := 8, ground := Go.Ground.data }, { on := 2, ground := Go.Ground.chain }], guard := none }) rfl (fun K hK => ?_) AllReadyH.nil
          (try dsimp only)
          refine app_one (W0 := w4) _ _ rfl ((w4.heap.size + 1)) m _ S HM.out rfl HO2.out (by have := hz5; simp at this ⊢; omega) hHeld4_8_0 (by simp) _ (x.extract 0 mk) rfl hx5 (fun A9 c9 w9 hr9 hB9 => ?_)
          refine hK.out _ _ ?_ (fun hHeld5_8_0_2 => ?_)
          · exact hB9
          clear hK K
          try simp only [Act.put, List.setIfInBounds_toArray, List.set_cons_zero, List.set_cons_succ]
          refine wpAnyH_ready (rs := [10]) (by kernel_rfl) (by simp) ?_
          refine AllReadyH.cons (o := { dst := some 50, op := Go.Op.call { callee := Go.Callee.value (Go.Operand.func 13), args := #[Go.Operand.tmp 49], argTypes := #[22] }, type := 26, pos := "law.go:86", after := #[{ on := 9, ground := Go.Ground.data }, { on := 9, ground := Go.Ground.chain }], guard := none }) rfl (fun K hK => ?_) AllReadyH.nil
          (first | go_at_call 13 | (go_simp; go_at_call 13))
          refine (HLAST.out A9 c9 _ hr9).mono ?_
          rintro e w10 ⟨hb10, V, sl, g10, rfl, hg10⟩
          try go_wp2_with fail
          refine hK.out _ _ ?_ (fun hHeld6_8_0_2_9 => ?_)
          · exact hHeld5_8_0_2.trans (hb10.mono hHeld5_8_0_2.size)
          clear hK K
          try simp only [Act.put, List.setIfInBounds_toArray, List.set_cons_zero, List.set_cons_succ]
          refine wpAnyH_take (i := 11) (oi := { dst := some 39, op := Go.Op.move (Go.Operand.tmp 50), type := 26, pos := "law.go:86", after := #[{ on := 10, ground := Go.Ground.data }], guard := none }) (v := ?_) rfl (by kernel_rfl) (by kernel_rfl) (by kernel_rfl) (fun _ _ _ h => h) (Or.inl ⟨by rfl, ?_⟩) (by assumption) ?_
          rotate_left
          · (intro w hSw; (try dsimp only at hSw); go_simp <;> with_reducible rfl)
          try simp only [Act.put, List.setIfInBounds_toArray, List.set_cons_zero, List.set_cons_succ]
          refine wpAnyH_take (i := 12) (oi := { dst := some 51, op := Go.Op.extract (Go.Operand.tmp 39) 0, type := 9, pos := "law.go:86", after := #[{ on := 11, ground := Go.Ground.data }], guard := none }) (v := ?_) rfl (by kernel_rfl) (by kernel_rfl) (by kernel_rfl) (fun _ _ _ h => h) (Or.inl ⟨by rfl, ?_⟩) (by assumption) ?_
          rotate_left
          · (intro w hSw; (try dsimp only at hSw); go_simp <;> with_reducible rfl)
          try simp only [Act.put, List.setIfInBounds_toArray, List.set_cons_zero, List.set_cons_succ]
          refine wpAnyH_take (i := 13) (oi := { dst := some 52, op := Go.Op.extract (Go.Operand.tmp 39) 1, type := 24, pos := "law.go:86", after := #[{ on := 11, ground := Go.Ground.data }, { on := 15, ground := Go.Ground.gcOnly Go.Departure.lateStores }], guard := none }) (v := ?_) rfl (by kernel_rfl) (by kernel_rfl) (by kernel_rfl) (fun _ _ _ h => h) (Or.inl ⟨by rfl, ?_⟩) (by assumption) ?_
          rotate_left
          · (intro w hSw; (try dsimp only at hSw); go_simp <;> with_reducible rfl)
          try simp only [Act.put, List.setIfInBounds_toArray, List.set_cons_zero, List.set_cons_succ]
          refine wpAnyH_take (i := 14) (oi := { dst := some 53, op := Go.Op.extract (Go.Operand.tmp 39) 2, type := 25, pos := "law.go:86", after := #[{ on := 11, ground := Go.Ground.data }, { on := 16, ground := Go.Ground.gcOnly Go.Departure.lateStores }], guard := none }) (v := ?_) rfl (by kernel_rfl) (by kernel_rfl) (by kernel_rfl) (fun _ _ _ h => h) (Or.inl ⟨by rfl, ?_⟩) (by assumption) ?_
          rotate_left
          · (intro w hSw; (try dsimp only at hSw); go_simp <;> with_reducible rfl)
          try simp only [Act.put, List.setIfInBounds_toArray, List.set_cons_zero, List.set_cons_succ]
          refine wpAnyH_take (i := 15) (oi := { dst := some 11, op := Go.Op.assign (Go.Operand.tmp 51), type := 9, pos := "law.go:86", after := #[{ on := 12, ground := Go.Ground.data }, { on := 10, ground := Go.Ground.chain }, { on := 0, ground := Go.Ground.phase }, { on := 1, ground := Go.Ground.phase }, { on := 2, ground := Go.Ground.phase }, { on := 3, ground := Go.Ground.phase }, { on := 4, ground := Go.Ground.phase }, { on := 5, ground := Go.Ground.phase }, { on := 6, ground := Go.Ground.phase }, { on := 7, ground := Go.Ground.phase }, { on := 8, ground := Go.Ground.phase }, { on := 9, ground := Go.Ground.phase }, { on := 10, ground := Go.Ground.phase }, { on := 11, ground := Go.Ground.phase }, { on := 12, ground := Go.Ground.phase }, { on := 13, ground := Go.Ground.textOnly Go.Departure.lateStores }, { on := 14, ground := Go.Ground.textOnly Go.Departure.lateStores }], guard := none }) (v := ?_) rfl (by kernel_rfl) (by kernel_rfl) (by kernel_rfl) (fun _ _ _ h => h) (Or.inl ⟨by rfl, ?_⟩) (by assumption) ?_
          rotate_left
          · (intro w hSw; (try dsimp only at hSw); go_simp <;> with_reducible rfl)
          try simp only [Act.put, List.setIfInBounds_toArray, List.set_cons_zero, List.set_cons_succ]
          refine wpAnyH_take (i := 16) (oi := { dst := some 12, op := Go.Op.assign (Go.Operand.tmp 52), type := 24, pos := "law.go:86", after := #[{ on := 13, ground := Go.Ground.data }, { on := 15, ground := Go.Ground.chain }, { on := 0, ground := Go.Ground.phase }, { on := 1, ground := Go.Ground.phase }, { on := 2, ground := Go.Ground.phase }, { on := 3, ground := Go.Ground.phase }, { on := 4, ground := Go.Ground.phase }, { on := 5, ground := Go.Ground.phase }, { on := 6, ground := Go.Ground.phase }, { on := 7, ground := Go.Ground.phase }, { on := 8, ground := Go.Ground.phase }, { on := 9, ground := Go.Ground.phase }, { on := 10, ground := Go.Ground.phase }, { on := 11, ground := Go.Ground.phase }, { on := 12, ground := Go.Ground.phase }, { on := 13, ground := Go.Ground.phase }, { on := 14, ground := Go.Ground.textOnly Go.Departure.lateStores }, { on := 15, ground := Go.Ground.phase }], guard := none }) (v := ?_) rfl (by kernel_rfl) (by kernel_rfl) (by kernel_rfl) (fun _ _ _ h => h) (Or.inl ⟨by rfl, ?_⟩) (by assumption) ?_
          rotate_left
          · (intro w hSw; (try dsimp only at hSw); go_simp <;> with_reducible rfl)
          try simp only [Act.put, List.setIfInBounds_toArray, List.set_cons_zero, List.set_cons_succ]
          refine wpAnyH_take (i := 17) (oi := { dst := some 13, op := Go.Op.assign (Go.Operand.tmp 53), type := 25, pos := "law.go:86", after := #[{ on := 14, ground := Go.Ground.data }, { on := 16, ground := Go.Ground.chain }, { on := 0, ground := Go.Ground.phase }, { on := 1, ground := Go.Ground.phase }, { on := 2, ground := Go.Ground.phase }, { on := 3, ground := Go.Ground.phase }, { on := 4, ground := Go.Ground.phase }, { on := 5, ground := Go.Ground.phase }, { on := 6, ground := Go.Ground.phase }, { on := 7, ground := Go.Ground.phase }, { on := 8, ground := Go.Ground.phase }, { on := 9, ground := Go.Ground.phase }, { on := 10, ground := Go.Ground.phase }, { on := 11, ground := Go.Ground.phase }, { on := 12, ground := Go.Ground.phase }, { on := 13, ground := Go.Ground.phase }, { on := 14, ground := Go.Ground.phase }, { on := 15, ground := Go.Ground.phase }, { on := 16, ground := Go.Ground.phase }], guard := none }) (v := ?_) rfl (by kernel_rfl) (by kernel_rfl) (by kernel_rfl) (fun _ _ _ h => h) (Or.inl ⟨by rfl, ?_⟩) (by assumption) ?_
          rotate_left
          · (intro w hSw; (try dsimp only at hSw); go_simp <;> with_reducible rfl)
          try simp only [Act.put, List.setIfInBounds_toArray, List.set_cons_zero, List.set_cons_succ]
          refine wpAnyH_done (by kernel_rfl) ?_ _
          have hBE := HB4.out.trans (hHeld6_8_0_2_9.mono HB4.out.size)
          have HBE := Lib.hid hBE; clear hBE
          have hut : (U.size : Int) = (T.size : Int) := by rw [HUT.out]
          rcases hg10 with rfl | ⟨rfl, hv10⟩
          · go_wp2
            go_ret
            exact ⟨by simp, HBE.out⟩
          · have hv : (T.size : Int) ≤ (V.size : Int) := by omega
            go_wp2
            go_ret
            exact ⟨by simp, HBE.out⟩
theorem again_law (a : Option Addr) (len cap : Nat) (S : Nat → ByteArray) (x : ByteArray) (hsz : ∀ i, i < len → (S i).size ≤ 1048576) (w : World) (hS : IsStrs w a len cap S) : Calls Try.prog 4 #[.slice a len cap, .string x] w fun e w' => e = .returned (.bool true) ∧ Below w.heap.size w w' :=
  again_t a len cap (min len 15) S x (by have := hS.le_cap; omega) (by omega) (by omega) (by omega) (fun i hi => hsz i (by omega)) w hS
end Go.Proofs.Ytddlflabdlgnbaa
