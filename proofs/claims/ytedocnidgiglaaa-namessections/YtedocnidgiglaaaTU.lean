/- The walk of NamesSections. Conditions: those written in each theorem. -/
import Derived.Test.YtedocnidgiglaaaTR
import Derived.Test.YtedocnidgiglaaaTS
import Derived.Test.YtedocnidgiglaaaTT
namespace Go.Proofs.Ytedocnidgiglaaa
open Go.RowKit Go.WideShapes Go.ChangeShapes Go.ChangeAt
set_option linter.unusedVariables false
set_option maxRecDepth 1000000 in
set_option maxHeartbeats 3000000 in
theorem namesSections_core (p0 p1 p2 : Int) (big wide : Bool) (hb : (bits BinOp.and IntKind.i64 p0 1 == 1) = big) (hw : (bits BinOp.and IntKind.i64 p0 2 == 2) = wide) (q1 q2 kd ix : Nat) (hq1 : bits BinOp.and IntKind.i64 p1 3 = (q1 : Int)) (hq2 : bits BinOp.and IntKind.i64 p2 7 = (q2 : Int)) (hq1l : q1 ≤ 3) (hq2l : q2 ≤ 7) (hkd : (q1 = 0 ∧ kd = 8) ∨ (q1 ≠ 0 ∧ kd = q1))
    (s T : ByteArray) (A : Option Addr) (n cap m1 m : Nat) (R : Nat → Nat) (hm1 : (s.size ≤ 100 ∧ m1 = s.size) ∨ (100 < s.size ∧ m1 = 100)) (hm : (n ≤ 10 ∧ m = n) ∨ (10 < n ∧ m = 10)) (hix : ix = q2 % (m + 2)) (hT : s.extract 0 m1 = T) (hnc : n ≤ cap) (hA : A = none → m = 0 ∧ cap = 0) (w : World) (hR : RowU w A n R) (hR64 : ∀ i, i < n → R i < 18446744073709551616) :
    Calls Try.prog 7 #[.agg #[.int .i64 p0, .int .i64 p1, .int .i64 p2], .string s, .slice A n cap] w fun e w' => e = .returned (.bool true) ∧ Below w.heap.size w w' := by
  have hTs : T.size ≤ 100 := by rw [← hT]; simp; omega
  have HM1 := Lib.hid hm1; have HM := Lib.hid hm; have HT := Lib.hid hT; have hm10 : m ≤ 10 := by omega
  have hmn : m ≤ n := by omega
  have hkd8 : kd ≤ 8 := by omega
  have HR := Lib.hid (hR.less hmn); have HR64 := Lib.hid (fun i (hi : i < m) => hR64 i (by omega)); have HIX := Lib.hid hix; have HA := Lib.hid hA; have HKD := Lib.hid hkd
  have HB1 := Lib.hid hb; have HW1 := Lib.hid hw
  obtain ⟨nn, hnn⟩ : ∃ nn, nn = m + 2 := ⟨_, rfl⟩
  have hixl : ix < nn := by rw [hix, hnn]; exact Nat.mod_lt _ (by omega)
  clear hR hR64 hm1 hm hT hix hA hkd hb hw
  go_enter Try.func7, Try.ntmps7
  go_wp2_with fail
  have hBX := heap_alloc_new w (.cells #[.int .i64 p0, .int .i64 p1, .int .i64 p2] 75)
  have hBB := below_more (Below.refl w.heap.size w) (.cells #[.int .i64 p0, .int .i64 p1, .int .i64 p2] 75)
  have HBX := Lib.hid hBX; have HBB := Lib.hid hBB; clear hBX hBB
  refine (speaks_any _).mono ?_
  rintro e w1 ⟨rfl, hb1⟩
  have HX1 := Lib.hid (heap_low HBX.out hb1); have HB1x := Lib.hid (HBB.out.trans (hb1.mono HBB.out.size)); clear hb1 HBX HBB
  go_upto_region 3 with (fail)
  refine oreg3 _ _ _ _ _ _ _ _ _ _ _ _ _ _ _ _ _ _ _ _ _ _ _ _ _ _ _ _ _ _ _ _ _ _ _ _ _ _ _ _ _ _ _ _ _ _ _ _ _ _ _ _ _ _ _ _ _ _ _ _ _ _ _ _ _ _ _ _ _ _ _ _ _ _ _ _ _ _ _ _ _ _ _ _ _ _ _ _ _ _ _ _ _ _ _ _ _ _ _ _ _ _ _ _ _ _ _ _ _ _ _ _ _ _ _ _ _ _ _ _ _ _ _ _ _ _ _ _ _ _ _ _ _ _ _ _ _ _ _ _ _ _ _ _ _ _ _ _ _ _ _ _ _ _ _ _ _ _ _ _ _ _ _ _ _ _ _ _ _ _ _ _ _ _ _ _ _ _ _ _ _ _ _ _ _ _ _ _ _ _ _ _ _ s T A n cap m m1 w1 (by have := HM1.out; split <;> omega) (by have := HM1.out; omega) (by omega) (by have := HM1.out; omega) (by rw [Int.toNat_natCast]; exact HT.out) HT.out (by have := HM.out; split <;> omega) (by have := HM.out; omega) (by omega) (by have := HM.out; omega) (fun _ _ _ _ _ h => h) (fun u25 u26 u27 u28 u29 u30 u31 u32 u33 u34 w2 b2 => ?_)
  have HX2 := Lib.hid (heap_low HX1.out b2); have HB2 := Lib.hid (HB1x.out.trans (b2.mono HB1x.out.size)); clear b2 HB1x HX1 HM1 HM HT
  have c0 : w2.cell? ⟨w.heap.size, 0, none⟩ = some (.int .i64 p0) := by rw [Lib.cell_of_heap HX2.out]; rfl
  have c1 : w2.cell? ⟨w.heap.size, 1, none⟩ = some (.int .i64 p1) := by rw [Lib.cell_of_heap HX2.out]; rfl
  have c2 : w2.cell? ⟨w.heap.size, 2, none⟩ = some (.int .i64 p2) := by rw [Lib.cell_of_heap HX2.out]; rfl
  have u1 : IntKind.u64.wrap (q1 : Int) = (q1 : Int) := by rw [IntKind.wrap_u64]; omega
  go_upto_if 40 with (fail)
  go_cut [7] (fun v wr => v = .int .u64 (kd : Nat) ∧ w2 = wr)
  case first =>
    by_cases hz : q1 = 0
    · have k1 : ((q1 : Int) == 0) = true := by simp; omega
      have ek : kd = 8 := by have := HKD.out; omega
      subst ek
      go_wp2
      go_meet
      case rel => exact ⟨rfl, rfl⟩
    · have k1 : ((q1 : Int) == 0) = false := by simp; omega
      have ek : q1 = kd := by have := HKD.out; omega
      subst ek
      go_wp2
      go_meet
      case rel => exact ⟨rfl, rfl⟩
  case rest =>
    obtain ⟨rfl, rfl⟩ := hcut
    have u2 : IntKind.u64.wrap (q2 : Int) = (q2 : Int) := by rw [IntKind.wrap_u64]; omega
    have u3 : (m : Int) + 2 = (nn : Int) := by omega
    have u4 : IntKind.i64.wrap ((m : Int) + 2) = (nn : Int) := by rw [IntKind.wrap_i64]; omega
    have mb0 : (0 : Int) ≤ (m : Int) := by omega
    have mb1 : (m : Int) ≤ 10 := by omega
    have u9 : IntKind.i64.wrap (nn : Int) = (nn : Int) := by rw [IntKind.wrap_i64]; omega
    have u5 : IntKind.u64.wrap (nn : Int) = (nn : Int) := by rw [IntKind.wrap_u64]; omega
    have u6 : (q2 : Int) % (nn : Int) = (ix : Int) := by have := HIX.out; rw [this, hnn]; simp
    have u7 : ((q2 : Int).tmod (nn : Int)) = (ix : Int) := by rw [Int.tmod_eq_emod_of_nonneg (by omega)]; exact u6
    have u8 : ((nn : Int) == 0) = false := by simp; omega
    have HNN := Lib.hid hnn
    go_upto_region 7 with (fail)
    refine oreg7 _ _ _ _ _ _ _ _ _ _ _ _ _ _ _ _ _ _ _ _ _ _ _ _ _ _ _ _ _ _ _ _ _ _ _ _ _ _ _ _ _ _ _ _ _ _ _ _ _ _ _ _ _ _ _ _ _ _ _ _ _ _ _ _ _ _ _ _ _ _ _ _ _ _ _ _ _ _ _ _ _ _ _ _ _ _ _ _ _ _ _ _ _ _ _ _ _ _ _ _ _ _ _ _ _ _ _ _ _ _ _ _ _ _ _ _ _ _ _ _ _ _ _ _ _ _ _ _ _ _ _ _ _ _ _ _ _ _ _ _ _ _ _ _ _ _ _ _ _ _ _ _ _ _ _ _ _ _ _ _ _ _ _ _ _ _ _ _ _ _ _ _ _ _ _ _ _ _ _ _ _ _ _ _ _ _ _ _ _ _ _ _ _ w.heap.size m cap q2 ix nn p2 A w2 c2 hq2 u2 u4 u5 u7 u6 u8 (by omega) (fun u41 u42 u43 u44 u45 u46 u47 u48 u49 w2b hw2b => ?_)
    subst hw2b
    go_upto_region 8 with (fail)
    clear u1 u2 u3 u4 u6 u7 u8 u9 c1 c2 hq1 hq2
    have HC := Lib.hid (nsec_made p0 big wide HB1.out HW1.out T kd ix m cap A R hm10 hTs hkd8 (by omega) HR64.out w2 (HR.out.low HB2.out))
    rw [← hnn] at HC
    have hle1 : nn ≤ m + 2 := by omega
    have hle2 : m + 2 ≤ nn := by omega
    clear hnn
    refine oreg8 _ _ _ _ _ _ _ _ _ _ _ _ _ _ _ _ _ _ _ _ _ _ _ _ _ _ _ _ _ _ _ _ _ _ _ _ _ _ _ _ _ _ _ _ _ _ _ _ _ _ _ _ _ _ _ _ _ _ _ _ _ _ _ _ _ _ _ _ _ _ _ _ _ _ _ _ _ _ _ _ _ _ _ _ _ _ _ _ _ _ _ _ _ _ _ _ _ _ _ _ _ _ _ _ _ _ _ _ _ _ _ _ _ _ _ _ _ _ _ _ _ _ _ _ _ _ _ _ _ _ _ _ _ _ _ _ _ _ _ _ _ _ _ _ _ _ _ _ _ _ _ _ _ _ _ _ _ _ _ _ _ _ _ _ _ _ _ _ _ _ _ _ _ _ _ _ _ _ _ _ _ _ _ _ _ _ _ _ _ _ w.heap.size kd ix m cap p0 T A w2 c0 (NPV T kd ix nn R) (fun v x ok w1 w2 h hb => h.low hb) (fun v x ok w1 h => h.1) HC (fun u50 u51 u52 u53 u54 u55 u56 u57 u58 u59 u60 G x ok big2 wide2 abi ver pad h0 h1 h2 h3 h4 h5 h6 h7 h8 h9 h10 h11 h12 As ns cs Ap np cp nm w3 hpv hG hWG b3 => ?_)
    have HPV := Lib.hid hpv; have HG := Lib.hid hG; have HB3 := Lib.hid (HB2.out.trans (b3.mono HB2.out.size)); clear hpv hG b3 HC c0
    cases ok with
    | false =>
      go_wp2
      go_ret
      exact ⟨rfl, HB3.out⟩
    | true =>
      obtain ⟨f, bg, hf64, hf, hxs, hxe, hxl, big, wide, abi, ver, pad, h0, h1, h2, h3, h4, h5, h6, h7, h8, h9, h10, h11, h12, cs, Ap, np, cp, b, hv, hbl, hrow⟩ := HPV.out.2 rfl
      have hGc := HG.out
      rw [Value.agg.inj hv] at hGc
      have HGC := Lib.hid hGc
      have HROW := Lib.hid hrow
      have hn2 : 2 ≤ nn := by omega
      have HE := Lib.hid (fun i => nsec_E hf hn2 i); have HF0 := Lib.hid (fun j hj => nsec_f0 hf j hj); have HSS := Lib.hid (fun hk => nsec_S hf hn2 hk hxe hxl)
      have HSC := Lib.hid ((sections_any big wide abi ver pad h0 h1 h2 h3 h4 h5 h6 h7 h8 h9 h10 h11 h12 (some ⟨b, 0, none⟩) nn cs Ap np cp ix f x w3 (fun _ => ⟨b, rfl, HROW.out⟩) hf64 hxs (by omega) (by omega)).mono (fun e w' h => psec_of h))
      have HTB := Lib.hid (fun (i : Nat) (hi : i < 18446744073709551616) (u : World) (hu : Below w3.heap.size w3 u) => table_any big wide abi ver pad h0 h1 h2 h3 h4 h5 h6 h7 h8 h9 h10 h11 h12 (some ⟨b, 0, none⟩) nn cs Ap np cp ix f x i u (fun _ => ⟨b, rfl, heap_low HROW.out hu⟩) hf64 hxs hi (by omega))
      clear hv hbl hrow hf hxe hxl hGc hf64 hxs HPV HG
      go_upto_region 11 with (fail)
      refine oreg11 _ _ _ _ _ _ _ _ _ _ _ _ _ _ _ _ _ _ _ _ _ _ _ _ _ _ _ _ _ _ _ _ _ _ _ _ _ _ _ _ _ _ _ _ _ _ _ _ _ _ _ _ _ _ _ _ _ _ _ _ _ _ _ _ _ _ _ _ _ _ _ _ _ _ _ _ _ _ _ _ _ _ _ _ _ _ _ _ _ _ _ _ _ _ _ _ _ _ _ _ _ _ _ _ _ _ _ _ _ _ _ _ _ _ _ _ _ _ _ _ _ _ _ _ _ _ _ _ _ _ _ _ _ _ _ _ _ _ _ _ _ _ _ _ _ _ _ _ _ _ _ _ _ _ _ _ _ _ _ _ _ _ _ _ _ _ _ _ _ _ _ _ _ _ _ _ _ _ _ _ _ _ _ _ _ _ _ _ _ _ _ _ _ big wide abi ver pad h0 h1 h2 h3 h4 h5 h6 h7 h8 h9 h10 h11 h12 (some ⟨b, 0, none⟩) nn cs Ap np cp ix G x w3 (PSec f nn x ix) HGC.out HSC (fun u63 u64 u65 u66 u67 u68 v1 k1 w4 hps b4 => ?_)
      have HPS := Lib.hid hps; have HB4 := Lib.hid b4; clear hps b4 HSC HROW
      go_upto_region 12 with (fail)
      refine oreg12 _ _ _ _ _ _ _ _ _ _ _ _ _ _ _ _ _ _ _ _ _ _ _ _ _ _ _ _ _ _ _ _ _ _ _ _ _ _ _ _ _ _ _ _ _ _ _ _ _ _ _ _ _ _ _ _ _ _ _ _ _ _ _ _ _ _ _ _ _ _ _ _ _ _ _ _ _ _ _ _ _ _ _ _ _ _ _ _ _ _ _ _ _ _ _ _ _ _ _ _ _ _ _ _ _ _ _ _ _ _ _ _ _ _ _ _ _ _ _ _ _ _ _ _ _ _ _ _ _ _ _ _ _ _ _ _ _ _ _ _ _ _ _ _ _ _ _ _ _ _ _ _ _ _ _ _ _ _ _ _ _ _ _ _ _ _ _ _ _ _ _ _ _ _ _ _ _ _ _ _ _ _ _ _ _ _ _ _ _ _ _ _ _ _ m cap nn A R w4 hm10 HA.out HNN.out (HR.out.low (HB3.out.trans (HB4.out.mono HB3.out.size))) (fun u69 u70 u71 C cc w5 hrc b5 => ?_)
      have HRC := Lib.hid hrc; have HB5 := Lib.hid (HB3.out.trans ((HB4.out.trans (b5.mono HB4.out.size)).mono HB3.out.size)); have HB35 := Lib.hid (HB4.out.trans (b5.mono HB4.out.size))
      have HPS5 := Lib.hid (HPS.out.low b5); clear hrc b5 HPS HB4
      have nn0 : (0 : Int) ≤ (nn : Int) := by omega
      have nn1 : nn ≤ 12 := by omega
      by_cases hi0 : ix = 0
      · subst hi0
        have hT0 : tabN f nn x 0 = ⟨#[0]⟩ := by unfold tabN; rw [if_pos rfl]
        rcases HPS5.out with ⟨⟨_, hall⟩, rfl, b1, rfl, _⟩ | ⟨hno, rfl, rfl⟩
        · have HZ : Hid (∀ j, j < nn → allF R j = 0) := Lib.hid (fun j hj => by
            rw [hT0] at hall
            have := allB_yes hall j hj
            rw [okT_one, HF0.out j hj] at this
            simpa using this)
          clear hT0 hall HPS5
          go_wp2
          go_loop [15] (fun i => ∃ j : Nat, j ≤ nn ∧ i = .int .i64 (j : Int)) (fun i => nn - (intOf i).toNat)
          case atStart => exact ⟨0, Nat.zero_le _, rfl⟩
          case round =>
            obtain ⟨j, hj, rfl⟩ := hrel
            by_cases hlt : j < nn
            · obtain ⟨bb, o, rfl, hbb, hc0⟩ := HRC.out j hlt
              rw [HZ.out j hlt] at hc0
              have k0 : (0 : Int) ≤ (j : Int) := by omega
              have k1 : (j : Int) < (nn : Int) := by omega
              go_wp2
              exact ⟨⟨j + 1, by omega, by go_num⟩, by simp [intOf]; omega⟩
            · obtain rfl : j = nn := by omega
              go_wp2
              go_ret
              exact ⟨rfl, HB5.out⟩
        · have HZ : Hid (¬ ∀ j, j < nn → allF R j = 0) := Lib.hid (fun hz => by
            rcases hno with h | h
            · exact h (.inl rfl)
            · rw [hT0, allB_one (fun j hj => by rw [HF0.out j hj]; exact hz j hj)] at h
              cases h)
          clear hT0 hno HPS5
          go_wp2
          go_loop [15] (fun i => ∃ j : Nat, j ≤ nn ∧ i = .int .i64 (j : Int) ∧ ∀ l, l < j → allF R l = 0) (fun i => nn - (intOf i).toNat)
          case atStart => exact ⟨0, Nat.zero_le _, rfl, fun l hl => absurd hl (Nat.not_lt_zero _)⟩
          case round =>
            obtain ⟨j, hj, rfl, hal⟩ := hrel
            have HAL := Lib.hid hal; clear hal
            by_cases hlt : j < nn
            · obtain ⟨bb, o, rfl, hbb, hc0⟩ := HRC.out j hlt
              have k0 : (0 : Int) ≤ (j : Int) := by omega
              have k1 : (j : Int) < (nn : Int) := by omega
              by_cases hz : allF R j = 0
              · have HAL2 : Hid (∀ l, l < j + 1 → allF R l = 0) := Lib.hid (fun l hl => by
                  by_cases e : l = j
                  · subst e; exact hz
                  · exact HAL.out l (by omega))
                rw [hz] at hc0
                clear hz
                go_wp2
                exact ⟨⟨j + 1, by omega, by go_num, HAL2.out⟩, by simp [intOf]; omega⟩
              · have y : ((allF R j : Int) != 0) = true := by simp; omega
                have HNZ := Lib.hid hz; clear hz
                generalize allF R j = y1 at *
                go_wp2
                go_ret
                exact ⟨rfl, HB5.out⟩
            · exact absurd (fun l hl => HAL.out l (by omega)) HZ.out
      · have y0 : ((ix : Int) == 0) = false := by simp; omega
        have HEI := Lib.hid (HE.out ix)
        go_upto_region 20 with (fail)
        clear y0
        refine oreg20 _ _ _ _ _ _ _ _ _ _ _ _ _ _ _ _ _ _ _ _ _ _ _ _ _ _ _ _ _ _ _ _ _ _ _ _ _ _ _ _ _ _ _ _ _ _ _ _ _ _ _ _ _ _ _ _ _ _ _ _ _ _ _ _ _ _ _ _ _ _ _ _ _ _ _ _ _ _ _ _ _ _ _ _ _ _ _ _ _ _ _ _ _ _ _ _ _ _ _ _ _ _ _ _ _ _ _ _ _ _ _ _ _ _ _ _ _ _ _ _ _ _ _ _ _ _ _ _ _ _ _ _ _ _ _ _ _ _ _ _ _ _ _ _ _ _ _ _ _ _ _ _ _ _ _ _ _ _ _ _ _ _ _ _ _ _ _ _ _ _ _ _ _ _ _ _ _ _ _ _ _ _ _ _ _ _ _ _ _ _ _ _ big wide abi ver pad h0 h1 h2 h3 h4 h5 h6 h7 h8 h9 h10 h11 h12 (some ⟨b, 0, none⟩) nn cs Ap np cp ix G ix (tabE f nn ix) x (tabS f nn x ix) w5 (heap_low HGC.out HB35.out) (Lib.hid (HTB.out ix (by omega) w5 HB35.out)) (fun u101 u102 u103 u104 u105 u106 u107 w6 b6 => ?_)
        have HRC6 := Lib.hid (HRC.out.low b6); have HB6 := Lib.hid (HB5.out.trans (b6.mono HB5.out.size)); have HB36 := Lib.hid (HB35.out.trans (b6.mono HB35.out.size)); have HPS6 := Lib.hid (HPS5.out.low b6); clear b6 HRC HB5 HB35 HPS5
        by_cases h13 : ix = 1 ∧ kd = 3
        · obtain ⟨rfl, rfl⟩ := h13
          have eE : tabE f nn 1 = 0 := by rw [HEI.out, if_pos ⟨rfl, rfl⟩]
          have eS : tabS f nn x 1 = T := HSS.out rfl
          have eN : tabN f nn x 1 = T := by unfold tabN; rw [if_neg (by decide)]; exact eS
          rw [eE, eS]
          have HNM := Lib.hid (refNames_any T C nn cc (allF R) (by omega) (by unfold maxLen; omega) w6 HRC6.out)
          have HAB : Hid (allB T (fun i => f i 0) nn = allB T (allF R) nn) := Lib.hid (allB_congr (fun i hi => HF0.out i hi))
          rcases HPS6.out with ⟨⟨_, hall⟩, rfl, b1, rfl, hrs⟩ | ⟨hno, rfl, rfl⟩
          · rw [eN] at hall hrs
            have HRS := Lib.hid hrs
            have HALL : Hid (allB T (allF R) nn = true) := Lib.hid (by rw [← HAB.out]; exact hall)
            clear eE eS eN hall hrs HPS6 HEI
            go_wp2_with fail
            with_reducible refine HNM.out.mono ?_
            rintro e w7 ⟨b7, ⟨_, A7, c7, rfl, hrow7⟩ | ⟨hno, _⟩⟩
            · have HR7 := Lib.hid hrow7; have HRS7 := Lib.hid (HRS.out.low b7); have HB7 := Lib.hid (HB6.out.trans (b7.mono HB6.out.size)); have HB37 := Lib.hid (HB36.out.trans (b7.mono HB36.out.size)); clear b7 hrow7 HRS HNM
              go_wp2
              go_loopw [20] (fun i wr => ∃ j : Nat, j ≤ nn ∧ i = .int .i64 (j : Int) ∧ Below w7.heap.size w7 wr) (fun i _ => nn - (intOf i).toNat)
              case atStart => exact ⟨0, Nat.zero_le _, rfl, Below.refl _ _⟩
              case round =>
                obtain ⟨j, hj, rfl, hB⟩ := hrel
                have HB := Lib.hid hB; clear hB
                by_cases hlt : j < nn
                · obtain ⟨ba, oa, e1, hbl1, hc1⟩ := HRS7.out.low HB.out j hlt
                  obtain ⟨bc, oc, rfl, hbl2, hc2⟩ := HR7.out.low HB.out j hlt
                  cases e1
                  rw [Nat.zero_add] at hc1
                  dsimp only at hc1 hc2
                  rw [HF0.out j hlt] at hc1
                  have kk0 : (0 : Int) ≤ (j : Int) := by omega
                  have kk1 : (j : Int) < (nn : Int) := by omega
                  generalize strAt T (allF R j) = y at *
                  go_upto_region 29 with (fail)
                  go_quiet (fail)
                  go_wp2
                  exact ⟨⟨j + 1, by omega, by go_num, HB.out.trans ⟨rfl, rfl, rfl, Nat.le_refl _, fun _ _ => rfl⟩⟩, by simp [intOf]; omega⟩
                · obtain rfl : j = nn := by omega
                  go_upto_region 31 with (fail)
                  refine oreg31 _ _ _ _ _ _ _ _ _ _ _ _ _ _ _ _ _ _ _ _ _ _ _ _ _ _ _ _ _ _ _ _ _ _ _ _ _ _ _ _ _ _ _ _ _ _ _ _ _ _ _ _ _ _ _ _ _ _ _ _ _ _ _ _ _ _ _ _ _ _ _ _ _ _ _ _ _ _ _ _ _ _ _ _ _ _ _ _ _ _ _ _ _ _ _ _ _ _ _ _ _ _ _ _ _ _ _ _ _ _ _ _ _ _ _ _ _ _ _ _ _ _ _ _ _ _ _ _ _ _ _ _ _ _ _ _ _ _ _ _ _ _ _ _ _ _ _ _ _ _ _ _ _ _ _ _ _ _ _ _ _ _ _ _ _ _ _ _ _ _ _ _ _ _ _ _ _ _ _ _ _ _ _ _ _ _ _ _ _ _ _ _ big wide abi ver pad h0 h1 h2 h3 h4 h5 h6 h7 h8 h9 h10 h11 h12 (some ⟨b, 0, none⟩) j cs Ap np cp 1 G j cc (tabE f j j) C x (tabS f j x j) wr (heap_low HGC.out (HB37.out.trans (HB.out.mono HB37.out.size))) (by rw [IntKind.wrap_u64]; omega) (Lib.hid (HTB.out j (by omega) wr (HB37.out.trans (HB.out.mono HB37.out.size)))) (fun u183 u184 u185 u186 u187 u188 u189 u190 u191 w8 b8 => ?_)
                  have eE : tabE f j j = 14 := by rw [HE.out j, if_neg (by omega)]
                  rw [eE]
                  have HB8 := Lib.hid (HB7.out.trans ((HB.out.trans (b8.mono HB.out.size)).mono HB7.out.size)); clear b8 eE
                  go_wp2
                  go_ret
                  exact ⟨rfl, HB8.out⟩
            · rw [HALL.out] at hno; cases hno
          · have HALL : Hid (allB T (allF R) nn = false) := Lib.hid (by
              rcases hno with h | h
              · exact absurd (.inr eE) h
              · rw [eN] at h; rw [← HAB.out]; exact h)
            clear eE eS eN hno HPS6 HEI
            go_wp2_with fail
            with_reducible refine HNM.out.mono ?_
            rintro e w7 ⟨b7, ⟨hno, _⟩ | ⟨_, rfl⟩⟩
            · rw [HALL.out] at hno; cases hno
            · have HB7 := Lib.hid (HB6.out.trans (b7.mono HB6.out.size)); have HB37 := Lib.hid (HB36.out.trans (b7.mono HB36.out.size)); clear b7 HNM
              go_wp2
              refine wp_loop_rounds 1 ?_
              rw [rounds_succ]
              go_upto_region 31 with (fail)
              refine oreg31 _ _ _ _ _ _ _ _ _ _ _ _ _ _ _ _ _ _ _ _ _ _ _ _ _ _ _ _ _ _ _ _ _ _ _ _ _ _ _ _ _ _ _ _ _ _ _ _ _ _ _ _ _ _ _ _ _ _ _ _ _ _ _ _ _ _ _ _ _ _ _ _ _ _ _ _ _ _ _ _ _ _ _ _ _ _ _ _ _ _ _ _ _ _ _ _ _ _ _ _ _ _ _ _ _ _ _ _ _ _ _ _ _ _ _ _ _ _ _ _ _ _ _ _ _ _ _ _ _ _ _ _ _ _ _ _ _ _ _ _ _ _ _ _ _ _ _ _ _ _ _ _ _ _ _ _ _ _ _ _ _ _ _ _ _ _ _ _ _ _ _ _ _ _ _ _ _ _ _ _ _ _ _ _ _ _ _ _ _ _ _ _ big wide abi ver pad h0 h1 h2 h3 h4 h5 h6 h7 h8 h9 h10 h11 h12 (some ⟨b, 0, none⟩) nn cs Ap np cp 1 G nn cc (tabE f nn nn) C x (tabS f nn x nn) w7 (heap_low HGC.out HB37.out) (by rw [IntKind.wrap_u64]; omega) (Lib.hid (HTB.out nn (by omega) w7 HB37.out)) (fun u183 u184 u185 u186 u187 u188 u189 u190 u191 w8 b8 => ?_)
              have eE : tabE f nn nn = 14 := by rw [HE.out nn, if_neg (by omega)]
              rw [eE]
              have HB8 := Lib.hid (HB7.out.trans (b8.mono HB7.out.size)); clear b8 eE
              go_wp2
              go_ret
              exact ⟨rfl, HB8.out⟩
        · have eE : tabE f nn ix = 14 := by rw [HEI.out, if_neg h13]
          have eS : tabS f nn x ix = ⟨#[]⟩ := tabS_none eE
          rcases HPS6.out with ⟨⟨h, _⟩, _⟩ | ⟨_, rfl, rfl⟩
          · rcases h with h | h
            · exact absurd h hi0
            · rw [eE] at h; cases h
          rw [eE, eS]
          have hy : ((ix : Int) != 1) = true ∨ ((ix : Int) != 1) = false ∧ ((kd : Int) != 3) = true := by
            by_cases h1 : ix = 1
            · exact .inr ⟨by simp; omega, by simp; omega⟩
            · exact .inl (by simp; omega)
          clear eE eS h13 hi0 HPS6 HEI hkd8 hixl
          rcases hy with y1 | ⟨y1, y2⟩
          · go_wp2
            go_ret
            exact ⟨rfl, HB6.out⟩
          · go_wp2
            go_ret
            exact ⟨rfl, HB6.out⟩
theorem namesSections_wf (p : Nat → Int) (s : ByteArray) (A : Option Addr) (n cap : Nat) (zs : List Int) (w : World) (h : IsRow .u64 w A n cap zs) :
    Calls Try.prog 7 #[.agg #[.int .i64 (p 0), .int .i64 (p 1), .int .i64 (p 2)], .string s, .slice A n cap] w fun e w' => e = .returned (.bool true) ∧ Below w.heap.size w w' := by
  obtain ⟨q1, h1, l1⟩ := and_i64 (p 1) 3 (by decide)
  obtain ⟨q2, h2, l2⟩ := and_i64 (p 2) 7 (by decide)
  refine namesSections_core (p 0) (p 1) (p 2) _ _ rfl rfl q1 q2 (if q1 = 0 then 8 else q1) _ h1 h2 l1 l2 ?_ s _ A n cap (min s.size 100) (min n 10) _ (by omega) (by omega) rfl rfl h.le_cap ?_ w h.rowU (fun i hi => h.rowU64 i hi)
  · by_cases hq : q1 = 0
    · exact .inl ⟨hq, by rw [if_pos hq]⟩
    · exact .inr ⟨hq, by rw [if_neg hq]⟩
  · rintro rfl
    rcases h with ⟨_, rfl, rfl, _⟩ | ⟨x, hx, _⟩
    · exact ⟨rfl, rfl⟩
    · cases hx
end Go.Proofs.Ytedocnidgiglaaa
