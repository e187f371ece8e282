/- The walk of StrtabBuilds. Conditions: those written in each theorem. -/
import Derived.Test.YtddlflabdlgnbaaWF
namespace Go.Proofs.Ytddlflabdlgnbaa
open Go.RowKit
set_option maxRecDepth 100000 in
set_option maxHeartbeats 4000000 in
theorem builds_t (a : Option Addr) (len cap m : Nat) (S : Nat → ByteArray) (h1 : (m : Int) ≤ cap) (hm : m ≤ 20) (hml : m ≤ len) (n1 : min (len : Int) 20 = (m : Int)) (w : World) (hS : IsStrs w a len cap S) : Calls Try.prog 3 #[.slice a len cap] w fun e w' => e = .returned (.bool true) ∧ Below w.heap.size w w' := by
  have n2 : (if (len : Int) ≤ 20 then (len : Int) else 20) = (m : Int) := by split <;> omega
  have n3 : (0 : Int) ≤ (m : Int) := by omega
  have HS := Lib.hid hS; clear hS
  go_enter Try.func3, Try.ntmps3
  go_wp2_with fail
  refine (speaks_any _).mono ?_
  rintro e w1 ⟨rfl, hb1⟩
  have HB1 := Lib.hid hb1; clear hb1
  go_upto_region 3 with (fail)
  go_cut [0] (fun v wc => ∃ g c, v = .slice (some ⟨g, 0, none⟩) m c ∧ w1.heap.size ≤ g ∧ RowB wc g S m ∧ Below w.heap.size w wc)
  case first =>
    obtain ⟨i0, hi, hz0, hz1, hz2⟩ := info_parts info9
    rcases HS.out with ⟨rfl, rfl, rfl⟩ | ⟨x, rfl, hxb, hlc, hcm, hx⟩
    · obtain rfl : m = 0 := by omega
      go_wp2
      go_meet
      case rel => exact ⟨w1.heap.size, 0, rfl, Nat.le_refl _, ⟨by simp, fun j hj => by omega⟩, below_mk HB1.out _⟩
    · have hbx := HB1.out
      have hnews : ∀ j u, (strsL S m)[j]? = some u → (w1.alloc (.cells #[] 9)).cell? (x.add j) = some u := fun j u hu => by
        obtain ⟨hj, rfl⟩ := strsL_at S m j u hu
        have hxa : (x.add j).block = x.block := by unfold Addr.add; split <;> rfl
        have hxb2 := hxb (by omega)
        have hlt : (x.add j).block < w1.heap.size := by rw [hxa]; have := hbx.size; omega
        rw [World.cell?_of_block (w := w1) (Below.heap_alloc _ _ _ hlt), hbx.cell (by rw [hxa]; exact hxb2)]
        exact (hx j (by omega)).1
      have HNEWS := Lib.hid hnews; have HX := Lib.hid hx; have HBX := Lib.hid hbx; clear hnews hx hbx
      go_wp2_with (at_builtin; refine wpList_append_own _ rfl _ _ 22 rfl w1.heap.size 9 i0 (.string ⟨#[]⟩) 1 16 Try.underlying22 hi hz0 hz1 hz2 rfl (by decide) _ _ _ rfl (own_empty w1) x m cap (strsL S m) rfl (by simp [strsL]) HNEWS.out (by intro u hu; simp [strsL] at hu; obtain ⟨i, _, rfl⟩ := hu; rfl) (by unfold maxLen; omega) (by omega) (by simp) ?_; intro v' w4 hown' hg4 hnil4)
      obtain ⟨g, c, rfl, hg, hgl⟩ := own_form hown' (fun e => by have := (hnil4.1 e).1; cases this)
      have hB4 : Below w.heap.size w w4 := (below_mk HB1.out _).grown hg4 (by have := HB1.out.size; simp; omega) (fun k hk => by cases hk; exact HB1.out.size)
      rw [Nat.zero_add] at hown'
      go_wp2
      go_meet
      case rel => exact ⟨g, c, by rw [Nat.zero_add], hg, rowB_of_own hown' hgl, hB4⟩
  case rest =>
    obtain ⟨g, c, rfl, hg, hrow, hB⟩ := hcut
    have hgw : w.heap.size ≤ g := by have := HB1.out.size; omega
    have HROW := Lib.hid hrow; have HB := Lib.hid hB
    clear hrow hB h1 n1 n2 n3
    go_upto_block 0 with (fail)
    go_cut [3] (fun bad wc => bad = .bool (badTo (cutS 30 S) m) ∧ RowB wc g (cutS 30 S) m ∧ Below w.heap.size w wc)
    case first =>
      go_wp2
      go_loopw [3, 4] (fun bad i wr => ∃ k : Nat, k ≤ m ∧ i = .int .i64 (k : Int) ∧ bad = .bool (badTo (cutS 30 S) k) ∧ RowB wr g (fun j => if j < k then cutS 30 S j else S j) m ∧ Below w.heap.size w wr) (fun _ i _ => m - (intOf i).toNat)
      case atStart => exact ⟨0, Nat.zero_le _, rfl, rfl, ⟨HROW.out.1, fun j hj => by simpa using HROW.out.2 j hj⟩, HB.out⟩
      case round =>
        obtain ⟨k, hk, rfl, rfl, hrow, hB⟩ := hrel
        by_cases hlt : k < m
        · obtain ⟨hc, hf⟩ := hrow.2 k hlt
          replace hc : wr.cell? ⟨g, k, none⟩ = some (.string (S k)) := by simpa using hc
          have hgl := hrow.1
          have HR := Lib.hid hrow; have HB2 := Lib.hid hB
          clear hrow hB
          have hcut : cutS 30 S k = (S k).extract 0 (min (S k).size 30) := rfl
          have hcz := cutS_size 30 S k
          have m0 : (0 : Int) ≤ ((min (S k).size 30 : Nat) : Int) := by omega
          have m1 : ((min (S k).size 30 : Nat) : Int) ≤ ((S k).size : Int) := by omega
          have m2 : min ((S k).size : Int) 30 = ((min (S k).size 30 : Nat) : Int) := by omega
          have m3 : (if ((S k).size : Int) ≤ 30 then ((S k).size : Int) else 30) = ((min (S k).size 30 : Nat) : Int) := by split <;> omega
          have HCUT := Lib.hid hcut; clear hcut
          generalize hS : S k = sk at *
          generalize min sk.size 30 = mk at *
          have i0 : (0 : Int) ≤ (k : Int) := by omega
          have i1 : (k : Int) < (m : Int) := by omega
          go_wp2
          go_still_tail 14, (by kernel_rfl)
          change wpList _ _ _ _ _ wr.drew
          have hrd : wr.drew.frozen? ⟨g, k, none⟩ = false := hf
          have hcd : wr.drew.cell? ⟨g, k, none⟩ = some (.string sk) := hc
          have HR2 : Hid (RowB wr.drew g (fun j => if j < k then cutS 30 S j else S j) m) := Lib.hid HR.out
          have HB3 : Hid (Below w.heap.size w wr.drew) := Lib.hid HB2.out.drew
          clear HR HB2 hc hf
          generalize wr.drew = w2 at *
          go_wp2
          have hrow3 : RowB (w2.setCell ⟨g, k, none⟩ (.string (sk.extract 0 mk))) g (fun j => if j < k + 1 then cutS 30 S j else S j) m := by
            have h := HR2.out.set k hlt (sk.extract 0 mk)
            refine ⟨h.1, fun j hj => ?_⟩
            have h2 := h.2 j hj
            refine ⟨?_, h2.2⟩
            rw [h2.1]
            by_cases e : j = k
            · subst e
              simp [HCUT.out]
            · have e2 : (j < k + 1) = (j < k) := propext ⟨fun _ => by omega, fun _ => by omega⟩
              simp [e, e2]
          have hB5 : Below w.heap.size w (w2.setCell ⟨g, k, none⟩ (.string (sk.extract 0 mk))) := HB3.out.setCell (p := ⟨g, k, none⟩) hgw _
          have hc5 := (hrow3.2 k hlt).1
          replace hc5 : (w2.setCell ⟨g, k, none⟩ (.string (sk.extract 0 mk))).cell? ⟨g, k, none⟩ = some (.string (cutS 30 S k)) := by simpa using hc5
          have HR5 := Lib.hid hrow3; have HB5 := Lib.hid hB5
          clear hrow3 hB5 hcd hrd HR2 HB3
          generalize w2.setCell ⟨g, k, none⟩ (.string (sk.extract 0 mk)) = w5 at *
          have hstep := badTo_succ (cutS 30 S) k
          have HST := Lib.hid hstep; clear hstep HCUT m0 m1 m2 m3
          have HZS := Lib.hid (hasZ_succ (cutS 30 S k))
          generalize cutS 30 S k = ck at *
          generalize badTo (cutS 30 S) k = b0 at *
          go_loopw [3, 5] (fun bad j wr => ∃ kk : Nat, kk ≤ ck.size ∧ j = .int .i64 (kk : Int) ∧ bad = .bool (b0 || hasZ ck kk) ∧ wr = w5) (fun _ j _ => ck.size - (intOf j).toNat)
          case atStart => exact ⟨0, Nat.zero_le _, rfl, by simp [hasZ], rfl⟩
          case round =>
            obtain ⟨kk, hkk, rfl, rfl, rfl⟩ := hrel
            by_cases hl2 : kk < ck.size
            · have hst := HZS.out kk hl2
              have j0 : (0 : Int) ≤ (kk : Int) := by omega
              have j1 : (kk : Int) < (ck.size : Int) := by omega
              generalize hb : (b0 || hasZ ck kk) = bb at *
              have hnx : (b0 || hasZ ck (kk + 1)) = (bb || ((ck[kk].toNat : Int) == 0)) := by rw [hst, ← Bool.or_assoc, hb]
              have HNX := Lib.hid hnx; clear hnx hst hb
              cases bb
              · go_wp2
                exact ⟨⟨kk + 1, by omega, by go_num, by rw [HNX.out]; rfl, trivial⟩, by simp [intOf]; omega⟩
              · go_wp2
                exact ⟨⟨kk + 1, by omega, by go_num, by rw [HNX.out]; rfl, trivial⟩, by simp [intOf]; omega⟩
            · obtain rfl : kk = ck.size := by omega
              go_wp2
              exact ⟨⟨k + 1, by omega, by go_num, by rw [HST.out], HR5.out, HB5.out⟩, by simp [intOf]; omega⟩
        · obtain rfl : k = m := by omega
          go_wp2
          go_meet
          case rel => exact ⟨rfl, ⟨hrow.1, fun j hj => by simpa [hj] using hrow.2 j hj⟩, hB⟩
    case rest =>
      obtain ⟨rfl, hrow, hB⟩ := hcut
      have HRT : Hid (∀ i, i < m → (cutS 30 S i).size ≤ 30) := Lib.hid (fun i _ => cutS_size 30 S i)
      generalize cutS 30 S = C at *
      have hbt := badTo_iff C m
      have hok := namesL_ok C m 30 (by omega) (by omega) HRT.out
      have hbuild := build_any g 0 c (namesL C m) hok wc hrow.rowS
      have hsize := namesL_size C m 30 HRT.out
      have hrs : RowS wc g 0 (namesL C m) := hrow.rowS
      have hl := namesL_len C m
      have hmem := namesL_mem C m
      have hnth := namesL_nth C m
      have hrefb := fun w' (h : RowS w' g 0 (namesL C m)) => refBuild_any g 0 c (namesL C m) (by rw [hl]; exact hm) (fun x hx => by obtain ⟨i, hi, rfl⟩ := (hmem x).1 hx; rw [toList_len]; exact HRT.out i hi) w' h
      rw [← tabN_ref hok] at hrefb
      rw [hl] at hbuild hrefb
      have HBT := Lib.hid hbt; have HOK := Lib.hid hok; have HBD := Lib.hid hbuild; have HSZ := Lib.hid hsize; have HRS := Lib.hid hrs; have HL := Lib.hid hl; have HMEM := Lib.hid hmem; have HNTH := Lib.hid hnth; have HREF := Lib.hid hrefb
      have HROW2 := Lib.hid hrow; have HB2 := Lib.hid hB
      have hgw2 : g < wc.heap.size := hrow.1
      clear hbt hok hbuild hsize hrs hl hmem hnth hrefb hrow hB HROW HB
      generalize hNN : namesL C m = NN at *
      have HNN := Lib.hid hNN; clear hNN
      generalize badTo C m = bt at *
      go_wp2_with fail
      refine HBD.out.mono ?_
      rintro e w2 ⟨hb2, ⟨hbad, rfl⟩ | ⟨hno, hbig, rfl⟩ | ⟨hno, hsz, g2, hg2, rfl, hrowI⟩⟩
      · have hB2 : Below w.heap.size w w2 := HB2.out.trans (hb2.mono HB2.out.size)
        rw [HL.out] at hbad
        obtain rfl : bt = true := HBT.out.2 (by rw [HL.out]; exact hbad)
        clear hbad hb2
        go_wp2
        go_ret
        exact ⟨rfl, hB2⟩
      · exfalso
        rw [sizeN] at hbig
        have := HSZ.out
        have : m * (30 + 1) ≤ 20 * 31 := Nat.mul_le_mul hm (by omega)
        omega
      · have hB2 : Below w.heap.size w w2 := HB2.out.trans (hb2.mono HB2.out.size)
        obtain rfl : bt = false := by
          cases bt
          · rfl
          · obtain ⟨i, h1, h2⟩ := HBT.out.1 rfl
            exact absurd h2 (hno i (by rw [HL.out] at h1 ⊢; exact h1))
        have hzn : ∀ x ∈ NN, NoZ x := fun x hx => by
          obtain ⟨i, hi, e⟩ := (mem_nth NN x).1 hx
          have := noz_of_bad (hno i hi)
          rwa [e] at this
        rw [sizeN] at hsz
        have hoff := offS_all hzn hsz
        have hright := tab_right NN hsz
        have hrs2 : RowS w2 g 0 NN := HRS.out.low hb2 hgw2
        have hrow2 : RowB w2 g C m := HROW2.out.low hb2 hgw2
        have hg2w : g2 < w2.heap.size := by obtain ⟨cc, h, _⟩ := hrowI; exact (Array.getElem?_eq_some_iff.1 h).1
        have hI : ∀ k, k < m → w2.cell? ⟨g2, k, none⟩ = some (.int .u64 (offS NN (C k).toList)) := fun k hk => by
          have := hrowI.cell (i := k) (by rw [HL.out]; exact hk)
          rw [HNTH.out k hk] at this
          exact this
        have hoffk : ∀ k, k < m → ∃ p : Nat, offS NN (C k).toList = (p : Int) ∧ txt ((tabN NN).drop p) = (C k).toList ∧ p + (C k).toList.length < (tabN NN).length ∧ ∀ q, q < p → txt ((tabN NN).drop q) ≠ (C k).toList ∧ (C k).toList ≠ [] := fun k hk => hoff _ ((HMEM.out _).2 ⟨k, hk, rfl⟩)
        have hts := ba_size (tabN NN)
        have HTD : Hid ((ByteArray.mk (tabN NN).toArray).data.toList = tabN NN) := Lib.hid (by simp)
        have HI := Lib.hid hI; have HOFF := Lib.hid hoffk; have HRIGHT := Lib.hid hright; have HR2 := Lib.hid hrow2; have HB3 := Lib.hid hB2; have HRS2 := Lib.hid hrs2; have HSZ2 := Lib.hid hsz; have HTS := Lib.hid hts
        clear hI hoffk hright hrow2 hB2 hrs2 hsz hoff hrowI hno hzn hb2 hts
        have hlm := HL.out
        rw [hlm]
        clear hlm
        generalize hT : ByteArray.mk (tabN NN).toArray = T at *
        have HT := Lib.hid hT; clear hT
        go_wp2_with fail
        refine (HREF.out _ HRS2.out).mono ?_
        rintro e w3 ⟨rfl, hb3⟩
        have HB4 := Lib.hid hb3; clear hb3
        go_wp2_with fail
        refine (HRIGHT.out _).mono ?_
        rintro e w4 ⟨rfl, rfl⟩
        have HTA : Hid (∀ (q : Nat) (W : World), Calls Try.prog 16 #[.string T, .int .u64 (q : Nat)] W fun e w' => e = .returned (textAt T q) ∧ Below W.heap.size W w') := Lib.hid (fun q W => (text_any T q W (by rw [HTS.out]; have := HSZ2.out; unfold maxLen; omega)).mono fun e w' ⟨he, k, hk⟩ => ⟨he, by rw [hk]; exact ⟨rfl, rfl, rfl, Nat.le_refl _, fun _ _ => rfl⟩⟩)
        have hg3 : g < w3.heap.size := Nat.lt_of_lt_of_le HR2.out.1 HB4.out.size
        have hg23 : g2 < w3.heap.size := Nat.lt_of_lt_of_le hg2w HB4.out.size
        have HIC : Hid (∀ k, k < m → ∀ wr, Below w3.heap.size w3 wr → wr.cell? ⟨g2, k, none⟩ = some (.int .u64 (offS NN (C k).toList)) ∧ wr.cell? ⟨g, k, none⟩ = some (.string (C k))) := Lib.hid (fun k hk wr h => ⟨(h.cell (p := ⟨g2, k, none⟩) hg23).trans ((HB4.out.cell (p := ⟨g2, k, none⟩) hg2w).trans (HI.out k hk)), (h.cell (p := ⟨g, k, none⟩) hg3).trans ((HB4.out.cell (p := ⟨g, k, none⟩) HR2.out.1).trans (HR2.out.2 k hk).1)⟩)
        have HBF : Hid (∀ wr, Below w3.heap.size w3 wr → Below w.heap.size w wr) := Lib.hid (fun wr h => (HB3.out.trans (HB4.out.mono HB3.out.size)).trans (h.mono (HB3.out.trans (HB4.out.mono HB3.out.size)).size))
        clear HI HR2 HB3 HB4 HRIGHT HREF HRS HRS2 HBD HOK HBT HROW2 HB2
        go_wp2
        go_loopw [9] (fun i wr => ∃ k : Nat, k ≤ m ∧ i = .int .i64 (k : Int) ∧ Below w3.heap.size w3 wr) (fun i _ => m - (intOf i).toNat)
        case atStart => exact ⟨0, Nat.zero_le _, rfl, Below.refl _ _⟩
        case round =>
          obtain ⟨k, hk, rfl, hB⟩ := hrel
          by_cases hlt : k < m
          · obtain ⟨p, e1, e2, e3, e4⟩ := HOFF.out k hlt
            obtain ⟨hci, hcn⟩ := HIC.out k hlt wr hB
            rw [e1] at hci
            have htx : textAt T p = .tuple #[.string (C k), .bool true] := by
              rw [textAt_of T p (C k).toList (by rw [HTD.out]; exact e2) (by rw [HTS.out]; exact e3)]
              rw [ba_back]
            have hta := HTA.out p
            rw [htx] at hta
            have hpz : p ≤ 1048576 := by have := HSZ2.out; omega
            have HE4 : Hid (∀ q, q < p → ∃ (u : ByteArray) (b : Bool), textAt T q = .tuple #[.string u, .bool b] ∧ (u.toList == (C k).toList) = false) := Lib.hid (fun q hq => by
              obtain ⟨u, b, h1, h2⟩ := textAt_fst T q
              refine ⟨u, b, h1, ?_⟩
              rw [beq_eq_false_iff_ne]
              obtain ⟨h3, h4⟩ := e4 q hq
              rcases h2 with h2 | h2
              · rw [h2, HTD.out]; exact h3
              · rw [h2]; exact fun h => h4 h.symm)
            have HTA2 := Lib.hid hta; have HB5 := Lib.hid hB
            have HCC : Hid (∀ wr', Below wr.heap.size wr wr' → wr'.cell? ⟨g2, k, none⟩ = some (.int .u64 (p : Nat)) ∧ wr'.cell? ⟨g, k, none⟩ = some (.string (C k))) := Lib.hid (fun wr' h => by
              have h5 := HIC.out k hlt wr' (HB5.out.trans (h.mono HB5.out.size))
              rw [e1] at h5
              exact h5)
            clear hta htx e1 e2 e3 e4 hB
            generalize C k = nm at *
            have k0 : (0 : Int) ≤ (k : Int) := by omega
            have k1 : (k : Int) < (m : Int) := by omega
            go_wp2_with fail
            refine (HTA2.out _).mono ?_
            rintro e w5 ⟨rfl, hb5⟩
            obtain ⟨hci5, hcn5⟩ := HCC.out _ hb5
            have HB6 := Lib.hid hb5; clear hb5 hci hcn
            have HBK := Lib.hid HB5.out
            clear HB5
            generalize wr = wo at *
            go_wp2
            go_loopw [12] (fun at_ wr' => ∃ q : Nat, q ≤ p ∧ at_ = .int .u64 (q : Int) ∧ Below wo.heap.size wo wr') (fun at_ _ => p - (intOf at_).toNat)
            case atStart => exact ⟨0, Nat.zero_le _, rfl, HB6.out⟩
            case round =>
              obtain ⟨q, hq, rfl, hBq⟩ := hrel
              obtain ⟨hci, hcn⟩ := HCC.out _ hBq
              have HBQ := Lib.hid hBq; clear hBq hci5 hcn5
              by_cases hql : q < p
              · obtain ⟨u, b, h1, h2⟩ := HE4.out q hql
                have hta := HTA.out q
                rw [h1] at hta
                have HT3 := Lib.hid hta; clear hta h1
                have q1 : q + 1 ≤ 1048576 := by omega
                go_wp2_with fail
                refine (HT3.out _).mono ?_
                rintro e w6 ⟨rfl, hb6⟩
                have hb7 := HBQ.out.trans (hb6.mono HBQ.out.size)
                obtain ⟨_, hcn6⟩ := HCC.out _ hb7
                have HB7 := Lib.hid hb7; clear hb6 hb7 hci hcn
                go_wp2
                exact ⟨⟨q + 1, by omega, by go_num, HB7.out⟩, by simp [intOf]; omega⟩
              · obtain rfl : q = p := by omega
                have hb8 := HBK.out.trans (HBQ.out.mono HBK.out.size)
                have HB8 := Lib.hid hb8; clear hb8
                go_wp2
                exact ⟨⟨k + 1, by omega, by go_num, HB8.out⟩, by simp [intOf]; omega⟩
          · obtain rfl : k = m := by omega
            go_wp2
            go_ret
            exact ⟨rfl, HBF.out _ hB⟩
theorem builds_law (a : Option Addr) (len cap : Nat) (S : Nat → ByteArray) (w : World) (hS : IsStrs w a len cap S) : Calls Try.prog 3 #[.slice a len cap] w fun e w' => e = .returned (.bool true) ∧ Below w.heap.size w w' :=
  builds_t a len cap (min len 20) S (by have := hS.le_cap; omega) (by omega) (by omega) (by omega) w hS
end Go.Proofs.Ytddlflabdlgnbaa
