/- The walk of TopTables. Conditions: those written in each theorem. -/
import Derived.Test.YtddlflabdlgnbaaWL
namespace Go.Proofs.Ytddlflabdlgnbaa
open Go.RowKit Go.Sort Go.Maps Go.Shelf
theorem own_cap {w : World} {base g n c : Nat} {xs : List Value} {e : TypeId} (hown : w.ownsRow base e 1 (.slice (some ⟨g, 0, none⟩) n c) n xs) : n ≤ c := by
  rcases hown.2 with ⟨hv, _⟩ | ⟨g', cap, cur, hv, _, _, h, _⟩
  · cases hv
  · injection hv with _ _ h3
    omega
def snocS (C : Nat → ByteArray) (m : Nat) (s : ByteArray) (i : Nat) : ByteArray := if i < m then C i else s
theorem strsL_snoc (C : Nat → ByteArray) (m : Nat) (s : ByteArray) : [] ++ strsL C m ++ [Value.string s] = strsL (snocS C m s) (m + 1) := by
  unfold strsL
  rw [List.range_succ, List.map_append, List.nil_append]
  congr 1
  · refine List.map_congr_left fun i hi => ?_
    unfold snocS
    rw [if_pos (List.mem_range.1 hi)]
  · simp [snocS]
theorem namesL_snoc (C : Nat → ByteArray) (m : Nat) (s : ByteArray) : namesL (snocS C m s) (m + 1) = namesL C m ++ [s.toList] := by
  unfold namesL
  rw [List.range_succ, List.map_append]
  congr 1
  · refine List.map_congr_left fun i hi => ?_
    unfold snocS
    rw [if_pos (List.mem_range.1 hi)]
  · simp [snocS]
theorem snocS_size (C : Nat → ByteArray) (m : Nat) (s : ByteArray) (n : Nat) (h : ∀ i, i < m → (C i).size ≤ n) (hs : s.size ≤ n) (i : Nat) (_ : i < m + 1) : (snocS C m s i).size ≤ n := by
  unfold snocS
  split
  · rename_i hi; exact h i hi
  · exact hs
set_option maxRecDepth 100000 in
set_option maxHeartbeats 4000000 in
theorem tops_t (a : Option Addr) (len cap m n : Nat) (S : Nat → ByteArray) (h1 : (m : Int) ≤ cap) (hm : m ≤ 12) (hml : m ≤ len) (n1 : min (len : Int) 12 = (m : Int)) (hn : n < 18446744073709551616) (w : World) (hS : IsStrs w a len cap S) : Calls Try.prog 11 #[.slice a len cap, .int .u64 (n : Nat)] w fun e w' => e = .returned (.bool true) ∧ Below w.heap.size w w' := by
  have n2 : (if (len : Int) ≤ 12 then (len : Int) else 12) = (m : Int) := by split <;> omega
  have n3 : (0 : Int) ≤ (m : Int) := by omega
  have HS := Lib.hid hS; clear hS
  have HNN0 := Lib.hid hn; clear hn
  go_enter Try.func11, Try.ntmps11
  go_wp2_with fail
  refine (trecords _).mono ?_
  rintro e w1 ⟨rfl, hb1⟩
  have HB1 := Lib.hid hb1; clear hb1
  go_upto_region 3 with (fail)
  go_cut [0] (fun v wc => ∃ g c, v = .slice (some ⟨g, 0, none⟩) m c ∧ w1.heap.size ≤ g ∧ m ≤ c ∧ RowB wc g S m ∧ Below w.heap.size w wc)
  case first =>
    obtain ⟨i0, hi, hz0, hz1, hz2⟩ := info_parts info9
    rcases HS.out with ⟨rfl, rfl, rfl⟩ | ⟨x, rfl, hxb, hlc, hcm, hx⟩
    · obtain rfl : m = 0 := by omega
      go_wp2
      go_meet
      case rel => exact ⟨w1.heap.size, 0, rfl, Nat.le_refl _, Nat.le_refl _, ⟨by simp, fun j hj => by omega⟩, below_mk HB1.out _⟩
    · have hbx := HB1.out
      have hnews : ∀ j u, (strsL S m)[j]? = some u → (w1.alloc (.cells #[] 9)).cell? (x.add j) = some u := fun j u hu => by
        obtain ⟨hj, rfl⟩ := strsL_at S m j u hu
        have hxa : (x.add j).block = x.block := by unfold Addr.add; split <;> rfl
        have hxb2 := hxb (by omega)
        have hlt : (x.add j).block < w1.heap.size := by rw [hxa]; have := hbx.size; omega
        rw [World.cell?_of_block (w := w1) (Below.heap_alloc _ _ _ hlt), hbx.cell (by rw [hxa]; exact hxb2)]
        exact (hx j (by omega)).1
      have HNEWS := Lib.hid hnews; have HX := Lib.hid hx; have HBX := Lib.hid hbx; clear hnews hx hbx
      go_wp2_with (at_builtin; refine wpList_append_own _ rfl _ _ 22 rfl w1.heap.size 9 i0 (.string ⟨#[]⟩) 1 16 Try.underlying22 hi hz0 hz1 hz2 rfl (by decide) _ _ _ rfl (own_empty w1) x m cap (strsL S m) rfl (by simp [strsL]) HNEWS.out (by intro u hu; simp [strsL] at hu; obtain ⟨i, _, rfl⟩ := hu; rfl) (by unfold maxLen; omega) (by omega) (by simp) ?_; intro v' w4 hown' hg4 hnil4)
      obtain ⟨g, c, rfl, hg, hgl⟩ := own_form hown' (fun e => by have := (hnil4.1 e).1; cases this)
      have hB4 : Below w.heap.size w w4 := (below_mk HB1.out _).grown hg4 (by have := HB1.out.size; simp; omega) (fun k hk => by cases hk; exact HB1.out.size)
      rw [Nat.zero_add] at hown'
      go_wp2
      go_meet
      case rel => exact ⟨g, c, by rw [Nat.zero_add], hg, own_cap hown', rowB_of_own hown' hgl, hB4⟩
  case rest =>
    obtain ⟨g, c, rfl, hg, hmc, hrow, hB⟩ := hcut
    have hgw : w.heap.size ≤ g := by have := HB1.out.size; omega
    have HROW := Lib.hid hrow; have HB := Lib.hid hB
    clear hrow hB h1 n1 n2 n3
    go_upto_block 0 with (fail)
    go_cut [5] (fun _ wc => RowB wc g (cutS 20 S) m ∧ Below w.heap.size w wc)
    case first =>
      go_wp2
      go_loopw [5] (fun i wr => ∃ k : Nat, k ≤ m ∧ i = .int .i64 (k : Int) ∧ RowB wr g (fun j => if j < k then cutS 20 S j else S j) m ∧ Below w.heap.size w wr) (fun i _ => m - (intOf i).toNat)
      case atStart => exact ⟨0, Nat.zero_le _, rfl, ⟨HROW.out.1, fun j hj => by simpa using HROW.out.2 j hj⟩, HB.out⟩
      case round =>
        obtain ⟨k, hk, rfl, hrow, hB⟩ := hrel
        by_cases hlt : k < m
        · obtain ⟨hc, hf⟩ := hrow.2 k hlt
          replace hc : wr.cell? ⟨g, k, none⟩ = some (.string (S k)) := by simpa using hc
          have hgl := hrow.1
          have HR := Lib.hid hrow; have HB2 := Lib.hid hB
          clear hrow hB
          have hcut : cutS 20 S k = (S k).extract 0 (min (S k).size 20) := rfl
          have hcz := cutS_size 20 S k
          have m0 : (0 : Int) ≤ ((min (S k).size 20 : Nat) : Int) := by omega
          have m1 : ((min (S k).size 20 : Nat) : Int) ≤ ((S k).size : Int) := by omega
          have m2 : min ((S k).size : Int) 20 = ((min (S k).size 20 : Nat) : Int) := by omega
          have m3 : (if ((S k).size : Int) ≤ 20 then ((S k).size : Int) else 20) = ((min (S k).size 20 : Nat) : Int) := by split <;> omega
          have HCUT := Lib.hid hcut; clear hcut
          generalize hS : S k = sk at *
          generalize min sk.size 20 = mk at *
          have i0 : (0 : Int) ≤ (k : Int) := by omega
          have i1 : (k : Int) < (m : Int) := by omega
          go_wp2
          go_still_tail 14, (by kernel_rfl)
          change wpList _ _ _ _ _ wr.drew
          have hrd : wr.drew.frozen? ⟨g, k, none⟩ = false := hf
          have hcd : wr.drew.cell? ⟨g, k, none⟩ = some (.string sk) := hc
          have HR2 : Hid (RowB wr.drew g (fun j => if j < k then cutS 20 S j else S j) m) := Lib.hid HR.out
          have HB3 : Hid (Below w.heap.size w wr.drew) := Lib.hid HB2.out.drew
          clear HR HB2 hc hf
          generalize wr.drew = w2 at *
          go_wp2
          have hrow3 : RowB (w2.setCell ⟨g, k, none⟩ (.string (sk.extract 0 mk))) g (fun j => if j < k + 1 then cutS 20 S j else S j) m := by
            have h := HR2.out.set k hlt (sk.extract 0 mk)
            refine ⟨h.1, fun j hj => ?_⟩
            have h2 := h.2 j hj
            refine ⟨?_, h2.2⟩
            rw [h2.1]
            by_cases e : j = k
            · subst e
              simp [HCUT.out]
            · have e2 : (j < k + 1) = (j < k) := propext ⟨fun _ => by omega, fun _ => by omega⟩
              simp [e, e2]
          have hB5 : Below w.heap.size w (w2.setCell ⟨g, k, none⟩ (.string (sk.extract 0 mk))) := HB3.out.setCell (p := ⟨g, k, none⟩) hgw _
          exact ⟨⟨k + 1, by omega, by go_num, hrow3, hB5⟩, by simp [intOf]; omega⟩
        · obtain rfl : k = m := by omega
          go_wp2
          go_meet
          case rel => exact ⟨⟨hrow.1, fun j hj => by simpa [hj] using hrow.2 j hj⟩, hB⟩
    case rest =>
      obtain ⟨hrow, hB⟩ := hcut
      have HRT : Hid (∀ i, i < m → (cutS 20 S i).size ≤ 20) := Lib.hid (fun i _ => cutS_size 20 S i)
      generalize cutS 20 S = C at *
      have hok := namesL_ok C m 20 (by omega) (by omega) HRT.out
      have hbuild := build_any g 0 c (namesL C m) hok wc hrow.rowS
      have hsize := namesL_size C m 20 HRT.out
      have hl := namesL_len C m
      rw [hl] at hbuild
      have HBD := Lib.hid hbuild; have HSZ := Lib.hid hsize; have HL := Lib.hid hl
      have HROW2 := Lib.hid hrow; have HB2 := Lib.hid hB
      have hgw2 : g < wc.heap.size := hrow.1
      clear hok hbuild hsize hl hrow hB HROW HB HB1 HS
      go_wp2_with fail
      refine HBD.out.mono ?_
      rintro e w2 ⟨hb2, ⟨hbad, rfl⟩ | ⟨hno, hbig, rfl⟩ | ⟨hno, hsz, g2, hg2, rfl, hrowI⟩⟩
      · have hB2 : Below w.heap.size w w2 := HB2.out.trans (hb2.mono HB2.out.size)
        clear hbad hb2
        go_wp2
        go_ret
        exact ⟨rfl, hB2⟩
      · exfalso
        rw [sizeN] at hbig
        have := HSZ.out
        have : m * (20 + 1) ≤ 12 * 21 := Nat.mul_le_mul hm (by omega)
        omega
      · have hB2 : Below w.heap.size w w2 := HB2.out.trans (hb2.mono HB2.out.size)
        have hzn : ∀ x ∈ namesL C m, NoZ x := fun x hx => by
          obtain ⟨i, hi, e⟩ := (mem_nth (namesL C m) x).1 hx
          have := noz_of_bad (hno i hi)
          rwa [e] at this
        rw [sizeN] at hsz
        have hsz3 : (tabN (namesL C m)).length ≤ 300 := by
          have h1 := HSZ.out
          have : m * (20 + 1) ≤ 12 * 21 := Nat.mul_le_mul hm (by omega)
          omega
        have hrow2 : RowB w2 g C m := HROW2.out.low hb2 hgw2
        have hpos : 0 < (tabN (namesL C m)).length := by rw [tabN_flat]; simp
        obtain ⟨p, hp⟩ : ∃ p, p = n % (tabN (namesL C m)).length := ⟨_, rfl⟩
        have hpl : p < (tabN (namesL C m)).length := by rw [hp]; exact Nat.mod_lt _ hpos
        have htf := txt_full (tabN (namesL C m)) p hpl (tabN_ends _).2
        obtain ⟨x, hx⟩ : ∃ x, txt ((tabN (namesL C m)).drop p) = x := ⟨_, rfl⟩
        have hxz : NoZ x := by rw [← hx]; exact txt_noz' _
        have hfrom := txt_from hzn p x hx
        rw [hx] at htf
        have hts := ba_size (tabN (namesL C m))
        obtain ⟨T, hT⟩ : ∃ T, ByteArray.mk (tabN (namesL C m)).toArray = T := ⟨_, rfl⟩
        rw [hT] at hts
        have htd : T.data.toList = tabN (namesL C m) := by rw [← hT]
        have htx : textAt T p = .tuple #[.string ⟨x.toArray⟩, .bool true] := textAt_of T p x (by rw [htd]; exact hx) (by rw [hts]; exact htf)
        have htext : ∀ W, Calls Try.prog 16 #[.string T, .int .u64 (p : Nat)] W fun e w' => e = .returned (.tuple #[.string ⟨x.toArray⟩, .bool true]) ∧ Below W.heap.size W w' := fun W => by
          have h := text_any T p W (by rw [hts]; unfold maxLen; omega)
          rw [htx] at h
          exact h.mono fun e w' ⟨he, k, hk⟩ => ⟨he, by rw [hk]; exact ⟨rfl, rfl, rfl, Nat.le_refl _, fun _ _ => rfl⟩⟩
        have hu : IntKind.u64.wrap (T.size : Int) = (T.size : Int) := by rw [IntKind.wrap_u64]; omega
        have hmod : (n : Int) % (T.size : Int) = (p : Int) := by rw [hts, hp]; rfl
        have hmod2 : (n : Int).tmod (T.size : Int) = (p : Int) := by rw [hts, hp]; rfl
        have hne : ((T.size : Int) == 0) = false := by rw [beq_eq_false_iff_ne]; omega
        have hx20 : x.length ≤ 300 := by omega
        obtain ⟨s, hs⟩ : ∃ s, ByteArray.mk x.toArray = s := ⟨_, rfl⟩
        rw [hs] at htext
        have hsl : s.toList = x := by rw [← hs]; exact ba_list x
        have hss : s.size ≤ 300 := by rw [← toList_len, hsl]; exact hx20
        have HTX := Lib.hid htext; have HB3 := Lib.hid hB2; have HR3 := Lib.hid hrow2; have HFROM := Lib.hid hfrom; have HXZ := Lib.hid hxz; have HSL := Lib.hid hsl; have HZN := Lib.hid hzn; have HTS := Lib.hid hts; have HSZ3 := Lib.hid hsz3
        have HRI := Lib.hid hrowI; have HU := Lib.hid hu; have HM1 := Lib.hid hmod; have HM2 := Lib.hid hmod2
        have hTp : (0 : Int) < (T.size : Int) := by omega
        clear htext hB2 hrow2 hfrom hxz hsl hzn hts hsz3 hrowI htx htd htf hx hpl hp hno hsz hb2 hs hx20 hpos hu hmod hmod2 HBD HROW2 HB2
        rw [hT, HL.out]
        have HT := Lib.hid hT; clear hT
        have hu := HU.out; have hmod := HM1.out; have hmod2 := HM2.out
        go_wp2_with fail
        clear hu hmod hmod2 hne
        refine (HTX.out _).mono ?_
        rintro e w3 ⟨rfl, hb3⟩
        have hrow3 : RowB w3 g C m := HR3.out.low hb3 HR3.out.1
        have hB4 : Below w.heap.size w w3 := HB3.out.trans (hb3.mono HB3.out.size)
        obtain ⟨i0, hi, hz0, hz1, hz2⟩ := info_parts info9
        have HNEWS : Hid (∀ j u, (strsL C m)[j]? = some u → (w3.alloc (.cells #[] 9)).cell? ((⟨g, 0, none⟩ : Addr).add j) = some u) := Lib.hid (fun j u hu => by
          obtain ⟨hj, rfl⟩ := strsL_at C m j u hu
          have e : (⟨g, 0, none⟩ : Addr).add j = ⟨g, j, none⟩ := by unfold Addr.add; split <;> simp_all
          rw [e, World.cell?_of_block (w := w3) (Below.heap_alloc _ _ _ hrow3.1)]
          exact (hrow3.2 j hj).1)
        have HB5 := Lib.hid hB4; have HR4 := Lib.hid hrow3
        clear hb3 hrow3 hB4 HB3 HR3
        go_wp2_with (first
          | (at_builtin; refine wpList_append_own _ rfl _ _ 22 rfl w3.heap.size 9 i0 (.string ⟨#[]⟩) 1 16 Try.underlying22 hi hz0 hz1 hz2 rfl (by decide) _ _ _ rfl (own_empty w3) ⟨g, 0, none⟩ m c (strsL C m) rfl (by simp [strsL]) HNEWS.out (by intro u hu; simp [strsL] at hu; obtain ⟨i, _, rfl⟩ := hu; rfl) (by unfold maxLen; omega) (by omega) (by simp) ?_; intro v' w4 hown' hg4 hnil4; have hown5 := hown'.alloc (.cells #[.string s] 9))
          | (at_builtin; refine wpList_append_own _ rfl _ _ 22 rfl w3.heap.size 9 i0 (.string ⟨#[]⟩) 1 16 Try.underlying22 hi hz0 hz1 hz2 rfl (by decide) _ _ _ rfl hown5 ⟨w4.heap.size, 0, none⟩ 1 1 [.string s] rfl rfl (cell_one_new _ _ _) (by simp [Value.oneCell']) (by unfold maxLen; omega) (by omega) (by have := hg4.size; simp at this ⊢; omega) ?_; intro v6 w6 hown6 hg6 hnil6)
          | fail)
        obtain ⟨g3, c3, rfl, hg3, hgl3⟩ := own_form hown6 (fun e => by have := (hnil6.1 e).2; omega)
        have hz3 := HB5.out.size
        have hB6 : Below w.heap.size w w4 := (below_mk HB5.out _).grown hg4 (by simp; omega) (fun k hk => by cases hk; exact hz3)
        have hB7 : Below w.heap.size w w6 := (below_mk hB6 _).grown hg6 (by have := hB6.size; simp; omega) (fun k hk => by have := (hown'.lt k hk).1; omega)
        have hlist : [] ++ strsL C m ++ [Value.string s] = strsL (snocS C m s) (m + 1) := strsL_snoc C m s
        rw [hlist, Nat.zero_add] at hown6
        have hrow6 : RowB w6 g3 (snocS C m s) (m + 1) := rowB_of_own hown6 hgl3
        have hN2 := namesL_snoc C m s
        rw [HSL.out] at hN2
        have hok2 := namesL_ok (snocS C m s) (m + 1) 300 (by omega) (by omega) (fun i hi => snocS_size C m s 300 (fun j hj => by have := HRT.out j hj; omega) hss i hi)
        have hbuild2 := build_any g3 0 c3 (namesL (snocS C m s) (m + 1)) hok2 w6 hrow6.rowS
        have hl2 := namesL_len (snocS C m s) (m + 1)
        have hnoz2 : ∀ y ∈ namesL (snocS C m s) (m + 1), NoZ y := fun y hy => by
          rw [hN2] at hy
          rcases List.mem_append.1 hy with h | h
          · exact HZN.out y h
          · rw [List.mem_singleton] at h
            rw [h]; exact HXZ.out
        have hlen2 : (tabN (namesL (snocS C m s) (m + 1))).length = (tabN (namesL C m)).length := by
          rw [hN2]
          refine tab_same (fun y hy h0 => ?_) (fun y hy h0 => ⟨y, List.mem_append_left _ hy, List.suffix_refl _⟩)
          rcases List.mem_append.1 hy with h | h
          · exact ⟨y, h, List.suffix_refl _⟩
          · rw [List.mem_singleton] at h
            subst h
            exact HFROM.out h0
        rw [hl2] at hbuild2
        have HBD2 := Lib.hid hbuild2; have HL2 := Lib.hid hl2; have HNZ2 := Lib.hid hnoz2; have HLEN2 := Lib.hid hlen2; have HB7 := Lib.hid hB7
        clear hbuild2 hl2 hnoz2 hlen2 hB7 hB6 hN2 hok2 hrow6 hlist hown6 hown' hown5 hg4 hg6 hnil4 hnil6 hi hz0 hz1 hz2 hz3 HNEWS HR4 HB5 HRI HFROM HXZ HSL HZN
        rw [show 0 + m + 1 = m + 1 by omega]
        refine HBD2.out.mono ?_
        rintro e w7 ⟨hb7, ⟨hbad, rfl⟩ | ⟨_, hbig, rfl⟩ | ⟨_, hsz2, g4, hg4, rfl, _⟩⟩
        · exfalso
          obtain ⟨i, h1, h2⟩ := hbad
          exact bad_of_noz (HNZ2.out _ (nth_mem _ i h1)) h2
        · exfalso
          rw [sizeN, HLEN2.out] at hbig
          have := HSZ3.out
          omega
        · have hB8 : Below w.heap.size w w7 := HB7.out.trans (hb7.mono HB7.out.size)
          have hsu := ba_size (tabN (namesL (snocS C m s) (m + 1)))
          rw [HLEN2.out, ← HTS.out] at hsu
          rw [HL2.out]
          generalize ByteArray.mk (tabN (namesL (snocS C m s) (m + 1))).toArray = U at *
          have hsu2 : ((U.size : Int) == (T.size : Int)) = true := by rw [hsu]; simp
          have hsu3 : (U.size == T.size) = true := by rw [hsu]; simp
          have hw1 : IntKind.i64.wrap ((m : Int) + 1) = (m : Int) + 1 := IntWalk.i64_in _ (by omega)
          have HSU := Lib.hid hsu
          clear hsu hsz2 hg4 hb7
          go_wp2
          go_ret
          exact ⟨by first | rfl | simp, hB8⟩
theorem tops_law (a : Option Addr) (len cap : Nat) (S : Nat → ByteArray) (b : Int) (hb : (Lit.int .u64 b).wf = true) (w : World) (hS : IsStrs w a len cap S) : Calls Try.prog 11 #[.slice a len cap, .int .u64 b] w fun e w' => e = .returned (.bool true) ∧ Below w.heap.size w w' := by
  have h3 : IntKind.u64.min = 0 := by decide
  have h4 : IntKind.u64.max = 18446744073709551615 := by decide
  simp [Lit.wf, h3, h4] at hb
  obtain ⟨n, rfl⟩ := Int.eq_ofNat_of_zero_le hb.1
  exact tops_t a len cap (min len 12) n S (by have := hS.le_cap; omega) (by omega) (by omega) (by omega) (by omega) w hS
end Go.Proofs.Ytddlflabdlgnbaa
