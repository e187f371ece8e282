/- The walk of the law SpanGaps: it returns true at every size and every list of spans. Conditions: those written in each theorem. -/
import Derived.Test.YtibgcnggimlbcaaBB
import Derived.Deep.AppendLies
import Derived.Test.YtibgcnggimlbcaaAB
namespace Go.Proofs.Ytibgcnggimlbcaa
open Go.RowKit Go.Shelf Go.Sort
theorem and127 (a : Int) : ∃ sz : Nat, sz ≤ 127 ∧ bits .and .i64 a 127 = (sz : Int) := by
  have h2 : (BitVec.ofInt 64 (127 : Int)).toNat = 127 := by decide
  refine ⟨(BitVec.ofInt 64 a).toNat &&& 127, Nat.and_le_right, ?_⟩
  show IntKind.i64.wrap ((BitVec.ofInt 64 a &&& BitVec.ofInt 64 (127 : Int)).toNat : Int) = _
  rw [BitVec.toNat_and, h2]
  have h3 : (BitVec.ofInt 64 a).toNat &&& 127 ≤ 127 := Nat.and_le_right
  generalize (BitVec.ofInt 64 a).toNat &&& 127 = n at h3
  rw [IntKind.wrap_i64]
  omega
theorem own_apart {W : World} {B1 B2 n1 n2 : Nat} {v1 v2 : Value} {x1 x2 : List Value} {e1 e2 : TypeId} (h1 : W.ownsRow B1 e1 2 v1 n1 x1) (h2 : W.ownsRow B2 e2 2 v2 n2 x2) (hne : e1 ≠ e2) : v1.ownBlock = none ∨ v1.ownBlock ≠ v2.ownBlock := by
  rcases h1.2 with ⟨hv, _⟩ | ⟨g, cap, cur, hv, _, hg, _⟩
  · left; rw [hv]; rfl
  · right
    rcases h2.2 with ⟨hv2, _⟩ | ⟨g2, cap2, cur2, hv2, _, hg2, _⟩
    · rw [hv, hv2]; simp [Value.ownBlock]
    · rw [hv, hv2]
      simp only [Value.ownBlock]
      intro h
      simp at h
      subst h
      rw [hg] at hg2
      simp at hg2
      exact hne hg2.2
theorem flat_take (ds : List (Nat × Nat)) (k : Nat) (h : k < ds.length) : flat (ds.take (k + 1)) = flat (ds.take k) ++ [.int .u64 ((ds.getD k (0, 0)).1 : Int), .int .u64 ((ds.getD k (0, 0)).2 : Int)] := by
  rw [List.take_succ_eq_append_getElem h, flat_append, List.getD_eq_getElem?_getD, List.getElem?_eq_getElem h]
  rfl
theorem RowS.kept {w w' : World} {a : Option Addr} {n : Nat} {ds : List (Nat × Nat)} (h : RowS w a n ds) (hb : Below w.heap.size w w') : RowS w' a n ds := fun k hk => by
  obtain ⟨b, off, h1, h2, h3, h4⟩ := h k hk
  exact ⟨b, off, h1, by have := hb.size; omega, by rw [hb.cell (by exact h2)]; exact h3, by rw [hb.cell (by exact h2)]; exact h4⟩
theorem small_getD {D : List (Nat × Nat)} (h : Small D) (i : Nat) (hi : i < D.length) : (D.getD i (0, 0)).1 < 2 ^ 64 ∧ (D.getD i (0, 0)).2 < 2 ^ 64 := by
  rw [List.getD_eq_getElem?_getD, List.getElem?_eq_getElem hi]
  exact h _ (List.getElem_mem _)
theorem news_at {W : World} {g : Nat} {u0 u1 : Value} (c0 : W.cell? ⟨g, 0, none⟩ = some u0) (c1 : W.cell? ⟨g, 1, none⟩ = some u1) :
    ∀ (j : Nat) (u : Value), [u0, u1][j]? = some u → W.cell? (Addr.add ⟨g, 0, none⟩ j) = some u := by
  intro j u hj
  match j, hj with
  | 0, hj => simp at hj; subst hj; simpa [Addr.add] using c0
  | 1, hj => simp at hj; subst hj; simpa [Addr.add] using c1
set_option maxRecDepth 100000 in
set_option maxHeartbeats 4000000 in
theorem gaps_law (size : Int) (a : Option Addr) (len cap : Nat) (ds : List (Nat × Nat)) (w : World) (hl : ds.length = len) (_hlm : len ≤ maxLen) (hrow : RowS w a len ds) (hsm : Small ds) :
    Calls Try.prog 9 #[.int .i64 size, .slice a len cap] w fun e w' => e = .returned (.bool true) ∧ Below w.heap.size w w' := by
  obtain ⟨i0, hi, hz0, hz1, hz2⟩ := info_parts info52
  obtain ⟨i1, hj, hy0, hy1, hy2⟩ := info_parts info63
  unfold maxLen at _hlm
  obtain ⟨sz, hsz, hand⟩ := and127 size
  have HROW := Lib.hid hrow
  have HL := Lib.hid hl
  have HSM := Lib.hid hsm
  clear hrow hl hsm
  go_enter Try.func9, Try.ntmps9
  go_wp2_with fail
  refine (speaks2 _).mono ?_
  rintro e w1 ⟨rfl, hb1⟩
  have hws1 := hb1.size
  go_wp2_with fail
  clear hand
  go_loopw [5, 6, 7] (fun va vb i wr => ∃ k : Nat, k ≤ len ∧ k ≤ 12 ∧ i = .int .i64 k ∧ wr.ownsRow w.heap.size 52 2 va k (flat (ds.take k)) ∧ wr.ownsRow w.heap.size 63 2 vb k (flat (ds.take k)) ∧ Below w.heap.size w wr) (fun _ _ i _ => (12 - intOf i).toNat)
  case atStart => exact ⟨0, Nat.zero_le _, by omega, rfl, World.ownsRow_nil _ _ _ _, World.ownsRow_nil _ _ _ _, hb1⟩
  case round =>
    obtain ⟨k, hk, hk12, rfl, hA, hB, hg⟩ := hrel
    have hws := hg.size
    by_cases hlt : k < len ∧ k < 12
    · obtain ⟨hl1, hl2⟩ := hlt
      have hd1 : decide (k < len) = true := by simpa using hl1
      have hd2 : decide ((k : Int) < 12) = true := by simp; omega
      obtain ⟨b, off, rfl, hb, hc1, hc2⟩ := HROW.out k hl1
      have hc1w := (hg.cell (p := ⟨b, off + k * 2, none⟩) hb).trans hc1
      have hc2w := (hg.cell (p := ⟨b, off + k * 2 + 1, none⟩) hb).trans hc2
      have hc1o := hc1
      have hc2o := hc2
      clear hc1 hc2
      generalize hpp : ds.getD k (0, 0) = p at *
      obtain ⟨x, y⟩ := p
      simp only at hc1w hc2w hc1o hc2o
      have p0 : (0 : Int) ≤ (k : Int) := by omega
      have p1 : (k : Int) < (len : Int) := by omega
      have hfs := flat_take ds k (by have := HL.out; omega)
      rw [hpp] at hfs
      have HFS := Lib.hid hfs
      clear hfs hpp
      generalize flat (ds.take k) = fl at *
      go_wp2_with fail
      have hapAB := own_apart hA hB (by decide)
      have hapBA := own_apart hB hA (by decide)
      have farAn : ∀ q, wr.heap.size ≤ q → some q ≠ u5.ownBlock := fun q hq h => by have := (hA.lt q h.symm).2; omega
      have farBn : ∀ q, wr.heap.size ≤ q → some q ≠ u6.ownBlock := fun q hq h => by have := (hB.lt q h.symm).2; omega
      have hws2 : ∀ o, w.heap.size ≤ (wr.alloc o).heap.size := fun o => by simp; omega
      have hBd1 : ∀ o, w.heap.size ≤ (wr.alloc o).drew.heap.size := fun o => by show w.heap.size ≤ (wr.alloc o).heap.size; simp; omega
      have hBd2 : ∀ o o', w.heap.size ≤ ((wr.alloc o).alloc o').drew.heap.size := fun o o' => by show w.heap.size ≤ ((wr.alloc o).alloc o').heap.size; simp; omega
      go_region_held3 (fun w' => w'.cell? ⟨b, off + k * 2, none⟩ = some (.int .u64 (x : Int)) ∧ w'.cell? ⟨b, off + k * 2 + 1, none⟩ = some (.int .u64 (y : Int))) (first | go_keep | exact hkA | exact hkB) (first | (refine step_append_lies _ (by rfl) (.tmp 28) (.tmp 40) 60 (by rfl) w.heap.size 52 i0 (.agg #[.int .u64 0, .int .u64 0]) 2 16 Try.underlying60 hi hz0 hz1 hz2 rfl (by decide) u5 k fl (by rfl) ?_ _ 1 1 [.int .u64 (x : Int), .int .u64 (y : Int)] (by rfl) (by rfl) ?_ (by simp [Value.oneCell']) (by decide) ?_ ?_ ?_ _ (by rfl) ?_; (first | exact ((hA.alloc _).alloc _).drew | exact (hA.alloc _).drew | exact hAb | exact hAb.alloc _); (first | (refine news_at ?_ ?_ <;> (simp; done)) | (refine news_at ?_ ?_ <;> (rw [World.cell?_alloc_past _ _ _ (by simp)]; simp; done)) | (refine news_at (hgB.cell ?_ (farBn _ (by simp))) (hgB.cell ?_ (farBn _ (by simp))) <;> (simp; done)) | (refine news_at (hgB.cell ?_ (farBn _ (by simp))) (hgB.cell ?_ (farBn _ (by simp))) <;> (show World.cell? (World.alloc (World.alloc _ _) _) _ = _; rw [World.cell?_alloc_past _ _ _ (by simp)]; simp; done))); (unfold maxLen; omega); omega; (first | exact hBd1 _ | exact hBd2 _ _ | (have := hbelB.size; omega) | (have := hbelB.size; simp; omega)); intro g1 q1 wa hA1 hgA hatA hltA; (first | (have hBa := (((hB.alloc _).alloc _).drew).kept hgA hapBA) | (have hBa := ((hB.alloc _).drew).kept hgA hapBA) | (have hBa := hB1.kept hgA (own_apart hB1 hAb (by decide))) | (have hBa := (hB1.alloc _).kept hgA (own_apart hB1 hAb (by decide)))); have hbelA : RowKit.Below w.heap.size w wa := (by first | exact (((hg.alloc hws _).alloc (hws2 _) _).drew).grown hgA (hBd2 _ _) (fun q hq => (hA.lt q hq).1) | exact ((hg.alloc hws _).drew).grown hgA (hBd1 _) (fun q hq => (hA.lt q hq).1) | exact hbelB.grown hgA hbelB.size (fun q hq => (hA.lt q hq).1) | exact (hbelB.alloc hbelB.size _).grown hgA (by have := hbelB.size; simp; omega) (fun q hq => (hA.lt q hq).1)); have hkA : wa.cell? ⟨b, off + k * 2, none⟩ = some (.int .u64 (x : Int)) ∧ wa.cell? ⟨b, off + k * 2 + 1, none⟩ = some (.int .u64 (y : Int)) := ⟨(hbelA.cell (p := ⟨b, off + k * 2, none⟩) hb).trans hc1o, (hbelA.cell (p := ⟨b, off + k * 2 + 1, none⟩) hb).trans hc2o⟩) | (refine step_append_lies _ (by rfl) (.tmp 42) (.tmp 54) 61 (by rfl) w.heap.size 63 i1 (.agg #[.int .u64 0, .int .u64 0]) 2 16 Try.underlying61 hj hy0 hy1 hy2 rfl (by decide) u6 k fl (by rfl) ?_ _ 1 1 [.int .u64 (x : Int), .int .u64 (y : Int)] (by rfl) (by rfl) ?_ (by simp [Value.oneCell']) (by decide) ?_ ?_ ?_ _ (by rfl) ?_; (first | exact ((hB.alloc _).alloc _).drew | exact (hB.alloc _).drew | exact hBa | exact hBa.alloc _); (first | (refine news_at ?_ ?_ <;> (simp; done)) | (refine news_at ?_ ?_ <;> (rw [World.cell?_alloc_past _ _ _ (by simp)]; simp; done)) | (refine news_at (hgA.cell ?_ (farAn _ (by simp))) (hgA.cell ?_ (farAn _ (by simp))) <;> (simp; done)) | (refine news_at (hgA.cell ?_ (farAn _ (by simp))) (hgA.cell ?_ (farAn _ (by simp))) <;> (show World.cell? (World.alloc (World.alloc _ _) _) _ = _; rw [World.cell?_alloc_past _ _ _ (by simp)]; simp; done))); (unfold maxLen; omega); omega; (first | exact hBd1 _ | exact hBd2 _ _ | (have := hbelA.size; omega) | (have := hbelA.size; simp; omega)); intro g2 q2 wb hB1 hgB hatB hltB; (first | (have hAb := (((hA.alloc _).alloc _).drew).kept hgB hapAB) | (have hAb := ((hA.alloc _).drew).kept hgB hapAB) | (have hAb := hA1.kept hgB (own_apart hA1 hBa (by decide))) | (have hAb := (hA1.alloc _).kept hgB (own_apart hA1 hBa (by decide)))); have hbelB : RowKit.Below w.heap.size w wb := (by first | exact (((hg.alloc hws _).alloc (hws2 _) _).drew).grown hgB (hBd2 _ _) (fun q hq => (hB.lt q hq).1) | exact ((hg.alloc hws _).drew).grown hgB (hBd1 _) (fun q hq => (hB.lt q hq).1) | exact hbelA.grown hgB hbelA.size (fun q hq => (hB.lt q hq).1) | exact (hbelA.alloc hbelA.size _).grown hgB (by have := hbelA.size; simp; omega) (fun q hq => (hB.lt q hq).1)); have hkB : wb.cell? ⟨b, off + k * 2, none⟩ = some (.int .u64 (x : Int)) ∧ wb.cell? ⟨b, off + k * 2 + 1, none⟩ = some (.int .u64 (y : Int)) := ⟨(hbelB.cell (p := ⟨b, off + k * 2, none⟩) hb).trans hc1o, (hbelB.cell (p := ⟨b, off + k * 2 + 1, none⟩) hb).trans hc2o⟩))
      all_goals
        have hA2 : wb.ownsRow w.heap.size 52 2 (.slice (some ⟨g1, 0, none⟩) (k + 1) q1) (k + 1) (flat (ds.take (k + 1))) := by rw [HFS.out]; exact hAb
        have hB2 : wb.ownsRow w.heap.size 63 2 (.slice (some ⟨g2, 0, none⟩) (k + 1) q2) (k + 1) (flat (ds.take (k + 1))) := by rw [HFS.out]; exact hB1
        have HA2 := Lib.hid hA2
        have HB2 := Lib.hid hB2
        clear hA2 hB2 hAb hB1 hA1 hBa hgA hgB hkA hkB hapAB hapBA farAn farBn hws2 hBd1 hBd2 hA hB hc1w hc2w hc1o hc2o hbelA hatA hatB
        go_wp2
        go_roundw
        case rel => exact ⟨k + 1, by omega, by omega, by go_num, HA2.out, HB2.out, hbelB⟩
        case measure => simp [intOf]; omega
    · have hkl : k = len ∨ k = 12 := by omega
      have hd : decide (k < len) = false ∨ (decide (k < len) = true ∧ decide ((k : Int) < 12) = false) := by
        by_cases h : k < len
        · right; exact ⟨by simpa using h, by simp; omega⟩
        · left; simpa using h
      have hDl : (ds.take k).length = k := by rw [List.length_take, HL.out]; omega
      have hDs : Small (ds.take k) := fun s hs => HSM.out s (List.mem_of_mem_take hs)
      generalize ds.take k = D at *
      rw [← hDl] at hA hB
      obtain ⟨aa, ca, hva, hra⟩ := owns_row' hA
      obtain ⟨ab, cb, hvb, hrb⟩ := owns_row' hB
      subst hva hvb
      rw [hDl] at hra hrb ⊢
      have HRA := Lib.hid hra
      have HRB := Lib.hid hrb
      have HDL := Lib.hid hDl
      have HDS := Lib.hid hDs
      clear hra hrb hDl hDs hA hB hlt HROW hkl
      have hwz := u64_len sz (by omega)
      rcases hd with hd1 | ⟨hd1, hd2⟩
      all_goals
        go_wp2_with fail
        refine (gaps_any sz aa k ca D _ (by omega) HDL.out hk12 HRA.out HDS.out).mono ?_
        rintro e w2 ⟨ag, cg, d, hpd, had, rfl, hrg, hb2⟩
        have hGe := Spans.gaps_eq sz (by unfold maxU; omega) d D hpd had
        rw [hGe] at hrg ⊢
        have hB2 : RowKit.Below w.heap.size w w2 := hg.trans (hb2.mono hws)
        have HRB2 := Lib.hid (RowS.kept HRB.out hb2)
        have HRA2 := Lib.hid (RowS.kept HRA.out hb2)
        go_wp2_with fail
        refine (refGaps_any sz ab k cb D _ hsz HDL.out hk12 HRB2.out).mono ?_
        rintro e w3 ⟨ah, ch, rfl, hrh, hb3⟩
        have hB3 : RowKit.Below w.heap.size w w3 := hB2.trans (hb3.mono hB2.size)
        have HRG := Lib.hid (RowS.kept hrg hb3)
        have HRH := Lib.hid hrh
        have HRB3 := Lib.hid (RowS.kept HRB2.out hb3)
        have HRA3 := Lib.hid (RowS.kept HRA2.out hb3)
        have hGl := refG_le D sz
        clear hrg hrh hb2 hb3 hpd had hGe HRB2 HRA2 HRA HRB hd1 hwz
        generalize Spans.refG D sz = G at *
        go_wp2_with fail
        go_loopw [10] (fun i wr => ∃ j : Nat, j ≤ G.length ∧ i = .int .i64 j ∧ RowKit.Below w3.heap.size w3 wr) (fun i _ => G.length - (intOf i).toNat)
        case atStart => exact ⟨0, Nat.zero_le _, rfl, RowKit.Below.refl _ _⟩
        case round =>
          obtain ⟨j, hj, rfl, hg4⟩ := hrel
          by_cases hjl : j < G.length
          · have hdj : decide (j < G.length) = true := by simpa using hjl
            obtain ⟨b1, o1, rfl, hb1', hc1, hc2⟩ := HRG.out j hjl
            obtain ⟨b2, o2, rfl, hb2', hc3, hc4⟩ := HRH.out j hjl
            have k1 := (hg4.cell (p := ⟨b1, o1 + j * 2, none⟩) hb1').trans hc1
            have k2 := (hg4.cell (p := ⟨b1, o1 + j * 2 + 1, none⟩) hb1').trans hc2
            have k3 := (hg4.cell (p := ⟨b2, o2 + j * 2, none⟩) hb2').trans hc3
            have k4 := (hg4.cell (p := ⟨b2, o2 + j * 2 + 1, none⟩) hb2').trans hc4
            clear hc1 hc2 hc3 hc4
            generalize G.getD j (0, 0) = p at *
            obtain ⟨x, y⟩ := p
            simp only at k1 k2 k3 k4
            have p0 : (0 : Int) ≤ (j : Int) := by omega
            have p1 : (j : Int) < (G.length : Int) := by omega
            go_wp2_with fail
            go_quiet (fail)
            have hg5 := below_drewN hg4 nq
            clear k1 k2 k3 k4 hg4
            go_wp2
            go_roundw
            case rel => exact ⟨j + 1, by omega, by go_num, hg5⟩
            case measure => simp [intOf]; omega
          · obtain rfl : j = G.length := by omega
            have hdj : decide (G.length < G.length) = false := by simp
            go_wp2_with fail
            clear hdj
            generalize wr = w4 at *
            go_loopw [11, 12, 13] (fun c i _ wr => ∃ m : Nat, m ≤ k ∧ i = .int .i64 m ∧ c = .bool (Spans.call D m) ∧ RowKit.Below w4.heap.size w4 wr) (fun _ i _ _ => k - (intOf i).toNat)
            case atStart => exact ⟨0, Nat.zero_le _, rfl, rfl, RowKit.Below.refl _ _⟩
            case round =>
              obtain ⟨m, hm, rfl, rfl, hg5⟩ := hrel
              by_cases hmk : m < k
              · have hdm : decide (m < k) = true := by simpa using hmk
                have hst1 : Spans.call D (m + 1) = (Spans.call D m || Spans.crow D m m) := rfl
                generalize Spans.call D m = cm at *
                have HS1 := Lib.hid hst1
                clear hst1
                go_wp2_with fail
                generalize wr = w5 at *
                go_loopw [11, 13] (fun c i wr => ∃ q : Nat, q ≤ m ∧ i = .int .i64 q ∧ c = .bool (cm || Spans.crow D m q) ∧ RowKit.Below w4.heap.size w4 wr) (fun _ i _ => m - (intOf i).toNat)
                case atStart => exact ⟨0, Nat.zero_le _, rfl, by simp [Spans.crow], hg5⟩
                case round =>
                  obtain ⟨q, hq, rfl, rfl, hg6⟩ := hrel
                  by_cases hqm : q < m
                  · have hdq : decide (q < m) = true := by simpa using hqm
                    obtain ⟨b1, o1, e1, hb1', hc1, hc2⟩ := HRB3.out m hmk
                    obtain ⟨b2, o2, e2, hb2', hc3, hc4⟩ := HRB3.out q (by omega)
                    rw [e1] at e2
                    simp only [Option.some.injEq, Addr.mk.injEq, and_true] at e2
                    obtain ⟨rfl, rfl⟩ := e2
                    subst e1
                    have hB6 : RowKit.Below w3.heap.size w3 wr := hg4.trans (hg6.mono hg4.size)
                    have k1 := (hB6.cell (p := ⟨b1, o1 + m * 2, none⟩) hb1').trans hc1
                    have k2 := (hB6.cell (p := ⟨b1, o1 + m * 2 + 1, none⟩) hb1').trans hc2
                    have k3 := (hB6.cell (p := ⟨b1, o1 + q * 2, none⟩) hb1').trans hc3
                    have k4 := (hB6.cell (p := ⟨b1, o1 + q * 2 + 1, none⟩) hb1').trans hc4
                    clear hc1 hc2 hc3 hc4
                    have hstep : Spans.crow D m (q + 1) = (Spans.crow D m q || Spans.cp (D.getD m (0, 0)) (D.getD q (0, 0))) := rfl
                    have hs1 := small_getD HDS.out m (by rw [HDL.out]; exact hmk)
                    have hs2 := small_getD HDS.out q (by rw [HDL.out]; omega)
                    generalize D.getD m (0, 0) = pi at *
                    generalize D.getD q (0, 0) = pk at *
                    obtain ⟨xi, yi⟩ := pi
                    obtain ⟨xk, yk⟩ := pk
                    simp only at k1 k2 k3 k4 hs1 hs2
                    have HC1 := Lib.hid (fun W => has_any (xi, yi) xk W hs2.1)
                    have HC2 := Lib.hid (fun W => has_any (xk, yk) xi W hs1.1)
                    have hcp : Spans.cp (xi, yi) (xk, yk) = (decide (0 < yi) && decide (0 < yk) && (Spans.hasB (xi, yi) xk || Spans.hasB (xk, yk) xi)) := rfl
                    rw [hcp] at hstep
                    generalize Spans.hasB (xi, yi) xk = h1 at *
                    generalize Spans.hasB (xk, yk) xi = h2 at *
                    generalize Spans.crow D m q = cq at *
                    have HST := Lib.hid hstep
                    clear hcp hstep hs1 hs2
                    have p0 : (0 : Int) ≤ (m : Int) := by omega
                    have p1 : (m : Int) < (k : Int) := by omega
                    have p2 : (0 : Int) ≤ (q : Int) := by omega
                    have p3 : (q : Int) < (k : Int) := by omega
                    have hbw : b1 < wr.heap.size := by have := hB6.size; omega
                    have hcase : (decide (0 < yi) = false) ∨ (decide (0 < yi) = true ∧ decide (0 < yk) = false) ∨ (decide (0 < yi) = true ∧ decide (0 < yk) = true) := by
                      by_cases h : 0 < yi <;> by_cases h' : 0 < yk <;> simp [h, h']
                    rcases hcase with d1 | ⟨d1, d2⟩ | ⟨d1, d2⟩
                    · have hst := HST.out
                      rw [d1] at hst
                      have HST2 := Lib.hid hst
                      clear hst HST
                      go_wp2_with fail
                      go_quiet (fail)
                      have hg7 := below_drewN hg6 nq
                      clear k1 k2 k3 k4 hg6 hB6
                      go_wp2
                      go_roundw
                      case rel => exact ⟨q + 1, by omega, by go_num, by rw [HST2.out]; simp, hg7⟩
                      case measure => simp [intOf]; omega
                    · have hst := HST.out
                      rw [d1, d2] at hst
                      have HST2 := Lib.hid hst
                      clear hst HST
                      go_wp2_with fail
                      go_quiet (fail)
                      have hg7 := below_drewN hg6 nq
                      clear k1 k2 k3 k4 hg6 hB6
                      go_wp2
                      go_roundw
                      case rel => exact ⟨q + 1, by omega, by go_num, by rw [HST2.out]; simp, hg7⟩
                      case measure => simp [intOf]; omega
                    · have hst := HST.out
                      rw [d1, d2] at hst
                      have HST2 := Lib.hid hst
                      clear hst HST
                      have hw6 := hg6.size
                      cases h1
                      · cases h2
                        all_goals
                          go_wp2_with fail
                          go_region_held3 (fun w' => w'.cell? ⟨b1, o1 + m * 2, none⟩ = some (.int .u64 (xi : Int)) ∧ w'.cell? ⟨b1, o1 + m * 2 + 1, none⟩ = some (.int .u64 (yi : Int)) ∧ w'.cell? ⟨b1, o1 + q * 2, none⟩ = some (.int .u64 (xk : Int)) ∧ w'.cell? ⟨b1, o1 + q * 2 + 1, none⟩ = some (.int .u64 (yk : Int))) (go_keep) (first | (go_at_call 34; (with_reducible refine (HC1.out _).mono ?_); rintro e wx ⟨rfl, rfl⟩) | (go_at_call 34; (with_reducible refine (HC2.out _).mono ?_); rintro e wx ⟨rfl, rfl⟩))
                          clear k1 k2 k3 k4 hB6
                          go_wp2
                          go_roundw
                          case rel => exact ⟨q + 1, by omega, by go_num, by rw [HST2.out]; simp, ((hg6.alloc hw6 _).alloc (by simp; omega) _).drew⟩
                          case measure => simp [intOf]; omega
                      · go_wp2_with fail
                        refine wp_region_held_drew (S := (fun w' => w'.cell? ⟨b1, o1 + m * 2, none⟩ = some (.int .u64 (xi : Int)) ∧ w'.cell? ⟨b1, o1 + m * 2 + 1, none⟩ = some (.int .u64 (yi : Int)) ∧ w'.cell? ⟨b1, o1 + q * 2, none⟩ = some (.int .u64 (xk : Int)) ∧ w'.cell? ⟨b1, o1 + q * 2 + 1, none⟩ = some (.int .u64 (yk : Int)))) (by kernel_rfl) ?_ (fun hHeld => ?_)
                        · (try dsimp only); go_keep
                        refine wpAnyH_take (i := 0) (oi := { dst := some 110, op := Op.move (Operand.tmp 6), type := 61, pos := "law.go:80", after := #[], guard := none }) (v := ?_) rfl (by kernel_rfl) (by kernel_rfl) (by kernel_rfl) (fun _ _ _ h => h) (Or.inl ⟨by rfl, ?_⟩) (by assumption) ?_
                        rotate_left
                        · (intro w hSw; (try dsimp only at hSw); go_simp <;> with_reducible rfl)
                        try simp only [Act.put, List.setIfInBounds_toArray, List.set_cons_zero, List.set_cons_succ]
                        refine wpAnyH_take (i := 1) (oi := { dst := some 111, op := Op.move (Operand.tmp 12), type := 3, pos := "law.go:80", after := #[], guard := none }) (v := ?_) rfl (by kernel_rfl) (by kernel_rfl) (by kernel_rfl) (fun _ _ _ h => h) (Or.inl ⟨by rfl, ?_⟩) (by assumption) ?_
                        rotate_left
                        · (intro w hSw; (try dsimp only at hSw); go_simp <;> with_reducible rfl)
                        try simp only [Act.put, List.setIfInBounds_toArray, List.set_cons_zero, List.set_cons_succ]
                        refine wpAnyH_take (i := 2) (oi := { dst := some 112, op := Op.indexAddr 61 (Operand.tmp 110) (Operand.tmp 111), type := 0, pos := "law.go:80", after := #[{ on := 0, ground := Ground.data }, { on := 1, ground := Ground.data }], guard := none }) (v := ?_) rfl (by kernel_rfl) (by kernel_rfl) (by kernel_rfl) (fun _ _ _ h => h) (Or.inl ⟨by rfl, ?_⟩) (by assumption) ?_
                        rotate_left
                        · (intro w hSw; (try dsimp only at hSw); go_simp <;> with_reducible rfl)
                        try simp only [Act.put, List.setIfInBounds_toArray, List.set_cons_zero, List.set_cons_succ]
                        refine wpAnyH_take (i := 3) (oi := { dst := some 113, op := Op.fieldAddr 63 (Operand.tmp 112) 1, type := 0, pos := "law.go:80", after := #[{ on := 2, ground := Ground.data }], guard := none }) (v := ?_) rfl (by kernel_rfl) (by kernel_rfl) (by kernel_rfl) (fun _ _ _ h => h) (Or.inl ⟨by rfl, ?_⟩) (by assumption) ?_
                        rotate_left
                        · (intro w hSw; (try dsimp only at hSw); go_simp <;> with_reducible rfl)
                        try simp only [Act.put, List.setIfInBounds_toArray, List.set_cons_zero, List.set_cons_succ]
                        refine wpAnyH_take (i := 4) (oi := { dst := some 114, op := Op.load 22 (Operand.tmp 113), type := 22, pos := "law.go:80", after := #[{ on := 3, ground := Ground.data }], guard := none }) (v := ?_) rfl (by kernel_rfl) (by kernel_rfl) (by kernel_rfl) (fun _ _ _ h => h) (Or.inl ⟨by rfl, ?_⟩) (by assumption) ?_
                        rotate_left
                        · (intro w hSw; (try dsimp only at hSw); go_simp <;> with_reducible rfl)
                        try simp only [Act.put, List.setIfInBounds_toArray, List.set_cons_zero, List.set_cons_succ]
                        refine wpAnyH_take (i := 5) (oi := { dst := some 115, op := Op.binOp BinOp.gtr 22 (Operand.tmp 114) (Operand.const (Value.int IntKind.u64 0)) 22, type := 4, pos := "law.go:80", after := #[{ on := 4, ground := Ground.data }], guard := none }) (v := ?_) rfl (by kernel_rfl) (by kernel_rfl) (by kernel_rfl) (fun _ _ _ h => h) (Or.inl ⟨by rfl, ?_⟩) (by assumption) ?_
                        rotate_left
                        · (intro w hSw; (try dsimp only at hSw); go_simp <;> with_reducible rfl)
                        try simp only [Act.put, List.setIfInBounds_toArray, List.set_cons_zero, List.set_cons_succ]
                        refine wpAnyH_take (i := 6) (oi := { dst := some 116, op := Op.move (Operand.tmp 115), type := 4, pos := "law.go:80", after := #[{ on := 5, ground := Ground.data }], guard := none }) (v := ?_) rfl (by kernel_rfl) (by kernel_rfl) (by kernel_rfl) (fun _ _ _ h => h) (Or.inl ⟨by rfl, ?_⟩) (by assumption) ?_
                        rotate_left
                        · (intro w hSw; (try dsimp only at hSw); go_simp <;> with_reducible rfl)
                        try simp only [Act.put, List.setIfInBounds_toArray, List.set_cons_zero, List.set_cons_succ]
                        refine wpAnyH_take (i := 7) (oi := { dst := some 117, op := Op.move (Operand.tmp 6), type := 61, pos := "law.go:80", after := #[{ on := 6, ground := Ground.guard }], guard := some (6, true) }) (v := ?_) rfl (by kernel_rfl) (by kernel_rfl) (by kernel_rfl) (fun _ _ _ h => h) (Or.inl ⟨by rfl, ?_⟩) (by assumption) ?_
                        rotate_left
                        · (intro w hSw; (try dsimp only at hSw); go_simp <;> with_reducible rfl)
                        try simp only [Act.put, List.setIfInBounds_toArray, List.set_cons_zero, List.set_cons_succ]
                        refine wpAnyH_take (i := 8) (oi := { dst := some 118, op := Op.move (Operand.tmp 13), type := 3, pos := "law.go:80", after := #[{ on := 6, ground := Ground.guard }], guard := some (6, true) }) (v := ?_) rfl (by kernel_rfl) (by kernel_rfl) (by kernel_rfl) (fun _ _ _ h => h) (Or.inl ⟨by rfl, ?_⟩) (by assumption) ?_
                        rotate_left
                        · (intro w hSw; (try dsimp only at hSw); go_simp <;> with_reducible rfl)
                        try simp only [Act.put, List.setIfInBounds_toArray, List.set_cons_zero, List.set_cons_succ]
                        refine wpAnyH_take (i := 9) (oi := { dst := some 119, op := Op.indexAddr 61 (Operand.tmp 117) (Operand.tmp 118), type := 0, pos := "law.go:80", after := #[{ on := 7, ground := Ground.data }, { on := 8, ground := Ground.data }, { on := 6, ground := Ground.guard }], guard := some (6, true) }) (v := ?_) rfl (by kernel_rfl) (by kernel_rfl) (by kernel_rfl) (fun _ _ _ h => h) (Or.inl ⟨by rfl, ?_⟩) (by assumption) ?_
                        rotate_left
                        · (intro w hSw; (try dsimp only at hSw); go_simp <;> with_reducible rfl)
                        try simp only [Act.put, List.setIfInBounds_toArray, List.set_cons_zero, List.set_cons_succ]
                        refine wpAnyH_take (i := 10) (oi := { dst := some 120, op := Op.fieldAddr 63 (Operand.tmp 119) 1, type := 0, pos := "law.go:80", after := #[{ on := 9, ground := Ground.data }, { on := 6, ground := Ground.guard }], guard := some (6, true) }) (v := ?_) rfl (by kernel_rfl) (by kernel_rfl) (by kernel_rfl) (fun _ _ _ h => h) (Or.inl ⟨by rfl, ?_⟩) (by assumption) ?_
                        rotate_left
                        · (intro w hSw; (try dsimp only at hSw); go_simp <;> with_reducible rfl)
                        try simp only [Act.put, List.setIfInBounds_toArray, List.set_cons_zero, List.set_cons_succ]
                        refine wpAnyH_take (i := 11) (oi := { dst := some 121, op := Op.load 22 (Operand.tmp 120), type := 22, pos := "law.go:80", after := #[{ on := 10, ground := Ground.data }, { on := 6, ground := Ground.guard }], guard := some (6, true) }) (v := ?_) rfl (by kernel_rfl) (by kernel_rfl) (by kernel_rfl) (fun _ _ _ h => h) (Or.inl ⟨by rfl, ?_⟩) (by assumption) ?_
                        rotate_left
                        · (intro w hSw; (try dsimp only at hSw); go_simp <;> with_reducible rfl)
                        try simp only [Act.put, List.setIfInBounds_toArray, List.set_cons_zero, List.set_cons_succ]
                        refine wpAnyH_take (i := 12) (oi := { dst := some 122, op := Op.binOp BinOp.gtr 22 (Operand.tmp 121) (Operand.const (Value.int IntKind.u64 0)) 22, type := 4, pos := "law.go:80", after := #[{ on := 11, ground := Ground.data }, { on := 6, ground := Ground.guard }], guard := some (6, true) }) (v := ?_) rfl (by kernel_rfl) (by kernel_rfl) (by kernel_rfl) (fun _ _ _ h => h) (Or.inl ⟨by rfl, ?_⟩) (by assumption) ?_
                        rotate_left
                        · (intro w hSw; (try dsimp only at hSw); go_simp <;> with_reducible rfl)
                        try simp only [Act.put, List.setIfInBounds_toArray, List.set_cons_zero, List.set_cons_succ]
                        refine wpAnyH_take (i := 13) (oi := { dst := some 123, op := Op.pick (Operand.tmp 116) (Operand.tmp 122) (Operand.const (Value.bool false)), type := 4, pos := "law.go:80", after := #[{ on := 6, ground := Ground.data }, { on := 12, ground := Ground.data }], guard := none }) (v := ?_) rfl (by kernel_rfl) (by kernel_rfl) (by kernel_rfl) (fun _ _ _ h => h) (Or.inl ⟨by rfl, ?_⟩) (by assumption) ?_
                        rotate_left
                        · (intro w hSw; (try dsimp only at hSw); go_simp <;> with_reducible rfl)
                        try simp only [Act.put, List.setIfInBounds_toArray, List.set_cons_zero, List.set_cons_succ]
                        refine wpAnyH_take (i := 14) (oi := { dst := some 124, op := Op.move (Operand.tmp 123), type := 4, pos := "law.go:80", after := #[{ on := 13, ground := Ground.data }, { on := 6, ground := Ground.chain }], guard := none }) (v := ?_) rfl (by kernel_rfl) (by kernel_rfl) (by kernel_rfl) (fun _ _ _ h => h) (Or.inl ⟨by rfl, ?_⟩) (by assumption) ?_
                        rotate_left
                        · (intro w hSw; (try dsimp only at hSw); go_simp <;> with_reducible rfl)
                        try simp only [Act.put, List.setIfInBounds_toArray, List.set_cons_zero, List.set_cons_succ]
                        refine wpAnyH_take (i := 15) (oi := { dst := some 125, op := Op.move (Operand.tmp 6), type := 61, pos := "law.go:80", after := #[{ on := 14, ground := Ground.guard }], guard := some (14, true) }) (v := ?_) rfl (by kernel_rfl) (by kernel_rfl) (by kernel_rfl) (fun _ _ _ h => h) (Or.inl ⟨by rfl, ?_⟩) (by assumption) ?_
                        rotate_left
                        · (intro w hSw; (try dsimp only at hSw); go_simp <;> with_reducible rfl)
                        try simp only [Act.put, List.setIfInBounds_toArray, List.set_cons_zero, List.set_cons_succ]
                        refine wpAnyH_take (i := 16) (oi := { dst := some 126, op := Op.move (Operand.tmp 12), type := 3, pos := "law.go:80", after := #[{ on := 14, ground := Ground.guard }], guard := some (14, true) }) (v := ?_) rfl (by kernel_rfl) (by kernel_rfl) (by kernel_rfl) (fun _ _ _ h => h) (Or.inl ⟨by rfl, ?_⟩) (by assumption) ?_
                        rotate_left
                        · (intro w hSw; (try dsimp only at hSw); go_simp <;> with_reducible rfl)
                        try simp only [Act.put, List.setIfInBounds_toArray, List.set_cons_zero, List.set_cons_succ]
                        refine wpAnyH_take (i := 17) (oi := { dst := some 127, op := Op.indexAddr 61 (Operand.tmp 125) (Operand.tmp 126), type := 0, pos := "law.go:80", after := #[{ on := 15, ground := Ground.data }, { on := 16, ground := Ground.data }, { on := 14, ground := Ground.guard }], guard := some (14, true) }) (v := ?_) rfl (by kernel_rfl) (by kernel_rfl) (by kernel_rfl) (fun _ _ _ h => h) (Or.inl ⟨by rfl, ?_⟩) (by assumption) ?_
                        rotate_left
                        · (intro w hSw; (try dsimp only at hSw); go_simp <;> with_reducible rfl)
                        try simp only [Act.put, List.setIfInBounds_toArray, List.set_cons_zero, List.set_cons_succ]
                        refine wpAnyH_take (i := 18) (oi := { dst := some 128, op := Op.load 63 (Operand.tmp 127), type := 63, pos := "law.go:80", after := #[{ on := 17, ground := Ground.data }, { on := 14, ground := Ground.guard }], guard := some (14, true) }) (v := ?_) rfl (by kernel_rfl) (by kernel_rfl) (by kernel_rfl) (fun _ _ _ h => h) (Or.inl ⟨by rfl, ?_⟩) (by assumption) ?_
                        rotate_left
                        · (intro w hSw; (try dsimp only at hSw); go_simp <;> with_reducible rfl)
                        try simp only [Act.put, List.setIfInBounds_toArray, List.set_cons_zero, List.set_cons_succ]
                        refine wpAnyH_take (i := 19) (oi := { dst := some 129, op := Op.move (Operand.tmp 6), type := 61, pos := "law.go:80", after := #[{ on := 14, ground := Ground.guard }], guard := some (14, true) }) (v := ?_) rfl (by kernel_rfl) (by kernel_rfl) (by kernel_rfl) (fun _ _ _ h => h) (Or.inl ⟨by rfl, ?_⟩) (by assumption) ?_
                        rotate_left
                        · (intro w hSw; (try dsimp only at hSw); go_simp <;> with_reducible rfl)
                        try simp only [Act.put, List.setIfInBounds_toArray, List.set_cons_zero, List.set_cons_succ]
                        refine wpAnyH_take (i := 20) (oi := { dst := some 130, op := Op.move (Operand.tmp 13), type := 3, pos := "law.go:80", after := #[{ on := 14, ground := Ground.guard }], guard := some (14, true) }) (v := ?_) rfl (by kernel_rfl) (by kernel_rfl) (by kernel_rfl) (fun _ _ _ h => h) (Or.inl ⟨by rfl, ?_⟩) (by assumption) ?_
                        rotate_left
                        · (intro w hSw; (try dsimp only at hSw); go_simp <;> with_reducible rfl)
                        try simp only [Act.put, List.setIfInBounds_toArray, List.set_cons_zero, List.set_cons_succ]
                        refine wpAnyH_take (i := 21) (oi := { dst := some 131, op := Op.indexAddr 61 (Operand.tmp 129) (Operand.tmp 130), type := 0, pos := "law.go:80", after := #[{ on := 19, ground := Ground.data }, { on := 20, ground := Ground.data }, { on := 14, ground := Ground.guard }], guard := some (14, true) }) (v := ?_) rfl (by kernel_rfl) (by kernel_rfl) (by kernel_rfl) (fun _ _ _ h => h) (Or.inl ⟨by rfl, ?_⟩) (by assumption) ?_
                        rotate_left
                        · (intro w hSw; (try dsimp only at hSw); go_simp <;> with_reducible rfl)
                        try simp only [Act.put, List.setIfInBounds_toArray, List.set_cons_zero, List.set_cons_succ]
                        refine wpAnyH_take (i := 22) (oi := { dst := some 132, op := Op.fieldAddr 63 (Operand.tmp 131) 0, type := 0, pos := "law.go:80", after := #[{ on := 21, ground := Ground.data }, { on := 14, ground := Ground.guard }], guard := some (14, true) }) (v := ?_) rfl (by kernel_rfl) (by kernel_rfl) (by kernel_rfl) (fun _ _ _ h => h) (Or.inl ⟨by rfl, ?_⟩) (by assumption) ?_
                        rotate_left
                        · (intro w hSw; (try dsimp only at hSw); go_simp <;> with_reducible rfl)
                        try simp only [Act.put, List.setIfInBounds_toArray, List.set_cons_zero, List.set_cons_succ]
                        refine wpAnyH_take (i := 23) (oi := { dst := some 133, op := Op.load 22 (Operand.tmp 132), type := 22, pos := "law.go:80", after := #[{ on := 22, ground := Ground.data }, { on := 14, ground := Ground.guard }], guard := some (14, true) }) (v := ?_) rfl (by kernel_rfl) (by kernel_rfl) (by kernel_rfl) (fun _ _ _ h => h) (Or.inl ⟨by rfl, ?_⟩) (by assumption) ?_
                        rotate_left
                        · (intro w hSw; (try dsimp only at hSw); go_simp <;> with_reducible rfl)
                        try simp only [Act.put, List.setIfInBounds_toArray, List.set_cons_zero, List.set_cons_succ]
                        refine wpAnyH_ready (rs := [24]) (by kernel_rfl) (by simp) ?_
                        refine AllReadyH.cons (o := { dst := some 134, op := Op.call { callee := Callee.value (Operand.func 34), args := #[Operand.tmp 128, Operand.tmp 133], argTypes := #[63, 22] }, type := 4, pos := "law.go:80", after := #[{ on := 18, ground := Ground.data }, { on := 23, ground := Ground.data }, { on := 14, ground := Ground.chain }, { on := 14, ground := Ground.guard }], guard := some (14, true) }) rfl (fun K hK => ?_) AllReadyH.nil
                        first | (go_at_call 34; (with_reducible refine (HC1.out _).mono ?_); rintro e wx ⟨rfl, rfl⟩; refine hK.out _ _ ?_ (fun hHeld2 => ?_)) | (go_simp; go_at_call 34; (with_reducible refine (HC1.out _).mono ?_); rintro e wx ⟨rfl, rfl⟩; (try go_wp2_with fail); refine hK.out _ _ ?_ (fun hHeld2 => ?_))
                        · (try dsimp only); go_keep
                        clear hK K hHeld
                        try simp only [Act.put, List.setIfInBounds_toArray, List.set_cons_zero, List.set_cons_succ]
                        refine wpAnyH_take (i := 25) (oi := { dst := some 135, op := Op.move (Operand.tmp 134), type := 4, pos := "law.go:80", after := #[{ on := 24, ground := Ground.data }, { on := 24, ground := Ground.chain }, { on := 14, ground := Ground.guard }], guard := some (14, true) }) (v := ?_) rfl (by kernel_rfl) (by kernel_rfl) (by kernel_rfl) (fun _ _ _ h => h) (Or.inl ⟨by rfl, ?_⟩) (by assumption) ?_
                        rotate_left
                        · (intro w hSw; (try dsimp only at hSw); go_simp <;> with_reducible rfl)
                        try simp only [Act.put, List.setIfInBounds_toArray, List.set_cons_zero, List.set_cons_succ]
                        refine wpAnyH_take (i := 26) (oi := { dst := some 136, op := Op.move (Operand.tmp 6), type := 61, pos := "law.go:80", after := #[{ on := 25, ground := Ground.guard }], guard := some (25, false) }) (v := undef) rfl (by kernel_rfl) (by kernel_rfl) (by kernel_rfl) (fun _ _ _ h => h) (Or.inr ⟨by rfl, rfl⟩) (by assumption) ?_
                        try simp only [Act.put, List.setIfInBounds_toArray, List.set_cons_zero, List.set_cons_succ]
                        refine wpAnyH_take (i := 27) (oi := { dst := some 137, op := Op.move (Operand.tmp 13), type := 3, pos := "law.go:80", after := #[{ on := 25, ground := Ground.guard }], guard := some (25, false) }) (v := undef) rfl (by kernel_rfl) (by kernel_rfl) (by kernel_rfl) (fun _ _ _ h => h) (Or.inr ⟨by rfl, rfl⟩) (by assumption) ?_
                        try simp only [Act.put, List.setIfInBounds_toArray, List.set_cons_zero, List.set_cons_succ]
                        refine wpAnyH_take (i := 28) (oi := { dst := some 138, op := Op.indexAddr 61 (Operand.tmp 136) (Operand.tmp 137), type := 0, pos := "law.go:80", after := #[{ on := 26, ground := Ground.data }, { on := 27, ground := Ground.data }, { on := 25, ground := Ground.guard }], guard := some (25, false) }) (v := undef) rfl (by kernel_rfl) (by kernel_rfl) (by kernel_rfl) (fun _ _ _ h => h) (Or.inr ⟨by rfl, rfl⟩) (by assumption) ?_
                        try simp only [Act.put, List.setIfInBounds_toArray, List.set_cons_zero, List.set_cons_succ]
                        refine wpAnyH_take (i := 29) (oi := { dst := some 139, op := Op.load 63 (Operand.tmp 138), type := 63, pos := "law.go:80", after := #[{ on := 28, ground := Ground.data }, { on := 25, ground := Ground.guard }], guard := some (25, false) }) (v := undef) rfl (by kernel_rfl) (by kernel_rfl) (by kernel_rfl) (fun _ _ _ h => h) (Or.inr ⟨by rfl, rfl⟩) (by assumption) ?_
                        try simp only [Act.put, List.setIfInBounds_toArray, List.set_cons_zero, List.set_cons_succ]
                        refine wpAnyH_take (i := 30) (oi := { dst := some 140, op := Op.move (Operand.tmp 6), type := 61, pos := "law.go:80", after := #[{ on := 25, ground := Ground.guard }], guard := some (25, false) }) (v := undef) rfl (by kernel_rfl) (by kernel_rfl) (by kernel_rfl) (fun _ _ _ h => h) (Or.inr ⟨by rfl, rfl⟩) (by assumption) ?_
                        try simp only [Act.put, List.setIfInBounds_toArray, List.set_cons_zero, List.set_cons_succ]
                        refine wpAnyH_take (i := 31) (oi := { dst := some 141, op := Op.move (Operand.tmp 12), type := 3, pos := "law.go:80", after := #[{ on := 25, ground := Ground.guard }], guard := some (25, false) }) (v := undef) rfl (by kernel_rfl) (by kernel_rfl) (by kernel_rfl) (fun _ _ _ h => h) (Or.inr ⟨by rfl, rfl⟩) (by assumption) ?_
                        try simp only [Act.put, List.setIfInBounds_toArray, List.set_cons_zero, List.set_cons_succ]
                        refine wpAnyH_take (i := 32) (oi := { dst := some 142, op := Op.indexAddr 61 (Operand.tmp 140) (Operand.tmp 141), type := 0, pos := "law.go:80", after := #[{ on := 30, ground := Ground.data }, { on := 31, ground := Ground.data }, { on := 25, ground := Ground.guard }], guard := some (25, false) }) (v := undef) rfl (by kernel_rfl) (by kernel_rfl) (by kernel_rfl) (fun _ _ _ h => h) (Or.inr ⟨by rfl, rfl⟩) (by assumption) ?_
                        try simp only [Act.put, List.setIfInBounds_toArray, List.set_cons_zero, List.set_cons_succ]
                        refine wpAnyH_take (i := 33) (oi := { dst := some 143, op := Op.fieldAddr 63 (Operand.tmp 142) 0, type := 0, pos := "law.go:80", after := #[{ on := 32, ground := Ground.data }, { on := 25, ground := Ground.guard }], guard := some (25, false) }) (v := undef) rfl (by kernel_rfl) (by kernel_rfl) (by kernel_rfl) (fun _ _ _ h => h) (Or.inr ⟨by rfl, rfl⟩) (by assumption) ?_
                        try simp only [Act.put, List.setIfInBounds_toArray, List.set_cons_zero, List.set_cons_succ]
                        refine wpAnyH_take (i := 34) (oi := { dst := some 144, op := Op.load 22 (Operand.tmp 143), type := 22, pos := "law.go:80", after := #[{ on := 33, ground := Ground.data }, { on := 25, ground := Ground.guard }], guard := some (25, false) }) (v := undef) rfl (by kernel_rfl) (by kernel_rfl) (by kernel_rfl) (fun _ _ _ h => h) (Or.inr ⟨by rfl, rfl⟩) (by assumption) ?_
                        try simp only [Act.put, List.setIfInBounds_toArray, List.set_cons_zero, List.set_cons_succ]
                        refine wpAnyH_take (i := 35) (oi := { dst := some 145, op := Op.call { callee := Callee.value (Operand.func 34), args := #[Operand.tmp 139, Operand.tmp 144], argTypes := #[63, 22] }, type := 4, pos := "law.go:80", after := #[{ on := 29, ground := Ground.data }, { on := 34, ground := Ground.data }, { on := 25, ground := Ground.chain }, { on := 25, ground := Ground.guard }], guard := some (25, false) }) (v := undef) rfl (by kernel_rfl) (by kernel_rfl) (by kernel_rfl) (fun _ _ _ h => h) (Or.inr ⟨by rfl, rfl⟩) (by assumption) ?_
                        try simp only [Act.put, List.setIfInBounds_toArray, List.set_cons_zero, List.set_cons_succ]
                        refine wpAnyH_take (i := 36) (oi := { dst := some 146, op := Op.pick (Operand.tmp 135) (Operand.const (Value.bool true)) (Operand.tmp 145), type := 4, pos := "law.go:80", after := #[{ on := 25, ground := Ground.data }, { on := 35, ground := Ground.data }, { on := 14, ground := Ground.guard }], guard := some (14, true) }) (v := ?_) rfl (by kernel_rfl) (by kernel_rfl) (by kernel_rfl) (fun _ _ _ h => h) (Or.inl ⟨by rfl, ?_⟩) (by assumption) ?_
                        rotate_left
                        · (intro w hSw; (try dsimp only at hSw); go_simp <;> with_reducible rfl)
                        try simp only [Act.put, List.setIfInBounds_toArray, List.set_cons_zero, List.set_cons_succ]
                        refine wpAnyH_take (i := 37) (oi := { dst := some 147, op := Op.pick (Operand.tmp 124) (Operand.tmp 146) (Operand.const (Value.bool false)), type := 4, pos := "law.go:80", after := #[{ on := 14, ground := Ground.data }, { on := 36, ground := Ground.data }], guard := none }) (v := ?_) rfl (by kernel_rfl) (by kernel_rfl) (by kernel_rfl) (fun _ _ _ h => h) (Or.inl ⟨by rfl, ?_⟩) (by assumption) ?_
                        rotate_left
                        · (intro w hSw; (try dsimp only at hSw); go_simp <;> with_reducible rfl)
                        try simp only [Act.put, List.setIfInBounds_toArray, List.set_cons_zero, List.set_cons_succ]
                        refine wpAnyH_done (by kernel_rfl) ?_ _
                        clear k1 k2 k3 k4 hB6
                        go_wp2
                        go_roundw
                        case rel => exact ⟨q + 1, by omega, by go_num, by rw [HST2.out]; simp, (hg6.alloc hw6 _).drew⟩
                        case measure => simp [intOf]; omega
                  · obtain rfl : q = m := by omega
                    have hdq : decide (q < q) = false := by simp
                    rw [← HS1.out]
                    generalize hcn : Spans.call D (q + 1) = cn at *
                    have HCN := Lib.hid hcn
                    clear hcn HS1
                    go_wp2
                    go_roundw
                    case rel => exact ⟨q + 1, by omega, by go_num, by rw [HCN.out], hg6⟩
                    case measure => simp [intOf]; omega
              · obtain rfl : m = k := by omega
                have hdm : decide (m < m) = false := by simp
                have hB5 : RowKit.Below w3.heap.size w3 wr := hg4.trans (hg5.mono hg4.size)
                have hra := RowS.kept HRA3.out hB5
                go_wp2_with fail
                refine (clash_any aa m ca D _ HDL.out hk12 hra HDS.out).mono ?_
                rintro e w6 ⟨d2, hp2, ha2, rfl, hb6⟩
                have hce := Spans.clash_eq d2 D hp2 ha2
                rw [HDL.out] at hce
                rw [hce]
                generalize Spans.call D m = cm at *
                have hfin : RowKit.Below w.heap.size w w6 := (hB3.trans (hB5.mono hB3.size)).trans (hb6.mono (by have := hB5.size; have := hB3.size; omega))
                clear hce hp2 ha2 hra
                go_wp2
                go_ret
                exact ⟨by simp, hfin⟩
end Go.Proofs.Ytibgcnggimlbcaa
