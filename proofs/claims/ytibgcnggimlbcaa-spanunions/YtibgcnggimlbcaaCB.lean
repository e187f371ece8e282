/- The contract of span.Union at spans that have an end. Conditions: those written in each theorem. -/
import Derived.Test.YtibgcnggimlbcaaBA
import Derived.Test.YtibgcnggimlbcaaCA
namespace Go.Proofs.Ytibgcnggimlbcaa
open Go.RowKit Go.Shelf Go.Sort
namespace Spans
theorem u_new {acc dk : List Sp} {s : Sp} (hc : Canon 0 acc) (hl : ∀ t ∈ acc, t.1 + t.2 < s.1) (hp : 0 < s.2) (he : ∀ b, cov acc b ↔ cov dk b) :
    Canon 0 (acc ++ [s]) ∧ ∀ b, cov (acc ++ [s]) b ↔ cov (dk ++ [s]) b :=
  ⟨canon_snoc hc hl (Nat.zero_le _) hp, fun b => by rw [cov_append, cov_append, he b]⟩
theorem u_merge {r dk : List Sp} {t s : Sp} (hc : Canon 0 (r ++ [t])) (h1 : t.1 ≤ s.1) (h2 : s.1 ≤ t.1 + t.2) (he : ∀ b, cov (r ++ [t]) b ↔ cov dk b) :
    Canon 0 (r ++ [(t.1, max (t.1 + t.2) (s.1 + s.2) - t.1)]) ∧ ∀ b, cov (r ++ [(t.1, max (t.1 + t.2) (s.1 + s.2) - t.1)]) b ↔ cov (dk ++ [s]) b := by
  obtain ⟨c1, c2, c3, c4⟩ := canon_snoc_inv hc
  refine ⟨canon_snoc c1 c2 c3 (by show 0 < max (t.1 + t.2) (s.1 + s.2) - t.1; omega), fun b => ?_⟩
  rw [cov_append, cov_append, ← he b, cov_append, cov_one, cov_one, cov_one]
  unfold has
  simp only
  have hx : (t.1 ≤ b ∧ b < t.1 + (max (t.1 + t.2) (s.1 + s.2) - t.1)) ↔ ((t.1 ≤ b ∧ b < t.1 + t.2) ∨ (s.1 ≤ b ∧ b < s.1 + s.2)) := by omega
  rw [hx]
  constructor
  · rintro (h | h | h)
    · exact .inl (.inl h)
    · exact .inl (.inr h)
    · exact .inr h
  · rintro ((h | h) | h)
    · exact .inl h
    · exact .inr (.inl h)
    · exact .inr (.inr h)
/-- What the loop of Union keeps. -/
def UInv (d : List Sp) (k : Nat) (acc : List Sp) (last : Nat) : Prop :=
  Canon 0 acc ∧ (∀ b, cov acc b ↔ cov (d.take k) b) ∧ ((acc = [] ∧ last = 0) ∨ ∃ r t, acc = r ++ [t] ∧ last = t.1 + t.2 ∧ ∀ j, k ≤ j → j < d.length → t.1 ≤ (d.getD j (0, 0)).1) ∧ acc.length ≤ k ∧ (∀ t ∈ acc, t.1 + t.2 < 2 ^ 33)
theorem UInv.start (d : List Sp) : UInv d 0 [] 0 := ⟨trivial, fun b => by simp [cov], .inl ⟨rfl, rfl⟩, Nat.le_refl _, by simp⟩
theorem take_succ_getD (d : List Sp) (k : Nat) (h : k < d.length) : d.take (k + 1) = d.take k ++ [d.getD k (0, 0)] := by
  rw [List.take_succ_eq_append_getElem h, List.getD_eq_getElem?_getD, List.getElem?_eq_getElem h]; rfl
theorem UInv.new {d : List Sp} {k last x y : Nat} {acc : List Sp} (h : UInv d k acc last) (hk : k < d.length) (hg : d.getD k (0, 0) = (x, y)) (ha : Asc d) (hx : x < 2 ^ 32) (hy : y < 2 ^ 32) (hp : 0 < y) (hn : acc = [] ∨ last < x) : UInv d (k + 1) (acc ++ [(x, y)]) (x + y) := by
  obtain ⟨h1, h2, h3, h4, h5⟩ := h
  have hl : ∀ t ∈ acc, t.1 + t.2 < x := by
    intro t ht
    rcases h3 with ⟨rfl, _⟩ | ⟨r, t', rfl, hlast, _⟩
    · simp at ht
    · rcases hn with hn | hn
      · simp at hn
      · rcases List.mem_append.1 ht with ht | ht
        · have := (canon_snoc_inv h1).2.1 t ht; omega
        · simp at ht; subst ht; omega
  obtain ⟨a1, a2⟩ := u_new (s := (x, y)) h1 hl hp h2
  refine ⟨a1, ?_, .inr ⟨acc, (x, y), rfl, rfl, ?_⟩, by simp; omega, ?_⟩
  · rw [take_succ_getD d k hk, hg]; exact a2
  · intro j hj hjd
    have e1 : d.getD k (0, 0) = d[k] := by rw [List.getD_eq_getElem?_getD, List.getElem?_eq_getElem hk]; rfl
    have e2 : d.getD j (0, 0) = d[j] := by rw [List.getD_eq_getElem?_getD, List.getElem?_eq_getElem hjd]; rfl
    have := ha k j hk hjd (by omega)
    rw [← e1, ← e2, hg] at this
    exact this
  · intro t ht
    rcases List.mem_append.1 ht with ht | ht
    · exact h5 t ht
    · simp at ht; subst ht; show x + y < 2 ^ 33; omega
theorem UInv.merge {d : List Sp} {k last x y : Nat} {r : List Sp} {t : Sp} (h : UInv d k (r ++ [t]) last) (hk : k < d.length) (hg : d.getD k (0, 0) = (x, y)) (hx : x < 2 ^ 32) (hy : y < 2 ^ 32) (hn : ¬ last < x) :
    last = t.1 + t.2 ∧ t.1 ≤ max last (x + y) ∧ max last (x + y) < 2 ^ 33 ∧ UInv d (k + 1) (r ++ [(t.1, max last (x + y) - t.1)]) (max last (x + y)) := by
  obtain ⟨h1, h2, h3, h4, h5⟩ := h
  obtain ⟨r', t', he, hlast, hj⟩ : ∃ r' t', r ++ [t] = r' ++ [t'] ∧ last = t'.1 + t'.2 ∧ ∀ j, k ≤ j → j < d.length → t'.1 ≤ (d.getD j (0, 0)).1 := by
    rcases h3 with ⟨h, _⟩ | h
    · simp at h
    · exact h
  obtain ⟨rfl, ht⟩ := List.append_inj' he rfl
  simp at ht
  subst ht
  subst hlast
  have ht1 := hj k (Nat.le_refl _) hk
  rw [hg] at ht1
  simp only at ht1
  obtain ⟨a1, a2⟩ := u_merge (s := (x, y)) h1 ht1 (by show x ≤ _; omega) h2
  have h33 := h5 t (by simp)
  refine ⟨rfl, by omega, by omega, a1, ?_, .inr ⟨r, _, rfl, ?_, ?_⟩, ?_, ?_⟩
  · rw [take_succ_getD d k hk, hg]; exact a2
  · show max (t.1 + t.2) (x + y) = t.1 + (max (t.1 + t.2) (x + y) - t.1); omega
  · intro j hj' hjd; exact hj j (by omega) hjd
  · simp at h4 ⊢; omega
  · intro u hu
    rcases List.mem_append.1 hu with hu | hu
    · exact h5 u (by simp [hu])
    · simp at hu; subst hu; show t.1 + (max (t.1 + t.2) (x + y) - t.1) < 2 ^ 33; omega
end Spans
theorem flat_set (r : List (Nat × Nat)) (x y z : Nat) : (flat (r ++ [(x, y)])).set (r.length * 2 + 1) (.int .u64 (z : Int)) = flat (r ++ [(x, z)]) := by
  rw [flat_one, flat_one, List.set_append_right _ _ (by rw [flat_length]; omega), flat_length, show r.length * 2 + 1 - 2 * r.length = 1 by omega]
  rfl
def SmallU (l : List (Nat × Nat)) : Prop := ∀ s ∈ l, s.1 < 2 ^ 32 ∧ s.2 < 2 ^ 32
def UnionPost (w : World) (ds : List (Nat × Nat)) (e : Ending) (w' : World) : Prop :=
  ∃ ao cap u, Spans.Canon 0 u ∧ (∀ b, Spans.cov u b ↔ Spans.cov ds b) ∧ (∀ t ∈ u, t.1 + t.2 < 2 ^ 33) ∧ u.length ≤ 12 ∧ e = .returned (.slice ao u.length cap) ∧ RowS w' ao u.length u ∧ Below w.heap.size w w'
set_option maxRecDepth 100000 in
set_option maxHeartbeats 2000000 in
theorem union_any (a : Option Addr) (len cap : Nat) (ds : List (Nat × Nat)) (w : World) (hl : ds.length = len) (h12 : len ≤ 12) (hrow : RowS w a len ds) (hsm : SmallU ds) :
    Calls Try.prog 36 #[.slice a len cap] w (UnionPost w ds) := by
  obtain ⟨i0, hi, hz0, hz1, hz2⟩ := info_parts info52
  have hasc := ascending_any a len cap ds w hl h12 hrow
  have hfl : (full ds).length ≤ len := by rw [← hl]; exact List.length_filter_le _ _
  have HA := Lib.hid hasc
  have HSM := Lib.hid hsm
  clear hasc hrow hsm hl
  go_enter Try.func36, Try.ntmps36
  go_wp2_with fail
  refine HA.out.mono ?_
  rintro e w1 ⟨ao, cap1, d, rfl, hperm, hascd, hrd, hb1⟩
  have hdl : d.length ≤ 12 := by rw [hperm.length_eq]; omega
  have HP := Lib.hid hperm
  have HAS := Lib.hid hascd
  have HR := Lib.hid hrd
  clear hperm hascd hrd HA
  have hws1 := hb1.size
  go_wp2
  go_loopw [3, 4, 13] (fun v la i wr => ∃ (k la0 : Nat) (acc : List (Nat × Nat)), k ≤ d.length ∧ i = .int .i64 k ∧ la = .int .u64 la0 ∧ Spans.UInv d k acc la0 ∧ wr.ownsRow w1.heap.size 52 2 v acc.length (flat acc) ∧ Below w1.heap.size w1 wr) (fun _ _ i _ => d.length - (intOf i).toNat)
  case atStart => exact ⟨0, 0, [], by omega, rfl, rfl, Spans.UInv.start d, World.ownsRow_nil _ _ _ _, Below.refl _ _⟩
  case round =>
    obtain ⟨k, la, acc, hk, rfl, rfl, hinv, hown, hg⟩ := hrel
    have HINV := Lib.hid hinv
    have hal := hinv.2.2.2.1
    have hws := hg.size
    clear hinv
    by_cases hlt : k < d.length
    · obtain ⟨b, off, rfl, hb, hc1, hc2⟩ := HR.out k hlt
      have hc1w := (hg.cell (p := ⟨b, off + k * 2, none⟩) hb).trans hc1
      have hc2w := (hg.cell (p := ⟨b, off + k * 2 + 1, none⟩) hb).trans hc2
      clear hc1 hc2
      have hmem : d.getD k (0, 0) ∈ d := by rw [List.getD_eq_getElem?_getD, List.getElem?_eq_getElem hlt]; exact List.getElem_mem _
      have hmem2 := List.mem_filter.1 (HP.out.mem_iff.1 hmem)
      have hsmp := HSM.out _ hmem2.1
      have hpos : 0 < (d.getD k (0, 0)).2 := by simpa using hmem2.2
      generalize hp : d.getD k (0, 0) = p at *
      obtain ⟨x, y⟩ := p
      simp only at hc1w hc2w hsmp hpos
      clear hmem hmem2
      have hi0 : (0 : Int) ≤ (k : Int) := by omega
      have hi1 : (k : Int) < (d.length : Int) := by omega
      have HPQ := Lib.hid hp
      have HX := Lib.hid hsmp
      have HPO := Lib.hid hpos
      clear hp hsmp hpos
      have hgW : Below w1.heap.size w1 (wr.alloc (.cells #[.int .u64 (x : Int), .int .u64 (y : Int)] 52)) := hg.alloc hws _
      have hwsW : w1.heap.size ≤ (wr.alloc (.cells #[.int .u64 (x : Int), .int .u64 (y : Int)] 52)).heap.size := by simp; omega
      have hownW := hown.alloc (.cells #[.int .u64 (x : Int), .int .u64 (y : Int)] 52)
      go_wp2_with fail
      refine (end_small x y _ HX.out.1 HX.out.2).mono ?_
      rintro e w3 ⟨rfl, hb3⟩
      have hown3 := ownsRow_kept' hownW hb3
      have hg3 : Below w1.heap.size w1 w3 := hgW.trans (hb3.mono hwsW)
      have hcx : w3.cell? ⟨wr.heap.size, 0, none⟩ = some (.int .u64 (x : Int)) := by
        rw [(bcell hb3).1 _ _ (by simp)]; exact (fresh2 _ _ rfl _ _ _).1
      have hcy : w3.cell? ⟨wr.heap.size, 1, none⟩ = some (.int .u64 (y : Int)) := by
        rw [(bcell hb3).1 _ _ (by simp)]; exact (fresh2 _ _ rfl _ _ _).2.1
      have hws3 := hg3.size
      have hnew : wr.heap.size < w3.heap.size := by have := hb3.size; simp at this; omega
      obtain ⟨ao2, cap2, hv, hrow2⟩ := owns_row hown3
      subst hv
      generalize hxy : x + y = ex at *
      have HXY := Lib.hid hxy
      clear hxy hownW hgW hwsW hb3 hown
      by_cases hn : acc = [] ∨ la < x
      · have hcond : ((acc.length : Int) == 0) = true ∨ (((acc.length : Int) == 0) = false ∧ decide (la < x) = true) := by
          by_cases h0 : acc.length = 0
          · left; simp [h0]
          · right
            refine ⟨by simp; intro h; exact h0 (by simp [h]), ?_⟩
            rcases hn with hn | hn
            · exact absurd (by simp [hn]) h0
            · simpa using hn
        rcases hcond with h0 | ⟨h0, h1⟩
        all_goals
          go_wp2_with (at_builtin; refine wpList_append_own _ rfl _ _ 60 rfl w1.heap.size 52 i0 (.agg #[.int .u64 0, .int .u64 0]) 2 16 Try.underlying60 hi hz0 hz1 hz2 rfl (by decide) _ _ _ rfl (hown3.alloc _) ⟨w3.heap.size, 0, none⟩ 1 1 [.int .u64 (x : Int), .int .u64 (y : Int)] rfl rfl ?c1 ?c2 ?c3 ?c4 ?c5 ?_)
          case c1 =>
            intro j u hj
            match j, hj with
            | 0, hj => simp at hj; subst hj; simp [Addr.add]
            | 1, hj => simp at hj; subst hj; simp [Addr.add]
          case c2 => intro u hu; simp at hu; rcases hu with rfl | rfl <;> rfl
          case c3 => unfold maxLen; omega
          case c4 => omega
          case c5 => simp; omega
          intro v' w4 hown' hgrow _
          have hbel : Below w1.heap.size w1 w4 := (hg3.alloc hws3 _).grown hgrow (by simp; omega) (fun q hq => (hown3.lt q hq).1)
          rw [← flat_one acc x y] at hown'
          have hst := HINV.out.new hlt HPQ.out HAS.out HX.out.1 HX.out.2 HPO.out hn
          rw [HXY.out] at hst
          have hown4 : w4.ownsRow w1.heap.size 52 2 v' (acc ++ [(x, y)]).length (flat (acc ++ [(x, y)])) := by rw [List.length_append]; exact hown'
          have HST := Lib.hid hst
          have HO4 := Lib.hid hown4
          clear hst hown4 hown' hgrow hrow2
          go_wp2
          go_roundw
          case rel => exact ⟨k + 1, ex, acc ++ [(x, y)], by omega, by go_num, rfl, HST.out, HO4.out, hbel⟩
          case measure => simp [intOf]; omega
      · have hne : acc ≠ [] := fun h => hn (.inl h)
        have hnl : ¬ la < x := fun h => hn (.inr h)
        rcases Spans.nil_or_snoc acc with h | ⟨r, t, hacc⟩
        · exact absurd h hne
        have hlen : acc.length = r.length + 1 := by rw [hacc]; simp
        have hm := HINV.out
        rw [hacc] at hm
        obtain ⟨m1, m2, m3, m4⟩ := hm.merge hlt HPQ.out HX.out.1 HX.out.2 hnl
        rw [HXY.out] at m2 m3 m4
        have hf3 := hown3.2
        rw [hlen] at hf3 hown3 hrow2
        obtain ⟨g, rfl⟩ : ∃ g, ao2 = some ⟨g, 0, none⟩ := by
          rcases hf3 with ⟨_, h⟩ | ⟨g, c, cur, h, _⟩
          · omega
          · simp at h; exact ⟨g, h.1⟩
        obtain ⟨b', o', he, hb', hq1, hq2⟩ := hrow2 r.length (by omega)
        simp only [Option.some.injEq, Addr.mk.injEq, and_true] at he
        obtain ⟨rfl, rfl⟩ := he
        have hgt : acc.getD r.length (0, 0) = t := by rw [hacc]; simp
        rw [hgt] at hq1 hq2
        have hfr := hown3.frozenAt (r.length * 2 + 1)
        obtain ⟨hst1, hst2⟩ := hown3.stored (r.length * 2 + 1) (.int .u64 ((max la ex - t.1 : Nat) : Int))
        have hmx := max_cast la ex
        have hsb := u64_sub' (max la ex) t.1 m2 (by omega)
        have hd0 : ((((r.length + 1 : Nat) : Int)) == 0) = false := by simp; omega
        have hd1 : decide (la < x) = false := by simpa using hnl
        rw [hlen]
        rw [Nat.zero_add] at hq1 hq2
        obtain ⟨tx, ty⟩ := t
        simp only at hq1 hq2 m2 m4 hst1 hst2 hsb
        generalize hmm : max la ex = mm at *
        generalize hLL : mm - tx = L at *
        have hr12 : r.length ≤ 12 := by omega
        have hnew4 : (r ++ [(tx, L)]).length = r.length + 1 := by simp
        have hflat : (flat acc).set (r.length * 2 + 1) (.int .u64 (L : Int)) = flat (r ++ [(tx, L)]) := by
          rw [hacc]; exact flat_set r tx ty L
        rw [hflat] at hst1
        have hgg : w1.heap.size ≤ g := (hown3.lt g rfl).1
        have hbel : Below w1.heap.size w1 (w3.setCell ⟨g, r.length * 2 + 1, none⟩ (.int .u64 (L : Int))) := hg3.setCell hgg _
        have HST := Lib.hid m4
        have HO4 := Lib.hid hst1
        have HL1 := Lib.hid hnew4
        clear hst1 hst2 m4 hflat hown3 hrow2 hf3 hmm hLL hnew4 hgt hm m1 hacc hn hne
        have hi2 : IntKind.i64.wrap (((r.length + 1 : Nat) : Int) - 1) = (r.length : Int) := by rw [IntKind.wrap_i64]; omega
        have hi3 : (0 : Int) ≤ (r.length : Int) := by omega
        have hi4 : (r.length : Int) < ((r.length + 1 : Nat) : Int) := by omega
        generalize r.length = n at *
        go_wp2
        go_roundw
        case rel => exact ⟨k + 1, mm, r ++ [(tx, L)], by omega, by go_num, rfl, HST.out, by rw [HL1.out]; exact HO4.out, hbel⟩
        case measure => simp [intOf]; omega
    · obtain ⟨u1, u2, u3', u4', u5'⟩ := HINV.out
      have hkd : k = d.length := by omega
      rw [hkd, List.take_length] at u2
      obtain ⟨ao2, cap2, hv, hrow2⟩ := owns_row hown
      subst hv
      have hcv : ∀ b, Spans.cov acc b ↔ Spans.cov ds b := fun b => (u2 b).trans (Spans.cov_perm HP.out b)
      have hfin : Below w.heap.size w wr := hb1.trans (hg.mono hws1)
      have HRW := Lib.hid hrow2
      have HU1 := Lib.hid u1
      have HU5 := Lib.hid u5'
      have HCV := Lib.hid hcv
      clear hrow2 u1 u2 u3' u5' hcv hown
      go_wp2
      go_ret
      exact ⟨ao2, cap2, acc, HU1.out, HCV.out, HU5.out, by omega, rfl, HRW.out, hfin⟩
end Go.Proofs.Ytibgcnggimlbcaa
