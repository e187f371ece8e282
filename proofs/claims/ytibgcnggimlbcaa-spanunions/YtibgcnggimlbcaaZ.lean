/- The contract of span.Gaps. Conditions: those written in each theorem. -/
import Derived.Test.YtibgcnggimlbcaaY
namespace Go.Proofs.Ytibgcnggimlbcaa
open Go.RowKit Go.Shelf Go.Sort
/-- What is left from done on, the spans in ascending order. -/
def gapsGo (size : Nat) : List (Nat × Nat) → Nat → List (Nat × Nat)
  | [], done => if done < size then [(done, size - done)] else []
  | s :: r, done => if size ≤ s.1 then (if done < size then [(done, size - done)] else []) else
      (if done < s.1 then [(done, s.1 - done)] else []) ++ gapsGo size r (max done (boundN s.1 s.2))
theorem owns_row {w : World} {B : Nat} {v : Value} {l : List (Nat × Nat)} (h : w.ownsRow B 52 2 v l.length (flat l)) : ∃ ao cap, v = .slice ao l.length cap ∧ RowS w ao l.length l := by
  by_cases h0 : l.length = 0
  · rcases h.2 with ⟨hv, _⟩ | ⟨g, cap, cur, hv, _⟩
    · exact ⟨none, 0, by rw [h0]; exact hv, fun k hk => by omega⟩
    · exact ⟨_, _, hv, fun k hk => by omega⟩
  · rcases h.2 with ⟨_, hv⟩ | ⟨g, cap, cur, hv, _⟩
    · exact absurd hv h0
    · subst hv
      obtain ⟨hH, hg, _⟩ := owns_holds rfl h
      refine ⟨_, _, rfl, fun k hk => ⟨g, 0, rfl, hg, ?_, ?_⟩⟩
      · have := (hH.cell (i := k) (c := 0) (by simpa using hk) (by omega)).1
        rw [getElem!_toArray l k hk] at this
        rw [List.getD_eq_getElem?_getD, List.getElem?_eq_getElem hk]
        exact this
      · have := (hH.cell (i := k) (c := 1) (by simpa using hk) (by omega)).1
        rw [getElem!_toArray l k hk] at this
        rw [List.getD_eq_getElem?_getD, List.getElem?_eq_getElem hk]
        exact this
def Small (l : List (Nat × Nat)) : Prop := ∀ s ∈ l, s.1 < 2 ^ 64 ∧ s.2 < 2 ^ 64
theorem small_of_perm {l d : List (Nat × Nat)} (h : Small l) (hp : d.Perm (full l)) : Small d := fun s hs => h s (List.mem_filter.1 (hp.mem_iff.1 hs)).1
def GapsPost (size : Nat) (w : World) (ds : List (Nat × Nat)) (e : Ending) (w' : World) : Prop :=
  ∃ ao cap d, d.Perm (full ds) ∧ Asc d ∧ e = .returned (.slice ao (gapsGo size d 0).length cap) ∧ RowS w' ao (gapsGo size d 0).length (gapsGo size d 0) ∧ Below w.heap.size w w'
theorem boundN_lt (x y : Nat) : boundN x y < 2 ^ 64 := by unfold boundN maxU; split <;> omega
theorem u64_sub' (a b : Nat) (h : b ≤ a) (h2 : a < 2 ^ 64) : IntKind.u64.wrap ((a : Int) - (b : Int)) = ((a - b : Nat) : Int) := by rw [IntKind.wrap_u64]; omega
theorem max_cast (a b : Nat) : max (a : Int) (b : Int) = ((max a b : Nat) : Int) := by omega
theorem drop_getD (d : List (Nat × Nat)) (k : Nat) (h : k < d.length) : d.drop k = d.getD k (0, 0) :: d.drop (k + 1) := by
  rw [List.drop_eq_getElem_cons h, List.getD_eq_getElem?_getD, List.getElem?_eq_getElem h]; rfl
theorem flat_one (acc : List (Nat × Nat)) (x y : Nat) : flat (acc ++ [(x, y)]) = flat acc ++ [.int .u64 ((x : Nat) : Int), .int .u64 ((y : Nat) : Int)] := by
  rw [flat_append]; rfl
theorem ownsRow_kept' {W W' : World} {base : Nat} {e : TypeId} {size : Nat} {v : Value} {n : Nat} {xs : List Value} (h : W.ownsRow base e size v n xs) (hb : Below W.heap.size W W') : W'.ownsRow base e size v n xs := by
  refine ⟨h.1, ?_⟩
  rcases h.2 with h' | ⟨g, cap, cur, hv, hB, hg, r⟩
  · exact .inl h'
  · refine .inr ⟨g, cap, cur, hv, hB, ?_, r⟩
    rw [hb.block g (Array.getElem?_eq_some_iff.1 hg).1]
    exact hg
theorem cellFar {w w' : World} {row : Option Nat} (hg : w.grownBy w' row) (a : Addr) (hlt : a.block < w.heap.size) (hne : some a.block ≠ row) : w'.cell? a = w.cell? a := World.cell?_of_block (hg.block a.block hlt hne)
theorem own_far {W : World} {base : Nat} {e : TypeId} {size : Nat} {v : Value} {n : Nat} {xs : List Value} (h : W.ownsRow base e size v n xs) : some W.heap.size ≠ v.ownBlock := by
  intro he
  have := (h.lt _ he.symm).2
  omega
set_option maxRecDepth 100000 in
set_option maxHeartbeats 2000000 in
theorem gaps_any (size : Nat) (a : Option Addr) (len cap : Nat) (ds : List (Nat × Nat)) (w : World) (hs : size < 2 ^ 64) (hl : ds.length = len) (h12 : len ≤ 12) (hrow : RowS w a len ds) (hsm : Small ds) :
    Calls Try.prog 32 #[.int .u64 (size : Int), .slice a len cap] w (GapsPost size w ds) := by
  obtain ⟨i0, hi, hz0, hz1, hz2⟩ := info_parts info52
  have hasc := ascending_any a len cap ds w hl h12 hrow
  have hfl : (full ds).length ≤ len := by rw [← hl]; exact List.length_filter_le _ _
  have HA := Lib.hid hasc
  have HS := Lib.hid hs
  have HSM := Lib.hid hsm
  clear hasc hrow hs hsm hl
  go_enter Try.func32, Try.ntmps32
  go_wp2_with fail
  refine HA.out.mono ?_
  rintro e w1 ⟨ao, cap1, d, rfl, hperm, hascd, hrd, hb1⟩
  have hdl : d.length ≤ 12 := by rw [hperm.length_eq]; omega
  have HD : Hid (Small d) := Lib.hid (small_of_perm HSM.out hperm)
  have HP := Lib.hid hperm
  have HAS := Lib.hid hascd
  have HR := Lib.hid hrd
  clear hperm hascd hrd HA
  have hws1 := hb1.size
  go_wp2
  go_loopw [5, 6, 8, 12] (fun v dn _ i wr => ∃ (k dn0 : Nat) (acc : List (Nat × Nat)), k ≤ d.length ∧ i = .int .i64 k ∧ dn = .int .u64 dn0 ∧ dn0 < 2 ^ 64 ∧ acc.length ≤ k ∧ acc ++ gapsGo size (d.drop k) dn0 = gapsGo size d 0 ∧ wr.ownsRow w1.heap.size 52 2 v acc.length (flat acc) ∧ Below w1.heap.size w1 wr) (fun _ _ _ i _ => d.length - (intOf i).toNat)
  case atStart => exact ⟨0, 0, [], by omega, rfl, rfl, by omega, by simp, by simp, World.ownsRow_nil _ _ _ _, Below.refl _ _⟩
  case round =>
    obtain ⟨k, dn, acc, hk, rfl, rfl, hdn, hal, hinv, hown, hg⟩ := hrel
    have HDN := Lib.hid hdn
    have HINV := Lib.hid hinv
    have hws := hg.size
    clear hdn hinv
    by_cases hlt : k < d.length
    · obtain ⟨b, off, rfl, hb, hc1, hc2⟩ := HR.out k hlt
      have hc1w := (hg.cell (p := ⟨b, off + k * 2, none⟩) hb).trans hc1
      have hc2w := (hg.cell (p := ⟨b, off + k * 2 + 1, none⟩) hb).trans hc2
      clear hc1 hc2
      have hdrop := drop_getD d k hlt
      have hmem : d.getD k (0, 0) ∈ d := by rw [List.getD_eq_getElem?_getD, List.getElem?_eq_getElem hlt]; exact List.getElem_mem _
      have hsmp := HD.out _ hmem
      generalize hp : d.getD k (0, 0) = p at *
      obtain ⟨x, y⟩ := p
      simp only at hc1w hc2w hsmp
      clear hmem hp
      have hi0 : (0 : Int) ≤ (k : Int) := by omega
      have hi1 : (k : Int) < (d.length : Int) := by omega
      have HX := Lib.hid hsmp
      have HDR := Lib.hid hdrop
      clear hsmp hdrop
      by_cases hx : size ≤ x
      · have hd1 : decide (size ≤ x) = true := by simpa using hx
        have hgW : Below w1.heap.size w1 (wr.alloc (.cells #[.int .u64 (x : Int), .int .u64 (y : Int)] 52)) := hg.alloc hws _
        have hwsW : w1.heap.size ≤ (wr.alloc (.cells #[.int .u64 (x : Int), .int .u64 (y : Int)] 52)).heap.size := by simp; omega
        have hownW := hown.alloc (.cells #[.int .u64 (x : Int), .int .u64 (y : Int)] 52)
        by_cases hds : dn < size
        · have hfin : gapsGo size d 0 = acc ++ [(dn, size - dn)] := by
            rw [← HINV.out, HDR.out]; simp [hds, gapsGo, hx]
          have hd3 : decide (dn < size) = true := by simpa using hds
          have hsub := u64_sub' size dn (by omega) HS.out
          have HFIN := Lib.hid hfin
          clear hfin
          generalize size - dn = rest at *
          go_wp2_with (at_builtin; refine wpList_append_own _ rfl _ _ 60 rfl w1.heap.size 52 i0 (.agg #[.int .u64 0, .int .u64 0]) 2 16 Try.underlying60 hi hz0 hz1 hz2 rfl (by decide) _ _ _ rfl (hownW.alloc _) ⟨wr.heap.size + 1, 0, none⟩ 1 1 [.int .u64 ((dn : Nat) : Int), .int .u64 ((rest : Nat) : Int)] rfl rfl ?c1 ?c2 ?c3 ?c4 ?c5 ?_)
          case c1 =>
            intro j u hj
            match j, hj with
            | 0, hj => simp at hj; subst hj; simp [Addr.add]
            | 1, hj => simp at hj; subst hj; simp [Addr.add]
          case c2 => intro u hu; simp at hu; rcases hu with rfl | rfl <;> rfl
          case c3 => unfold maxLen; omega
          case c4 => omega
          case c5 => simp; omega
          intro v' w2 hown' hgrow _
          have hbel2 : Below w1.heap.size w1 w2 := by
            have h2 : Below w1.heap.size w1 ((wr.alloc (.cells #[.int .u64 (x : Int), .int .u64 (y : Int)] 52)).alloc (.cells #[.int .u64 ((dn : Nat) : Int), .int .u64 ((rest : Nat) : Int)] 52)) := hgW.alloc hwsW _
            exact h2.grown hgrow (by simp; omega) (fun q hq => (hown.lt q hq).1)
          rw [← flat_one acc (dn) (rest)] at hown'
          have hown3 : w2.ownsRow w1.heap.size 52 2 v' (gapsGo size d 0).length (flat (gapsGo size d 0)) := by rw [HFIN.out, List.length_append]; exact hown'
          obtain ⟨ao2, cap2, hv, hrow2⟩ := owns_row hown3
          subst hv
          have HRW := Lib.hid hrow2
          clear hown' hown3 hgrow hown hrow2 hsub
          go_wp2
          go_ret
          exact ⟨ao2, cap2, d, HP.out, HAS.out, rfl, HRW.out, hb1.trans (hbel2.mono hws1)⟩
        · have hfin : gapsGo size d 0 = acc := by
            rw [← HINV.out, HDR.out]; simp [hds, gapsGo, hx]
          have hd3 : decide (dn < size) = false := by simpa using hds
          have HFIN := Lib.hid hfin
          clear hfin
          have hown3 : (wr.alloc (.cells #[.int .u64 (x : Int), .int .u64 (y : Int)] 52)).ownsRow w1.heap.size 52 2 u5 (gapsGo size d 0).length (flat (gapsGo size d 0)) := by rw [HFIN.out]; exact hownW
          obtain ⟨ao2, cap2, hv, hrow2⟩ := owns_row hown3
          subst hv
          have HRW := Lib.hid hrow2
          have HGW := Lib.hid (hb1.trans (hgW.mono hws1))
          clear hown3 hown hrow2 hgW hwsW
          go_wp2
          go_ret
          exact ⟨ao2, cap2, d, HP.out, HAS.out, rfl, HRW.out, HGW.out⟩
      · have hd1 : decide (size ≤ x) = false := by simpa using hx
        have hgW : Below w1.heap.size w1 (wr.alloc (.cells #[.int .u64 (x : Int), .int .u64 (y : Int)] 52)) := hg.alloc hws _
        have hwsW : w1.heap.size ≤ (wr.alloc (.cells #[.int .u64 (x : Int), .int .u64 (y : Int)] 52)).heap.size := by simp; omega
        have hownW := hown.alloc (.cells #[.int .u64 (x : Int), .int .u64 (y : Int)] 52)
        have hbnd := boundN_lt x y
        by_cases hdx : dn < x
        · have hd2 : decide (dn < x) = true := by simpa using hdx
          have hsub := u64_sub' x dn (by omega) HX.out.1
          have hst : (acc ++ [(dn, x - dn)]) ++ gapsGo size (d.drop (k + 1)) (max dn (boundN x y)) = gapsGo size d 0 := by
            rw [← HINV.out, HDR.out]; simp [gapsGo, hx, hdx]
          have HST := Lib.hid hst
          clear hst
          generalize hrr : x - dn = rest at *
          have HRR := Lib.hid hrr
          clear hrr
          go_wp2_with (at_builtin; refine wpList_append_own _ rfl _ _ 60 rfl w1.heap.size 52 i0 (.agg #[.int .u64 0, .int .u64 0]) 2 16 Try.underlying60 hi hz0 hz1 hz2 rfl (by decide) _ _ _ rfl (hownW.alloc _) ⟨wr.heap.size + 1, 0, none⟩ 1 1 [.int .u64 ((dn : Nat) : Int), .int .u64 ((rest : Nat) : Int)] rfl rfl ?c1 ?c2 ?c3 ?c4 ?c5 ?_)
          case c1 =>
            intro j u hj
            match j, hj with
            | 0, hj => simp at hj; subst hj; simp [Addr.add]
            | 1, hj => simp at hj; subst hj; simp [Addr.add]
          case c2 => intro u hu; simp at hu; rcases hu with rfl | rfl <;> rfl
          case c3 => unfold maxLen; omega
          case c4 => omega
          case c5 => simp; omega
          intro v' w2 hown' hgrow _
          have hbel2 : Below w1.heap.size w1 w2 := by
            have h2 : Below w1.heap.size w1 ((wr.alloc (.cells #[.int .u64 (x : Int), .int .u64 (y : Int)] 52)).alloc (.cells #[.int .u64 ((dn : Nat) : Int), .int .u64 ((rest : Nat) : Int)] 52)) := hgW.alloc hwsW _
            exact h2.grown hgrow (by simp; omega) (fun q hq => (hown.lt q hq).1)
          rw [← flat_one acc (dn) (rest)] at hown'
          have hcx : w2.cell? ⟨wr.heap.size, 0, none⟩ = some (.int .u64 (x : Int)) := by
            rw [cellFar hgrow _ (by simp; omega) (own_far hown), World.cell?_alloc_past _ _ _ (by simp)]; simp
          have hcy : w2.cell? ⟨wr.heap.size, 1, none⟩ = some (.int .u64 (y : Int)) := by
            rw [cellFar hgrow _ (by simp; omega) (own_far hown), World.cell?_alloc_past _ _ _ (by simp)]; simp
          have hws2 := hbel2.size
          clear hsub hgrow
          go_wp2_with fail
          refine (bound_any x y _ HX.out.1 HX.out.2).mono ?_
          rintro e w3 ⟨rfl, hb3⟩
          have hmx := max_cast dn (boundN x y)
          have hmlt : max dn (boundN x y) < 2 ^ 64 := by have := HDN.out; omega
          have hown3 : w3.ownsRow w1.heap.size 52 2 v' (acc ++ [(dn, rest)]).length (flat (acc ++ [(dn, rest)])) := by
            rw [List.length_append]; exact ownsRow_kept' hown' hb3
          have hg3 : Below w1.heap.size w1 w3 := hbel2.trans (hb3.mono hws2)
          generalize boundN x y = bn at *
          generalize hmm : max dn bn = mm at *
          have HML := Lib.hid hmlt
          have HO3 := Lib.hid hown3
          have HMM := Lib.hid hmm
          clear hmlt hown3 hown' hmm hcx hcy hbnd
          go_wp2
          go_roundw
          case rel => exact ⟨k + 1, mm, acc ++ [(dn, rest)], by omega, by go_num, rfl, HML.out, by simp; omega, HST.out, HO3.out, hg3⟩
          case measure => simp [intOf]; omega
        · have hd2 : decide (dn < x) = false := by simpa using hdx
          have hst : acc ++ gapsGo size (d.drop (k + 1)) (max dn (boundN x y)) = gapsGo size d 0 := by
            rw [← HINV.out, HDR.out]; simp [gapsGo, hx, hdx]
          have HST := Lib.hid hst
          clear hst
          go_wp2_with fail
          refine (bound_any x y _ HX.out.1 HX.out.2).mono ?_
          rintro e w3 ⟨rfl, hb3⟩
          have hmx := max_cast dn (boundN x y)
          have hmlt : max dn (boundN x y) < 2 ^ 64 := by have := HDN.out; omega
          have hown3 := ownsRow_kept' hownW hb3
          have hg3 : Below w1.heap.size w1 w3 := hgW.trans (hb3.mono hwsW)
          generalize boundN x y = bn at *
          generalize hmm : max dn bn = mm at *
          have HML := Lib.hid hmlt
          have HO3 := Lib.hid hown3
          have HMM := Lib.hid hmm
          clear hmlt hown3 hown hownW hmm hbnd
          go_wp2
          go_roundw
          case rel => exact ⟨k + 1, mm, acc, by omega, by go_num, rfl, HML.out, by omega, HST.out, HO3.out, hg3⟩
          case measure => simp [intOf]; omega
    · have hdrop : d.drop k = [] := List.drop_eq_nil_of_le (by omega)
      have HDR := Lib.hid hdrop
      clear hdrop
      have hgW : Below w1.heap.size w1 wr := hg
      have hwsW := hws
      by_cases hds : dn < size
      · have hfin : gapsGo size d 0 = acc ++ [(dn, size - dn)] := by
          rw [← HINV.out, HDR.out]; simp [hds, gapsGo]
        have hd3 : decide (dn < size) = true := by simpa using hds
        have hsub := u64_sub' size dn (by omega) HS.out
        have HFIN := Lib.hid hfin
        clear hfin
        generalize size - dn = rest at *
        go_wp2_with (at_builtin; refine wpList_append_own _ rfl _ _ 60 rfl w1.heap.size 52 i0 (.agg #[.int .u64 0, .int .u64 0]) 2 16 Try.underlying60 hi hz0 hz1 hz2 rfl (by decide) _ _ _ rfl (hown.alloc _) ⟨wr.heap.size, 0, none⟩ 1 1 [.int .u64 ((dn : Nat) : Int), .int .u64 ((rest : Nat) : Int)] rfl rfl ?c1 ?c2 ?c3 ?c4 ?c5 ?_)
        case c1 =>
          intro j u hj
          match j, hj with
          | 0, hj => simp at hj; subst hj; simp [Addr.add]
          | 1, hj => simp at hj; subst hj; simp [Addr.add]
        case c2 => intro u hu; simp at hu; rcases hu with rfl | rfl <;> rfl
        case c3 => unfold maxLen; omega
        case c4 => omega
        case c5 => simp; omega
        intro v' w2 hown' hgrow _
        have hbel2 : Below w1.heap.size w1 w2 := by
          have h2 : Below w1.heap.size w1 ((wr).alloc (.cells #[.int .u64 ((dn : Nat) : Int), .int .u64 ((rest : Nat) : Int)] 52)) := hgW.alloc hwsW _
          exact h2.grown hgrow (by simp; omega) (fun q hq => (hown.lt q hq).1)
        rw [← flat_one acc (dn) (rest)] at hown'
        have hown3 : w2.ownsRow w1.heap.size 52 2 v' (gapsGo size d 0).length (flat (gapsGo size d 0)) := by rw [HFIN.out, List.length_append]; exact hown'
        obtain ⟨ao2, cap2, hv, hrow2⟩ := owns_row hown3
        subst hv
        have HRW := Lib.hid hrow2
        clear hown' hown3 hgrow hown hrow2 hsub
        go_wp2
        go_ret
        exact ⟨ao2, cap2, d, HP.out, HAS.out, rfl, HRW.out, hb1.trans (hbel2.mono hws1)⟩
      · have hfin : gapsGo size d 0 = acc := by
          rw [← HINV.out, HDR.out]; simp [hds, gapsGo]
        have hd3 : decide (dn < size) = false := by simpa using hds
        have HFIN := Lib.hid hfin
        clear hfin
        have hown3 : (wr).ownsRow w1.heap.size 52 2 u5 (gapsGo size d 0).length (flat (gapsGo size d 0)) := by rw [HFIN.out]; exact hown
        obtain ⟨ao2, cap2, hv, hrow2⟩ := owns_row hown3
        subst hv
        have HRW := Lib.hid hrow2
        have HGW := Lib.hid (hb1.trans (hgW.mono hws1))
        clear hown3 hown hrow2 hgW hwsW
        go_wp2
        go_ret
        exact ⟨ao2, cap2, d, HP.out, HAS.out, rfl, HRW.out, HGW.out⟩
end Go.Proofs.Ytibgcnggimlbcaa
