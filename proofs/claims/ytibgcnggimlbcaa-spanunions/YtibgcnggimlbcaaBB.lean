/- Contracts of the reference's Has and Gaps. Conditions: those written in each theorem. -/
import Derived.Test.YtibgcnggimlbcaaBA
namespace Go.Proofs.Ytibgcnggimlbcaa
open Go.RowKit Go.Shelf Go.Sort
set_option maxHeartbeats 400000 in
theorem has_any (s : Nat × Nat) (b : Nat) (w : World) (hb : b < 2 ^ 64) :
    Calls Try.prog 34 #[.agg #[.int .u64 (s.1 : Int), .int .u64 (s.2 : Int)], .int .u64 (b : Int)] w fun e w' => e = .returned (.bool (Spans.hasB s b)) ∧ w' = w.alloc (.cells #[.int .u64 (s.1 : Int), .int .u64 (s.2 : Int)] 63) := by
  obtain ⟨x, y⟩ := s
  simp only
  by_cases h : x ≤ b
  · have hd : decide (x ≤ b) = true := by simpa using h
    have hsub := u64_sub' b x h hb
    have hr : Spans.hasB (x, y) b = decide (b - x < y) := by simp [Spans.hasB, h]
    rw [hr]
    generalize b - x = q at *
    clear hr hb
    go_enter Try.func34, Try.ntmps34
    go_wp2
    go_ret
    exact ⟨rfl, rfl⟩
  · have hd : decide (x ≤ b) = false := by simpa using h
    have hr : Spans.hasB (x, y) b = false := by simp [Spans.hasB, h]
    rw [hr]
    clear hr hb
    go_enter Try.func34, Try.ntmps34
    go_wp2
    go_ret
    exact ⟨rfl, rfl⟩
theorem info63 : (Try.prog.info? 63).map (fun i => (i.zero, i.size, i.bytes)) = some (some (.agg #[.int .u64 0, .int .u64 0]), 2, 16) := by kernel_rfl
/-- What the reference's Gaps hands back. -/
def RefPost (size : Nat) (w : World) (ds : List (Nat × Nat)) (e : Ending) (w' : World) : Prop :=
  ∃ ao cap, e = .returned (.slice ao (Spans.refG ds size).length cap) ∧ RowS w' ao (Spans.refG ds size).length (Spans.refG ds size) ∧ Below w.heap.size w w'
theorem refG_le (ds : List (Nat × Nat)) (n : Nat) : (Spans.refG ds n).length ≤ n := by
  induction n with
  | zero => simp [Spans.refG]
  | succ n ih =>
    unfold Spans.refG
    split
    · omega
    · unfold Spans.extend
      split
      · split
        · simp; omega
        · simp; omega
      · simp
theorem owns_holds' {e : TypeId} {w : World} {B g n cap : Nat} {l : List (Nat × Nat)} (hn : n = l.length) (h : w.ownsRow B e 2 (.slice (some ⟨g, 0, none⟩) n cap) n (flat l)) : HoldsK encS 2 w g 0 l.toArray ∧ g < w.heap.size ∧ B ≤ g := by
  subst hn
  rcases h.2 with ⟨h0, _⟩ | ⟨g', cap', cur, hv, hB, hg, _, _, hsz, htake⟩
  · simp at h0
  · simp only [Value.slice.injEq, Option.some.injEq, Addr.mk.injEq, and_true, true_and] at hv
    obtain ⟨rfl, rfl⟩ := hv
    refine ⟨?_, (Array.getElem?_eq_some_iff.1 hg).1, hB⟩
    intro t ht
    rw [size_flatK, List.size_toArray] at ht
    rw [get_flatK _ _ _ _ (by simpa using ht)]
    have hd : t / 2 < l.length := by omega
    have hget : cur[t]? = (flat l)[t]? := by
      rw [← htake, List.getElem?_take, if_pos (by omega)]
      simp
    have hfl := flat_get l (t / 2) (t % 2) hd (by omega)
    rw [show t / 2 * 2 + t % 2 = t by omega] at hfl
    constructor
    · simp only [World.cell?, hg, Nat.zero_add, Option.isSome_none, Bool.false_eq_true, if_false]
      rw [hget, hfl, getElem!_toArray l _ hd, getElem!_pos (encS l[t / 2]) (t % 2) (by simp [encS]; omega)]
      rfl
    · simp [World.frozen?, hg]
theorem owns_row' {e : TypeId} {w : World} {B : Nat} {v : Value} {l : List (Nat × Nat)} (h : w.ownsRow B e 2 v l.length (flat l)) : ∃ ao cap, v = .slice ao l.length cap ∧ RowS w ao l.length l := by
  by_cases h0 : l.length = 0
  · rcases h.2 with ⟨hv, _⟩ | ⟨g, cap, cur, hv, _⟩
    · exact ⟨none, 0, by rw [h0]; exact hv, fun k hk => by omega⟩
    · exact ⟨_, _, hv, fun k hk => by omega⟩
  · rcases h.2 with ⟨_, hv⟩ | ⟨g, cap, cur, hv, _⟩
    · exact absurd hv h0
    · subst hv
      obtain ⟨hH, hg, _⟩ := owns_holds' rfl h
      refine ⟨_, _, rfl, fun k hk => ⟨g, 0, rfl, hg, ?_, ?_⟩⟩
      · have := (hH.cell (i := k) (c := 0) (by simpa using hk) (by omega)).1
        rw [getElem!_toArray l k hk] at this
        rw [List.getD_eq_getElem?_getD, List.getElem?_eq_getElem hk]
        exact this
      · have := (hH.cell (i := k) (c := 1) (by simpa using hk) (by omega)).1
        rw [getElem!_toArray l k hk] at this
        rw [List.getD_eq_getElem?_getD, List.getElem?_eq_getElem hk]
        exact this
set_option maxRecDepth 100000 in
set_option maxHeartbeats 2000000 in
theorem refGaps_any (size : Nat) (a : Option Addr) (len cap : Nat) (ds : List (Nat × Nat)) (w : World) (hs : size ≤ 127) (hl : ds.length = len) (h12 : len ≤ 12) (hrow : RowS w a len ds) :
    Calls Try.prog 33 #[.int .u64 (size : Int), .slice a len cap] w (RefPost size w ds) := by
  obtain ⟨i0, hi, hz0, hz1, hz2⟩ := info_parts info63
  have HROW := Lib.hid hrow
  have HL := Lib.hid hl
  clear hrow hl
  go_enter Try.func33, Try.ntmps33
  go_wp2
  go_loopw [5, 6, 7, 8, 9] (fun v b _ _ _ wr => ∃ k : Nat, k ≤ size ∧ b = .int .u64 k ∧ wr.ownsRow w.heap.size 63 2 v (Spans.refG ds k).length (flat (Spans.refG ds k)) ∧ Below w.heap.size w wr) (fun _ b _ _ _ _ => size - (intOf b).toNat)
  case atStart => exact ⟨0, Nat.zero_le _, rfl, World.ownsRow_nil _ _ _ _, Below.refl _ _⟩
  case round =>
    obtain ⟨k, hk, rfl, hown, hg⟩ := hrel
    have hle := refG_le ds k
    have hspec := (Spans.refG_spec ds k).2.1
    have hws := hg.size
    by_cases hlt : k < size
    · have hd : decide (k < size) = true := by simpa using hlt
      have HO := Lib.hid hown
      clear hown
      generalize wr = wo at *
      go_wp2
      go_loopw [7, 8] (fun c i wi => ∃ j : Nat, j ≤ len ∧ i = .int .i64 j ∧ c = .bool (Spans.covK ds k j) ∧ Below wo.heap.size wo wi) (fun _ i _ => len - (intOf i).toNat)
      case atStart => exact ⟨0, Nat.zero_le _, rfl, rfl, Below.refl _ _⟩
      case round =>
        obtain ⟨j, hj, rfl, rfl, hgi⟩ := hrel
        by_cases hjl : j < len
        · obtain ⟨b, off, rfl, hb, hc1, hc2⟩ := HROW.out j hjl
          have hc1w := ((hg.trans (hgi.mono hws)).cell (p := ⟨b, off + j * 2, none⟩) hb).trans hc1
          have hc2w := ((hg.trans (hgi.mono hws)).cell (p := ⟨b, off + j * 2 + 1, none⟩) hb).trans hc2
          clear hc1 hc2
          have hstep : Spans.covK ds k (j + 1) = (Spans.covK ds k j || Spans.hasB (ds.getD j (0, 0)) k) := rfl
          generalize ds.getD j (0, 0) = p at *
          have hi0 : (0 : Int) ≤ (j : Int) := by omega
          have hi1 : (j : Int) < (len : Int) := by omega
          have hcon := fun W => has_any p k W (by omega)
          obtain ⟨x, y⟩ := p
          simp only at hc1w hc2w hcon
          generalize hbb : Spans.hasB (x, y) k = bb at *
          generalize hcc : Spans.covK ds k j = cc at *
          have HST := Lib.hid hstep
          have HC := Lib.hid hcon
          clear hstep hcon hbb hcc
          cases cc
          · go_wp2_with (go_at_call 34; refine (HC.out _).mono ?_; rintro e w' ⟨rfl, rfl⟩)
            go_roundw
            case rel => exact ⟨j + 1, by omega, by go_num, by rw [HST.out]; rfl, hgi.alloc hgi.size _⟩
            case measure => simp [intOf]; omega
          · go_wp2
            go_roundw
            case rel => exact ⟨j + 1, by omega, by go_num, by rw [HST.out]; rfl, hgi⟩
            case measure => simp [intOf]; omega
        · obtain rfl : j = len := by omega
          have hcv : Spans.covK ds k j = Spans.covK ds k ds.length := by rw [HL.out]
          rw [hcv]
          have hgw : Below w.heap.size w wr := hg.trans (hgi.mono hws)
          have howi := ownsRow_kept' HO.out hgi
          have hsr : Spans.refG ds (k + 1) = if Spans.covK ds k ds.length then Spans.refG ds k else Spans.extend (Spans.refG ds k) k := rfl
          clear hcv HROW
          have hwi := hgw.size
          cases hcb : Spans.covK ds k ds.length
          · rw [hcb] at hsr
            simp only [Bool.false_eq_true, if_false] at hsr
            generalize Spans.refG ds k = L at *
            generalize wr = wW at *
            rcases Spans.nil_or_snoc L with rfl | ⟨r, t, rfl⟩
            · have hsr2 : Spans.refG ds (k + 1) = [] ++ [(k, 1)] := by rw [hsr]; rfl
              have HSR := Lib.hid hsr2
              obtain ⟨ao, cap2, hv, _⟩ := owns_row' howi
              subst hv
              clear hsr hsr2 hcb HO hgi
              go_wp2_with fail
              go_quiet (fail)
              have howD := ownsRow_kept' howi (below_drewN (Below.refl _ _) nq)
              have hgD := below_drewN hgw nq
              generalize wW.drewN nq = wD at *
              have hwD := hgD.size
              go_wp2_with (at_builtin; refine wpList_append_own _ rfl _ _ 61 rfl w.heap.size 63 i0 (.agg #[.int .u64 0, .int .u64 0]) 2 16 Try.underlying61 hi hz0 hz1 hz2 rfl (by decide) _ _ _ rfl (howD.alloc _) ⟨wD.heap.size, 0, none⟩ 1 1 [.int .u64 ((k : Nat) : Int), .int .u64 1] rfl rfl ?c1 ?c2 ?c3 ?c4 ?c5 ?_)
              case c1 =>
                intro j u hj
                match j, hj with
                | 0, hj => simp at hj; subst hj; simp [Addr.add]
                | 1, hj => simp at hj; subst hj; simp [Addr.add]
              case c2 => intro u hu; simp at hu; rcases hu with rfl | rfl <;> rfl
              case c3 => unfold maxLen; first | omega | (simp; done) | (simp at hle ⊢; omega)
              case c4 => first | omega | (simp; done) | (simp at hle ⊢; omega)
              case c5 => simp; omega
              intro v' w2 hown' hgrow _
              have hown3 : w2.ownsRow w.heap.size 63 2 v' (Spans.refG ds (k + 1)).length (flat (Spans.refG ds (k + 1))) := by
                rw [HSR.out, flat_append]; exact hown'
              have hbel2 : Below w.heap.size w w2 := by
                have h2 : Below w.heap.size w (wD.alloc (.cells #[.int .u64 ((k : Nat) : Int), .int .u64 1] 63)) := hgD.alloc hwD _
                exact h2.grown hgrow (by simp; omega) (fun q hq => (howD.lt q hq).1)
              have HO3 := Lib.hid hown3
              clear hown' hown3 hgrow howD howi
              go_wp2
              go_roundw
              case rel => exact ⟨k + 1, by omega, by go_num, HO3.out, hbel2⟩
              case measure => simp [intOf]; omega
            · have htk := hspec t (by simp)
              have hln : (r ++ [t]).length = r.length + 1 := by simp
              obtain ⟨g, cap2, hv⟩ : ∃ g cap2, u5 = Value.slice (some ⟨g, 0, none⟩) (r.length + 1) cap2 := by
                rcases howi.2 with ⟨_, hv⟩ | ⟨g, cap, cur, hv, _⟩
                · simp at hv
                · exact ⟨g, cap, by rw [← hln]; exact hv⟩
              subst hv
              rw [hln] at howi hle
              have c0 : wW.cell? ⟨g, r.length * 2, none⟩ = some (.int .u64 (t.1 : Int)) := by
                rw [howi.cellAt _ (by omega), flat_append, List.getElem?_append_right (by rw [flat_length]; omega), flat_length]
                simp [show r.length * 2 - 2 * r.length = 0 by omega, flat, encS]
              have c1 : wW.cell? ⟨g, r.length * 2 + 1, none⟩ = some (.int .u64 (t.2 : Int)) := by
                rw [howi.cellAt _ (by omega), flat_append, List.getElem?_append_right (by rw [flat_length]; omega), flat_length]
                simp [show r.length * 2 + 1 - 2 * r.length = 1 by omega, flat, encS]
              have cf := howi.frozenAt (r.length * 2 + 1)
              have hgB := (howi.lt g rfl).1
              have hst := howi.stored (r.length * 2 + 1) (.int .u64 ((t.2 : Int) + 1))
              have hset : (flat (r ++ [t])).set (r.length * 2 + 1) (.int .u64 ((t.2 : Int) + 1)) = flat (r ++ [(t.1, t.2 + 1)]) := by
                rw [flat_append, flat_append, List.set_append_right _ _ (by rw [flat_length]; omega), flat_length, show r.length * 2 + 1 - 2 * r.length = 1 by omega]
                simp [flat, encS]
              rw [hset] at hst
              obtain ⟨x, y⟩ := t
              simp only at htk c0 c1 hst
              generalize hN : r.length = N at *
              have hwa : IntKind.u64.wrap ((x : Int) + (y : Int)) = (x : Int) + (y : Int) := by rw [IntKind.wrap_u64]; omega
              have hwb : IntKind.u64.wrap ((y : Int) + 1) = (y : Int) + 1 := by rw [IntKind.wrap_u64]; omega
              have hp1 : decide ((0 : Int) < (N : Int) + 1) = true := decide_eq_true (by omega)
              have hp2 : (0 : Int) ≤ (N : Int) := by omega
              have hp3 : (N : Int) < (N : Int) + 1 := by omega
              have HST := Lib.hid hst
              clear hst hset hcb HO hgi hln
              by_cases heq : x + y = k
              · have hsr2 : Spans.refG ds (k + 1) = r ++ [(x, y + 1)] := by
                  rw [hsr]; simp [Spans.extend, heq]
                have HSR := Lib.hid hsr2
                have hq : (((x : Int) + (y : Int)) == (k : Int)) = true := by rw [beq_iff_eq]; omega
                have HEQ := Lib.hid heq
                clear hsr hsr2 heq
                go_wp2_with fail
                go_quiet (fail)
                have d1 : (wW.drewN nq).cell? ⟨g, N * 2 + 1, none⟩ = some (.int .u64 (y : Int)) := c1
                have d2 : (wW.drewN nq).frozen? ⟨g, N * 2 + 1, none⟩ = false := cf
                have hown3 : ((wW.drewN nq).setCell ⟨g, N * 2 + 1, none⟩ (.int .u64 ((y : Int) + 1))).ownsRow w.heap.size 63 2 (.slice (some ⟨g, 0, none⟩) (N + 1) cap2) (Spans.refG ds (k + 1)).length (flat (Spans.refG ds (k + 1))) := by
                  rw [HSR.out, List.length_append, hN]
                  have := HST.out.1
                  exact this
                have hbel2 : Below w.heap.size w ((wW.drewN nq).setCell ⟨g, N * 2 + 1, none⟩ (.int .u64 ((y : Int) + 1))) := (below_drewN hgw nq).setCell (by exact hgB) _
                generalize wW.drewN nq = wD at *
                have HO3 := Lib.hid hown3
                have HB3 := Lib.hid hbel2
                clear hown3 hbel2 c0 c1 cf howi hwa hq
                go_wp2
                go_roundw
                case rel => exact ⟨k + 1, by omega, by go_num, HO3.out, HB3.out⟩
                case measure => simp [intOf]; omega
              · have hsr2 : Spans.refG ds (k + 1) = (r ++ [(x, y)]) ++ [(k, 1)] := by
                  rw [hsr]; simp [Spans.extend, heq]
                have HSR := Lib.hid hsr2
                have hq : (((x : Int) + (y : Int)) == (k : Int)) = false := by rw [beq_eq_false_iff_ne]; omega
                have hNN : (r ++ [(x, y)]).length = N + 1 := by simp [hN]
                clear hsr hsr2
                go_wp2_with fail
                go_quiet (fail)
                clear hwa hwb hq c0 c1 cf
                have howD := ownsRow_kept' howi (below_drewN (Below.refl _ _) nq)
                have hgD := below_drewN hgw nq
                generalize wW.drewN nq = wD at *
                have hwD := hgD.size
                go_wp2_with (at_builtin; refine wpList_append_own _ rfl _ _ 61 rfl w.heap.size 63 i0 (.agg #[.int .u64 0, .int .u64 0]) 2 16 Try.underlying61 hi hz0 hz1 hz2 rfl (by decide) _ _ _ rfl (howD.alloc _) ⟨wD.heap.size, 0, none⟩ 1 1 [.int .u64 ((k : Nat) : Int), .int .u64 1] rfl rfl ?c1 ?c2 ?c3 ?c4 ?c5 ?_)
                case c1 =>
                  intro j u hj
                  match j, hj with
                  | 0, hj => simp at hj; subst hj; simp [Addr.add]
                  | 1, hj => simp at hj; subst hj; simp [Addr.add]
                case c2 => intro u hu; simp at hu; rcases hu with rfl | rfl <;> rfl
                case c3 => unfold maxLen; first | omega | (simp; done) | (simp at hle ⊢; omega)
                case c4 => first | omega | (simp; done) | (simp at hle ⊢; omega)
                case c5 => simp; omega
                intro v' w2 hown' hgrow _
                have hown3 : w2.ownsRow w.heap.size 63 2 v' (Spans.refG ds (k + 1)).length (flat (Spans.refG ds (k + 1))) := by
                  rw [HSR.out, flat_append, List.length_append, hNN]; exact hown'
                have hbel2 : Below w.heap.size w w2 := by
                  have h2 : Below w.heap.size w (wD.alloc (.cells #[.int .u64 ((k : Nat) : Int), .int .u64 1] 63)) := hgD.alloc hwD _
                  exact h2.grown hgrow (by simp; omega) (fun q hq => (howD.lt q hq).1)
                have HO3 := Lib.hid hown3
                clear hown' hown3 hgrow howD howi
                go_wp2
                go_roundw
                case rel => exact ⟨k + 1, by omega, by go_num, HO3.out, hbel2⟩
                case measure => simp [intOf]; omega
          · rw [hcb] at hsr
            simp only [if_true] at hsr
            rw [← hsr] at howi
            have HO3 := Lib.hid howi
            clear howi hsr hcb HO hgi
            go_wp2
            go_roundw
            case rel => exact ⟨k + 1, by omega, by go_num, HO3.out, hgw⟩
            case measure => simp [intOf]; omega
    · obtain rfl : k = size := by omega
      have hd : decide (k < k) = false := by simp
      obtain ⟨ao2, cap2, hv, hrow2⟩ := owns_row' hown
      subst hv
      have HRW := Lib.hid hrow2
      clear hown hrow2
      go_wp2
      go_ret
      exact ⟨ao2, cap2, rfl, HRW.out, hg⟩
end Go.Proofs.Ytibgcnggimlbcaa
