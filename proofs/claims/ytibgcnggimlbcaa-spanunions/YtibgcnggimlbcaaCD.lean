/- The walk of the law SpanUnions. Conditions: those written in each theorem. -/
import Derived.Test.YtibgcnggimlbcaaCC
import Derived.Test.YtibgcnggimlbcaaBC
import Derived.Deep.DeepCutAuto
import Derived.Deep.CutBlock
namespace Go.Proofs.Ytibgcnggimlbcaa
open Go.RowKit Go.Shelf Go.Sort Go.Maps
theorem wrap16 (n : Int) : IntKind.u16.wrap n = n % 65536 := by simp [IntKind.wrap, IntKind.bits, IntKind.signed]
theorem and255 (a : Int) : ∃ z : Nat, z ≤ 255 ∧ bits .and .u16 a 255 = (z : Int) := by
  have h2 : (BitVec.ofInt 16 (255 : Int)).toNat = 255 := by decide
  refine ⟨(BitVec.ofInt 16 a).toNat &&& 255, Nat.and_le_right, ?_⟩
  show IntKind.u16.wrap ((BitVec.ofInt 16 a &&& BitVec.ofInt 16 (255 : Int)).toNat : Int) = _
  rw [BitVec.toNat_and, h2]
  have h3 : (BitVec.ofInt 16 a).toNat &&& 255 ≤ 255 := Nat.and_le_right
  generalize (BitVec.ofInt 16 a).toNat &&& 255 = n at h3
  rw [wrap16]
  omega
theorem and63 (a : Int) : ∃ z : Nat, z ≤ 63 ∧ bits .and .u16 a 63 = (z : Int) := by
  have h2 : (BitVec.ofInt 16 (63 : Int)).toNat = 63 := by decide
  refine ⟨(BitVec.ofInt 16 a).toNat &&& 63, Nat.and_le_right, ?_⟩
  show IntKind.u16.wrap ((BitVec.ofInt 16 a &&& BitVec.ofInt 16 (63 : Int)).toNat : Int) = _
  rw [BitVec.toNat_and, h2]
  have h3 : (BitVec.ofInt 16 a).toNat &&& 63 ≤ 63 := Nat.and_le_right
  generalize (BitVec.ofInt 16 a).toNat &&& 63 = n at h3
  rw [wrap16]
  omega
theorem law22 : Keyed Try.prog 22 := int_keyed Try.underlying22
/-- A slice of pairs of 16 bits that can be read. -/
def RowH (w : World) (a : Option Addr) (len : Nat) : Prop :=
  ∀ k, k < len → ∃ b off x y, a = some ⟨b, off, none⟩ ∧ b < w.heap.size ∧ w.cell? ⟨b, off + k * 2, none⟩ = some (.int .u16 x) ∧ w.cell? ⟨b, off + k * 2 + 1, none⟩ = some (.int .u16 y)
def SmA (A : List (Nat × Nat)) : Prop := ∀ s ∈ A, s.1 ≤ 255 ∧ s.2 ≤ 63
theorem map_row_ne {W : World} {P : Program} {k : TypeId} {R : Value → Option (DataW Unit × List MemPlace)} {B n : Nat} {D : DataW Unit} {base : Nat} {e : TypeId} {size : Nat} {v : Value} {m : Nat} {xs : List Value}
    (h : W.ownsMap P k R B n D) (hr : W.ownsRow base e size v m xs) : some B ≠ v.ownBlock := by
  obtain ⟨es, clock, hb, _⟩ := h
  rcases hr.2 with ⟨hv, _⟩ | ⟨g, cap, cur, hv, _, hg, _⟩
  · rw [hv]; simp [Value.ownBlock]
  · rw [hv]
    simp only [Value.ownBlock]
    intro e
    simp at e
    subst e
    rw [hb] at hg
    simp at hg
namespace Spans
theorem canon_pos : ∀ (l : List Sp) (lo : Nat), Canon lo l → ∀ t ∈ l, 0 < t.2
  | [], _, _, t, ht => by simp at ht
  | s :: r, _, h, t, ht => by
    rcases List.mem_cons.1 ht with rfl | ht
    · exact h.2.1
    · exact canon_pos r _ h.2.2 t ht
theorem canon_end {l : List Sp} {lo n : Nat} (h : Canon lo l) (hb : ∀ b, cov l b → b < n) : ∀ t ∈ l, t.1 + t.2 ≤ n := fun t ht => by
  have hp := canon_pos l lo h t ht
  have := hb (t.1 + t.2 - 1) ⟨t, ht, by unfold has; omega⟩
  omega
theorem canon_next : ∀ (l : List Sp) (lo : Nat), Canon lo l → ∀ j, j + 1 < l.length → (l.getD j (0, 0)).1 + (l.getD j (0, 0)).2 < (l.getD (j + 1) (0, 0)).1
  | [], _, _, j, hj => by simp at hj
  | [s], _, _, j, hj => by simp at hj
  | s :: t :: r, _, h, j, hj => by
    cases j with
    | zero => have := h.2.2.1; simp; omega
    | succ j =>
      have := canon_next (t :: r) _ h.2.2 j (by simp at hj ⊢; omega)
      simpa using this
theorem lens_take (l : List Sp) (j : Nat) (h : j < l.length) : lens (l.take (j + 1)) = lens (l.take j) + (l.getD j (0, 0)).2 := by
  rw [take_succ_getD l j h]
  simp [lens]
theorem lens_le (l : List Sp) (j : Nat) : lens (l.take j) ≤ lens l := by
  have h : lens (l.take j ++ l.drop j) = lens (l.take j) + lens (l.drop j) := by simp only [lens, List.map_append, List.sum_append]
  rw [List.take_append_drop] at h
  omega
theorem small_cov {A : List Sp} (h : ∀ s ∈ A, s.1 ≤ 255 ∧ s.2 ≤ 63) (b : Nat) (hb : cov A b) : b < 512 := by
  obtain ⟨s, hs, hh⟩ := hb
  have := h s hs
  unfold has at hh
  omega
theorem covB_eq {A U : List Sp} (h : ∀ b, cov U b ↔ cov A b) : covB U = covB A := by
  funext b
  rw [Bool.eq_iff_iff, covB_iff, covB_iff]
  exact h b
theorem union_count {A U : List Sp} (hs : ∀ s ∈ A, s.1 ≤ 255 ∧ s.2 ≤ 63) (hc : Canon 0 U) (h : ∀ b, cov U b ↔ cov A b) : cnt (covB A) = lens U := by
  rw [← covB_eq h]
  exact cnt_canon 512 U 0 hc (canon_end hc (fun b hb => small_cov hs b ((h b).1 hb)))
theorem lens_512 {A U : List Sp} (hs : ∀ s ∈ A, s.1 ≤ 255 ∧ s.2 ≤ 63) (hc : Canon 0 U) (h : ∀ b, cov U b ↔ cov A b) : lens U ≤ 512 := by
  rw [← union_count hs hc h]
  unfold cnt
  have := List.countP_le_length (p := covB A) (l := List.range 512)
  simpa using this
theorem ext1 (X : Bool) (p c z : Nat) (h : p ≤ c) : (X || (decide (p ≤ z) && decide (z < c + 1))) = ((X || (decide (p ≤ z) && decide (z < c))) || z == c) := by
  rw [Bool.eq_iff_iff]
  simp
  cases X <;> simp
  omega
theorem covB_snoc (A : List Sp) (p q z : Nat) : covB (A ++ [(p, q)]) z = (covB A z || (decide (p ≤ z) && decide (z < p + q))) := by
  unfold covB
  rw [List.any_append]
  simp only [List.any_cons, List.any_nil, Bool.or_false]
  congr 1
  rw [Bool.eq_iff_iff, hasB_iff]
  unfold has
  simp
end Spans
theorem smA_snoc {A : List (Nat × Nat)} {p q : Nat} (h : SmA A) (hp : p ≤ 255) (hq : q ≤ 63) : SmA (A ++ [(p, q)]) := fun s hs => by
  rcases List.mem_append.1 hs with hs | hs
  · exact h s hs
  · simp at hs; subst hs; exact ⟨hp, hq⟩
theorem ownsMap_below {W W' : World} {P : Program} {k : TypeId} {R : Value → Option (DataW Unit × List MemPlace)} {B n : Nat} {D : DataW Unit} (h : W.ownsMap P k R B n D) (hb : Below W.heap.size W W') : W'.ownsMap P k R B n D := by
  have hlt := h.lt
  obtain ⟨es, clock, h1, h2⟩ := h
  exact ⟨es, clock, by rw [hb.block B hlt]; exact h1, h2⟩
/-- A look-up in a map of bools that is a set: at the operation. -/
theorem wpList_seen {P : Program} (w : World) {ops : Array Oper} {rest : List Oper} {o : Oper} {a : Act} {Q : Exit → Act → World → Prop}
    (hg : o.guard = none) (m x : Operand) (t : TypeId) (hop : o.op = Op.lookup t m x false)
    (k e : TypeId) (K : Keyed P k) (ht : P.underlying t = some (.map k e)) (he : P.underlying e = some .bool) (hz : (zeroValue e).run P w = .ok (.bool false) w) (b n : Nat) (D : DataW Unit)
    (hm : a.eval m = .map (some b)) (hown : w.ownsMap P k (plainElem P e) b n D) (kv : Value) (kl : Lit) (hx : a.eval x = kv) (hkey : keyOf P k kv = some kl) (hyes : D.atKey kl (.lit (.bool false)) = .lit (.bool true))
    (hK : wpList P ops Q rest (a.put o.dst (.bool true)) w) : wpList P ops Q (o :: rest) a w := by
  refine wpList_plain hg fun K' hK' => ?_
  obtain ⟨c, hrun, hat⟩ := lookup_bool hown K ht he hz hkey
  rw [hyes] at hat
  simp at hat
  subst hat
  unfold Oper.wp
  simp [execOp, hop, hm, hx, hrun, Result.andThen]
  exact hK' _ _ hK
theorem far2 (W : World) (g b o : Nat) (A L : Value) (h : b < g) {r : Option Value} (hc : W.cell? ⟨b, o, none⟩ = r) : ((W.setCell ⟨g, 0, none⟩ A).setCell ⟨g, 1, none⟩ L).cell? ⟨b, o, none⟩ = r := by
  have h0 : (⟨g, 0, none⟩ : Addr) ≠ ⟨b, o, none⟩ := fun e => by
    have := congrArg Addr.block e
    simp only at this
    omega
  have h1 : (⟨g, 1, none⟩ : Addr) ≠ ⟨b, o, none⟩ := fun e => by
    have := congrArg Addr.block e
    simp only at this
    omega
  rw [World.cell?_setCell_other _ _ _ _ h1, World.cell?_setCell_other _ _ _ _ h0]
  exact hc
theorem zero4 (w : World) : (zeroValue 4).run Try.prog w = .ok (.bool false) w := by kernel_rfl
set_option maxRecDepth 100000 in
set_option maxHeartbeats 40000000 in
theorem unions_law (a : Option Addr) (len cap : Nat) (w : World) (hrow : RowH w a len) :
    Calls Try.prog 10 #[.slice a len cap] w fun e w' => e = .returned (.bool true) ∧ Below w.heap.size w w' := by
  obtain ⟨i0, hi, hz0, hz1, hz2⟩ := info_parts info52
  have hmm := @run_makeMap Try.prog
  have HROW := Lib.hid hrow
  clear hrow
  go_enter Try.func10, Try.ntmps10
  go_wp2_with fail
  refine (speaks2 _).mono ?_
  rintro e w1 ⟨rfl, hb1⟩
  have hws1 := hb1.size
  go_upto_block 0 with (fail)
  go_cut [3] (fun v wc => ∃ (n : Nat) (A : List (Nat × Nat)) (D : DataW Unit), A.length ≤ 8 ∧ n ≤ 64 * A.length ∧ SmA A ∧ wc.ownsRow w.heap.size 52 2 v A.length (flat A) ∧ wc.ownsMap Try.prog 22 (plainElem Try.prog 4) w1.heap.size n D ∧ Spans.SetD D (Spans.covB A) ∧ Below w.heap.size w wc)
  case first =>
    go_wp2_with fail
    go_loopw [3, 5] (fun v i wr => ∃ (k n : Nat) (A : List (Nat × Nat)) (D : DataW Unit), k ≤ len ∧ k ≤ 8 ∧ i = .int .i64 k ∧ A.length = k ∧ SmA A ∧ wr.ownsRow w.heap.size 52 2 v k (flat A) ∧ wr.ownsMap Try.prog 22 (plainElem Try.prog 4) w1.heap.size n D ∧ n ≤ 64 * k ∧ Spans.SetD D (Spans.covB A) ∧ Below w.heap.size w wr) (fun _ i _ => 8 - (intOf i).toNat)
    case atStart => exact ⟨0, 0, [], .map [], Nat.zero_le _, by omega, rfl, rfl, by intro s hs; simp at hs, World.ownsRow_nil _ _ _ _, World.ownsMap_made _ _ _ _, by omega, Spans.SetD.start, hb1.alloc hws1 _⟩
    case round =>
      obtain ⟨k, n, A, D, hk, hk8, rfl, hAl, hAs, hA, hM, hn, hD, hg⟩ := hrel
      have hws := hg.size
      by_cases hlt : k < len ∧ k < 8
      · obtain ⟨hl1, hl2⟩ := hlt
        have hd1 : decide (k < len) = true := by simpa using hl1
        have hd2 : decide ((k : Int) < 8) = true := by simp; omega
        obtain ⟨b, off, x, y, rfl, hb, hc1, hc2⟩ := HROW.out k hl1
        have hc1w := (hg.cell (p := ⟨b, off + k * 2, none⟩) hb).trans hc1
        have hc2w := (hg.cell (p := ⟨b, off + k * 2 + 1, none⟩) hb).trans hc2
        clear hc1 hc2
        obtain ⟨p, hp, hpe⟩ := and255 x
        obtain ⟨q, hq, hqe⟩ := and63 y
        have hpw := u64_len p (by omega)
        have hqw := u64_len q (by omega)
        have p0 : (0 : Int) ≤ (k : Int) := by omega
        have p1 : (k : Int) < (len : Int) := by omega
        have HD := Lib.hid hD
        have HA := Lib.hid hA
        have HM := Lib.hid hM
        have HAS := Lib.hid hAs
        clear hD hA hM hAs
        go_wp2_with fail
        have hbw : b < wr.heap.size := by omega
        go_region_held3 (fun w' => w'.cell? ⟨b, off + k * 2, none⟩ = some (.int .u16 x) ∧ w'.cell? ⟨b, off + k * 2 + 1, none⟩ = some (.int .u16 y)) (go_keep) (fail)
        have hAW : ((wr.alloc (.cells #[.int .u64 (p : Int), .int .u64 (q : Int)] 52)).drew).ownsRow w.heap.size 52 2 u3 k (flat A) := HA.out.alloc _
        have hMW : ((wr.alloc (.cells #[.int .u64 (p : Int), .int .u64 (q : Int)] 52)).drew).ownsMap Try.prog 22 (plainElem Try.prog 4) w1.heap.size n D := (HM.out.alloc _).drew
        have hgW : Below w.heap.size w ((wr.alloc (.cells #[.int .u64 (p : Int), .int .u64 (q : Int)] 52)).drew) := (hg.alloc hws _).drew
        have hfr : ((wr.alloc (.cells #[.int .u64 (p : Int), .int .u64 (q : Int)] 52)).drew).cell? ⟨wr.heap.size, 0, none⟩ = some (.int .u64 (p : Int)) ∧ ((wr.alloc (.cells #[.int .u64 (p : Int), .int .u64 (q : Int)] 52)).drew).cell? ⟨wr.heap.size, 1, none⟩ = some (.int .u64 (q : Int)) := ⟨(fresh2 wr wr.heap.size rfl (.int .u64 (p : Int)) (.int .u64 (q : Int)) 52).1, (fresh2 wr wr.heap.size rfl (.int .u64 (p : Int)) (.int .u64 (q : Int)) 52).2.1⟩
        have hWs : ((wr.alloc (.cells #[.int .u64 (p : Int), .int .u64 (q : Int)] 52)).drew).heap.size = wr.heap.size + 1 := by show (wr.alloc _).heap.size = _; simp
        generalize (wr.alloc (.cells #[.int .u64 (p : Int), .int .u64 (q : Int)] 52)).drew = W at *
        obtain ⟨hf1, hf2⟩ := hfr
        have hWw : w.heap.size ≤ W.heap.size := by omega
        have HWs := Lib.hid hWs
        clear hWs
        go_wp2_with (at_builtin; (refine wpList_append_own _ rfl _ _ 60 rfl w.heap.size 52 i0 (.agg #[.int .u64 0, .int .u64 0]) 2 16 Try.underlying60 hi hz0 hz1 hz2 rfl (by decide) _ _ _ rfl (hAW.alloc _) ⟨W.heap.size, 0, none⟩ 1 1 [.int .u64 (p : Int), .int .u64 (q : Int)] rfl rfl ?c1 ?c2 ?c3 ?c4 ?c5 ?_))
        case c1 =>
          intro j u hj
          match j, hj with
          | 0, hj => simp at hj; subst hj; simp [Addr.add]
          | 1, hj => simp at hj; subst hj; simp [Addr.add]
        case c2 => intro u hu; simp at hu; rcases hu with rfl | rfl <;> rfl
        case c3 => unfold maxLen; omega
        case c4 => omega
        case c5 => simp; omega
        intro v' w2 hown' hgrow _
        have hWs := HWs.out
        have hbel2 : Below w.heap.size w w2 := (hgW.alloc hWw _).grown hgrow (by simp; omega) (fun z hz => (hAW.lt z hz).1)
        rw [← flat_one A p q] at hown'
        have hM2 : w2.ownsMap Try.prog 22 (plainElem Try.prog 4) w1.heap.size n D := (hMW.alloc _).kept hgrow (map_row_ne hMW hAW)
        have hne : some wr.heap.size ≠ u3.ownBlock := fun h => by have := (HA.out.lt _ h.symm).2; omega
        have hg1 : w2.cell? ⟨wr.heap.size, 0, none⟩ = some (.int .u64 (p : Int)) := by
          rw [cellFar hgrow _ (by simp; omega) hne, World.cell?_alloc_past _ _ _ (by show wr.heap.size < W.heap.size; omega)]; exact hf1
        have hg2 : w2.cell? ⟨wr.heap.size, 1, none⟩ = some (.int .u64 (q : Int)) := by
          rw [cellFar hgrow _ (by simp; omega) hne, World.cell?_alloc_past _ _ _ (by show wr.heap.size < W.heap.size; omega)]; exact hf2
        have hsz2 : wr.heap.size < w2.heap.size := by have := hgrow.size; simp at this; omega
        have HO2 := Lib.hid hown'
        have HM2 := Lib.hid hM2
        have hBG := HM.out.lt
        clear hown' hM2 hgrow hAW hMW hgW hf1 hf2 hWs hWw hc1w hc2w hpe hqe hpw hqw hd1 hd2 hg hws hbw hne HA HM HWs
        go_wp2_with fail
        generalize wr.heap.size = G at *
        go_loopw [7] (fun bv wr => ∃ (c n' : Nat) (D' : DataW Unit), bv = .int .u64 c ∧ p ≤ c ∧ c ≤ p + q ∧ n' ≤ n + (c - p) ∧ Spans.SetD D' (fun z => Spans.covB A z || (decide (p ≤ z) && decide (z < c))) ∧ wr.ownsMap Try.prog 22 (plainElem Try.prog 4) w1.heap.size n' D' ∧ wr.ownsRow w.heap.size 52 2 v' (k + 1) (flat (A ++ [(p, q)])) ∧ wr.cell? ⟨G, 0, none⟩ = some (.int .u64 (p : Int)) ∧ wr.cell? ⟨G, 1, none⟩ = some (.int .u64 (q : Int)) ∧ Below w.heap.size w wr) (fun bv _ => p + q - (intOf bv).toNat)
        case atStart => exact ⟨p, n, D, rfl, Nat.le_refl _, by omega, by omega, HD.out.congr (fun z => by by_cases h : p ≤ z <;> simp [h]; omega), HM2.out, HO2.out, hg1, hg2, hbel2⟩
        case round =>
          obtain ⟨c, n', D', rfl, hc1, hc2, hn', hD', hM', hO', hh1, hh2, hg'⟩ := hrel
          have hws' := hg'.size
          have hpq := u64_add' p q (by omega)
          by_cases hcl : c < p + q
          · have hdc : decide ((c : Int) < (p : Int) + (q : Int)) = true := by simp; omega
            have hinc : IntKind.u64.wrap ((c : Int) + 1) = (c : Int) + 1 := by rw [IntKind.wrap_u64]; omega
            have hwf : (Lit.int .u64 (c : Int)).wf = true := by simp [Lit.wf, IntKind.min, IntKind.max, IntKind.signed, IntKind.bits]; omega
            have HD2 := Lib.hid (hD'.put c (by omega))
            have HO3 := Lib.hid hO'
            have hbr := map_row_ne hM' hO'
            have hGG : G < wr.heap.size := World.block_lt_of_cell? _ _ hh1
            clear hD' hO'
            go_wp2_with (at_mapUpdate; refine wpList_mapUpdate_own _ rfl _ _ _ 70 rfl 22 4 law22 Try.underlying70 _ w1.heap.size n' D' rfl hM' (by unfold maxLen; omega) _ _ _ rfl rfl (keyOf_int_mk Try.underlying22 hwf) _ [] (plainElem_bool Try.underlying4 true) ?_)
            intro w3 hM3 hgrow3
            have hO4 : w3.ownsRow w.heap.size 52 2 v' (k + 1) (flat (A ++ [(p, q)])) := HO3.out.kept hgrow3 (.inr fun h => hbr h.symm)
            have hh3 : w3.cell? ⟨G, 0, none⟩ = some (.int .u64 (p : Int)) := by
              rw [cellFar hgrow3 _ hGG (by simp; omega)]; exact hh1
            have hh4 : w3.cell? ⟨G, 1, none⟩ = some (.int .u64 (q : Int)) := by
              rw [cellFar hgrow3 _ hGG (by simp; omega)]; exact hh2
            have hg3 : Below w.heap.size w w3 := hg'.grown hgrow3 hws' (fun z hz => by cases hz; exact hws1)
            have HM3 := Lib.hid hM3
            have HO4 := Lib.hid hO4
            clear hM3 hO4 hgrow3 hM' hh1 hh2 hg' hbr
            go_wp2
            go_roundw
            case rel => exact ⟨c + 1, n' + 1, _, by go_num, by omega, by omega, by omega, HD2.out.congr (fun z => Spans.ext1 _ _ _ _ hc1), HM3.out, HO4.out, hh3, hh4, hg3⟩
            case measure => simp [intOf]; omega
          · obtain rfl : c = p + q := by omega
            have hdc : decide ((((p + q : Nat) : Int)) < (p : Int) + (q : Int)) = false := by simp
            have HD2 := Lib.hid hD'
            have HO3 := Lib.hid hO'
            have HM3 := Lib.hid hM'
            clear hD' hO' hM'
            go_wp2
            go_roundw
            case rel => exact ⟨k + 1, n', A ++ [(p, q)], D', by omega, by omega, by go_num, by simp [hAl], smA_snoc HAS.out hp hq, HO3.out, HM3.out, by omega, HD2.out.congr (fun z => Spans.covB_snoc _ _ _ _), hg'⟩
            case measure => simp [intOf]; omega
      · have hd : decide (k < len) = false ∨ (decide (k < len) = true ∧ decide ((k : Int) < 8) = false) := by
          by_cases h : k < len
          · right; exact ⟨by simpa using h, by simp; omega⟩
          · left; simpa using h
        subst hAl
        have HD := Lib.hid hD
        have HM := Lib.hid hM
        have HAS := Lib.hid hAs
        have HA := Lib.hid hA
        clear hD hM hAs hA hlt HROW
        rcases hd with hd1 | ⟨hd1, hd2⟩
        all_goals
          go_wp2
          go_meet
          exact ⟨n, A, D, hk8, hn, HAS.out, HA.out, HM.out, HD.out, hg⟩
  case rest =>
        obtain ⟨n, A, D, hk8, hn, hAs, hA, hM, hD, hg⟩ := hcut
        generalize wc = wr at *
        have hws := hg.size
        obtain ⟨aa, ca, hva, hra⟩ := owns_row hA
        subst hva
        have HSU : Hid (SmallU A) := Lib.hid (fun s hs => by have := hAs s hs; omega)
        have HRA := Lib.hid hra
        have HD := Lib.hid hD
        have HM := Lib.hid hM
        have HAS := Lib.hid hAs
        clear hra hD hM hAs hA HROW
        go_wp2_with fail
        refine (union_any aa A.length ca A _ rfl (by omega) HRA.out HSU.out).mono ?_
        rintro e w2 ⟨au, cu, U, hU1, hU2, hU3, hU4, rfl, hrU, hb2⟩
        have HM2 := Lib.hid (ownsMap_below HM.out hb2)
        have hB2 : Below w.heap.size w w2 := hg.trans (hb2.mono hws)
        have HRA2 := Lib.hid (RowS.kept HRA.out hb2)
        have HRU := Lib.hid hrU
        have hsz : Maps.size D = Spans.lens U := by rw [HD.out.size]; exact Spans.union_count HAS.out hU1 hU2
        have hl512 := Spans.lens_512 HAS.out hU1 hU2
        have HSZ := Lib.hid hsz
        have HU1 := Lib.hid hU1
        have HU2 := Lib.hid hU2
        have hws2 := hB2.size
        clear hrU hsz hU1 hU2 hU3 HM HRA hg hws hb2
        go_wp2_with fail
        go_loopw [9, 10] (fun cn i wr => ∃ j : Nat, j ≤ U.length ∧ i = .int .i64 j ∧ cn = .int .i64 (Spans.lens (U.take j) : Nat) ∧ Below w2.heap.size w2 wr) (fun _ i _ => U.length - (intOf i).toNat)
        case atStart => exact ⟨0, Nat.zero_le _, rfl, rfl, Below.refl _ _⟩
        case round =>
          obtain ⟨j, hj, rfl, rfl, hg4⟩ := hrel
          have hlj := Spans.lens_le U j
          by_cases hjl : j < U.length
          · have hdj : decide (j < U.length) = true := by simpa using hjl
            obtain ⟨b1, o1, rfl, hb1', hc1, hc2⟩ := HRU.out j hjl
            have k1 := (hg4.cell (p := ⟨b1, o1 + j * 2, none⟩) hb1').trans hc1
            have k2 := (hg4.cell (p := ⟨b1, o1 + j * 2 + 1, none⟩) hb1').trans hc2
            have HC1 := Lib.hid hc1
            have HC2 := Lib.hid hc2
            clear hc1 hc2
            have hmem : U.getD j (0, 0) ∈ U := by rw [List.getD_eq_getElem?_getD, List.getElem?_eq_getElem hjl]; exact List.getElem_mem _
            have hpos := Spans.canon_pos U 0 HU1.out _ hmem
            have hend := Spans.canon_end HU1.out (fun b hb => Spans.small_cov HAS.out b ((HU2.out b).1 hb)) _ hmem
            have hstep := Spans.lens_take U j hjl
            have hlj2 := Spans.lens_le U (j + 1)
            have hnx : ∀ i, i + 1 = j → (U.getD i (0, 0)).1 + (U.getD i (0, 0)).2 < (U.getD j (0, 0)).1 := fun i hi => by
              subst hi; exact Spans.canon_next U 0 HU1.out i hjl
            have hyes : ∀ c, (U.getD j (0, 0)).1 ≤ c → c < (U.getD j (0, 0)).1 + (U.getD j (0, 0)).2 → D.atKey (Spans.key c) (.lit (.bool false)) = .lit (.bool true) := fun c h1 h2 =>
              HD.out.yes c ((Spans.covB_iff _ _).2 ((HU2.out c).1 ⟨_, hmem, h1, h2⟩))
            have HYES := Lib.hid hyes
            have HNX := Lib.hid hnx
            clear hnx hyes hmem
            generalize U.getD j (0, 0) = t at *
            obtain ⟨x, y⟩ := t
            simp only at k1 k2 hpos hend hstep HC1 HC2
            have hy0 : ((y : Int) == 0) = false := by simp; omega
            have p0 : (0 : Int) ≤ (j : Int) := by omega
            have p1 : (j : Int) < (U.length : Int) := by omega
            have hcase : decide (0 < j) = false ∨ ∃ i, i + 1 = j := by
              cases j with
              | zero => left; simp
              | succ i => right; exact ⟨i, rfl⟩
            rcases hcase with hj0 | ⟨i, hij⟩
            · go_wp2_with fail
              go_quiet (fail)
              have hg5 := below_drewN hg4 nq
              clear hg4
              have hBN := hg5.size
              have k1' := (hg5.cell (p := ⟨b1, o1 + j * 2, none⟩) hb1').trans HC1.out
              have k2' := (hg5.cell (p := ⟨b1, o1 + j * 2 + 1, none⟩) hb1').trans HC2.out
              clear k1 k2
              go_wp2_with fail
              clear k1' k2'
              generalize wr = wo at *
              go_loopw [9, 11] (fun cn bv wr => ∃ c : Nat, x ≤ c ∧ c ≤ x + y ∧ bv = .int .u64 c ∧ cn = .int .i64 ((Spans.lens (U.take j) + (c - x) : Nat) : Int) ∧ Below w2.heap.size w2 wr) (fun _ bv _ => x + y - (intOf bv).toNat)
              case atStart => exact ⟨x, Nat.le_refl _, by omega, rfl, by simp, hg5⟩
              case round =>
                obtain ⟨c, hx1, hx2, rfl, rfl, hg6⟩ := hrel
                have k1 := (hg6.cell (p := ⟨b1, o1 + j * 2, none⟩) hb1').trans HC1.out
                have k2 := (hg6.cell (p := ⟨b1, o1 + j * 2 + 1, none⟩) hb1').trans HC2.out
                have hsum := u64_add' x y (by omega)
                by_cases hcl : c < x + y
                · have hdc : decide ((c : Int) < (x : Int) + (y : Int)) = true := by simp; omega
                  have hwf : (Lit.int .u64 (c : Int)).wf = true := by simp [Lit.wf, IntKind.min, IntKind.max, IntKind.signed, IntKind.bits]; omega
                  have hyc := HYES.out c hx1 hcl
                  have hinc : IntKind.u64.wrap ((c : Int) + 1) = (c : Int) + 1 := by rw [IntKind.wrap_u64]; omega
                  have hcn : IntKind.i64.wrap (((Spans.lens (U.take j) + (c - x) : Nat) : Int) + 1) = ((Spans.lens (U.take j) + (c + 1 - x) : Nat) : Int) := by rw [IntKind.wrap_i64]; omega
                  generalize Spans.lens (U.take j) + (c - x) = m1 at *
                  generalize hm2 : Spans.lens (U.take j) + (c + 1 - x) = m2 at *
                  have HMM := Lib.hid hm2
                  clear hm2
                  go_wp2_with fail
                  go_quiet (fail)
                  have hg7 := below_drewN hg6 nq
                  have hMr := ownsMap_below HM2.out hg7
                  clear k1 k2 hg6
                  go_wp2_with (at_lookup; refine wpList_seen _ rfl _ _ 70 rfl 22 4 law22 Try.underlying70 Try.underlying4 (zero4 _) w1.heap.size n D rfl hMr _ _ rfl (keyOf_int_mk Try.underlying22 hwf) hyc ?_)
                  clear hMr
                  go_roundw
                  case rel => exact ⟨c + 1, by omega, by omega, by go_num, by rw [← HMM.out], hg7⟩
                  case measure => simp [intOf]; omega
                · obtain rfl : c = x + y := by omega
                  have hdc : decide (((x + y : Nat) : Int) < (x : Int) + (y : Int)) = false := by simp
                  go_wp2_with fail
                  go_quiet (fail)
                  have hg7 := below_drewN hg6 nq
                  clear k1 k2 hg6
                  go_wp2
                  go_roundw
                  case rel => exact ⟨j + 1, by omega, by go_num, by rw [hstep]; congr 2; omega, hg7⟩
                  case measure => simp [intOf]; omega
            · have hnx := HNX.out i hij
              obtain ⟨b2, o2, he, hb2', hc1, hc2⟩ := HRU.out i (by omega)
              simp only [Option.some.injEq, Addr.mk.injEq, and_true] at he
              obtain ⟨rfl, rfl⟩ := he
              have k3 := (hg4.cell (p := ⟨b1, o1 + i * 2, none⟩) hb1').trans hc1
              have k4 := (hg4.cell (p := ⟨b1, o1 + i * 2 + 1, none⟩) hb1').trans hc2
              clear hc1 hc2
              have hend2 : (U.getD i (0, 0)).1 + (U.getD i (0, 0)).2 ≤ 512 := by simp only at hnx; omega
              generalize U.getD i (0, 0) = t2 at *
              obtain ⟨x2, y2⟩ := t2
              simp only at k3 k4 hnx hend2
              have hj0 : decide (0 < j) = true := by simp; omega
              have hsb : IntKind.i64.wrap ((j : Int) - 1) = (i : Int) := by rw [IntKind.wrap_i64]; omega
              have hs2 := u64_add' x2 y2 (by omega)
              have hle : decide ((x : Int) ≤ (x2 : Int) + (y2 : Int)) = false := by simp; omega
              have p2 : (0 : Int) ≤ (i : Int) := by omega
              have p3 : (i : Int) < (U.length : Int) := by omega
              go_wp2_with fail
              go_quiet (fail)
              clear k3 k4 hs2 hle hsb p2 p3
              have hg5 := below_drewN hg4 nq
              clear hg4
              have hBN := hg5.size
              have k1' := (hg5.cell (p := ⟨b1, o1 + j * 2, none⟩) hb1').trans HC1.out
              have k2' := (hg5.cell (p := ⟨b1, o1 + j * 2 + 1, none⟩) hb1').trans HC2.out
              clear k1 k2
              go_wp2_with fail
              clear k1' k2'
              generalize wr = wo at *
              go_loopw [9, 11] (fun cn bv wr => ∃ c : Nat, x ≤ c ∧ c ≤ x + y ∧ bv = .int .u64 c ∧ cn = .int .i64 ((Spans.lens (U.take j) + (c - x) : Nat) : Int) ∧ Below w2.heap.size w2 wr) (fun _ bv _ => x + y - (intOf bv).toNat)
              case atStart => exact ⟨x, Nat.le_refl _, by omega, rfl, by simp, hg5⟩
              case round =>
                obtain ⟨c, hx1, hx2, rfl, rfl, hg6⟩ := hrel
                have k1 := (hg6.cell (p := ⟨b1, o1 + j * 2, none⟩) hb1').trans HC1.out
                have k2 := (hg6.cell (p := ⟨b1, o1 + j * 2 + 1, none⟩) hb1').trans HC2.out
                have hsum := u64_add' x y (by omega)
                by_cases hcl : c < x + y
                · have hdc : decide ((c : Int) < (x : Int) + (y : Int)) = true := by simp; omega
                  have hwf : (Lit.int .u64 (c : Int)).wf = true := by simp [Lit.wf, IntKind.min, IntKind.max, IntKind.signed, IntKind.bits]; omega
                  have hyc := HYES.out c hx1 hcl
                  have hinc : IntKind.u64.wrap ((c : Int) + 1) = (c : Int) + 1 := by rw [IntKind.wrap_u64]; omega
                  have hcn : IntKind.i64.wrap (((Spans.lens (U.take j) + (c - x) : Nat) : Int) + 1) = ((Spans.lens (U.take j) + (c + 1 - x) : Nat) : Int) := by rw [IntKind.wrap_i64]; omega
                  generalize Spans.lens (U.take j) + (c - x) = m1 at *
                  generalize hm2 : Spans.lens (U.take j) + (c + 1 - x) = m2 at *
                  have HMM := Lib.hid hm2
                  clear hm2
                  go_wp2_with fail
                  go_quiet (fail)
                  have hg7 := below_drewN hg6 nq
                  have hMr := ownsMap_below HM2.out hg7
                  clear k1 k2 hg6
                  go_wp2_with (at_lookup; refine wpList_seen _ rfl _ _ 70 rfl 22 4 law22 Try.underlying70 Try.underlying4 (zero4 _) w1.heap.size n D rfl hMr _ _ rfl (keyOf_int_mk Try.underlying22 hwf) hyc ?_)
                  clear hMr
                  go_roundw
                  case rel => exact ⟨c + 1, by omega, by omega, by go_num, by rw [← HMM.out], hg7⟩
                  case measure => simp [intOf]; omega
                · obtain rfl : c = x + y := by omega
                  have hdc : decide (((x + y : Nat) : Int) < (x : Int) + (y : Int)) = false := by simp
                  go_wp2_with fail
                  go_quiet (fail)
                  have hg7 := below_drewN hg6 nq
                  clear k1 k2 hg6
                  go_wp2
                  go_roundw
                  case rel => exact ⟨j + 1, by omega, by go_num, by rw [hstep]; congr 2; omega, hg7⟩
                  case measure => simp [intOf]; omega
          · obtain rfl : j = U.length := by omega
            have hdj : decide (U.length < U.length) = false := by simp
            have hMr := ownsMap_below HM2.out hg4
            have hsz := HSZ.out
            rw [List.take_length]
            go_wp2_with (at_len; refine wpList_len_own _ rfl _ 70 rfl 22 4 Try.underlying70 _ w1.heap.size n D rfl hMr ?_)
            clear hMr hsz hlj
            generalize wr = w3 at *
            go_loopw [12] (fun i wr => ∃ i0 : Nat, i0 ≤ A.length ∧ i = .int .i64 i0 ∧ Below w2.heap.size w2 wr) (fun i _ => A.length - (intOf i).toNat)
            case atStart => exact ⟨0, Nat.zero_le _, rfl, hg4⟩
            case round =>
              obtain ⟨i, hi', rfl, hg5⟩ := hrel
              by_cases hil : i < A.length
              · have hdi : decide (i < A.length) = true := by simpa using hil
                go_wp2_with fail
                generalize wr = w4 at *
                go_loopw [13] (fun m wr => ∃ m0 : Nat, m0 ≤ A.length ∧ m = .int .i64 m0 ∧ Below w2.heap.size w2 wr) (fun m _ => A.length - (intOf m).toNat)
                case atStart => exact ⟨0, Nat.zero_le _, rfl, hg5⟩
                case round =>
                  obtain ⟨m, hm, rfl, hg6⟩ := hrel
                  by_cases hml : m < A.length
                  · have hdm : decide (m < A.length) = true := by simpa using hml
                    obtain ⟨b1, o1, rfl, hb1', hc1, hc2⟩ := HRA2.out i hil
                    obtain ⟨b2, o2, he, hb2', hc3, hc4⟩ := HRA2.out m hml
                    simp only [Option.some.injEq, Addr.mk.injEq, and_true] at he
                    obtain ⟨rfl, rfl⟩ := he
                    have k1 := (hg6.cell (p := ⟨b1, o1 + i * 2, none⟩) hb1').trans hc1
                    have k2 := (hg6.cell (p := ⟨b1, o1 + i * 2 + 1, none⟩) hb1').trans hc2
                    have k3 := (hg6.cell (p := ⟨b1, o1 + m * 2, none⟩) hb1').trans hc3
                    have k4 := (hg6.cell (p := ⟨b1, o1 + m * 2 + 1, none⟩) hb1').trans hc4
                    clear hc1 hc2 hc3 hc4
                    have hs1 := HAS.out (A.getD i (0, 0)) (by rw [List.getD_eq_getElem?_getD, List.getElem?_eq_getElem hil]; exact List.getElem_mem _)
                    have hs2 := HAS.out (A.getD m (0, 0)) (by rw [List.getD_eq_getElem?_getD, List.getElem?_eq_getElem hml]; exact List.getElem_mem _)
                    generalize A.getD i (0, 0) = t1 at *
                    generalize A.getD m (0, 0) = t2 at *
                    obtain ⟨x, y⟩ := t1
                    obtain ⟨u, v⟩ := t2
                    simp only at k1 k2 k3 k4 hs1 hs2
                    have p0 : (0 : Int) ≤ (i : Int) := by omega
                    have p1 : (i : Int) < (A.length : Int) := by omega
                    have p2 : (0 : Int) ≤ (m : Int) := by omega
                    have p3 : (m : Int) < (A.length : Int) := by omega
                    have hbw : b1 < wr.heap.size := by have := hg6.size; omega
                    have hws6 := hg6.size
                    have HCM := Lib.hid (fun W => common_any x y u v W (by omega) (by omega) (by omega) (by omega))
                    go_wp2_with fail
                    go_region_held3 (fun w' => w'.cell? ⟨b1, o1 + i * 2, none⟩ = some (.int .u64 (x : Int)) ∧ w'.cell? ⟨b1, o1 + i * 2 + 1, none⟩ = some (.int .u64 (y : Int)) ∧ w'.cell? ⟨b1, o1 + m * 2, none⟩ = some (.int .u64 (u : Int)) ∧ w'.cell? ⟨b1, o1 + m * 2 + 1, none⟩ = some (.int .u64 (v : Int))) ((go_split_ands; refine ⟨?_, ?_, ?_, ?_⟩ <;> first | assumption | (exact far2 _ _ _ _ _ _ hbw (by assumption)) | (rw [World.cell?_alloc_past _ _ _ (by first | exact hbw | (show b1 < _; omega))]; assumption) | (rw [hbx.cell (by first | exact hbw | (show b1 < _; simp; omega))]; assumption) | go_keep)) (first | (go_at_call 37; (with_reducible refine (HCM.out _).mono ?_); rintro e wx ⟨rfl, hbx⟩; have hbz : wr.heap.size ≤ wx.heap.size := (by have := hbx.size; first | exact this | (simp at this; omega)); have qq1 : wx.cell? ⟨b1, o1 + i * 2, none⟩ = some (.int .u64 (x : Int)) := (by first | exact (hbx.cell hbw).trans k1 | exact (hbx.cell (by show b1 < _; simp; omega)).trans ((World.cell?_alloc_past _ _ _ hbw).trans k1)); have qq2 : wx.cell? ⟨b1, o1 + i * 2 + 1, none⟩ = some (.int .u64 (y : Int)) := (by first | exact (hbx.cell hbw).trans k2 | exact (hbx.cell (by show b1 < _; simp; omega)).trans ((World.cell?_alloc_past _ _ _ hbw).trans k2)); have qq3 : wx.cell? ⟨b1, o1 + m * 2, none⟩ = some (.int .u64 (u : Int)) := (by first | exact (hbx.cell hbw).trans k3 | exact (hbx.cell (by show b1 < _; simp; omega)).trans ((World.cell?_alloc_past _ _ _ hbw).trans k3)); have qq4 : wx.cell? ⟨b1, o1 + m * 2 + 1, none⟩ = some (.int .u64 (v : Int)) := (by first | exact (hbx.cell hbw).trans k4 | exact (hbx.cell (by show b1 < _; simp; omega)).trans ((World.cell?_alloc_past _ _ _ hbw).trans k4)); (try have z1 : wx.cell? ⟨wr.heap.size, 0, none⟩ = some (.int .u64 0) := (by exact (hbx.cell (by show wr.heap.size < _; simp)).trans (fresh2 wr _ rfl _ _ _).1)); (try have z2 : wx.cell? ⟨wr.heap.size, 1, none⟩ = some (.int .u64 0) := (by exact (hbx.cell (by show wr.heap.size < _; simp)).trans (fresh2 wr _ rfl _ _ _).2.1)); (try have z3 : wx.frozen? ⟨wr.heap.size, 0, none⟩ = false := (by exact (hbx.frozen (by show wr.heap.size < _; simp)).trans (fresh2 wr _ rfl _ _ _).2.2.1)); (try have z4 : wx.frozen? ⟨wr.heap.size, 1, none⟩ = false := (by exact (hbx.frozen (by show wr.heap.size < _; simp)).trans (fresh2 wr _ rfl _ _ _).2.2.2))))
                    · go_split_ands
                      have hBW : Below w2.heap.size w2 (wx.alloc (.cells #[.int .u64 (comAt x y u v : Int), .int .u64 (comLen x y u v : Int)] 52)) := (hg6.drew.trans (hbx.mono hws6)).alloc (by omega) _
                      have hfr := fresh2 wx wx.heap.size rfl (.int .u64 (comAt x y u v : Int)) (.int .u64 (comLen x y u v : Int)) 52
                      obtain ⟨t1, t2, _, _⟩ := hfr
                      have f1 : (wx.alloc (.cells #[.int .u64 (comAt x y u v : Int), .int .u64 (comLen x y u v : Int)] 52)).cell? ⟨b1, o1 + i * 2, none⟩ = some (.int .u64 (x : Int)) := (World.cell?_alloc_past _ _ _ (by show b1 < _; omega)).trans qq1
                      have f2 : (wx.alloc (.cells #[.int .u64 (comAt x y u v : Int), .int .u64 (comLen x y u v : Int)] 52)).cell? ⟨b1, o1 + i * 2 + 1, none⟩ = some (.int .u64 (y : Int)) := (World.cell?_alloc_past _ _ _ (by show b1 < _; omega)).trans qq2
                      have f3 : (wx.alloc (.cells #[.int .u64 (comAt x y u v : Int), .int .u64 (comLen x y u v : Int)] 52)).cell? ⟨b1, o1 + m * 2, none⟩ = some (.int .u64 (u : Int)) := (World.cell?_alloc_past _ _ _ (by show b1 < _; omega)).trans qq3
                      have f4 : (wx.alloc (.cells #[.int .u64 (comAt x y u v : Int), .int .u64 (comLen x y u v : Int)] 52)).cell? ⟨b1, o1 + m * 2 + 1, none⟩ = some (.int .u64 (v : Int)) := (World.cell?_alloc_past _ _ _ (by show b1 < _; omega)).trans qq4
                      generalize wx.alloc (.cells #[.int .u64 (comAt x y u v : Int), .int .u64 (comLen x y u v : Int)] 52) = W2 at *
                      generalize wx.heap.size = P at *
                      clear qq1 qq2 qq3 qq4 k1 k2 k3 k4 hbx
                      have hsA := u64_add' x y (by omega)
                      have hsB := u64_add' u v (by omega)
                      have hmx := max_cast x u
                      have hmn : min ((x : Int) + (y : Int)) ((u : Int) + (v : Int)) = ((min (x + y) (u + v) : Nat) : Int) := by omega
                      have hcs : (comOk x y u v = true ∧ comAt x y u v = max x u ∧ decide (max x u < min (x + y) (u + v)) = true ∧ IntKind.u64.wrap (((min (x + y) (u + v) : Nat) : Int) - ((max x u : Nat) : Int)) = (comLen x y u v : Int)) ∨ (comOk x y u v = false ∧ comAt x y u v = 0 ∧ comLen x y u v = 0 ∧ decide (max x u < min (x + y) (u + v)) = false) := by
                        unfold comOk comAt comLen
                        by_cases h : max x u < min (x + y) (u + v)
                        · left
                          simp only [h, if_true, decide_true]
                          refine ⟨trivial, trivial, trivial, ?_⟩
                          rw [IntKind.wrap_u64]; omega
                        · right
                          simp only [h, if_false, decide_false]
                          exact ⟨trivial, trivial, trivial, trivial⟩
                      clear HCM
                      generalize comOk x y u v = ok at *
                      generalize comAt x y u v = ca' at *
                      generalize comLen x y u v = cl' at *
                      go_wp2_with fail
                      go_quiet (fail)
                      generalize max x u = mx at *
                      generalize min (x + y) (u + v) = mn at *
                      have hg8 := below_drewN hBW nq
                      have t1' : (W2.drewN nq).cell? ⟨P, 0, none⟩ = some (.int .u64 (ca' : Int)) := t1
                      have t2' : (W2.drewN nq).cell? ⟨P, 1, none⟩ = some (.int .u64 (cl' : Int)) := t2
                      clear t1 t2 f1 f2 f3 f4 hBW
                      rcases hcs with ⟨rfl, rfl, e3, e4⟩ | ⟨rfl, rfl, rfl, e3⟩
                      all_goals
                        go_wp2
                        go_roundw
                        case rel => exact ⟨m + 1, by omega, by go_num, hg8⟩
                        case measure => simp [intOf]; omega
                    · go_split_ands
                      have hBW : Below w2.heap.size w2 ((wx.setCell ⟨wr.heap.size, 0, none⟩ (.int .u64 (comAt x y u v : Int))).setCell ⟨wr.heap.size, 1, none⟩ (.int .u64 (comLen x y u v : Int))) := (((hg6.alloc hws6 _).drew.trans (hbx.mono (by show _ ≤ (wr.alloc _).heap.size; simp; omega))).setCell hws6 _).setCell hws6 _
                      have t1 : ((wx.setCell ⟨wr.heap.size, 0, none⟩ (.int .u64 (comAt x y u v : Int))).setCell ⟨wr.heap.size, 1, none⟩ (.int .u64 (comLen x y u v : Int))).cell? ⟨wr.heap.size, 0, none⟩ = some (.int .u64 (comAt x y u v : Int)) := by
                        rw [World.cell?_setCell_other _ _ _ _ (by simp)]; exact World.cell?_setCell_same _ _ _ z1
                      have t2 : ((wx.setCell ⟨wr.heap.size, 0, none⟩ (.int .u64 (comAt x y u v : Int))).setCell ⟨wr.heap.size, 1, none⟩ (.int .u64 (comLen x y u v : Int))).cell? ⟨wr.heap.size, 1, none⟩ = some (.int .u64 (comLen x y u v : Int)) := World.cell?_setCell_same _ _ _ (u := .int .u64 0) (by rw [World.cell?_setCell_other _ _ _ _ (by simp)]; exact z2)
                      have f1 := far2 _ wr.heap.size b1 _ (.int .u64 (comAt x y u v : Int)) (.int .u64 (comLen x y u v : Int)) hbw qq1
                      have f2 := far2 _ wr.heap.size b1 _ (.int .u64 (comAt x y u v : Int)) (.int .u64 (comLen x y u v : Int)) hbw qq2
                      have f3 := far2 _ wr.heap.size b1 _ (.int .u64 (comAt x y u v : Int)) (.int .u64 (comLen x y u v : Int)) hbw qq3
                      have f4 := far2 _ wr.heap.size b1 _ (.int .u64 (comAt x y u v : Int)) (.int .u64 (comLen x y u v : Int)) hbw qq4
                      generalize (wx.setCell ⟨wr.heap.size, 0, none⟩ (.int .u64 (comAt x y u v : Int))).setCell ⟨wr.heap.size, 1, none⟩ (.int .u64 (comLen x y u v : Int)) = W2 at *
                      generalize wr.heap.size = P at *
                      clear qq1 qq2 qq3 qq4 k1 k2 k3 k4 z1 z2 z3 z4 hbx
                      have hsA := u64_add' x y (by omega)
                      have hsB := u64_add' u v (by omega)
                      have hmx := max_cast x u
                      have hmn : min ((x : Int) + (y : Int)) ((u : Int) + (v : Int)) = ((min (x + y) (u + v) : Nat) : Int) := by omega
                      have hcs : (comOk x y u v = true ∧ comAt x y u v = max x u ∧ decide (max x u < min (x + y) (u + v)) = true ∧ IntKind.u64.wrap (((min (x + y) (u + v) : Nat) : Int) - ((max x u : Nat) : Int)) = (comLen x y u v : Int)) ∨ (comOk x y u v = false ∧ comAt x y u v = 0 ∧ comLen x y u v = 0 ∧ decide (max x u < min (x + y) (u + v)) = false) := by
                        unfold comOk comAt comLen
                        by_cases h : max x u < min (x + y) (u + v)
                        · left
                          simp only [h, if_true, decide_true]
                          refine ⟨trivial, trivial, trivial, ?_⟩
                          rw [IntKind.wrap_u64]; omega
                        · right
                          simp only [h, if_false, decide_false]
                          exact ⟨trivial, trivial, trivial, trivial⟩
                      clear HCM
                      generalize comOk x y u v = ok at *
                      generalize comAt x y u v = ca' at *
                      generalize comLen x y u v = cl' at *
                      go_wp2_with fail
                      go_quiet (fail)
                      generalize max x u = mx at *
                      generalize min (x + y) (u + v) = mn at *
                      have hg8 := below_drewN hBW nq
                      have t1' : (W2.drewN nq).cell? ⟨P, 0, none⟩ = some (.int .u64 (ca' : Int)) := t1
                      have t2' : (W2.drewN nq).cell? ⟨P, 1, none⟩ = some (.int .u64 (cl' : Int)) := t2
                      clear t1 t2 f1 f2 f3 f4 hBW
                      rcases hcs with ⟨rfl, rfl, e3, e4⟩ | ⟨rfl, rfl, rfl, e3⟩
                      all_goals
                        go_wp2
                        go_roundw
                        case rel => exact ⟨m + 1, by omega, by go_num, hg8⟩
                        case measure => simp [intOf]; omega
                  · obtain rfl : m = A.length := by omega
                    have hdm : decide (A.length < A.length) = false := by simp
                    go_wp2
                    go_roundw
                    case rel => exact ⟨i + 1, by omega, by go_num, hg6⟩
                    case measure => simp [intOf]; omega
              · obtain rfl : i = A.length := by omega
                have hdi : decide (A.length < A.length) = false := by simp
                have hfin : Below w.heap.size w wr := hB2.trans (hg5.mono hws2)
                go_wp2
                go_ret
                exact ⟨rfl, hfin⟩
end Go.Proofs.Ytibgcnggimlbcaa
