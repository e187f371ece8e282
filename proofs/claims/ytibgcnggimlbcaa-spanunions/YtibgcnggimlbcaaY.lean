/- The contract of span.ascending: the spans that are not empty, in ascending order. Conditions: those written in each theorem. -/
import Derived.Test.YtibgcnggimlbcaaW
namespace Go.Proofs.Ytibgcnggimlbcaa
open Go.RowKit Go.Shelf Go.Sort
/-- The cells of spans, one behind the other. -/
def flat (l : List (Nat × Nat)) : List Value := l.flatMap encS
theorem flat_length (l : List (Nat × Nat)) : (flat l).length = 2 * l.length := by
  induction l with
  | nil => rfl
  | cons x l ih => simp [flat, encS] at *; omega
theorem flat_append (l m : List (Nat × Nat)) : flat (l ++ m) = flat l ++ flat m := by simp [flat]
/-- A slice of spans that can be read. -/
def RowS (w : World) (a : Option Addr) (len : Nat) (ds : List (Nat × Nat)) : Prop :=
  ∀ k, k < len → ∃ b off, a = some ⟨b, off, none⟩ ∧ b < w.heap.size ∧ w.cell? ⟨b, off + k * 2, none⟩ = some (.int .u64 ((ds.getD k (0, 0)).1 : Int)) ∧ w.cell? ⟨b, off + k * 2 + 1, none⟩ = some (.int .u64 ((ds.getD k (0, 0)).2 : Int))
def full (ds : List (Nat × Nat)) : List (Nat × Nat) := ds.filter fun s => decide (0 < s.2)
theorem info52 : (Try.prog.info? 52).map (fun i => (i.zero, i.size, i.bytes)) = some (some (.agg #[.int .u64 0, .int .u64 0]), 2, 16) := by kernel_rfl
theorem full_step (ds : List (Nat × Nat)) (k : Nat) (h : k < ds.length) : full (ds.take (k + 1)) = full (ds.take k) ++ (if 0 < (ds.getD k (0, 0)).2 then [ds.getD k (0, 0)] else []) := by
  unfold full
  rw [List.take_succ_eq_append_getElem h, List.filter_append]
  have e : ds.getD k (0, 0) = ds[k] := by rw [List.getD_eq_getElem?_getD, List.getElem?_eq_getElem h]; rfl
  rw [e]
  congr 1
  by_cases h2 : 0 < ds[k].2 <;> simp [h2]
theorem full_le (ds : List (Nat × Nat)) (k : Nat) : (full (ds.take k)).length ≤ k := by
  unfold full
  exact Nat.le_trans (List.length_filter_le _ _) (by rw [List.length_take]; omega)
theorem sortWorld_below (w : World) (B g n : Nat) (d : Array (Nat × Nat)) (os : Array Obj) (hB : B ≤ g) (hBw : B ≤ w.heap.size) : Below B w (sortWorldK encS 2 w g 0 n d os) := by
  refine ⟨rfl, rfl, rfl, ?_, ?_⟩
  · show w.heap.size ≤ ((putRow id (Sort.ahead w n) g 0 (flatK encS 2 d)).heap ++ os).size
    rw [Array.size_append, Go.Sort.size_putRow]
    show w.heap.size ≤ w.heap.size + os.size
    omega
  · intro k hk
    show ((putRow id (Sort.ahead w n) g 0 (flatK encS 2 d)).heap ++ os)[k]? = w.heap[k]?
    rw [Array.getElem?_append_left (by rw [Go.Sort.size_putRow]; show k < w.heap.size; omega)]
    show ((Sort.ahead w n).heap.modify g _)[k]? = _
    rw [Array.getElem?_modify, if_neg (by omega)]
    rfl
theorem insertion54_none (p : Option Addr) (cap : Nat) (fv : Value) (w : World) : Calls Try.prog 54 #[.slice p 0 cap, .int .i64 0, .int .i64 0, fv] w fun e w' => e = .returned (.tuple #[]) ∧ w = w' := by
  go_enter Try.func54, Try.ntmps54
  go_wp2
  refine wp_loop_rounds 1 ?_
  rw [rounds_succ]
  go_wp2
  go_end0
  exact ⟨rfl, rfl⟩
set_option maxRecDepth 100000 in
theorem pdq51_none (p : Option Addr) (cap : Nat) (l : Int) (fv : Value) (w : World) : Calls Try.prog 51 #[.slice p 0 cap, .int .i64 0, .int .i64 0, .int .i64 l, fv] w fun e w' => e = .returned (.tuple #[]) ∧ w = w' := by
  go_enter Try.func51, Try.ntmps51
  go_wp2
  refine wp_loop_rounds 1 ?_
  rw [rounds_succ]
  go_wp2_with (go_at_call 54; refine (insertion54_none _ _ _ _).mono ?_; rintro e w' ⟨rfl, rfl⟩)
  exact bodyPost_ret (v := .tuple #[]) (by simp [results, Try.results51, go_sem]) rfl ⟨rfl, rfl⟩
theorem sort47_none (p : Option Addr) (cap : Nat) (fv : Value) (w : World) : Calls Try.prog 47 #[.slice p 0 cap, fv] w fun e w' => e = .returned (.tuple #[]) ∧ w = w' := by
  go_enter Try.func47, Try.ntmps47
  go_wp2_with fail
  refine (len52 0 _ (by omega)).mono ?_
  rintro e w' ⟨⟨l, rfl⟩, rfl⟩
  go_wp2_with fail
  refine (pdq51_none _ _ _ _ _).mono ?_
  rintro e w' ⟨rfl, rfl⟩
  go_wp2
  go_end0
  exact ⟨rfl, rfl⟩
theorem flat_get (l : List (Nat × Nat)) (j c : Nat) (hj : j < l.length) (hc : c < 2) : (flat l)[j * 2 + c]? = some ((encS (l[j]))[c]'(by simpa [encS] using hc)) := by
  induction l generalizing j with
  | nil => simp at hj
  | cons x l ih =>
    have e : flat (x :: l) = encS x ++ flat l := by simp [flat]
    rw [e]
    cases j with
    | zero =>
      rw [List.getElem?_append_left (by simp [encS]; omega)]
      simp only [Nat.zero_mul, Nat.zero_add, List.getElem_cons_zero]
      exact List.getElem?_eq_getElem _
    | succ j =>
      rw [List.getElem?_append_right (by simp [encS]; omega)]
      have e2 : (j + 1) * 2 + c - (encS x).length = j * 2 + c := by simp [encS]; omega
      rw [e2, ih j (by simpa using hj)]
      simp
theorem getElem!_toArray (l : List (Nat × Nat)) (i : Nat) (h : i < l.length) : l.toArray[i]! = l[i] := by simp [h]
/-- Spans in ascending order of their first bytes. -/
def Asc (l : List (Nat × Nat)) : Prop := ∀ i j (hi : i < l.length) (hj : j < l.length), i < j → l[i].1 ≤ l[j].1
theorem owns_holds {w : World} {B g n cap : Nat} {l : List (Nat × Nat)} (hn : n = l.length) (h : w.ownsRow B 52 2 (.slice (some ⟨g, 0, none⟩) n cap) n (flat l)) : HoldsK encS 2 w g 0 l.toArray ∧ g < w.heap.size ∧ B ≤ g := by
  subst hn
  rcases h.2 with ⟨h0, _⟩ | ⟨g', cap', cur, hv, hB, hg, _, _, hsz, htake⟩
  · simp at h0
  · simp only [Value.slice.injEq, Option.some.injEq, Addr.mk.injEq, and_true, true_and] at hv
    obtain ⟨rfl, rfl⟩ := hv
    refine ⟨?_, (Array.getElem?_eq_some_iff.1 hg).1, hB⟩
    intro t ht
    rw [size_flatK, List.size_toArray] at ht
    rw [get_flatK _ _ _ _ (by simpa using ht)]
    have hd : t / 2 < l.length := by omega
    have hget : cur[t]? = (flat l)[t]? := by
      rw [← htake, List.getElem?_take, if_pos (by omega)]
      simp
    have hfl := flat_get l (t / 2) (t % 2) hd (by omega)
    rw [show t / 2 * 2 + t % 2 = t by omega] at hfl
    constructor
    · simp only [World.cell?, hg, Nat.zero_add, Option.isSome_none, Bool.false_eq_true, if_false]
      rw [hget, hfl, getElem!_toArray l _ hd, getElem!_pos (encS l[t / 2]) (t % 2) (by simp [encS]; omega)]
      rfl
    · simp [World.frozen?, hg]
/-- What ascending hands back. -/
def AscPost (w : World) (ds : List (Nat × Nat)) (e : Ending) (w' : World) : Prop :=
  ∃ ao cap d, e = .returned (.slice ao d.length cap) ∧ d.Perm (full ds) ∧ Asc d ∧ RowS w' ao d.length d ∧ Below w.heap.size w w'
theorem sorted_row (w : World) (g n : Nat) (d0 d : Array (Nat × Nat)) (os : Array Obj) (hH : HoldsK encS 2 w g 0 d0) (hg : g < w.heap.size) (hs : d.size = d0.size) :
    RowS (sortWorldK encS 2 w g 0 n d os) (some ⟨g, 0, none⟩) d.size d.toList := by
  intro k hk
  have h1 : HoldsK encS 2 (sortWorldK encS 2 w g 0 n d os) g 0 d := by
    unfold sortWorldK
    refine holdsK_grow (α := Nat × Nat) (enc := encS) (k := 2) _ _ _ _ _ ?_ ?_
    · show g < (putRow id (Sort.ahead w n) g 0 (flatK encS 2 d)).heap.size
      rw [Go.Sort.size_putRow]; exact hg
    · exact holdsK_putRowK (α := Nat × Nat) (enc := encS) (k := 2) _ _ _ d0 d (holdsK_ahead (α := Nat × Nat) (enc := encS) (k := 2) _ _ _ _ _ hH) hs
  have e : d.toList.getD k (0, 0) = d[k]! := by
    rw [List.getD_eq_getElem?_getD, List.getElem?_eq_getElem (by simpa using hk), getElem!_pos d k hk]; simp
  have a0 := (h1.cell hk (c := 0) (by omega)).1
  have a1 := (h1.cell hk (c := 1) (by omega)).1
  refine ⟨g, 0, rfl, ?_, ?_, ?_⟩
  · have := (sortWorld_below w 0 g n d os (Nat.zero_le _) (Nat.zero_le _)).size
    omega
  · rw [e]; exact a0
  · rw [e]; exact a1
set_option maxRecDepth 100000 in
set_option maxHeartbeats 1000000 in
theorem ascending_any (a : Option Addr) (len cap : Nat) (ds : List (Nat × Nat)) (w : World) (hl : ds.length = len) (h12 : len ≤ 12) (hrow : RowS w a len ds) :
    Calls Try.prog 44 #[.slice a len cap] w (AscPost w ds) := by
  obtain ⟨i0, hi, hz0, hz1, hz2⟩ := info_parts info52
  have HROW := Lib.hid hrow; clear hrow
  have HL := Lib.hid hl; clear hl
  go_enter Try.func44, Try.ntmps44
  go_wp2
  go_loopw [3, 5, 8] (fun v _ i wr => ∃ k : Nat, k ≤ len ∧ i = .int .i64 k ∧ wr.ownsRow w.heap.size 52 2 v (full (ds.take k)).length (flat (full (ds.take k))) ∧ Below w.heap.size w wr) (fun _ _ i _ => len - (intOf i).toNat)
  case atStart => exact ⟨0, Nat.zero_le _, rfl, World.ownsRow_nil _ _ _ _, Below.refl _ _⟩
  case round =>
    obtain ⟨k, hk, rfl, hown, hg⟩ := hrel
    by_cases hlt : k < len
    · obtain ⟨b, off, rfl, hb, hc1, hc2⟩ := HROW.out k hlt
      have hc1w := (hg.cell (p := ⟨b, off + k * 2, none⟩) hb).trans hc1
      have hc2w := (hg.cell (p := ⟨b, off + k * 2 + 1, none⟩) hb).trans hc2
      clear hc1 hc2
      have hstep := full_step ds k (by have := HL.out; omega)
      have hle := full_le ds k
      generalize hp : ds.getD k (0, 0) = p at *
      obtain ⟨x, y⟩ := p
      simp only at hc1w hc2w hstep
      have HST := Lib.hid hstep
      clear hstep hp
      have hi0 : (0 : Int) ≤ (k : Int) := by omega
      have hi1 : (k : Int) < (len : Int) := by omega
      have hws := hg.size
      by_cases hy : 0 < y
      · have hd : decide (0 < y) = true := by simpa using hy
        have hst2 := HST.out
        rw [if_pos hy] at hst2
        generalize full (ds.take k) = L at *
        have HS2 := Lib.hid hst2; clear hst2 HST
        go_wp2_with (at_builtin; refine wpList_append_own _ rfl _ _ 60 rfl w.heap.size 52 i0 (.agg #[.int .u64 0, .int .u64 0]) 2 16 Try.underlying60 hi hz0 hz1 hz2 rfl (by decide) _ _ _ rfl ((hown.alloc _).alloc _) ⟨wr.heap.size + 1, 0, none⟩ 1 1 [.int .u64 (x : Int), .int .u64 (y : Int)] rfl rfl ?c1 ?c2 ?c3 ?c4 ?c5 ?_)
        case c1 =>
          intro j u hj
          match j, hj with
          | 0, hj => simp at hj; subst hj; simp [Addr.add]
          | 1, hj => simp at hj; subst hj; simp [Addr.add]
        case c2 => intro u hu; simp at hu; rcases hu with rfl | rfl <;> rfl
        case c3 => unfold maxLen; omega
        case c4 => omega
        case c5 => simp; omega
        intro v' w1 hown' hgrow _
        have hown2 : w1.ownsRow w.heap.size 52 2 v' (full (ds.take (k + 1))).length (flat (full (ds.take (k + 1)))) := by
          rw [HS2.out, flat_append, List.length_append]
          exact hown'
        have hg2 : Below w.heap.size w w1 := by
          have h2 : Below w.heap.size w ((wr.alloc (.cells #[.int .u64 (x : Int), .int .u64 (y : Int)] 52)).alloc (.cells #[.int .u64 (x : Int), .int .u64 (y : Int)] 52)) := (hg.alloc hws _).alloc (by simp; omega) _
          exact h2.grown hgrow (by simp; omega) (fun q hq => (hown.lt q hq).1)
        have HO := Lib.hid hown2
        clear hown' hgrow hown hc1w hc2w hown2
        go_wp2
        go_roundw
        case rel => exact ⟨k + 1, by omega, by go_num, HO.out, hg2⟩
        case measure => simp [intOf]; omega
      · have hd : decide (0 < y) = false := by simpa using hy
        have hst2 := HST.out
        rw [if_neg hy, List.append_nil] at hst2
        rw [← hst2] at hown
        clear hst2 HST
        have hg2 : Below w.heap.size w (wr.alloc (.cells #[.int .u64 (x : Int), .int .u64 (y : Int)] 52)) := hg.alloc hws _
        have hown2 := hown.alloc (.cells #[.int .u64 (x : Int), .int .u64 (y : Int)] 52)
        have HO := Lib.hid hown2
        clear hown hown2
        go_wp2
        go_roundw
        case rel => exact ⟨k + 1, by omega, by go_num, HO.out, hg2⟩
        case measure => simp [intOf]; omega
    · obtain rfl : k = len := by omega
      have e : ds.take k = ds := by rw [← HL.out]; simp
      have hle := full_le ds k
      rw [e] at hown hle
      clear HROW
      have hws := hg.size
      by_cases h0 : (full ds).length = 0
      · obtain ⟨ao, cap2, hu⟩ : ∃ ao cap2, u3 = Value.slice ao 0 cap2 := by
          rw [h0] at hown
          rcases hown.2 with ⟨hv, _⟩ | ⟨g, cap, cur, hv, _⟩
          · exact ⟨_, _, hv⟩
          · exact ⟨_, _, hv⟩
        subst hu
        have hnil : full ds = [] := List.eq_nil_of_length_eq_zero h0
        have HNIL := Lib.hid hnil
        clear hown h0 hnil e hle
        go_wp2_with (go_at_call 47; refine (sort47_none _ _ _ _).mono ?_; rintro e w' ⟨rfl, rfl⟩)
        go_ret
        exact ⟨ao, cap2, [], rfl, by rw [HNIL.out], fun i j hi => by simp at hi, fun i hi => by simp at hi, hg⟩
      · obtain ⟨g, cap2, hu⟩ : ∃ g cap2, u3 = Value.slice (some ⟨g, 0, none⟩) (full ds).length cap2 := by
          rcases hown.2 with ⟨_, hv⟩ | ⟨g, cap, cur, hv, _⟩
          · exact absurd hv h0
          · exact ⟨_, _, hv⟩
        subst hu
        obtain ⟨hH, hgl, hgB⟩ := owns_holds rfl hown
        have hsz : (full ds).toArray.size = (full ds).length := by simp
        have hs := sort47 g 0 cap2 (full ds).toArray wr hH hgl (by omega)
        rw [hsz] at hs
        have HS := Lib.hid hs
        have HH := Lib.hid hH
        have HSZ := Lib.hid hsz
        clear hown hs hH hsz e
        go_wp2_with (go_at_call 47; refine HS.out.mono ?_; rintro e w' ⟨rfl, d', n, os, hperm, hsort, rfl⟩)
        go_ret
        have hds : d'.size = (full ds).toArray.size := hperm.1
        have hdl : d'.toList.length = (full ds).length := by simp [hds]
        refine ⟨some ⟨g, 0, none⟩, cap2, d'.toList, by rw [hdl]; rfl, ?_, ?_, ?_, hg.trans (sortWorld_below wr w.heap.size g n d' os hgB hws)⟩
        · have hp := hperm.2.2
          have e1 : d'.extract 0 (full ds).length = d' := by rw [← hdl]; simp
          have e2 : (full ds).toArray.extract 0 (full ds).length = (full ds).toArray := by simp
          rw [e1, e2] at hp
          simpa using hp
        · intro i j hi hj hij
          have h2 := hsort i j (Nat.zero_le _) hij (by rw [← hdl]; exact hj)
          rw [ltS] at h2
          simp only [Array.length_toList] at hi hj
          rw [getElem!_pos d' i hi, getElem!_pos d' j hj] at h2
          simp at h2
          simpa using h2
        · have := sorted_row wr g n (full ds).toArray d' os HH.out hgl hds
          rw [← Array.length_toList] at this
          exact this
end Go.Proofs.Ytibgcnggimlbcaa
