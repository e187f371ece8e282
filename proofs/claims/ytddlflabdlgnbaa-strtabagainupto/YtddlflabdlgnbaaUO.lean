/- The contract of strtab's offsets: the offset of each entry. Conditions: those written in each theorem. -/
import Derived.Test.YtddlflabdlgnbaaUN
import Derived.StringKeys
import Derived.Test.YtddlflabdlgnbaaUP
namespace Go.Proofs.Ytddlflabdlgnbaa
open Go.RowKit Go.Sort Go.Maps Go.WideMaps
attribute [local go_sem] Oper.semAt_some
def OffPost (H : Type) (g : Nat) (E : List Ent) (w : World) (e : Ending) (w' : World) : Prop :=
  ∃ mb : Nat, w.heap.size ≤ mb ∧ e = .returned (.map (some mb)) ∧ w'.ownsMap Try.prog 9 (plainElem Try.prog 32) mb E.length (mp H E E.length) ∧ But g w w'
theorem makeMap_some (n : Nat) (w : World) : (Instr.makeMap 103 (some (.int .i64 (n : Int)))).run Try.prog w = .ok (.map (some w.heap.size)) (w.alloc (.map #[] 0)) := by
  simp [Instr.makeMap, go_sem, run_underlying Try.underlying103]
theorem boxN (W : World) (v : Value) (t : TypeId) : (W.alloc (.cells #[v] t)).cell? ⟨W.heap.size, 0, none⟩ = some v := by simp
theorem cell_old {W : World} {p : Addr} {v : Value} (o : Obj) (h : W.cell? p = some v) : (W.alloc o).cell? p = some v := by
  have hlt : p.block < W.heap.size := by
    rcases Nat.lt_or_ge p.block W.heap.size with h' | h'
    · exact h'
    · simp [World.cell?, Array.getElem?_eq_none h'] at h
  rw [World.cell?_of_block (w := W) (Below.heap_alloc _ _ _ hlt)]; exact h
theorem set_grown (W : World) (g j : Nat) (v : Value) : W.grownBy (W.setCell ⟨g, j, none⟩ v) (some g) :=
  ⟨rfl, rfl, rfl, by simp [World.setCell], fun k _ hk => Below.heap_setCell _ _ _ _ (fun e => hk (by rw [e]))⟩
theorem set_other (W : World) (g j : Nat) (x : Value) {p : Addr} {v : Value} (hne : g ≠ p.block) (h : W.cell? p = some v) : (W.setCell ⟨g, j, none⟩ x).cell? p = some v := by
  rw [World.cell?_of_block (w := W) ((set_grown W g j x).block p.block ?_ (fun e => hne (Option.some.inj e).symm))]
  · exact h
  · rcases Nat.lt_or_ge p.block W.heap.size with h' | h'
    · exact h'
    · simp [World.cell?, Array.getElem?_eq_none h'] at h
set_option maxRecDepth 100000 in
set_option maxHeartbeats 4000000 in
theorem offsets_any {H : Type} (m : Nat) (hm : 4 ≤ m) (g cap : Nat) (E : List Ent) (ok : OffOk E) (w : World) (hR : RowE w g E) :
    CallsIn Fence.wide m Try.prog 52 #[.slice (some ⟨g, 0, none⟩) E.length cap] w (OffPost H g E w) := by
  have h1 : 1 ≤ m := by omega
  have hE := ok.len
  have hgl := hR.lt
  refine callsIn_of_wp_marks Try.func52 rfl trivial ?_ rfl
  simp only [Try.ntmps52, List.size_toArray, List.length_cons, List.length_nil, Nat.reduceAdd, Nat.reduceSub, Array.replicate_succ, Array.replicate_zero, List.push_toArray, List.append_toArray, List.nil_append, List.cons_append]
  have hmm := makeMap_some E.length
  gi_wp2
  clear hmm
  refine ⟨trivial, (backward_in g E.length cap _ _).mono ?_⟩
  rintro e w' ⟨rfl, rfl⟩
  gi_wp2
  have hRW : RowE ((((w.alloc (.cells #[.slice (some ⟨g, 0, none⟩) E.length cap] 100)).alloc (.map #[] 0)).alloc (.cells #[.map (some (w.heap.size + 1))] 103)).alloc (.cells #[.slice (some ⟨g, 0, none⟩) E.length cap] 100)) g E := (((hR.alloc _).alloc _).alloc _).alloc _
  have hc1 : ((((w.alloc (.cells #[.slice (some ⟨g, 0, none⟩) E.length cap] 100)).alloc (.map #[] 0)).alloc (.cells #[.map (some (w.heap.size + 1))] 103)).alloc (.cells #[.slice (some ⟨g, 0, none⟩) E.length cap] 100)).cell? ⟨w.heap.size, 0, none⟩ = some (.slice (some ⟨g, 0, none⟩) E.length cap) := cell_old _ (cell_old _ (cell_old _ (boxN w _ _)))
  have hcA : ((((w.alloc (.cells #[.slice (some ⟨g, 0, none⟩) E.length cap] 100)).alloc (.map #[] 0)).alloc (.cells #[.map (some (w.heap.size + 1))] 103)).alloc (.cells #[.slice (some ⟨g, 0, none⟩) E.length cap] 100)).cell? ⟨w.heap.size + 1 + 1, 0, none⟩ = some (.map (some (w.heap.size + 1))) := cell_old _ (by have h := boxN ((w.alloc (.cells #[.slice (some ⟨g, 0, none⟩) E.length cap] 100)).alloc (.map #[] 0)) (.map (some (w.heap.size + 1))) 103; simpa using h)
  have hc2 : ((((w.alloc (.cells #[.slice (some ⟨g, 0, none⟩) E.length cap] 100)).alloc (.map #[] 0)).alloc (.cells #[.map (some (w.heap.size + 1))] 103)).alloc (.cells #[.slice (some ⟨g, 0, none⟩) E.length cap] 100)).cell? ⟨w.heap.size + 1 + 1 + 1, 0, none⟩ = some (.slice (some ⟨g, 0, none⟩) E.length cap) := by have h := boxN (((w.alloc (.cells #[.slice (some ⟨g, 0, none⟩) E.length cap] 100)).alloc (.map #[] 0)).alloc (.cells #[.map (some (w.heap.size + 1))] 103)) (.slice (some ⟨g, 0, none⟩) E.length cap) 100; simpa using h
  have hmp : ((((w.alloc (.cells #[.slice (some ⟨g, 0, none⟩) E.length cap] 100)).alloc (.map #[] 0)).alloc (.cells #[.map (some (w.heap.size + 1))] 103)).alloc (.cells #[.slice (some ⟨g, 0, none⟩) E.length cap] 100)).ownsMap Try.prog 9 (plainElem Try.prog 32) (w.heap.size + 1) 0 (mp H E 0) := by
    have h := World.ownsMap_made (H := H) (w.alloc (.cells #[.slice (some ⟨g, 0, none⟩) E.length cap] 100)) Try.prog 9 (plainElem Try.prog 32)
    rw [World.size_alloc] at h
    exact (h.alloc _).alloc _
  have hbt : But g w ((((w.alloc (.cells #[.slice (some ⟨g, 0, none⟩) E.length cap] 100)).alloc (.map #[] 0)).alloc (.cells #[.map (some (w.heap.size + 1))] 103)).alloc (.cells #[.slice (some ⟨g, 0, none⟩) E.length cap] 100)) := But.of_below ((((((Below.refl _ w).alloc (Nat.le_refl _) _).alloc (by simp) _).alloc (by simp; omega) _).alloc (by simp; omega) _))
  have hz4 : w.heap.size + 4 = ((((w.alloc (.cells #[.slice (some ⟨g, 0, none⟩) E.length cap] 100)).alloc (.map #[] 0)).alloc (.cells #[.map (some (w.heap.size + 1))] 103)).alloc (.cells #[.slice (some ⟨g, 0, none⟩) E.length cap] 100)).heap.size := by simp
  generalize ((((w.alloc (.cells #[.slice (some ⟨g, 0, none⟩) E.length cap] 100)).alloc (.map #[] 0)).alloc (.cells #[.map (some (w.heap.size + 1))] 103)).alloc (.cells #[.slice (some ⟨g, 0, none⟩) E.length cap] 100)) = W0 at *
  refine range_fits rfl h1 (gf := 99) (lb := #[.pointer (some ⟨w.heap.size + 1 + 1 + 1, 0, none⟩)]) rfl trivial (enters_of Try.func99 (by kernel_rfl) rfl) (Kp := fun _ _ => True) (S := fun xs => xs.length = E.length) (N := E.length)
    (fun pre W => (RowE W g (st E pre.length) ∧ W.cell? ⟨w.heap.size, 0, none⟩ = some (.slice (some ⟨g, 0, none⟩) E.length cap) ∧ W.cell? ⟨w.heap.size + 1 + 1, 0, none⟩ = some (.map (some (w.heap.size + 1))) ∧ W.cell? ⟨w.heap.size + 1 + 1 + 1, 0, none⟩ = some (.slice (some ⟨g, 0, none⟩) E.length cap)) ∧ W.ownsMap Try.prog 9 (plainElem Try.prog 32) (w.heap.size + 1) pre.length (mp H E pre.length) ∧ But g w W ∧ w.heap.size + 4 ≤ W.heap.size)
    (fun pre x => x = yld E pre.length)
    (backward_fits (m - 1) g cap (w.heap.size + 1 + 1 + 1) (by omega) E hE _ _ (fun pre W h => ⟨h.1.1, h.1.2.2.2⟩) W0)
    (fun _ _ => trivial) (fun _ _ _ _ _ _ _ _ => trivial) (fun _ => rfl)
    (OwnFrom.and (OwnFrom.and (rowE_own _ g (by omega) (fun pre => st E pre.length)) (OwnFrom.and (cell_own _ _ _ (by show w.heap.size < _; omega)) (OwnFrom.and (cell_own _ _ _ (by show w.heap.size + 1 + 1 < _; omega)) (cell_own _ _ _ (by show w.heap.size + 1 + 1 + 1 < _; omega))))) (OwnFrom.and (map_own _ _ (by omega) (fun pre => mp H E pre.length) (fun pre => pre.length)) (OwnFrom.and (but_own _ g w (by omega)) (fun _ _ _ _ hs hg _ => Nat.le_trans hs hg.size))))
    ⟨⟨hRW, hc1, hcA, hc2⟩, hmp, hbt, by omega⟩
    (fun x a' W => ∃ Bx, w.heap.size + 4 ≤ Bx ∧ W.heap[Bx]? = some (.cells #[encStr x.2.name, encStr x.2.name.reverse, .int .i64 x.2.last, .int .i64 x.2.fin, .int .i64 x.2.tail] 140 (0, 0)) ∧ a' = { tmps := #[.slice (some ⟨g, 0, none⟩) E.length cap, .pointer (some ⟨w.heap.size, 0, none⟩), .map none, .pointer (some ⟨w.heap.size + 1 + 1, 0, none⟩), undef, .pointer (some ⟨Bx, 0, none⟩), undef, .slice (some ⟨g, 0, none⟩) E.length cap, .int .i64 (E.length : Int), .map (some (w.heap.size + 1)), .slice (some ⟨g, 0, none⟩) E.length cap, .func (.func 99) #[] #[.pointer (some ⟨w.heap.size + 1 + 1 + 1, 0, none⟩)], .int .i64 (x.1 : Int), .agg #[encStr x.2.name, encStr x.2.name.reverse, .int .i64 x.2.last, .int .i64 x.2.fin, .int .i64 x.2.tail], undef, undef, undef, undef, undef, undef, undef, undef, undef, undef, undef, undef, undef, undef, undef, undef, undef, undef, undef, undef, undef, undef, undef, undef, undef, undef, undef, undef, undef, undef, undef, undef, undef, undef, undef, undef, undef], defers := [] })
    ?hAx ?assign ?body ?done
  case hAx =>
    rintro x a' _ A B row ⟨Bx, h1, h2, h3⟩ hg hr
    refine ⟨Bx, h1, ?_, h3⟩
    rw [hg.block Bx (Array.getElem?_eq_some_iff.1 h2).1 (fun e => ?_)]
    · exact h2
    · obtain ⟨_, o, ho, hc⟩ := hr Bx e.symm
      rw [h2] at ho
      cases ho
      cases hc
  case assign =>
    rintro l pre x W K ⟨⟨i1, i2, i3, i4⟩, i5, i6, i7⟩ hK
    unfold encY
    gi_wp2
    refine hK _ _ ((KeepsOthers.alloc _ _).from _) trivial ⟨⟨i1.alloc _, cell_old _ i2, cell_old _ i3, cell_old _ i4⟩, i5.alloc _, i6.trans (But.of_below ((Below.refl _ _).alloc (Nat.le_refl _) _)), by simp; omega⟩ ⟨W.heap.size, i7, heap_alloc_new _ _, rfl⟩
  case body =>
    rintro l pre x a' W hl ⟨⟨i1, i2, i3, i4⟩, i5, i6, i7⟩ hG ⟨Bx, hBx, hblk, rfl⟩ hlen
    obtain ⟨k, hk⟩ : ∃ k, pre.length = k := ⟨_, rfl⟩
    rw [hk] at i1 i5 hG hlen
    subst hG
    unfold yld at hblk
    dsimp only at hblk
    have okk := ok.st k
    have hil : E.length - 1 - k < (st E k).length := by rw [st_len]; omega
    obtain ⟨e, he⟩ : ∃ e, nextE E k = e := ⟨_, rfl⟩
    have hef : 0 ≤ e.fin ∧ e.fin ≤ 1048577 := by rw [← he]; exact okk.fin _
    have hen : e.name.length ≤ 4294967296 := by rw [← he]; exact okk.name _
    have het : -1 ≤ e.tail ∧ e.tail < ((E.length - 1 - k : Nat) : Int) := by rw [← he]; exact okk.tail _ hil
    have hst : st E (k + 1) = upd (st E k) e := by rw [st_succ, he]
    have hmpS : mp H E (k + 1) = (mp H E k).put (.string e.name) (.lit (.int .u64 (offOf e))) := by show (mp H E k).put _ _ = _; rw [he]
    have hyd : yld E k = (E.length - 1 - k, e) := by unfold yld; rw [he]
    rw [hyd]
    rw [he] at hblk
    have hsl := st_len E k
    have c0 : W.cell? ⟨Bx, 0, none⟩ = some (.string ⟨e.name.toArray⟩) := by rw [Lib.cell_of_heap hblk]; rfl
    have c3 : W.cell? ⟨Bx, 3, none⟩ = some (.int .i64 e.fin) := by rw [Lib.cell_of_heap hblk]; rfl
    have c4 : W.cell? ⟨Bx, 4, none⟩ = some (.int .i64 e.tail) := by rw [Lib.cell_of_heap hblk]; rfl
    have hkey : keyOf Try.prog 9 (.string ⟨e.name.toArray⟩) = some (.string e.name) := keyOf_string_mk Try.underlying9 (by show e.name.toArray.size ≤ _; unfold maxLen; simp; omega)
    have hoff : IntKind.u64.wrap (e.fin - ((ByteArray.mk e.name.toArray).size : Int)) = offOf e := by unfold offOf; rfl
    have hsz0 : (ByteArray.mk e.name.toArray).size = e.name.length := by simp [ByteArray.size]
    have hw0 : IntKind.i64.wrap (e.fin - ((ByteArray.mk e.name.toArray).size : Int)) = e.fin - ((ByteArray.mk e.name.toArray).size : Int) := by rw [hsz0]; exact IntWalk.i64_in _ (by omega)
    have hel : (encStr e.name) = .string ⟨e.name.toArray⟩ := rfl
    rw [hel]
    have hnx : ∀ w1, W.grownBy w1 (some (w.heap.size + 1)) → RowE w1 g (st E k) ∧ w1.cell? ⟨w.heap.size, 0, none⟩ = some (.slice (some ⟨g, 0, none⟩) E.length cap) ∧ w1.cell? ⟨w.heap.size + 1 + 1, 0, none⟩ = some (.map (some (w.heap.size + 1))) ∧ w1.cell? ⟨w.heap.size + 1 + 1 + 1, 0, none⟩ = some (.slice (some ⟨g, 0, none⟩) E.length cap) ∧ w1.cell? ⟨Bx, 3, none⟩ = some (.int .i64 e.fin) ∧ w1.cell? ⟨Bx, 4, none⟩ = some (.int .i64 e.tail) ∧ But g w w1 ∧ w.heap.size + 4 ≤ w1.heap.size := fun w1 hg => by
      have hB := (Array.getElem?_eq_some_iff.1 hblk).1
      have kc : ∀ (p : Addr), p.block < W.heap.size → p.block ≠ w.heap.size + 1 → w1.cell? p = W.cell? p := fun p h h' => World.cell?_of_block (w := W) (hg.block p.block h (fun e => h' (Option.some.inj e)))
      refine ⟨i1.same (hg.block g i1.lt (fun e => by cases e; omega)) hg.size, ?_, ?_, ?_, ?_, ?_, ?_, Nat.le_trans i7 hg.size⟩
      · rw [kc _ (by show w.heap.size < _; omega) (by show w.heap.size ≠ _; omega)]; exact i2
      · rw [kc _ (by show w.heap.size + 1 + 1 < _; omega) (by show w.heap.size + 1 + 1 ≠ _; omega)]; exact i3
      · rw [kc _ (by show w.heap.size + 1 + 1 + 1 < _; omega) (by show w.heap.size + 1 + 1 + 1 ≠ _; omega)]; exact i4
      · rw [kc _ hB (by show Bx ≠ _; omega)]; exact c3
      · rw [kc _ hB (by show Bx ≠ _; omega)]; exact c4
      · exact ⟨hg.os.trans i6.os, hg.tape.trans i6.tape, hg.output.trans i6.output, Nat.le_trans i6.size hg.size, fun j hj hne => (hg.block j (Nat.lt_of_lt_of_le hj i6.size) (fun e => by cases e; omega)).trans (i6.block j hj hne)⟩
    have HNX := Lib.hid hnx; have HST := Lib.hid hst; have HMP := Lib.hid hmpS; have HK := Lib.hid hk; have HSL := Lib.hid hsl; have HE := Lib.hid he
    have HSZ := Lib.hid hsz0; have HLEN := Lib.hid hlen; have HIL := Lib.hid hil; have HBT := Lib.hid i6
    clear hnx hst hmpS hk hsl he hyd hsz0 i1 i2 i4 i6 hil hel hblk okk ok
    generalize (ByteArray.mk e.name.toArray) = nm at *
    have hbd : k < maxLen := by unfold maxLen; omega
    by_cases hneg : e.tail < 0
    · have hd : decide (e.tail < 0) = true := by simpa using hneg
      gi_wp2_with (gi_at_mapUpdate; refine wpListIn_mapUpdate_own _ rfl _ _ _ 103 rfl 9 32 law9 Try.underlying103 _ (w.heap.size + 1) k _ rfl i5 hbd _ _ _ rfl rfl hkey _ [] (plainElem_int Try.underlying32 (offOf_wf e)) ?_; intro w1 hown1 hgrow1; obtain ⟨j1, j2, j3, j4, j5, j6, j7, j8⟩ := HNX.out w1 hgrow1; have J1 := Lib.hid j1; have HG := Lib.hid hgrow1; have HO := Lib.hid hown1; clear j1 hgrow1 hown1)
      have hu : st E (k + 1) = st E k := by rw [HST.out]; unfold upd; rw [if_pos hneg]
      refine ⟨KeepsFrom.of_grownBy HG.out (fun j e => by cases e; omega), trivial, ?_⟩
      show (RowE _ g (st E (pre ++ [_]).length) ∧ _) ∧ _
      rw [List.length_append, HK.out]
      exact ⟨⟨by rw [show k + [(_ : Nat × Ent)].length = k + 1 from rfl, hu]; exact J1.out, j2, j3, j4⟩, by rw [show k + [(_ : Nat × Ent)].length = k + 1 from rfl, HMP.out]; exact HO.out, j7, j8⟩
    · have hd : decide (e.tail < 0) = false := by rw [decide_eq_false_iff_not]; omega
      obtain ⟨t, ht⟩ : ∃ t : Nat, e.tail = (t : Int) := ⟨e.tail.toNat, by omega⟩
      have htk : t < (st E k).length := by rw [HSL.out]; omega
      have hu : st E (k + 1) = if ((st E k).getD t default).fin = 0 ∨ e.fin < ((st E k).getD t default).fin then (st E k).set t { ((st E k).getD t default) with fin := e.fin } else st E k := by
        rw [HST.out]; unfold upd; rw [if_neg hneg, ht, Int.toNat_natCast]
      have htE : t < E.length := by rw [← HSL.out]; exact htk
      rw [ht] at hd c4 HNX
      have HT := Lib.hid ht; have HU := Lib.hid hu; have HTK := Lib.hid htk; clear ht hu htk hneg
      obtain ⟨ft, hft⟩ : ∃ ft, ((st E k).getD t default).fin = ft := ⟨_, rfl⟩
      have HFT := Lib.hid hft
      gi_wp2_with (gi_at_mapUpdate; refine wpListIn_mapUpdate_own _ rfl _ _ _ 103 rfl 9 32 law9 Try.underlying103 _ (w.heap.size + 1) k _ rfl i5 hbd _ _ _ rfl rfl hkey _ [] (plainElem_int Try.underlying32 (offOf_wf e)) ?_; intro w1 hown1 hgrow1; obtain ⟨j1, j2, j3, j4, j5, j6, j7, j8⟩ := HNX.out w1 hgrow1; have jf := j1.fin t HTK.out; rw [← getD_at _ t HTK.out, HFT.out] at jf; have jz := j1.free (t * 5 + 3) (by have := HTK.out; omega); have J1 := Lib.hid j1; have HG := Lib.hid hgrow1; have HO := Lib.hid hown1; clear j1 hgrow1 hown1)
      by_cases hz0 : ft = 0
      · have hq : (ft == 0) = true := by simp [hz0]
        have hq' : decide (ft = 0) = true := by simp [hz0]
        have HZ := Lib.hid hz0; clear hz0
        refine wpIn_region_quiet_round (by kernel_rfl) (by kernel_rfl) (by kernel_rfl) ?_
        repeat (quiet_step_in (skip))
        refine wpQuietIn_nil ?_
        intro _ hw'
        obtain ⟨nq, hw''⟩ := hw'
        subst hw''
        have k3 : (w1.drewN nq).cell? ⟨w.heap.size, 0, none⟩ = some (.slice (some ⟨g, 0, none⟩) E.length cap) := j2
        have k4 : (w1.drewN nq).cell? ⟨w.heap.size + 1 + 1, 0, none⟩ = some (.map (some (w.heap.size + 1))) := j3
        have k5 : (w1.drewN nq).cell? ⟨w.heap.size + 1 + 1 + 1, 0, none⟩ = some (.slice (some ⟨g, 0, none⟩) E.length cap) := j4
        have k6 : (w1.drewN nq).cell? ⟨Bx, 3, none⟩ = some (.int .i64 e.fin) := j5
        have k7 : (w1.drewN nq).cell? ⟨g, t * 5 + 3, none⟩ = some (.int .i64 ft) := jf
        have k8 : (w1.drewN nq).frozen? ⟨g, t * 5 + 3, none⟩ = false := jz
        have k9 : W.grownBy (w1.drewN nq) (some (w.heap.size + 1)) := ⟨HG.out.os, HG.out.tape, HG.out.output, HG.out.size, HG.out.block⟩
        have KR := Lib.hid (show RowE (w1.drewN nq) g (st E k) from J1.out)
        have KO := Lib.hid (show (w1.drewN nq).ownsMap Try.prog 9 (plainElem Try.prog 32) (w.heap.size + 1) (k + 1) ((mp H E k).put (.string e.name) (.lit (.int .u64 (offOf e)))) from HO.out)
        have KB := Lib.hid (show But g w (w1.drewN nq) from ⟨j7.os, j7.tape, j7.output, j7.size, j7.block⟩)
        have KS := Lib.hid (show w.heap.size + 4 ≤ (w1.drewN nq).heap.size from j8)
        have KG := Lib.hid k9
        clear jf jz j2 j3 j4 j5 j6 j7 j8 J1 HO HG k9
        generalize w1.drewN nq = W2 at *
        gi_wp2
        refine ⟨(KeepsFrom.of_grownBy KG.out (fun j e => by cases e; omega)).trans ((KeepsOthers.setCell _ _ _).from _), trivial, ?_⟩
        show (RowE _ g (st E (pre ++ [_]).length) ∧ _) ∧ _
        rw [List.length_append, HK.out]
        have hgs : W2.grownBy (W2.setCell ⟨g, t * 5 + 3, none⟩ (.int .i64 e.fin)) (some g) := set_grown _ _ _ _
        have kc : ∀ (p : Addr) v, g ≠ p.block → W2.cell? p = some v → (W2.setCell ⟨g, t * 5 + 3, none⟩ (.int .i64 e.fin)).cell? p = some v := fun p v hne h => set_other _ _ _ _ hne h
        have hrow := KR.out.putFin t HTK.out e.fin
        rw [← getD_at _ t HTK.out] at hrow
        exact ⟨⟨by rw [show k + [(_ : Nat × Ent)].length = k + 1 from rfl, HU.out, if_pos (by rw [HFT.out]; exact .inl HZ.out)]; exact hrow, kc _ _ (by show g ≠ w.heap.size; omega) k3, kc _ _ (by show g ≠ w.heap.size + 1 + 1; omega) k4, kc _ _ (by show g ≠ w.heap.size + 1 + 1 + 1; omega) k5⟩, by rw [show k + [(_ : Nat × Ent)].length = k + 1 from rfl, HMP.out]; exact KO.out.kept hgs (fun e => by cases e; omega), KB.out.set _ _, by have := KS.out; have := hgs.size; omega⟩
      · have hq : (ft == 0) = false := by simp [hz0]
        have hq' : decide (ft = 0) = false := by simp [hz0]
        have HZ := Lib.hid hz0; clear hz0
        by_cases hl : e.fin < ft
        · have hl' : decide (e.fin < ft) = true := by simp [hl]
          have HL := Lib.hid hl; clear hl
          refine wpIn_region_quiet_round (by kernel_rfl) (by kernel_rfl) (by kernel_rfl) ?_
          repeat (quiet_step_in (skip))
          refine wpQuietIn_nil ?_
          intro _ hw'
          obtain ⟨nq, hw''⟩ := hw'
          subst hw''
          have k3 : (w1.drewN nq).cell? ⟨w.heap.size, 0, none⟩ = some (.slice (some ⟨g, 0, none⟩) E.length cap) := j2
          have k4 : (w1.drewN nq).cell? ⟨w.heap.size + 1 + 1, 0, none⟩ = some (.map (some (w.heap.size + 1))) := j3
          have k5 : (w1.drewN nq).cell? ⟨w.heap.size + 1 + 1 + 1, 0, none⟩ = some (.slice (some ⟨g, 0, none⟩) E.length cap) := j4
          have k6 : (w1.drewN nq).cell? ⟨Bx, 3, none⟩ = some (.int .i64 e.fin) := j5
          have k7 : (w1.drewN nq).cell? ⟨g, t * 5 + 3, none⟩ = some (.int .i64 ft) := jf
          have k8 : (w1.drewN nq).frozen? ⟨g, t * 5 + 3, none⟩ = false := jz
          have k9 : W.grownBy (w1.drewN nq) (some (w.heap.size + 1)) := ⟨HG.out.os, HG.out.tape, HG.out.output, HG.out.size, HG.out.block⟩
          have KR := Lib.hid (show RowE (w1.drewN nq) g (st E k) from J1.out)
          have KO := Lib.hid (show (w1.drewN nq).ownsMap Try.prog 9 (plainElem Try.prog 32) (w.heap.size + 1) (k + 1) ((mp H E k).put (.string e.name) (.lit (.int .u64 (offOf e)))) from HO.out)
          have KB := Lib.hid (show But g w (w1.drewN nq) from ⟨j7.os, j7.tape, j7.output, j7.size, j7.block⟩)
          have KS := Lib.hid (show w.heap.size + 4 ≤ (w1.drewN nq).heap.size from j8)
          have KG := Lib.hid k9
          clear jf jz j2 j3 j4 j5 j6 j7 j8 J1 HO HG k9
          generalize w1.drewN nq = W2 at *
          gi_wp2
          refine ⟨(KeepsFrom.of_grownBy KG.out (fun j e => by cases e; omega)).trans ((KeepsOthers.setCell _ _ _).from _), trivial, ?_⟩
          show (RowE _ g (st E (pre ++ [_]).length) ∧ _) ∧ _
          rw [List.length_append, HK.out]
          have hgs : W2.grownBy (W2.setCell ⟨g, t * 5 + 3, none⟩ (.int .i64 e.fin)) (some g) := set_grown _ _ _ _
          have kc : ∀ (p : Addr) v, g ≠ p.block → W2.cell? p = some v → (W2.setCell ⟨g, t * 5 + 3, none⟩ (.int .i64 e.fin)).cell? p = some v := fun p v hne h => set_other _ _ _ _ hne h
          have hrow := KR.out.putFin t HTK.out e.fin
          rw [← getD_at _ t HTK.out] at hrow
          exact ⟨⟨by rw [show k + [(_ : Nat × Ent)].length = k + 1 from rfl, HU.out, if_pos (by rw [HFT.out]; exact .inr HL.out)]; exact hrow, kc _ _ (by show g ≠ w.heap.size; omega) k3, kc _ _ (by show g ≠ w.heap.size + 1 + 1; omega) k4, kc _ _ (by show g ≠ w.heap.size + 1 + 1 + 1; omega) k5⟩, by rw [show k + [(_ : Nat × Ent)].length = k + 1 from rfl, HMP.out]; exact KO.out.kept hgs (fun e => by cases e; omega), KB.out.set _ _, by have := KS.out; have := hgs.size; omega⟩
        · have hl' : decide (e.fin < ft) = false := by simp [hl]
          refine wpIn_region_quiet_round (by kernel_rfl) (by kernel_rfl) (by kernel_rfl) ?_
          repeat (quiet_step_in (skip))
          refine wpQuietIn_nil ?_
          intro _ hw'
          obtain ⟨nq, hw''⟩ := hw'
          subst hw''
          have HN := Lib.hid (show ¬ (ft = 0 ∨ e.fin < ft) from fun h => h.elim HZ.out hl)
          clear hl
          have k3 : (w1.drewN nq).cell? ⟨w.heap.size, 0, none⟩ = some (.slice (some ⟨g, 0, none⟩) E.length cap) := j2
          have k4 : (w1.drewN nq).cell? ⟨w.heap.size + 1 + 1, 0, none⟩ = some (.map (some (w.heap.size + 1))) := j3
          have k5 : (w1.drewN nq).cell? ⟨w.heap.size + 1 + 1 + 1, 0, none⟩ = some (.slice (some ⟨g, 0, none⟩) E.length cap) := j4
          have k6 : (w1.drewN nq).cell? ⟨Bx, 3, none⟩ = some (.int .i64 e.fin) := j5
          have k7 : (w1.drewN nq).cell? ⟨g, t * 5 + 3, none⟩ = some (.int .i64 ft) := jf
          have k8 : (w1.drewN nq).frozen? ⟨g, t * 5 + 3, none⟩ = false := jz
          have k9 : W.grownBy (w1.drewN nq) (some (w.heap.size + 1)) := ⟨HG.out.os, HG.out.tape, HG.out.output, HG.out.size, HG.out.block⟩
          have KR := Lib.hid (show RowE (w1.drewN nq) g (st E k) from J1.out)
          have KO := Lib.hid (show (w1.drewN nq).ownsMap Try.prog 9 (plainElem Try.prog 32) (w.heap.size + 1) (k + 1) ((mp H E k).put (.string e.name) (.lit (.int .u64 (offOf e)))) from HO.out)
          have KB := Lib.hid (show But g w (w1.drewN nq) from ⟨j7.os, j7.tape, j7.output, j7.size, j7.block⟩)
          have KS := Lib.hid (show w.heap.size + 4 ≤ (w1.drewN nq).heap.size from j8)
          have KG := Lib.hid k9
          clear jf jz j2 j3 j4 j5 j6 j7 j8 J1 HO HG k9
          generalize w1.drewN nq = W2 at *
          gi_wp2
          refine ⟨KeepsFrom.of_grownBy KG.out (fun j e => by cases e; omega), trivial, ?_⟩
          show (RowE _ g (st E (pre ++ [_]).length) ∧ _) ∧ _
          rw [List.length_append, HK.out]
          exact ⟨⟨by rw [show k + [(_ : Nat × Ent)].length = k + 1 from rfl, HU.out, if_neg (by rw [HFT.out]; exact HN.out)]; exact KR.out, k3, k4, k5⟩, by rw [show k + [(_ : Nat × Ent)].length = k + 1 from rfl, HMP.out]; exact KO.out, KB.out, KS.out⟩
  case done =>
    rintro D xs W hD hS ⟨⟨i1, i2, i3, i4⟩, i5, i6, i7⟩ hK
    have hS' : xs.length = E.length := hS
    rw [hS'] at i5
    gi_wp2
    refine ⟨by simp, .inl ⟨_, _, rfl, run_takeDeferred hK, ?_⟩⟩
    refine ⟨_, results_tmp rfl _ _ _, w.heap.size + 1, by omega, rfl, ?_, ?_⟩
    · exact i5.kept (grownBy_putObj' _ D _) (fun e => by cases e; omega)
    · exact but_own D g w (by omega) [] W _ (some D) i6 (grownBy_putObj' _ D _) (fun j e => by cases e; exact ⟨Nat.le_refl _, _, hK, rfl⟩)
end Go.Proofs.Ytddlflabdlgnbaa
