/- The contract of strtab's lay: the table, and the entries with their ends; or that it is too long. Conditions: those written in each theorem. -/
import Derived.Test.YtddlflabdlgnbaaUK
import Derived.OwnWalk
import Derived.Deep.CutBlock
import Derived.Deep.DeepCutAuto
namespace Go.Proofs.Ytddlflabdlgnbaa
open Go.RowKit Go.Sort Go.Shelf
theorem sizeTo_leM {E : List Ent} {M : Nat} (h : ∀ i, (E.getD i default).name.length + 1 ≤ M) (k : Nat) : sizeTo E k ≤ 1 + k * M := by
  induction k with
  | zero => exact Nat.le_add_right 1 _
  | succ k ih =>
    have e : (k + 1) * M = k * M + M := Nat.succ_mul _ _
    rw [sizeTo_succ, e]
    have := h k
    generalize k * M = z at *
    split <;> omega
theorem sizeTo_le {E : List Ent} (ok : LayOk E) (k : Nat) : sizeTo E k ≤ 1 + k * 4294967297 := sizeTo_leM (fun i => by have := ok.name i; omega) k
theorem ws_perm (E : List Ent) : (ws E).Perm (wholeTo E E.length) := by
  rw [← wholeF_val E]
  exact (List.mergeSort_perm _ _).map _
theorem ws_lt (E : List Ent) (j : Nat) (h : j < (ws E).length) : (ws E)[j] < E.length := by
  have := (ws_perm E).mem_iff.1 (List.getElem_mem h)
  exact wholeTo_lt E _ _ this
theorem sum_take (l : List Nat) (j : Nat) : (l.take j).sum ≤ l.sum := by
  conv => rhs; rw [← List.take_append_drop j l]
  rw [List.sum_append]
  omega
theorem layTo_le (E : List Ent) (j : Nat) : (layTo E (ws E) j).1.length ≤ sizeTo E E.length := by
  unfold layTo sizeTo
  rw [layT_size, List.map_take]
  have h1 := sum_take ((ws E).map fun i => (E.getD i default).name.length + 1) j
  have h2 : ((ws E).map fun i => (E.getD i default).name.length + 1).sum = ((wholeTo E E.length).map fun i => (E.getD i default).name.length + 1).sum := ((ws_perm E).map _).sum_nat
  simp only [List.length_cons, List.length_nil]
  omega
theorem layTo_len (E : List Ent) (ws : List Nat) (j : Nat) : (layTo E ws j).2.length = E.length := layT_len E _ _
theorem layTo_name (E : List Ent) (ws : List Nat) (j i : Nat) : ((layTo E ws j).2.getD i default).name = (E.getD i default).name := (layT_name E _ _ i).1
theorem But.low {g : Nat} {a b c : World} (h : But g a b) (k : Below a.heap.size b c) : But g a c :=
  ⟨k.os.trans h.os, k.tape.trans h.tape, k.output.trans h.output, Nat.le_trans h.size k.size, fun j hj hg => (k.block j hj).trans (h.block j hj hg)⟩
theorem But.drew {g : Nat} {a b : World} (h : But g a b) : But g a b.drew := ⟨h.os, h.tape, h.output, h.size, h.block⟩
theorem RowE.low {w w' : World} {g B : Nat} {E : List Ent} (h : RowE w g E) (hb : Below B w w') (hg : g < B) : RowE w' g E := h.same (hb.block g hg) hb.size
theorem strCells_enc (l : List UInt8) : Lib.strCells ⟨l.toArray⟩ = Lib.byteCells l := rfl
theorem getD_at (E : List Ent) (i : Nat) (h : i < E.length) : E.getD i default = E[i] := by
  rw [List.getD_eq_getElem?_getD, List.getElem?_eq_getElem h]; rfl
def LayPost (g : Nat) (E : List Ent) (w : World) (e : Ending) (w' : World) : Prop :=
  (1048576 < sizeTo E E.length ∧ e = .returned (.tuple #[.string ⟨#[]⟩, .bool false]) ∧ But g w w') ∨
  (sizeTo E E.length ≤ 1048576 ∧ e = .returned (.tuple #[.string ⟨(layTo E (ws E) (ws E).length).1.toArray⟩, .bool true]) ∧ RowE w' g (layTo E (ws E) (ws E).length).2 ∧ But g w w')
set_option maxRecDepth 100000 in
set_option maxHeartbeats 8000000 in
theorem lay_any (g cap : Nat) (E : List Ent) (ok : LayOk E) (w : World) (hR : RowE w g E) : Calls Try.prog 51 #[.slice (some ⟨g, 0, none⟩) E.length cap] w (LayPost g E w) := by
  obtain ⟨i0, hi, hz0, hz1, hz2⟩ := info_parts infoInt
  have hR0 : RowE (w.alloc (.cells #[.slice (some ⟨g, 0, none⟩) E.length cap] 100)) g E := hR.alloc _
  have hbx : (w.alloc (.cells #[.slice (some ⟨g, 0, none⟩) E.length cap] 100)).cell? ⟨w.heap.size, 0, none⟩ = some (.slice (some ⟨g, 0, none⟩) E.length cap) := by simp
  have hbt : But g w (w.alloc (.cells #[.slice (some ⟨g, 0, none⟩) E.length cap] 100)) := But.of_below ((Below.refl _ _).alloc (Nat.le_refl _) _)
  have hz : w.heap.size < (w.alloc (.cells #[.slice (some ⟨g, 0, none⟩) E.length cap] 100)).heap.size := by simp
  have hgl := hR.lt
  have hE := ok.len
  go_enter Try.func51, Try.ntmps51
  go_upto_block 0 with (fail)
  generalize (w.alloc (.cells #[.slice (some ⟨g, 0, none⟩) E.length cap] 100)) = W0 at *
  have HR0 := Lib.hid hR0; have HBX := Lib.hid hbx; have HBT := Lib.hid hbt; clear hR0 hbx hbt hR
  go_cut [4, 5] (fun v s wc => s = .int .i64 (sizeTo E E.length : Nat) ∧ wc.ownsRow W0.heap.size 3 1 v (wholeTo E E.length).length ((wholeTo E E.length).map fun j => .int .i64 (j : Nat)) ∧ Below W0.heap.size W0 wc)
  case first =>
    go_wp2
    go_loopw [4, 5, 12] (fun v s i wr => ∃ k : Nat, k ≤ E.length ∧ i = .int .i64 k ∧ s = .int .i64 (sizeTo E k : Nat) ∧ wr.ownsRow W0.heap.size 3 1 v (wholeTo E k).length ((wholeTo E k).map fun j => .int .i64 (j : Nat)) ∧ Below W0.heap.size W0 wr) (fun _ _ i _ => E.length - (intOf i).toNat)
    case atStart => exact ⟨0, Nat.zero_le _, rfl, rfl, World.ownsRow_nil _ _ _ _, Below.refl _ _⟩
    case round =>
      obtain ⟨k, hk, rfl, rfl, hrow, hB⟩ := hrel
      have hzr := hB.size
      have hb0 : wr.cell? ⟨w.heap.size, 0, none⟩ = some (.slice (some ⟨g, 0, none⟩) E.length cap) := by rw [hB.cell (by exact hz)]; exact HBX.out
      have hRr := HR0.out.below hB
      have HRR := Lib.hid hRr; clear hRr
      have HB := Lib.hid hB; clear hB
      by_cases hlt : k < E.length
      · have hnm : wr.cell? ⟨g, k * 5, none⟩ = some (encStr (E.getD k default).name) := by rw [getD_at E k hlt]; exact HRR.out.name k hlt
        have hnl := ok.name k
        have hsl := sizeTo_le ok k
        have hss := sizeTo_succ E k
        have hws := wholeTo_succ E k
        have hwl := wholeTo_len E k
        unfold encStr at hnm
        have hsz : (ByteArray.mk (E.getD k default).name.toArray).size = (E.getD k default).name.length := by simp [ByteArray.size]
        generalize hnm' : (ByteArray.mk (E.getD k default).name.toArray) = nm at *
        have HNM := Lib.hid hnm'; clear hnm'
        rw [← hsz] at hss hnl
        clear hsz
        have hways : (isWhole E k = false ∧ k + 1 < E.length ∧ ((E.getD (k + 1) default).tail == (k : Int)) = true) ∨ (isWhole E k = true ∧ k + 1 < E.length ∧ ((E.getD (k + 1) default).tail == (k : Int)) = false) ∨ (isWhole E k = true ∧ ¬ k + 1 < E.length) := by
          unfold isWhole
          by_cases h1 : k + 1 < E.length
          · cases h2 : ((E.getD (k + 1) default).tail == (k : Int)) <;> simp [h1]
          · simp [h1]
        have HSS := Lib.hid hss; have HWS := Lib.hid hws; clear hss hws
        rcases hways with ⟨hw, hk1, ht⟩ | ⟨hw, hk1, ht⟩ | ⟨hw, hk1⟩
        · have htl : wr.cell? ⟨g, (k + 1) * 5 + 4, none⟩ = some (.int .i64 (E.getD (k + 1) default).tail) := by rw [getD_at E (k + 1) hk1]; exact HRR.out.tail (k + 1) hk1
          generalize (E.getD (k + 1) default).tail = tt at *
          have HW := Lib.hid hw; clear hw
          have hd : decide (k + 1 < E.length) = true := by simpa using hk1
          have hi0 : (0 : Int) ≤ (k : Int) + 1 := by omega
          have hi1 : (k : Int) + 1 < (E.length : Int) := by omega
          have htn : ((k : Int) + 1).toNat = k + 1 := by omega
          go_wp2
          refine ⟨⟨k + 1, by omega, by go_num, int_eq (by rw [HSS.out, HW.out]; simp), by rw [HWS.out, HW.out]; simpa using hrow, HB.out⟩, by simp [intOf]; omega⟩
        · have htl : wr.cell? ⟨g, (k + 1) * 5 + 4, none⟩ = some (.int .i64 (E.getD (k + 1) default).tail) := by rw [getD_at E (k + 1) hk1]; exact HRR.out.tail (k + 1) hk1
          generalize (E.getD (k + 1) default).tail = tt at *
          have HW := Lib.hid hw; clear hw
          have hd : decide (k + 1 < E.length) = true := by simpa using hk1
          have hi0 : (0 : Int) ≤ (k : Int) + 1 := by omega
          have hi1 : (k : Int) + 1 < (E.length : Int) := by omega
          have htn : ((k : Int) + 1).toNat = k + 1 := by omega
          generalize hSz : sizeTo E k = sz at *
          have HSZ := Lib.hid hSz; clear hSz
          have hw1 : IntKind.i64.wrap ((nm.size : Int) + 1) = (nm.size : Int) + 1 := IntWalk.i64_in _ (by omega)
          have hw2 : IntKind.i64.wrap ((sz : Int) + ((nm.size : Int) + 1)) = (sz : Int) + ((nm.size : Int) + 1) := IntWalk.i64_in _ (by omega)
          have hlen1 : (wholeTo E k).length + 1 ≤ 1048577 := by omega
          go_wp2_with (first
            | (at_builtin; refine wpList_append_own _ rfl _ _ 111 rfl W0.heap.size 3 i0 (.int .i64 0) 1 8 Try.underlying111 hi hz0 hz1 hz2 rfl (by decide) _ _ _ rfl (hrow.alloc _) ⟨wr.heap.size, 0, none⟩ 1 1 [.int .i64 (k : Nat)] rfl rfl (cell_one_new _ _ _) (by simp [Value.oneCell']) (by unfold maxLen; omega) (by omega) (by simp; omega) ?_; intro v' w4 hown' hg4 hnil4; have hB4 : Below W0.heap.size W0 w4 := (HB.out.alloc (by omega) _).grown hg4 (by simp; omega) (fun j hj => (hrow.lt j hj).1); have hb4 : w4.cell? ⟨w.heap.size, 0, none⟩ = some (.slice (some ⟨g, 0, none⟩) E.length cap) := by rw [hB4.cell (by exact hz)]; exact HBX.out
               have hn4 : w4.cell? ⟨g, k * 5, none⟩ = some (.string nm) := by have h := (HR0.out.below hB4).name k hlt; rw [← getD_at E k hlt] at h; unfold encStr at h; rw [HNM.out] at h; exact h
               have HB4 := Lib.hid hB4; clear hB4)
            | go_in)
          refine ⟨⟨k + 1, by omega, by go_num, int_eq (by rw [HSS.out, HW.out]; simp), by rw [HWS.out, HW.out]; simpa using hown', HB4.out⟩, by simp [intOf]; omega⟩
        · have HW := Lib.hid hw; clear hw
          have hd : decide (k + 1 < E.length) = false := by simpa using hk1
          have hi1 : ¬ (k : Int) + 1 < (E.length : Int) := by omega
          generalize hSz : sizeTo E k = sz at *
          have HSZ := Lib.hid hSz; clear hSz
          have hw1 : IntKind.i64.wrap ((nm.size : Int) + 1) = (nm.size : Int) + 1 := IntWalk.i64_in _ (by omega)
          have hw2 : IntKind.i64.wrap ((sz : Int) + ((nm.size : Int) + 1)) = (sz : Int) + ((nm.size : Int) + 1) := IntWalk.i64_in _ (by omega)
          have hlen1 : (wholeTo E k).length + 1 ≤ 1048577 := by omega
          go_wp2_with (first
            | (at_builtin; refine wpList_append_own _ rfl _ _ 111 rfl W0.heap.size 3 i0 (.int .i64 0) 1 8 Try.underlying111 hi hz0 hz1 hz2 rfl (by decide) _ _ _ rfl (hrow.alloc _) ⟨wr.heap.size, 0, none⟩ 1 1 [.int .i64 (k : Nat)] rfl rfl (cell_one_new _ _ _) (by simp [Value.oneCell']) (by unfold maxLen; omega) (by omega) (by simp; omega) ?_; intro v' w4 hown' hg4 hnil4; have hB4 : Below W0.heap.size W0 w4 := (HB.out.alloc (by omega) _).grown hg4 (by simp; omega) (fun j hj => (hrow.lt j hj).1); have hb4 : w4.cell? ⟨w.heap.size, 0, none⟩ = some (.slice (some ⟨g, 0, none⟩) E.length cap) := by rw [hB4.cell (by exact hz)]; exact HBX.out
               have hn4 : w4.cell? ⟨g, k * 5, none⟩ = some (.string nm) := by have h := (HR0.out.below hB4).name k hlt; rw [← getD_at E k hlt] at h; unfold encStr at h; rw [HNM.out] at h; exact h
               have HB4 := Lib.hid hB4; clear hB4)
            | go_in)
          refine ⟨⟨k + 1, by omega, by go_num, int_eq (by rw [HSS.out, HW.out]; simp), by rw [HWS.out, HW.out]; simpa using hown', HB4.out⟩, by simp [intOf]; omega⟩
      · obtain rfl : k = E.length := by omega
        have HROW := Lib.hid hrow; clear hrow
        go_wp2
        go_meet
        case rel => exact ⟨rfl, HROW.out, HB.out⟩
  case rest =>
    obtain ⟨rfl, hrow, hB⟩ := hcut
    generalize wc = wr at *
    have hzr := hB.size
    have hb0 : wr.cell? ⟨w.heap.size, 0, none⟩ = some (.slice (some ⟨g, 0, none⟩) E.length cap) := by rw [hB.cell (by exact hz)]; exact HBX.out
    have HRR := Lib.hid (HR0.out.below hB)
    have HB := Lib.hid hB; clear hB
    · have hbig := sizeTo_le ok E.length
      have HOK := Lib.hid ok
      by_cases hlong : 1048576 < sizeTo E E.length
      · have HLONG := Lib.hid hlong
        generalize hSz : sizeTo E E.length = sz at *
        have HSZ := Lib.hid hSz; clear hSz
        have hd : decide ((1048576 : Int) < (sz : Int)) = true := by simp; omega
        have hd2 : (1048576 : Int) < (sz : Int) := by omega
        clear hlong
        go_wp2
        go_ret2
        exact Or.inl ⟨by rw [HSZ.out]; exact HLONG.out, rfl, HBT.out.trans (But.of_below HB.out)⟩
      · have HLONG : Hid (sizeTo E E.length ≤ 1048576) := Lib.hid (by omega)
        have hsort := sort_whole g w.heap.size cap W0.heap.size E HOK.out u4 wr HRR.out hb0 hz (by omega) hrow hzr
        have HSORT := Lib.hid hsort
        clear hsort
        have hd : decide ((1048576 : Int) < (sizeTo E E.length : Int)) = false := by simp; omega
        generalize hSz : sizeTo E E.length = sz at *
        have HSZ := Lib.hid hSz; clear hSz
        clear hlong hbig
        go_wp2_with fail
        refine HSORT.out.mono ?_
        rintro e w2 ⟨rfl, hrow2, hB2⟩
        have hBt2 : But g w w2 := HBT.out.trans (But.of_below (HB.out.trans (hB2.mono (Nat.le_refl _))))
        have hB02 : Below W0.heap.size W0 w2 := HB.out.trans hB2
        have hR2 : RowE w2 g E := HR0.out.below hB02
        have hbx2 : w2.cell? ⟨w.heap.size, 0, none⟩ = some (.slice (some ⟨g, 0, none⟩) E.length cap) := by rw [hB02.cell (by exact hz)]; exact HBX.out
        have hz2' := hB02.size
        have HBT2 := Lib.hid hBt2; have HR2 := Lib.hid hR2; have HBX2 := Lib.hid hbx2; clear hBt2 hR2 hbx2 hB02 hB2 hb0 HSORT HRR HB hzr
        rcases hrow2.2 with ⟨rfl, hn0⟩ | ⟨g2, cap2, cur, rfl, hbase2, hb2, hc1, hc2, hc3, hc4⟩
        · have hws0 : ws E = [] := List.length_eq_zero_iff.1 hn0
          skip
          have hbld : Lib.IsBuilder 124 5 w2.heap.size w2.heap.size (Lib.byteCells []) (w2.alloc (.cells #[.pointer none, .slice none 0 0] 124)) := .inl ⟨Nat.le_refl _, .slice none 0 0, heap_alloc_new _ _, World.ownsRow_nil _ _ _ _, by simp [Value.ownBlock]⟩
          have HBLD := Lib.hid hbld; clear hbld
          go_wp2_with fail
          refine (writeByte_any w2.heap.size w2.heap.size _ 0 _ HBLD.out (by simp [Lib.byteCells]) (by simp)).mono ?_
          rintro e w3 ⟨rfl, hb3, hl3⟩
          have hbt3 : But g w2 w3 := (But.of_below ((Below.refl _ _).alloc (Nat.le_refl _) _)).low hl3
          have hR3 : RowE w3 g E := (HR2.out.alloc _).low hl3 (by omega)
          have hb3' : Lib.BuilderAt 124 5 w2.heap.size w2.heap.size (.pointer (some ⟨w2.heap.size, 0, none⟩)) (Lib.byteCells [0]) w3 := hb3
          have HB3 := Lib.hid hb3'; have HBT3 := Lib.hid hbt3; have HR3 := Lib.hid hR3; clear hb3 hb3' hbt3 hR3
          go_wp2
          refine wp_loop_rounds 1 ?_
          rw [rounds_succ]
          have hlay0 : layTo E (ws E) (ws E).length = ([0], E) := by rw [hws0]; rfl
          have HLAY0 := Lib.hid hlay0; clear hlay0 hws0
          go_wp2_with fail
          refine (Try.Builder_String_any w2.heap.size w2.heap.size _ _ (.inr HB3.out) (by have := HBT3.out.size; omega)).mono ?_
          rintro e w9 ⟨rfl, hl9⟩
          go_wp2
          go_ret2
          exact Or.inr ⟨by rw [HSZ.out]; exact HLONG.out, by rw [HLAY0.out]; rfl, by rw [HLAY0.out]; exact HR3.out.low hl9 (by omega), HBT2.out.trans (HBT3.out.low hl9)⟩
        · have hg2l : g2 < w2.heap.size := (Array.getElem?_eq_some_iff.1 hb2).1
          have hwrow : ∀ j, ∀ hj : j < (ws E).length, w2.cell? ⟨g2, j, none⟩ = some (.int .i64 ((ws E)[j] : Nat)) := fun j hj => by
            have e1 : (cur.toList.take ((ws E).length * 1))[j]? = ((ws E).map fun j => Value.int .i64 (j : Nat))[j]? := by rw [hc4]
            rw [List.getElem?_take_of_lt (by omega), List.getElem?_map, List.getElem?_eq_getElem hj] at e1
            simp only [World.cell?, hb2]
            rw [← Array.getElem?_toList]
            exact e1
          have HWROW := Lib.hid hwrow; clear hwrow hc4 hc3 hb2 hrow2 hrow
          have hbld : Lib.IsBuilder 124 5 w2.heap.size w2.heap.size (Lib.byteCells []) (w2.alloc (.cells #[.pointer none, .slice none 0 0] 124)) := .inl ⟨Nat.le_refl _, .slice none 0 0, heap_alloc_new _ _, World.ownsRow_nil _ _ _ _, by simp [Value.ownBlock]⟩
          have HBLD := Lib.hid hbld; clear hbld
          go_wp2_with fail
          refine (writeByte_any w2.heap.size w2.heap.size _ 0 _ HBLD.out (by simp [Lib.byteCells]) (by simp)).mono ?_
          rintro e w3 ⟨rfl, hb3, hl3⟩
          have hbt3 : But g w2 w3 := (But.of_below ((Below.refl _ _).alloc (Nat.le_refl _) _)).low hl3
          have hR3 : RowE w3 g E := (HR2.out.alloc _).low hl3 (by omega)
          have hb3' : Lib.BuilderAt 124 5 w2.heap.size w2.heap.size (.pointer (some ⟨w2.heap.size, 0, none⟩)) (Lib.byteCells [0]) w3 := hb3
          have HB3 := Lib.hid hb3'; have HBT3 := Lib.hid hbt3; have HR3 := Lib.hid hR3; clear hb3 hb3' hbt3 hR3
          go_wp2
          go_loopw [52, 9] (fun i _ wr => ∃ j : Nat, j ≤ (ws E).length ∧ i = .int .i64 j ∧ Lib.BuilderAt 124 5 w2.heap.size w2.heap.size (.pointer (some ⟨w2.heap.size, 0, none⟩)) (Lib.byteCells (layTo E (ws E) j).1) wr ∧ RowE wr g (layTo E (ws E) j).2 ∧ But g w2 wr) (fun i _ _ => (ws E).length - (intOf i).toNat)
          case atStart => exact ⟨0, Nat.zero_le _, rfl, HB3.out, HR3.out, HBT3.out⟩
          case round =>
            obtain ⟨j, hj, rfl, hbd, hRw, hbt⟩ := hrel
            generalize wr = wo at *
            have HBD := Lib.hid hbd; have HRW := Lib.hid hRw; have HBTW := Lib.hid hbt; clear hbd hRw hbt
            by_cases hlt : j < (ws E).length
            · have hjb : j + 1 ≤ 1048576 := by have h1 := (ws_perm E).length_eq; have h2 := wholeTo_len E E.length; omega
              have hsucc := layTo_succ E (ws E) j hlt
              have hil := ws_lt E j hlt
              have hle := layTo_le E (j + 1)
              have hcw := HWROW.out j hlt
              have hnmE : ((layTo E (ws E) j).2.getD (ws E)[j] default).name = (E.getD (ws E)[j] default).name := layTo_name E (ws E) j _
              have hlen2 := layTo_len E (ws E) j
              generalize (ws E)[j] = i at *
              have hcw2 : wo.cell? ⟨g2, j, none⟩ = some (.int .i64 (i : Nat)) := by rw [HBTW.out.cell (by exact hg2l) (by show g2 ≠ g; omega)]; exact hcw
              have hbo : wo.cell? ⟨w.heap.size, 0, none⟩ = some (.slice (some ⟨g, 0, none⟩) E.length cap) := by rw [HBTW.out.cell (by show w.heap.size < _; omega) (by show w.heap.size ≠ g; omega)]; exact HBX2.out
              have hil2 : i < (layTo E (ws E) j).2.length := by rw [hlen2]; exact hil
              have hnm := HRW.out.name i hil2
              rw [← getD_at _ i hil2, hnmE] at hnm
              unfold encStr at hnm
              obtain ⟨nml, hnml⟩ : ∃ x, (E.getD i default).name = x := ⟨_, rfl⟩
              rw [hnml] at hnm hsucc
              have hlen3 : (layTo E (ws E) j).1.length + nml.length + 1 ≤ sz := by rw [hsucc, HSZ.out] at hle; simp at hle; omega
              have HJ1 : Hid (j + 1 ≤ (ws E).length) := Lib.hid (by omega)
              have HJ2 : Hid ((ws E).length - (j + 1) < (ws E).length - j) := Lib.hid (by omega)
              have HSU := Lib.hid hsucc; have HNML := Lib.hid hnml; clear hsucc hnml hcw hnmE hle
              have hszn : (ByteArray.mk nml.toArray).size = nml.length := by simp [ByteArray.size]
              have hlsz := HLONG.out
              have hlb : (Lib.byteCells (layTo E (ws E) j).1).length = (layTo E (ws E) j).1.length := Lib.byteCells_length _
              have HL2 := Lib.hid hlen2; have HLB := Lib.hid hlb; have HSZN := Lib.hid hszn; clear hlen2 hlb hszn
              have hw1 := fun W h h2 => writeString_any w2.heap.size w2.heap.size (Lib.byteCells (layTo E (ws E) j).1) ⟨nml.toArray⟩ W h (by rw [HLB.out, HSZN.out]; omega) h2
              have HWS1 := Lib.hid hw1; clear hw1
              have hzo := HBTW.out.size
              go_wp2_with fail
              refine (HWS1.out _ (.inr HBD.out) (by omega)).mono ?_
              rintro e w4 ⟨rfl, hbd4, hl4⟩
              have hbt4 := HBTW.out.low hl4
              have hR4 := HRW.out.low hl4 (by omega)
              have hbd4' : Lib.BuilderAt 124 5 w2.heap.size w2.heap.size (.pointer (some ⟨w2.heap.size, 0, none⟩)) (Lib.byteCells ((layTo E (ws E) j).1 ++ nml)) w4 := by rw [Lib.byteCells_append, ← strCells_enc nml]; exact hbd4
              have hbo4 : ∀ w', But g w2 w' → w'.cell? ⟨w.heap.size, 0, none⟩ = some (.slice (some ⟨g, 0, none⟩) E.length cap) := fun w' h => by rw [h.cell (by show w.heap.size < _; omega) (by show w.heap.size ≠ g; omega)]; exact HBX2.out
              have hbl4 : (Lib.byteCells ((layTo E (ws E) j).1 ++ nml)).length = (layTo E (ws E) j).1.length + nml.length := by rw [Lib.byteCells_length]; simp
              have HBD4 := Lib.hid hbd4'; have HBT4 := Lib.hid hbt4; have HR4 := Lib.hid hR4; have HBO4 := Lib.hid hbo4; have HBL4 := Lib.hid hbl4; clear hbd4 hbd4' hbt4 hR4 hbo4 hbl4
              have hqf := HR4.out.free (i * 5 + 3) (by rw [HL2.out]; omega)
              have hqc := HR4.out.fin i (by rw [HL2.out]; exact hil)
              have hR5 := HR4.out.putFin i (by rw [HL2.out]; exact hil) (((layTo E (ws E) j).1.length + nml.length : Nat) : Int)
              rw [← getD_at _ i (by rw [HL2.out]; exact hil)] at hR5 hqc
              generalize ((layTo E (ws E) j).2.getD i default).fin = oldf at hqc
              have HR5 := Lib.hid hR5; clear hR5
              generalize hLL : (layTo E (ws E) j).1.length + nml.length = LL at *
              have HLL := Lib.hid hLL; clear hLL
              go_wp2
              refine wp_region_held_drew (S := fun w' => But g w2 w') (by kernel_rfl) ?_ (fun hHeld => ?_)
              · exact HBT4.out.drew
              refine wpAnyH_take (i := 0) (oi := { dst := some 62, op := Go.Op.load 100 (Go.Operand.tmp 1), type := 100, pos := "build.go:83", after := #[], guard := none }) (v := ?_) rfl (by kernel_rfl) (by kernel_rfl) (by kernel_rfl) (fun _ _ _ h => h) (Or.inl ⟨by rfl, ?_⟩) (by assumption) ?_
              rotate_left
              · (intro w hSw; have q0 := HBO4.out w hSw; (try dsimp only at hSw); go_simp <;> with_reducible rfl)
              try simp only [Act.put, List.setIfInBounds_toArray, List.set_cons_zero, List.set_cons_succ]
              refine wpAnyH_take (i := 1) (oi := { dst := some 63, op := Go.Op.move (Go.Operand.tmp 9), type := 3, pos := "build.go:83", after := #[], guard := none }) (v := ?_) rfl (by kernel_rfl) (by kernel_rfl) (by kernel_rfl) (fun _ _ _ h => h) (Or.inl ⟨by rfl, ?_⟩) (by assumption) ?_
              rotate_left
              · (intro w hSw; (try dsimp only at hSw); go_simp <;> with_reducible rfl)
              try simp only [Act.put, List.setIfInBounds_toArray, List.set_cons_zero, List.set_cons_succ]
              refine wpAnyH_ready (rs := [2]) (by kernel_rfl) (by simp) ?_
              refine AllReadyH.cons (o := { dst := some 64, op := Go.Op.call { callee := Go.Callee.value (Go.Operand.func 79), args := #[Go.Operand.tmp 7], argTypes := #[124] }, type := 3, pos := "build.go:83", after := #[], guard := none }) rfl (fun K hK => ?_) AllReadyH.nil
              (first | go_at_call 79 | (go_simp; go_at_call 79))
              (with_reducible refine (len_any _ _ _ _ _ (Lib.BuilderAt.drew HBD4.out)).mono ?_)
              rintro e w5 ⟨rfl, rfl⟩
              rw [HBL4.out]
              try go_wp2_with fail
              refine hK.out _ _ ?_ (fun hHeld2 => ?_)
              · exact hHeld
              clear hK K
              try simp only [Act.put, List.setIfInBounds_toArray, List.set_cons_zero, List.set_cons_succ]
              refine wpAnyH_take (i := 3) (oi := { dst := some 65, op := Go.Op.indexAddr 100 (Go.Operand.tmp 62) (Go.Operand.tmp 63), type := 0, pos := "build.go:83", after := #[{ on := 0, ground := Go.Ground.data }, { on := 1, ground := Go.Ground.data }, { on := 0, ground := Go.Ground.phase }, { on := 1, ground := Go.Ground.phase }, { on := 2, ground := Go.Ground.phase }], guard := none }) (v := ?_) rfl (by kernel_rfl) (by kernel_rfl) (by kernel_rfl) (fun _ _ _ h => h) (Or.inl ⟨by rfl, ?_⟩) (by assumption) ?_
              rotate_left
              · (intro w hSw; (try dsimp only at hSw); go_simp <;> with_reducible rfl)
              try simp only [Act.put, List.setIfInBounds_toArray, List.set_cons_zero, List.set_cons_succ]
              refine wpAnyH_take (i := 4) (oi := { dst := some 66, op := Go.Op.fieldAddr 140 (Go.Operand.tmp 65) 3, type := 0, pos := "build.go:83", after := #[{ on := 3, ground := Go.Ground.data }, { on := 0, ground := Go.Ground.phase }, { on := 1, ground := Go.Ground.phase }, { on := 2, ground := Go.Ground.phase }], guard := none }) (v := ?_) rfl (by kernel_rfl) (by kernel_rfl) (by kernel_rfl) (fun _ _ _ h => h) (Or.inl ⟨by rfl, ?_⟩) (by assumption) ?_
              rotate_left
              · (intro w hSw; (try dsimp only at hSw); go_simp <;> with_reducible rfl)
              try simp only [Act.put, List.setIfInBounds_toArray, List.set_cons_zero, List.set_cons_succ]
              refine wpAnyH_ready (rs := [5]) (by kernel_rfl) (by simp) ?_
              refine AllReadyH.cons (o := { dst := none, op := Go.Op.store 3 (Go.Operand.tmp 66) (Go.Operand.tmp 64), type := 0, pos := "build.go:83", after := #[{ on := 4, ground := Go.Ground.data }, { on := 2, ground := Go.Ground.data }, { on := 2, ground := Go.Ground.chain }, { on := 0, ground := Go.Ground.phase }, { on := 1, ground := Go.Ground.phase }, { on := 2, ground := Go.Ground.phase }], guard := none }) rfl (fun K hK => ?_) AllReadyH.nil
              go_simp
              refine hK.out _ _ ?_ (fun hHeld3 => ?_)
              · exact hHeld2.set _ _
              clear hK K
              try simp only [Act.put, List.setIfInBounds_toArray, List.set_cons_zero, List.set_cons_succ]
              refine wpAnyH_done (by kernel_rfl) ?_ _
              have hb6 : Lib.BuilderAt 124 5 w2.heap.size w2.heap.size (.pointer (some ⟨w2.heap.size, 0, none⟩)) (Lib.byteCells ((layTo E (ws E) j).1 ++ nml)) ((w4.setCell ⟨g, i * 5 + 3, none⟩ (.int .i64 (LL : Nat))).drew) := Lib.BuilderAt.drew (builder_low HBD4.out (q := ⟨g, i * 5 + 3, none⟩) (by show g < _; omega) _)
              have hR6 : RowE (w4.setCell ⟨g, i * 5 + 3, none⟩ (.int .i64 (LL : Nat))).drew g ((layTo E (ws E) j).2.set i { ((layTo E (ws E) j).2.getD i default) with fin := (LL : Nat) }) := HR5.out
              have hbt6 : But g w2 (w4.setCell ⟨g, i * 5 + 3, none⟩ (.int .i64 (LL : Nat))).drew := (HBT4.out.set _ _).drew
              have HB6 := Lib.hid hb6; have HR6 := Lib.hid hR6; have HBT6 := Lib.hid hbt6; clear hb6 hR6 hbt6 hqf hqc
              have hz6 := HBT6.out.size
              have hlc : (Lib.byteCells ((layTo E (ws E) j).1 ++ nml)).length + 1 ≤ 140737488355328 := by rw [HBL4.out]; omega
              have HLC := Lib.hid hlc; clear hlc
              go_wp2_with fail
              refine (writeByte_any w2.heap.size w2.heap.size _ 0 _ (.inr HB6.out) HLC.out (by omega)).mono ?_
              rintro e w7 ⟨rfl, hb7, hl7⟩
              have hb8 : Lib.BuilderAt 124 5 w2.heap.size w2.heap.size (.pointer (some ⟨w2.heap.size, 0, none⟩)) (Lib.byteCells (layTo E (ws E) (j + 1)).1) w7 := by rw [HSU.out]; show Lib.BuilderAt 124 5 _ _ _ (Lib.byteCells ((layTo E (ws E) j).1 ++ nml ++ [0])) w7; rw [Lib.byteCells_append]; exact hb7
              have hR8 : RowE w7 g (layTo E (ws E) (j + 1)).2 := by rw [HSU.out]; exact HR6.out.low hl7 (by omega)
              have hbt8 := HBT6.out.low hl7
              have HB8 := Lib.hid hb8; have HR8 := Lib.hid hR8; have HBT8 := Lib.hid hbt8; clear hb8 hR8 hbt8 hb7 hl7
              go_wp2
              refine ⟨⟨j + 1, HJ1.out, by go_num, HB8.out, HR8.out, HBT8.out⟩, ?_⟩
              have := HJ2.out
              simp only [intOf]
              omega
            · obtain rfl : j = (ws E).length := by omega
              have hzo := HBTW.out.size
              go_wp2_with fail
              refine (Try.Builder_String_any w2.heap.size w2.heap.size _ _ (.inr HBD.out) (by have := HBTW.out.size; omega)).mono ?_
              rintro e w9 ⟨rfl, hl9⟩
              go_wp2
              go_ret2
              exact Or.inr ⟨by rw [HSZ.out]; exact HLONG.out, rfl, HRW.out.low hl9 (by omega), HBT2.out.trans (HBTW.out.low hl9)⟩
end Go.Proofs.Ytddlflabdlgnbaa
