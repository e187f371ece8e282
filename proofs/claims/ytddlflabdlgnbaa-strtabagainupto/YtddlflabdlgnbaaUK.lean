/- slices.SortFunc at the places of whole entries, the later first. Conditions: those written in each theorem. -/
import Derived.Test.YtddlflabdlgnbaaUJ
import Derived.Lib.AppendIntMem
import Derived.Maps.AppendAt
namespace Go.Proofs.Ytddlflabdlgnbaa
open Go.RowKit Go.Sort Go.Shelf Go.Lib
/-- What is asked of entries that are laid. -/
structure LayOk (E : List Ent) : Prop where
  len : E.length ≤ 1048576
  last : ∀ i : Fin E.length, 0 ≤ E[i].last ∧ E[i].last ≤ 4294967296
  inj : ∀ i j : Fin E.length, E[i].last = E[j].last → i = j
  name : ∀ i, (E.getD i default).name.length ≤ 4294967296
def wholeF (E : List Ent) : List (Fin E.length) := (wholeTo E E.length).pmap (fun i h => ⟨i, h⟩) (fun i h => wholeTo_lt E E.length i h)
theorem wholeF_val (E : List Ent) : (wholeF E).map Fin.val = wholeTo E E.length := by
  unfold wholeF
  rw [List.map_pmap]
  simp
def leW (E : List Ent) (x y : Fin E.length) : Bool := !ltOf (cmpW E) y x
/-- The places of the whole entries, in the table's order. -/
def wsF (E : List Ent) : List (Fin E.length) := (wholeF E).mergeSort (leW E)
def ws (E : List Ent) : List Nat := (wsF E).map Fin.val
theorem wsF_len (E : List Ent) : (wsF E).length = (wholeF E).length := List.length_mergeSort _
theorem ltW (E : List Ent) (x y : Fin E.length) : ltOf (cmpW E) x y = decide (E[y].last < E[x].last) := by
  unfold ltOf cmpW
  rw [Bool.eq_iff_iff, decide_eq_true_iff, decide_eq_true_iff]
  omega
theorem swoW (E : List Ent) : SWO (ltOf (cmpW E)) where
  irrefl x := by rw [ltW]; simp
  trans x y z h1 h2 := by rw [ltW, decide_eq_true_iff] at *; omega
  ntrans x y z h1 h2 := by rw [ltW, decide_eq_false_iff_not] at *; omega
theorem totW {E : List Ent} (h : LayOk E) (x y : Fin E.length) (h1 : ltOf (cmpW E) x y = false) (h2 : ltOf (cmpW E) y x = false) : x = y := by
  rw [ltW, decide_eq_false_iff_not] at h1 h2
  exact h.inj x y (by omega)
def encF {n : Nat} (i : Fin n) : Value := .int .i64 (i.1 : Nat)
theorem cell_sortW {n : Nat} {W : World} {blk m : Nat} {dk : Array (Fin n)} {os : Array Obj} [Inhabited (Fin n)] {p : Addr} (hp : p.block < W.heap.size) (hne : p.block ≠ blk) : (sortWorld encF W blk 0 m dk os).heap[p.block]? = W.heap[p.block]? := by
  show ((W.heap.modify blk _) ++ os)[p.block]? = _
  rw [Array.getElem?_append_left (by simpa using hp), Array.getElem?_modify, if_neg (fun e => hne e.symm)]
theorem sort_whole (g bx cap B : Nat) (E : List Ent) (ok : LayOk E) (v : Value) (W : World) (hR : RowE W g E) (hbx : W.cell? ⟨bx, 0, none⟩ = some (.slice (some ⟨g, 0, none⟩) E.length cap)) (hbl : bx < B) (hgl : g < B)
    (hrow : W.ownsRow B 3 1 v (wholeTo E E.length).length ((wholeTo E E.length).map fun j => .int .i64 (j : Nat))) (hBW : B ≤ W.heap.size) :
    Calls Try.prog 76 #[v, .func (.func 77) #[] #[.pointer (some ⟨bx, 0, none⟩)]] W fun e w' => e = .returned (.tuple #[]) ∧ w'.ownsRow B 3 1 v (ws E).length ((ws E).map fun j => .int .i64 (j : Nat)) ∧ Below B W w' := by
  have hlen : (ws E).length = (wholeTo E E.length).length := by
    have := congrArg List.length (wholeF_val E)
    simp [ws, wsF_len] at this ⊢
    exact this
  have hrow0 := hrow
  rcases hrow.2 with ⟨rfl, hn⟩ | ⟨g2, cap2, cur, rfl, hbase, hb, h1, h2, h3, h4⟩
  · have hnone := AnyF.slices_SortFunc_none (P := Try.prog) { Try.sortI with } none 0 (.func (.func 77) #[] #[.pointer (some ⟨bx, 0, none⟩)]) W
    change Calls Try.prog 76 _ _ _ at hnone
    refine hnone.mono ?_
    rintro e w' ⟨rfl, rfl⟩
    have he : ws E = [] := List.length_eq_zero_iff.1 (by omega)
    rw [he]
    exact ⟨rfl, World.ownsRow_nil _ _ _ _, Below.refl _ _⟩
  · have hg2 : g2 < W.heap.size := (Array.getElem?_eq_some_iff.1 hb).1
    have hwl : (wholeF E).length = (wholeTo E E.length).length := by have := congrArg List.length (wholeF_val E); simpa using this
    by_cases hz : E.length = 0
    · have hw0 : wholeTo E E.length = [] := List.length_eq_zero_iff.1 (by have := wholeTo_len E E.length; omega)
      have hnone := AnyF.slices_SortFunc_none (P := Try.prog) { Try.sortI with } (some ⟨g2, 0, none⟩) cap2 (.func (.func 77) #[] #[.pointer (some ⟨bx, 0, none⟩)]) W
      change Calls Try.prog 76 _ _ _ at hnone
      have he : ws E = [] := List.length_eq_zero_iff.1 (by rw [hlen, hw0]; rfl)
      rw [hw0] at hrow0 ⊢
      rw [he]
      refine hnone.mono ?_
      rintro e w' ⟨rfl, rfl⟩
      exact ⟨rfl, hrow0, Below.refl _ _⟩
    · have hpos : 0 < E.length := by omega
      haveI : Inhabited (Fin E.length) := ⟨⟨0, hpos⟩⟩
      have eg : ∀ args w, (callFunc 77 args).run Try.prog w = .ok (.enter 77 args) w := enters_of Try.func77 (by kernel_rfl) rfl
      have hmap : (wholeTo E E.length).map (fun j => Value.int .i64 (j : Nat)) = (wholeF E).map encF := by rw [← wholeF_val E, List.map_map]; rfl
      rw [hmap, ← hwl] at hrow0
      have hH : Holds encF W g2 0 (wholeF E).toArray := fun j hj => by
        have hj' : j < (wholeF E).length := by simpa using hj
        rw [hmap, ← hwl, Nat.mul_one] at h4
        refine ⟨?_, by simp [World.frozen?, hb]⟩
        have e1 : (cur.toList.take (wholeF E).length)[j]? = ((wholeF E).map encF)[j]? := by rw [h4]
        rw [List.getElem?_take_of_lt hj', List.getElem?_map, List.getElem?_eq_getElem hj'] at e1
        rw [Nat.zero_add]
        simp only [World.cell?, hb]
        rw [← Array.getElem?_toList]
        have e2 : (wholeF E).toArray[j]! = (wholeF E)[j]'hj' := by rw [getElem!_pos (wholeF E).toArray j hj]; rfl
        rw [e2]
        exact e1
      have hcmp : CmpLays1 Try.prog 77 #[.pointer (some ⟨bx, 0, none⟩)] encF (cmpW E) g2 0 (wholeF E).toArray.size W := fun m os dk _ x y => by
        have hR2 : RowE (sortWorld encF W g2 0 m dk os) g E := hR.same (cell_sortW (p := ⟨g, 0, none⟩) hR.lt (by show g ≠ g2; omega)) (by show _ ≤ ((W.heap.modify g2 _) ++ os).size; simp)
        have hb2 : (sortWorld encF W g2 0 m dk os).cell? ⟨bx, 0, none⟩ = some (.slice (some ⟨g, 0, none⟩) E.length cap) := by
          rw [World.cell?_of_block (w := W) (cell_sortW (p := ⟨bx, 0, none⟩) (by show bx < _; omega) (by show bx ≠ g2; omega))]
          exact hbx
        refine (closure58 g bx cap E x y _ hR2 hb2 ok.last).mono ?_
        rintro e w' ⟨rfl, q, rfl⟩
        exact ⟨rfl, q, #[], by rw [grow_empty]⟩
      have hs := Any.slices_SortFunc_total Try.sortI encF (fun _ => rfl) (cmpW E) (swoW E) 77 #[.pointer (some ⟨bx, 0, none⟩)] g2 0 cap2 (wholeF E).toArray W eg hcmp hH hg2 (by have := wholeTo_len E E.length; have := ok.len; simp; omega) (totW ok)
      change Calls Try.prog 76 #[.slice (some ⟨g2, 0, none⟩) (wholeF E).length cap2, _] _ _ at hs
      rw [hwl] at hs
      refine hs.mono ?_
      rintro e w' ⟨rfl, q, os, rfl⟩
      have hput := ownsRow_putRow (q := q) (k := (wholeF E).length) (ys := wsF E) (by rw [hwl] at hrow0 ⊢; exact hrow0) (wsF_len E) (Nat.le_refl _)
      have hgrow := ownsRow_grow hput 0 os
      rw [← wsF_len, List.take_length] at hgrow
      have e5 : (ws E).map (fun j => Value.int .i64 (j : Nat)) = (wsF E).map encF := by unfold ws; rw [List.map_map]; rfl
      have e6 : (ws E).length = (wsF E).length := by simp [ws]
      refine ⟨rfl, ?_, ?_⟩
      · rw [e5, e6]
        have e7 : (wholeTo E E.length).length = (wsF E).length := by rw [wsF_len, hwl]
        rw [e7]
        exact hgrow
      · have hbp := below_putRow (enc := encF) (q := q) (d := (wsF E).toArray) (Below.refl B W) hbase
        exact hbp.trans ⟨rfl, rfl, rfl, by show _ ≤ (_ ++ os).size; simp, fun k hk => by
          exact Array.getElem?_append_left (Nat.lt_of_lt_of_le (Nat.lt_of_lt_of_le hk hBW) hbp.size)⟩
end Go.Proofs.Ytddlflabdlgnbaa
