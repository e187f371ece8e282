/- Plain mathematics: names compared from their last byte on: a whole order. Memory: the row behind the sort. No Go here. -/
import Derived.Test.YtddlflabdlgnbaaUC
import Derived.Test.YtddlflabdlgnbaaUD
import Derived.Shelf.SlSortCmp.InsertionK
namespace Go.Proofs.Ytddlflabdlgnbaa
open Go.RowKit Go.Sort Go.Shelf Go.Lib
theorem cb_self : ∀ x : List UInt8, compareBytes x x = 0
  | [] => rfl
  | a :: x => by
    have h : ¬ a < a := by simp
    simp [compareBytes, cb_self x]
theorem cb_eq : ∀ x y : List UInt8, ¬ compareBytes x y < 0 → ¬ compareBytes y x < 0 → x = y
  | [], [], _, _ => rfl
  | [], _ :: _, h, _ => absurd (by show (-1 : Int) < 0; decide) h
  | _ :: _, [], _, h => absurd (by show (-1 : Int) < 0; decide) h
  | a :: x, b :: y, h1, h2 => by
    unfold compareBytes at h1 h2
    by_cases hab : a < b
    · simp [hab] at h1
    · by_cases hba : b < a
      · simp [hba] at h2
      · simp [hab, hba] at h1 h2
        have e : a = b := by
          apply UInt8.toNat_inj.1
          rw [UInt8.lt_iff_toNat_lt] at hab hba
          omega
        rw [e, cb_eq x y (by omega) (by omega)]
theorem cb_trans : ∀ x y z : List UInt8, compareBytes x y < 0 → compareBytes y z < 0 → compareBytes x z < 0
  | [], [], z, h, _ => by simp [compareBytes] at h
  | [], _ :: _, [], _, h => by simp [compareBytes] at h
  | [], _ :: _, _ :: _, _, _ => by simp [compareBytes]
  | _ :: _, [], _, h, _ => by simp [compareBytes] at h
  | _ :: _, _ :: _, [], _, h => by simp [compareBytes] at h
  | a :: x, b :: y, c :: z, h1, h2 => by
    unfold compareBytes at h1 h2 ⊢
    have ih := cb_trans x y z
    simp only [UInt8.lt_iff_toNat_lt] at *
    by_cases hab : a.toNat < b.toNat
    · by_cases hbc : b.toNat < c.toNat
      · rw [if_pos (by omega)]; decide
      · by_cases hcb : c.toNat < b.toNat
        · rw [if_neg hbc, if_pos hcb] at h2; omega
        · rw [if_pos (by omega)]; decide
    · by_cases hba : b.toNat < a.toNat
      · rw [if_neg hab, if_pos hba] at h1; omega
      · rw [if_neg hab, if_neg hba] at h1
        by_cases hbc : b.toNat < c.toNat
        · rw [if_pos (by omega)]; decide
        · by_cases hcb : c.toNat < b.toNat
          · rw [if_neg hbc, if_pos hcb] at h2; omega
          · rw [if_neg hbc, if_neg hcb] at h2
            rw [if_neg (by omega), if_neg (by omega)]
            exact ih h1 h2
theorem ltE_iff (x y : List UInt8) : ltOf cmpE x y = true ↔ compareBytes x.reverse y.reverse < 0 := decide_eq_true_iff
theorem ltE_no (x y : List UInt8) : ltOf cmpE x y = false ↔ ¬ compareBytes x.reverse y.reverse < 0 := decide_eq_false_iff_not
theorem totE (x y : List UInt8) (h1 : ltOf cmpE x y = false) (h2 : ltOf cmpE y x = false) : x = y := by
  have := cb_eq _ _ ((ltE_no x y).1 h1) ((ltE_no y x).1 h2)
  exact List.reverse_inj.1 this
theorem swoE : SWO (ltOf cmpE) where
  irrefl x := by rw [ltE_no, cb_self]; omega
  trans x y z h1 h2 := by rw [ltE_iff] at *; exact cb_trans _ _ _ h1 h2
  ntrans x y z h1 h2 := by
    rw [ltE_no] at *
    intro h
    by_cases hyx : compareBytes y.reverse x.reverse < 0
    · exact h2 (cb_trans _ _ _ hyx h)
    · have e := cb_eq _ _ h1 hyx
      rw [e] at h
      exact h2 h
/-- The cells of an entry before its tail is known. -/
def encE (L : List UInt8 → Int) (x : List UInt8) : List Value := (ent0 L x).cells
theorem flat_row (L : List UInt8 → Int) (S : List (List UInt8)) (j : Nat) (hj : j < S.length * 5) : (rowL (S.map (ent0 L)))[j]? = some ((flatK (encE L) 5 S.toArray)[j]!) := by
  have hs : S.toArray.size = S.length := by simp
  rw [get_flatK (encE L) 5 S.toArray j (by rw [hs]; exact hj)]
  have hq : j / 5 < S.length := by omega
  have h := rowL_at (S.map (ent0 L)) (j / 5) (by simpa using hq) (j % 5) (by omega)
  rw [show j / 5 * 5 + j % 5 = j by omega] at h
  rw [h]
  have e : S.toArray[j / 5]! = S[j / 5] := by rw [getElem!_pos _ _ (by simpa using hq)]; rfl
  rw [e]
  have hl : (encE L S[j / 5]).length = 5 := rfl
  rw [List.getElem_map, getElem!_pos _ _ (by rw [hl]; omega)]
  exact List.getElem?_eq_getElem (by show j % 5 < 5; omega)
theorem rowE_of_holds {w : World} {g : Nat} {L : List UInt8 → Int} {S : List (List UInt8)} (h : HoldsK (encE L) 5 w g 0 S.toArray) (hg : g < w.heap.size) : RowE w g (S.map (ent0 L)) :=
  ⟨hg, fun j hj => by
    have hj' : j < S.length * 5 := by simpa using hj
    have := h j (by simpa using hj')
    rw [Nat.zero_add] at this
    rw [flat_row L S j hj']
    exact this⟩
theorem holds_of_owns {w : World} {g : Nat} {cur : Array Value} {L : List UInt8 → Int} {ss : List (List UInt8)} (hb : w.heap[g]? = some (.cells cur 140 (0, 0))) (ht : cur.toList.take (ss.length * 5) = rowL (ss.map (ent0 L))) : HoldsK (encE L) 5 w g 0 ss.toArray := fun j hj => by
  have hj' : j < ss.length * 5 := by simpa using hj
  rw [Nat.zero_add]
  refine ⟨?_, by simp [World.frozen?, hb]⟩
  have h1 := flat_row L ss j hj'
  rw [← ht, List.getElem?_take_of_lt hj'] at h1
  simp only [World.cell?, hb]
  rw [← Array.getElem?_toList]
  exact h1
theorem below_sortK {α : Type} [Inhabited α] {enc : α → List Value} {k B : Nat} {w0 w : World} {g q : Nat} {d : Array α} {os : Array Obj} (h : Below B w0 w) (hB : B ≤ w.heap.size) (hg : B ≤ g) : Below B w0 (sortWorldK enc k w g 0 q d os) := by
  refine ⟨h.os, h.tape, h.output, Nat.le_trans h.size (size_sortWorldK_c enc k w g 0 q d os), fun j hj => ?_⟩
  rw [← h.block j hj]
  show ((w.heap.modify g _) ++ os)[j]? = w.heap[j]?
  rw [Array.getElem?_append_left (by simp; omega), Array.getElem?_modify, if_neg (by omega)]
end Go.Proofs.Ytddlflabdlgnbaa
