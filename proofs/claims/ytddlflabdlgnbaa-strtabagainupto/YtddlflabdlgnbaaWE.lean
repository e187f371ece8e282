/- Plain facts and memory for the laws of layer 3: texts of a table as lists of bytes; a row of strings that is the call's own; what comes in. -/
import Derived.Test.YtddlflabdlgnbaaWD
import Derived.Test.YtddlflabdlgnbaaTB
import Derived.Deep.Strs
namespace Go.Proofs.Ytddlflabdlgnbaa
open Go.RowKit Go.Sort Go.Maps Go.Shelf
theorem z_txt (l : List UInt8) : Zero.z l = (txt l).length := rfl
theorem ext_data (t : ByteArray) (n : Nat) : (t.extract n t.size).data.toList = t.data.toList.drop n := by
  simp only [ByteArray.data_extract, Array.toList_extract, List.extract_eq_take_drop]
  rw [List.take_of_length_le (by simp)]
theorem ext_size (t : ByteArray) (n : Nat) : (t.extract n t.size).size = t.size - n := by simp
theorem ext_txt (t : ByteArray) (n : Nat) : (t.extract n t.size).extract 0 (Zero.z (t.extract n t.size).data.toList) = ⟨(txt (t.data.toList.drop n)).toArray⟩ := by
  apply ByteArray.ext
  apply Array.toList_inj.1
  have h : ∀ (s : ByteArray) (k : Nat), (s.extract 0 k).data.toList = s.data.toList.take k := by
    intro s k
    simp only [ByteArray.data_extract, Array.toList_extract, List.extract_eq_take_drop]
    rw [List.drop_zero, Nat.sub_zero]
  rw [h, Zero.take_z, ext_data]
  rfl
theorem textAt_of (t : ByteArray) (n : Nat) (x : List UInt8) (h2 : txt (t.data.toList.drop n) = x) (h3 : n + x.length < t.size) : textAt t n = .tuple #[.string ⟨x.toArray⟩, .bool true] := by
  unfold textAt
  rw [if_pos, ext_txt, h2]
  rw [ext_data, ext_size, z_txt, h2]
  omega
theorem textAt_fst (t : ByteArray) (n : Nat) : ∃ (u : ByteArray) (b : Bool), textAt t n = .tuple #[.string u, .bool b] ∧ (u.toList = txt (t.data.toList.drop n) ∨ u.toList = []) := by
  unfold textAt
  split
  · refine ⟨_, _, rfl, .inl ?_⟩
    rw [ext_txt, ba_list]
  · exact ⟨_, _, rfl, .inr (by rw [ByteArray.toList_eq])⟩
/-- A row of strings of the call's own, by its place. -/
def RowB (w : World) (g : Nat) (f : Nat → ByteArray) (n : Nat) : Prop := g < w.heap.size ∧ ∀ j, j < n → w.cell? ⟨g, j, none⟩ = some (.string (f j)) ∧ w.frozen? ⟨g, j, none⟩ = false
theorem RowB.low {w w' : World} {g B n : Nat} {f : Nat → ByteArray} (h : RowB w g f n) (hb : Below B w w') (hg : g < B) : RowB w' g f n :=
  ⟨Nat.lt_of_lt_of_le h.1 hb.size, fun j hj => ⟨(hb.cell (p := ⟨g, j, none⟩) hg).trans (h.2 j hj).1, (hb.frozen (p := ⟨g, j, none⟩) hg).trans (h.2 j hj).2⟩⟩
theorem RowB.set {w : World} {g n : Nat} {f : Nat → ByteArray} (h : RowB w g f n) (i : Nat) (hi : i < n) (s : ByteArray) : RowB (w.setCell ⟨g, i, none⟩ (.string s)) g (fun j => if j = i then s else f j) n := by
  refine ⟨by simpa [World.setCell] using h.1, fun j hj => ?_⟩
  obtain ⟨h1, h2⟩ := h.2 j hj
  refine ⟨?_, ?_⟩
  · by_cases e : j = i
    · subst e
      have h3 : (w.setCell ⟨g, j, none⟩ (.string s)).cell? ⟨g, j, none⟩ = some (Value.string s) := World.cell?_setCell_same w _ _ h1
      simpa using h3
    · have h3 : (w.setCell ⟨g, i, none⟩ (.string s)).cell? ⟨g, j, none⟩ = w.cell? ⟨g, j, none⟩ := World.cell?_setCell_other w _ _ _ (by intro h3; cases h3; exact e rfl)
      rw [h3, h1]
      simp [e]
  · simpa using h2
theorem RowB.rowS {w : World} {g n : Nat} {f : Nat → ByteArray} (h : RowB w g f n) : RowS w g 0 ((List.range n).map fun i => (f i).toList) := by
  refine ⟨h.1, fun i hi => ?_⟩
  have hi' : i < n := by simpa using hi
  rw [Nat.zero_add, (h.2 i hi').1]
  unfold encStr
  congr 2
  have : nth ((List.range n).map fun i => (f i).toList) i = (f i).toList := by
    unfold nth
    rw [List.getD_eq_getElem?_getD, List.getElem?_map, List.getElem?_range hi']; rfl
  rw [this, ByteArray.toList_eq]
theorem rowB_of_own {w : World} {base g n c : Nat} {f : Nat → ByteArray} {e : TypeId} (hown : w.ownsRow base e 1 (.slice (some ⟨g, 0, none⟩) n c) n ((List.range n).map fun i => Value.string (f i))) (hg : g < w.heap.size) : RowB w g f n := by
  refine ⟨hg, fun j hj => ?_⟩
  rcases hown.2 with ⟨hv, _⟩ | ⟨g', cap, cur, hv, _, hb, _, _, ht⟩
  · cases hv
  · injection hv with h1 h2 h3
    injection h1 with h1
    injection h1 with h1
    subst h1
    refine ⟨?_, by simp [World.frozen?, hb]⟩
    rw [Lib.cell_of_heap hb]
    show cur[j]? = _
    have h4 : cur.toList[j]? = (cur.toList.take (n * 1))[j]? := (List.getElem?_take_of_lt (by omega)).symm
    rw [← Array.getElem?_toList, h4, ht.2, List.getElem?_map, List.getElem?_range hj]; rfl
/-- Strings that come in. -/
def IsStrs (w : World) (a : Option Addr) (len cap : Nat) (S : Nat → ByteArray) : Prop :=
  (a = none ∧ len = 0 ∧ cap = 0) ∨ ∃ x : Addr, a = some x ∧ (0 < len → x.block < w.heap.size) ∧ len ≤ cap ∧ cap ≤ maxLen ∧ ∀ i, i < len → w.cell? (x.add i) = some (.string (S i)) ∧ (S i).size ≤ maxLen
theorem isStrs_some {w : World} {x : Addr} {len cap : Nat} {S : Nat → ByteArray} (h1 : len ≤ cap) (h2 : cap ≤ maxLen) (h : ∀ i, i < len → w.cell? (x.add i) = some (.string (S i)) ∧ (S i).size ≤ maxLen) : IsStrs w (some x) len cap S :=
  .inr ⟨x, rfl, fun h0 => by
    have hc := (h 0 h0).1
    have hxa : (x.add 0).block = x.block := rfl
    rcases Nat.lt_or_ge x.block w.heap.size with h3 | h3
    · exact h3
    · simp [World.cell?, hxa, Array.getElem?_eq_none h3] at hc, h1, h2, h⟩
theorem IsStrs.le_cap {w : World} {a : Option Addr} {len cap : Nat} {S : Nat → ByteArray} (h : IsStrs w a len cap S) : len ≤ cap := by
  rcases h with ⟨_, rfl, rfl⟩ | ⟨_, _, _, h, _⟩
  · exact Nat.le_refl _
  · exact h
end Go.Proofs.Ytddlflabdlgnbaa
