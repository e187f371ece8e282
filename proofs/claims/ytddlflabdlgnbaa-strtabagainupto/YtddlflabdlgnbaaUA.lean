/- Plain mathematics and memory: the entries of strtab's Build, in a row of five cells each. No Go here. -/
import Derived.Test.YtddlflabdlgnbaaOC
import Derived.Sort.EncStr
import Derived.Lib.BufferMore
namespace Go.Proofs.Ytddlflabdlgnbaa
open Go.RowKit Go.Sort
/-- A name with what is kept beside it. -/
structure Ent where
  name : List UInt8
  last : Int
  fin : Int
  tail : Int
def Ent.cells (e : Ent) : List Value := [encStr e.name, encStr e.name.reverse, .int .i64 e.last, .int .i64 e.fin, .int .i64 e.tail]
instance : Inhabited Ent := ⟨⟨[], 0, 0, 0⟩⟩
def rowL : List Ent → List Value
  | [] => []
  | e :: r => e.cells ++ rowL r
theorem rowL_length (E : List Ent) : (rowL E).length = E.length * 5 := by
  induction E with
  | nil => rfl
  | cons e r ih => simp [rowL, Ent.cells, ih]; omega
theorem rowL_append (A B : List Ent) : rowL (A ++ B) = rowL A ++ rowL B := by
  induction A with
  | nil => rfl
  | cons e r ih => simp [rowL, ih]
theorem rowL_at : ∀ (E : List Ent) (i : Nat) (h : i < E.length) (j : Nat) (_ : j < 5), (rowL E)[i * 5 + j]? = (E[i]'h).cells[j]?
  | e :: r, 0, h, j, hj => by
    simp only [rowL, Nat.zero_mul, Nat.zero_add, List.getElem_cons_zero]
    rw [List.getElem?_append_left (by simpa [Ent.cells] using hj)]
  | e :: r, i + 1, h, j, hj => by
    have hi : i < r.length := by simpa using h
    simp only [rowL, List.getElem_cons_succ]
    rw [List.getElem?_append_right (by simp [Ent.cells]; omega), ← rowL_at r i hi j hj]
    congr 1
    simp [Ent.cells]; omega
theorem rowL_set : ∀ (E : List Ent) (i : Nat) (h : i < E.length) (j : Nat) (_ : j < 5) (v : Value) (e' : Ent), (E[i]'h).cells.set j v = e'.cells → (rowL E).set (i * 5 + j) v = rowL (E.set i e')
  | e :: r, 0, h, j, hj, v, e', he => by
    simp only [rowL, Nat.zero_mul, Nat.zero_add, List.set_cons_zero, List.getElem_cons_zero] at he ⊢
    rw [List.set_append_left _ _ (by simpa [Ent.cells] using hj), he]
  | e :: r, i + 1, h, j, hj, v, e', he => by
    have hi : i < r.length := by simpa using h
    simp only [rowL, List.set_cons_succ, List.getElem_cons_succ] at he ⊢
    rw [List.set_append_right _ _ (by simp [Ent.cells]; omega), ← rowL_set r i hi j hj v e' he]
    congr 2
    simp [Ent.cells]; omega
/-- Block g holds the entries E, and perhaps cells behind them. -/
def RowE (w : World) (g : Nat) (E : List Ent) : Prop := g < w.heap.size ∧ ∀ j, j < E.length * 5 → w.cell? ⟨g, j, none⟩ = (rowL E)[j]? ∧ w.frozen? ⟨g, j, none⟩ = false
theorem RowE.lt {w : World} {g : Nat} {E : List Ent} (h : RowE w g E) : g < w.heap.size := h.1
theorem RowE.at {w : World} {g : Nat} {E : List Ent} (h : RowE w g E) (i : Nat) (hi : i < E.length) (j : Nat) (hj : j < 5) : w.cell? ⟨g, i * 5 + j, none⟩ = (E[i]'hi).cells[j]? := by
  rw [← rowL_at E i hi j hj]
  exact (h.2 _ (by omega)).1
theorem RowE.name {w : World} {g : Nat} {E : List Ent} (h : RowE w g E) (i : Nat) (hi : i < E.length) : w.cell? ⟨g, i * 5, none⟩ = some (encStr (E[i]'hi).name) := h.at i hi 0 (by omega)
theorem RowE.back {w : World} {g : Nat} {E : List Ent} (h : RowE w g E) (i : Nat) (hi : i < E.length) : w.cell? ⟨g, i * 5 + 1, none⟩ = some (encStr (E[i]'hi).name.reverse) := h.at i hi 1 (by omega)
theorem RowE.last {w : World} {g : Nat} {E : List Ent} (h : RowE w g E) (i : Nat) (hi : i < E.length) : w.cell? ⟨g, i * 5 + 2, none⟩ = some (.int .i64 (E[i]'hi).last) := h.at i hi 2 (by omega)
theorem RowE.fin {w : World} {g : Nat} {E : List Ent} (h : RowE w g E) (i : Nat) (hi : i < E.length) : w.cell? ⟨g, i * 5 + 3, none⟩ = some (.int .i64 (E[i]'hi).fin) := h.at i hi 3 (by omega)
theorem RowE.tail {w : World} {g : Nat} {E : List Ent} (h : RowE w g E) (i : Nat) (hi : i < E.length) : w.cell? ⟨g, i * 5 + 4, none⟩ = some (.int .i64 (E[i]'hi).tail) := h.at i hi 4 (by omega)
theorem RowE.free {w : World} {g : Nat} {E : List Ent} (h : RowE w g E) (j : Nat) (hj : j < E.length * 5) : w.frozen? ⟨g, j, none⟩ = false := (h.2 j hj).2
theorem RowE.put {w : World} {g : Nat} {E : List Ent} (h : RowE w g E) (i : Nat) (hi : i < E.length) (j : Nat) (hj : j < 5) (v : Value) (e' : Ent) (he : (E[i]'hi).cells.set j v = e'.cells) : RowE (w.setCell ⟨g, i * 5 + j, none⟩ v) g (E.set i e') := by
  refine ⟨by simp [World.setCell]; exact h.1, fun k hk => ?_⟩
  rw [List.length_set] at hk
  obtain ⟨h1, h2⟩ := h.2 k hk
  rw [← rowL_set E i hi j hj v e' he, World.frozen?_setCell]
  refine ⟨?_, h2⟩
  have hl := rowL_length E
  by_cases hk' : k = i * 5 + j
  · subst hk'
    rw [World.cell?_setCell_same _ _ _ (h1.trans (List.getElem?_eq_getElem (by omega))), List.getElem?_set_self (by omega)]
  · rw [World.cell?_setCell_other _ _ _ _ (by simp), h1, List.getElem?_set_ne (fun e => hk' e.symm)]
theorem RowE.putTail {w : World} {g : Nat} {E : List Ent} (h : RowE w g E) (i : Nat) (hi : i < E.length) (t : Int) : RowE (w.setCell ⟨g, i * 5 + 4, none⟩ (.int .i64 t)) g (E.set i { (E[i]'hi) with tail := t }) := h.put i hi 4 (by omega) _ _ rfl
theorem RowE.putFin {w : World} {g : Nat} {E : List Ent} (h : RowE w g E) (i : Nat) (hi : i < E.length) (t : Int) : RowE (w.setCell ⟨g, i * 5 + 3, none⟩ (.int .i64 t)) g (E.set i { (E[i]'hi) with fin := t }) := h.put i hi 3 (by omega) _ _ rfl
theorem RowE.same {w w' : World} {g : Nat} {E : List Ent} (h : RowE w g E) (hb : w'.heap[g]? = w.heap[g]?) (hs : w.heap.size ≤ w'.heap.size) : RowE w' g E :=
  ⟨Nat.lt_of_lt_of_le h.1 hs, fun j hj => by rw [World.cell?_of_block (w := w) hb, World.frozen?_of_block (w := w) hb]; exact h.2 j hj⟩
theorem RowE.below {w w' : World} {g : Nat} {E : List Ent} (h : RowE w g E) (hb : Below w.heap.size w w') : RowE w' g E := h.same (hb.block g h.lt) hb.size
theorem RowE.alloc {w : World} {g : Nat} {E : List Ent} (h : RowE w g E) (o : Obj) : RowE (w.alloc o) g E := h.same (Below.heap_alloc _ _ _ h.lt) (by simp)
theorem RowE.other {w : World} {g : Nat} {E : List Ent} (h : RowE w g E) {p : Addr} (hp : g ≠ p.block) (v : Value) : RowE (w.setCell p v) g E := h.same (Below.heap_setCell _ _ _ _ hp) (by simp [World.setCell])
end Go.Proofs.Ytddlflabdlgnbaa
