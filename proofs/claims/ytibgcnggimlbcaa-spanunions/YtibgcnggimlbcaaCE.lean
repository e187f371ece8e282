/- A slice of pairs of 16 bits that is handed in. Conditions: those written in each theorem. -/
import Derived.Test.YtibgcnggimlbcaaBD
import Derived.Deep.Slices
import Derived.OpenShut
namespace Go.Proofs.Ytibgcnggimlbcaa
open Go.ChangeShapes Go.WideShapes Go.RowKit Go.Deep

set_option maxRecDepth 100000 in
/-- A slice of pairs of 16 bits that is handed in: what its cells hold. -/
theorem open_halves {H : Type} {enc : TypeId × Value → H} {w : World} {base : Nat} {spare : Nat → Bool} {held : Bool} {t e f : TypeId} {ao : Option Addr} {len cap : Nat} {d : DataW H} {ps : List MemPlace}
    (ht : Try.prog.underlying t = some (.slice e)) (he : Try.prog.underlying e = some (.array 2 f)) (hf16 : Try.prog.underlying f = some (.int .u16)) (ce : Try.prog.cellsOf e = 2) (c22 : Try.prog.cellsOf f = 1)
    (h : DataW.Trod enc Try.prog w base spare held t (.slice ao len cap) d ps) :
    ∀ k, k < len → ∃ b off x y, ao = some ⟨b, off, none⟩ ∧ b < w.heap.size ∧ w.cell? ⟨b, off + k * 2, none⟩ = some (.int .u16 x) ∧ w.cell? ⟨b, off + k * 2 + 1, none⟩ = some (.int .u16 y) := by
  obtain ⟨fuel, hf⟩ := h
  rcases open_slice ht hf with ⟨hcs, _⟩ | ⟨a, l, c, m, n, D, Pl, hcs, hb, hl, hm, hmm, _, hx⟩
  · simp [Value.cells] at hcs
    obtain ⟨rfl, rfl, rfl⟩ := hcs
    intro k hk
    omega
  · simp [Value.cells] at hcs
    obtain ⟨rfl, rfl, rfl⟩ := hcs
    have hlm : len ≤ m := by rw [hmm]; split <;> omega
    have each : ∀ i, i < len → ∃ q0 q1 : Int, w.cell? (a.add (i * 2)) = some (.int .u16 q0) ∧ w.cell? (a.add (i * 2 + 1)) = some (.int .u16 q1) := by
      intro i hi
      obtain ⟨cs', h1, h2⟩ := hx i (by omega)
      rw [ce] at h1
      obtain ⟨_, hlen, hcell⟩ := World.cells?_some h1
      obtain ⟨xs, k, _, _, _, hxl, hel⟩ := DataW.trod_array he h2
      match xs, hxl, cs', hlen with
      | [y0, y1], _, [v0, v1], _ =>
        have g0 := hel 0 (by omega)
        have g1 := hel 1 (by omega)
        simp [c22] at g0 g1
        obtain ⟨q0, e0, _, f0⟩ := DataW.trod_int hf16 g0
        obtain ⟨q1, e1, _, f1⟩ := DataW.trod_int hf16 g1
        simp only [List.cons.injEq, and_true] at e0 e1
        subst e0; subst e1
        have c0 := hcell 0 (by omega)
        have c1 := hcell 1 (by omega)
        rw [add_add] at c0 c1
        clear hx hf hmm h1 h2 hcell hel g0 g1
        exact ⟨q0, q1, by simpa using c0, by simpa using c1⟩
    intro k hk
    obtain ⟨q0, q1, h1, h2⟩ := each k hk
    obtain ⟨r0, r1, e1, e2⟩ := each 0 (by omega)
    have hs := World.cell?_spot e1
    have hlt := World.block_lt_of_cell? _ _ e1
    clear each hx hf hmm e1 e2
    obtain ⟨b, off, sp⟩ := a
    simp only [Addr.add, Nat.zero_mul, if_true] at hs hlt
    subst hs
    rw [add_plain] at h1 h2
    exact ⟨b, off, q0, q1, rfl, hlt, h1, h2⟩
end Go.Proofs.Ytibgcnggimlbcaa
