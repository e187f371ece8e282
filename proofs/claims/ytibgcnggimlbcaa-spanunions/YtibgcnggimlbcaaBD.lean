/- A slice of pairs that is handed in, as a list of pairs. Conditions: those written in each theorem. -/
import Derived.Test.YtibgcnggimlbcaaZ
import Derived.Deep.Slices
import Derived.OpenShut
namespace Go.Proofs.Ytibgcnggimlbcaa
open Go.ChangeShapes Go.WideShapes Go.RowKit Go.Deep

set_option maxRecDepth 100000 in
/-- A slice of pairs that is handed in: its cells as a list of pairs of naturals. -/
theorem open_spans {H : Type} {enc : TypeId × Value → H} {w : World} {base : Nat} {spare : Nat → Bool} {held : Bool} {t e : TypeId} {ao : Option Addr} {len cap : Nat} {d : DataW H} {ps : List MemPlace}
    (ht : Try.prog.underlying t = some (.slice e)) (he : Try.prog.underlying e = some (.array 2 22)) (ce : Try.prog.cellsOf e = 2) (c22 : Try.prog.cellsOf 22 = 1)
    (h : DataW.Trod enc Try.prog w base spare held t (.slice ao len cap) d ps) :
    len ≤ maxLen ∧ ∃ ds : List (Nat × Nat), ds.length = len ∧ RowS w ao len ds ∧ Small ds := by
  obtain ⟨fuel, hf⟩ := h
  rcases open_slice ht hf with ⟨hcs, _⟩ | ⟨a, l, c, m, n, D, Pl, hcs, hb, hl, hm, hmm, _, hx⟩
  · simp [Value.cells] at hcs
    obtain ⟨rfl, rfl, rfl⟩ := hcs
    exact ⟨by omega, [], rfl, fun k hk => by omega, fun s hs => by cases hs⟩
  · simp [Value.cells] at hcs
    obtain ⟨rfl, rfl, rfl⟩ := hcs
    have hlm : len ≤ m := by rw [hmm]; split <;> omega
    have each : ∀ i, i < len → ∃ q : Nat × Nat, w.cell? (a.add (i * 2)) = some (.int .u64 (q.1 : Int)) ∧ w.cell? (a.add (i * 2 + 1)) = some (.int .u64 (q.2 : Int)) ∧ q.1 < 2 ^ 64 ∧ q.2 < 2 ^ 64 := by
      intro i hi
      obtain ⟨cs', h1, h2⟩ := hx i (by omega)
      rw [ce] at h1
      obtain ⟨_, hlen, hcell⟩ := World.cells?_some h1
      obtain ⟨xs, k, _, _, _, hxl, hel⟩ := DataW.trod_array he h2
      match xs, hxl, cs', hlen with
      | [y0, y1], _, [v0, v1], _ =>
        have g0 := hel 0 (by omega)
        have g1 := hel 1 (by omega)
        simp [c22] at g0 g1
        obtain ⟨q0, e0, _, f0⟩ := DataW.trod_int Try.underlying22 g0
        obtain ⟨q1, e1, _, f1⟩ := DataW.trod_int Try.underlying22 g1
        simp only [List.cons.injEq, and_true] at e0 e1
        subst e0; subst e1
        have c0 := hcell 0 (by omega)
        have c1 := hcell 1 (by omega)
        rw [add_add] at c0 c1
        have b0 := bounds_u64 f0
        have b1 := bounds_u64 f1
        obtain ⟨z0, rfl⟩ := Int.eq_ofNat_of_zero_le b0.1
        obtain ⟨z1, rfl⟩ := Int.eq_ofNat_of_zero_le b1.1
        clear hx hf hmm h1 h2 hcell hel g0 g1
        exact ⟨(z0, z1), by simpa using c0, by simpa using c1, by omega, by omega⟩
    obtain ⟨q, hq⟩ := choose_lt each
    refine ⟨by omega, (List.range len).map q, by simp, ?_, ?_⟩
    · intro k hk
      obtain ⟨h1, h2, _⟩ := hq k hk
      have hs := World.cell?_spot (hq 0 (by omega)).1
      have hlt := World.block_lt_of_cell? _ _ (hq 0 (by omega)).1
      clear each hx hf hmm hq
      obtain ⟨b, off, sp⟩ := a
      simp only [Addr.add, Nat.zero_mul, if_true] at hs hlt
      subst hs
      rw [add_plain] at h1 h2
      have hg : ((List.range len).map q).getD k (0, 0) = q k := by simp [List.getD, hk]
      exact ⟨b, off, rfl, hlt, by rw [hg]; exact h1, by rw [hg]; exact h2⟩
    · intro s hs
      simp only [List.mem_map, List.mem_range] at hs
      obtain ⟨i, hi, rfl⟩ := hs
      exact (hq i hi).2.2
end Go.Proofs.Ytibgcnggimlbcaa
