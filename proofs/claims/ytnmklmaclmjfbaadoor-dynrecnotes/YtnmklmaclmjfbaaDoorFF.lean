/- What comes in: a slice of notes; DynrecNotes for any of them. Conditions: those written in each theorem. -/
import Derived.Test.YtnmklmaclmjfbaaDoorFE
import Derived.Deep.Fields
import Derived.Deep.Slices
import Derived.ProofKit
import Derived.OpenShut
namespace Go.Proofs.YtnmklmaclmjfbaaDoor
open Go.RowKit Go.WideShapes Go.ChangeShapes Go.ChangeAt Go.Deep
section
variable {H : Type} {enc : TypeId × Value → H} {P : Program} {w : World} {base : Nat} {spare : Nat → Bool} {held : Bool}
theorem field_at {e : TypeId} {fs : Array Field} (he : P.underlying e = some (.struct fs)) (hone : oneCellFields P fs = true) {n : Nat} {cs : List Value} {x : DataW H × List MemPlace} (hcl : cs.length = fs.size) (h : DataW.trod enc P w base spare held n e cs = some x) :
    ∀ (j : Nat) (f : Field), fs[j]? = some f → ∃ c k y, cs[j]? = some c ∧ DataW.trod enc P w base spare held k f.type [c] = some y := fun j f hf => by
  obtain ⟨xs, k, _, _, _, hlen, hg⟩ := DataW.trod_struct he h
  have hj : j < fs.size := (Array.getElem?_eq_some_iff.1 hf).1
  obtain ⟨ho, hk⟩ := hone_of hone j _ hf
  have hgj := hg j f hf
  rw [ho, hk] at hgj
  have e2 : (List.take 1 (List.drop j cs)) = [cs[j]'(by omega)] := by
    rw [List.drop_eq_getElem_cons (by omega)]
    rfl
  rw [e2, List.getElem?_eq_getElem (by omega)] at hgj
  exact ⟨cs[j]'(by omega), k, _, List.getElem?_eq_getElem (by omega), hgj⟩
theorem open_note {e u s : TypeId} {fs : Array Field} (he : P.underlying e = some (.struct fs)) (hone : oneCellFields P fs = true) (h3 : fs.size = 3) (hu : P.underlying u = some (.int .u64)) (hs : P.underlying s = some .string)
    (h0 : (fs[0]?.map (·.type)) = some u) (h1 : (fs[1]?.map (·.type)) = some s) (h2 : (fs[2]?.map (·.type)) = some s) {n : Nat} {cs : List Value} {x : DataW H × List MemPlace} (hcl : cs.length = 3) (h : DataW.trod enc P w base spare held n e cs = some x) :
    ∃ r : Nt, cs = cellsNt r ∧ r.ty < 18446744073709551616 := by
  have key := field_at he hone (by omega) h
  obtain ⟨c0, c1, c2, rfl⟩ : ∃ c0 c1 c2, cs = [c0, c1, c2] := by
    match cs, hcl with
    | [c0, c1, c2], _ => exact ⟨c0, c1, c2, rfl⟩
  obtain ⟨f0, hf0, rfl⟩ := Option.map_eq_some_iff.1 h0
  obtain ⟨f1, hf1, e1⟩ := Option.map_eq_some_iff.1 h1
  obtain ⟨f2, hf2, e2⟩ := Option.map_eq_some_iff.1 h2
  obtain ⟨d0, k0, y0, g0, t0⟩ := key 0 f0 hf0
  obtain ⟨d1, k1, y1, g1, t1⟩ := key 1 f1 hf1
  obtain ⟨d2, k2, y2, g2, t2⟩ := key 2 f2 hf2
  simp at g0 g1 g2
  subst g0 g1 g2
  rw [e1] at t1
  rw [e2] at t2
  obtain ⟨m, q0, _, hw⟩ := DataW.trod_int hu t0
  obtain ⟨a, q1, _, _⟩ := DataW.trod_string hs t1
  obtain ⟨b, q2, _, _⟩ := DataW.trod_string hs t2
  have hb := bounds_u64 hw
  simp only [List.cons.injEq, and_true] at q0 q1 q2
  subst q0 q1 q2
  refine ⟨⟨m.toNat, a, b⟩, ?_, by dsimp only; omega⟩
  simp only [cellsNt, List.cons.injEq, and_true]
  congr 1
  omega
theorem notes_row {a : Addr} {len : Nat} {R : Nat → Nt} (h : ∀ i, i < len → ∀ j, j < 3 → w.cell? ((a.add (i * 3)).add j) = (cellsNt (R i))[j]?) : RowNt w (some a) len R := fun i hi => by
  have hc0 : w.cell? ((a.add (i * 3)).add 0) = some (.int .u64 ((R i).ty : Nat)) := h i hi 0 (by omega)
  obtain ⟨b, off, spot⟩ := a
  have hspot : spot = none := by
    have := World.cell?_spot (show w.cell? (((⟨b, off, spot⟩ : Addr).add (0 * 3)).add 0) = some (.int .u64 ((R 0).ty : Nat)) from h 0 (by omega) 0 (by omega))
    simpa [Addr.add] using this
  subst hspot
  have e : ∀ j, ((⟨b, off, none⟩ : Addr).add (i * 3)).add j = ⟨b, off + i * 3 + j, none⟩ := fun j => by rw [add_plain, add_plain]
  have hb : b < w.heap.size := by
    rcases Nat.lt_or_ge b w.heap.size with h3 | h3
    · exact h3
    · rw [e 0] at hc0
      simp [World.cell?, Array.getElem?_eq_none h3] at hc0
  refine ⟨b, off, rfl, hb, ?_, ?_, ?_⟩
  · have := h i hi 0 (by omega); rw [e 0] at this; exact this
  · have := h i hi 1 (by omega); rw [e 1] at this; exact this
  · have := h i hi 2 (by omega); rw [e 2] at this; exact this
theorem open_notes {t e u s : TypeId} {fs : Array Field} (ht : P.underlying t = some (.slice e)) (he : P.underlying e = some (.struct fs)) (hone : oneCellFields P fs = true) (h3 : fs.size = 3) (hu : P.underlying u = some (.int .u64)) (hs : P.underlying s = some .string)
    (h0 : (fs[0]?.map (·.type)) = some u) (h1 : (fs[1]?.map (·.type)) = some s) (h2 : (fs[2]?.map (·.type)) = some s) (hC : P.cellsOf e = 3) {fuel : Nat} {cs : List Value} {x : DataW H × List MemPlace} (h : DataW.trod enc P w base spare held fuel t cs = some x) :
    cs = [.slice none 0 0] ∨ ∃ (a : Addr) (len cap : Nat) (R : Nat → Nt), cs = [.slice (some a) len cap] ∧ len ≤ maxLen ∧ RowNt w (some a) len R ∧ ∀ i, i < len → (R i).ty < 18446744073709551616 := by
  rcases Go.Deep.open_slice ht h with ⟨h0, _⟩ | ⟨a, len, cap, m, n, D, Pl, hcs, _, hl, hm, hmm, _, hi⟩
  · exact .inl h0
  · have hlm : len ≤ m := by rw [hmm]; split <;> omega
    have each : ∀ i, ∃ r : Nt, i < len → (∀ j, j < 3 → w.cell? ((a.add (i * 3)).add j) = (cellsNt r)[j]?) ∧ r.ty < 18446744073709551616 := fun i => by
      by_cases hil : i < len
      · obtain ⟨cs', hc, ht'⟩ := hi i (by omega)
        rw [hC] at hc
        obtain ⟨_, hcl, hat⟩ := World.cells?_some hc
        obtain ⟨r, rfl, h4⟩ := open_note he hone h3 hu hs h0 h1 h2 hcl ht'
        exact ⟨r, fun _ => ⟨fun j hj => hat j hj, h4⟩⟩
      · exact ⟨default, fun h => absurd h hil⟩
    exact .inr ⟨a, len, cap, fun i => Classical.choose (each i), hcs, by omega, notes_row (fun i hi => (Classical.choose_spec (each i) hi).1), fun i hi => (Classical.choose_spec (each i) hi).2⟩
end
theorem notes_law (fl : Int) (A : Option Addr) (len cap : Nat) (R : Nat → Nt) (h64 : ∀ i, i < len → (R i).ty < 18446744073709551616) (m0 : ByteArray) (w : World) (hR : RowNt w A len R) :
    Calls Tryd.prog 4 #[.int .i64 fl, .slice A len cap, .string m0] w fun e w' => e = .returned (.bool true) ∧ Below w.heap.size w w' :=
  notes_t fl A cap len (min len 8) (by omega) R m0 (m0.extract 0 (min m0.size 300)) (min m0.size 300) (by omega) rfl _ _ rfl rfl w (fun i hi => hR i (by omega)) (fun i hi => h64 i (by omega))
end Go.Proofs.YtnmklmaclmjfbaaDoor
