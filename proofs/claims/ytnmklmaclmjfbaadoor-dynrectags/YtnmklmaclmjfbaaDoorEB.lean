/- What comes in: a slice of arrays of two uint64; DynrecEntries for any of them. Conditions: those written in each theorem. -/
import Derived.Test.YtnmklmaclmjfbaaDoorEA
import Derived.Deep.Fields
import Derived.Deep.Slices
import Derived.ProofKit
import Derived.OpenShut
namespace Go.Proofs.YtnmklmaclmjfbaaDoor
open Go.RowKit Go.WideShapes Go.ChangeShapes Go.ChangeAt Go.Deep
theorem pairs_row {w : World} {a : Addr} {len : Nat} {R : Nat → Nat → Nat} (h : ∀ i, i < len → ∀ j, j < 2 → w.cell? ((a.add (i * 2)).add j) = some (.int .u64 (R i j : Nat))) : RowP w (some a) len (fun i => (R i 0, R i 1)) := fun i hi => by
  have hc0 := h i hi 0 (by omega)
  obtain ⟨b, off, spot⟩ := a
  have hspot : spot = none := by
    have := World.cell?_spot (show w.cell? (((⟨b, off, spot⟩ : Addr).add (0 * 2)).add 0) = some (.int .u64 (R 0 0 : Nat)) from h 0 (by omega) 0 (by omega))
    simpa [Addr.add] using this
  subst hspot
  have e : ∀ j, ((⟨b, off, none⟩ : Addr).add (i * 2)).add j = ⟨b, off + i * 2 + j, none⟩ := fun j => by rw [add_plain, add_plain]
  have hb : b < w.heap.size := by
    rcases Nat.lt_or_ge b w.heap.size with h3 | h3
    · exact h3
    · rw [e 0] at hc0
      simp [World.cell?, Array.getElem?_eq_none h3] at hc0
  refine ⟨b, off, rfl, hb, ?_, ?_⟩
  · have := h i hi 0 (by omega); rw [e 0] at this; exact this
  · have := h i hi 1 (by omega); rw [e 1] at this; exact this
section
variable {H : Type} {enc : TypeId × Value → H} {P : Program} {w : World} {base : Nat} {spare : Nat → Bool} {held : Bool}
theorem open_pair {e u : TypeId} (he : P.underlying e = some (.array 2 u)) (hu : P.underlying u = some (.int .u64)) (hcu : P.cellsOf u = 1)
    {n : Nat} {cs : List Value} {x : DataW H × List MemPlace} (hcl : cs.length = 2) (h : DataW.trod enc P w base spare held n e cs = some x) : ∀ j, j < 2 → ∃ m : Nat, cs[j]? = some (.int .u64 (m : Nat)) ∧ m < 18446744073709551616 := by
  obtain ⟨xs, k, _, _, _, _, hg⟩ := DataW.trod_array he h
  intro j hj
  have hgj := hg j (by omega)
  rw [hcu, Nat.mul_one] at hgj
  have e2 : (List.take 1 (List.drop j cs)) = [cs[j]'(by omega)] := by
    rw [List.drop_eq_getElem_cons (by omega)]
    rfl
  rw [e2] at hgj
  cases hx : xs[j]? with
  | none =>
    rw [hx] at hgj
    have h5 := List.getElem?_eq_none_iff.1 hx
    omega
  | some y =>
    rw [hx] at hgj
    obtain ⟨m, e1, _, hw⟩ := DataW.trod_int hu hgj
    have hb := bounds_u64 hw
    refine ⟨m.toNat, ?_, by omega⟩
    simp only [List.cons.injEq, and_true] at e1
    rw [List.getElem?_eq_getElem (by omega), e1]
    congr 2
    omega
theorem open_pairs {t e u : TypeId} (ht : P.underlying t = some (.slice e)) (he : P.underlying e = some (.array 2 u)) (hu : P.underlying u = some (.int .u64)) (hcu : P.cellsOf u = 1) (hC : P.cellsOf e = 2)
    {fuel : Nat} {cs : List Value} {x : DataW H × List MemPlace} (h : DataW.trod enc P w base spare held fuel t cs = some x) :
    cs = [.slice none 0 0] ∨ ∃ (a : Addr) (len cap : Nat) (R : Nat → Nat × Nat), cs = [.slice (some a) len cap] ∧ len ≤ maxLen ∧ RowP w (some a) len R ∧ ∀ i, i < len → (R i).1 < 18446744073709551616 ∧ (R i).2 < 18446744073709551616 := by
  rcases Go.Deep.open_slice ht h with ⟨h0, _⟩ | ⟨a, len, cap, m, n, D, Pl, hcs, _, hl, hm, hmm, _, hi⟩
  · exact .inl h0
  · have hlm : len ≤ m := by rw [hmm]; split <;> omega
    have each : ∀ i j, ∃ v : Nat, i < len → j < 2 → w.cell? ((a.add (i * 2)).add j) = some (.int .u64 (v : Nat)) ∧ v < 18446744073709551616 := fun i j => by
      by_cases hil : i < len
      · by_cases hj : j < 2
        · obtain ⟨cs', hc, ht'⟩ := hi i (by omega)
          rw [hC] at hc
          obtain ⟨_, hcl, hat⟩ := World.cells?_some hc
          obtain ⟨v, h1, h2⟩ := open_pair he hu hcu hcl ht' j hj
          exact ⟨v, fun _ _ => ⟨(hat j hj).trans h1, h2⟩⟩
        · exact ⟨0, fun _ h => absurd h hj⟩
      · exact ⟨0, fun h _ => absurd h hil⟩
    refine .inr ⟨a, len, cap, _, hcs, by omega, pairs_row (R := fun i j => Classical.choose (each i j)) (fun i hi j hj => (Classical.choose_spec (each i j) hi hj).1), fun i hi => ⟨(Classical.choose_spec (each i 0) hi (by decide)).2, (Classical.choose_spec (each i 1) hi (by decide)).2⟩⟩
end
theorem entries_law (fl : Int) (A : Option Addr) (len cap : Nat) (R : Nat → Nat × Nat) (h64 : ∀ i, i < len → (R i).1 < 18446744073709551616 ∧ (R i).2 < 18446744073709551616) (m0 : ByteArray) (w : World) (hR : RowP w A len R) :
    Calls Tryd.prog 3 #[.int .i64 fl, .slice A len cap, .string m0] w fun e w' => e = .returned (.bool true) ∧ Below w.heap.size w w' :=
  entries_t fl A cap len (min len 12) (by omega) R m0 (m0.extract 0 (min m0.size 30)) (min m0.size 30) (by omega) rfl _ _ rfl rfl w (fun i hi => hR i (by omega)) (fun i hi => h64 i (by omega))
end Go.Proofs.YtnmklmaclmjfbaaDoor
