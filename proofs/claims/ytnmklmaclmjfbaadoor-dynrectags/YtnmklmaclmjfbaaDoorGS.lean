/- What the listed package variables hold, out of the row's condition. Conditions: those written in each theorem. -/
import Derived.Test.YtnmklmaclmjfbaaDoorRows
import Derived.Deep.Fields
import Derived.ProofKit
import Derived.LaidMore
import Derived.OpenShut
import Derived.Stop.Joined
import Derived.MakeChecks
namespace Go.Proofs.YtnmklmaclmjfbaaDoor
open Go.ChangeShapes Go.WideShapes Go.ChangeAt Go.RowKit Go.Deep
theorem take_one {α : Type} {l : List α} {i : Nat} {v : α} (h : (l.drop i).take 1 = [v]) : l[i]? = some v := by
  have := congrArg (fun l => l[0]?) h
  simpa using this
theorem take_two {α : Type} {l : List α} {i : Nat} {u v : α} (h : (l.drop i).take 2 = [u, v]) : l[i]? = some u ∧ l[i + 1]? = some v := by
  have h0 := congrArg (fun l => l[0]?) h
  have h1 := congrArg (fun l => l[1]?) h
  constructor
  · simpa using h0
  · simpa using h1
theorem two_of {α : Type} : ∀ l : List α, l.length = 2 → ∃ u v, l = [u, v]
  | [u, v], _ => ⟨u, v, rfl⟩
section
variable {H : Type} {enc : TypeId × Value → H} {P : Program} {w : World} {base : Nat} {sp : Nat → Bool} {held : Bool}
theorem arr_int {fuel : Nat} {t e : TypeId} {n : Nat} {q : IntKind} {cs : List Value} {ds : List (DataW H)} {ps : List MemPlace} (ht : P.underlying t = some (.array n e)) (he : P.underlying e = some (.int q)) (hc : P.cellsOf e = 1)
    (h : DataW.trod enc P w base sp held fuel t cs = some (.agg ds, ps)) (i : Nat) (hi : i < n) (k : Int) (hd : ds[i]? = some (.lit (.int q k))) : cs[i]? = some (.int q k) := by
  obtain ⟨xs, m, _, hx, hlen, hn, hel⟩ := DataW.trod_array ht h
  simp only [Prod.mk.injEq, DataW.agg.injEq] at hx
  have h1 := hel i hi
  rw [hc, Nat.mul_one, List.getElem?_eq_getElem (by omega)] at h1
  obtain ⟨k', e1, e2, _⟩ := DataW.trod_int he h1
  rw [hx.1, List.getElem?_map, List.getElem?_eq_getElem (by omega), e2] at hd
  simp at hd
  subst hd
  exact take_one e1
theorem arr_str {fuel : Nat} {t e : TypeId} {n : Nat} {cs : List Value} {ds : List (DataW H)} {ps : List MemPlace} (ht : P.underlying t = some (.array n e)) (he : P.underlying e = some .string) (hc : P.cellsOf e = 1)
    (h : DataW.trod enc P w base sp held fuel t cs = some (.agg ds, ps)) (i : Nat) (hi : i < n) (l : List UInt8) (hd : ds[i]? = some (.lit (.string l))) : cs[i]? = some (.string ⟨l.toArray⟩) := by
  obtain ⟨xs, m, _, hx, hlen, hn, hel⟩ := DataW.trod_array ht h
  simp only [Prod.mk.injEq, DataW.agg.injEq] at hx
  have h1 := hel i hi
  rw [hc, Nat.mul_one, List.getElem?_eq_getElem (by omega)] at h1
  obtain ⟨s, e1, e2, _⟩ := DataW.trod_string he h1
  rw [hx.1, List.getElem?_map, List.getElem?_eq_getElem (by omega), e2] at hd
  simp at hd
  subst hd
  exact take_one e1
theorem arr_pair {fuel : Nat} {t e : TypeId} {n : Nat} {f0 f1 : Field} {cs : List Value} {ds : List (DataW H)} {ps : List MemPlace} (ht : P.underlying t = some (.array n e)) (he : P.underlying e = some (.struct #[f0, f1])) (hone : oneCellFields P #[f0, f1] = true)
    (h0 : P.underlying f0.type = some (.int .u64)) (h1 : P.underlying f1.type = some .string) (hc : P.cellsOf e = 2)
    (h : DataW.trod enc P w base sp held fuel t cs = some (.agg ds, ps)) (i : Nat) (hi : i < n) (k : Int) (l : List UInt8) (hd : ds[i]? = some (.agg [.lit (.int .u64 k), .lit (.string l)])) :
    cs[i * 2]? = some (.int .u64 k) ∧ cs[i * 2 + 1]? = some (.string ⟨l.toArray⟩) := by
  obtain ⟨xs, m, _, hx, hlen, hn, hel⟩ := DataW.trod_array ht h
  simp only [Prod.mk.injEq, DataW.agg.injEq] at hx
  have h2 := hel i hi
  rw [hc, List.getElem?_eq_getElem (by omega)] at h2
  obtain ⟨ys, m', _, hy, hl2, hyl, hg⟩ := DataW.trod_struct he h2
  obtain ⟨o0, k0⟩ := hone_of hone 0 f0 rfl
  obtain ⟨o1, k1⟩ := hone_of hone 1 f1 rfl
  have g0 := hg 0 f0 rfl
  have g1 := hg 1 f1 rfl
  rw [o0, k0] at g0
  rw [o1, k1] at g1
  rw [hx.1, List.getElem?_map, List.getElem?_eq_getElem (by omega), hy] at hd
  rw [hc] at hl2
  obtain ⟨u, v, hcs⟩ := two_of _ hl2
  match ys, hyl with
  | [y0, y1], _ =>
    rw [hcs] at g0 g1
    simp at g0 g1
    obtain ⟨k', e1, e2, _⟩ := DataW.trod_int h0 g0
    obtain ⟨s, e3, e4, _⟩ := DataW.trod_string h1 g1
    simp [e2, e4] at hd
    obtain ⟨rfl, rfl⟩ := hd
    obtain ⟨t1, t2⟩ := take_two hcs
    simp at e1 e3
    subst e1 e3
    exact ⟨t1, t2⟩
end
end Go.Proofs.YtnmklmaclmjfbaaDoor
