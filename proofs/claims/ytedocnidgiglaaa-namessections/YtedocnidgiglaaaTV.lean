/- An argument that is an array of three ints. Conditions: those written in each theorem. -/
import Derived.Test.YtedocnidgiglaaaON
namespace Go.Proofs.Ytedocnidgiglaaa
open Go.RowKit Go.WideShapes Go.ChangeShapes Go.ChangeAt Go.Deep
section
variable {H : Type} {enc : TypeId × Value → H} {P : Program} {w : World} {base : Nat} {spare : Nat → Bool} {held : Bool}
theorem open_ints3 {r : Reach} {b0 : Nat} {t e : TypeId} {v : Value} {d : DataW H} {p : List MemPlace} (hs : P.underlying t = some (.array 3 e))
    (hu : P.underlying e = some (.int .i64)) (hce : P.cellsOf e = 1) (hC : P.cellsOf t = 3)
    (hv : Value.okWide P w r b0 t v) (h : DataW.Trod enc P w base spare held t v d p) : ∃ f : Nat → Int, v = .agg #[.int .i64 (f 0), .int .i64 (f 1), .int .i64 (f 2)] := by
  obtain ⟨cs, rfl, hsz⟩ : ∃ cs, v = .agg cs ∧ cs.size = P.cellsOf t := by
    simp only [Value.okWide, hs] at hv
    obtain ⟨cs, h1, h2, _⟩ := hv
    exact ⟨cs, h1, h2⟩
  obtain ⟨fuel, hf⟩ := h
  obtain ⟨xs, n, _, hx, _, hlen, hg⟩ := DataW.trod_array hs hf
  rw [hC] at hsz
  have key : ∀ j, j < 3 → ∃ m : Int, cs[j]? = some (.int .i64 m) := fun j hj => by
    have hgj := hg j (by omega)
    rw [hce, Nat.mul_one, List.getElem?_eq_getElem (by omega)] at hgj
    obtain ⟨m, e1, _, hw⟩ := DataW.trod_int hu hgj
    refine ⟨m, ?_⟩
    have hjs : j < cs.size := by omega
    have e2 : (List.take 1 (List.drop j cs.toList)) = [cs[j]] := by
      rw [List.drop_eq_getElem_cons (by simpa using hjs)]
      simp
    have e3 : (Value.agg cs).cells.toList = cs.toList := rfl
    rw [e3, e2] at e1
    simp only [List.cons.injEq, and_true] at e1
    rw [Array.getElem?_eq_getElem hjs, e1]
  obtain ⟨m0, h0⟩ := key 0 (by decide)
  obtain ⟨m1, h1⟩ := key 1 (by decide)
  obtain ⟨m2, h2⟩ := key 2 (by decide)
  refine ⟨fun i => if i = 0 then m0 else if i = 1 then m1 else m2, ?_⟩
  congr 1
  apply Array.ext_getElem?
  intro i
  match i with
  | 0 => rw [h0]; rfl
  | 1 => rw [h1]; rfl
  | 2 => rw [h2]; rfl
  | i + 3 => rw [Array.getElem?_eq_none (by omega), Array.getElem?_eq_none (by simp)]
end
end Go.Proofs.Ytedocnidgiglaaa
