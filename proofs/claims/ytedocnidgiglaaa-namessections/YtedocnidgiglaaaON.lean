/- Arguments that are structs or arrays of uint64, by value: their cells are numbers. Conditions: those written in each theorem. -/
import Derived.Test.YtedocnidgiglaaaJB
import Derived.Deep.Fields
import Derived.ProofKit
import Derived.OpenShut
namespace Go.Proofs.Ytedocnidgiglaaa
open Go.RowKit Go.WideShapes Go.ChangeShapes Go.ChangeAt Go.Deep
theorem agg_nums (cs : Array Value) (h : ∀ j, j < cs.size → ∃ n : Nat, cs[j]? = some (.int .u64 (n : Int)) ∧ n < 2 ^ 64) :
    ∃ ns : List Nat, cs = rowU64 ns ∧ ns.length = cs.size ∧ ∀ n ∈ ns, n < 2 ^ 64 := by
  refine ⟨cs.toList.map fun v => (intOf v).toNat, ?_, by simp, ?_⟩
  · apply Array.ext
    · simp [rowU64]
    · intro i h1 h2
      obtain ⟨n, hn, _⟩ := h i h1
      rw [Array.getElem?_eq_getElem h1] at hn
      simp only [Option.some.injEq] at hn
      simp [rowU64, hn, intOf]
  · intro n hn
    simp only [List.mem_map] at hn
    obtain ⟨v, hv, rfl⟩ := hn
    obtain ⟨j, hj, rfl⟩ := List.getElem_of_mem hv
    obtain ⟨n, hn, hlt⟩ := h j (by simpa using hj)
    rw [Array.getElem?_eq_getElem (by simpa using hj)] at hn
    simp only [Option.some.injEq] at hn
    simp [hn, intOf]
    exact hlt
section
variable {H : Type} {enc : TypeId × Value → H} {P : Program} {w : World} {base : Nat} {spare : Nat → Bool} {held : Bool}
theorem open_nums_struct {r : Reach} {b0 : Nat} {t : TypeId} {fs : Array Field} {v : Value} {d : DataW H} {p : List MemPlace} (hs : P.underlying t = some (.struct fs)) (hone : oneCellFields P fs = true)
    {e : TypeId} (he : P.underlying e = some (.int .u64)) (hu : fs.all (fun f => f.type == e) = true) (hC : P.cellsOf t = fs.size)
    (hv : Value.okWide P w r b0 t v) (h : DataW.Trod enc P w base spare held t v d p) : ∃ ns : List Nat, v = .agg (rowU64 ns) ∧ ns.length = fs.size ∧ ∀ n ∈ ns, n < 2 ^ 64 := by
  obtain ⟨cs, rfl, hsz⟩ := okWide_struct hs hv
  obtain ⟨fuel, hf⟩ := h
  obtain ⟨xs, n, _, hx, _, hlen, hg⟩ := DataW.trod_struct hs hf
  rw [hC] at hsz
  obtain ⟨ns, h1, h2, h3⟩ := agg_nums cs (fun j hj => by
    have hjf : j < fs.size := by omega
    have hfj : fs[j]? = some fs[j] := Array.getElem?_eq_getElem hjf
    obtain ⟨ho, hk⟩ := hone_of hone j _ hfj
    have hgj := hg j _ hfj
    rw [ho, hk] at hgj
    have hut : P.underlying fs[j].type = some (.int .u64) := by
      have := (Array.all_eq_true.1 hu) j hjf
      simp only [beq_iff_eq] at this
      rw [this]; exact he
    rw [List.getElem?_eq_getElem (by omega)] at hgj
    obtain ⟨m, e1, _, hw⟩ := DataW.trod_int hut hgj
    have hb := bounds_u64 hw
    refine ⟨m.toNat, ?_, by omega⟩
    have e2 : (List.take 1 (List.drop j cs.toList)) = [cs[j]] := by
      rw [List.drop_eq_getElem_cons (by simpa using hj)]
      simp
    have e3 : (Value.agg cs).cells.toList = cs.toList := rfl
    rw [e3, e2] at e1
    simp only [List.cons.injEq, and_true] at e1
    rw [Array.getElem?_eq_getElem hj, e1]
    congr 2
    omega)
  exact ⟨ns, by rw [h1], by rw [h2, hsz], h3⟩
theorem open_nums_array {r : Reach} {b0 : Nat} {t e : TypeId} {k : Nat} {v : Value} {d : DataW H} {p : List MemPlace} (hs : P.underlying t = some (.array k e))
    (hu : P.underlying e = some (.int .u64)) (hce : P.cellsOf e = 1) (hC : P.cellsOf t = k)
    (hv : Value.okWide P w r b0 t v) (h : DataW.Trod enc P w base spare held t v d p) : ∃ ns : List Nat, v = .agg (rowU64 ns) ∧ ns.length = k ∧ ∀ n ∈ ns, n < 2 ^ 64 := by
  obtain ⟨cs, rfl, hsz⟩ : ∃ cs, v = .agg cs ∧ cs.size = P.cellsOf t := by
    simp only [Value.okWide, hs] at hv
    obtain ⟨cs, h1, h2, _⟩ := hv
    exact ⟨cs, h1, h2⟩
  obtain ⟨fuel, hf⟩ := h
  obtain ⟨xs, n, _, hx, _, hlen, hg⟩ := DataW.trod_array hs hf
  rw [hC] at hsz
  obtain ⟨ns, h1, h2, h3⟩ := agg_nums cs (fun j hj => by
    have hgj := hg j (by omega)
    rw [hce, Nat.mul_one, List.getElem?_eq_getElem (by omega)] at hgj
    obtain ⟨m, e1, _, hw⟩ := DataW.trod_int hu hgj
    have hb := bounds_u64 hw
    refine ⟨m.toNat, ?_, by omega⟩
    have e2 : (List.take 1 (List.drop j cs.toList)) = [cs[j]] := by
      rw [List.drop_eq_getElem_cons (by simpa using hj)]
      simp
    have e3 : (Value.agg cs).cells.toList = cs.toList := rfl
    rw [e3, e2] at e1
    simp only [List.cons.injEq, and_true] at e1
    rw [Array.getElem?_eq_getElem hj, e1]
    congr 2
    omega)
  exact ⟨ns, by rw [h1], by rw [h2, hsz], h3⟩
end
end Go.Proofs.Ytedocnidgiglaaa
