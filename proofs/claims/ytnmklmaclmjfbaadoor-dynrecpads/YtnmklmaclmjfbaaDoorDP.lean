/- DynrecPads for any arguments. Conditions: those written in each theorem. -/
import Derived.Test.YtnmklmaclmjfbaaDoorDM
import Derived.Deep.Fields
import Derived.ProofKit
import Derived.OpenShut
namespace Go.Proofs.YtnmklmaclmjfbaaDoor
open Go.RowKit Go.WideShapes Go.ChangeShapes Go.ChangeAt Go.Deep
theorem agg_ints (cs : Array Value) (hs : cs.size = 2) (h : ∀ j, j < 2 → ∃ n : Int, cs[j]? = some (.int .i64 n)) : ∃ a b : Int, cs = #[.int .i64 a, .int .i64 b] := by
  obtain ⟨a, ha⟩ := h 0 (by decide)
  obtain ⟨b, hb⟩ := h 1 (by decide)
  refine ⟨a, b, ?_⟩
  apply Array.ext_getElem?
  intro i
  match i with
  | 0 => rw [ha]; rfl
  | 1 => rw [hb]; rfl
  | i + 2 => rw [Array.getElem?_eq_none (by omega)]; simp
section
variable {H : Type} {enc : TypeId × Value → H} {P : Program} {w : World} {base : Nat} {spare : Nat → Bool} {held : Bool}
theorem open_ints2 {r : Reach} {b0 : Nat} {t e : TypeId} {v : Value} {d : DataW H} {p : List MemPlace} (hs : P.underlying t = some (.array 2 e))
    (hu : P.underlying e = some (.int .i64)) (hce : P.cellsOf e = 1) (hC : P.cellsOf t = 2)
    (hv : Value.okWide P w r b0 t v) (h : DataW.Trod enc P w base spare held t v d p) : ∃ a b : Int, v = .agg #[.int .i64 a, .int .i64 b] := by
  obtain ⟨cs, rfl, hsz⟩ : ∃ cs, v = .agg cs ∧ cs.size = P.cellsOf t := by
    simp only [Value.okWide, hs] at hv
    obtain ⟨cs, h1, h2, _⟩ := hv
    exact ⟨cs, h1, h2⟩
  obtain ⟨fuel, hf⟩ := h
  obtain ⟨xs, n, _, hx, _, hlen, hg⟩ := DataW.trod_array hs hf
  rw [hC] at hsz
  obtain ⟨a, b, hab⟩ := agg_ints cs hsz (fun j hj => by
    have hgj := hg j (by omega)
    rw [hce, Nat.mul_one, List.getElem?_eq_getElem (by omega)] at hgj
    obtain ⟨m, e1, _, _⟩ := DataW.trod_int hu hgj
    have hjs : j < cs.size := by omega
    refine ⟨m, ?_⟩
    have e2 : (List.take 1 (List.drop j cs.toList)) = [cs[j]] := by
      rw [List.drop_eq_getElem_cons (by simpa using hjs)]
      simp
    have e3 : (Value.agg cs).cells.toList = cs.toList := rfl
    rw [e3, e2] at e1
    simp only [List.cons.injEq, and_true] at e1
    rw [Array.getElem?_eq_getElem hjs, e1])
  exact ⟨a, b, by rw [hab]⟩
end
theorem pads_law (fl at_ : Int) (nm0 : ByteArray) (hl : nm0.size ≤ 9223372036854775807) (x : Int) (h0 : 0 ≤ x) (h1 : x < 256) (w : World) :
    Calls Tryd.prog 5 #[.agg #[.int .i64 fl, .int .i64 at_], .string nm0, .int .u8 x] w fun e w' => e = .returned (.bool true) ∧ Below w.heap.size w w' := by
  have hx : ((UInt8.ofNat x.toNat).toNat : Int) = x := by
    rw [UInt8.toNat_ofNat']
    omega
  have := pads_t fl at_ nm0 _ (UInt8.ofNat x.toNat) (min nm0.size 40) (by omega) rfl hl _ _ rfl rfl w
  rw [hx] at this
  exact this
end Go.Proofs.YtnmklmaclmjfbaaDoor
