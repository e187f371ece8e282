/- The walk of the law OrderFields, at whatever slices came in. Conditions: those written in each theorem. -/
import Derived.Test.YtibgcnggimlbcaaR
import Derived.Test.YtibgcnggimlbcaaN
namespace Go.Proofs.Ytibgcnggimlbcaa
open Go.RowKit
theorem IsRow.le_cap {k : IntKind} {w : World} {a : Option Addr} {len cap : Nat} {zs : List Int} (h : IsRow k w a len cap zs) : len ≤ cap := by
  rcases h with ⟨rfl, rfl, rfl, rfl⟩ | ⟨x, rfl, hl, hm, hz, hcell, hwz⟩
  · exact Nat.le_refl _
  · exact hl
theorem fields_wf (big : Bool) (a1 : Option Addr) (l1 c1 : Nat) (z1 : List Int) (a2 : Option Addr) (l2 c2 : Nat) (z2 : List Int) (w : World) (h1 : IsRow .i64 w a1 l1 c1 z1) (h2 : IsRow .u64 w a2 l2 c2 z2) :
    Calls Try.prog 5 #[.bool big, .slice a1 l1 c1, .slice a2 l2 c2] w fun e w' => e = .returned (.bool true) ∧ Below w.heap.size w w' := by
  refine fields_walk big a1 a2 l1 c1 l2 c2 z1 (z2.map Int.toNat) w h1.le_cap h2.le_cap ?_ ?_
  · intro i hi
    obtain ⟨b, off, e1, e2, e3, _⟩ := h1.at i hi
    exact ⟨b, off, e1, e2, e3⟩
  · intro i hi
    obtain ⟨b, off, e1, e2, e3, e4⟩ := h2.at i hi
    have hb := bounds_u64 e4
    have eN : (z2.map Int.toNat).getD i 0 = (z2.getD i 0).toNat := by
      simp only [List.getD_eq_getElem?_getD, List.getElem?_map]
      cases z2[i]? <;> simp
    refine ⟨b, off, e1, e2, ?_, ?_⟩
    · rw [e3, eN]
      congr 2
      omega
    · rw [eN]
      omega
end Go.Proofs.Ytibgcnggimlbcaa
