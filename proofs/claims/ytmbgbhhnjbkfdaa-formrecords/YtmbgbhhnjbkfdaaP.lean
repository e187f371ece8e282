/- Slices of numbers that came in, as rows; and FormRecords at whatever slices came in. Conditions: those written in each theorem. -/
import Derived.Test.YtmbgbhhnjbkfdaaN
import Derived.ProofKit
import Derived.PlainAid
import Derived.OpenShut
namespace Go.Proofs.Ytmbgbhhnjbkfdaa
open Go.RowKit Go.WideShapes Go.ChangeShapes Go.ChangeAt
/-- What is told of a slice of integers that came in. -/
def IsRow (k : IntKind) (w : World) (a : Option Addr) (len cap : Nat) (zs : List Int) : Prop :=
  (a = none ∧ len = 0 ∧ cap = 0 ∧ zs = []) ∨
  ∃ x, a = some x ∧ len ≤ cap ∧ cap ≤ maxLen ∧ zs.length = cap ∧ (∀ i, i < zs.length → w.cell? (x.add i) = some (.int k (zs.getD i 0))) ∧ ∀ n ∈ zs, (Lit.int k n).wf = true
theorem IsRow.at {k : IntKind} {w : World} {a : Option Addr} {len cap : Nat} {zs : List Int} (h : IsRow k w a len cap zs) (i : Nat) (hi : i < len) :
    ∃ b off, a = some ⟨b, off, none⟩ ∧ b < w.heap.size ∧ w.cell? ⟨b, off + i, none⟩ = some (.int k (zs.getD i 0)) ∧ (Lit.int k (zs.getD i 0)).wf = true := by
  rcases h with ⟨rfl, rfl, rfl, rfl⟩ | ⟨x, rfl, hl, hm, hz, hcell, hwz⟩
  · omega
  · obtain ⟨b, off, rfl, hc⟩ := ints_at hcell (by omega)
    have hci := hc i (by omega)
    refine ⟨b, off, rfl, World.block_lt_of_cell? w _ hci, hci, ?_⟩
    have : zs.getD i 0 ∈ zs := by
      rw [List.getD_eq_getElem?_getD, List.getElem?_eq_getElem (by omega)]
      exact List.getElem_mem _
    exact hwz _ this
theorem IsRow.len_le {k : IntKind} {w : World} {a : Option Addr} {len cap : Nat} {zs : List Int} (h : IsRow k w a len cap zs) : len ≤ maxLen := by
  rcases h with ⟨rfl, rfl, rfl, rfl⟩ | ⟨x, rfl, hl, hm, hz, hcell, hwz⟩
  · exact Nat.zero_le _
  · omega
theorem IsRow.le_cap {k : IntKind} {w : World} {a : Option Addr} {len cap : Nat} {zs : List Int} (h : IsRow k w a len cap zs) : len ≤ cap := by
  rcases h with ⟨rfl, rfl, rfl, rfl⟩ | ⟨x, rfl, hl, hm, hz, hcell, hwz⟩
  · exact Nat.le_refl _
  · exact hl
theorem IsRow.rowI {w : World} {a : Option Addr} {len cap : Nat} {zs : List Int} (h : IsRow .i64 w a len cap zs) : RowI w a len zs := fun i hi => by
  obtain ⟨b, off, e1, e2, e3, _⟩ := h.at i hi
  exact ⟨b, off, e1, e2, e3⟩
theorem IsRow.rowN {w : World} {a : Option Addr} {len cap : Nat} {zs : List Int} (h : IsRow .u64 w a len cap zs) : RowN w a len (zs.map Int.toNat) := fun i hi => by
  obtain ⟨b, off, e1, e2, e3, e4⟩ := h.at i hi
  have hb := bounds_u64 e4
  have eN : (zs.map Int.toNat).getD i 0 = (zs.getD i 0).toNat := by
    simp only [List.getD_eq_getElem?_getD, List.getElem?_map]
    cases zs[i]? <;> simp
  refine ⟨b, off, e1, e2, ?_, ?_⟩
  · rw [e3, eN]
    congr 2
    omega
  · rw [eN]
    omega
theorem formRecords_wf (fl : Int) (a1 : Option Addr) (l1 c1 : Nat) (z1 : List Int) (a2 : Option Addr) (l2 c2 : Nat) (z2 : List Int) (w : World) (h1 : IsRow .i64 w a1 l1 c1 z1) (h2 : IsRow .u64 w a2 l2 c2 z2) :
    Calls Try.prog 9 #[.int .i64 fl, .slice a1 l1 c1, .slice a2 l2 c2] w fun e w' => e = .returned (.bool true) ∧ Below w.heap.size w w' :=
  records_core fl a1 a2 l1 c1 l2 c2 (min l1 12) (min l2 12) z1 (z2.map Int.toNat) w h1.le_cap h2.le_cap (by omega) (by omega)
    (h1.rowI.kept (Below.refl _ _) (Nat.min_le_left _ _)) (h2.rowN.kept (Below.refl _ _) (Nat.min_le_left _ _))
end Go.Proofs.Ytmbgbhhnjbkfdaa
