/- Contracts of a header's package, by gen_hdr.py. Conditions: those written in each theorem. -/
import Derived.Test.YtnmklmaclmjfbaaRB
namespace Go.Proofs.Ytnmklmaclmjfbaa
open Go.RowKit
theorem RowI.of_rowT {w : World} {b : Nat} {L : List Int} {t : TypeId} (hb : b < w.heap.size) (h : w.heap[b]? = some (.cells (rowI64 L) t (0, 0))) : RowI w (some ⟨b, 0, none⟩) L.length L := fun k hk =>
  ⟨b, 0, rfl, hb, by rw [Nat.zero_add, List.getD_eq_getElem?_getD, List.getElem?_eq_getElem hk]; simp [World.cell?, h, rowI64, hk]⟩
theorem RowN.of_rowT {w : World} {b : Nat} {L : List Nat} {t : TypeId} (hb : b < w.heap.size) (h : w.heap[b]? = some (.cells (rowU64 L) t (0, 0))) (hn : ∀ n ∈ L, n < 2 ^ 64) : RowN w (some ⟨b, 0, none⟩) L.length L := fun k hk =>
  ⟨b, 0, rfl, hb, by rw [Nat.zero_add, List.getD_eq_getElem?_getD, List.getElem?_eq_getElem hk]; simp [World.cell?, h, rowU64, hk], by rw [List.getD_eq_getElem?_getD, List.getElem?_eq_getElem hk]; exact hn _ (List.getElem_mem hk)⟩
end Go.Proofs.Ytnmklmaclmjfbaa
