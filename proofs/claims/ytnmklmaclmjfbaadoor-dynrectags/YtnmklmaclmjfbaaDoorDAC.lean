/- An owned row of entries is a row of entries. Conditions: those written in each theorem. -/
import Derived.Test.YtnmklmaclmjfbaaDoorDH
namespace Go.Proofs.YtnmklmaclmjfbaaDoor
open Go.RowKit
theorem flatEm_succ (R : Nat → Nat × Nat) (k : Nat) : flatE ((List.range (k + 1)).map R) = flatE ((List.range k).map R) ++ cellsE (R k) := by
  rw [List.range_succ, List.map_append]; exact flatE_snoc _ _
theorem flatEm_len (R : Nat → Nat × Nat) : ∀ k, (flatE ((List.range k).map R)).length = k * 2
  | 0 => rfl
  | k + 1 => by rw [flatEm_succ, List.length_append, flatEm_len R k]; simp [cellsE]; omega
theorem flatEm_at (R : Nat → Nat × Nat) : ∀ (k i j : Nat), i < k → j < 2 → (flatE ((List.range k).map R))[i * 2 + j]? = (cellsE (R i))[j]?
  | 0, i, j, h, _ => absurd h (Nat.not_lt_zero _)
  | k + 1, i, j, h, hj => by
    rw [flatEm_succ]
    by_cases hi : i < k
    · rw [List.getElem?_append_left (by rw [flatEm_len]; omega), flatEm_at R k i j hi hj]
    · obtain rfl : i = k := by omega
      rw [List.getElem?_append_right (by rw [flatEm_len]; omega), flatEm_len, Nat.add_sub_cancel_left]
theorem own_rowE {w : World} {base n e : Nat} {v : Value} {R : Nat → Nat × Nat} (h : w.ownsRow base e 2 v n (flatE ((List.range n).map R))) : ∃ A c, v = .slice A n c ∧ RowP w A n R := by
  rcases h.2 with ⟨rfl, rfl⟩ | ⟨g, cap, cur, rfl, _, hb, hnc, _, hcs, ht⟩
  · exact ⟨none, 0, rfl, fun i hi => absurd hi (Nat.not_lt_zero _)⟩
  · refine ⟨_, cap, rfl, fun i hi => ⟨g, 0, rfl, (Array.getElem?_eq_some_iff.1 hb).1, ?_⟩⟩
    have key : ∀ j, j < 2 → w.cell? ⟨g, 0 + i * 2 + j, none⟩ = (cellsE (R i))[j]? := fun j hj => by
      rw [Nat.zero_add, Lib.cell_of_heap hb]
      have h4 : cur.toList[i * 2 + j]? = (cur.toList.take (n * 2))[i * 2 + j]? := (List.getElem?_take_of_lt (by omega)).symm
      rw [← Array.getElem?_toList, h4, ht, flatEm_at R n i j hi hj]
    exact ⟨key 0 (by omega), key 1 (by omega)⟩
end Go.Proofs.YtnmklmaclmjfbaaDoor
