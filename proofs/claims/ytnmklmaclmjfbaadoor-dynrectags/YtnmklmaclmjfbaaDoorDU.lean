/- Two owned rows of different kinds grow side by side. Conditions: those written in each theorem. -/
import Derived.Test.YtnmklmaclmjfbaaDoorDJ
namespace Go.Proofs.YtnmklmaclmjfbaaDoor
open Go.RowKit
theorem own_apart {w : World} {B e size n : Nat} {v : Value} {xs : List Value} {B2 e2 size2 n2 : Nat} {v2 : Value} {xs2 : List Value} (h : w.ownsRow B e size v n xs) (h2 : w.ownsRow B2 e2 size2 v2 n2 xs2) (he : e ≠ e2) :
    ∀ i, v.ownBlock = some i → v2.ownBlock ≠ some i := fun i hi h2i => by
  rcases h.2 with ⟨rfl, _⟩ | ⟨g, cap, cur, rfl, _, h3, _⟩
  · cases hi
  · rcases h2.2 with ⟨rfl, _⟩ | ⟨g2, cap2, cur2, rfl, _, k3, _⟩
    · cases h2i
    · cases hi; cases h2i
      rw [h3] at k3
      injection k3 with k3
      injection k3 with _ k3 _
      exact he k3
theorem own_beside {w w' : World} {B e size n : Nat} {v : Value} {xs : List Value} {B2 e2 size2 n2 : Nat} {v2 : Value} {xs2 : List Value} (h : w.ownsRow B e size v n xs) (h2 : w.ownsRow B2 e2 size2 v2 n2 xs2) (he : e ≠ e2) (hg : w.grownBy w' v.ownBlock) :
    w'.ownsRow B2 e2 size2 v2 n2 xs2 := by
  refine ⟨h2.1, ?_⟩
  rcases h2.2 with h1 | ⟨g, cap, cur, h1, k2, h3, h4⟩
  · exact .inl h1
  · refine .inr ⟨g, cap, cur, h1, k2, ?_, h4⟩
    rw [hg.block g (Array.getElem?_eq_some_iff.1 h3).1 (fun e1 => own_apart h h2 he g (by first | exact e1 | exact e1.symm) (by rw [h1]; rfl))]
    exact h3
end Go.Proofs.YtnmklmaclmjfbaaDoor
