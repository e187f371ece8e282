/- Plain facts for the laws that build a table again: where its texts come from, and how long tables are. Conditions: those written in each theorem. -/
import Derived.Test.YtddlflabdlgnbaaWF
import Derived.Test.YtddlflabdlgnbaaVA
namespace Go.Proofs.Ytddlflabdlgnbaa
open Go.RowKit Go.Sort Go.Maps Go.Shelf
theorem txt_full (L : List UInt8) (p : Nat) (hp : p < L.length) (hl : L.getD (L.length - 1) 1 = 0) : p + (txt (L.drop p)).length < L.length := by
  have h := z_found (L.drop p) (L.length - 1 - p) (by rw [List.length_drop]; omega) (by
    rw [List.getD_eq_getElem?_getD, List.getElem?_drop, show p + (L.length - 1 - p) = L.length - 1 by omega, ← List.getD_eq_getElem?_getD]
    exact hl)
  rw [z_txt] at h
  omega
theorem txt_noz' (l : List UInt8) : NoZ (txt l) := fun c hc h0 => by
  have := List.all_takeWhile (l := l) (p := fun c => c != 0)
  have h2 := List.all_eq_true.1 this c hc
  rw [h0] at h2
  exact absurd h2 (by decide)
/-- A text within the table ends one of the names, or is empty. -/
theorem txt_from {N : List (List UInt8)} (hz : ∀ x ∈ N, NoZ x) (p : Nat) (x : List UInt8) (hx : txt ((tabN N).drop p) = x) (h0 : x ≠ []) : ∃ y ∈ N, x <:+ y := by
  have hp : 1 ≤ p := by
    rcases Nat.eq_zero_or_pos p with rfl | h
    · exfalso; apply h0; rw [← hx, tabN_flat]; simp [txt]
    · exact h
  rw [tabN_eq] at hx
  have hW := wholeN N
  obtain ⟨j, hj, hs, _⟩ := lay_search (EN N) (ws (EN N)) ([0], EN N) hW.nodup (fun k hk => by have := ((hW.mem k).1 hk).1; show k < (EN N).length; rw [EN_len]; exact this) (fun i hi => by
    rw [(laidN N).name i]
    exact hz _ ((sortN_mem N _).1 (nth_mem' _ i ((hW.mem i).1 hi).1)).2) p hp x h0 hx
  rw [(laidN N).name j] at hs
  exact ⟨_, ((sortN_mem N _).1 (nth_mem' _ j ((hW.mem j).1 hj).1)).2, hs⟩
/-- Tables of names that end one another's are as long. -/
theorem tab_same {N N' : List (List UInt8)} (h : ∀ x ∈ N, x ≠ [] → ∃ y ∈ N', x <:+ y) (h' : ∀ x ∈ N', x ≠ [] → ∃ y ∈ N, x <:+ y) : (tabN N).length = (tabN N').length := by
  rw [tabN_len, tabN_len]
  exact sz_perm (topsN_is N) (topsN_is N') h h'
theorem tab_le {N N' : List (List UInt8)} (h : ∀ x ∈ N, x ≠ [] → ∃ y ∈ N', x <:+ y) : (tabN N).length ≤ (tabN N').length := by
  rw [tabN_len, tabN_len]
  exact sz_le (topsN_is N) (topsN_is N') h
theorem bad_of_noz {x : List UInt8} (h : NoZ x) : ¬ Bad x := by
  intro hb
  unfold Bad at hb
  have h1 := (Zero.z_spec x).2 hb
  rw [List.getD_eq_getElem?_getD, List.getElem?_eq_getElem hb] at h1
  exact h _ (List.getElem_mem hb) h1
end Go.Proofs.Ytddlflabdlgnbaa
