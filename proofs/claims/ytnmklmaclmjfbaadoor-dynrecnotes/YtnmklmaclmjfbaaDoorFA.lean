/- What Notes answers on notes that are cut off, and on any bytes. Conditions: those written in each theorem. -/
import Derived.Test.YtnmklmaclmjfbaaDoorDK
namespace Go.Proofs.YtnmklmaclmjfbaaDoor
open Go.RowKit
theorem notes_cut {big : Bool} {s : ByteArray} {n : Nat} {X : Nat → Nt} (hn : 0 < n) (hX : ∀ i, i < n → smallN (X i)) (hs : s.data.toList = (catN big X n).take ((catN big X n).length - 1)) {w w' : World} {e : Ending} (h : NotesPost big s w e w') :
    Below w.heap.size w w' ∧ e = .returned (.tuple #[.slice none 0 0, .int .i64 3]) := by
  obtain ⟨m, rfl⟩ : ∃ m, n = m + 1 := ⟨n - 1, by omega⟩
  have hsm := hX m (by omega)
  have hL := encN_length big (X m)
  have hL12 : 12 ≤ sizN (X m) := by unfold sizN; omega
  have hs1 : s.data.toList = catN big X m ++ (encN big (X m)).take (sizN (X m) - 1) := by
    rw [hs]
    simp only [catN, List.length_append, hL]
    rw [List.take_append, List.take_of_length_le (by omega)]
    congr 2
    omega
  have hp := run_put (X := X) (n := m) (fun i hi => hX i (by omega)) hs1 m (Nat.le_refl _)
  have hsz : s.size = (catN big X m).length + (sizN (X m) - 1) := by rw [← ba_len, hs1, List.length_append, List.length_take, hL]; omega
  have hd : s.data.toList.drop (catN big X m).length = (encN big (X m)).take (sizN (X m) - 1) := by rw [hs1, List.drop_left]
  generalize hpe : (catN big X m).length = p at *
  have hbad : (stepN big s p).bad = true := by
    cases hb : (stepN big s p).bad
    · exfalso
      have hf := stepN_fit hb
      have h0 : encN big (X m) = Num.putL big (X m).name.size 4 ++ (Num.putL big (X m).desc.size 4 ++ (Num.putL big (X m).ty 4 ++ ((X m).name.data.toList ++ (zeroL (pad4 (X m).name.size) ++ ((X m).desc.data.toList ++ zeroL (pad4 (X m).desc.size)))))) := rfl
      have n0 : numR big s p = (X m).name.size := by
        unfold numR
        rw [hd, List.take_take, Nat.min_eq_left (by omega), h0, List.take_left' (putL4 _ _), getN4 _ _ hsm.2.1]
      have n1 : numR big s (p + 4) = (X m).desc.size := by
        unfold numR
        rw [← List.drop_drop, hd, List.drop_take, List.take_take, Nat.min_eq_left (by omega), h0, List.drop_left' (putL4 _ _), List.take_left' (putL4 _ _), getN4 _ _ hsm.2.2]
      unfold needN at hf
      rw [n0, n1] at hf
      unfold sizN at hsz
      omega
    · rfl
  obtain ⟨hB, k, p', l, z, hr, hc⟩ := h
  have he : ¬ (p < s.size ∧ (stepN big s p).bad = false) := by rw [hbad]; simp
  have he' : ¬ (p' < s.size ∧ (stepN big s p').bad = false) := by
    rcases hc with ⟨h1, _⟩ | ⟨h1, _⟩ | ⟨_, h1, _⟩ <;> intro h2 <;> first | omega | (rw [h1] at h2; cases h2.2)
  have hk : k = m := runN_end hr hp he' he
  subst hk
  rw [hp] at hr
  injection hr with hr
  injection hr with e1 hr
  subst e1
  refine ⟨hB, ?_⟩
  rcases hc with ⟨h1, _⟩ | ⟨h1, _⟩ | ⟨_, _, h1⟩
  · omega
  · omega
  · exact h1
theorem catN_catL (big : Bool) (X : Nat → Nt) : ∀ k, catN big X k = catL big (firstN X k)
  | 0 => rfl
  | k + 1 => by rw [firstN_succ]; simp only [catN, catN_catL big X k, catL, List.map_append, List.flatten_append]; simp
theorem firstN_get (l : List Nt) : firstN (fun i => l.getD i default) l.length = l := by
  apply List.ext_getElem
  · simp [firstN]
  · intro i h1 h2
    simp [firstN, List.getD, List.getElem?_eq_getElem h2]
/-- What becomes of any bytes. -/
def AnyNt (big : Bool) (s : ByteArray) (w : World) (e : Ending) (w' : World) : Prop := Below w.heap.size w w' ∧
  ((e = .returned (.tuple #[.slice none 0 0, .int .i64 3]) ∨ e = .returned (.tuple #[.slice none 0 0, .int .i64 6])) ∨
    ∃ k A c X, e = .returned (.tuple #[.slice A k c, .int .i64 0]) ∧ RowNt w' A k X ∧ k * 12 ≤ s.size ∧ catN big X k = s.data.toList ∧ ∀ i, i < k → smallN (X i))
theorem notes_junk {big : Bool} {s : ByteArray} {w w' : World} {e : Ending} (h : NotesPost big s w e w') : AnyNt big s w e w' := by
  obtain ⟨hB, k, p, l, z, hr, hc⟩ := h
  refine ⟨hB, ?_⟩
  rcases hc with ⟨h1, hz, v, h2, h3⟩ | ⟨_, _, h1⟩ | ⟨_, _, h1⟩
  · right
    obtain ⟨b1, b2, b3, b4⟩ := run_back k hr
    obtain ⟨b5, b6⟩ := b3 hz
    subst b2
    have hf := firstN_get l
    have h5 : w'.ownsRow w.heap.size 48 3 v l.length (flatNt (firstN (fun i => l.getD i default) l.length)) := by rw [hf]; exact h3
    obtain ⟨A, c, rfl, hrow⟩ := own_rowNt h5
    refine ⟨l.length, A, c, _, h2, hrow, by omega, ?_, fun i hi => ?_⟩
    · rw [catN_catL, hf, ← b5, List.take_of_length_le (by rw [ba_len]; omega)]
    · simp only [List.getD, List.getElem?_eq_getElem hi, Option.getD_some]
      exact b6 _ (List.getElem_mem hi)
  · exact .inl (.inr h1)
  · exact .inl (.inl h1)
end Go.Proofs.YtnmklmaclmjfbaaDoor
