/- Plain facts of strtab's Build: the map of last indices, the sorted names, what its parts ask of them. Conditions: those written in each theorem. -/
import Derived.Test.YtddlflabdlgnbaaUE
import Derived.Test.YtddlflabdlgnbaaUL
import Derived.Test.YtddlflabdlgnbaaUN
import Derived.Test.YtddlflabdlgnbaaTA
namespace Go.Proofs.Ytddlflabdlgnbaa
open Go.RowKit Go.Sort Go.Maps Go.Shelf
/-- The map of the last indices of the names that are not empty, k names told. -/
def lastM (H : Type) (N : List (List UInt8)) : Nat → DataW H
  | 0 => .map []
  | k + 1 => if nth N k = [] then lastM H N k else (lastM H N k).put (.string (nth N k)) (.lit (.int .i64 (k : Int)))
/-- The last index below k at which a name stands. -/
def lastIx (N : List (List UInt8)) (x : List UInt8) : Nat → Int
  | 0 => 0
  | k + 1 => if nth N k = x then (k : Int) else lastIx N x k
theorem isKey (x : List UInt8) : WideAt.IsKeyLit (.string x) := trivial
theorem tidyM (H : Type) (N : List (List UInt8)) (k : Nat) : Tidy (lastM H N k) := by
  induction k with
  | zero => exact tidy_empty
  | succ k ih => unfold lastM; split; exact ih; exact ih.put (isKey _) _
theorem hasM (H : Type) (N : List (List UInt8)) (x : List UInt8) (k : Nat) : has (lastM H N k) (.string x) = true ↔ x ≠ [] ∧ ∃ i, i < k ∧ nth N i = x := by
  induction k with
  | zero => simp [lastM, has]
  | succ k ih =>
    unfold lastM
    split
    · rename_i h
      rw [ih]
      constructor
      · rintro ⟨h1, i, h2, h3⟩; exact ⟨h1, i, by omega, h3⟩
      · rintro ⟨h1, i, h2, h3⟩
        rcases Nat.lt_or_ge i k with h4 | h4
        · exact ⟨h1, i, h4, h3⟩
        · have : i = k := by omega
          subst this; exact absurd (h3.symm.trans h) h1
    · rename_i h
      by_cases hx : x = nth N k
      · subst hx
        rw [has_put_same (tidyM H N k).isMap (isKey _)]
        exact ⟨fun _ => ⟨h, k, by omega, rfl⟩, fun _ => rfl⟩
      · rw [has_put_other (by intro e; exact hx (by cases e; rfl)), ih]
        constructor
        · rintro ⟨h1, i, h2, h3⟩; exact ⟨h1, i, by omega, h3⟩
        · rintro ⟨h1, i, h2, h3⟩
          refine ⟨h1, i, ?_, h3⟩
          rcases Nat.lt_or_ge i k with h4 | h4
          · exact h4
          · have : i = k := by omega
            subst this; exact absurd h3.symm hx
theorem lookM (H : Type) (N : List (List UInt8)) (x : List UInt8) (hx : x ≠ []) (k : Nat) : lookI (lastM H N k) x = lastIx N x k := by
  induction k with
  | zero => rfl
  | succ k ih =>
    unfold lastM lastIx
    by_cases h : nth N k = x
    · rw [if_neg (by rw [h]; exact hx), if_pos h, ← h]
      unfold lookI
      rw [atKey_put_same (tidyM H N k).isMap (isKey _)]
    · rw [if_neg h]
      split
      · exact ih
      · rw [← ih]
        unfold lookI
        rw [atKey_put_other (by intro e; exact h (by cases e; rfl))]
theorem sizeM (H : Type) (N : List (List UInt8)) (k : Nat) : Maps.size (lastM H N k) ≤ k := by
  induction k with
  | zero => exact Nat.le_refl _
  | succ k ih =>
    unfold lastM
    split
    · omega
    · rw [size_put (tidyM H N k)]; split <;> omega
theorem lastIx_spec (N : List (List UInt8)) (x : List UInt8) (k : Nat) (h : ∃ i, i < k ∧ nth N i = x) : 0 ≤ lastIx N x k ∧ lastIx N x k < k ∧ nth N (lastIx N x k).toNat = x := by
  induction k with
  | zero => obtain ⟨i, h, _⟩ := h; omega
  | succ k ih =>
    unfold lastIx
    split
    · rename_i e; exact ⟨by omega, by omega, by rw [Int.toNat_natCast]; exact e⟩
    · rename_i e
      obtain ⟨i, h1, h2⟩ := h
      have hk : i < k := by
        rcases Nat.lt_or_ge i k with h4 | h4
        · exact h4
        · have : i = k := by omega
          subst this; exact absurd h2 e
      obtain ⟨a, b, c⟩ := ih ⟨i, hk, h2⟩
      exact ⟨a, by omega, c⟩
/-- The names that are not empty, each once. -/
def once : List (List UInt8) → List (List UInt8)
  | [] => []
  | x :: l => if x = [] ∨ x ∈ l then once l else x :: once l
theorem mem_once (l : List (List UInt8)) (x : List UInt8) : x ∈ once l ↔ x ≠ [] ∧ x ∈ l := by
  induction l with
  | nil => simp [once]
  | cons y l ih =>
    unfold once
    split
    · rename_i h
      rw [ih]
      constructor
      · rintro ⟨h1, h2⟩; exact ⟨h1, List.mem_cons_of_mem _ h2⟩
      · rintro ⟨h1, h2⟩
        rcases List.mem_cons.1 h2 with e | e
        · subst e; exact ⟨h1, h.resolve_left h1⟩
        · exact ⟨h1, e⟩
    · rename_i h
      rw [List.mem_cons, ih, List.mem_cons]
      constructor
      · rintro (e | ⟨h1, h2⟩)
        · subst e; exact ⟨fun e => h (.inl e), .inl rfl⟩
        · exact ⟨h1, .inr h2⟩
      · rintro ⟨h1, e | e⟩
        · exact .inl e
        · exact .inr ⟨h1, e⟩
theorem nodup_once (l : List (List UInt8)) : (once l).Nodup := by
  induction l with
  | nil => exact List.nodup_nil
  | cons y l ih =>
    unfold once
    split
    · exact ih
    · rename_i h
      exact List.nodup_cons.2 ⟨fun hm => h (.inr ((mem_once l y).1 hm).2), ih⟩
theorem length_once (l : List (List UInt8)) : (once l).length ≤ l.length := by
  induction l with
  | nil => exact Nat.le_refl _
  | cons y l ih => unfold once; split <;> simp <;> omega
theorem mem_nth (N : List (List UInt8)) (x : List UInt8) : x ∈ N ↔ ∃ i, i < N.length ∧ nth N i = x := by
  rw [List.mem_iff_getElem]
  constructor
  · rintro ⟨i, h, e⟩; exact ⟨i, h, by unfold nth; rw [List.getD_eq_getElem?_getD, List.getElem?_eq_getElem h]; exact e⟩
  · rintro ⟨i, h, e⟩; exact ⟨i, h, by unfold nth at e; rw [List.getD_eq_getElem?_getD, List.getElem?_eq_getElem h] at e; exact e⟩
/-- The names in the order of the table's making. -/
def sortN (N : List (List UInt8)) : List (List UInt8) := (once N).mergeSort leE
theorem leE_trans (a b c : List UInt8) (h1 : leE a b = true) (h2 : leE b c = true) : leE a c = true := by
  simp only [leE, Bool.not_eq_true'] at *
  exact swoE.ntrans c b a h2 h1
theorem leE_total (a b : List UInt8) : (leE a b || leE b a) = true := by
  simp only [leE, Bool.or_eq_true, Bool.not_eq_true']
  cases h : ltOf cmpE b a with
  | false => exact .inl rfl
  | true => exact .inr (swoE.asym h)
theorem leE_anti (a b : List UInt8) (h1 : leE a b = true) (h2 : leE b a = true) : a = b := by
  simp only [leE, Bool.not_eq_true'] at *
  exact totE a b h2 h1
theorem sort_unique {l l' : List (List UInt8)} (h : l.Perm l') : l.mergeSort leE = l'.mergeSort leE :=
  List.Perm.eq_of_pairwise (le := fun a b => leE a b = true) (fun a b _ _ h1 h2 => leE_anti a b h1 h2) (List.pairwise_mergeSort leE_trans leE_total l) (List.pairwise_mergeSort leE_trans leE_total l') (((List.mergeSort_perm l leE).trans h).trans (List.mergeSort_perm l' leE).symm)
theorem sort_same {l l' : List (List UInt8)} (h : l.Perm l') (hs : l'.Pairwise (fun a b => leE a b = true)) : l.mergeSort leE = l' :=
  List.Perm.eq_of_pairwise (le := fun a b => leE a b = true) (fun a b _ _ h1 h2 => leE_anti a b h1 h2) (List.pairwise_mergeSort leE_trans leE_total l) hs ((List.mergeSort_perm l leE).trans h)
theorem sortN_perm (N : List (List UInt8)) : (sortN N).Perm (once N) := List.mergeSort_perm _ _
theorem sortN_len (N : List (List UInt8)) : (sortN N).length ≤ N.length := by rw [(sortN_perm N).length_eq]; exact length_once N
theorem sortN_nodup (N : List (List UInt8)) : (sortN N).Nodup := (sortN_perm N).nodup_iff.2 (nodup_once N)
theorem sortN_mem (N : List (List UInt8)) (x : List UInt8) : x ∈ sortN N ↔ x ≠ [] ∧ x ∈ N := by rw [(sortN_perm N).mem_iff, mem_once]
theorem nth_mem (S : List (List UInt8)) (i : Nat) (h : i < S.length) : nth S i ∈ S := (mem_nth S _).2 ⟨i, h, rfl⟩
theorem nth_get (S : List (List UInt8)) (i : Nat) (h : i < S.length) : nth S i = S[i] := by unfold nth; rw [List.getD_eq_getElem?_getD, List.getElem?_eq_getElem h]; rfl
/-- The keys of the map are the names that are not empty, each once. -/
theorem keysM {H : Type} {w : World} {b n : Nat} (N : List (List UInt8)) (hown : w.ownsMap Try.prog 9 (plainElem Try.prog 3) b n (lastM H N N.length)) : (once N).Perm (strKeys (lastM H N N.length)) := by
  obtain ⟨es, he, hk⟩ := hown.keysOf
  obtain ⟨es', he', hp⟩ := tidyM H N N.length
  rw [he] at he'
  cases he'
  rw [he]
  refine perm_strKeys hp (fun p hp => ?_) (nodup_once N) (fun x => ?_)
  · obtain ⟨v, hv⟩ := hk p hp
    obtain ⟨x, _, h, _⟩ := Maps.keyOf_str Try.underlying9 hv
    exact ⟨x, h⟩
  · rw [← he, hasM, mem_once, mem_nth]
/-- The entries as entries makes them. -/
def EN (N : List (List UInt8)) : List Ent := entsK (sortN N) (fun x => lastIx N x N.length) (sortN N).length
theorem entsK_congr (S : List (List UInt8)) (L L' : List UInt8 → Int) (k : Nat) (h : ∀ x ∈ S, L x = L' x) : entsK S L k = entsK S L' k := by
  unfold entsK
  refine List.map_congr_left fun i hi => ?_
  rw [h _ (nth_mem S i (List.mem_range.1 hi))]
theorem EN_len (N : List (List UInt8)) : (EN N).length = (sortN N).length := entsK_length _ _ _
theorem EN_at (N : List (List UInt8)) (i : Nat) (h : i < (EN N).length) : (EN N)[i] = ⟨nth (sortN N) i, lastIx N (nth (sortN N) i) N.length, 0, (tails (sortN N) (sortN N).length).getD i 0⟩ := entsK_at _ _ _ i h
theorem EN_getD (N : List (List UInt8)) (i : Nat) (h : i < (EN N).length) : (EN N).getD i default = ⟨nth (sortN N) i, lastIx N (nth (sortN N) i) N.length, 0, (tails (sortN N) (sortN N).length).getD i 0⟩ := by rw [getD_at _ _ h, EN_at]
theorem EN_out (N : List (List UInt8)) (i : Nat) (h : ¬ i < (EN N).length) : (EN N).getD i default = default := by
  rw [List.getD_eq_getElem?_getD, List.getElem?_eq_none (by omega)]; rfl
theorem EN_spec (N : List (List UInt8)) (i : Nat) (h : i < (EN N).length) : nth (sortN N) i ≠ [] ∧ nth (sortN N) i ∈ N ∧ 0 ≤ lastIx N (nth (sortN N) i) N.length ∧ lastIx N (nth (sortN N) i) N.length < N.length ∧ nth N (lastIx N (nth (sortN N) i) N.length).toNat = nth (sortN N) i := by
  rw [EN_len] at h
  have hm := (sortN_mem N _).1 (nth_mem _ i h)
  exact ⟨hm.1, hm.2, lastIx_spec N _ _ ((mem_nth N _).1 hm.2)⟩
structure NamesOk (N : List (List UInt8)) : Prop where
  len : N.length ≤ 1048576
  name : ∀ x ∈ N, x.length ≤ 4294967296
theorem EN_lay {N : List (List UInt8)} (h : NamesOk N) : LayOk (EN N) where
  len := by rw [EN_len]; exact Nat.le_trans (sortN_len N) h.len
  last i := by
    have hs := EN_spec N i.1 i.2
    have hl := h.len
    show 0 ≤ ((EN N)[i.1]).last ∧ ((EN N)[i.1]).last ≤ 4294967296
    rw [EN_at]
    exact ⟨hs.2.2.1, by have := hs.2.2.2.1; show lastIx N _ _ ≤ _; omega⟩
  inj i j e := by
    have hi := EN_spec N i.1 i.2
    have hj := EN_spec N j.1 j.2
    have e' : ((EN N)[i.1]).last = ((EN N)[j.1]).last := e
    rw [EN_at, EN_at] at e'
    have e2 : lastIx N (nth (sortN N) i.1) N.length = lastIx N (nth (sortN N) j.1) N.length := e'
    have e3 : nth (sortN N) i.1 = nth (sortN N) j.1 := by rw [← hi.2.2.2.2, ← hj.2.2.2.2, e2]
    have li : i.1 < (sortN N).length := by rw [← EN_len]; exact i.2
    have lj : j.1 < (sortN N).length := by rw [← EN_len]; exact j.2
    rw [nth_get _ _ li, nth_get _ _ lj] at e3
    exact Fin.ext ((List.getElem_inj (sortN_nodup N)).1 e3)
  name i := by
    by_cases hi : i < (EN N).length
    · rw [EN_getD N i hi]; exact h.name _ (EN_spec N i hi).2.1
    · rw [EN_out N i hi]; exact Nat.zero_le _
/-- The entries when lay has laid them. -/
def EL (N : List (List UInt8)) : List Ent := (layTo (EN N) (ws (EN N)) (ws (EN N)).length).2
/-- The table. -/
def tabN (N : List (List UInt8)) : List UInt8 := (layTo (EN N) (ws (EN N)) (ws (EN N)).length).1
theorem lay_fin (E : List Ent) (h0 : ∀ i, (E.getD i default).fin = 0) (j : Nat) (hj : j ≤ (ws E).length) (i : Nat) : 0 ≤ ((layTo E (ws E) j).2.getD i default).fin ∧ ((layTo E (ws E) j).2.getD i default).fin ≤ sizeTo E E.length := by
  induction j with
  | zero => show 0 ≤ (E.getD i default).fin ∧ _ ≤ _; rw [show (layTo E (ws E) 0).2 = E from rfl, h0]; omega
  | succ j ih =>
    have hl := layTo_le E (j + 1)
    have ih := ih (by omega)
    rw [layTo_succ E (ws E) j (by omega)] at hl ⊢
    simp only [List.length_append, List.length_cons, List.length_nil] at hl
    by_cases he : (ws E)[j] = i
    · rw [he]
      by_cases hb : i < (layTo E (ws E) j).2.length
      · rw [List.getD_eq_getElem?_getD, List.getElem?_set_self hb]
        rw [he] at hl
        show 0 ≤ (((layTo E (ws E) j).1.length + (E.getD i default).name.length : Nat) : Int) ∧ (((layTo E (ws E) j).1.length + (E.getD i default).name.length : Nat) : Int) ≤ _
        omega
      · rw [List.getD_eq_getElem?_getD, List.getElem?_set, if_pos rfl, if_neg hb]
        exact ⟨Int.le_refl _, by show (0 : Int) ≤ _; omega⟩
    · rw [List.getD_eq_getElem?_getD, List.getElem?_set_ne he, ← List.getD_eq_getElem?_getD]
      exact ih
theorem EL_len (N : List (List UInt8)) : (EL N).length = (EN N).length := layTo_len _ _ _
theorem EL_off {N : List (List UInt8)} (h : NamesOk N) (hs : sizeTo (EN N) (EN N).length ≤ 1048576) : OffOk (EL N) where
  len := by rw [EL_len, EN_len]; exact Nat.le_trans (sortN_len N) h.len
  fin i := by
    have hf := lay_fin (EN N) (fun i => by
      by_cases hi : i < (EN N).length
      · rw [EN_getD N i hi]
      · rw [EN_out N i hi]; rfl) (ws (EN N)).length (Nat.le_refl _) i
    exact ⟨hf.1, by have := hf.2; unfold EL; omega⟩
  name i := by
    unfold EL
    rw [layTo_name]
    exact (EN_lay h).name i
  tail i hi := by
    rw [EL_len] at hi
    unfold EL layTo
    rw [(layT_name _ _ _ i).2.1]
    show -1 ≤ ((EN N).getD i default).tail ∧ _
    rw [EN_getD N i hi]
    exact tails_bd (sortN N) _ i (by rw [← EN_len]; exact hi)
/-- The offset of a name among the k entries that have told. -/
def offAt (E : List Ent) (x : List UInt8) : Nat → Int
  | 0 => 0
  | k + 1 => if (nextE E k).name = x then offOf (nextE E k) else offAt E x k
theorem mp_isMap (H : Type) (E : List Ent) (k : Nat) : IsMap (mp H E k) := by
  induction k with
  | zero => exact isMap_empty
  | succ k ih => exact ih.put _ _
theorem mp_at (H : Type) (E : List Ent) (x : List UInt8) (k : Nat) : (mp H E k).atKey (.string x) (.lit (.int .u64 0)) = .lit (.int .u64 (offAt E x k)) := by
  induction k with
  | zero => rfl
  | succ k ih =>
    show ((mp H E k).put _ _).atKey _ _ = _
    unfold offAt
    split
    · rename_i h
      rw [← h, atKey_put_same (mp_isMap H E k) (isKey _)]
    · rename_i h
      rw [atKey_put_other (by intro e; exact h (by cases e; rfl)), ih]
/-- The offset of a name. -/
def offS (N : List (List UInt8)) (x : List UInt8) : Int := offAt (EL N) x (EL N).length
def Bad (x : List UInt8) : Prop := Zero.z x < x.length
end Go.Proofs.Ytddlflabdlgnbaa
