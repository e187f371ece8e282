/- Plain mathematics: names in order, their tails, and the ends that they tell one another. No Go here. -/
import Derived.Test.YtddlflabdlgnbaaUQ
namespace Go.Proofs.Ytddlflabdlgnbaa
open Go.RowKit Go.Sort Go.Maps Go.Shelf Go.Lib
/-- A comparison that doesn't say less the other way round. -/
def cle (x y : List UInt8) : Prop := ¬ compareBytes y x < 0
theorem cle_nil (y : List UInt8) : cle [] y := by
  unfold cle
  cases y <;> simp [compareBytes]
theorem cle_cons (a : UInt8) (x : List UInt8) (b : UInt8) (y : List UInt8) : cle (a :: x) (b :: y) ↔ a < b ∨ (a = b ∧ cle x y) := by
  unfold cle
  have e : a = b ↔ a.toNat = b.toNat := UInt8.toNat_inj.symm
  rw [e]
  simp only [compareBytes, UInt8.lt_iff_toNat_lt]
  by_cases h1 : b.toNat < a.toNat
  · simp [h1]; omega
  · by_cases h2 : a.toNat < b.toNat
    · simp [h1, h2]
    · simp [h1, h2]; omega
theorem cle_cons_nil (a : UInt8) (x : List UInt8) : ¬ cle (a :: x) [] := by simp [cle, compareBytes]
theorem cle_of_prefix : ∀ x y : List UInt8, x <+: y → cle x y
  | [], y, _ => cle_nil y
  | a :: x, [], h => by simp at h
  | a :: x, b :: y, h => by
    rw [List.cons_prefix_cons] at h
    rw [cle_cons]
    exact .inr ⟨h.1, cle_of_prefix x y h.2⟩
/-- What stands between a beginning and what it begins has that beginning. -/
theorem pre_mid : ∀ p q r : List UInt8, cle p q → cle q r → p <+: r → p <+: q
  | [], q, r, _, _, _ => List.nil_prefix
  | a :: p, [], r, h, _, _ => absurd h (cle_cons_nil a p)
  | a :: p, b :: q, [], _, h, _ => absurd h (cle_cons_nil b q)
  | a :: p, b :: q, c :: r, h1, h2, h3 => by
    rw [cle_cons] at h1 h2
    rw [List.cons_prefix_cons] at h3 ⊢
    obtain ⟨rfl, h3⟩ := h3
    rcases h1 with h1 | ⟨rfl, h1⟩
    · rcases h2 with h2 | ⟨rfl, h2⟩
      · rw [UInt8.lt_iff_toNat_lt] at h1 h2; omega
      · rw [UInt8.lt_iff_toNat_lt] at h1; omega
    · rcases h2 with h2 | ⟨_, h2⟩
      · rw [UInt8.lt_iff_toNat_lt] at h2; omega
      · exact ⟨rfl, pre_mid p q r h1 h2 h3⟩
/-- Names in order, each once. -/
structure Ranked (S : List (List UInt8)) : Prop where
  le : ∀ i j, i ≤ j → j < S.length → cle (nth S i).reverse (nth S j).reverse
  inj : ∀ i j, i < S.length → j < S.length → nth S i = nth S j → i = j
theorem suf_le {S : List (List UInt8)} (hS : Ranked S) (i j : Nat) (hi : i < S.length) (hj : j < S.length) (h : nth S i <:+ nth S j) : i ≤ j := by
  rcases Nat.lt_or_ge j i with h1 | h1
  · have h2 := cle_of_prefix _ _ (List.reverse_prefix.2 h)
    have h3 := hS.le j i (by omega) hi
    have h4 := pre_mid _ _ _ h3 h2 (List.prefix_refl _)
    have h5 : nth S j <:+ nth S i := List.reverse_prefix.1 h4
    have := hS.inj i j hi hj (h.eq_of_length (by have := h.length_le; have := h5.length_le; omega))
    omega
  · exact h1
theorem suf_mid {S : List (List UInt8)} (hS : Ranked S) (i t j : Nat) (h1 : i ≤ t) (h2 : t ≤ j) (hj : j < S.length) (h : nth S i <:+ nth S j) : nth S i <:+ nth S t :=
  List.reverse_prefix.1 (pre_mid _ _ _ (hS.le i t h1 (by omega)) (hS.le t j h2 hj) (List.reverse_prefix.2 h))
/-- r is the last place ahead of i whose name ends the name at i; -1 if there is none. -/
structure TailIs (S : List (List UInt8)) (i : Nat) (r : Int) : Prop where
  lo : -1 ≤ r
  hi : r < i
  yes : 0 ≤ r → nth S r.toNat <:+ nth S i
  no : ∀ t : Nat, r < t → t < i → ¬ nth S t <:+ nth S i
theorem climb_is {S : List (List UInt8)} (hS : Ranked S) (i : Nat) (hi : i < S.length) (T : List Int) (hl : T.length = i) (hT : ∀ j, j < i → TailIs S j (T.getD j 0)) :
    ∀ (f : Nat) (t : Int), -1 ≤ t → t < i → t + 1 ≤ f → (∀ t' : Nat, t < t' → t' < i → ¬ nth S t' <:+ nth S i) → TailIs S i (climb S T (nth S i) f t)
  | 0, t, h1, h2, h3, h4 => ⟨h1, h2, fun (h : 0 ≤ t) => by omega, h4⟩
  | f + 1, t, h1, h2, h3, h4 => by
    unfold climb
    split
    · exact ⟨h1, h2, fun h => by omega, h4⟩
    · rename_i hneg
      split
      · rename_i hp
        refine ⟨h1, h2, fun _ => ?_, h4⟩
        exact List.reverse_prefix.1 (List.isPrefixOf_iff_prefix.1 hp)
      · rename_i hp
        have hp' : ¬ nth S t.toNat <:+ nth S i := fun h => hp (List.isPrefixOf_iff_prefix.2 (List.reverse_prefix.2 h))
        have ht : t.toNat < i := by omega
        have e : T.getD t.toNat (-1) = T.getD t.toNat 0 := by
          rw [List.getD_eq_getElem?_getD, List.getD_eq_getElem?_getD, List.getElem?_eq_getElem (by omega)]; rfl
        have h := hT t.toNat ht
        rw [e]
        refine climb_is hS i hi T hl hT f _ h.lo (by have := h.hi; omega) (by have := h.hi; omega) fun t' a b hs => ?_
        rcases Nat.lt_trichotomy t' t.toNat with h5 | h5 | h5
        · exact h.no t' a h5 (suf_mid hS t' t.toNat i (by omega) (by omega) hi hs)
        · subst h5; exact hp' hs
        · exact h4 t' (by omega) b hs
theorem tails_is {S : List (List UInt8)} (hS : Ranked S) (k : Nat) (hk : k ≤ S.length) : ∀ j, j < k → TailIs S j ((tails S k).getD j 0) := by
  induction k with
  | zero => intro j hj; omega
  | succ k ih =>
    intro j hj
    by_cases h : j < k
    · rw [tails_old S k j h]; exact ih (by omega) j h
    · obtain rfl : j = k := by omega
      rw [tails_new]
      exact climb_is hS j (by omega) _ (tails_length S j) (ih (by omega)) (j + 1) _ (by omega) (by omega) (by omega) fun t' a b => by omega
/-- Entries whose names are in order, with their tails. -/
structure Laid (S : List (List UInt8)) (E : List Ent) : Prop where
  len : E.length = S.length
  rank : Ranked S
  name : ∀ i, (E.getD i default).name = nth S i
  tail : ∀ i, i < S.length → TailIs S i (E.getD i default).tail
/-- Whether a name ends no other one. -/
def Lone (S : List (List UInt8)) (i : Nat) : Prop := ∀ j, j < S.length → nth S i <:+ nth S j → j = i
theorem whole_iff {S : List (List UInt8)} {E : List Ent} (h : Laid S E) (i : Nat) (hi : i < S.length) : isWhole E i = true ↔ Lone S i := by
  unfold isWhole
  rw [h.len]
  by_cases h1 : i + 1 < S.length
  · have ht := h.tail (i + 1) h1
    rw [Bool.not_eq_true', Bool.and_eq_false_iff]
    constructor
    · rintro (h2 | h2)
      · simp at h2; omega
      · intro j hj hs
        have hij := suf_le h.rank i j hi hj hs
        rcases Nat.lt_or_ge i j with h3 | h3
        · have hs2 := suf_mid h.rank i (i + 1) j (by omega) (by omega) hj hs
          have h4 : (E.getD (i + 1) default).tail = (i : Int) := by
            have a := ht.hi
            rcases Int.lt_or_le (E.getD (i + 1) default).tail i with h5 | h5
            · exact absurd hs2 (ht.no i h5 (by omega))
            · omega
          rw [h4] at h2
          simp at h2
        · omega
    · intro hl
      right
      rw [beq_eq_false_iff_ne]
      intro h4
      have hs := ht.yes (by omega)
      rw [h4, Int.toNat_natCast] at hs
      have := hl (i + 1) h1 hs
      omega
  · constructor
    · intro _ j hj hs
      have := suf_le h.rank i j hi hj hs
      omega
    · intro _
      simp [h1]
theorem not_lone {S : List (List UInt8)} (hS : Ranked S) (i : Nat) (hi : i < S.length) (h : ¬ Lone S i) : i + 1 < S.length ∧ nth S i <:+ nth S (i + 1) := by
  unfold Lone at h
  simp only [Classical.not_forall] at h
  obtain ⟨j, hj, hs, hne⟩ := h
  have := suf_le hS i j hi hj hs
  exact ⟨by omega, suf_mid hS i (i + 1) j (by omega) (by omega) hj hs⟩
/-- One name that ends another stands at its tail's tail's .. place: there is one on the way whose tail it is. -/
theorem child {S : List (List UInt8)} {E : List Ent} (h : Laid S E) (i j : Nat) (hij : i < j) (hj : j < S.length) (hs : nth S i <:+ nth S j) :
    ∃ c, i < c ∧ c ≤ j ∧ (E.getD c default).tail = (i : Int) ∧ nth S c <:+ nth S j := by
  have ht := h.tail j hj
  rcases Int.lt_or_le (i : Int) (E.getD j default).tail with h1 | h1
  · have hy := ht.yes (by omega)
    have hlt := ht.hi
    obtain ⟨t, ht2⟩ : ∃ t : Nat, (E.getD j default).tail = (t : Int) := ⟨(E.getD j default).tail.toNat, by omega⟩
    rw [ht2, Int.toNat_natCast] at hy
    obtain ⟨c, a, b, d, e⟩ := child h i t (by omega) (by omega) (suf_mid h.rank i t j (by omega) (by omega) hj hs)
    exact ⟨c, a, by omega, d, e.trans hy⟩
  · refine ⟨j, hij, Nat.le_refl _, ?_, List.suffix_refl _⟩
    rcases Int.lt_or_le (E.getD j default).tail i with h2 | h2
    · exact absurd hs (ht.no i h2 hij)
    · omega
termination_by j
decreasing_by omega
theorem lone_above {S : List (List UInt8)} (hS : Ranked S) (i : Nat) (hi : i < S.length) : ∃ j, j < S.length ∧ Lone S j ∧ nth S i <:+ nth S j := by
  by_cases h : Lone S i
  · exact ⟨i, hi, h, List.suffix_refl _⟩
  · obtain ⟨h1, h2⟩ := not_lone hS i hi h
    obtain ⟨j, a, b, c⟩ := lone_above hS (i + 1) h1
    exact ⟨j, a, b, h2.trans c⟩
termination_by S.length - i
/-- Where an entry ends when k have told. -/
def finAt (E : List Ent) (k i : Nat) : Int := ((st E k).getD i default).fin
theorem st_name (E : List Ent) (k i : Nat) : ((st E k).getD i default).name = (E.getD i default).name ∧ ((st E k).getD i default).tail = (E.getD i default).tail := by
  induction k with
  | zero => exact ⟨rfl, rfl⟩
  | succ k ih =>
    rw [st_succ]
    unfold upd
    split
    · exact ih
    · split
      · by_cases h : (nextE E k).tail.toNat = i
        · subst h
          by_cases hl : (nextE E k).tail.toNat < (st E k).length
          · rw [List.getD_eq_getElem?_getD, List.getElem?_set_self hl]
            exact ih
          · rw [List.getD_eq_getElem?_getD, List.getElem?_set, if_pos rfl, if_neg hl]
            rw [List.getD_eq_getElem?_getD, List.getElem?_eq_none (by omega)] at ih
            exact ih
        · rw [List.getD_eq_getElem?_getD, List.getElem?_set_ne h, ← List.getD_eq_getElem?_getD]
          exact ih
      · exact ih
theorem finAt_succ (E : List Ent) (k i : Nat) (hi : i < E.length) :
    finAt E (k + 1) i = if (E.getD (E.length - 1 - k) default).tail = (i : Int) ∧ (finAt E k i = 0 ∨ finAt E k (E.length - 1 - k) < finAt E k i) then finAt E k (E.length - 1 - k) else finAt E k i := by
  have hn := (st_name E k (E.length - 1 - k)).2
  have hl := st_len E k
  unfold finAt
  rw [st_succ]
  unfold upd
  unfold nextE
  rw [hn]
  by_cases h0 : (E.getD (E.length - 1 - k) default).tail < 0
  · rw [if_pos h0, if_neg (by rintro ⟨h, _⟩; omega)]
  · rw [if_neg h0]
    by_cases h1 : (E.getD (E.length - 1 - k) default).tail = (i : Int)
    · rw [h1, Int.toNat_natCast]
      by_cases h2 : ((st E k).getD i default).fin = 0 ∨ ((st E k).getD (E.length - 1 - k) default).fin < ((st E k).getD i default).fin
      · rw [if_pos h2, if_pos ⟨rfl, h2⟩, List.getD_eq_getElem?_getD, List.getElem?_set_self (by omega)]
        rfl
      · rw [if_neg h2, if_neg (by rintro ⟨_, h⟩; exact h2 h)]
    · have hr : ¬ ((E.getD (E.length - 1 - k) default).tail = (i : Int) ∧ (((st E k).getD i default).fin = 0 ∨ ((st E k).getD (E.length - 1 - k) default).fin < ((st E k).getD i default).fin)) := fun h => h1 h.1
      rw [if_neg hr]
      split
      · rw [List.getD_eq_getElem?_getD, List.getElem?_set_ne (by omega), ← List.getD_eq_getElem?_getD]
      · rfl
/-- What is asked of the ends ahead of the telling: those of names that end no other one are told, and no others. -/
structure Fins (S : List (List UInt8)) (E : List Ent) : Prop extends Laid S E where
  zero : ∀ i, i < S.length → ¬ Lone S i → finAt E 0 i = 0
  pos : ∀ i, i < S.length → Lone S i → 0 < finAt E 0 i
theorem fins_nonneg {S : List (List UInt8)} {E : List Ent} (h : Fins S E) (k : Nat) : ∀ i, i < S.length → 0 ≤ finAt E k i := by
  induction k with
  | zero =>
    intro i hi
    by_cases hl : Lone S i
    · have := h.pos i hi hl; omega
    · have := h.zero i hi hl; omega
  | succ k ih =>
    intro i hi
    rw [finAt_succ E k i (by rw [h.len]; exact hi)]
    split
    · exact ih _ (by have := h.len; omega)
    · exact ih i hi
theorem fins_pos {S : List (List UInt8)} {E : List Ent} (h : Fins S E) (k : Nat) (hk : k < S.length) : 0 < finAt E k (S.length - 1 - k) := by
  have hn := h.len
  induction k with
  | zero =>
    refine h.pos _ (by omega) fun j hj hs => ?_
    have := suf_le h.rank _ j (by omega) hj hs
    omega
  | succ k ih =>
    have ih := ih (by omega)
    have h0 := fins_nonneg h k (S.length - 1 - (k + 1)) (by omega)
    by_cases hl : Lone S (S.length - 1 - (k + 1))
    · have hkeep : ∀ m, m ≤ k + 1 → finAt E m (S.length - 1 - (k + 1)) = finAt E 0 (S.length - 1 - (k + 1)) := by
        intro m hm
        induction m with
        | zero => rfl
        | succ m ihm =>
          rw [finAt_succ E m _ (by omega), if_neg, ihm (by omega)]
          rintro ⟨ht, _⟩
          have := h.tail (E.length - 1 - m) (by omega)
          have hy := this.yes (by omega)
          rw [ht, Int.toNat_natCast] at hy
          have := hl _ (by omega) hy
          omega
      rw [hkeep _ (Nat.le_refl _)]
      exact h.pos _ (by omega) hl
    · obtain ⟨h1, h2⟩ := not_lone h.rank _ (by omega) hl
      have e : S.length - 1 - (k + 1) + 1 = S.length - 1 - k := by omega
      rw [e] at h1 h2
      have ht := h.tail (S.length - 1 - k) h1
      have htt : (E.getD (S.length - 1 - k) default).tail = ((S.length - 1 - (k + 1) : Nat) : Int) := by
        have a := ht.hi
        rcases Int.lt_or_le (E.getD (S.length - 1 - k) default).tail ((S.length - 1 - (k + 1) : Nat) : Int) with h5 | h5
        · exact absurd h2 (ht.no _ h5 (by omega))
        · omega
      rw [finAt_succ E k _ (by omega), hn]
      split
      · exact ih
      · rename_i h6
        rcases Int.lt_or_le 0 (finAt E k (S.length - 1 - (k + 1))) with h7 | h7
        · exact h7
        · exact absurd ⟨htt, .inl (by omega)⟩ h6
theorem fins_down {S : List (List UInt8)} {E : List Ent} (h : Fins S E) (i : Nat) (hi : i < S.length) (k m : Nat) (hkm : k ≤ m) (hm : m ≤ S.length) (h0 : 0 < finAt E k i) : 0 < finAt E m i ∧ finAt E m i ≤ finAt E k i := by
  have hn := h.len
  induction m with
  | zero => obtain rfl : k = 0 := by omega
            exact ⟨h0, Int.le_refl _⟩
  | succ m ih =>
    by_cases he : k = m + 1
    · subst he; exact ⟨h0, Int.le_refl _⟩
    · obtain ⟨a, b⟩ := ih (by omega) (by omega)
      have hp := fins_pos h m (by omega)
      rw [finAt_succ E m i (by omega), hn]
      split
      · rename_i h1
        exact ⟨hp, by omega⟩
      · exact ⟨a, b⟩
/-- Behind its own telling an entry's end stays. -/
theorem fins_stay {S : List (List UInt8)} {E : List Ent} (h : Fins S E) (i : Nat) (hi : i < S.length) (k m : Nat) (hk : S.length - 1 - i ≤ k) (hkm : k ≤ m) (hm : m ≤ S.length) : finAt E m i = finAt E k i := by
  have hn := h.len
  induction m with
  | zero => obtain rfl : k = 0 := by omega
            rfl
  | succ m ih =>
    by_cases he : k = m + 1
    · subst he; rfl
    · rw [finAt_succ E m i (by omega), if_neg, ih (by omega) (by omega)]
      rintro ⟨ht, _⟩
      have := (h.tail (E.length - 1 - m) (by omega)).hi
      omega
theorem fins_some {S : List (List UInt8)} {E : List Ent} (h : Fins S E) (k : Nat) (hk : k ≤ S.length) : ∀ i, i < S.length → finAt E k i = 0 ∨ ∃ j, j < S.length ∧ Lone S j ∧ nth S i <:+ nth S j ∧ finAt E k i = finAt E 0 j := by
  have hn := h.len
  induction k with
  | zero =>
    intro i hi
    by_cases hl : Lone S i
    · exact .inr ⟨i, hi, hl, List.suffix_refl _, rfl⟩
    · exact .inl (h.zero i hi hl)
  | succ k ih =>
    intro i hi
    have ih := ih (by omega)
    rw [finAt_succ E k i (by omega), hn]
    split
    · rename_i h1
      have hp := fins_pos h k (by omega)
      rcases ih (S.length - 1 - k) (by omega) with h2 | ⟨j, a, b, c, d⟩
      · omega
      · refine .inr ⟨j, a, b, ?_, d⟩
        have ht := h.tail (S.length - 1 - k) (by omega)
        have ht1 := h1.1
        have hy := ht.yes (by omega)
        rw [ht1, Int.toNat_natCast] at hy
        exact hy.trans c
    · exact ih i hi
/-- The end that an entry tells is the least of all whose names end with its own. -/
theorem fins_least {S : List (List UInt8)} {E : List Ent} (h : Fins S E) (i : Nat) (hi : i < S.length) (j : Nat) (hj : j < S.length) (hl : Lone S j) (hs : nth S i <:+ nth S j) : finAt E (S.length - 1 - i) i ≤ finAt E 0 j := by
  have hn := h.len
  by_cases hij : i = j
  · subst hij
    exact (fins_down h i hi 0 _ (Nat.zero_le _) (by omega) (h.pos i hi hl)).2
  · have hlt : i < j := by have := suf_le h.rank i j hi hj hs; omega
    obtain ⟨c, h1, h2, h3, h4⟩ := child h.toLaid i j hlt hj hs
    have ih := fins_least h c (by omega) j hj hl h4
    have hp := fins_pos h (S.length - 1 - c) (by omega)
    rw [show S.length - 1 - (S.length - 1 - c) = c by omega] at hp
    have hstep := finAt_succ E (S.length - 1 - c) i (by omega)
    rw [hn, show S.length - 1 - (S.length - 1 - c) = c by omega] at hstep
    have hnn := fins_nonneg h (S.length - 1 - c) i hi
    have h5 : 0 < finAt E (S.length - 1 - c + 1) i ∧ finAt E (S.length - 1 - c + 1) i ≤ finAt E (S.length - 1 - c) c := by
      rw [hstep]
      split
      · exact ⟨hp, Int.le_refl _⟩
      · rename_i h6
        have h7 : ¬ (finAt E (S.length - 1 - c) i = 0 ∨ finAt E (S.length - 1 - c) c < finAt E (S.length - 1 - c) i) := fun h8 => h6 ⟨h3, h8⟩
        omega
    have h9 := fins_down h i hi (S.length - 1 - c + 1) (S.length - 1 - i) (by omega) (by omega) h5.1
    omega
termination_by j - i
decreasing_by omega
/-- The offset of a name, in one: that of the least end of a name that ends with it. -/
theorem fins_told {S : List (List UInt8)} {E : List Ent} (h : Fins S E) (i : Nat) (hi : i < S.length) :
    ∃ j, j < S.length ∧ Lone S j ∧ nth S i <:+ nth S j ∧ (nextE E (S.length - 1 - i)).fin = finAt E 0 j ∧ (nextE E (S.length - 1 - i)).name = nth S i ∧
      ∀ j', j' < S.length → Lone S j' → nth S i <:+ nth S j' → finAt E 0 j ≤ finAt E 0 j' := by
  have hn := h.len
  have e : E.length - 1 - (S.length - 1 - i) = i := by omega
  have hp := fins_pos h (S.length - 1 - i) (by omega)
  rw [show S.length - 1 - (S.length - 1 - i) = i by omega] at hp
  rcases fins_some h (S.length - 1 - i) (by omega) i hi with h1 | ⟨j, a, b, c, d⟩
  · omega
  · refine ⟨j, a, b, c, ?_, ?_, fun j' x y z => ?_⟩
    · unfold nextE; rw [e]; exact d
    · unfold nextE; rw [e, (st_name E _ i).1]; exact h.name i
    · rw [← d]; exact fins_least h i hi j' x y z
end Go.Proofs.Ytddlflabdlgnbaa
