/- Plain mathematics for layer 2: lists of spans that stand for sets of bytes. Conditions: those written in each theorem. -/
import Derived.Test.YtibgcnggimlbcaaAA
namespace Go.Proofs.Ytibgcnggimlbcaa
namespace Spans
abbrev Sp := Nat × Nat
/-- A span has a byte. -/
def has (s : Sp) (b : Nat) : Prop := s.1 ≤ b ∧ b < s.1 + s.2
/-- One of the spans has a byte. -/
def cov (l : List Sp) (b : Nat) : Prop := ∃ s ∈ l, has s b
/-- Spans with bytes, in order, none next to another one, all from lo on. -/
def Canon : Nat → List Sp → Prop
  | _, [] => True
  | lo, s :: r => lo ≤ s.1 ∧ 0 < s.2 ∧ Canon (s.1 + s.2 + 1) r
theorem Canon.weaken {lo lo' : Nat} {l : List Sp} (h : Canon lo l) (hl : lo' ≤ lo) : Canon lo' l := by
  cases l with
  | nil => trivial
  | cons s r => exact ⟨by have := h.1; omega, h.2.1, h.2.2⟩
theorem Canon.ge {lo : Nat} {l : List Sp} (h : Canon lo l) {b : Nat} (hb : cov l b) : lo ≤ b := by
  induction l generalizing lo with
  | nil => obtain ⟨s, hs, _⟩ := hb; simp at hs
  | cons s r ih =>
    obtain ⟨h1, h2, h3⟩ := h
    obtain ⟨t, ht, hh⟩ := hb
    rcases List.mem_cons.1 ht with rfl | ht
    · have := hh.1; omega
    · have := ih h3 ⟨t, ht, hh⟩; omega
theorem cov_cons (s : Sp) (r : List Sp) (b : Nat) : cov (s :: r) b ↔ has s b ∨ cov r b := by
  unfold cov
  simp
theorem canon_unique {lo : Nat} {l l' : List Sp} (h : Canon lo l) (h' : Canon lo l') (he : ∀ b, cov l b ↔ cov l' b) : l = l' := by
  induction l generalizing lo l' with
  | nil =>
    cases l' with
    | nil => rfl
    | cons s r =>
      have : cov ([] : List Sp) s.1 := (he s.1).2 ⟨s, by simp, ⟨Nat.le_refl _, by have := h'.2.1; omega⟩⟩
      obtain ⟨t, ht, _⟩ := this
      simp at ht
  | cons s r ih =>
    cases l' with
    | nil =>
      have : cov ([] : List Sp) s.1 := (he s.1).1 ⟨s, by simp, ⟨Nat.le_refl _, by have := h.2.1; omega⟩⟩
      obtain ⟨t, ht, _⟩ := this
      simp at ht
    | cons s' r' =>
      obtain ⟨h1, h2, h3⟩ := h
      obtain ⟨h1', h2', h3'⟩ := h'
      have a1 : has s' s.1 ∨ cov r' s.1 := (cov_cons _ _ _).1 ((he s.1).1 ((cov_cons _ _ _).2 (.inl ⟨Nat.le_refl _, by omega⟩)))
      have a2 : has s s'.1 ∨ cov r s'.1 := (cov_cons _ _ _).1 ((he s'.1).2 ((cov_cons _ _ _).2 (.inl ⟨Nat.le_refl _, by omega⟩)))
      have le1 : s'.1 ≤ s.1 := by
        rcases a1 with a1 | a1
        · exact a1.1
        · have := h3'.ge a1; omega
      have le2 : s.1 ≤ s'.1 := by
        rcases a2 with a2 | a2
        · exact a2.1
        · have := h3.ge a2; omega
      have e1 : s.1 = s'.1 := by omega
      have n1 : ¬ cov (s :: r) (s.1 + s.2) := by
        intro hc
        rcases (cov_cons _ _ _).1 hc with hc | hc
        · have := hc.2; omega
        · have := h3.ge hc; omega
      have n2 : ¬ cov (s' :: r') (s'.1 + s'.2) := by
        intro hc
        rcases (cov_cons _ _ _).1 hc with hc | hc
        · have := hc.2; omega
        · have := h3'.ge hc; omega
      have e2 : s.2 = s'.2 := by
        rcases Nat.lt_trichotomy s.2 s'.2 with hlt | heq | hgt
        · exact absurd ((he _).2 ((cov_cons _ _ _).2 (.inl ⟨by omega, by omega⟩))) n1
        · exact heq
        · exact absurd ((he _).1 ((cov_cons _ _ _).2 (.inl ⟨by omega, by omega⟩))) n2
      have es : s = s' := Prod.ext e1 e2
      subst es
      congr 1
      refine ih h3 h3' fun b => ?_
      constructor
      · intro hb
        have hge := h3.ge hb
        rcases (cov_cons _ _ _).1 ((he b).1 ((cov_cons _ _ _).2 (.inr hb))) with hc | hc
        · have := hc.2; omega
        · exact hc
      · intro hb
        have hge := h3'.ge hb
        rcases (cov_cons _ _ _).1 ((he b).2 ((cov_cons _ _ _).2 (.inr hb))) with hc | hc
        · have := hc.2; omega
        · exact hc
theorem asc_tail {s : Sp} {r : List Sp} (h : Asc (s :: r)) : Asc r := fun i j hi hj hij => by
  have := h (i + 1) (j + 1) (by simpa using hi) (by simpa using hj) (by omega)
  simpa using this
theorem asc_head {s : Sp} {r : List Sp} (h : Asc (s :: r)) : ∀ t ∈ r, s.1 ≤ t.1 := fun t ht => by
  obtain ⟨j, hj, rfl⟩ := List.getElem_of_mem ht
  have := h 0 (j + 1) (by simp) (by simpa using hj) (by omega)
  simpa using this
/-- What Gaps leaves, and that it is in order. -/
theorem gapsGo_spec (size : Nat) (hsz : size < maxU) : ∀ (d : List Sp) (done : Nat), Asc d → (∀ s ∈ d, 0 < s.2) →
    Canon done (gapsGo size d done) ∧ ∀ b, cov (gapsGo size d done) b ↔ done ≤ b ∧ b < size ∧ ¬ cov d b := by
  intro d
  induction d with
  | nil =>
    intro done _ _
    unfold gapsGo
    by_cases h : done < size
    · rw [if_pos h]
      refine ⟨⟨Nat.le_refl _, by simp; omega, trivial⟩, fun b => ?_⟩
      unfold cov has
      simp
      omega
    · rw [if_neg h]
      refine ⟨trivial, fun b => ?_⟩
      unfold cov has
      simp
      omega
  | cons s r ih =>
    intro done hasc hpos
    have hs := hpos s (by simp)
    have hhead := asc_head hasc
    unfold gapsGo
    by_cases h : size ≤ s.1
    · rw [if_pos h]
      have hnc : ∀ b, b < size → ¬ cov (s :: r) b := by
        rintro b hb ⟨t, ht, hh⟩
        rcases List.mem_cons.1 ht with rfl | ht
        · have := hh.1; omega
        · have := hh.1; have := hhead t ht; omega
      by_cases h2 : done < size
      · rw [if_pos h2]
        refine ⟨⟨Nat.le_refl _, by simp; omega, trivial⟩, fun b => ⟨?_, ?_⟩⟩
        · rintro ⟨t, ht, hh⟩
          simp at ht
          subst ht
          have h3 := hh.1; have h4 := hh.2
          simp at h3 h4
          exact ⟨by omega, by omega, hnc b (by omega)⟩
        · rintro ⟨h3, h4, _⟩
          exact ⟨(done, size - done), by simp, by simpa using h3, by simp; omega⟩
      · rw [if_neg h2]
        refine ⟨trivial, fun b => ⟨?_, ?_⟩⟩
        · rintro ⟨t, ht, _⟩; simp at ht
        · rintro ⟨h3, h4, _⟩; omega
    · rw [if_neg h]
      have hbn : s.1 < boundN s.1 s.2 ∧ (∀ b, b < size → (has s b ↔ s.1 ≤ b ∧ b < boundN s.1 s.2)) := by
        unfold boundN has
        split
        · exact ⟨by omega, fun b _ => by omega⟩
        · unfold maxU at *
          exact ⟨by omega, fun b hb => by omega⟩
      obtain ⟨ihc, ihm⟩ := ih (max done (boundN s.1 s.2)) (asc_tail hasc) (fun t ht => hpos t (by simp [ht]))
      generalize boundN s.1 s.2 = bn at *
      have hr : ∀ b, b < s.1 → ¬ cov r b := by
        rintro b hb ⟨t, ht, hh⟩
        have := hh.1; have := hhead t ht; omega
      by_cases h2 : done < s.1
      · rw [if_pos h2]
        refine ⟨⟨Nat.le_refl _, by simp; omega, ihc.weaken (by simp; omega)⟩, fun b => ?_⟩
        simp only [List.singleton_append]
        rw [cov_cons, ihm, cov_cons]
        constructor
        · rintro (⟨h3, h4⟩ | ⟨h3, h4, h5⟩)
          · simp at h3 h4
            refine ⟨h3, by omega, ?_⟩
            rintro (h6 | h6)
            · have := h6.1; omega
            · exact hr b (by omega) h6
          · refine ⟨by omega, h4, ?_⟩
            rintro (h6 | h6)
            · have := ((hbn.2 b h4).1 h6).2; omega
            · exact h5 h6
        · rintro ⟨h3, h4, h5⟩
          by_cases h6 : b < s.1
          · left; exact ⟨by simpa using h3, by simp; omega⟩
          · right
            refine ⟨?_, h4, fun h7 => h5 (.inr h7)⟩
            have : ¬ b < bn := fun h7 => h5 (.inl ((hbn.2 b h4).2 ⟨by omega, h7⟩))
            omega
      · rw [if_neg h2, List.nil_append]
        refine ⟨ihc.weaken (by omega), fun b => ?_⟩
        rw [ihm, cov_cons]
        constructor
        · rintro ⟨h3, h4, h5⟩
          refine ⟨by omega, h4, ?_⟩
          rintro (h6 | h6)
          · have := ((hbn.2 b h4).1 h6).2; omega
          · exact h5 h6
        · rintro ⟨h3, h4, h5⟩
          refine ⟨?_, h4, fun h7 => h5 (.inr h7)⟩
          have : ¬ b < bn := fun h7 => h5 (.inl ((hbn.2 b h4).2 ⟨by omega, h7⟩))
          omega
/-- One of the spans has a byte, as the reference asks it. -/
def hasB (s : Sp) (b : Nat) : Bool := decide (s.1 ≤ b) && decide (b - s.1 < s.2)
theorem hasB_iff (s : Sp) (b : Nat) : hasB s b = true ↔ has s b := by unfold hasB has; simp; omega
/-- The first k of the spans: has one of them a byte? -/
def covK (ds : List Sp) (b : Nat) : Nat → Bool
  | 0 => false
  | k + 1 => covK ds b k || hasB (ds.getD k (0, 0)) b
theorem covK_iff (ds : List Sp) (b k : Nat) (hk : k ≤ ds.length) : covK ds b k = true ↔ cov (ds.take k) b := by
  induction k with
  | zero => simp [covK, cov]
  | succ k ih =>
    have e : ds.getD k (0, 0) = ds[k] := by rw [List.getD_eq_getElem?_getD, List.getElem?_eq_getElem (by omega)]; rfl
    unfold covK
    rw [Bool.or_eq_true, ih (by omega), e, hasB_iff, List.take_succ_eq_append_getElem (by omega)]
    unfold cov
    simp only [List.mem_append, List.mem_singleton]
    constructor
    · rintro (⟨s, hs, hh⟩ | hh)
      · exact ⟨s, .inl hs, hh⟩
      · exact ⟨_, .inr rfl, hh⟩
    · rintro ⟨s, hs | rfl, hh⟩
      · exact .inl ⟨s, hs, hh⟩
      · exact .inr hh
theorem covK_all (ds : List Sp) (b : Nat) : covK ds b ds.length = true ↔ cov ds b := by
  rw [covK_iff ds b _ (Nat.le_refl _), List.take_length]
/-- A byte more that is in none. -/
def extend (out : List Sp) (b : Nat) : List Sp :=
  match out.getLast? with
  | some t => if t.1 + t.2 = b then out.dropLast ++ [(t.1, t.2 + 1)] else out ++ [(b, 1)]
  | none => [(b, 1)]
/-- The reference's Gaps, byte by byte. -/
def refG (ds : List Sp) : Nat → List Sp
  | 0 => []
  | b + 1 => if covK ds b ds.length then refG ds b else extend (refG ds b) b
theorem canon_snoc {lo : Nat} {l : List Sp} {t : Sp} (h : Canon lo l) (ht : ∀ s ∈ l, s.1 + s.2 < t.1) (hl : lo ≤ t.1) (hp : 0 < t.2) : Canon lo (l ++ [t]) := by
  induction l generalizing lo with
  | nil => exact ⟨hl, hp, trivial⟩
  | cons s r ih => exact ⟨h.1, h.2.1, ih h.2.2 (fun u hu => ht u (by simp [hu])) (by have := ht s (by simp); omega)⟩
theorem canon_snoc_inv {lo : Nat} {l : List Sp} {t : Sp} (h : Canon lo (l ++ [t])) : Canon lo l ∧ (∀ s ∈ l, s.1 + s.2 < t.1) ∧ lo ≤ t.1 ∧ 0 < t.2 := by
  induction l generalizing lo with
  | nil => exact ⟨trivial, by simp, h.1, h.2.1⟩
  | cons s r ih =>
    obtain ⟨a, b, c, d⟩ := ih h.2.2
    refine ⟨⟨h.1, h.2.1, a⟩, ?_, by have := h.1; omega, d⟩
    intro u hu
    rcases List.mem_cons.1 hu with rfl | hu
    · omega
    · exact b u hu
theorem cov_append (l m : List Sp) (b : Nat) : cov (l ++ m) b ↔ cov l b ∨ cov m b := by
  unfold cov
  simp only [List.mem_append]
  constructor
  · rintro ⟨s, hs | hs, hh⟩
    · exact .inl ⟨s, hs, hh⟩
    · exact .inr ⟨s, hs, hh⟩
  · rintro (⟨s, hs, hh⟩ | ⟨s, hs, hh⟩)
    · exact ⟨s, .inl hs, hh⟩
    · exact ⟨s, .inr hs, hh⟩
theorem cov_one (t : Sp) (b : Nat) : cov [t] b ↔ has t b := by unfold cov; simp
theorem nil_or_snoc (l : List Sp) : l = [] ∨ ∃ r t, l = r ++ [t] := by
  rcases List.eq_nil_or_concat l with h | ⟨r, t, h⟩
  · exact .inl h
  · exact .inr ⟨r, t, by rw [h]; simp⟩
theorem refG_spec (ds : List Sp) (n : Nat) : Canon 0 (refG ds n) ∧ (∀ t ∈ refG ds n, t.1 + t.2 ≤ n) ∧ ∀ b, cov (refG ds n) b ↔ b < n ∧ ¬ cov ds b := by
  induction n with
  | zero => exact ⟨trivial, by simp [refG], fun b => by simp [refG, cov]⟩
  | succ n ih =>
    obtain ⟨hc, hle, hm⟩ := ih
    unfold refG
    by_cases hcv : covK ds n ds.length = true
    · rw [if_pos hcv]
      have hcv' := (covK_all ds n).1 hcv
      refine ⟨hc, fun t ht => by have := hle t ht; omega, fun b => ?_⟩
      rw [hm]
      constructor
      · rintro ⟨h1, h2⟩; exact ⟨by omega, h2⟩
      · rintro ⟨h1, h2⟩
        refine ⟨?_, h2⟩
        have : b ≠ n := fun e => h2 (e ▸ hcv')
        omega
    · rw [if_neg hcv]
      have hcv' : ¬ cov ds n := fun h => hcv ((covK_all ds n).2 h)
      generalize refG ds n = out at *
      rcases nil_or_snoc out with rfl | ⟨l, t, rfl⟩
      · refine ⟨⟨Nat.zero_le _, Nat.one_pos, trivial⟩, by simp [extend], fun b => ?_⟩
        have e : extend [] n = [(n, 1)] := rfl
        rw [e, cov_one]
        have := hm b
        unfold has
        constructor
        · rintro ⟨h1, h2⟩
          simp at h1 h2
          obtain rfl : b = n := by omega
          exact ⟨by omega, hcv'⟩
        · rintro ⟨h1, h2⟩
          have : ¬ b < n := fun h => by
            obtain ⟨s, hs, _⟩ := this.2 ⟨h, h2⟩
            simp at hs
          exact ⟨by simp; omega, by simp; omega⟩
      · have hlast : (l ++ [t]).getLast? = some t := by simp
        obtain ⟨ca, cb, cc, cd⟩ := canon_snoc_inv hc
        have htle : t.1 + t.2 ≤ n := hle t (by simp)
        unfold extend
        rw [hlast]
        simp only
        by_cases he : t.1 + t.2 = n
        · rw [if_pos he]
          have hd : (l ++ [t]).dropLast = l := by simp
          rw [hd]
          refine ⟨canon_snoc ca (fun s hs => cb s hs) (Nat.zero_le _) (by simp), ?_, fun b => ?_⟩
          · intro u hu
            rcases List.mem_append.1 hu with hu | hu
            · have := hle u (by simp [hu]); omega
            · simp at hu; subst hu; simp; omega
          · have hmb := hm b
            rw [cov_append, cov_one] at hmb
            rw [cov_append, cov_one]
            unfold has at *
            simp only
            constructor
            · rintro (h1 | ⟨h1, h2⟩)
              · have := hmb.1 (.inl h1); exact ⟨by omega, this.2⟩
              · by_cases h3 : b < t.1 + t.2
                · have := hmb.1 (.inr ⟨h1, h3⟩); exact ⟨by omega, this.2⟩
                · obtain rfl : b = n := by omega
                  exact ⟨by omega, hcv'⟩
            · rintro ⟨h1, h2⟩
              by_cases h3 : b < n
              · rcases hmb.2 ⟨h3, h2⟩ with h4 | h4
                · exact .inl h4
                · exact .inr ⟨h4.1, by omega⟩
              · exact .inr ⟨by omega, by omega⟩
        · rw [if_neg he]
          refine ⟨canon_snoc hc ?_ (Nat.zero_le _) Nat.one_pos, ?_, fun b => ?_⟩
          · intro u hu
            have h1 := hle u hu
            rcases List.mem_append.1 hu with hu | hu
            · have := cb u hu; simp; omega
            · simp at hu; subst hu; simp; omega
          · intro u hu
            rcases List.mem_append.1 hu with hu | hu
            · have := hle u hu; omega
            · simp at hu; subst hu; simp
          · rw [cov_append, cov_one, hm]
            unfold has
            simp only
            constructor
            · rintro (⟨h1, h2⟩ | ⟨h1, h2⟩)
              · exact ⟨by omega, h2⟩
              · obtain rfl : b = n := by omega
                exact ⟨by omega, hcv'⟩
            · rintro ⟨h1, h2⟩
              by_cases h3 : b < n
              · exact .inl ⟨h3, h2⟩
              · exact .inr ⟨by omega, by omega⟩
theorem cov_perm {d ds : List Sp} (hp : d.Perm (full ds)) (b : Nat) : cov d b ↔ cov ds b := by
  unfold cov
  constructor
  · rintro ⟨s, hs, hh⟩
    exact ⟨s, (List.mem_filter.1 (hp.mem_iff.1 hs)).1, hh⟩
  · rintro ⟨s, hs, hh⟩
    refine ⟨s, hp.mem_iff.2 (List.mem_filter.2 ⟨hs, ?_⟩), hh⟩
    have h1 := hh.1; have h2 := hh.2
    simp; omega
theorem pos_perm {d ds : List Sp} (hp : d.Perm (full ds)) : ∀ s ∈ d, 0 < s.2 := fun s hs => by
  have := (List.mem_filter.1 (hp.mem_iff.1 hs)).2
  simpa using this
/-- THE TWO GAPS ARE ONE. -/
theorem gaps_eq (size : Nat) (hsz : size < maxU) (d ds : List Sp) (hp : d.Perm (full ds)) (ha : Asc d) : gapsGo size d 0 = refG ds size := by
  obtain ⟨c1, m1⟩ := gapsGo_spec size hsz d 0 ha (pos_perm hp)
  obtain ⟨c2, _, m2⟩ := refG_spec ds size
  refine canon_unique c1 c2 fun b => ?_
  rw [m1, m2, cov_perm hp]
  constructor
  · rintro ⟨_, h1, h2⟩; exact ⟨h1, h2⟩
  · rintro ⟨h1, h2⟩; exact ⟨Nat.zero_le _, h1, h2⟩
/-- No byte in common. -/
def NoOv (s t : Sp) : Prop := ¬ has s t.1 ∧ ¬ has t s.1
theorem NoOv.symm' {s t : Sp} (h : NoOv s t) : NoOv t s := ⟨h.2, h.1⟩
theorem clash_iff (d : List Sp) (ha : Asc d) (hp : ∀ s ∈ d, 0 < s.2) : clashL d = false ↔ d.Pairwise NoOv := by
  induction d with
  | nil => simp [clashL]
  | cons a r ih =>
    have ih' := ih (asc_tail ha) (fun s hs => hp s (by simp [hs]))
    have hh := asc_head ha
    have hpa := hp a (by simp)
    cases r with
    | nil => simp [clashL]
    | cons b r =>
      rw [clashL, Bool.or_eq_false_iff, ih', List.pairwise_cons (a := a) (l := b :: r)]
      have hab := hh b (by simp)
      have hpb := hp b (by simp)
      constructor
      · rintro ⟨h1, h2⟩
        have h1' : a.1 + a.2 ≤ b.1 := by simp at h1; omega
        refine ⟨fun t ht => ?_, h2⟩
        have hbt : b.1 ≤ t.1 := by
          rcases List.mem_cons.1 ht with rfl | ht
          · exact Nat.le_refl _
          · exact asc_head (asc_tail ha) t ht
        exact ⟨fun h => by have := h.2; omega, fun h => by have := h.1; omega⟩
      · rintro ⟨h1, h2⟩
        refine ⟨?_, h2⟩
        have h3 := (h1 b (by simp)).1
        simp
        have : ¬ b.1 < a.1 + a.2 := fun h => h3 ⟨hab, h⟩
        omega
/-- Do two spans clash, as the law asks it? -/
def cp (s t : Sp) : Bool := decide (0 < s.2) && decide (0 < t.2) && (hasB s t.1 || hasB t s.1)
def crow (ds : List Sp) (i : Nat) : Nat → Bool
  | 0 => false
  | k + 1 => crow ds i k || cp (ds.getD i (0, 0)) (ds.getD k (0, 0))
def call (ds : List Sp) : Nat → Bool
  | 0 => false
  | i + 1 => call ds i || crow ds i i
theorem crow_false (ds : List Sp) (i k : Nat) : crow ds i k = false ↔ ∀ j, j < k → cp (ds.getD i (0, 0)) (ds.getD j (0, 0)) = false := by
  induction k with
  | zero => simp [crow]
  | succ k ih =>
    rw [crow, Bool.or_eq_false_iff, ih]
    constructor
    · rintro ⟨h1, h2⟩ j hj
      by_cases h : j < k
      · exact h1 j h
      · obtain rfl : j = k := by omega
        exact h2
    · intro h
      exact ⟨fun j hj => h j (by omega), h k (by omega)⟩
theorem call_false (ds : List Sp) (n : Nat) : call ds n = false ↔ ∀ i j, j < i → i < n → cp (ds.getD i (0, 0)) (ds.getD j (0, 0)) = false := by
  induction n with
  | zero => simp [call]
  | succ n ih =>
    rw [call, Bool.or_eq_false_iff, ih, crow_false]
    constructor
    · rintro ⟨h1, h2⟩ i j hj hi
      by_cases h : i < n
      · exact h1 i j hj h
      · obtain rfl : i = n := by omega
        exact h2 j hj
    · intro h
      exact ⟨fun i j hj hi => h i j hj (by omega), fun j hj => h n j hj (by omega)⟩
theorem cp_false (s t : Sp) : cp s t = false ↔ (0 < s.2 → 0 < t.2 → NoOv t s) := by
  unfold cp NoOv
  rw [← hasB_iff, ← hasB_iff]
  cases hasB s t.1 <;> cases hasB t s.1 <;> simp <;> omega
/-- THE TWO CLASHES ARE ONE. -/
theorem clash_eq (d ds : List Sp) (hp : d.Perm (full ds)) (ha : Asc d) : clashL d = call ds ds.length := by
  have key : clashL d = false ↔ call ds ds.length = false := by
    rw [clash_iff d ha (pos_perm hp), hp.pairwise_iff (fun h => NoOv.symm' h), full, List.pairwise_filter, List.pairwise_iff_getElem, call_false]
    constructor
    · intro h i j hj hi
      have := h j i (by omega) hi hj
      rw [cp_false]
      rw [List.getD_eq_getElem?_getD, List.getElem?_eq_getElem hi, List.getD_eq_getElem?_getD, List.getElem?_eq_getElem (by omega : j < ds.length)]
      intro h1 h2
      exact this (by simpa using h2) (by simpa using h1)
    · intro h j i hj hi hji h1 h2
      have := (cp_false _ _).1 (h i j hji hi)
      rw [List.getD_eq_getElem?_getD, List.getElem?_eq_getElem hi, List.getD_eq_getElem?_getD, List.getElem?_eq_getElem hj] at this
      exact this (by simpa using h2) (by simpa using h1)
  cases h1 : clashL d <;> cases h2 : call ds ds.length <;> simp_all
end Spans
end Go.Proofs.Ytibgcnggimlbcaa
