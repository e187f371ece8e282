/- Plain mathematics: the table that is laid, where its names stand first, how long it is, and that it is the reference's. No Go here. -/
import Derived.Test.YtddlflabdlgnbaaWA
namespace Go.Proofs.Ytddlflabdlgnbaa
open Go.RowKit Go.Sort Go.Maps Go.Shelf Go.Lib
/-- The text of bytes from their first one on. -/
def txt (l : List UInt8) : List UInt8 := l.takeWhile (· != 0)
def NoZ (x : List UInt8) : Prop := ∀ c ∈ x, c ≠ 0
theorem txt_cut (x r : List UInt8) (h : NoZ x) : txt (x ++ 0 :: r) = x := by
  unfold txt
  rw [List.takeWhile_append_of_pos (fun c hc => by simpa using h c hc)]
  simp
theorem txt_noz (x : List UInt8) (h : NoZ x) : txt x = x := by
  have : x = x ++ [] := by simp
  unfold txt
  rw [this, List.takeWhile_append_of_pos (fun c hc => by simpa using h c hc)]
  simp
theorem noz_suf {x y : List UInt8} (h : x <:+ y) (hy : NoZ y) : NoZ x := fun c hc => hy c (h.subset hc)
theorem lay_pre (E : List Ent) (W : List Nat) (s : List UInt8 × List Ent) : ∃ B, (layT E W s).1 = s.1 ++ B := by
  induction W generalizing s with
  | nil => exact ⟨[], by simp [layT]⟩
  | cons i W ih =>
    obtain ⟨B, hB⟩ := ih (s.1 ++ (E.getD i default).name ++ [0], s.2.set i { (s.2.getD i default) with fin := (s.1.length + (E.getD i default).name.length : Nat) })
    exact ⟨(E.getD i default).name ++ [0] ++ B, by rw [layT, hB]; simp⟩
theorem lay_not (E : List Ent) (W : List Nat) (s : List UInt8 × List Ent) (j : Nat) (hj : j ∉ W) : (layT E W s).2.getD j default = s.2.getD j default := by
  induction W generalizing s with
  | nil => rfl
  | cons i W ih =>
    rw [layT, ih _ (fun h => hj (List.mem_cons_of_mem _ h))]
    have : i ≠ j := fun e => hj (by rw [e]; exact List.mem_cons_self)
    rw [List.getD_eq_getElem?_getD, List.getElem?_set_ne this, ← List.getD_eq_getElem?_getD]
/-- A name that is laid stands in the table, a byte 0 behind it where it ends. -/
theorem lay_at (E : List Ent) (W : List Nat) (s : List UInt8 × List Ent) (hd : W.Nodup) (hl : ∀ i ∈ W, i < s.2.length) (j : Nat) (hj : j ∈ W) :
    ∃ A B, (layT E W s).1 = A ++ (E.getD j default).name ++ 0 :: B ∧ ((layT E W s).2.getD j default).fin = ((A.length + (E.getD j default).name.length : Nat) : Int) ∧ s.1.length ≤ A.length := by
  induction W generalizing s with
  | nil => simp at hj
  | cons i W ih =>
    obtain ⟨hi, hd⟩ := List.nodup_cons.1 hd
    rcases List.mem_cons.1 hj with rfl | hj
    · obtain ⟨B, hB⟩ := lay_pre E W (s.1 ++ (E.getD j default).name ++ [0], s.2.set j { (s.2.getD j default) with fin := (s.1.length + (E.getD j default).name.length : Nat) })
      refine ⟨s.1, B, by rw [layT, hB]; simp, ?_, Nat.le_refl _⟩
      rw [layT, lay_not E W _ j hi, List.getD_eq_getElem?_getD, List.getElem?_set_self (hl j List.mem_cons_self)]
      rfl
    · obtain ⟨A, B, h1, h2, h3⟩ := ih (s.1 ++ (E.getD i default).name ++ [0], s.2.set i { (s.2.getD i default) with fin := (s.1.length + (E.getD i default).name.length : Nat) }) hd (fun k hk => by simpa using hl k (List.mem_cons_of_mem _ hk)) hj
      refine ⟨A, B, by rw [layT]; exact h1, by rw [layT]; exact h2, ?_⟩
      simp only [List.length_append, List.length_cons, List.length_nil] at h3
      omega
/-- A text within the table is the end of a name that is laid. -/
theorem lay_search (E : List Ent) (W : List Nat) (s : List UInt8 × List Ent) (hd : W.Nodup) (hl : ∀ i ∈ W, i < s.2.length) (hz : ∀ i ∈ W, NoZ (E.getD i default).name) (p : Nat) (hp : s.1.length ≤ p) (x : List UInt8) (hx : x ≠ []) (ht : txt ((layT E W s).1.drop p) = x) :
    ∃ j ∈ W, x <:+ (E.getD j default).name ∧ (p : Int) = ((layT E W s).2.getD j default).fin - (x.length : Int) := by
  induction W generalizing s with
  | nil =>
    exfalso
    apply hx
    rw [← ht, show (layT E [] s).1 = s.1 from rfl, List.drop_of_length_le hp]
    rfl
  | cons i W ih =>
    obtain ⟨hi, hd⟩ := List.nodup_cons.1 hd
    have hzi := hz i List.mem_cons_self
    obtain ⟨B, hB⟩ := lay_pre E W (s.1 ++ (E.getD i default).name ++ [0], s.2.set i { (s.2.getD i default) with fin := (s.1.length + (E.getD i default).name.length : Nat) })
    have hB' : (layT E (i :: W) s).1 = s.1 ++ ((E.getD i default).name ++ 0 :: B) := by rw [layT, hB]; simp
    by_cases h1 : p ≤ s.1.length + (E.getD i default).name.length
    · refine ⟨i, List.mem_cons_self, ?_⟩
      obtain ⟨q, rfl⟩ : ∃ q, p = s.1.length + q := ⟨p - s.1.length, by omega⟩
      have hq : q ≤ (E.getD i default).name.length := by omega
      have hdrop : (layT E (i :: W) s).1.drop (s.1.length + q) = (E.getD i default).name.drop q ++ 0 :: B := by
        rw [hB', ← List.drop_drop, List.drop_left, List.drop_append_of_le_length hq]
      have hsuf : (E.getD i default).name.drop q <:+ (E.getD i default).name := List.drop_suffix _ _
      rw [hdrop, txt_cut _ _ (noz_suf hsuf hzi)] at ht
      subst ht
      refine ⟨hsuf, ?_⟩
      rw [layT, lay_not E W _ i hi, List.getD_eq_getElem?_getD, List.getElem?_set_self (hl i List.mem_cons_self), List.length_drop]
      show ((s.1.length + q : Nat) : Int) = ((s.1.length + (E.getD i default).name.length : Nat) : Int) - _
      omega
    · rw [layT] at ht ⊢
      obtain ⟨j, a, b, c⟩ := ih (s.1 ++ (E.getD i default).name ++ [0], s.2.set i { (s.2.getD i default) with fin := (s.1.length + (E.getD i default).name.length : Nat) }) hd (fun k hk => by simpa using hl k (List.mem_cons_of_mem _ hk)) (fun k hk => hz k (List.mem_cons_of_mem _ hk)) (by simp only [List.length_append, List.length_cons, List.length_nil]; omega) ht
      exact ⟨j, List.mem_cons_of_mem _ a, b, c⟩
/-- The table is the names that are laid, a byte 0 ahead of them and behind each. -/
theorem lay_flat (E : List Ent) (W : List Nat) (s : List UInt8 × List Ent) : (layT E W s).1 = s.1 ++ (W.map fun i => (E.getD i default).name ++ [0]).flatten := by
  induction W generalizing s with
  | nil => simp [layT]
  | cons i W ih => rw [layT, ih]; simp
/-- From where a name ends, its length back, there is its text; so of what ends it. -/
theorem txt_end {T A B y x : List UInt8} (hT : T = A ++ y ++ 0 :: B) (hx : x <:+ y) (hz : NoZ y) : txt (T.drop (A.length + y.length - x.length)) = x ∧ A.length + y.length - x.length + (txt (T.drop (A.length + y.length - x.length))).length < T.length := by
  have hl := hx.length_le
  obtain ⟨p, rfl⟩ := hx
  have e : T.drop (A.length + (p ++ x).length - x.length) = x ++ 0 :: B := by
    rw [hT]
    have h1 : A ++ (p ++ x) ++ 0 :: B = (A ++ p) ++ (x ++ 0 :: B) := by simp
    have h2 : A.length + (p ++ x).length - x.length = (A ++ p).length := by simp; omega
    rw [h1, h2, List.drop_left]
  have hzx : NoZ x := fun c hc => hz c (by simp [hc])
  rw [e, txt_cut x B hzx]
  refine ⟨rfl, ?_⟩
  rw [hT]
  simp only [List.length_append, List.length_cons] at hl ⊢
  omega
theorem sum_inj {α β : Type} [BEq β] [LawfulBEq β] (g : β → Nat) (f : α → β) : ∀ (M : List α) (M' : List β), M.Nodup → (∀ x ∈ M, f x ∈ M') → (∀ x ∈ M, ∀ y ∈ M, f x = f y → x = y) → (M.map fun x => g (f x)).sum ≤ (M'.map g).sum
  | [], M', _, _, _ => by simp
  | a :: M, M', hd, hm, hi => by
    obtain ⟨ha, hd⟩ := List.nodup_cons.1 hd
    have h1 := List.perm_cons_erase (hm a List.mem_cons_self)
    have h2 := (h1.map g).sum_nat
    have ih := sum_inj g f M (M'.erase (f a)) hd (fun x hx => (List.mem_erase_of_ne (fun e => ha (by
      have := hi x (List.mem_cons_of_mem _ hx) a List.mem_cons_self e
      rw [← this]; exact hx))).2 (hm x (List.mem_cons_of_mem _ hx))) (fun x hx y hy => hi x (List.mem_cons_of_mem _ hx) y (List.mem_cons_of_mem _ hy))
    rw [h2]
    simp only [List.map_cons, List.sum_cons]
    omega
/-- A name among these that ends no other one of them. -/
def Top (N : List (List UInt8)) (x : List UInt8) : Prop := x ≠ [] ∧ x ∈ N ∧ ∀ y ∈ N, x <:+ y → y = x
/-- Each name once that ends no other one. -/
structure Tops (N M : List (List UInt8)) : Prop where
  nodup : M.Nodup
  mem : ∀ x, x ∈ M ↔ Top N x
  above : ∀ x ∈ N, x ≠ [] → ∃ y ∈ M, x <:+ y
def sz (M : List (List UInt8)) : Nat := 1 + (M.map fun x => x.length + 1).sum
theorem suf_antisymm {x y : List UInt8} (h1 : x <:+ y) (h2 : y <:+ x) : x = y := h1.eq_of_length (by have := h1.length_le; have := h2.length_le; omega)
theorem sz_le {N N' M M' : List (List UInt8)} (h : Tops N M) (h' : Tops N' M') (hs : ∀ x ∈ N, x ≠ [] → ∃ y ∈ N', x <:+ y) : sz M ≤ sz M' := by
  have hex : ∀ x, x ∈ M → ∃ y, y ∈ M' ∧ x <:+ y := fun x hx => by
    obtain ⟨hn, hN, _⟩ := (h.mem x).1 hx
    obtain ⟨y, hy, hxy⟩ := hs x hN hn
    have hy0 : y ≠ [] := by rintro rfl; exact hn (List.suffix_nil.1 hxy)
    obtain ⟨z, hz, hyz⟩ := h'.above y hy hy0
    exact ⟨z, hz, hxy.trans hyz⟩
  let f : List UInt8 → List UInt8 := fun x => if hx : x ∈ M then (hex x hx).choose else []
  have hf : ∀ x ∈ M, f x ∈ M' ∧ x <:+ f x := fun x hx => by
    show (if hx : x ∈ M then (hex x hx).choose else []) ∈ M' ∧ x <:+ (if hx : x ∈ M then (hex x hx).choose else [])
    rw [dif_pos hx]
    exact (hex x hx).choose_spec
  have h1 := sum_inj (fun x : List UInt8 => x.length + 1) f M M' h.nodup (fun x hx => (hf x hx).1) (fun x hx y hy e => by
    have hx1 := (hf x hx).2
    have hy1 := (hf y hy).2
    rw [← e] at hy1
    rcases List.suffix_or_suffix_of_suffix hx1 hy1 with hxy | hyx
    · exact (((h.mem x).1 hx).2.2 y ((h.mem y).1 hy).2.1 hxy).symm
    · exact ((h.mem y).1 hy).2.2 x ((h.mem x).1 hx).2.1 hyx)
  have h2 : (M.map fun x => x.length + 1).sum ≤ (M.map fun x => (f x).length + 1).sum := by
    clear h1
    have : ∀ L : List (List UInt8), (∀ x ∈ L, x ∈ M) → (L.map fun x => x.length + 1).sum ≤ (L.map fun x => (f x).length + 1).sum := by
      intro L
      induction L with
      | nil => intro _; simp
      | cons a L ih =>
        intro hL
        have h3 := ih (fun x hx => hL x (List.mem_cons_of_mem _ hx))
        have h4 := (hf a (hL a List.mem_cons_self)).2.length_le
        simp only [List.map_cons, List.sum_cons]
        omega
    exact this M (fun x hx => hx)
  unfold sz
  omega
theorem sz_perm {N N' M M' : List (List UInt8)} (h : Tops N M) (h' : Tops N' M') (hs : ∀ x ∈ N, x ≠ [] → ∃ y ∈ N', x <:+ y) (hs' : ∀ x ∈ N', x ≠ [] → ∃ y ∈ N, x <:+ y) : sz M = sz M' := by
  have := sz_le h h' hs
  have := sz_le h' h hs'
  omega
/-- The places of the names that end no other one. -/
structure Whole (S : List (List UInt8)) (W : List Nat) : Prop where
  nodup : W.Nodup
  mem : ∀ i, i ∈ W ↔ i < S.length ∧ Lone S i
theorem nth_mem' (S : List (List UInt8)) (i : Nat) (h : i < S.length) : nth S i ∈ S := by
  unfold nth; rw [List.getD_eq_getElem?_getD, List.getElem?_eq_getElem h]; exact List.getElem_mem h
theorem mem_nth' (S : List (List UInt8)) (x : List UInt8) (h : x ∈ S) : ∃ i, i < S.length ∧ nth S i = x := by
  obtain ⟨i, hi, rfl⟩ := List.getElem_of_mem h
  exact ⟨i, hi, by unfold nth; rw [List.getD_eq_getElem?_getD, List.getElem?_eq_getElem hi]; rfl⟩
theorem tops_of {N S : List (List UInt8)} {W : List Nat} (hS : Ranked S) (hm : ∀ x, x ∈ S ↔ x ≠ [] ∧ x ∈ N) (hW : Whole S W) : Tops N (W.map (nth S)) where
  nodup := by
    have : ∀ L : List Nat, L.Nodup → (∀ i ∈ L, i < S.length) → (L.map (nth S)).Nodup := by
      intro L
      induction L with
      | nil => intro _ _; simp
      | cons a L ih =>
        intro hd hl
        obtain ⟨ha, hd⟩ := List.nodup_cons.1 hd
        rw [List.map_cons, List.nodup_cons]
        refine ⟨fun h => ?_, ih hd fun i hi => hl i (List.mem_cons_of_mem _ hi)⟩
        obtain ⟨b, hb, he⟩ := List.mem_map.1 h
        have := hS.inj b a (hl b (List.mem_cons_of_mem _ hb)) (hl a List.mem_cons_self) he
        exact ha (this ▸ hb)
    exact this W hW.nodup fun i hi => ((hW.mem i).1 hi).1
  mem x := by
    rw [List.mem_map]
    constructor
    · rintro ⟨i, hi, rfl⟩
      obtain ⟨h1, h2⟩ := (hW.mem i).1 hi
      obtain ⟨h3, h4⟩ := (hm _).1 (nth_mem' S i h1)
      refine ⟨h3, h4, fun y hy hs => ?_⟩
      have hy0 : y ≠ [] := by rintro rfl; exact h3 (List.suffix_nil.1 hs)
      obtain ⟨j, hj, rfl⟩ := mem_nth' S y ((hm y).2 ⟨hy0, hy⟩)
      rw [h2 j hj hs]
    · rintro ⟨h1, h2, h3⟩
      obtain ⟨i, hi, rfl⟩ := mem_nth' S x ((hm x).2 ⟨h1, h2⟩)
      refine ⟨i, (hW.mem i).2 ⟨hi, fun j hj hs => ?_⟩, rfl⟩
      have := h3 _ ((hm _).1 (nth_mem' S j hj)).2 hs
      exact hS.inj j i hj hi this
  above x hx h0 := by
    obtain ⟨i, hi, rfl⟩ := mem_nth' S x ((hm x).2 ⟨h0, hx⟩)
    obtain ⟨j, a, b, c⟩ := lone_above hS i hi
    exact ⟨nth S j, List.mem_map.2 ⟨j, (hW.mem j).2 ⟨a, b⟩, rfl⟩, c⟩
/-- What the entries say when they are laid: the ends, and the table. -/
theorem fins_of {S : List (List UInt8)} {E : List Ent} {W : List Nat} (h : Laid S E) (h0 : ∀ i, (E.getD i default).fin = 0) (hW : Whole S W) : Fins S (layT E W ([0], E)).2 where
  len := by
    have : ∀ (W : List Nat) (s : List UInt8 × List Ent), (layT E W s).2.length = s.2.length := by
      intro W
      induction W with
      | nil => intro s; rfl
      | cons i W ih => intro s; rw [layT, ih]; simp
    rw [this]; exact h.len
  rank := h.rank
  name i := by rw [(layT_name E W ([0], E) i).1]; exact h.name i
  tail i hi := by rw [(layT_name E W ([0], E) i).2.1]; exact h.tail i hi
  zero i hi hl := by
    show ((layT E W ([0], E)).2.getD i default).fin = 0
    rw [lay_not E W _ i (fun hm => hl ((hW.mem i).1 hm).2)]
    exact h0 i
  pos i hi hl := by
    obtain ⟨A, B, _, h2, h3⟩ := lay_at E W ([0], E) hW.nodup (fun k hk => by have := ((hW.mem k).1 hk).1; rw [← h.len] at this; exact this) i ((hW.mem i).2 ⟨hi, hl⟩)
    show 0 < ((layT E W ([0], E)).2.getD i default).fin
    rw [h2]
    have : 1 ≤ A.length := h3
    omega
/-- What is told of a name: where it stands first in the table. -/
theorem told_at {S : List (List UInt8)} {E : List Ent} {W : List Nat} (h : Laid S E) (h0 : ∀ i, (E.getD i default).fin = 0) (hW : Whole S W) (hz : ∀ x ∈ S, NoZ x) (hne : ∀ x ∈ S, x ≠ []) (i : Nat) (hi : i < S.length) :
    ∃ p : Nat, (nextE (layT E W ([0], E)).2 (S.length - 1 - i)).fin - ((nth S i).length : Int) = (p : Int) ∧ (nextE (layT E W ([0], E)).2 (S.length - 1 - i)).name = nth S i ∧
      txt ((layT E W ([0], E)).1.drop p) = nth S i ∧ p + (nth S i).length < (layT E W ([0], E)).1.length ∧ ∀ q, q < p → txt ((layT E W ([0], E)).1.drop q) ≠ nth S i := by
  have hl : ∀ k ∈ W, k < E.length := fun k hk => by have := ((hW.mem k).1 hk).1; rw [h.len]; exact this
  obtain ⟨j, hj, hlo, hs, hf, hn, hle⟩ := fins_told (fins_of h h0 hW) i hi
  have hjW := (hW.mem j).2 ⟨hj, hlo⟩
  obtain ⟨A, B, h1, h2, h3⟩ := lay_at E W ([0], E) hW.nodup hl j hjW
  rw [h.name j] at h1 h2
  have hF : finAt (layT E W ([0], E)).2 0 j = ((A.length + (nth S j).length : Nat) : Int) := h2
  have hsl := hs.length_le
  obtain ⟨t1, t2⟩ := txt_end h1 hs (hz _ (nth_mem' S j hj))
  rw [t1] at t2
  refine ⟨A.length + (nth S j).length - (nth S i).length, by rw [hf, hF]; omega, hn, t1, t2, fun q hq he => ?_⟩
  have h31 : 1 ≤ A.length := h3
  by_cases hq0 : q = 0
  · subst hq0
    obtain ⟨B', hB'⟩ := lay_pre E W ([0], E)
    rw [hB'] at he
    have : txt ([0] ++ B') = [] := by simp [txt]
    rw [List.drop_zero] at he
    rw [show (([0], E) : List UInt8 × List Ent).1 = [0] from rfl, this] at he
    exact hne _ (nth_mem' S i hi) he.symm
  · obtain ⟨k, hk, hsk, hqk⟩ := lay_search E W ([0], E) hW.nodup hl (fun k hk => by rw [h.name k]; exact hz _ (nth_mem' S k ((hW.mem k).1 hk).1)) q (by show 1 ≤ q; omega) (nth S i) (hne _ (nth_mem' S i hi)) he
    rw [h.name k] at hsk
    have hkk := (hW.mem k).1 hk
    have := hle k hkk.1 hkk.2 hsk
    have hFk : finAt (layT E W ([0], E)).2 0 k = ((layT E W ([0], E)).2.getD k default).fin := rfl
    rw [hFk] at this
    omega
theorem desc_eq {l l' : List Nat} (h : l.Pairwise (fun a b => b < a)) (h' : l'.Pairwise (fun a b => b < a)) (hm : ∀ x, x ∈ l ↔ x ∈ l') : l = l' := by
  have hd : ∀ {l : List Nat}, l.Pairwise (fun a b => b < a) → l.Nodup := fun h => h.imp (fun h => by omega)
  exact List.Perm.eq_of_pairwise (le := fun a b => b < a) (fun a b _ _ h1 h2 => by omega) h h' ((List.perm_ext_iff_of_nodup (hd h) (hd h')).2 hm)
/-- Whether the reference lays the name at a place. -/
def keepN (N : List (List UInt8)) (i : Nat) : Bool := decide (nth N i ≠ []) && (List.range N.length).all fun k => !(decide (nth N i <:+ nth N k ∧ (nth N i).length < (nth N k).length)) && !(decide (i < k ∧ nth N k = nth N i))
theorem keepN_iff (N : List (List UInt8)) (i : Nat) : keepN N i = true ↔ nth N i ≠ [] ∧ ∀ k, k < N.length → ¬ (nth N i <:+ nth N k ∧ (nth N i).length < (nth N k).length) ∧ ¬ (i < k ∧ nth N k = nth N i) := by
  unfold keepN
  simp only [Bool.and_eq_true, decide_eq_true_eq, List.all_eq_true, List.mem_range, Bool.not_eq_true', decide_eq_false_iff_not]
/-- The reference's table when the names from place k on have been told. -/
def refT (N : List (List UInt8)) : Nat → List UInt8
  | 0 => [0]
  | j + 1 => refT N j ++ (if keepN N (N.length - 1 - j) then nth N (N.length - 1 - j) ++ [0] else [])
theorem refT_flat (N : List (List UInt8)) (j : Nat) : refT N j = [0] ++ ((((List.range j).map fun j => N.length - 1 - j).filter (keepN N)).map fun i => nth N i ++ [0]).flatten := by
  induction j with
  | zero => simp [refT]
  | succ j ih =>
    rw [refT, ih, List.range_succ, List.map_append, List.filter_append, List.map_append, List.flatten_append, List.append_assoc]
    congr 2
    by_cases h : keepN N (N.length - 1 - j) = true
    · simp [h]
    · simp [h]
/-- The names that are laid, by their last places. -/
structure Lasts (N S : List (List UInt8)) (W : List Nat) (last : Nat → Nat) : Prop where
  lt : ∀ i, i < S.length → last i < N.length
  nm : ∀ i, i < S.length → nth N (last i) = nth S i
  no : ∀ i, i < S.length → ∀ k, last i < k → k < N.length → nth N k ≠ nth S i
  sorted : W.Pairwise (fun a b => last b < last a)
theorem ref_eq {N S : List (List UInt8)} {E : List Ent} {W : List Nat} {last : Nat → Nat} (h : Laid S E) (hm : ∀ x, x ∈ S ↔ x ≠ [] ∧ x ∈ N) (hW : Whole S W) (hL : Lasts N S W last) : (layT E W ([0], E)).1 = refT N N.length := by
  rw [lay_flat, refT_flat]
  congr 2
  have e : W.map last = ((List.range N.length).map fun j => N.length - 1 - j).filter (keepN N) := by
    refine desc_eq ?_ ?_ fun x => ?_
    · exact List.pairwise_map.2 hL.sorted
    · refine List.Pairwise.filter _ (List.pairwise_map.2 ?_)
      refine (List.pairwise_lt_range (n := N.length)).imp_of_mem fun {a b} ha hb hab => ?_
      rw [List.mem_range] at ha hb
      omega
    · rw [List.mem_map, List.mem_filter, List.mem_map, keepN_iff]
      constructor
      · rintro ⟨i, hi, rfl⟩
        obtain ⟨h1, h2⟩ := (hW.mem i).1 hi
        have hlt := hL.lt i h1
        refine ⟨⟨N.length - 1 - last i, List.mem_range.2 (by omega), by omega⟩, ?_, fun k hk => ⟨?_, ?_⟩⟩
        · rw [hL.nm i h1]; exact ((hm _).1 (nth_mem' S i h1)).1
        · rw [hL.nm i h1]
          rintro ⟨a, b⟩
          have hk0 : nth N k ≠ [] := by intro e; rw [e] at b; simp at b
          obtain ⟨j, hj, he⟩ := mem_nth' S (nth N k) ((hm _).2 ⟨hk0, nth_mem' N k hk⟩)
          rw [← he] at a b
          rw [h2 j hj a] at b
          omega
        · rw [hL.nm i h1]
          rintro ⟨a, b⟩
          exact hL.no i h1 k a hk b
      · rintro ⟨⟨j, hj, rfl⟩, h1, h2⟩
        rw [List.mem_range] at hj
        have hlt : N.length - 1 - j < N.length := by omega
        generalize N.length - 1 - j = x at *
        obtain ⟨i, hi, he⟩ := mem_nth' S (nth N x) ((hm _).2 ⟨h1, nth_mem' N x hlt⟩)
        refine ⟨i, (hW.mem i).2 ⟨hi, fun k hk hs => ?_⟩, ?_⟩
        · obtain ⟨_, hkN⟩ := (hm _).1 (nth_mem' S k hk)
          obtain ⟨y, hy, hye⟩ := mem_nth' N _ hkN
          have h3 := (h2 y hy).1
          rw [hye, ← he] at h3
          have hle := hs.length_le
          have : nth S i = nth S k := hs.eq_of_length (by
            rcases Nat.lt_or_ge (nth S i).length (nth S k).length with h4 | h4
            · exact absurd ⟨hs, h4⟩ h3
            · omega)
          exact (h.rank.inj i k hi hk this).symm
        · rcases Nat.lt_trichotomy (last i) x with h3 | h3 | h3
          · exact absurd he.symm (hL.no i hi x h3 hlt)
          · exact h3
          · have h4 := (h2 (last i) (hL.lt i hi)).2
            rw [hL.nm i hi] at h4
            exact absurd ⟨h3, he⟩ h4
  have e2 : (W.map fun i => (E.getD i default).name ++ [0]) = (W.map last).map fun i => nth N i ++ [0] := by
    rw [List.map_map]
    refine List.map_congr_left fun i hi => ?_
    have := ((hW.mem i).1 hi).1
    show (E.getD i default).name ++ [0] = nth N (last i) ++ [0]
    rw [h.name i, hL.nm i this]
  rw [e2, e]
end Go.Proofs.Ytddlflabdlgnbaa
