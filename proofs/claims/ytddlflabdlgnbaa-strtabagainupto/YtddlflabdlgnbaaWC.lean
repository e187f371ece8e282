/- Plain mathematics: what strtab's Build makes is the reference's table, and each name is told where it stands first. No Go here. -/
import Derived.Test.YtddlflabdlgnbaaWB
namespace Go.Proofs.Ytddlflabdlgnbaa
open Go.RowKit Go.Sort Go.Maps Go.Shelf Go.Lib
theorem leE_cle (a b : List UInt8) : leE a b = true ↔ cle a.reverse b.reverse := by
  unfold leE cle
  rw [Bool.not_eq_true', ltE_no]
theorem cle_refl (x : List UInt8) : cle x x := by unfold cle; rw [cb_self]; decide
theorem ranked (N : List (List UInt8)) : Ranked (sortN N) where
  le i j hij hj := by
    rcases Nat.lt_or_ge i j with h | h
    · have hp : (sortN N).Pairwise (fun a b => leE a b = true) := List.pairwise_mergeSort leE_trans leE_total _
      have := (List.pairwise_iff_getElem.1 hp) i j (by omega) hj h
      rw [nth_get _ i (by omega), nth_get _ j hj]
      exact (leE_cle _ _).1 this
    · obtain rfl : i = j := by omega
      exact cle_refl _
  inj i j hi hj e := by
    rw [nth_get _ _ hi, nth_get _ _ hj] at e
    exact (List.getElem_inj (sortN_nodup N)).1 e
theorem laidN (N : List (List UInt8)) : Laid (sortN N) (EN N) where
  len := EN_len N
  rank := ranked N
  name i := by
    by_cases h : i < (EN N).length
    · rw [EN_getD N i h]
    · rw [EN_out N i h]
      rw [EN_len] at h
      unfold nth
      rw [List.getD_eq_getElem?_getD, List.getElem?_eq_none (by omega)]
      rfl
  tail i hi := by
    rw [EN_getD N i (by rw [EN_len]; exact hi)]
    exact tails_is (ranked N) _ (Nat.le_refl _) i hi
theorem fin0N (N : List (List UInt8)) (i : Nat) : ((EN N).getD i default).fin = 0 := by
  by_cases h : i < (EN N).length
  · rw [EN_getD N i h]
  · rw [EN_out N i h]; rfl
theorem wholeN (N : List (List UInt8)) : Whole (sortN N) (ws (EN N)) where
  nodup := by
    rw [(ws_perm (EN N)).nodup_iff]
    exact List.Pairwise.filter _ List.nodup_range
  mem i := by
    rw [(ws_perm (EN N)).mem_iff]
    unfold wholeTo
    rw [List.mem_filter, List.mem_range, EN_len]
    constructor
    · rintro ⟨h1, h2⟩; exact ⟨h1, (whole_iff (laidN N) i h1).1 h2⟩
    · rintro ⟨h1, h2⟩; exact ⟨h1, (whole_iff (laidN N) i h1).2 h2⟩
theorem lastIx_no (N : List (List UInt8)) (x : List UInt8) (n k : Nat) (h1 : lastIx N x n < (k : Int)) (h2 : k < n) : nth N k ≠ x := by
  induction n with
  | zero => omega
  | succ n ih =>
    unfold lastIx at h1
    split at h1
    · omega
    · rename_i h
      by_cases e : k = n
      · subst e; exact h
      · exact ih h1 (by omega)
def lastN (N : List (List UInt8)) (i : Nat) : Nat := (lastIx N (nth (sortN N) i) N.length).toNat
theorem lastN_eq (N : List (List UInt8)) (i : Nat) (hi : i < (sortN N).length) : ((EN N).getD i default).last = (lastN N i : Int) := by
  have h := EN_spec N i (by rw [EN_len]; exact hi)
  rw [EN_getD N i (by rw [EN_len]; exact hi)]
  unfold lastN
  show lastIx N _ _ = _
  omega
theorem lastsN {N : List (List UInt8)} (ok : NamesOk N) : Lasts N (sortN N) (ws (EN N)) (lastN N) where
  lt i hi := by
    have h := EN_spec N i (by rw [EN_len]; exact hi)
    unfold lastN
    have := h.2.2.2.1
    omega
  nm i hi := (EN_spec N i (by rw [EN_len]; exact hi)).2.2.2.2
  no i hi k h1 h2 := by
    have h := EN_spec N i (by rw [EN_len]; exact hi)
    refine lastIx_no N _ N.length k ?_ h2
    unfold lastN at h1
    omega
  sorted := by
    unfold ws
    rw [List.pairwise_map]
    have hp : (wsF (EN N)).Pairwise (fun a b => leW (EN N) a b = true) := List.pairwise_mergeSort (fun a b c h1 h2 => by
      simp only [leW, Bool.not_eq_true', ltW, decide_eq_false_iff_not] at *
      omega) (fun a b => by
      simp only [leW, Bool.or_eq_true, Bool.not_eq_true', ltW, decide_eq_false_iff_not]
      omega) _
    have hnd : (wsF (EN N)).Pairwise (fun a b => a ≠ b) := by
      have h1 : (ws (EN N)).Nodup := (wholeN N).nodup
      unfold ws at h1
      exact (List.pairwise_map.1 h1).imp (fun h e => h (by rw [e]))
    refine (hp.and hnd).imp (fun {a b} h => ?_)
    have h1 := h.1
    simp only [leW, Bool.not_eq_true', ltW, decide_eq_false_iff_not] at h1
    have h2 : (EN N)[a].last ≠ (EN N)[b].last := fun e => h.2 ((EN_lay ok).inj a b e)
    have ea := lastN_eq N a.1 (by rw [← EN_len]; exact a.2)
    have eb := lastN_eq N b.1 (by rw [← EN_len]; exact b.2)
    rw [getD_at _ _ a.2] at ea
    rw [getD_at _ _ b.2] at eb
    have ea' : (EN N)[a].last = (lastN N a.1 : Int) := ea
    have eb' : (EN N)[b].last = (lastN N b.1 : Int) := eb
    omega
theorem tab_eq (N : List (List UInt8)) : layT (EN N) (ws (EN N)) ([0], EN N) = layTo (EN N) (ws (EN N)) (ws (EN N)).length := by
  unfold layTo
  rw [List.take_length]
theorem tabN_eq (N : List (List UInt8)) : tabN N = (layT (EN N) (ws (EN N)) ([0], EN N)).1 := by rw [tab_eq]; rfl
theorem EL_eq (N : List (List UInt8)) : EL N = (layT (EN N) (ws (EN N)) ([0], EN N)).2 := by rw [tab_eq]; rfl
/-- The table is the reference's. -/
theorem tabN_ref {N : List (List UInt8)} (ok : NamesOk N) : tabN N = refT N N.length := by
  rw [tabN_eq]
  exact ref_eq (laidN N) (sortN_mem N) (wholeN N) (lastsN ok)
/-- The names that are laid. -/
def topsN (N : List (List UInt8)) : List (List UInt8) := (ws (EN N)).map (nth (sortN N))
theorem topsN_is (N : List (List UInt8)) : Tops N (topsN N) := tops_of (ranked N) (sortN_mem N) (wholeN N)
theorem tabN_flat (N : List (List UInt8)) : tabN N = [0] ++ ((topsN N).map fun x => x ++ [0]).flatten := by
  rw [tabN_eq, lay_flat]
  unfold topsN
  rw [List.map_map]
  congr 2
  refine List.map_congr_left fun i _ => ?_
  show _ = nth (sortN N) i ++ [0]
  rw [(laidN N).name i]
theorem tabN_len (N : List (List UInt8)) : (tabN N).length = sz (topsN N) := by
  rw [tabN_flat, List.length_append]
  unfold sz
  simp only [List.length_cons, List.length_nil, List.length_flatten, List.map_map]
  congr 3
  funext x
  simp
theorem sizeN (N : List (List UInt8)) : sizeTo (EN N) (EN N).length = (tabN N).length := by
  rw [tabN_eq, layT_size]
  unfold sizeTo
  show 1 + _ = 1 + _
  congr 1
  exact (((ws_perm (EN N)).map _).sum_nat).symm
theorem offAt_told {S : List (List UInt8)} {E : List Ent} (h : Laid S E) (i : Nat) (hi : i < S.length) (m : Nat) (h1 : S.length - 1 - i < m) (h2 : m ≤ S.length) : offAt E (nth S i) m = offOf (nextE E (S.length - 1 - i)) := by
  have hn := h.len
  induction m with
  | zero => omega
  | succ k ih =>
    unfold offAt
    have hnm : (nextE E k).name = nth S (S.length - 1 - k) := by
      unfold nextE
      rw [(st_name E k _).1, hn]
      exact h.name _
    rw [hnm]
    by_cases e : k = S.length - 1 - i
    · subst e
      rw [show S.length - 1 - (S.length - 1 - i) = i by omega, if_pos rfl]
    · rw [if_neg, ih (by omega) (by omega)]
      intro he
      have := h.rank.inj _ _ (by omega) hi he
      omega
theorem offAt_nil {S : List (List UInt8)} {E : List Ent} (h : Laid S E) (hne : ∀ x ∈ S, x ≠ []) (m : Nat) (h2 : m ≤ S.length) : offAt E [] m = 0 := by
  have hn := h.len
  induction m with
  | zero => rfl
  | succ k ih =>
    unfold offAt
    have hnm : (nextE E k).name = nth S (S.length - 1 - k) := by
      unfold nextE
      rw [(st_name E k _).1, hn]
      exact h.name _
    rw [hnm, if_neg (hne _ (nth_mem' S _ (by omega))), ih (by omega)]
theorem laidEL (N : List (List UInt8)) : Laid (sortN N) (EL N) := by
  rw [EL_eq]
  exact (fins_of (laidN N) (fin0N N) (wholeN N)).toLaid
theorem noz_of_bad {x : List UInt8} (h : ¬ Bad x) : NoZ x := by
  unfold Bad at h
  have hl := Zero.z_le x
  have e : Zero.z x = x.length := by omega
  intro c hc h0
  subst h0
  have : ∀ l : List UInt8, (0 : UInt8) ∈ l → Zero.z l < l.length := by
    intro l
    induction l with
    | nil => intro h; simp at h
    | cons a l ih =>
      intro h
      by_cases ha : a = 0
      · subst ha; simp [Zero.z]
      · have e : Zero.z (a :: l) = Zero.z l + 1 := by simp [Zero.z, ha]
        rw [e]
        have := ih ((List.mem_cons.1 h).resolve_left (fun e => ha e.symm))
        simp; omega
  have := this x hc
  omega
/-- Each name is told where it stands first. -/
theorem offS_spec {N : List (List UInt8)} (hz : ∀ x ∈ N, NoZ x) (hs : (tabN N).length ≤ 1048576) (x : List UInt8) (hx : x ∈ N) :
    (x = [] → offS N x = 0) ∧ (x ≠ [] → ∃ p : Nat, offS N x = (p : Int) ∧ txt ((tabN N).drop p) = x ∧ p + x.length < (tabN N).length ∧ ∀ q, q < p → txt ((tabN N).drop q) ≠ x) := by
  have hel : (EL N).length = (sortN N).length := by rw [EL_len, EN_len]
  have hne : ∀ x ∈ sortN N, x ≠ [] := fun x h => ((sortN_mem N x).1 h).1
  have hzS : ∀ x ∈ sortN N, NoZ x := fun x h => hz x ((sortN_mem N x).1 h).2
  constructor
  · rintro rfl
    unfold offS
    exact offAt_nil (laidEL N) hne _ (by omega)
  · intro h0
    obtain ⟨i, hi, rfl⟩ := mem_nth' (sortN N) x ((sortN_mem N x).2 ⟨h0, hx⟩)
    obtain ⟨p, h1, h2, h3, h4, h5⟩ := told_at (laidN N) (fin0N N) (wholeN N) hzS hne i hi
    rw [← EL_eq] at h1 h2
    rw [← tabN_eq] at h3 h4 h5
    refine ⟨p, ?_, h3, h4, h5⟩
    unfold offS
    rw [offAt_told (laidEL N) i hi _ (by omega) (by omega)]
    unfold offOf
    rw [h2, h1, IntKind.wrap_u64]
    omega
end Go.Proofs.Ytddlflabdlgnbaa
