/- Plain facts for StrtabAdds: Find's place is the least one at which the name is the text; texts of a table with bytes behind it. No Go here. -/
import Derived.Test.YtddlflabdlgnbaaWF
import Derived.Test.YtddlflabdlgnbaaVA
import Derived.Test.YtddlflabdlgnbaaTF
namespace Go.Proofs.Ytddlflabdlgnbaa
open Go.RowKit Go.Sort Go.Maps Go.Shelf
/-- The text at a place is x, a byte 0 behind it. -/
def AtName (L x : List UInt8) (i : Nat) : Prop := i + x.length < L.length ∧ txt (L.drop i) = x
instance (L x : List UInt8) (i : Nat) : Decidable (AtName L x i) := by unfold AtName; infer_instance
theorem textAt_yes (t : ByteArray) (i : Nat) (h : i + (txt (t.data.toList.drop i)).length < t.size) : textAt t i = .tuple #[.string ⟨(txt (t.data.toList.drop i)).toArray⟩, .bool true] := textAt_of t i _ rfl h
theorem textAt_no (t : ByteArray) (i : Nat) (h : ¬ i + (txt (t.data.toList.drop i)).length < t.size) : textAt t i = .tuple #[.string ⟨#[]⟩, .bool false] := by
  unfold textAt
  rw [if_neg]
  rw [ext_data, ext_size, z_txt]
  omega
/-- The least place of the last j ones at which the text is x. -/
def seek (L x : List UInt8) : Nat → Option Nat
  | 0 => none
  | j + 1 => if AtName L x (L.length - 1 - j) then some (L.length - 1 - j) else seek L x j
theorem seek_spec (L x : List UInt8) (j : Nat) (hj : j ≤ L.length) : (∀ i, seek L x j = some i → AtName L x i ∧ L.length - j ≤ i ∧ ∀ q, L.length - j ≤ q → q < i → ¬ AtName L x q) ∧ (seek L x j = none → ∀ q, L.length - j ≤ q → q < L.length → ¬ AtName L x q) := by
  induction j with
  | zero => exact ⟨fun i h => (by cases h), fun _ q h1 h2 => by omega⟩
  | succ j ih =>
    obtain ⟨ih1, ih2⟩ := ih (by omega)
    unfold seek
    by_cases h : AtName L x (L.length - 1 - j)
    · rw [if_pos h]
      refine ⟨fun i hi => ?_, fun hn => (by cases hn)⟩
      cases hi
      exact ⟨h, by omega, fun q h1 h2 => by omega⟩
    · rw [if_neg h]
      refine ⟨fun i hi => ?_, fun hn q h1 h2 => ?_⟩
      · obtain ⟨a, b, c⟩ := ih1 i hi
        refine ⟨a, by omega, fun q h1 h2 => ?_⟩
        by_cases e : q = L.length - 1 - j
        · rw [e]; exact h
        · exact c q (by omega) h2
      · by_cases e : q = L.length - 1 - j
        · rw [e]; exact h
        · exact ih2 hn q (by omega) h2
theorem ends_is (y x : ByteArray) : ends y x = decide (x.toList <:+ y.toList) := by
  unfold ends
  rw [ext_drop, Bool.eq_iff_iff, Bool.and_eq_true, decide_eq_true_iff, decide_eq_true_iff, beq_iff_eq]
  have hx := toList_len x
  have hy := toList_len y
  constructor
  · rintro ⟨h1, h2⟩
    rw [← h2]; exact List.drop_suffix _ _
  · intro h
    have hl := h.length_le
    refine ⟨by omega, ?_⟩
    rw [← hx, ← hy]
    exact (List.suffix_iff_eq_drop.1 h).symm
/-- Within a text each place has the rest of it. -/
theorem txt_in (L : List UInt8) (k q : Nat) (hk : k + (txt (L.drop k)).length < L.length) (h1 : k ≤ q) (h2 : q ≤ k + (txt (L.drop k)).length) : txt (L.drop q) = (txt (L.drop k)).drop (q - k) ∧ q + (txt (L.drop q)).length < L.length := by
  have hz : Zero.z (L.drop k) = (txt (L.drop k)).length := rfl
  have hs := (Zero.z_spec (L.drop k)).2 (by rw [hz, List.length_drop]; omega)
  have ht : (L.drop k).take (txt (L.drop k)).length = txt (L.drop k) := Zero.take_z (L.drop k)
  have hnz := txt_noz'' (L.drop k)
  generalize hy : txt (L.drop k) = y at *
  have hd : L.drop k = y ++ 0 :: (L.drop k).drop (y.length + 1) := by
    have h3 : y.length < (L.drop k).length := by rw [List.length_drop]; omega
    rw [hz, List.getD_eq_getElem?_getD, List.getElem?_eq_getElem h3] at hs
    have h4 : (L.drop k)[y.length] = 0 := hs
    calc L.drop k = (L.drop k).take y.length ++ (L.drop k).drop y.length := (List.take_append_drop _ _).symm
      _ = y ++ (L.drop k).drop y.length := by rw [ht]
      _ = y ++ 0 :: (L.drop k).drop (y.length + 1) := by rw [List.drop_eq_getElem_cons h3, h4]
  have e : L.drop q = y.drop (q - k) ++ 0 :: (L.drop k).drop (y.length + 1) := by
    have h5 : L.drop q = (L.drop k).drop (q - k) := by rw [List.drop_drop]; congr 1; omega
    rw [h5]
    conv => lhs; rw [hd]
    rw [List.drop_append_of_le_length (by omega)]
  have hzz : NoZ (y.drop (q - k)) := noz_suf (List.drop_suffix _ _) hnz
  have hr : txt (L.drop q) = y.drop (q - k) := by rw [e]; exact txt_cut _ _ hzz
  rw [hr, List.length_drop]
  exact ⟨rfl, by omega⟩
where
  txt_noz'' (l : List UInt8) : NoZ (txt l) := fun c hc h0 => by
    have := List.all_takeWhile (l := l) (p := fun c => c != 0)
    have h2 := List.all_eq_true.1 this c hc
    rw [h0] at h2
    exact absurd h2 (by decide)
/-- The first text that ends with a name, and the least place at which the name is the text. -/
theorem parts_seek (t name : ByteArray) : ∀ (n k : Nat), k ≤ t.size → t.size - k < n →
    (∀ x, (parts t n k).find? (fun x => ends x.2 name) = some x → ∃ p, p = x.1 + x.2.size - name.size ∧ AtName t.data.toList name.toList p ∧ k ≤ p ∧ ∀ q, k ≤ q → q < p → ¬ AtName t.data.toList name.toList q) ∧
    ((parts t n k).find? (fun x => ends x.2 name) = none → ∀ q, k ≤ q → ¬ AtName t.data.toList name.toList q)
  | 0, k, _, h => by omega
  | n + 1, k, hk, hn => by
    have hlen : t.data.toList.length = t.size := by simp
    have hrs := rest_size t k
    have hrl := rest_list t k
    have hzt : Zero.z (rest t k).data.toList = (txt (t.data.toList.drop k)).length := by rw [hrl]; rfl
    have hey : ((rest t k).extract 0 (Zero.z (rest t k).data.toList)).toList = txt (t.data.toList.drop k) := by
      have := ext_txt t k
      show ((t.extract k t.size).extract 0 (Zero.z (t.extract k t.size).data.toList)).toList = _
      rw [this, ba_list]
    unfold parts
    by_cases h : Zero.z (rest t k).data.toList < (rest t k).size
    · rw [if_pos h]
      rw [hzt, hrs] at h
      have hfull : k + (txt (t.data.toList.drop k)).length < t.data.toList.length := by omega
      have hin := fun q => txt_in t.data.toList k q hfull
      have ih := parts_seek t name n (k + (txt (t.data.toList.drop k)).length + 1) (by omega) (by omega)
      rw [List.find?_cons]
      have hes := ends_is ((rest t k).extract 0 (Zero.z (rest t k).data.toList)) name
      rw [hey] at hes
      have hnl := toList_len name
      have hyl := toList_len ((rest t k).extract 0 (Zero.z (rest t k).data.toList))
      rw [hey] at hyl
      have hzt2 := hzt
      rw [hzt2]
      rw [hzt2] at hes hyl
      simp only [hes]
      generalize hy : txt (t.data.toList.drop k) = y at *
      by_cases he : name.toList <:+ y
      · have hle := he.length_le
        rw [decide_eq_true he]
        refine ⟨fun x hx => ?_, fun hx => (by cases hx)⟩
        cases hx
        refine ⟨k + y.length - name.size, by show _ = k + _ - _; rw [← hyl], ⟨?_, ?_⟩, by omega, fun q h1 h2 h3 => ?_⟩
        · rw [hnl]; omega
        · rw [(hin _ (by omega) (by omega)).1]
          have := List.suffix_iff_eq_drop.1 he
          rw [this]
          congr 1
          omega
        · have h4 := (hin q h1 (by omega)).1
          rw [h3.2] at h4
          have := congrArg List.length h4
          rw [List.length_drop] at this
          omega
      · rw [decide_eq_false he]
        have hno : ∀ q, k ≤ q → q < k + y.length + 1 → ¬ AtName t.data.toList name.toList q := fun q h1 h2 h3 => by
          have h4 := (hin q h1 (by omega)).1
          rw [h3.2] at h4
          exact he (by rw [h4]; exact List.drop_suffix _ _)
        refine ⟨fun x hx => ?_, fun hx q h1 => ?_⟩
        · obtain ⟨p, e, a, b, c⟩ := ih.1 x hx
          refine ⟨p, e, a, by omega, fun q h1 h2 => ?_⟩
          by_cases h5 : q < k + y.length + 1
          · exact hno q h1 h5
          · exact c q (by omega) h2
        · by_cases h5 : q < k + y.length + 1
          · exact hno q h1 h5
          · exact ih.2 hx q (by omega)
    · rw [if_neg h]
      rw [hzt, hrs] at h
      have hno : ∀ q, k ≤ q → ¬ AtName t.data.toList name.toList q := fun q h1 h3 => by
        have h4 := h3.1
        have h5 := h3.2
        rw [← h5] at h4
        have hz2 := (Zero.z_spec (t.data.toList.drop q)).2 (by rw [List.length_drop]; show (txt _).length < _; omega)
        have hf := z_found (t.data.toList.drop k) (q - k + (txt (t.data.toList.drop q)).length) (by rw [List.length_drop]; omega) (by
          rw [List.getD_eq_getElem?_getD, List.getElem?_drop] at hz2 ⊢
          rw [show k + (q - k + (txt (t.data.toList.drop q)).length) = q + Zero.z (t.data.toList.drop q) by rw [z_txt]; omega]
          exact hz2)
        rw [z_txt] at hf
        omega
      exact ⟨fun x hx => (by cases hx), fun _ q h1 => hno q h1⟩
/-- Find's answer. -/
theorem find_seek (t name : ByteArray) : findOf t name = match seek t.data.toList name.toList t.size with
    | some i => .tuple #[.int .u64 (i : Nat), .bool true]
    | none => .tuple #[.int .u64 0, .bool false] := by
  have hlen : t.data.toList.length = t.size := by simp
  obtain ⟨h1, h2⟩ := parts_seek t name (t.size + 1) 0 (Nat.zero_le _) (by omega)
  obtain ⟨s1, s2⟩ := seek_spec t.data.toList name.toList t.size (by omega)
  unfold findOf partsOf
  cases hf : (parts t (t.size + 1) 0).find? (fun x => ends x.2 name) with
  | none =>
    have h3 := h2 hf
    cases hs : seek t.data.toList name.toList t.size with
    | none => rfl
    | some i => exact absurd (s1 i hs).1 (h3 i (Nat.zero_le _))
  | some x =>
    obtain ⟨p, e, a, b, c⟩ := h1 x hf
    cases hs : seek t.data.toList name.toList t.size with
    | none => exact absurd a (s2 hs p (by omega) (by have := a.1; omega))
    | some i =>
      obtain ⟨a2, b2, c2⟩ := s1 i hs
      have : p = i := by
        rcases Nat.lt_trichotomy p i with h | h | h
        · exact absurd a (c2 p (by omega) h)
        · exact h
        · exact absurd a2 (c i (Nat.zero_le _) h)
      subst this
      show Value.tuple #[.int .u64 ((x.1 + x.2.size - name.size : Nat) : Int), .bool true] = _
      rw [← e]
end Go.Proofs.Ytddlflabdlgnbaa
