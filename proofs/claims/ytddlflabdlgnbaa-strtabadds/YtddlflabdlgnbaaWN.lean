/- What strtab's Add answers of a table and a name that may be: the name is in it, all else as it was. Conditions: those written in each theorem. -/
import Derived.Test.YtddlflabdlgnbaaWM
namespace Go.Proofs.Ytddlflabdlgnbaa
open Go.RowKit Go.Sort Go.Maps Go.Shelf
theorem byte_zero (t : ByteArray) (i : Nat) (hi : i < t.size) (e : t.data.toList.getD i 1 = 0) : ((t[i].toNat : Int) == 0) = true := by
  have hi' : i < t.data.toList.length := by simpa using hi
  rw [List.getD_eq_getElem?_getD, List.getElem?_eq_getElem hi'] at e
  have e3 : t[i] = t.data.toList[i] := rfl
  have e4 : t.data.toList[i] = 0 := e
  rw [e3, e4]; rfl
theorem byte_zero' (t : ByteArray) (i : Nat) (hi : i < t.size) (e : ((t[i].toNat : Int) == 0) = true) : t.data.toList.getD i 1 = 0 := by
  have hi' : i < t.data.toList.length := by simpa using hi
  rw [List.getD_eq_getElem?_getD, List.getElem?_eq_getElem hi']
  show t[i] = 0
  have h2 : t[i].toNat = 0 := by simpa using e
  exact UInt8.toNat_inj.1 h2
theorem right_true (t : ByteArray) (hpos : 0 < t.size) (hm : t.size ≤ maxLen) (h0 : t.data.toList.getD 0 1 = 0) (h1 : t.data.toList.getD (t.size - 1) 1 = 0) : RightIs t true := fun w => by
  have h := right_some t w hpos hm
  rw [byte_zero t 0 hpos h0, byte_zero t _ (by omega) h1] at h
  exact h
theorem right_exists (t : ByteArray) (hm : t.size ≤ maxLen) : ∃ b, RightIs t b ∧ (b = true → t.size = 0 ∨ (0 < t.size ∧ t.data.toList.getD 0 1 = 0 ∧ t.data.toList.getD (t.size - 1) 1 = 0)) := by
  rcases Nat.eq_zero_or_pos t.size with h | h
  · obtain rfl : t = ⟨#[]⟩ := by
      apply ByteArray.ext
      exact Array.eq_empty_of_size_eq_zero h
    exact ⟨true, right_empty, fun _ => .inl h⟩
  · refine ⟨_, fun w => right_some t w h hm, fun hb => .inr ⟨h, ?_⟩⟩
    rw [Bool.and_eq_true] at hb
    exact ⟨byte_zero' t 0 h hb.1, byte_zero' t _ (by omega) hb.2⟩
theorem txt_app (L r : List UInt8) (q : Nat) (h : q + (txt (L.drop q)).length < L.length) : txt ((L ++ r).drop q) = txt (L.drop q) := by
  rw [List.drop_append_of_le_length (by omega)]
  have hlt : Zero.z (L.drop q) < (L.drop q).length := by rw [z_txt, List.length_drop]; omega
  generalize L.drop q = l at *
  induction l with
  | nil => simp at hlt
  | cons a l ih =>
    by_cases ha : a = 0
    · subst ha; simp [txt]
    · have e : Zero.z (a :: l) = Zero.z l + 1 := by simp [Zero.z, ha]
      rw [e, List.length_cons] at hlt
      have e2 : txt (a :: l) = a :: txt l := by simp [txt, ha]
      have e3 : txt (a :: l ++ r) = a :: txt (l ++ r) := by simp [txt, ha]
      rw [e2, e3, ih (by rw [e2] at h; simp only [List.length_cons] at h; omega) (by omega)]
/-- What the law asks of a table with a name added. -/
structure AddOk (T name t : ByteArray) (k : Nat) : Prop where
  nm : textAt t k = .tuple #[.string name, .bool true]
  right : RightIs t true
  size : T.size ≤ t.size ∧ t.size ≤ 300
  pre : t.extract 0 T.size = T
  old : ∀ q, (∃ y, textAt T q = .tuple #[.string y, .bool true]) → textAt t q = textAt T q
  found : ∀ i, seek T.data.toList name.data.toList T.size = some i → t = T ∧ k = i
theorem textAt_name (t name : ByteArray) (k : Nat) (h : AtName t.data.toList name.data.toList k) : textAt t k = .tuple #[.string name, .bool true] := by
  have hl : name.data.toList.length = name.size := by simp
  have ht : t.data.toList.length = t.size := by simp
  have h1 := h.1
  have e : ByteArray.mk name.data.toList.toArray = name := rfl
  rw [textAt_of t k name.data.toList h.2 (by omega), e]
theorem ext_pre (T r : ByteArray) : (T ++ r).extract 0 T.size = T := by
  apply ByteArray.ext
  apply Array.toList_inj.1
  have h : ((T ++ r).extract 0 T.size).data.toList = (T ++ r).data.toList.take T.size := by
    simp only [ByteArray.data_extract, Array.toList_extract, List.extract_eq_take_drop]
    rw [List.drop_zero, Nat.sub_zero]
  have h2 : (T ++ r).data.toList = T.data.toList ++ r.data.toList := by simp
  rw [h, h2, List.take_append_of_le_length (by simp), List.take_of_length_le (by simp)]
theorem old_app (T r : ByteArray) (q : Nat) (h : ∃ y, textAt T q = .tuple #[.string y, .bool true]) : textAt (T ++ r) q = textAt T q := by
  have hl : T.data.toList.length = T.size := by simp
  have h2 : (T ++ r).data.toList = T.data.toList ++ r.data.toList := by simp
  have h3 : (T ++ r).size = T.size + r.size := ByteArray.size_append
  by_cases hf : q + (txt (T.data.toList.drop q)).length < T.size
  · rw [textAt_yes T q hf]
    have h4 : txt ((T ++ r).data.toList.drop q) = txt (T.data.toList.drop q) := by rw [h2]; exact txt_app _ _ _ (by omega)
    rw [textAt_yes (T ++ r) q (by rw [h4]; omega), h4]
  · obtain ⟨y, hy⟩ := h
    rw [textAt_no T q hf] at hy
    cases hy
/-- A name laid behind bytes that end with a byte 0. -/
theorem laid_name (T1 name : ByteArray) (hz : NoZ name.data.toList) : textAt (T1 ++ name ++ ⟨#[0]⟩) T1.size = .tuple #[.string name, .bool true] := by
  refine textAt_name _ _ _ ⟨?_, ?_⟩
  · have : (T1 ++ name ++ ⟨#[0]⟩).data.toList = T1.data.toList ++ name.data.toList ++ [0] := by simp
    rw [this]; simp
  · have : (T1 ++ name ++ ⟨#[0]⟩).data.toList = T1.data.toList ++ (name.data.toList ++ [0]) := by simp
    have hl : T1.data.toList.length = T1.size := by simp
    rw [this, ← hl, List.drop_left]
    exact txt_cut _ _ hz
theorem laid_right (T1 name : ByteArray) (hpos : 0 < T1.size) (hs : T1.size ≤ 250) (hn : name.size ≤ 30) (h0 : T1.data.toList.getD 0 1 = 0) : RightIs (T1 ++ name ++ ⟨#[0]⟩) true := by
  have hl : T1.data.toList.length = T1.size := by simp
  have e : (T1 ++ name ++ ⟨#[0]⟩).data.toList = T1.data.toList ++ name.data.toList ++ [0] := by simp
  have hsz : (T1 ++ name ++ ⟨#[0]⟩).size = T1.size + name.size + 1 := by rw [ByteArray.size_append, ByteArray.size_append]; rfl
  refine right_true _ (by omega) (by unfold maxLen; omega) ?_ ?_
  · rw [e, List.append_assoc, List.getD_eq_getElem?_getD, List.getElem?_append_left (by omega), ← List.getD_eq_getElem?_getD]
    exact h0
  · rw [e, hsz, Nat.add_sub_cancel, List.getD_eq_getElem?_getD, List.getElem?_append_right (by simp)]
    simp
set_option maxRecDepth 100000 in
theorem add_good (T name : ByteArray) (hT : T.size ≤ 200) (hn : name.size ≤ 30) (hr : RightIs T true) (hrt : T.size = 0 ∨ (0 < T.size ∧ T.data.toList.getD 0 1 = 0 ∧ T.data.toList.getD (T.size - 1) 1 = 0)) (hz : ¬ Zero.z name.data.toList < name.size) :
    ∃ t k, AddOk T name t k ∧ ∀ w, Calls Try.prog 20 #[.string T, .string name] w fun e w' => e = .returned (.tuple #[.string t, .int .u64 (k : Nat), .int .i64 0]) ∧ Below w.heap.size w w' := by
  have hlT : T.data.toList.length = T.size := by simp
  have hln : name.data.toList.length = name.size := by simp
  have hnz : NoZ name.data.toList := noz_of_bad (by unfold Bad; rw [hln]; exact hz)
  have hfs := find_seek T name
  have htl : name.toList = name.data.toList := ByteArray.toList_eq name
  rw [htl] at hfs
  obtain ⟨s1, s2⟩ := seek_spec T.data.toList name.data.toList T.size (by omega)
  cases hs : seek T.data.toList name.data.toList T.size with
  | some i =>
    rw [hs] at hfs
    refine ⟨T, i, ⟨textAt_name _ _ _ (s1 i hs).1, hr, ⟨Nat.le_refl _, by omega⟩, ?_, fun q _ => rfl, fun j hj => ?_⟩, fun w => add_found T name (by unfold maxLen; omega) hr hz _ hfs w⟩
    · have := ext_pre T ⟨#[]⟩
      have e : T ++ ⟨#[]⟩ = T := by apply ByteArray.ext; simp
      rwa [e] at this
    · rw [hs] at hj; cases hj; exact ⟨rfl, rfl⟩
  | none =>
    rw [hs] at hfs
    rcases hrt with h0 | ⟨hpos, h0, h1⟩
    · obtain rfl : T = ⟨#[]⟩ := by
        apply ByteArray.ext
        exact Array.eq_empty_of_size_eq_zero h0
      rcases Nat.eq_zero_or_pos name.size with hn0 | hn0
      · obtain rfl : name = ⟨#[]⟩ := by
          apply ByteArray.ext
          exact Array.eq_empty_of_size_eq_zero hn0
        refine ⟨⟨#[0]⟩, 0, ⟨?_, ?_, ⟨by decide, by decide⟩, by decide, fun q hq => ?_, fun j hj => ?_⟩, fun w => add_empty hfs hr w⟩
        · exact textAt_name _ _ _ ⟨by decide, by decide⟩
        · exact right_true _ (by decide) (by decide) (by decide) (by decide)
        · obtain ⟨y, hy⟩ := hq
          rw [textAt_no ⟨#[]⟩ q (by show ¬ _ < 0; omega)] at hy
          cases hy
        · rw [hs] at hj; cases hj
      · have hne : (name.toList == []) = false := by
          rw [beq_eq_false_iff_ne, htl]
          intro e
          rw [e] at hln
          simp at hln
          omega
        have hln1 := laid_name ⟨#[0]⟩ name hnz
        have e1 : (ByteArray.mk #[0]).size = 1 := rfl
        rw [e1] at hln1
        have hadd := fun w => add_new0 name hr hz hfs hne (Nat.le_trans (Nat.add_le_add_right (Nat.add_le_add_left hn 1) 1) (by decide)) w
        generalize hTT : (ByteArray.mk #[0] ++ name ++ ⟨#[0]⟩) = TT at hln1 hadd
        refine ⟨TT, 1, ⟨hln1, by rw [← hTT]; exact laid_right ⟨#[0]⟩ name (by decide) (by decide) hn (by decide), ⟨Nat.zero_le _, ?_⟩, ?_, fun q hq => ?_, fun j hj => ?_⟩, hadd⟩
        · rw [← hTT, ByteArray.size_append, ByteArray.size_append]
          show 1 + name.size + 1 ≤ 300
          omega
        · clear hTT
          apply ByteArray.ext
          apply Array.toList_inj.1
          show (ByteArray.extract _ 0 0).data.toList = []
          simp
        · obtain ⟨y, hy⟩ := hq
          rw [textAt_no ⟨#[]⟩ q (by show ¬ _ < 0; omega)] at hy
          cases hy
        · rw [hs] at hj; cases hj
    · have hn0 : 0 < name.size := by
        rcases Nat.eq_zero_or_pos name.size with hn0 | hn0
        · exfalso
          have e : name.data.toList = [] := List.eq_nil_of_length_eq_zero (by omega)
          refine s2 hs 0 (by omega) (by omega) ⟨by rw [e, hlT]; simpa using hpos, ?_⟩
          rw [e, List.drop_zero]
          cases hL : T.data.toList with
          | nil => rfl
          | cons a l =>
            rw [hL] at h0
            have : a = 0 := h0
            subst this
            simp [txt]
        · exact hn0
      have hne : (name.toList == []) = false := by
        rw [beq_eq_false_iff_ne, htl]
        intro e
        rw [e] at hln
        simp at hln
        omega
      have hnt : (T.toList == []) = false := by
        rw [beq_eq_false_iff_ne, ByteArray.toList_eq]
        intro e
        rw [e] at hlT
        simp at hlT
        omega
      have e1 : T ++ name ++ ⟨#[0]⟩ = T ++ (name ++ ⟨#[0]⟩) := by apply ByteArray.ext; simp
      have hadd := fun w => add_new T name (Nat.le_trans hT (by decide)) hr hz hfs hnt hne (Nat.le_trans (Nat.add_le_add_right (Nat.add_le_add hT hn) 1) (by decide)) w
      have hln1 := laid_name T name hnz
      have hrr := laid_right T name hpos (by omega) hn h0
      have hsz : T.size ≤ (T ++ name ++ ⟨#[0]⟩).size ∧ (T ++ name ++ ⟨#[0]⟩).size ≤ 300 := by
        rw [ByteArray.size_append, ByteArray.size_append]
        show T.size ≤ T.size + name.size + 1 ∧ T.size + name.size + 1 ≤ 300
        omega
      have hpre : (T ++ name ++ ⟨#[0]⟩).extract 0 T.size = T := by rw [e1]; exact ext_pre _ _
      have hold : ∀ q, (∃ y, textAt T q = .tuple #[.string y, .bool true]) → textAt (T ++ name ++ ⟨#[0]⟩) q = textAt T q := fun q hq => by rw [e1]; exact old_app _ _ _ hq
      generalize T ++ name ++ ⟨#[0]⟩ = TT at *
      exact ⟨TT, T.size, ⟨hln1, hrr, hsz, hpre, hold, fun j hj => by rw [hs] at hj; cases hj⟩, hadd⟩
end Go.Proofs.Ytddlflabdlgnbaa
