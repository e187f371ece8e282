/- Plain facts on records: what is put is read again, and what is read is put again. Conditions: those written in each theorem. -/
import Derived.Test.YtnmklmaclmjfbaaRC
namespace Go.Proofs.Ytnmklmaclmjfbaa
open Go.RowKit
namespace Num
theorem getN_lt (big : Bool) (t : List UInt8) (h8 : t.length ≤ 8) : getN big t < 256 ^ t.length := by
  unfold getN
  rw [if_pos h8]
  cases big
  · have := horner_lt t.reverse
    simpa using this
  · exact horner_lt t
theorem putL_getN (big : Bool) (t : List UInt8) (h1 : 1 ≤ t.length) (h8 : t.length ≤ 8) : putL big (getN big t) (t.length : Int) = t := by
  unfold putL getN
  rw [if_pos (by omega), if_pos h8, Int.toNat_natCast]
  cases big
  · have := leB_horner t.reverse
    rw [List.length_reverse, List.reverse_reverse] at this
    simpa using this
  · have := leB_horner t
    simp [this]
end Num
theorem offN_succ (F : List Int) (k : Nat) : offN F (k + 1) = offN F k + (F.getD k 0).toNat := rfl
theorem fieldsL_len (big : Bool) (F : List Int) (ns : List Nat) (l : Nat) (hF : ∀ k, k < l → 1 ≤ F.getD k 0 ∧ F.getD k 0 ≤ 8) (k : Nat) (hk : k ≤ l) : (fieldsL big F ns k).length = offN F k := by
  induction k with
  | zero => rfl
  | succ k ih =>
    obtain ⟨h1, h8⟩ := hF k (by omega)
    have := putL_len big (ns.getD k 0) _ h1 h8
    unfold fieldsL
    rw [List.length_append, ih (by omega), offN_succ]
    omega
theorem fieldsL_pre (big : Bool) (F : List Int) (ns : List Nat) (j l : Nat) (h : j ≤ l) : ∃ t, fieldsL big F ns l = fieldsL big F ns j ++ t := by
  induction l with
  | zero => obtain rfl : j = 0 := by omega
            exact ⟨[], by simp⟩
  | succ l ih =>
    by_cases he : j = l + 1
    · subst he; exact ⟨[], by simp⟩
    · obtain ⟨t, ht⟩ := ih (by omega)
      exact ⟨t ++ Num.putL big (ns.getD l 0) (F.getD l 0), by rw [fieldsL, ht, List.append_assoc]⟩
/-- The k-th number is read again. -/
theorem numAt_fields (big : Bool) (F : List Int) (ns : List Nat) (l : Nat) (hF : ∀ k, k < l → 1 ≤ F.getD k 0 ∧ F.getD k 0 ≤ 8) (r : List UInt8) (k : Nat) (hk : k < l) (hn : ns.getD k 0 < 256 ^ (F.getD k 0).toNat) :
    numAt big F (fieldsL big F ns l ++ r) k = ns.getD k 0 := by
  obtain ⟨t, ht⟩ := fieldsL_pre big F ns (k + 1) l hk
  obtain ⟨h1, h8⟩ := hF k hk
  have hlen := fieldsL_len big F ns l hF k (by omega)
  have hp := putL_len big (ns.getD k 0) _ h1 h8
  unfold numAt
  rw [ht, fieldsL, List.append_assoc, List.append_assoc, ← hlen, List.drop_left]
  obtain ⟨m, hm⟩ := Int.eq_ofNat_of_zero_le (show 0 ≤ F.getD k 0 by omega)
  rw [hm] at hp hn ⊢
  rw [Int.toNat_natCast] at hn ⊢
  have hp' : (Num.putL big (ns.getD k 0) (m : Int)).length = m := by omega
  rw [List.take_append_of_le_length (by omega), List.take_of_length_le (by omega), Num.getN_putL big _ m (by omega) (by omega), Nat.mod_eq_of_lt hn]
theorem numAt_lt (big : Bool) (F : List Int) (s : List UInt8) (k : Nat) (h8 : F.getD k 0 ≤ 8) : numAt big F s k < 256 ^ (F.getD k 0).toNat := by
  unfold numAt
  have hl : (List.take (F.getD k 0).toNat (List.drop (offN F k) s)).length ≤ (F.getD k 0).toNat := List.length_take_le _ _
  have h := Num.getN_lt big (List.take (F.getD k 0).toNat (List.drop (offN F k) s)) (by omega)
  exact Nat.lt_of_lt_of_le h (Nat.pow_le_pow_right (by decide) hl)
theorem numAt_64 (big : Bool) (F : List Int) (s : List UInt8) (k : Nat) (h8 : F.getD k 0 ≤ 8) : numAt big F s k < 2 ^ 64 := by
  have h := numAt_lt big F s k h8
  have : 256 ^ (F.getD k 0).toNat ≤ 256 ^ 8 := Nat.pow_le_pow_right (by decide) (by omega)
  have e : (256 : Nat) ^ 8 = 2 ^ 64 := by decide
  omega
/-- The numbers that are read are these bytes again. -/
theorem fields_numAt (big : Bool) (F : List Int) (s : List UInt8) (ns : List Nat) (l : Nat) (hF : ∀ k, k < l → 1 ≤ F.getD k 0 ∧ F.getD k 0 ≤ 8) (hs : offN F l ≤ s.length) (hns : ∀ k, k < l → ns.getD k 0 = numAt big F s k) (k : Nat) (hk : k ≤ l) :
    fieldsL big F ns k = s.take (offN F k) := by
  induction k with
  | zero => simp [fieldsL, offN]
  | succ k ih =>
    obtain ⟨h1, h8⟩ := hF k (by omega)
    have hm := offN_mono F (k + 1) l hk
    rw [offN_succ] at hm
    rw [fieldsL, ih (by omega), hns k (by omega), offN_succ]
    obtain ⟨m, hm'⟩ := Int.eq_ofNat_of_zero_le (show 0 ≤ F.getD k 0 by omega)
    unfold numAt
    rw [hm'] at h1 h8 hm ⊢
    rw [Int.toNat_natCast] at hm ⊢
    have hl : (List.take m (List.drop (offN F k) s)).length = m := by simp; omega
    have := Num.putL_getN big (List.take m (List.drop (offN F k) s)) (by omega) (by omega)
    rw [hl] at this
    rw [this, ← List.take_add]
theorem full_ok {wide : Bool} {zs : List Int} {l : Nat} (h : sizesOk wide zs l) : ∀ k, k < l → 1 ≤ (fullL wide zs l).getD k 0 ∧ (fullL wide zs l).getD k 0 ≤ 8 := fun k hk => by
  rw [fullL_getD wide zs l k hk]
  exact h k hk
/-- A record that may be, and bytes behind it: its length, and its numbers. -/
theorem recIs_read {big wide : Bool} {zs : List Int} {ns : List Nat} {l : Nat} {S : ByteArray} (h : RecIs big wide zs ns l l S true) (hz : sizesOk wide zs l) (M : ByteArray) :
    S.size = offN (fullL wide zs l) l ∧ ∀ k, k < l → numAt big (fullL wide zs l) (S ++ M).data.toList k = ns.getD k 0 := by
  rcases h with ⟨_, _, h⟩ | ⟨_, h, rfl, _⟩ | ⟨_, _, _, h⟩
  · cases h
  · constructor
    · rw [← fieldsL_len big (fullL wide zs l) ns l (full_ok hz) l (Nat.le_refl _)]
      simp [ByteArray.size]
    · intro k hk
      have e : (ByteArray.mk (fieldsL big (fullL wide zs l) ns l).toArray ++ M).data.toList = fieldsL big (fullL wide zs l) ns l ++ M.data.toList := by simp
      rw [e]
      refine numAt_fields big _ ns l (full_ok hz) _ k hk ?_
      rw [fullL_getD wide zs l k hk]
      exact (h k hk).2.2
  · cases h
theorem recIs_no {big wide : Bool} {zs : List Int} {ns : List Nat} {l : Nat} {S : ByteArray} (h : RecIs big wide zs ns l l S false) : S = ⟨#[]⟩ := by
  rcases h with ⟨_, h, _⟩ | ⟨_, _, _, h⟩ | ⟨_, _, h, _⟩
  · exact h
  · cases h
  · exact h
/-- The numbers that are read make a record that may be: the bytes that they were read from. -/
theorem recIs_back {big wide : Bool} {zs : List Int} {ns : List Nat} {l : Nat} (s : ByteArray) (hz : sizesOk wide zs l) (hs : offN (fullL wide zs l) l ≤ s.size) (hns : ∀ k, k < l → ns.getD k 0 = numAt big (fullL wide zs l) s.data.toList k) :
    RecIs big wide zs ns l l (s.extract 0 (offN (fullL wide zs l) l)) true := by
  have hF := full_ok hz
  right; left
  refine ⟨rfl, ?_, ?_, rfl⟩
  · intro k hk
    obtain ⟨h1, h8⟩ := hz k hk
    refine ⟨by omega, h8, ?_⟩
    rw [hns k hk, ← fullL_getD wide zs l k hk]
    exact numAt_lt big _ _ k (hF k hk).2
  · rw [fields_numAt big _ s.data.toList ns l hF (by simpa using hs) hns l (Nat.le_refl _)]
    apply ByteArray.ext
    apply Array.toList_inj.1
    simp
end Go.Proofs.Ytnmklmaclmjfbaa
