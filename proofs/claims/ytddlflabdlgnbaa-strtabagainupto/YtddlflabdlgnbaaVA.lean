/- Plain facts of the texts of a table: they make it up. Conditions: those written in each theorem. -/
import Derived.Test.YtddlflabdlgnbaaTC
import Derived.Test.YtddlflabdlgnbaaTB
namespace Go.Proofs.Ytddlflabdlgnbaa
open Go.RowKit
/-- The texts, each with its byte 0. -/
def cat (L : List (Nat × ByteArray)) : List UInt8 := (L.map fun x => x.2.data.toList ++ [0]).flatten
theorem cat_append (a b : List (Nat × ByteArray)) : cat (a ++ b) = cat a ++ cat b := by simp [cat]
theorem parts_len (t : ByteArray) : ∀ (n k : Nat), (parts t n k).length ≤ n
  | 0, _ => Nat.le_refl _
  | n + 1, k => by
    unfold parts
    split
    · have := parts_len t n (k + Zero.z (rest t k).data.toList + 1)
      rw [List.length_cons]; omega
    · simp
theorem z_found (l : List UInt8) (i : Nat) (h : i < l.length) (h0 : l.getD i 1 = 0) : Zero.z l ≤ i := by
  rcases Nat.lt_or_ge i (Zero.z l) with h' | h'
  · have := (Zero.z_spec l).1 i h'
    rw [List.getD_eq_getElem?_getD, List.getElem?_eq_getElem h] at h0 this
    exact absurd h0 this
  · exact h'
theorem rest_list (t : ByteArray) (k : Nat) : (rest t k).data.toList = t.data.toList.drop k := ext_list t k
theorem cat_parts (t : ByteArray) (hlast : t.data.toList.getD (t.size - 1) 1 = 0) : ∀ (n k : Nat), k ≤ t.size → t.size - k < n → cat (parts t n k) = t.data.toList.drop k
  | 0, k, _, h => by omega
  | n + 1, k, hk, hn => by
    have hlen : t.data.toList.length = t.size := by simp
    have hrs := rest_size t k
    have hrl := rest_list t k
    unfold parts
    rcases Nat.lt_or_ge k t.size with hlt | hge
    · have hz : Zero.z (rest t k).data.toList ≤ t.size - 1 - k := by
        refine z_found _ _ (by rw [hrl, List.length_drop, hlen]; omega) ?_
        rw [hrl, List.getD_eq_getElem?_getD, List.getElem?_drop, show k + (t.size - 1 - k) = t.size - 1 by omega, ← List.getD_eq_getElem?_getD]
        exact hlast
      have hzs := (Zero.z_spec (rest t k).data.toList).2 (by rw [hrl, List.length_drop, hlen, ← hrl]; omega)
      rw [if_pos (by rw [hrs]; omega)]
      have ih := cat_parts t hlast n (k + Zero.z (rest t k).data.toList + 1) (by omega) (by omega)
      generalize hZ : Zero.z (rest t k).data.toList = z at *
      show ((rest t k).extract 0 z).data.toList ++ [0] ++ cat _ = _
      rw [ih]
      have he : ((rest t k).extract 0 z).data.toList = (t.data.toList.drop k).take z := by
        rw [← hrl]; simp
      rw [he]
      rw [hrl, List.getD_eq_getElem?_getD] at hzs
      have hzl : z < (t.data.toList.drop k).length := by rw [List.length_drop, hlen]; omega
      rw [List.getElem?_eq_getElem hzl] at hzs
      have h0 : (t.data.toList.drop k)[z] = 0 := hzs
      have hd : (t.data.toList.drop k).drop z = 0 :: t.data.toList.drop (k + z + 1) := by
        rw [List.drop_eq_getElem_cons hzl, h0, List.drop_drop, Nat.add_assoc]
      calc (t.data.toList.drop k).take z ++ [0] ++ t.data.toList.drop (k + z + 1) = (t.data.toList.drop k).take z ++ (0 :: t.data.toList.drop (k + z + 1)) := by simp
        _ = (t.data.toList.drop k).take z ++ (t.data.toList.drop k).drop z := by rw [hd]
        _ = _ := List.take_append_drop _ _
    · rw [if_neg (by rw [hrs]; omega)]
      show [] = _
      rw [List.drop_of_length_le (by rw [hlen]; omega)]
theorem cat_all (t : ByteArray) (hlast : t.data.toList.getD (t.size - 1) 1 = 0) : cat (partsOf t) = t.data.toList := by
  unfold partsOf
  rw [cat_parts t hlast _ 0 (Nat.zero_le _) (by omega)]
  rfl
def catB (L : List (Nat × ByteArray)) : ByteArray := ⟨(cat L).toArray⟩
theorem catB_step (L : List (Nat × ByteArray)) (i : Nat) (h : i < L.length) : catB (L.take (i + 1)) = catB (L.take i) ++ (L[i].2 ++ ⟨#[0]⟩) := by
  have : L.take (i + 1) = L.take i ++ [L[i]] := by rw [List.take_add_one, List.getElem?_eq_getElem h]; rfl
  rw [this]
  unfold catB
  rw [cat_append]
  apply ByteArray.ext
  apply Array.ext'
  simp [cat]
theorem catB_all (t : ByteArray) (hlast : t.data.toList.getD (t.size - 1) 1 = 0) : catB (partsOf t) = t := by
  unfold catB
  rw [cat_all t hlast]
theorem cat_le (L : List (Nat × ByteArray)) (i : Nat) : (catB (L.take i)).size ≤ (catB L).size := by
  have h : cat L = cat (L.take i) ++ cat (L.drop i) := by rw [← cat_append, List.take_append_drop]
  unfold catB
  simp only [ByteArray.size, List.size_toArray]
  rw [h, List.length_append]
  omega
end Go.Proofs.Ytddlflabdlgnbaa
