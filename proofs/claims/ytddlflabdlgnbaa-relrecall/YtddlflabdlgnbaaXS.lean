/- Plain facts for RelrecAll: relocations one behind the other, read back; bytes taken apart and put together. Conditions: those written in each theorem. -/
import Derived.Test.YtddlflabdlgnbaaXR
namespace Go.Proofs.Ytddlflabdlgnbaa
open Go.RowKit
def PutR (big wide a : Bool) (r : Rl) (S : ByteArray) (ok : Bool) : Prop := PutIs big wide a r.off r.sym r.ty r.add S ok
theorem putR_size {big wide a : Bool} {r : Rl} {S : ByteArray} {ok : Bool} (h : PutR big wide a r S ok) : S.size ≤ 24 := by
  cases ok
  · have hS : S = ⟨#[]⟩ := by
      rcases h with ⟨_, h, _⟩ | ⟨_, _, _, h⟩
      · exact h
      · rcases h with ⟨_, h, _⟩ | ⟨_, _, _, h⟩ | ⟨_, _, h, _⟩
        · exact h
        · cases h
        · exact h
    subst hS
    exact Nat.zero_le _
  · have := (putIs_read h ⟨#[]⟩).1
    have := rLen_pos wide a
    omega
theorem catR_full {S : Nat → ByteArray} {z : Nat} : ∀ (m : Nat), (∀ i, i < m → (S i).size = z) → (catR S m).length = m * z
  | 0, _ => by simp [catR]
  | m + 1, h => by
    have e : (m + 1) * z = m * z + z := Nat.succ_mul _ _
    simp only [catR, List.length_append]
    rw [catR_full m (fun i hi => h i (by omega)), e]
    have := h m (by omega)
    simp
    omega
theorem catR_drop {S : Nat → ByteArray} {z : Nat} : ∀ (m : Nat), (∀ i, i < m → (S i).size = z) → ∀ i, i < m → ∃ rest, (catR S m).drop (i * z) = (S i).data.toList ++ rest
  | 0, _, i, hi => absurd hi (Nat.not_lt_zero _)
  | m + 1, h, i, hi => by
    have hl := catR_full (S := S) (z := z) m (fun i hi => h i (by omega))
    by_cases hm : i < m
    · obtain ⟨rest, hr⟩ := catR_drop m (fun i hi => h i (by omega)) i hm
      refine ⟨rest ++ (S m).data.toList, ?_⟩
      simp only [catR]
      rw [List.drop_append_of_le_length (by rw [hl]; exact Nat.mul_le_mul_right z (by omega)), hr, List.append_assoc]
    · obtain rfl : i = m := by omega
      refine ⟨[], ?_⟩
      simp only [catR]
      rw [← hl, List.drop_left, List.append_nil]
theorem allOk_at {ok : Nat → Bool} {m : Nat} (h : allOk ok m = true) (i : Nat) (hi : i < m) : ok i = true := by
  unfold allOk at h
  exact List.all_eq_true.1 h i (List.mem_range.2 hi)
/-- What PutAll made is read back. -/
theorem all_back {big wide a : Bool} {R : Nat → Rl} {S : Nat → ByteArray} {ok : Nat → Bool} {m : Nat} (h : ∀ i, i < m → PutR big wide a (R i) (S i) (ok i)) (hall : allOk ok m = true) :
    (ByteArray.mk (catR S m).toArray).size = m * rLen wide a ∧ ∀ i, i < m → recAt big wide a ⟨(catR S m).toArray⟩ i = R i := by
  have hp : ∀ i, i < m → PutIs big wide a (R i).off (R i).sym (R i).ty (R i).add (S i) true := fun i hi => by
    have := h i hi
    rw [allOk_at hall i hi] at this
    exact this
  have hz : ∀ i, i < m → (S i).size = rLen wide a := fun i hi => (putIs_read (hp i hi) ⟨#[]⟩).1
  have hl := catR_full m hz
  refine ⟨by simp only [ByteArray.size, List.size_toArray]; exact hl, fun i hi => ?_⟩
  obtain ⟨rest, hr⟩ := catR_drop m hz i hi
  obtain ⟨_, e1, e2, e3, e4⟩ := putIs_read (hp i hi) ⟨rest.toArray⟩
  have hx : ((ByteArray.mk (catR S m).toArray).extract (i * rLen wide a) (ByteArray.mk (catR S m).toArray).size).data.toList = (S i ++ ⟨rest.toArray⟩ : ByteArray).data.toList := by
    rw [ext_list']
    show (catR S m).drop _ = _
    rw [hr]
    simp
  unfold recAt
  rw [hx]
  generalize (S i ++ ⟨rest.toArray⟩ : ByteArray).data.toList = L at *
  show Rl.mk _ _ _ _ = R i
  rw [e1, e2, e3, e4]
def pieceAt (s : ByteArray) (z i : Nat) : ByteArray := (s.extract (i * z) s.size).extract 0 z
theorem piece_list (s : ByteArray) (z i : Nat) : (pieceAt s z i).data.toList = (s.data.toList.drop (i * z)).take z := by
  unfold pieceAt
  have h : ∀ (t : ByteArray) (k : Nat), (t.extract 0 k).data.toList = t.data.toList.take k := by
    intro t k
    simp only [ByteArray.data_extract, Array.toList_extract, List.extract_eq_take_drop]
    rw [List.drop_zero, Nat.sub_zero]
  rw [h, ext_list']
theorem pieces_cat (s : ByteArray) (z : Nat) : ∀ k, catR (pieceAt s z) k = s.data.toList.take (k * z)
  | 0 => by simp [catR]
  | k + 1 => by
    simp only [catR]
    rw [pieces_cat s z k, piece_list, Nat.succ_mul, List.take_add]
theorem pieces_all (s : ByteArray) (z : Nat) (h : s.size % z = 0) : ByteArray.mk (catR (pieceAt s z) (s.size / z)).toArray = s := by
  apply ByteArray.ext
  rw [pieces_cat]
  have e : s.size / z * z = s.size := Nat.div_mul_cancel (Nat.dvd_of_mod_eq_zero h)
  rw [e]
  have : s.data.toList.take s.size = s.data.toList := List.take_of_length_le (by simp)
  rw [this]
theorem piece_put (big wide a : Bool) (s : ByteArray) (i : Nat) (hi : i < s.size / rLen wide a) : PutR big wide a (recAt big wide a s i) (pieceAt s (rLen wide a) i) true ∧ (recAt big wide a s i).off < 2 ^ 64 ∧ (recAt big wide a s i).add < 2 ^ 64 := by
  have hz := (rLen_pos wide a).1
  have h1 : (i + 1) * rLen wide a ≤ s.size := Nat.le_trans (Nat.mul_le_mul_right _ hi) (Nat.div_mul_le_self _ _)
  rw [Nat.succ_mul] at h1
  exact ⟨putIs_back big wide a (s.extract (i * rLen wide a) s.size) (by simp; omega), rOff_64 _ _ _ _, rAdd_64 _ _ _ _⟩
theorem allOk_true (m : Nat) : allOk (fun _ => true) m = true := by unfold allOk; rw [List.all_eq_true]; intro _ _; rfl
/-- Bytes as relocations, put again. -/
theorem putAll_back (big wide a : Bool) (s : ByteArray) (hs : s.size ≤ 100) (h : s.size % rLen wide a = 0) (A : Option Addr) (cap n : Nat) (hn : n = s.size / rLen wide a) (w : World) (hR : RowR w A n (recAt big wide a s)) :
    Calls Try.prog 29 #[.agg #[.bool big, .bool wide], .bool a, .slice A n cap] w fun e w' => e = .returned (.tuple #[.string s, .bool true]) ∧ Below w.heap.size w w' := by
  have hz := (rLen_pos wide a).1
  have hn2 : n ≤ 20 := by
    rw [hn]
    have := Nat.div_le_div_left hz (show 0 < 8 by decide) (a := s.size)
    omega
  refine (putAll_any big wide a A cap n (recAt big wide a s) (pieceAt s (rLen wide a)) (fun _ => true) hn2 (fun i hi => putR_size (piece_put big wide a s i (hn ▸ hi)).1) (fun i hi u => ?_) w hR).mono ?_
  · obtain ⟨h1, h2⟩ := piece_put big wide a s i (hn ▸ hi)
    exact rput_is h1 h2 u
  · rintro e w' ⟨rfl, hb⟩
    refine ⟨?_, hb⟩
    unfold putV
    rw [allOk_true, hn, pieces_all s _ h]
    rfl
theorem cat_bytes (S : Nat → ByteArray) (k : Nat) : (ByteArray.mk (catR S k).toArray) ++ S k = ByteArray.mk (catR S (k + 1)).toArray := by
  apply ByteArray.ext
  apply Array.toList_inj.1
  simp [catR]
end Go.Proofs.Ytddlflabdlgnbaa
