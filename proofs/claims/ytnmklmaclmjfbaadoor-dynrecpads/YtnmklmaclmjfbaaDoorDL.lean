/- Plain facts for DynrecPads: a note whose zeros are other bytes. Conditions: those written in each theorem. -/
import Derived.Test.YtnmklmaclmjfbaaDoorDK
namespace Go.Proofs.YtnmklmaclmjfbaaDoor
open Go.RowKit
theorem isZ_list {s : ByteArray} {l : List UInt8} (h : s.data.toList = l) : isZ s = l.all (· == 0) := by unfold isZ; rw [h]
/-- A note's bytes with other bytes in the place of zeros. -/
theorem step_pad {big : Bool} {x : Nt} (hx : smallN x) {s : ByteArray} {p : Nat} {Z1 Z2 rest : List UInt8} (l1 : Z1.length = pad4 x.name.size) (l2 : Z2.length = pad4 x.desc.size)
    (h0 : s.data.toList.drop p = Num.putL big x.name.size 4 ++ (Num.putL big x.desc.size 4 ++ (Num.putL big x.ty 4 ++ (x.name.data.toList ++ (Z1 ++ (x.desc.data.toList ++ (Z2 ++ rest))))))) :
    stepN big s p = ⟨x, Z1.all (· == 0) && Z2.all (· == 0), p + sizN x, false⟩ := by
  obtain ⟨hx1, hx2, hx3⟩ := hx
  have hlen : p + sizN x ≤ s.size := by
    have h1 := congrArg List.length h0
    simp only [List.length_drop, List.length_append, putL4, ba_len, l1, l2] at h1
    unfold sizN
    omega
  have h1 := dropN h0 (putL4 _ _)
  have h2 := dropN h1 (putL4 _ _)
  have h3 := dropN h2 (putL4 _ _)
  have h4 := dropN h3 (ba_len _)
  have h5 := dropN h4 l1
  have h6 := dropN h5 (ba_len _)
  have n0 : numR big s p = x.name.size := by unfold numR; rw [takeN h0 (putL4 _ _), getN4 _ _ hx2]
  have n1 : numR big s (p + 4) = x.desc.size := by unfold numR; rw [takeN h1 (putL4 _ _), getN4 _ _ hx3]
  have n2 : numR big s (p + 4 + 4) = x.ty := by unfold numR; rw [takeN h2 (putL4 _ _), getN4 _ _ hx1]
  have hneed : needN big s p = sizN x := by unfold needN sizN; rw [n0, n1]
  have t3 := takeN h3 (ba_len _)
  have t4 := takeN h4 l1
  have t5 := takeN h5 (ba_len _)
  have t6 := takeN h6 l2
  have hp8 : p + 8 = p + 4 + 4 := by omega
  have hp12 : p + 12 = p + 4 + 4 + 4 := by omega
  have hpe : p + sizN x = p + 4 + 4 + 4 + x.name.size + pad4 x.name.size + x.desc.size + pad4 x.desc.size := by unfold sizN; omega
  rw [stepN_yes big s p (by rw [hneed]; exact hlen), hneed, n0, n1, hp8, n2, hp12, hpe]
  have f3 : s.extract (p + 4 + 4 + 4) (p + 4 + 4 + 4 + x.name.size) = x.name := ext_is t3 rfl
  have f5 : s.extract (p + 4 + 4 + 4 + x.name.size + pad4 x.name.size) (p + 4 + 4 + 4 + x.name.size + pad4 x.name.size + x.desc.size) = x.desc := ext_is t5 rfl
  have f4 : isZ (s.extract (p + 4 + 4 + 4 + x.name.size) (p + 4 + 4 + 4 + x.name.size + pad4 x.name.size)) = Z1.all (· == 0) := isZ_list (by rw [ext_l, Nat.add_sub_cancel_left, t4])
  have f6 : isZ (s.extract (p + 4 + 4 + 4 + x.name.size + pad4 x.name.size + x.desc.size) (p + 4 + 4 + 4 + x.name.size + pad4 x.name.size + x.desc.size + pad4 x.desc.size)) = Z2.all (· == 0) := isZ_list (by rw [ext_l, Nat.add_sub_cancel_left, t6])
  rw [f3, f4, f5, f6]
theorem all_set (n q : Nat) (c : UInt8) (h : q < n) : ((zeroL n).set q c).all (· == 0) = (c == 0) := by
  cases hc : c == 0
  · rw [List.all_eq_false]
    exact ⟨c, List.mem_set (by rw [zeroL_length]; exact h) c, by simp [hc]⟩
  · rw [List.all_eq_true]
    intro x hx
    rcases List.mem_or_eq_of_mem_set hx with h1 | h1
    · have := List.eq_of_mem_replicate h1
      rw [this]; rfl
    · rw [h1]; exact hc
/-- The note of a name alone, with a byte c among its zeros. -/
def padL (big : Bool) (nm : ByteArray) (q : Nat) (c : UInt8) : List UInt8 := (encN big ⟨0, nm, ⟨#[]⟩⟩).set (12 + nm.size + q) c
theorem padL_is (big : Bool) (nm : ByteArray) (q : Nat) (c : UInt8) :
    padL big nm q c = Num.putL big nm.size 4 ++ (Num.putL big 0 4 ++ (Num.putL big 0 4 ++ (nm.data.toList ++ ((zeroL (pad4 nm.size)).set q c ++ [])))) := by
  unfold padL
  have e : encN big ⟨0, nm, ⟨#[]⟩⟩ = (Num.putL big nm.size 4 ++ (Num.putL big 0 4 ++ (Num.putL big 0 4 ++ nm.data.toList))) ++ zeroL (pad4 nm.size) := by
    unfold encN
    have h0 : pad4 (⟨#[]⟩ : ByteArray).size = 0 := rfl
    have h1 : (⟨#[]⟩ : ByteArray).size = 0 := rfl
    dsimp only
    rw [h0, h1]
    simp [zeroL]
  have hl : (Num.putL big nm.size 4 ++ (Num.putL big 0 4 ++ (Num.putL big 0 4 ++ nm.data.toList))).length = 12 + nm.size := by
    simp only [List.length_append, putL4, ba_len]; omega
  rw [e, List.set_append_right _ _ (by omega), hl, Nat.add_sub_cancel_left]
  simp only [List.append_assoc, List.append_nil]
theorem notes_pad {big : Bool} {nm s : ByteArray} {q : Nat} {c : UInt8} (hn : nm.size < 4294967296) (hq : q < pad4 nm.size) (hs : s.data.toList = padL big nm q c) {w w' : World} {e : Ending} (h : NotesPost big s w e w') :
    Below w.heap.size w w' ∧ ((c = 0 ∧ ∃ v, e = .returned (.tuple #[v, .int .i64 0])) ∨ (c ≠ 0 ∧ ∃ v, e = .returned (.tuple #[v, .int .i64 6]))) := by
  obtain ⟨hb, k, p, l, z, hr, hc⟩ := h
  refine ⟨hb, ?_⟩
  have hx : smallN ⟨0, nm, ⟨#[]⟩⟩ := ⟨by dsimp only; omega, hn, by show (0 : Nat) < _; decide⟩
  have hst := step_pad (big := big) (x := ⟨0, nm, ⟨#[]⟩⟩) hx (s := s) (p := 0) (Z1 := (zeroL (pad4 nm.size)).set q c) (Z2 := []) (rest := []) (by rw [List.length_set, zeroL_length]) (show ([] : List UInt8).length = pad4 (⟨#[]⟩ : ByteArray).size from rfl) (by
    rw [List.drop_zero, hs, padL_is]
    rfl)
  have hsz : s.size = 0 + sizN ⟨0, nm, ⟨#[]⟩⟩ := by
    rw [← ba_len, hs]
    unfold padL
    rw [List.length_set, encN_length]
    omega
  have h12 : 12 ≤ sizN ⟨0, nm, ⟨#[]⟩⟩ := by unfold sizN; omega
  have hp := runN_succ (big := big) (s := s) (k := 0) (p := 0) (l := []) (z := true) rfl (by omega) (by rw [hst])
  rw [hst] at hp
  have hk : k = 1 := runN_end hr hp (by rcases hc with ⟨h1, _⟩ | ⟨h1, _⟩ | ⟨_, h1, _⟩ <;> intro h2 <;> first | omega | (rw [h1] at h2; cases h2.2)) (by dsimp only; omega)
  subst hk
  rw [hp] at hr
  injection hr with hr
  injection hr with e1 hr
  injection hr with e2 e3
  rw [all_set _ _ _ hq] at e3
  simp only [List.all_nil, Bool.and_true, Bool.true_and] at e3
  dsimp only at e1
  rcases hc with ⟨_, h1, v, h2, _⟩ | ⟨_, h1, h2⟩ | ⟨h1, _⟩
  · exact .inl ⟨by rw [h1] at e3; simpa using e3, v, h2⟩
  · exact .inr ⟨by rw [h1] at e3; simpa using e3, _, h2⟩
  · omega
end Go.Proofs.YtnmklmaclmjfbaaDoor
