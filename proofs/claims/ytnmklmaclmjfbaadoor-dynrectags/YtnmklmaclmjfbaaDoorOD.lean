/- Contracts of order's Get, at every text. Conditions: those written in each theorem. -/
import Derived.Test.YtnmklmaclmjfbaaDoorOC
import Derived.Laws.BitsAllLaws
namespace Go.Proofs.YtnmklmaclmjfbaaDoor
open Go.RowKit
theorem or_step (L : List UInt8) (k : Nat) (hk : k < L.length) (h8 : L.length ≤ 8) (x : Nat) (hx : Num.horner (L.take k).reverse = x) (b : UInt8) (hb : L[k] = b) :
    bits .or .u64 (x : Int) (IntKind.u64.wrap (IntKind.u64.wrap (b.toNat : Int) * 2 ^ (8 * k))) = ((Num.horner (L.take (k + 1)).reverse : Nat) : Int) := by
  subst hx hb
  have h2 := pow_le_8 (show k < 8 by omega)
  have hp : 2 ^ (8 * k) = 256 ^ k := by rw [Nat.pow_mul]
  have hx := Num.horner_lt (L.take k).reverse
  rw [List.length_reverse, List.length_take, Nat.min_eq_left (by omega)] at hx
  rw [take_snoc L k hk, List.reverse_append, List.reverse_singleton, List.singleton_append, Num.horner_cons, List.length_reverse, List.length_take, Nat.min_eq_left (by omega)]
  generalize Num.horner (L.take k).reverse = x at *
  have hb := L[k].toNat_lt
  generalize L[k].toNat = b at *
  have hm : b * 256 ^ k ≤ 255 * 256 ^ k := Nat.mul_le_mul_right _ (by omega)
  rw [Nat.pow_succ] at h2
  have e1 : IntKind.u64.wrap (b : Int) = (b : Int) := by rw [IntKind.wrap_u64]; omega
  have e2 : ((2 : Int) ^ (8 * k)) = ((256 ^ k : Nat) : Int) := by rw [← hp]; simp
  have e3 : ((b : Int) * ((256 ^ k : Nat) : Int)) = ((b * 256 ^ k : Nat) : Int) := by simp
  have e4 : IntKind.u64.wrap ((b * 256 ^ k : Nat) : Int) = ((b * 256 ^ k : Nat) : Int) := by
    rw [IntKind.wrap_u64]
    generalize b * 256 ^ k = y at *
    generalize 256 ^ k = z at *
    omega
  have e5 : x ||| b * 256 ^ k = b * 256 ^ k + x := by
    rw [Nat.or_comm, Nat.mul_comm b, ← hp]
    exact (Nat.two_pow_add_eq_or_of_lt (by rw [hp]; exact hx) b).symm
  rw [e1, e2, e3, e4, u64_or_nat _ _ (by generalize 256 ^ k = z at *; omega) (by generalize b * 256 ^ k = y at *; generalize 256 ^ k = z at *; omega), e5]
set_option maxRecDepth 100000 in
set_option maxHeartbeats 400000 in
theorem get_big (s : ByteArray) (w : World) (h1 : 1 ≤ s.size) (h8 : s.size ≤ 8) :
    Calls Tryd.prog 39 #[.agg #[.bool true], .string s] w fun e w' => e = .returned (.int .u64 (Num.horner s.data.toList : Nat)) ∧ Below w.heap.size w w' := by
  have hi1 : (1 : Int) ≤ (s.size : Int) := by omega
  have hi8 : (s.size : Int) ≤ 8 := by omega
  go_enter Tryd.func39, Tryd.ntmps39
  go_wp2_with (go_at_call 38; refine (isSize_yes _ _ (by omega) (by omega)).mono ?_; rintro e w' ⟨rfl, rfl⟩)
  go_loopw [5, 6, 13] (fun n _ i wr => ∃ k : Nat, k ≤ s.size ∧ i = .int .i64 k ∧ n = .int .u64 (Num.horner ((s.data.toList.reverse.take k).reverse) : Nat) ∧ wr.cell? ⟨w.heap.size, 0, none⟩ = some (.bool true) ∧ w.heap.size < wr.heap.size ∧ Below w.heap.size w wr) (fun _ _ i _ => s.size - (intOf i).toNat)
  case atStart => exact ⟨0, Nat.zero_le _, rfl, rfl, by simp, by simp, (Below.refl _ _).alloc (Nat.le_refl _) _⟩
  case round =>
    obtain ⟨k, hk, rfl, rfl, hcell, hsz, hg⟩ := hrel
    by_cases hlt : k < s.size
    · generalize hx : Num.horner ((s.data.toList.reverse.take k).reverse) = x
      have HX := Lib.hid hx; clear hx
      go_wp2_with (go_at_call 52; refine (index_big _ _ _ (by omega) (by omega) (by omega)).mono ?_; rintro e w' ⟨rfl, rfl⟩)
      go_roundw
      case rel => exact ⟨k + 1, by omega, by go_num, int_eq (or_step s.data.toList.reverse k (by simpa using hlt) (by simpa using h8) x HX.out _ (by rw [List.getElem_reverse]; rfl)), by rw [World.cell?_alloc_past _ _ _ hsz]; exact hcell, by simp; omega, hg.alloc hg.size _⟩
      case measure => simp [intOf]; omega
    · go_wp2
      go_ret
      exact ⟨ret_int (by rw [List.take_of_length_le (by simp; omega), List.reverse_reverse]), hg⟩
set_option maxRecDepth 100000 in
set_option maxHeartbeats 400000 in
theorem get_little (s : ByteArray) (w : World) (h1 : 1 ≤ s.size) (h8 : s.size ≤ 8) :
    Calls Tryd.prog 39 #[.agg #[.bool false], .string s] w fun e w' => e = .returned (.int .u64 (Num.horner s.data.toList.reverse : Nat)) ∧ Below w.heap.size w w' := by
  have hi1 : (1 : Int) ≤ (s.size : Int) := by omega
  have hi8 : (s.size : Int) ≤ 8 := by omega
  go_enter Tryd.func39, Tryd.ntmps39
  go_wp2_with (go_at_call 38; refine (isSize_yes _ _ (by omega) (by omega)).mono ?_; rintro e w' ⟨rfl, rfl⟩)
  go_loopw [5, 6, 13] (fun n _ i wr => ∃ k : Nat, k ≤ s.size ∧ i = .int .i64 k ∧ n = .int .u64 (Num.horner ((s.data.toList.take k).reverse) : Nat) ∧ wr.cell? ⟨w.heap.size, 0, none⟩ = some (.bool false) ∧ w.heap.size < wr.heap.size ∧ Below w.heap.size w wr) (fun _ _ i _ => s.size - (intOf i).toNat)
  case atStart => exact ⟨0, Nat.zero_le _, rfl, rfl, by simp, by simp, (Below.refl _ _).alloc (Nat.le_refl _) _⟩
  case round =>
    obtain ⟨k, hk, rfl, rfl, hcell, hsz, hg⟩ := hrel
    by_cases hlt : k < s.size
    · generalize hx : Num.horner ((s.data.toList.take k).reverse) = x
      have HX := Lib.hid hx; clear hx
      go_wp2_with (go_at_call 52; refine (index_little _ _ _).mono ?_; rintro e w' ⟨rfl, rfl⟩)
      go_roundw
      case rel => exact ⟨k + 1, by omega, by go_num, int_eq (or_step s.data.toList k (by simpa using hlt) (by simpa using h8) x HX.out _ rfl), by rw [World.cell?_alloc_past _ _ _ hsz]; exact hcell, by simp; omega, hg.alloc hg.size _⟩
      case measure => simp [intOf]; omega
    · go_wp2
      go_ret
      exact ⟨ret_int (by rw [List.take_of_length_le (by simp; omega)]), hg⟩
theorem get_none (big : Bool) (s : ByteArray) (w : World) (h : s.size < 1 ∨ 8 < s.size) :
    Calls Tryd.prog 39 #[.agg #[.bool big], .string s] w fun e w' => e = .returned (.int .u64 0) ∧ Below w.heap.size w w' := by
  have hi : (s.size : Int) < 1 ∨ (8 : Int) < (s.size : Int) := by omega
  go_enter Tryd.func39, Tryd.ntmps39
  go_wp2_with (go_at_call 38; refine (isSize_no _ _ hi).mono ?_; rintro e w' ⟨rfl, rfl⟩)
  go_ret
  exact ⟨rfl, (Below.refl _ _).alloc (Nat.le_refl _) _⟩
/-- Get, at every argument. -/
theorem get_any (big : Bool) (s : ByteArray) (w : World) :
    Calls Tryd.prog 39 #[.agg #[.bool big], .string s] w fun e w' => e = .returned (.int .u64 (Num.getN big s.data.toList : Nat)) ∧ Below w.heap.size w w' := by
  by_cases h : s.size ≤ 8
  · have h' : s.data.toList.length ≤ 8 := by simpa using h
    simp only [Num.getN, if_pos h']
    by_cases h1 : 1 ≤ s.size
    · cases big
      · exact get_little s w h1 h
      · exact get_big s w h1 h
    · have h0 : s.data.toList = [] := by
        apply List.eq_nil_of_length_eq_zero; have : s.data.toList.length = s.size := by simp
        omega
      rw [h0]
      simp only [List.reverse_nil, Num.horner_nil, ite_self]
      exact get_none big s w (by omega)
  · have h' : ¬ s.data.toList.length ≤ 8 := by simpa using h
    simp only [Num.getN, if_neg h']
    exact get_none big s w (by omega)
end Go.Proofs.YtnmklmaclmjfbaaDoor
