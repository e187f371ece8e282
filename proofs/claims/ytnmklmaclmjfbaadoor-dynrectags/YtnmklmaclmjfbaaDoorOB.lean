/- Contracts of the reference's Get: the number of a text's bytes, highest or lowest first; 0 for more than eight. Conditions: those written in each theorem. -/
import Derived.Test.YtnmklmaclmjfbaaDoorOA
import Derived.Test.YtnmklmaclmjfbaaDoorOM
import Derived.PlainAid
namespace Go.Proofs.YtnmklmaclmjfbaaDoor
open Go.RowKit

theorem ret_int {k : IntKind} {a b : Int} (h : a = b) : Ending.returned (.int k a) = .returned (.int k b) := by rw [h]
theorem int_eq {k : IntKind} {a b : Int} (h : a = b) : Value.int k a = .int k b := by rw [h]
theorem pow_le_8 {k : Nat} (h : k < 8) : 256 ^ (k + 1) ≤ 18446744073709551616 := by
  have : 256 ^ (k + 1) ≤ 256 ^ 8 := Nat.pow_le_pow_right (by omega) (by omega)
  simpa using this
theorem take_snoc {α : Type} (l : List α) (k : Nat) (h : k < l.length) : l.take (k + 1) = l.take k ++ [l[k]] := by
  rw [List.take_succ_eq_append_getElem h]
theorem get_step (l : List UInt8) (k : Nat) (hk : k < l.length) (h8 : l.length ≤ 8) (x : Nat) (hx : Num.horner (l.take k) = x) (b : UInt8) (hb : l[k] = b) :
    IntKind.u64.wrap (IntKind.u64.wrap (256 * (x : Int)) + IntKind.u64.wrap (b.toNat : Int)) = ((Num.horner (l.take (k + 1)) : Nat) : Int) := by
  subst hx hb
  have h1 := Num.horner_lt (l.take (k + 1))
  rw [List.length_take, Nat.min_eq_left (by omega)] at h1
  have h2 := pow_le_8 (show k < 8 by omega)
  rw [take_snoc l k hk, Num.horner_snoc] at h1 ⊢
  have := l[k].toNat_lt
  rw [IntKind.wrap_u64, IntKind.wrap_u64, IntKind.wrap_u64]
  omega
set_option maxHeartbeats 400000 in
theorem refGet_big (s : ByteArray) (w : World) (hs : s.size ≤ 8) :
    Calls Tryd.prog 37 #[.bool true, .string s] w fun e w' => e = .returned (.int .u64 (Num.horner s.data.toList : Nat)) ∧ w = w' := by
  go_enter Tryd.func37, Tryd.ntmps37
  go_wp2
  go_loop [5, 6] (fun n i => ∃ k : Nat, k ≤ s.size ∧ i = .int .i64 k ∧ n = .int .u64 (Num.horner (s.data.toList.take k) : Nat)) (fun _ i => s.size - (intOf i).toNat)
  case atStart => exact ⟨0, Nat.zero_le _, rfl, rfl⟩
  case round =>
    obtain ⟨k, hk, rfl, rfl⟩ := hrel
    by_cases hlt : k < s.size
    · generalize hx : Num.horner (s.data.toList.take k) = x
      have HX := Lib.hid hx; clear hx
      go_wp2
      go_round
      case rel => exact ⟨k + 1, by omega, by go_num, int_eq (get_step s.data.toList k (by simpa using hlt) (by simpa using hs) x HX.out _ rfl)⟩
      case measure => simp [intOf]; omega
    · go_wp2
      go_ret
      exact ⟨ret_int (by rw [List.take_of_length_le (by simp; omega)]), rfl⟩
set_option maxHeartbeats 400000 in
theorem refGet_little (s : ByteArray) (w : World) (hs : s.size ≤ 8) :
    Calls Tryd.prog 37 #[.bool false, .string s] w fun e w' => e = .returned (.int .u64 (Num.horner s.data.toList.reverse : Nat)) ∧ w = w' := by
  go_enter Tryd.func37, Tryd.ntmps37
  go_wp2
  go_loop [5, 6] (fun n i => ∃ k : Nat, k ≤ s.size ∧ i = .int .i64 k ∧ n = .int .u64 (Num.horner (s.data.toList.reverse.take k) : Nat)) (fun _ i => s.size - (intOf i).toNat)
  case atStart => exact ⟨0, Nat.zero_le _, rfl, rfl⟩
  case round =>
    obtain ⟨k, hk, rfl, rfl⟩ := hrel
    by_cases hlt : k < s.size
    · generalize hx : Num.horner (s.data.toList.reverse.take k) = x
      have HX := Lib.hid hx; clear hx
      go_wp2
      go_round
      case rel => exact ⟨k + 1, by omega, by go_num, int_eq (get_step s.data.toList.reverse k (by simpa using hlt) (by simpa using hs) x HX.out _ (by rw [List.getElem_reverse]; rfl))⟩
      case measure => simp [intOf]; omega
    · go_wp2
      go_ret
      exact ⟨ret_int (by rw [List.take_of_length_le (by simp; omega)]), rfl⟩
theorem refGet_long (big : Bool) (s : ByteArray) (w : World) (hs : 8 < s.size) :
    Calls Tryd.prog 37 #[.bool big, .string s] w fun e w' => e = .returned (.int .u64 0) ∧ w = w' := by
  have h1 : decide ((0 : Int) < (s.size : Int)) = true := by simp; omega
  have h2 : decide ((s.size : Int) ≤ 8) = false := by simp; omega
  go_enter Tryd.func37, Tryd.ntmps37
  go_wp2
  refine wp_loop_rounds 1 ?_
  rw [rounds_succ]
  go_wp2
  go_ret
  exact ⟨rfl, rfl⟩
end Go.Proofs.YtnmklmaclmjfbaaDoor
