/- Contracts of a reader's acts, by what they make of it; padding; strings.Trim of noughts. Conditions: those written in each theorem. -/
import Derived.Test.YtnmklmaclmjfbaaDoorDA
import Derived.Test.YtnmklmaclmjfbaaDoorOS
import Derived.Test.YtnmklmaclmjfbaaDoorOQ
namespace Go.Proofs.YtnmklmaclmjfbaaDoor
open Go.RowKit
theorem next_fn (R : Nat) (big : Bool) (s : ByteArray) (p m : Nat) (b : Bool) (w : World) (h : IsRd w R big s p (errI b)) (hs : s.size ≤ 1048576) (hm1 : 1 ≤ m) (hm8 : m ≤ 8) :
    Calls Tryd.prog 23 #[.pointer (some ⟨R, 0, none⟩), .int .i64 m] w fun e w' => e = .returned (.int .u64 (nxV big s p m b : Nat)) ∧ IsRd w' R big s (nxP s p m b) (errI (nxB s p m b)) ∧ OnlyAt R w w' := by
  cases ho : okR s p m b
  · have h1 : ¬ may s p m (errI b) := fun hm => by
      have := (okR_may s p m b).2 hm
      rw [ho] at this; cases this
    have hc := next_short R big s p m (errI b) w h (by cases b <;> simp [errI]) hs hm1 hm8 h1
    unfold nxV nxP nxB
    rw [ho]
    exact hc
  · obtain ⟨rfl, h2, h3⟩ := okR_true.1 ho
    have hc := next_yes R big s p m w h hs hm1 hm8 h2 h3
    unfold nxV nxP nxB
    rw [ho]
    exact hc
theorem bytes_fn (R : Nat) (big : Bool) (s : ByteArray) (p m : Nat) (b : Bool) (w : World) (h : IsRd w R big s p (errI b)) (hs : s.size ≤ 1048576) :
    Calls Tryd.prog 32 #[.pointer (some ⟨R, 0, none⟩), .int .u64 m] w fun e w' => e = .returned (.string (byV s p m b)) ∧ IsRd w' R big s (nxP s p m b) (errI (nxB s p m b)) ∧ OnlyAt R w w' := by
  cases ho : okR s p m b
  · have h1 : ¬ may s p m (errI b) := fun hm => by
      have := (okR_may s p m b).2 hm
      rw [ho] at this; cases this
    have hc := bytes_no R big s p m (errI b) w h (by cases b <;> simp [errI]) hs h1
    unfold byV nxP nxB
    rw [ho]
    exact hc
  · obtain ⟨rfl, h2, h3⟩ := okR_true.1 ho
    have hc := bytes_yes R big s p m w h hs h2 h3
    unfold byV nxP nxB
    rw [ho]
    exact hc
theorem at_any (R : Nat) (big : Bool) (s : ByteArray) (n : Nat) (err : Int) (w : World) (h : IsRd w R big s n err) :
    Calls Tryd.prog 34 #[.pointer (some ⟨R, 0, none⟩)] w fun e w' => e = .returned (.int .u64 (n : Nat)) ∧ w = w' := by
  obtain ⟨c0, c1, c2, c3, hf⟩ := h.cells
  clear h
  go_enter Tryd.func34, Tryd.ntmps34
  go_wp2
  go_ret
  exact ⟨rfl, rfl⟩
theorem pad_num (n : Nat) (h : n < 18446744073709551616) : (IntKind.u64.wrap (-(n : Int))).tmod 4 = (pad4 n : Nat) ∧ (IntKind.u64.wrap (-(n : Int))) % 4 = (pad4 n : Nat) ∧ IntKind.u64.wrap ((IntKind.u64.wrap (-(n : Int))).tmod 4) = (pad4 n : Nat) := by
  have e : IntKind.u64.wrap (-(n : Int)) = (((18446744073709551616 - n) % 18446744073709551616 : Nat) : Int) := by rw [IntKind.wrap_u64]; omega
  have h2 : ((18446744073709551616 - n) % 18446744073709551616) % 4 = pad4 n := by unfold pad4; omega
  have h3 := pad4_le n
  rw [e]
  generalize (18446744073709551616 - n) % 18446744073709551616 = x at *
  have h4 : (x : Int).tmod 4 = (pad4 n : Nat) := by show (x : Int).tmod ((4 : Nat) : Int) = _; rw [← Int.ofNat_tmod, h2]
  refine ⟨h4, by omega, ?_⟩
  rw [h4, IntKind.wrap_u64]
  omega
theorem padding_any (n : Nat) (h : n < 18446744073709551616) (w : World) :
    Calls Tryd.prog 28 #[.int .u64 (n : Nat)] w fun e w' => e = .returned (.int .u64 (pad4 n : Nat)) ∧ w = w' := by
  obtain ⟨h1, h2, h3⟩ := pad_num n h
  go_enter Tryd.func28, Tryd.ntmps28
  go_wp2
  go_ret
  exact ⟨rfl, rfl⟩
end Go.Proofs.YtnmklmaclmjfbaaDoor
