/- Contracts of the reference's Get: the number of a text's bytes, highest or lowest first; 0 for more than eight. Conditions: those written in each theorem. -/
import Derived.Test.YtmbndepgkglaeaaDoorOA
import Derived.Test.YtmbndepgkglaeaaDoorOM
import Derived.PlainAid
namespace Go.Proofs.YtmbndepgkglaeaaDoor
open Go.RowKit

theorem ret_int {k : IntKind} {a b : Int} (h : a = b) : Ending.returned (.int k a) = .returned (.int k b) := by rw [h]
theorem int_eq {k : IntKind} {a b : Int} (h : a = b) : Value.int k a = .int k b := by rw [h]
theorem pow_le_8 {k : Nat} (h : k < 8) : 256 ^ (k + 1) ≤ 18446744073709551616 := by
  have : 256 ^ (k + 1) ≤ 256 ^ 8 := Nat.pow_le_pow_right (by omega) (by omega)
  simpa using this
theorem take_snoc {α : Type} (l : List α) (k : Nat) (h : k < l.length) : l.take (k + 1) = l.take k ++ [l[k]] := by
  rw [List.take_succ_eq_append_getElem h]
theorem get_step (l : List UInt8) (k : Nat) (hk : k < l.length) (h8 : l.length ≤ 8) (x : Nat) (hx : Num.horner (l.take k) = x) (b : UInt8) (hb : l[k] = b) :
    IntKind.u64.wrap (IntKind.u64.wrap (256 * (x : Int)) + IntKind.u64.wrap (b.toNat : Int)) = ((Num.horner (l.take (k + 1)) : Nat) : Int) := by
  subst hx hb
  have h1 := Num.horner_lt (l.take (k + 1))
  rw [List.length_take, Nat.min_eq_left (by omega)] at h1
  have h2 := pow_le_8 (show k < 8 by omega)
  rw [take_snoc l k hk, Num.horner_snoc] at h1 ⊢
  have := l[k].toNat_lt
  rw [IntKind.wrap_u64, IntKind.wrap_u64, IntKind.wrap_u64]
  omega
end Go.Proofs.YtmbndepgkglaeaaDoor
