/- Contracts of the reference's Put and Get, at every argument. Conditions: those written in each theorem. -/
import Derived.Test.YtmbndepgkglaeaaDoorOB
import Derived.Laws.IdiomStrings
import Derived.Laws.Concat
namespace Go.Proofs.YtmbndepgkglaeaaDoor
open Go.RowKit
theorem conv_one (wr : World) (x : Int) : (convert 26 9 (.slice (some ⟨wr.heap.size, 0, none⟩) 1 1)).run Tryd.prog (wr.alloc (.cells #[.int .u8 x] 5)) = .ok (.string ⟨#[UInt8.ofNat x.toNat]⟩) (wr.alloc (.cells #[.int .u8 x] 5)) := by
  rw [run_convert_bytes_string _ 26 9 5 _ 1 1 Tryd.underlying26 Tryd.underlying5 Tryd.underlying9]
  rw [run_bytesToString (ns := [x])]
  · rfl
  · exact run_loadCells_list (P := Tryd.prog) _ ⟨wr.heap.size, 0, none⟩ [.int .u8 x] (fun j v hj => by
      match j, hj with
      | 0, hj => simp at hj; subst hj; simp [Addr.add])
theorem div_step (n k x : Nat) (hn : n < 2 ^ 64) (hx : n / 256 ^ k = x) : IntKind.u64.wrap ((x : Int) / 256) = ((n / 256 ^ (k + 1) : Nat) : Int) := by
  subst hx
  rw [Nat.pow_succ, ← Nat.div_div_eq_div_mul]
  have : n / 256 ^ k ≤ n := Nat.div_le_self _ _
  generalize n / 256 ^ k = y at *
  rw [IntKind.wrap_u64]
  omega
theorem ofNat_mod (x : Nat) : UInt8.ofNat (x % 256) = UInt8.ofNat x := by
  apply UInt8.toNat_inj.1
  rw [UInt8.toNat_ofNat', UInt8.toNat_ofNat']
  omega
theorem little_step (n k x : Nat) (s : ByteArray) (hx : n / 256 ^ k = x) (hs : (⟨(Num.leB n k).toArray⟩ : ByteArray) = s) :
    s ++ (⟨#[UInt8.ofNat (x % 256)]⟩ : ByteArray) = ⟨(Num.leB n (k + 1)).toArray⟩ := by
  subst hx hs
  rw [ofNat_mod]
  exact ByteArray.mk_append_mk _ [_]
theorem big_step (n k x : Nat) (s : ByteArray) (hx : n / 256 ^ k = x) (hs : (⟨(Num.leB n k).reverse.toArray⟩ : ByteArray) = s) :
    (⟨#[UInt8.ofNat (x % 256)]⟩ : ByteArray) ++ s = ⟨(Num.leB n (k + 1)).reverse.toArray⟩ := by
  subst hx hs
  rw [ofNat_mod, Num.leB, List.reverse_append]
  exact ByteArray.mk_append_mk [_] _
theorem str_eq {a b : ByteArray} (h : a = b) : Value.string a = .string b := by rw [h]
end Go.Proofs.YtmbndepgkglaeaaDoor
