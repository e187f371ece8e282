/- Contracts of the reference's Put and Get, at every argument. Conditions: those written in each theorem. -/
import Derived.Test.YtnmklmaclmjfbaaOB
import Derived.Laws.IdiomStrings
import Derived.Laws.Concat
namespace Go.Proofs.Ytnmklmaclmjfbaa
open Go.RowKit
theorem conv_one (wr : World) (x : Int) : (convert 25 9 (.slice (some ⟨wr.heap.size, 0, none⟩) 1 1)).run Try.prog (wr.alloc (.cells #[.int .u8 x] 5)) = .ok (.string ⟨#[UInt8.ofNat x.toNat]⟩) (wr.alloc (.cells #[.int .u8 x] 5)) := by
  rw [run_convert_bytes_string _ 25 9 5 _ 1 1 Try.underlying25 Try.underlying5 Try.underlying9]
  rw [run_bytesToString (ns := [x])]
  · rfl
  · exact run_loadCells_list (P := Try.prog) _ ⟨wr.heap.size, 0, none⟩ [.int .u8 x] (fun j v hj => by
      match j, hj with
      | 0, hj => simp at hj; subst hj; simp [Addr.add])
theorem div_step (n k x : Nat) (hn : n < 2 ^ 64) (hx : n / 256 ^ k = x) : IntKind.u64.wrap ((x : Int) / 256) = ((n / 256 ^ (k + 1) : Nat) : Int) := by
  subst hx
  rw [Nat.pow_succ, ← Nat.div_div_eq_div_mul]
  have : n / 256 ^ k ≤ n := Nat.div_le_self _ _
  generalize n / 256 ^ k = y at *
  rw [IntKind.wrap_u64]
  omega
theorem ofNat_mod (x : Nat) : UInt8.ofNat (x % 256) = UInt8.ofNat x := by
  apply UInt8.toNat_inj.1
  rw [UInt8.toNat_ofNat', UInt8.toNat_ofNat']
  omega
theorem little_step (n k x : Nat) (s : ByteArray) (hx : n / 256 ^ k = x) (hs : (⟨(Num.leB n k).toArray⟩ : ByteArray) = s) :
    s ++ (⟨#[UInt8.ofNat (x % 256)]⟩ : ByteArray) = ⟨(Num.leB n (k + 1)).toArray⟩ := by
  subst hx hs
  rw [ofNat_mod]
  exact ByteArray.mk_append_mk _ [_]
theorem big_step (n k x : Nat) (s : ByteArray) (hx : n / 256 ^ k = x) (hs : (⟨(Num.leB n k).reverse.toArray⟩ : ByteArray) = s) :
    (⟨#[UInt8.ofNat (x % 256)]⟩ : ByteArray) ++ s = ⟨(Num.leB n (k + 1)).reverse.toArray⟩ := by
  subst hx hs
  rw [ofNat_mod, Num.leB, List.reverse_append]
  exact ByteArray.mk_append_mk [_] _
theorem str_eq {a b : ByteArray} (h : a = b) : Value.string a = .string b := by rw [h]
/-- The reference's Get, at every argument. -/
theorem refGet_any (big : Bool) (s : ByteArray) (w : World) :
    Calls Try.prog 92 #[.bool big, .string s] w fun e w' => e = .returned (.int .u64 (Num.getN big s.data.toList : Nat)) ∧ w = w' := by
  by_cases h : s.size ≤ 8
  · have h' : s.data.toList.length ≤ 8 := by simpa using h
    simp only [Num.getN, if_pos h']
    cases big
    · exact refGet_little s w h
    · exact refGet_big s w h
  · have h' : ¬ s.data.toList.length ≤ 8 := by simpa using h
    simp only [Num.getN, if_neg h']
    exact refGet_long big s w (by omega)
end Go.Proofs.Ytnmklmaclmjfbaa
