/- Contracts of the reference's Put and Get, at every argument. Conditions: those written in each theorem. -/
import Derived.Test.YtnmklmaclmjfbaaDoorOB
import Derived.Laws.IdiomStrings
import Derived.Laws.Concat
namespace Go.Proofs.YtnmklmaclmjfbaaDoor
open Go.RowKit
theorem conv_one (wr : World) (x : Int) : (convert 56 9 (.slice (some ⟨wr.heap.size, 0, none⟩) 1 1)).run Tryd.prog (wr.alloc (.cells #[.int .u8 x] 5)) = .ok (.string ⟨#[UInt8.ofNat x.toNat]⟩) (wr.alloc (.cells #[.int .u8 x] 5)) := by
  rw [run_convert_bytes_string _ 56 9 5 _ 1 1 Tryd.underlying56 Tryd.underlying5 Tryd.underlying9]
  rw [run_bytesToString (ns := [x])]
  · rfl
  · exact run_loadCells_list (P := Tryd.prog) _ ⟨wr.heap.size, 0, none⟩ [.int .u8 x] (fun j v hj => by
      match j, hj with
      | 0, hj => simp at hj; subst hj; simp [Addr.add])
theorem div_step (n k x : Nat) (hn : n < 2 ^ 64) (hx : n / 256 ^ k = x) : IntKind.u64.wrap ((x : Int) / 256) = ((n / 256 ^ (k + 1) : Nat) : Int) := by
  subst hx
  rw [Nat.pow_succ, ← Nat.div_div_eq_div_mul]
  have : n / 256 ^ k ≤ n := Nat.div_le_self _ _
  generalize n / 256 ^ k = y at *
  rw [IntKind.wrap_u64]
  omega
theorem ofNat_mod (x : Nat) : UInt8.ofNat (x % 256) = UInt8.ofNat x := by
  apply UInt8.toNat_inj.1
  rw [UInt8.toNat_ofNat', UInt8.toNat_ofNat']
  omega
theorem little_step (n k x : Nat) (s : ByteArray) (hx : n / 256 ^ k = x) (hs : (⟨(Num.leB n k).toArray⟩ : ByteArray) = s) :
    s ++ (⟨#[UInt8.ofNat (x % 256)]⟩ : ByteArray) = ⟨(Num.leB n (k + 1)).toArray⟩ := by
  subst hx hs
  rw [ofNat_mod]
  exact ByteArray.mk_append_mk _ [_]
theorem big_step (n k x : Nat) (s : ByteArray) (hx : n / 256 ^ k = x) (hs : (⟨(Num.leB n k).reverse.toArray⟩ : ByteArray) = s) :
    (⟨#[UInt8.ofNat (x % 256)]⟩ : ByteArray) ++ s = ⟨(Num.leB n (k + 1)).reverse.toArray⟩ := by
  subst hx hs
  rw [ofNat_mod, Num.leB, List.reverse_append]
  exact ByteArray.mk_append_mk [_] _
theorem str_eq {a b : ByteArray} (h : a = b) : Value.string a = .string b := by rw [h]
set_option maxRecDepth 100000 in
set_option maxHeartbeats 400000 in
theorem refPut_little (n : Nat) (size : Nat) (w : World) (hn : n < 2 ^ 64) (h8 : size ≤ 8) :
    Calls Tryd.prog 29 #[.bool false, .int .u64 n, .int .i64 size] w fun e w' => e = .returned (.string ⟨(Num.leB n size).toArray⟩) ∧ Below w.heap.size w w' := by
  have HN := Lib.hid hn; clear hn
  have hcv := conv_one
  go_enter Tryd.func29, Tryd.ntmps29
  go_wp2
  go_loopw [1, 7, 8] (fun m s i wr => ∃ k : Nat, k ≤ size ∧ i = .int .i64 k ∧ m = .int .u64 (n / 256 ^ k : Nat) ∧ s = .string ⟨(Num.leB n k).toArray⟩ ∧ Below w.heap.size w wr) (fun _ _ i _ => size - (intOf i).toNat)
  case atStart => exact ⟨0, Nat.zero_le _, rfl, by simp, rfl, Below.refl _ _⟩
  case round =>
    obtain ⟨k, hk, rfl, rfl, rfl, hg⟩ := hrel
    by_cases hlt : k < size
    · generalize hx : n / 256 ^ k = x
      have HX := Lib.hid hx; clear hx
      generalize hl : (⟨(Num.leB n k).toArray⟩ : ByteArray) = s
      have hsz : s.size ≤ 8 := by rw [← hl]; simp [ByteArray.size, Num.leB_length]; omega
      have HL := Lib.hid hl; clear hl
      go_wp2
      go_roundw
      case rel => exact ⟨k + 1, by omega, by go_num, int_eq (div_step n k x HN.out HX.out), str_eq (little_step n k x s HX.out HL.out), hg.alloc hg.size _⟩
      case measure => simp [intOf]; omega
    · go_wp2
      go_ret
      obtain rfl : k = size := by omega
      exact ⟨rfl, hg⟩
set_option maxRecDepth 100000 in
set_option maxHeartbeats 400000 in
theorem refPut_big (n : Nat) (size : Nat) (w : World) (hn : n < 2 ^ 64) (h8 : size ≤ 8) :
    Calls Tryd.prog 29 #[.bool true, .int .u64 n, .int .i64 size] w fun e w' => e = .returned (.string ⟨(Num.leB n size).reverse.toArray⟩) ∧ Below w.heap.size w w' := by
  have HN := Lib.hid hn; clear hn
  have hcv := conv_one
  go_enter Tryd.func29, Tryd.ntmps29
  go_wp2
  go_loopw [1, 7, 8] (fun m s i wr => ∃ k : Nat, k ≤ size ∧ i = .int .i64 k ∧ m = .int .u64 (n / 256 ^ k : Nat) ∧ s = .string ⟨(Num.leB n k).reverse.toArray⟩ ∧ Below w.heap.size w wr) (fun _ _ i _ => size - (intOf i).toNat)
  case atStart => exact ⟨0, Nat.zero_le _, rfl, by simp, rfl, Below.refl _ _⟩
  case round =>
    obtain ⟨k, hk, rfl, rfl, rfl, hg⟩ := hrel
    by_cases hlt : k < size
    · generalize hx : n / 256 ^ k = x
      have HX := Lib.hid hx; clear hx
      generalize hl : (⟨(Num.leB n k).reverse.toArray⟩ : ByteArray) = s
      have hsz : s.size ≤ 8 := by rw [← hl]; simp [ByteArray.size, Num.leB_length]; omega
      have HL := Lib.hid hl; clear hl
      go_wp2
      go_roundw
      case rel => exact ⟨k + 1, by omega, by go_num, int_eq (div_step n k x HN.out HX.out), str_eq (big_step n k x s HX.out HL.out), hg.alloc hg.size _⟩
      case measure => simp [intOf]; omega
    · go_wp2
      go_ret
      obtain rfl : k = size := by omega
      exact ⟨rfl, hg⟩
theorem refPut_none (big : Bool) (n size : Int) (w : World) (h : size < 1 ∨ 8 < size) :
    Calls Tryd.prog 29 #[.bool big, .int .u64 n, .int .i64 size] w fun e w' => e = .returned (.string ⟨#[]⟩) ∧ w = w' := by
  rcases h with h | h
  · have h1 : decide ((0 : Int) < size) = false := by simp; omega
    go_enter Tryd.func29, Tryd.ntmps29
    go_wp2
    refine wp_loop_rounds 1 ?_
    rw [rounds_succ]
    go_wp2
    go_ret
    exact ⟨rfl, rfl⟩
  · have h1 : decide ((0 : Int) < size) = true := by simp; omega
    have h2 : decide (size ≤ 8) = false := by simp; omega
    go_enter Tryd.func29, Tryd.ntmps29
    go_wp2
    refine wp_loop_rounds 1 ?_
    rw [rounds_succ]
    go_wp2
    go_ret
    exact ⟨rfl, rfl⟩
/-- The reference's Put, at every argument. -/
theorem refPut_any (big : Bool) (n : Nat) (size : Int) (w : World) (hn : n < 2 ^ 64) :
    Calls Tryd.prog 29 #[.bool big, .int .u64 n, .int .i64 size] w fun e w' => e = .returned (.string ⟨(Num.putL big n size).toArray⟩) ∧ Below w.heap.size w w' := by
  by_cases h : 1 ≤ size ∧ size ≤ 8
  · obtain ⟨k, rfl⟩ := Int.eq_ofNat_of_zero_le (show 0 ≤ size by omega)
    simp only [Num.putL, if_pos h, Int.toNat_natCast]
    cases big
    · exact refPut_little n k w hn (by omega)
    · exact refPut_big n k w hn (by omega)
  · simp only [Num.putL, if_neg h]
    exact (refPut_none big n size w (by omega)).mono fun e w' ⟨he, hw⟩ => ⟨he, hw ▸ Below.refl _ _⟩
/-- The reference's Get, at every argument. -/
theorem refGet_any (big : Bool) (s : ByteArray) (w : World) :
    Calls Tryd.prog 37 #[.bool big, .string s] w fun e w' => e = .returned (.int .u64 (Num.getN big s.data.toList : Nat)) ∧ w = w' := by
  by_cases h : s.size ≤ 8
  · have h' : s.data.toList.length ≤ 8 := by simpa using h
    simp only [Num.getN, if_pos h']
    cases big
    · exact refGet_little s w h
    · exact refGet_big s w h
  · have h' : ¬ s.data.toList.length ≤ 8 := by simpa using h
    simp only [Num.getN, if_neg h']
    exact refGet_long big s w (by omega)
end Go.Proofs.YtnmklmaclmjfbaaDoor
