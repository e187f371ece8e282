/- The contract of dynrec's Find. Conditions: those written in each theorem. -/
import Derived.Test.YtnmklmaclmjfbaaDoorDE
namespace Go.Proofs.YtnmklmaclmjfbaaDoor
open Go.RowKit
set_option linter.unusedVariables false
/-- What Find answers. -/
def findV (R : Nat → Nat × Nat) (tag n : Nat) : Value := match (List.range n).find? (fun i => (R i).1 == tag) with
  | some i => .tuple #[.int .u64 ((R i).2 : Nat), .bool true]
  | none => .tuple #[.int .u64 0, .bool false]
theorem findV_some {R : Nat → Nat × Nat} {tag n k : Nat} (hk : k < n) (hno : ∀ i, i < k → (R i).1 ≠ tag) (h : (R k).1 = tag) : findV R tag n = .tuple #[.int .u64 ((R k).2 : Nat), .bool true] := by
  have e : (List.range n).find? (fun i => (R i).1 == tag) = some k := by
    rw [List.find?_range_eq_some]
    exact ⟨by simpa using h, List.mem_range.2 hk, fun j hj => by simpa using hno j hj⟩
  unfold findV
  rw [e]
theorem findV_none {R : Nat → Nat × Nat} {tag n : Nat} (hno : ∀ i, i < n → (R i).1 ≠ tag) : findV R tag n = .tuple #[.int .u64 0, .bool false] := by
  have e : (List.range n).find? (fun i => (R i).1 == tag) = none := by
    rw [List.find?_eq_none]
    intro i hi
    simpa using hno i (List.mem_range.1 hi)
  unfold findV
  rw [e]
set_option maxRecDepth 100000 in
set_option maxHeartbeats 2000000 in
theorem find_any (A : Option Addr) (cap n : Nat) (R : Nat → Nat × Nat) (tag : Nat) (hn : n ≤ 1048576) (w : World) (hR : RowP w A n R) :
    Calls Tryd.prog 16 #[.slice A n cap, .int .u64 (tag : Nat)] w fun e w' => e = .returned (findV R tag n) ∧ Below w.heap.size w w' := by
  have HR := Lib.hid hR; clear hR
  go_enter Tryd.func16, Tryd.ntmps16
  go_wp2
  go_loopw [10] (fun i wr => ∃ k : Nat, k ≤ n ∧ i = .int .i64 (k : Int) ∧ (∀ j, j < k → (R j).1 ≠ tag) ∧ Below w.heap.size w wr) (fun i _ => n - (intOf i).toNat)
  case atStart => exact ⟨0, Nat.zero_le _, rfl, fun j hj => absurd hj (Nat.not_lt_zero _), Below.refl _ _⟩
  case round =>
    obtain ⟨k, hk, rfl, hno, hB⟩ := hrel
    have HNO := Lib.hid hno; have HB := Lib.hid hB; clear hno hB
    by_cases hlt : k < n
    · obtain ⟨b, o, rfl, hbl, hc0, hc1⟩ := HR.out.low HB.out k hlt
      have HV := Lib.hid (findV_some hlt HNO.out)
      have HB3 := Lib.hid (HB.out.alloc HB.out.size (.cells #[.int .u64 ((R k).1 : Nat), .int .u64 ((R k).2 : Nat)] 34))
      generalize hr : R k = r at *
      have HRK := Lib.hid hr; clear hr
      obtain ⟨rt, rv⟩ := r
      dsimp only at hc0 hc1
      have k0 : (0 : Int) ≤ (k : Int) := by omega
      have k1 : (k : Int) < (n : Int) := by omega
      have k2 : k + 1 ≤ 1048576 := by omega
      by_cases ht : rt = tag
      · subst ht
        have t1 : ((rt : Int) == (rt : Int)) = true := by simp
        go_wp2
        go_ret2
        exact ⟨by rw [HV.out trivial]; rfl, HB3.out⟩
      · have t1 : ((rt : Int) == (tag : Int)) = false := by rw [beq_eq_false_iff_ne]; omega
        have HT := Lib.hid ht; clear ht
        go_wp2
        refine ⟨⟨k + 1, by omega, by go_num, fun j hj => ?_, HB3.out⟩, by simp [intOf]; omega⟩
        rcases Nat.lt_or_ge j k with h | h
        · exact HNO.out j h
        · obtain rfl : j = k := by omega
          rw [HRK.out]; exact HT.out
    · obtain rfl : k = n := by omega
      have HV := Lib.hid (findV_none HNO.out)
      go_wp2
      go_ret2
      exact ⟨by rw [HV.out]; rfl, HB.out⟩
end Go.Proofs.YtnmklmaclmjfbaaDoor
