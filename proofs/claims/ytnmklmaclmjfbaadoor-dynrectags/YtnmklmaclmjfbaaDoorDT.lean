/- The contract of dynrec's All. Conditions: those written in each theorem. -/
import Derived.Test.YtnmklmaclmjfbaaDoorDJ
import Derived.Test.YtnmklmaclmjfbaaDoorDS
namespace Go.Proofs.YtnmklmaclmjfbaaDoor
open Go.RowKit
set_option linter.unusedVariables false
/-- The values of the first k entries with this tag. -/
def allL (R : Nat → Nat × Nat) (tag : Nat) : Nat → List Nat
  | 0 => []
  | k + 1 => if (R k).1 = tag then allL R tag k ++ [(R k).2] else allL R tag k
theorem allL_le (R : Nat → Nat × Nat) (tag : Nat) : ∀ k, (allL R tag k).length ≤ k
  | 0 => Nat.le_refl _
  | k + 1 => by
    have := allL_le R tag k
    unfold allL
    split
    · simp; omega
    · omega
theorem all_one (w : World) (o : Obj) : (w.alloc o).heap.size = w.heap.size + 1 := by simp
def uV (l : List Nat) : List Value := l.map fun n => .int .u64 (n : Nat)
theorem uV_snoc (l : List Nat) (x : Nat) : uV (l ++ [x]) = uV l ++ [.int .u64 (x : Nat)] := by simp [uV]
theorem infoU : (Tryd.prog.info? 31).map (fun i => (i.zero, i.size, i.bytes)) = some (some (.int .u64 0), 1, 8) := by kernel_rfl
set_option maxRecDepth 100000 in
set_option maxHeartbeats 2000000 in
theorem all_any (A : Option Addr) (cap n : Nat) (R : Nat → Nat × Nat) (tag : Nat) (hn : n ≤ 100000) (w : World) (hR : RowP w A n R) :
    Calls Tryd.prog 15 #[.slice A n cap, .int .u64 (tag : Nat)] w fun e w' => (∃ v, e = .returned v ∧ w'.ownsRow w.heap.size 31 1 v (allL R tag n).length (uV (allL R tag n))) ∧ Below w.heap.size w w' := by
  obtain ⟨i0, hi, hz0, hz1, hz2⟩ := info_parts infoU
  have HR := Lib.hid hR; clear hR
  go_enter Tryd.func15, Tryd.ntmps15
  go_wp2
  go_loopw [5, 10] (fun v i wr => ∃ k : Nat, k ≤ n ∧ i = .int .i64 (k : Int) ∧ wr.ownsRow w.heap.size 31 1 v (allL R tag k).length (uV (allL R tag k)) ∧ Below w.heap.size w wr) (fun _ i _ => n - (intOf i).toNat)
  case atStart => exact ⟨0, Nat.zero_le _, rfl, World.ownsRow_nil _ _ _ _, Below.refl _ _⟩
  case round =>
    obtain ⟨k, hk, rfl, hown, hB⟩ := hrel
    have HOWN := Lib.hid hown; have HB := Lib.hid hB; clear hown hB
    by_cases hlt : k < n
    · obtain ⟨b, o, rfl, hbl, hc0, hc1⟩ := HR.out.low HB.out k hlt
      have HS : Hid (allL R tag (k + 1) = if (R k).1 = tag then allL R tag k ++ [(R k).2] else allL R tag k) := Lib.hid rfl
      have hle := allL_le R tag k
      have HB3 := Lib.hid (HB.out.alloc HB.out.size (.cells #[.int .u64 ((R k).1 : Nat), .int .u64 ((R k).2 : Nat)] 34))
      have HOWN3 := Lib.hid (own_stay HOWN.out ((Below.refl _ _).alloc (Nat.le_refl _) (.cells #[.int .u64 ((R k).1 : Nat), .int .u64 ((R k).2 : Nat)] 34)))
      generalize hr : R k = r at *
      have HRK := Lib.hid hr; clear hr
      obtain ⟨rt, rv⟩ := r
      dsimp only at hc0 hc1
      have k0 : (0 : Int) ≤ (k : Int) := by omega
      have k1 : (k : Int) < (n : Int) := by omega
      have k2 : k + 1 ≤ 1048576 := by omega
      have hsz := HB.out.size
      by_cases ht : rt = tag
      · subst ht
        have t1 : ((rt : Int) == (rt : Int)) = true := by simp
        have hcn := cells_new (wr.alloc (.cells #[.int .u64 (rt : Nat), .int .u64 (rv : Nat)] 34)) [.int .u64 (rv : Nat)] 31
        rw [all_one] at hcn
        have HCN := Lib.hid hcn; clear hcn
        go_wp2_with (first
          | (at_builtin; (refine wpList_append_own _ rfl _ _ 58 rfl w.heap.size 31 i0 (.int .u64 0) 1 8 Tryd.underlying58 hi hz0 hz1 hz2 rfl (by decide) _ _ _ rfl (own_stay HOWN3.out ((Below.refl _ _).alloc (Nat.le_refl _) _)) _ 1 1 [.int .u64 (rv : Nat)] rfl rfl HCN.out (by simp [Value.oneCell']) (by unfold maxLen; omega) (by omega) (by simp; omega) ?_; intro v' w12 hown' hg12 hnil12))
          | go_in)
        have hfl := own_floor HOWN3.out
        have hB12 : Below w.heap.size w w12 := (HB3.out.alloc HB3.out.size _).grown hg12 (by simp; omega) (fun i hi => hfl i hi)
        have hS : allL R rt (k + 1) = allL R rt k ++ [rv] := by rw [HS.out]; simp
        refine ⟨⟨k + 1, by omega, by go_num, by rw [hS, uV_snoc, List.length_append]; exact hown', hB12⟩, by simp [intOf]; omega⟩
      · have t1 : ((rt : Int) == (tag : Int)) = false := by rw [beq_eq_false_iff_ne]; omega
        have HT := Lib.hid ht; clear ht
        go_wp2
        have hS : allL R tag (k + 1) = allL R tag k := by rw [HS.out]; simp [HT.out]
        exact ⟨⟨k + 1, by omega, by go_num, by rw [hS]; exact HOWN3.out, HB3.out⟩, by simp [intOf]; omega⟩
    · obtain rfl : k = n := by omega
      go_wp2
      go_ret
      exact ⟨⟨_, rfl, HOWN.out⟩, HB.out⟩
end Go.Proofs.YtnmklmaclmjfbaaDoor
