/- The walk of the law OrderNumbers: it returns true at every order, number and text. Conditions: those written in each theorem. -/
import Derived.Test.YtibgcnggimlbcaaF
import Derived.OpenShut
namespace Go.Proofs.Ytibgcnggimlbcaa
open Go.RowKit
theorem str_self (l : List UInt8) : ((⟨l.toArray⟩ : ByteArray).data.toList) = l := rfl
set_option maxRecDepth 100000 in
set_option maxHeartbeats 400000 in
theorem numbers_walk (big : Bool) (n : Nat) (s : ByteArray) (w : World) (hn : n < 2 ^ 64) (hs : s.size ≤ maxLen) :
    Calls Try.prog 3 #[.bool big, .int .u64 n, .string s] w fun e w' => e = .returned (.bool true) ∧ Below w.heap.size w w' := by
  unfold maxLen at hs
  have HN := Lib.hid hn; clear hn
  go_enter Try.func3, Try.ntmps3
  go_wp2_with fail
  refine (speaks1 _).mono ?_
  rintro e w1 ⟨rfl, hb1⟩
  have hsz1 := hb1.size
  go_wp2_with fail
  go_loopw [8, 9] (fun i _ wr => ∃ k : Nat, k ≤ 12 ∧ i = .int .i64 ((k : Int) - 1) ∧ wr.cell? ⟨w1.heap.size, 0, none⟩ = some (.bool big) ∧ w1.heap.size < wr.heap.size ∧ Below w.heap.size w wr) (fun i _ _ => (11 - intOf i).toNat)
  case atStart => exact ⟨0, by omega, rfl, by simp, by simp, hb1.alloc hb1.size _⟩
  case round =>
    obtain ⟨k, hk, rfl, hcell, hsz, hg⟩ := hrel
    by_cases hlt : k < 12
    · go_wp2_with fail
      refine (put_any big n _ _ HN.out).mono ?_
      rintro e w2 ⟨rfl, h2⟩
      go_wp2_with fail
      refine (refPut_any big n _ _ HN.out).mono ?_
      rintro e w3 ⟨rfl, h3⟩
      generalize Num.putL big n ((k : Int) - 1) = l
      have hc2 : w3.cell? ⟨w1.heap.size, 0, none⟩ = some (.bool big) := by
        rw [h3.cell (by have := h2.size; simp; omega), h2.cell (by simpa using hsz)]; exact hcell
      go_wp2_with fail
      refine (get_any big _ _).mono ?_
      rintro e w4 ⟨rfl, h4⟩
      go_wp2_with fail
      refine (refGet_any big _ _).mono ?_
      rintro e w5 ⟨rfl, rfl⟩
      generalize Num.getN big _ = g
      have hc4 : w4.cell? ⟨w1.heap.size, 0, none⟩ = some (.bool big) := by
        rw [h4.cell (by have := h2.size; have := h3.size; simp; omega)]; exact hc2
      have hs4 : w1.heap.size < w4.heap.size := by have := h2.size; have := h3.size; have := h4.size; omega
      have hg4 : Below w.heap.size w w4 := ((hg.trans (h2.mono (by omega))).trans (h3.mono (by have := h2.size; omega))).trans (h4.mono (by have := h2.size; have := h3.size; omega))
      go_wp2
      go_roundw
      case rel => exact ⟨k + 1, by omega, by go_num, hc4, hs4, hg4⟩
      case measure => simp [intOf]; omega
    · go_wp2_with fail
      all_goals
        refine (get_any big _ _).mono ?_
        rintro e w4 ⟨rfl, h4⟩
        generalize hG : Num.getN big _ = g
        have HG := Lib.hid hG; clear hG
        go_wp2_with fail
        refine (refGet_any big _ _).mono ?_
        rintro e w5 ⟨rfl, rfl⟩
        rw [HG.out]
        go_wp2
        go_ret
        exact ⟨by simp, hg.trans (h4.mono hg.size)⟩
theorem nat_of_wf {a : Int} (h : (Lit.int .u64 a).wf = true) : ∃ n : Nat, a = n ∧ n < 2 ^ 64 := by
  have b := bounds_u64 h
  exact ⟨a.toNat, by omega, by omega⟩
theorem numbers_wf (big : Bool) (a : Int) (s : ByteArray) (h1 : (Lit.int .u64 a).wf = true) (h2 : s.size ≤ maxLen) (w : World) :
    Calls Try.prog 3 #[.bool big, .int .u64 a, .string s] w fun e w' => e = .returned (.bool true) ∧ Below w.heap.size w w' := by
  obtain ⟨n, rfl, hn⟩ := nat_of_wf h1
  exact numbers_walk big n s w hn h2
end Go.Proofs.Ytibgcnggimlbcaa
