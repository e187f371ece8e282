/- Contracts of a header's package, by gen_hdr.py. Conditions: those written in each theorem. -/
import Derived.Laws.CopyOwn
import Derived.Laws.Tables
import Derived.Test.YtmbndepgkglaeaaYA
namespace Go.Proofs.Ytmbndepgkglaeaa
open Go.RowKit
set_option maxRecDepth 100000 in
set_option maxHeartbeats 2000000 in
theorem ytref (big : Bool) (n0 n1 n2 n3 n4 n5 : Nat) (hn : ∀ n ∈ [n0, n1, n2, n3, n4, n5], n < 2 ^ 64) (S : ByteArray) (ok : Bool) (hrec : RecIs big true ytSizes [n0, n1, n2, n3, n4, n5] 6 6 S ok) (w : World) :
    Calls Try.prog 17 #[.bool true, .bool big, .agg #[.int .u64 (n0 : Nat), .int .u64 (n1 : Nat), .int .u64 (n2 : Nat), .int .u64 (n3 : Nat), .int .u64 (n4 : Nat), .int .u64 (n5 : Nat)]] w fun e w' => e = .returned (.tuple #[.string S, .bool ok]) ∧ Below w.heap.size w w' := by
  have HN := Lib.hid hn; clear hn
  have HREC := Lib.hid hrec; clear hrec
  go_enter Try.func17, Try.ntmps17
  go_wp2_with fail
  have hR1 : (((w.alloc (.cells #[.int .u64 (n0 : Nat), .int .u64 (n1 : Nat), .int .u64 (n2 : Nat), .int .u64 (n3 : Nat), .int .u64 (n4 : Nat), .int .u64 (n5 : Nat)] 46)).alloc (.cells #[.int .i64 4, .int .i64 1, .int .i64 1, .int .i64 2, .int .i64 0, .int .i64 0] 3)).alloc (.cells #[.int .u64 (n0 : Nat), .int .u64 (n1 : Nat), .int .u64 (n2 : Nat), .int .u64 (n3 : Nat), .int .u64 (n4 : Nat), .int .u64 (n5 : Nat)] 22)).heap[w.heap.size + 1]? = some (.cells (rowI64 ytSizes) 3 (0, 0)) := by
    rw [Below.heap_alloc _ _ _ (by simp)]
    exact two_new _ _ _
  have hR2 : (((w.alloc (.cells #[.int .u64 (n0 : Nat), .int .u64 (n1 : Nat), .int .u64 (n2 : Nat), .int .u64 (n3 : Nat), .int .u64 (n4 : Nat), .int .u64 (n5 : Nat)] 46)).alloc (.cells #[.int .i64 4, .int .i64 1, .int .i64 1, .int .i64 2, .int .i64 0, .int .i64 0] 3)).alloc (.cells #[.int .u64 (n0 : Nat), .int .u64 (n1 : Nat), .int .u64 (n2 : Nat), .int .u64 (n3 : Nat), .int .u64 (n4 : Nat), .int .u64 (n5 : Nat)] 22)).heap[w.heap.size + 1 + 1]? = some (.cells (rowU64 [n0, n1, n2, n3, n4, n5]) 22 (0, 0)) := by
    have h := heap_alloc_new ((w.alloc (.cells #[.int .u64 (n0 : Nat), .int .u64 (n1 : Nat), .int .u64 (n2 : Nat), .int .u64 (n3 : Nat), .int .u64 (n4 : Nat), .int .u64 (n5 : Nat)] 46)).alloc (.cells #[.int .i64 4, .int .i64 1, .int .i64 1, .int .i64 2, .int .i64 0, .int .i64 0] 3)) (.cells #[.int .u64 (n0 : Nat), .int .u64 (n1 : Nat), .int .u64 (n2 : Nat), .int .u64 (n3 : Nat), .int .u64 (n4 : Nat), .int .u64 (n5 : Nat)] 22)
    have e : ((w.alloc (.cells #[.int .u64 (n0 : Nat), .int .u64 (n1 : Nat), .int .u64 (n2 : Nat), .int .u64 (n3 : Nat), .int .u64 (n4 : Nat), .int .u64 (n5 : Nat)] 46)).alloc (.cells #[.int .i64 4, .int .i64 1, .int .i64 1, .int .i64 2, .int .i64 0, .int .i64 0] 3)).heap.size = w.heap.size + 1 + 1 := by simp
    rw [e] at h
    exact h
  have hr1 : RowI (((w.alloc (.cells #[.int .u64 (n0 : Nat), .int .u64 (n1 : Nat), .int .u64 (n2 : Nat), .int .u64 (n3 : Nat), .int .u64 (n4 : Nat), .int .u64 (n5 : Nat)] 46)).alloc (.cells #[.int .i64 4, .int .i64 1, .int .i64 1, .int .i64 2, .int .i64 0, .int .i64 0] 3)).alloc (.cells #[.int .u64 (n0 : Nat), .int .u64 (n1 : Nat), .int .u64 (n2 : Nat), .int .u64 (n3 : Nat), .int .u64 (n4 : Nat), .int .u64 (n5 : Nat)] 22)) (some ⟨w.heap.size + 1, 0, none⟩) 6 ytSizes := RowI.of_rowT (by simp) hR1
  have hr2 : RowN (((w.alloc (.cells #[.int .u64 (n0 : Nat), .int .u64 (n1 : Nat), .int .u64 (n2 : Nat), .int .u64 (n3 : Nat), .int .u64 (n4 : Nat), .int .u64 (n5 : Nat)] 46)).alloc (.cells #[.int .i64 4, .int .i64 1, .int .i64 1, .int .i64 2, .int .i64 0, .int .i64 0] 3)).alloc (.cells #[.int .u64 (n0 : Nat), .int .u64 (n1 : Nat), .int .u64 (n2 : Nat), .int .u64 (n3 : Nat), .int .u64 (n4 : Nat), .int .u64 (n5 : Nat)] 22)) (some ⟨w.heap.size + 1 + 1, 0, none⟩) 6 [n0, n1, n2, n3, n4, n5] := RowN.of_rowT (by simp) hR2 HN.out
  refine (refRecord_is big true (some ⟨w.heap.size + 1, 0, none⟩) (some ⟨w.heap.size + 1 + 1, 0, none⟩) 6 6 6 6 ytSizes [n0, n1, n2, n3, n4, n5] S ok _ (by decide) hr1 hr2 HREC.out).mono ?_
  rintro e w3 ⟨rfl, hg3⟩
  have hW : Below w.heap.size w (((w.alloc (.cells #[.int .u64 (n0 : Nat), .int .u64 (n1 : Nat), .int .u64 (n2 : Nat), .int .u64 (n3 : Nat), .int .u64 (n4 : Nat), .int .u64 (n5 : Nat)] 46)).alloc (.cells #[.int .i64 4, .int .i64 1, .int .i64 1, .int .i64 2, .int .i64 0, .int .i64 0] 3)).alloc (.cells #[.int .u64 (n0 : Nat), .int .u64 (n1 : Nat), .int .u64 (n2 : Nat), .int .u64 (n3 : Nat), .int .u64 (n4 : Nat), .int .u64 (n5 : Nat)] 22)) := (((Below.refl _ _).alloc (Nat.le_refl _) _).alloc (by simp) _).alloc (by simp; omega) _
  clear hr1 hr2 hR1 hR2
  go_wp2
  go_ret2
  exact ⟨rfl, hW.trans (hg3.mono hW.size)⟩
set_option maxRecDepth 100000 in
set_option maxHeartbeats 2000000 in
theorem yfref (big : Bool) (n0 n1 n2 n3 n4 n5 : Nat) (hn : ∀ n ∈ [n0, n4, n5, n1, n2, n3], n < 2 ^ 64) (S : ByteArray) (ok : Bool) (hrec : RecIs big false yfSizes [n0, n4, n5, n1, n2, n3] 6 6 S ok) (w : World) :
    Calls Try.prog 17 #[.bool false, .bool big, .agg #[.int .u64 (n0 : Nat), .int .u64 (n1 : Nat), .int .u64 (n2 : Nat), .int .u64 (n3 : Nat), .int .u64 (n4 : Nat), .int .u64 (n5 : Nat)]] w fun e w' => e = .returned (.tuple #[.string S, .bool ok]) ∧ Below w.heap.size w w' := by
  have HN := Lib.hid hn; clear hn
  have HREC := Lib.hid hrec; clear hrec
  go_enter Try.func17, Try.ntmps17
  go_wp2_with fail
  have hR1 : (((w.alloc (.cells #[.int .u64 (n0 : Nat), .int .u64 (n1 : Nat), .int .u64 (n2 : Nat), .int .u64 (n3 : Nat), .int .u64 (n4 : Nat), .int .u64 (n5 : Nat)] 46)).alloc (.cells #[.int .i64 4, .int .i64 0, .int .i64 0, .int .i64 1, .int .i64 1, .int .i64 2] 3)).alloc (.cells #[.int .u64 (n0 : Nat), .int .u64 (n4 : Nat), .int .u64 (n5 : Nat), .int .u64 (n1 : Nat), .int .u64 (n2 : Nat), .int .u64 (n3 : Nat)] 22)).heap[w.heap.size + 1]? = some (.cells (rowI64 yfSizes) 3 (0, 0)) := by
    rw [Below.heap_alloc _ _ _ (by simp)]
    exact two_new _ _ _
  have hR2 : (((w.alloc (.cells #[.int .u64 (n0 : Nat), .int .u64 (n1 : Nat), .int .u64 (n2 : Nat), .int .u64 (n3 : Nat), .int .u64 (n4 : Nat), .int .u64 (n5 : Nat)] 46)).alloc (.cells #[.int .i64 4, .int .i64 0, .int .i64 0, .int .i64 1, .int .i64 1, .int .i64 2] 3)).alloc (.cells #[.int .u64 (n0 : Nat), .int .u64 (n4 : Nat), .int .u64 (n5 : Nat), .int .u64 (n1 : Nat), .int .u64 (n2 : Nat), .int .u64 (n3 : Nat)] 22)).heap[w.heap.size + 1 + 1]? = some (.cells (rowU64 [n0, n4, n5, n1, n2, n3]) 22 (0, 0)) := by
    have h := heap_alloc_new ((w.alloc (.cells #[.int .u64 (n0 : Nat), .int .u64 (n1 : Nat), .int .u64 (n2 : Nat), .int .u64 (n3 : Nat), .int .u64 (n4 : Nat), .int .u64 (n5 : Nat)] 46)).alloc (.cells #[.int .i64 4, .int .i64 0, .int .i64 0, .int .i64 1, .int .i64 1, .int .i64 2] 3)) (.cells #[.int .u64 (n0 : Nat), .int .u64 (n4 : Nat), .int .u64 (n5 : Nat), .int .u64 (n1 : Nat), .int .u64 (n2 : Nat), .int .u64 (n3 : Nat)] 22)
    have e : ((w.alloc (.cells #[.int .u64 (n0 : Nat), .int .u64 (n1 : Nat), .int .u64 (n2 : Nat), .int .u64 (n3 : Nat), .int .u64 (n4 : Nat), .int .u64 (n5 : Nat)] 46)).alloc (.cells #[.int .i64 4, .int .i64 0, .int .i64 0, .int .i64 1, .int .i64 1, .int .i64 2] 3)).heap.size = w.heap.size + 1 + 1 := by simp
    rw [e] at h
    exact h
  have hr1 : RowI (((w.alloc (.cells #[.int .u64 (n0 : Nat), .int .u64 (n1 : Nat), .int .u64 (n2 : Nat), .int .u64 (n3 : Nat), .int .u64 (n4 : Nat), .int .u64 (n5 : Nat)] 46)).alloc (.cells #[.int .i64 4, .int .i64 0, .int .i64 0, .int .i64 1, .int .i64 1, .int .i64 2] 3)).alloc (.cells #[.int .u64 (n0 : Nat), .int .u64 (n4 : Nat), .int .u64 (n5 : Nat), .int .u64 (n1 : Nat), .int .u64 (n2 : Nat), .int .u64 (n3 : Nat)] 22)) (some ⟨w.heap.size + 1, 0, none⟩) 6 yfSizes := RowI.of_rowT (by simp) hR1
  have hr2 : RowN (((w.alloc (.cells #[.int .u64 (n0 : Nat), .int .u64 (n1 : Nat), .int .u64 (n2 : Nat), .int .u64 (n3 : Nat), .int .u64 (n4 : Nat), .int .u64 (n5 : Nat)] 46)).alloc (.cells #[.int .i64 4, .int .i64 0, .int .i64 0, .int .i64 1, .int .i64 1, .int .i64 2] 3)).alloc (.cells #[.int .u64 (n0 : Nat), .int .u64 (n4 : Nat), .int .u64 (n5 : Nat), .int .u64 (n1 : Nat), .int .u64 (n2 : Nat), .int .u64 (n3 : Nat)] 22)) (some ⟨w.heap.size + 1 + 1, 0, none⟩) 6 [n0, n4, n5, n1, n2, n3] := RowN.of_rowT (by simp) hR2 HN.out
  refine (refRecord_is big false (some ⟨w.heap.size + 1, 0, none⟩) (some ⟨w.heap.size + 1 + 1, 0, none⟩) 6 6 6 6 yfSizes [n0, n4, n5, n1, n2, n3] S ok _ (by decide) hr1 hr2 HREC.out).mono ?_
  rintro e w3 ⟨rfl, hg3⟩
  have hW : Below w.heap.size w (((w.alloc (.cells #[.int .u64 (n0 : Nat), .int .u64 (n1 : Nat), .int .u64 (n2 : Nat), .int .u64 (n3 : Nat), .int .u64 (n4 : Nat), .int .u64 (n5 : Nat)] 46)).alloc (.cells #[.int .i64 4, .int .i64 0, .int .i64 0, .int .i64 1, .int .i64 1, .int .i64 2] 3)).alloc (.cells #[.int .u64 (n0 : Nat), .int .u64 (n4 : Nat), .int .u64 (n5 : Nat), .int .u64 (n1 : Nat), .int .u64 (n2 : Nat), .int .u64 (n3 : Nat)] 22)) := (((Below.refl _ _).alloc (Nat.le_refl _) _).alloc (by simp) _).alloc (by simp; omega) _
  clear hr1 hr2 hR1 hR2
  go_wp2
  go_ret2
  exact ⟨rfl, hW.trans (hg3.mono hW.size)⟩
end Go.Proofs.Ytmbndepgkglaeaa
