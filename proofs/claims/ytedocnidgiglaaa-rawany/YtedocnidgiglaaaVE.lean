/- The reference's Head. Conditions: those written in each theorem. -/
import Derived.Test.YtedocnidgiglaaaNV
import Derived.Test.YtedocnidgiglaaaVD
namespace Go.Proofs.Ytedocnidgiglaaa
open Go.RowKit
set_option linter.unusedVariables false
theorem results_ttc {fn : Func} {p a b c : Tmp} {ty : TypeId} (h : fn.results = #[.tmp a, .tmp b, .tmp c, .cell p ty]) (tmps : Array Value) (P : Program) (w : World) :
    (results fn tmps).run P w = ((asAddr (tmps.getD p undef)).run P w).andThen fun x w1 => ((loadVar ty x).run P w1).andThen fun v w2 => .ok (.tuple #[tmps.getD a undef, tmps.getD b undef, tmps.getD c undef, v]) w2 := by
  simp only [results, h]
  simp [Sem.run_bind, Result.andThen]
theorem head_res {a b c : Value} (tm : Array Value) (w : World) (T : Nat) (h2 : tm.getD 2 undef = a) (h3 : tm.getD 3 undef = b) (h4 : tm.getD 4 undef = c) (h5 : tm.getD 5 undef = .pointer (some ⟨T, 0, none⟩)) {x0 x1 x2 x3 x4 x5 : Nat} (hT : w.heap[T]? = some (.cells #[.int .u64 (x0 : Nat), .int .u64 (x1 : Nat), .int .u64 (x2 : Nat), .int .u64 (x3 : Nat), .int .u64 (x4 : Nat), .int .u64 (x5 : Nat)] 47 (0, 0))) :
    (results Try.f18 tm).run Try.prog w = .ok (.tuple #[a, b, c, .agg #[.int .u64 (x0 : Nat), .int .u64 (x1 : Nat), .int .u64 (x2 : Nat), .int .u64 (x3 : Nat), .int .u64 (x4 : Nat), .int .u64 (x5 : Nat)]]) w := by
  have hl : (loadVar 47 ⟨T, 0, none⟩).run Try.prog w = .ok (.agg #[.int .u64 (x0 : Nat), .int .u64 (x1 : Nat), .int .u64 (x2 : Nat), .int .u64 (x3 : Nat), .int .u64 (x4 : Nat), .int .u64 (x5 : Nat)]) w := run_loadVar_mid w T 0 47 [.int .u64 (x0 : Nat), .int .u64 (x1 : Nat), .int .u64 (x2 : Nat), .int .u64 (x3 : Nat), .int .u64 (x4 : Nat), .int .u64 (x5 : Nat)] _ (range_of hT (by rfl)) Try.underlying47 (by rfl) (by kernel_rfl)
  have ha : (asAddr (.pointer (some ⟨T, 0, none⟩))).run Try.prog w = .ok ⟨T, 0, none⟩ w := rfl
  rw [results_ttc Try.results18, h2, h3, h4, h5, ha, Result.andThen_ok, hl, Result.andThen_ok]
set_option maxRecDepth 100000 in
set_option maxHeartbeats 4000000 in
theorem head_4 (s : ByteArray) (w : World) (hs : s.size ≤ 1048576) (hz : 52 ≤ s.size) (hw : wideB s = false) (g : Nat → Nat) (x y : Nat) (hg : g = fun j => numV (bigB s) s (40 + 2 * j) 2) (hx : x = numV (bigB s) s 28 4) (hy : y = numV (bigB s) s 32 4) : Calls Try.prog 18 #[.string s] w fun e w' => e = .returned (.tuple #[.int .u64 4, .int .u64 (x : Nat), .int .u64 (y : Nat), .agg #[.int .u64 (g 0 : Nat), .int .u64 (g 1 : Nat), .int .u64 (g 2 : Nat), .int .u64 (g 3 : Nat), .int .u64 (g 4 : Nat), .int .u64 (g 5 : Nat)]]) ∧ Below w.heap.size w w' := by
  have hM : s.size ≤ maxLen := by unfold maxLen; omega
  have g4 : (4 : Int) < (s.size : Int) := by omega
  have g5 : (5 : Int) < (s.size : Int) := by omega
  have b4 := byteN_at s 4 (by omega); have b5 := byteN_at s 5 (by omega)
  have q5 : ((s[5].toNat : Int) == 2) = bigB s := by rw [b5]; rfl
  have q4 : ((s[4].toNat : Int) == 2) = false := by rw [b4]; exact hw
  have HG0 := Lib.hid (show ∀ u, Calls Try.prog 57 #[.bool (bigB s), .string s, .int .u64 40, .int .u64 2] u fun e w' => e = .returned (.int .u64 (g 0 : Nat)) ∧ u = w' from fun u => by rw [hg]; exact num_any (bigB s) s 40 2 u hs (by omega))
  have HG1 := Lib.hid (show ∀ u, Calls Try.prog 57 #[.bool (bigB s), .string s, .int .u64 42, .int .u64 2] u fun e w' => e = .returned (.int .u64 (g 1 : Nat)) ∧ u = w' from fun u => by rw [hg]; exact num_any (bigB s) s 42 2 u hs (by omega))
  have HG2 := Lib.hid (show ∀ u, Calls Try.prog 57 #[.bool (bigB s), .string s, .int .u64 44, .int .u64 2] u fun e w' => e = .returned (.int .u64 (g 2 : Nat)) ∧ u = w' from fun u => by rw [hg]; exact num_any (bigB s) s 44 2 u hs (by omega))
  have HG3 := Lib.hid (show ∀ u, Calls Try.prog 57 #[.bool (bigB s), .string s, .int .u64 46, .int .u64 2] u fun e w' => e = .returned (.int .u64 (g 3 : Nat)) ∧ u = w' from fun u => by rw [hg]; exact num_any (bigB s) s 46 2 u hs (by omega))
  have HG4 := Lib.hid (show ∀ u, Calls Try.prog 57 #[.bool (bigB s), .string s, .int .u64 48, .int .u64 2] u fun e w' => e = .returned (.int .u64 (g 4 : Nat)) ∧ u = w' from fun u => by rw [hg]; exact num_any (bigB s) s 48 2 u hs (by omega))
  have HG5 := Lib.hid (show ∀ u, Calls Try.prog 57 #[.bool (bigB s), .string s, .int .u64 50, .int .u64 2] u fun e w' => e = .returned (.int .u64 (g 5 : Nat)) ∧ u = w' from fun u => by rw [hg]; exact num_any (bigB s) s 50 2 u hs (by omega))
  have HX := Lib.hid (show ∀ u, Calls Try.prog 57 #[.bool (bigB s), .string s, .int .u64 28, .int .u64 4] u fun e w' => e = .returned (.int .u64 (x : Nat)) ∧ u = w' from fun u => by rw [hx]; exact num_any (bigB s) s 28 4 u hs (by omega))
  have HY := Lib.hid (show ∀ u, Calls Try.prog 57 #[.bool (bigB s), .string s, .int .u64 32, .int .u64 4] u fun e w' => e = .returned (.int .u64 (y : Nat)) ∧ u = w' from fun u => by rw [hy]; exact num_any (bigB s) s 32 4 u hs (by omega))
  clear hg hx hy b4 b5 hw
  generalize bigB s = big at *
  go_enter Try.func18, Try.ntmps18
  go_upto_region 6 with (fail)
  clear q4 q5
  have hT : ((w.alloc (.cells #[.int .u64 0, .int .u64 0, .int .u64 0, .int .u64 0, .int .u64 0, .int .u64 0] 47)).alloc (.cells #[.int .u64 0, .int .u64 0, .int .u64 0, .int .u64 0, .int .u64 0, .int .u64 0] 47)).heap[w.heap.size]? = some (.cells #[.int .u64 0, .int .u64 0, .int .u64 0, .int .u64 0, .int .u64 0, .int .u64 0] 47 (0, 0)) := heap_up (.cells #[.int .u64 0, .int .u64 0, .int .u64 0, .int .u64 0, .int .u64 0, .int .u64 0] 47) (heap_alloc_new w (.cells #[.int .u64 0, .int .u64 0, .int .u64 0, .int .u64 0, .int .u64 0, .int .u64 0] 47))
  have hB : ((w.alloc (.cells #[.int .u64 0, .int .u64 0, .int .u64 0, .int .u64 0, .int .u64 0, .int .u64 0] 47)).alloc (.cells #[.int .u64 0, .int .u64 0, .int .u64 0, .int .u64 0, .int .u64 0, .int .u64 0] 47)).heap[w.heap.size + 1]? = some (.cells #[.int .u64 0, .int .u64 0, .int .u64 0, .int .u64 0, .int .u64 0, .int .u64 0] 47 (0, 0)) := by
    have q := heap_alloc_new (w.alloc (.cells #[.int .u64 0, .int .u64 0, .int .u64 0, .int .u64 0, .int .u64 0, .int .u64 0] 47)) (.cells #[.int .u64 0, .int .u64 0, .int .u64 0, .int .u64 0, .int .u64 0, .int .u64 0] 47)
    simpa using q
  have hBel : Below w.heap.size w ((w.alloc (.cells #[.int .u64 0, .int .u64 0, .int .u64 0, .int .u64 0, .int .u64 0, .int .u64 0] 47)).alloc (.cells #[.int .u64 0, .int .u64 0, .int .u64 0, .int .u64 0, .int .u64 0, .int .u64 0] 47)) := below_more (below_more (Below.refl w.heap.size w) (.cells #[.int .u64 0, .int .u64 0, .int .u64 0, .int .u64 0, .int .u64 0, .int .u64 0] 47)) (.cells #[.int .u64 0, .int .u64 0, .int .u64 0, .int .u64 0, .int .u64 0, .int .u64 0] 47)
  generalize ((w.alloc (.cells #[.int .u64 0, .int .u64 0, .int .u64 0, .int .u64 0, .int .u64 0, .int .u64 0] 47)).alloc (.cells #[.int .u64 0, .int .u64 0, .int .u64 0, .int .u64 0, .int .u64 0, .int .u64 0] 47)) = W0 at *
  have hwB : w.heap.size ≤ w.heap.size + 1 := by omega
  have hRB : w.heap.size ≠ w.heap.size + 1 := by omega
  generalize w.heap.size + 1 = B at *
  have hwR : w.heap.size ≤ w.heap.size := by omega
  have HTT0 := Lib.hid hT; have HROW0 := Lib.hid hB; have HBel := Lib.hid hBel
  clear hT hB hBel
  go_wp2
  go_loopw [9] (fun i wr => ∃ k : Nat, k ≤ 6 ∧ i = .int .u64 (k : Int) ∧ wr.heap[B]? = some (.cells #[.int .u64 ((if 0 < k then g 0 else 0 : Nat) : Nat), .int .u64 ((if 1 < k then g 1 else 0 : Nat) : Nat), .int .u64 ((if 2 < k then g 2 else 0 : Nat) : Nat), .int .u64 ((if 3 < k then g 3 else 0 : Nat) : Nat), .int .u64 ((if 4 < k then g 4 else 0 : Nat) : Nat), .int .u64 ((if 5 < k then g 5 else 0 : Nat) : Nat)] 47 (0, 0)) ∧ wr.heap[w.heap.size]? = some (.cells #[.int .u64 0, .int .u64 0, .int .u64 0, .int .u64 0, .int .u64 0, .int .u64 0] 47 (0, 0)) ∧ Below w.heap.size w wr) (fun i _ => 6 - (intOf i).toNat)
  case atStart => exact ⟨0, by decide, rfl, HROW0.out, HTT0.out, HBel.out⟩
  case round =>
    obtain ⟨k, hk, rfl, hrow, hTT, hBB⟩ := hrel
    have HTT := Lib.hid hTT; have HBB := Lib.hid hBB; clear hTT hBB
    rcases (show k = 0 ∨ k = 1 ∨ k = 2 ∨ k = 3 ∨ k = 4 ∨ k = 5 ∨ k = 6 by omega) with rfl | rfl | rfl | rfl | rfl | rfl | rfl
    · have hr : wr.heap[B]? = some (.cells #[.int .u64 0, .int .u64 0, .int .u64 0, .int .u64 0, .int .u64 0, .int .u64 0] 47 (0, 0)) := hrow
      have c : wr.cell? ⟨B, 0, none⟩ = some (.int .u64 0) := by rw [Lib.cell_of_heap hr]; rfl
      have f : wr.frozen? ⟨B, 0, none⟩ = false := Lib.frozen_of_heap hr 0
      have HR1 : Hid ((wr.setCell ⟨B, 0, none⟩ (.int .u64 (g 0 : Nat))).heap[B]? = some (.cells #[.int .u64 (g 0 : Nat), .int .u64 0, .int .u64 0, .int .u64 0, .int .u64 0, .int .u64 0] 47 (0, 0))) := Lib.hid (by have q := Lib.heap_setCell_same (i := 0) hr (.int .u64 (g 0 : Nat)); simpa using q)
      have HB1 : Hid (Below w.heap.size w (wr.setCell ⟨B, 0, none⟩ (.int .u64 (g 0 : Nat)))) := Lib.hid (HBB.out.setCell (p := ⟨B, 0, none⟩) hwB _)
      have HT1 : Hid ((wr.setCell ⟨B, 0, none⟩ (.int .u64 (g 0 : Nat))).heap[w.heap.size]? = some (.cells #[.int .u64 0, .int .u64 0, .int .u64 0, .int .u64 0, .int .u64 0, .int .u64 0] 47 (0, 0))) := Lib.hid (stay_at HTT.out (OnlyAt.setCell B 0 wr _) hRB)
      clear hr hrow
      go_wp2_with fail
      refine (HG0.out _).mono ?_
      rintro e w5 ⟨rfl, rfl⟩
      go_wp2
      exact ⟨⟨1, by decide, by first | rfl | go_num, HR1.out, HT1.out, HB1.out⟩, by simp [intOf]⟩
    · have hr : wr.heap[B]? = some (.cells #[.int .u64 (g 0 : Nat), .int .u64 0, .int .u64 0, .int .u64 0, .int .u64 0, .int .u64 0] 47 (0, 0)) := hrow
      have c : wr.cell? ⟨B, 1, none⟩ = some (.int .u64 0) := by rw [Lib.cell_of_heap hr]; rfl
      have f : wr.frozen? ⟨B, 1, none⟩ = false := Lib.frozen_of_heap hr 1
      have HR1 : Hid ((wr.setCell ⟨B, 1, none⟩ (.int .u64 (g 1 : Nat))).heap[B]? = some (.cells #[.int .u64 (g 0 : Nat), .int .u64 (g 1 : Nat), .int .u64 0, .int .u64 0, .int .u64 0, .int .u64 0] 47 (0, 0))) := Lib.hid (by have q := Lib.heap_setCell_same (i := 1) hr (.int .u64 (g 1 : Nat)); simpa using q)
      have HB1 : Hid (Below w.heap.size w (wr.setCell ⟨B, 1, none⟩ (.int .u64 (g 1 : Nat)))) := Lib.hid (HBB.out.setCell (p := ⟨B, 1, none⟩) hwB _)
      have HT1 : Hid ((wr.setCell ⟨B, 1, none⟩ (.int .u64 (g 1 : Nat))).heap[w.heap.size]? = some (.cells #[.int .u64 0, .int .u64 0, .int .u64 0, .int .u64 0, .int .u64 0, .int .u64 0] 47 (0, 0))) := Lib.hid (stay_at HTT.out (OnlyAt.setCell B 1 wr _) hRB)
      clear hr hrow
      go_wp2_with fail
      refine (HG1.out _).mono ?_
      rintro e w5 ⟨rfl, rfl⟩
      go_wp2
      exact ⟨⟨2, by decide, by first | rfl | go_num, HR1.out, HT1.out, HB1.out⟩, by simp [intOf]⟩
    · have hr : wr.heap[B]? = some (.cells #[.int .u64 (g 0 : Nat), .int .u64 (g 1 : Nat), .int .u64 0, .int .u64 0, .int .u64 0, .int .u64 0] 47 (0, 0)) := hrow
      have c : wr.cell? ⟨B, 2, none⟩ = some (.int .u64 0) := by rw [Lib.cell_of_heap hr]; rfl
      have f : wr.frozen? ⟨B, 2, none⟩ = false := Lib.frozen_of_heap hr 2
      have HR1 : Hid ((wr.setCell ⟨B, 2, none⟩ (.int .u64 (g 2 : Nat))).heap[B]? = some (.cells #[.int .u64 (g 0 : Nat), .int .u64 (g 1 : Nat), .int .u64 (g 2 : Nat), .int .u64 0, .int .u64 0, .int .u64 0] 47 (0, 0))) := Lib.hid (by have q := Lib.heap_setCell_same (i := 2) hr (.int .u64 (g 2 : Nat)); simpa using q)
      have HB1 : Hid (Below w.heap.size w (wr.setCell ⟨B, 2, none⟩ (.int .u64 (g 2 : Nat)))) := Lib.hid (HBB.out.setCell (p := ⟨B, 2, none⟩) hwB _)
      have HT1 : Hid ((wr.setCell ⟨B, 2, none⟩ (.int .u64 (g 2 : Nat))).heap[w.heap.size]? = some (.cells #[.int .u64 0, .int .u64 0, .int .u64 0, .int .u64 0, .int .u64 0, .int .u64 0] 47 (0, 0))) := Lib.hid (stay_at HTT.out (OnlyAt.setCell B 2 wr _) hRB)
      clear hr hrow
      go_wp2_with fail
      refine (HG2.out _).mono ?_
      rintro e w5 ⟨rfl, rfl⟩
      go_wp2
      exact ⟨⟨3, by decide, by first | rfl | go_num, HR1.out, HT1.out, HB1.out⟩, by simp [intOf]⟩
    · have hr : wr.heap[B]? = some (.cells #[.int .u64 (g 0 : Nat), .int .u64 (g 1 : Nat), .int .u64 (g 2 : Nat), .int .u64 0, .int .u64 0, .int .u64 0] 47 (0, 0)) := hrow
      have c : wr.cell? ⟨B, 3, none⟩ = some (.int .u64 0) := by rw [Lib.cell_of_heap hr]; rfl
      have f : wr.frozen? ⟨B, 3, none⟩ = false := Lib.frozen_of_heap hr 3
      have HR1 : Hid ((wr.setCell ⟨B, 3, none⟩ (.int .u64 (g 3 : Nat))).heap[B]? = some (.cells #[.int .u64 (g 0 : Nat), .int .u64 (g 1 : Nat), .int .u64 (g 2 : Nat), .int .u64 (g 3 : Nat), .int .u64 0, .int .u64 0] 47 (0, 0))) := Lib.hid (by have q := Lib.heap_setCell_same (i := 3) hr (.int .u64 (g 3 : Nat)); simpa using q)
      have HB1 : Hid (Below w.heap.size w (wr.setCell ⟨B, 3, none⟩ (.int .u64 (g 3 : Nat)))) := Lib.hid (HBB.out.setCell (p := ⟨B, 3, none⟩) hwB _)
      have HT1 : Hid ((wr.setCell ⟨B, 3, none⟩ (.int .u64 (g 3 : Nat))).heap[w.heap.size]? = some (.cells #[.int .u64 0, .int .u64 0, .int .u64 0, .int .u64 0, .int .u64 0, .int .u64 0] 47 (0, 0))) := Lib.hid (stay_at HTT.out (OnlyAt.setCell B 3 wr _) hRB)
      clear hr hrow
      go_wp2_with fail
      refine (HG3.out _).mono ?_
      rintro e w5 ⟨rfl, rfl⟩
      go_wp2
      exact ⟨⟨4, by decide, by first | rfl | go_num, HR1.out, HT1.out, HB1.out⟩, by simp [intOf]⟩
    · have hr : wr.heap[B]? = some (.cells #[.int .u64 (g 0 : Nat), .int .u64 (g 1 : Nat), .int .u64 (g 2 : Nat), .int .u64 (g 3 : Nat), .int .u64 0, .int .u64 0] 47 (0, 0)) := hrow
      have c : wr.cell? ⟨B, 4, none⟩ = some (.int .u64 0) := by rw [Lib.cell_of_heap hr]; rfl
      have f : wr.frozen? ⟨B, 4, none⟩ = false := Lib.frozen_of_heap hr 4
      have HR1 : Hid ((wr.setCell ⟨B, 4, none⟩ (.int .u64 (g 4 : Nat))).heap[B]? = some (.cells #[.int .u64 (g 0 : Nat), .int .u64 (g 1 : Nat), .int .u64 (g 2 : Nat), .int .u64 (g 3 : Nat), .int .u64 (g 4 : Nat), .int .u64 0] 47 (0, 0))) := Lib.hid (by have q := Lib.heap_setCell_same (i := 4) hr (.int .u64 (g 4 : Nat)); simpa using q)
      have HB1 : Hid (Below w.heap.size w (wr.setCell ⟨B, 4, none⟩ (.int .u64 (g 4 : Nat)))) := Lib.hid (HBB.out.setCell (p := ⟨B, 4, none⟩) hwB _)
      have HT1 : Hid ((wr.setCell ⟨B, 4, none⟩ (.int .u64 (g 4 : Nat))).heap[w.heap.size]? = some (.cells #[.int .u64 0, .int .u64 0, .int .u64 0, .int .u64 0, .int .u64 0, .int .u64 0] 47 (0, 0))) := Lib.hid (stay_at HTT.out (OnlyAt.setCell B 4 wr _) hRB)
      clear hr hrow
      go_wp2_with fail
      refine (HG4.out _).mono ?_
      rintro e w5 ⟨rfl, rfl⟩
      go_wp2
      exact ⟨⟨5, by decide, by first | rfl | go_num, HR1.out, HT1.out, HB1.out⟩, by simp [intOf]⟩
    · have hr : wr.heap[B]? = some (.cells #[.int .u64 (g 0 : Nat), .int .u64 (g 1 : Nat), .int .u64 (g 2 : Nat), .int .u64 (g 3 : Nat), .int .u64 (g 4 : Nat), .int .u64 0] 47 (0, 0)) := hrow
      have c : wr.cell? ⟨B, 5, none⟩ = some (.int .u64 0) := by rw [Lib.cell_of_heap hr]; rfl
      have f : wr.frozen? ⟨B, 5, none⟩ = false := Lib.frozen_of_heap hr 5
      have HR1 : Hid ((wr.setCell ⟨B, 5, none⟩ (.int .u64 (g 5 : Nat))).heap[B]? = some (.cells #[.int .u64 (g 0 : Nat), .int .u64 (g 1 : Nat), .int .u64 (g 2 : Nat), .int .u64 (g 3 : Nat), .int .u64 (g 4 : Nat), .int .u64 (g 5 : Nat)] 47 (0, 0))) := Lib.hid (by have q := Lib.heap_setCell_same (i := 5) hr (.int .u64 (g 5 : Nat)); simpa using q)
      have HB1 : Hid (Below w.heap.size w (wr.setCell ⟨B, 5, none⟩ (.int .u64 (g 5 : Nat)))) := Lib.hid (HBB.out.setCell (p := ⟨B, 5, none⟩) hwB _)
      have HT1 : Hid ((wr.setCell ⟨B, 5, none⟩ (.int .u64 (g 5 : Nat))).heap[w.heap.size]? = some (.cells #[.int .u64 0, .int .u64 0, .int .u64 0, .int .u64 0, .int .u64 0, .int .u64 0] 47 (0, 0))) := Lib.hid (stay_at HTT.out (OnlyAt.setCell B 5 wr _) hRB)
      clear hr hrow
      go_wp2_with fail
      refine (HG5.out _).mono ?_
      rintro e w5 ⟨rfl, rfl⟩
      go_wp2
      exact ⟨⟨6, by decide, by first | rfl | go_num, HR1.out, HT1.out, HB1.out⟩, by simp [intOf]⟩
    · have hr : wr.heap[B]? = some (.cells #[.int .u64 (g 0 : Nat), .int .u64 (g 1 : Nat), .int .u64 (g 2 : Nat), .int .u64 (g 3 : Nat), .int .u64 (g 4 : Nat), .int .u64 (g 5 : Nat)] 47 (0, 0)) := hrow
      have HR := Lib.hid hr; clear hr hrow
      go_upto_region 10 with (fail)
      refine hdreg_4 _ _ _ _ _ _ _ _ _ _ _ _ _ _ _ _ _ _ _ _ _ _ _ _ _ _ _ _ _ _ _ _ _ _ _ _ _ _ _ _ _ _ B w.heap.size big s (g 0) (g 1) (g 2) (g 3) (g 4) (g 5) x y wr HR.out HTT.out (Ne.symm hRB) HX HY (fun _ _ _ _ _ h => h) (fun u31 u32 u33 u34 u35 u36 u37 u38 u39 u40 u41 u42 u43 u44 u45 w6 hT6 o6 => ?_)
      have HT6 := Lib.hid hT6; have HB6 := Lib.hid (HBB.out.trans (o6.below HBB.out.size (Nat.le_refl _))); clear hT6 o6
      go_wp2
      refine bodyPost_ret (head_res _ _ w.heap.size rfl rfl rfl rfl HT6.out) rfl ⟨rfl, HB6.out⟩
set_option maxRecDepth 100000 in
set_option maxHeartbeats 4000000 in
theorem head_8 (s : ByteArray) (w : World) (hs : s.size ≤ 1048576) (hz : 64 ≤ s.size) (hw : wideB s = true) (g : Nat → Nat) (x y : Nat) (hg : g = fun j => numV (bigB s) s (52 + 2 * j) 2) (hx : x = numV (bigB s) s 32 8) (hy : y = numV (bigB s) s 40 8) : Calls Try.prog 18 #[.string s] w fun e w' => e = .returned (.tuple #[.int .u64 8, .int .u64 (x : Nat), .int .u64 (y : Nat), .agg #[.int .u64 (g 0 : Nat), .int .u64 (g 1 : Nat), .int .u64 (g 2 : Nat), .int .u64 (g 3 : Nat), .int .u64 (g 4 : Nat), .int .u64 (g 5 : Nat)]]) ∧ Below w.heap.size w w' := by
  have hM : s.size ≤ maxLen := by unfold maxLen; omega
  have g4 : (4 : Int) < (s.size : Int) := by omega
  have g5 : (5 : Int) < (s.size : Int) := by omega
  have b4 := byteN_at s 4 (by omega); have b5 := byteN_at s 5 (by omega)
  have q5 : ((s[5].toNat : Int) == 2) = bigB s := by rw [b5]; rfl
  have q4 : ((s[4].toNat : Int) == 2) = true := by rw [b4]; exact hw
  have HG0 := Lib.hid (show ∀ u, Calls Try.prog 57 #[.bool (bigB s), .string s, .int .u64 52, .int .u64 2] u fun e w' => e = .returned (.int .u64 (g 0 : Nat)) ∧ u = w' from fun u => by rw [hg]; exact num_any (bigB s) s 52 2 u hs (by omega))
  have HG1 := Lib.hid (show ∀ u, Calls Try.prog 57 #[.bool (bigB s), .string s, .int .u64 54, .int .u64 2] u fun e w' => e = .returned (.int .u64 (g 1 : Nat)) ∧ u = w' from fun u => by rw [hg]; exact num_any (bigB s) s 54 2 u hs (by omega))
  have HG2 := Lib.hid (show ∀ u, Calls Try.prog 57 #[.bool (bigB s), .string s, .int .u64 56, .int .u64 2] u fun e w' => e = .returned (.int .u64 (g 2 : Nat)) ∧ u = w' from fun u => by rw [hg]; exact num_any (bigB s) s 56 2 u hs (by omega))
  have HG3 := Lib.hid (show ∀ u, Calls Try.prog 57 #[.bool (bigB s), .string s, .int .u64 58, .int .u64 2] u fun e w' => e = .returned (.int .u64 (g 3 : Nat)) ∧ u = w' from fun u => by rw [hg]; exact num_any (bigB s) s 58 2 u hs (by omega))
  have HG4 := Lib.hid (show ∀ u, Calls Try.prog 57 #[.bool (bigB s), .string s, .int .u64 60, .int .u64 2] u fun e w' => e = .returned (.int .u64 (g 4 : Nat)) ∧ u = w' from fun u => by rw [hg]; exact num_any (bigB s) s 60 2 u hs (by omega))
  have HG5 := Lib.hid (show ∀ u, Calls Try.prog 57 #[.bool (bigB s), .string s, .int .u64 62, .int .u64 2] u fun e w' => e = .returned (.int .u64 (g 5 : Nat)) ∧ u = w' from fun u => by rw [hg]; exact num_any (bigB s) s 62 2 u hs (by omega))
  have HX := Lib.hid (show ∀ u, Calls Try.prog 57 #[.bool (bigB s), .string s, .int .u64 32, .int .u64 8] u fun e w' => e = .returned (.int .u64 (x : Nat)) ∧ u = w' from fun u => by rw [hx]; exact num_any (bigB s) s 32 8 u hs (by omega))
  have HY := Lib.hid (show ∀ u, Calls Try.prog 57 #[.bool (bigB s), .string s, .int .u64 40, .int .u64 8] u fun e w' => e = .returned (.int .u64 (y : Nat)) ∧ u = w' from fun u => by rw [hy]; exact num_any (bigB s) s 40 8 u hs (by omega))
  clear hg hx hy b4 b5 hw
  generalize bigB s = big at *
  go_enter Try.func18, Try.ntmps18
  go_upto_region 6 with (fail)
  clear q4 q5
  have hT : ((w.alloc (.cells #[.int .u64 0, .int .u64 0, .int .u64 0, .int .u64 0, .int .u64 0, .int .u64 0] 47)).alloc (.cells #[.int .u64 0, .int .u64 0, .int .u64 0, .int .u64 0, .int .u64 0, .int .u64 0] 47)).heap[w.heap.size]? = some (.cells #[.int .u64 0, .int .u64 0, .int .u64 0, .int .u64 0, .int .u64 0, .int .u64 0] 47 (0, 0)) := heap_up (.cells #[.int .u64 0, .int .u64 0, .int .u64 0, .int .u64 0, .int .u64 0, .int .u64 0] 47) (heap_alloc_new w (.cells #[.int .u64 0, .int .u64 0, .int .u64 0, .int .u64 0, .int .u64 0, .int .u64 0] 47))
  have hB : ((w.alloc (.cells #[.int .u64 0, .int .u64 0, .int .u64 0, .int .u64 0, .int .u64 0, .int .u64 0] 47)).alloc (.cells #[.int .u64 0, .int .u64 0, .int .u64 0, .int .u64 0, .int .u64 0, .int .u64 0] 47)).heap[w.heap.size + 1]? = some (.cells #[.int .u64 0, .int .u64 0, .int .u64 0, .int .u64 0, .int .u64 0, .int .u64 0] 47 (0, 0)) := by
    have q := heap_alloc_new (w.alloc (.cells #[.int .u64 0, .int .u64 0, .int .u64 0, .int .u64 0, .int .u64 0, .int .u64 0] 47)) (.cells #[.int .u64 0, .int .u64 0, .int .u64 0, .int .u64 0, .int .u64 0, .int .u64 0] 47)
    simpa using q
  have hBel : Below w.heap.size w ((w.alloc (.cells #[.int .u64 0, .int .u64 0, .int .u64 0, .int .u64 0, .int .u64 0, .int .u64 0] 47)).alloc (.cells #[.int .u64 0, .int .u64 0, .int .u64 0, .int .u64 0, .int .u64 0, .int .u64 0] 47)) := below_more (below_more (Below.refl w.heap.size w) (.cells #[.int .u64 0, .int .u64 0, .int .u64 0, .int .u64 0, .int .u64 0, .int .u64 0] 47)) (.cells #[.int .u64 0, .int .u64 0, .int .u64 0, .int .u64 0, .int .u64 0, .int .u64 0] 47)
  generalize ((w.alloc (.cells #[.int .u64 0, .int .u64 0, .int .u64 0, .int .u64 0, .int .u64 0, .int .u64 0] 47)).alloc (.cells #[.int .u64 0, .int .u64 0, .int .u64 0, .int .u64 0, .int .u64 0, .int .u64 0] 47)) = W0 at *
  have hwB : w.heap.size ≤ w.heap.size + 1 := by omega
  have hRB : w.heap.size ≠ w.heap.size + 1 := by omega
  generalize w.heap.size + 1 = B at *
  have hwR : w.heap.size ≤ w.heap.size := by omega
  have HTT0 := Lib.hid hT; have HROW0 := Lib.hid hB; have HBel := Lib.hid hBel
  clear hT hB hBel
  go_wp2
  go_loopw [9] (fun i wr => ∃ k : Nat, k ≤ 6 ∧ i = .int .u64 (k : Int) ∧ wr.heap[B]? = some (.cells #[.int .u64 ((if 0 < k then g 0 else 0 : Nat) : Nat), .int .u64 ((if 1 < k then g 1 else 0 : Nat) : Nat), .int .u64 ((if 2 < k then g 2 else 0 : Nat) : Nat), .int .u64 ((if 3 < k then g 3 else 0 : Nat) : Nat), .int .u64 ((if 4 < k then g 4 else 0 : Nat) : Nat), .int .u64 ((if 5 < k then g 5 else 0 : Nat) : Nat)] 47 (0, 0)) ∧ wr.heap[w.heap.size]? = some (.cells #[.int .u64 0, .int .u64 0, .int .u64 0, .int .u64 0, .int .u64 0, .int .u64 0] 47 (0, 0)) ∧ Below w.heap.size w wr) (fun i _ => 6 - (intOf i).toNat)
  case atStart => exact ⟨0, by decide, rfl, HROW0.out, HTT0.out, HBel.out⟩
  case round =>
    obtain ⟨k, hk, rfl, hrow, hTT, hBB⟩ := hrel
    have HTT := Lib.hid hTT; have HBB := Lib.hid hBB; clear hTT hBB
    rcases (show k = 0 ∨ k = 1 ∨ k = 2 ∨ k = 3 ∨ k = 4 ∨ k = 5 ∨ k = 6 by omega) with rfl | rfl | rfl | rfl | rfl | rfl | rfl
    · have hr : wr.heap[B]? = some (.cells #[.int .u64 0, .int .u64 0, .int .u64 0, .int .u64 0, .int .u64 0, .int .u64 0] 47 (0, 0)) := hrow
      have c : wr.cell? ⟨B, 0, none⟩ = some (.int .u64 0) := by rw [Lib.cell_of_heap hr]; rfl
      have f : wr.frozen? ⟨B, 0, none⟩ = false := Lib.frozen_of_heap hr 0
      have HR1 : Hid ((wr.setCell ⟨B, 0, none⟩ (.int .u64 (g 0 : Nat))).heap[B]? = some (.cells #[.int .u64 (g 0 : Nat), .int .u64 0, .int .u64 0, .int .u64 0, .int .u64 0, .int .u64 0] 47 (0, 0))) := Lib.hid (by have q := Lib.heap_setCell_same (i := 0) hr (.int .u64 (g 0 : Nat)); simpa using q)
      have HB1 : Hid (Below w.heap.size w (wr.setCell ⟨B, 0, none⟩ (.int .u64 (g 0 : Nat)))) := Lib.hid (HBB.out.setCell (p := ⟨B, 0, none⟩) hwB _)
      have HT1 : Hid ((wr.setCell ⟨B, 0, none⟩ (.int .u64 (g 0 : Nat))).heap[w.heap.size]? = some (.cells #[.int .u64 0, .int .u64 0, .int .u64 0, .int .u64 0, .int .u64 0, .int .u64 0] 47 (0, 0))) := Lib.hid (stay_at HTT.out (OnlyAt.setCell B 0 wr _) hRB)
      clear hr hrow
      go_wp2_with fail
      refine (HG0.out _).mono ?_
      rintro e w5 ⟨rfl, rfl⟩
      go_wp2
      exact ⟨⟨1, by decide, by first | rfl | go_num, HR1.out, HT1.out, HB1.out⟩, by simp [intOf]⟩
    · have hr : wr.heap[B]? = some (.cells #[.int .u64 (g 0 : Nat), .int .u64 0, .int .u64 0, .int .u64 0, .int .u64 0, .int .u64 0] 47 (0, 0)) := hrow
      have c : wr.cell? ⟨B, 1, none⟩ = some (.int .u64 0) := by rw [Lib.cell_of_heap hr]; rfl
      have f : wr.frozen? ⟨B, 1, none⟩ = false := Lib.frozen_of_heap hr 1
      have HR1 : Hid ((wr.setCell ⟨B, 1, none⟩ (.int .u64 (g 1 : Nat))).heap[B]? = some (.cells #[.int .u64 (g 0 : Nat), .int .u64 (g 1 : Nat), .int .u64 0, .int .u64 0, .int .u64 0, .int .u64 0] 47 (0, 0))) := Lib.hid (by have q := Lib.heap_setCell_same (i := 1) hr (.int .u64 (g 1 : Nat)); simpa using q)
      have HB1 : Hid (Below w.heap.size w (wr.setCell ⟨B, 1, none⟩ (.int .u64 (g 1 : Nat)))) := Lib.hid (HBB.out.setCell (p := ⟨B, 1, none⟩) hwB _)
      have HT1 : Hid ((wr.setCell ⟨B, 1, none⟩ (.int .u64 (g 1 : Nat))).heap[w.heap.size]? = some (.cells #[.int .u64 0, .int .u64 0, .int .u64 0, .int .u64 0, .int .u64 0, .int .u64 0] 47 (0, 0))) := Lib.hid (stay_at HTT.out (OnlyAt.setCell B 1 wr _) hRB)
      clear hr hrow
      go_wp2_with fail
      refine (HG1.out _).mono ?_
      rintro e w5 ⟨rfl, rfl⟩
      go_wp2
      exact ⟨⟨2, by decide, by first | rfl | go_num, HR1.out, HT1.out, HB1.out⟩, by simp [intOf]⟩
    · have hr : wr.heap[B]? = some (.cells #[.int .u64 (g 0 : Nat), .int .u64 (g 1 : Nat), .int .u64 0, .int .u64 0, .int .u64 0, .int .u64 0] 47 (0, 0)) := hrow
      have c : wr.cell? ⟨B, 2, none⟩ = some (.int .u64 0) := by rw [Lib.cell_of_heap hr]; rfl
      have f : wr.frozen? ⟨B, 2, none⟩ = false := Lib.frozen_of_heap hr 2
      have HR1 : Hid ((wr.setCell ⟨B, 2, none⟩ (.int .u64 (g 2 : Nat))).heap[B]? = some (.cells #[.int .u64 (g 0 : Nat), .int .u64 (g 1 : Nat), .int .u64 (g 2 : Nat), .int .u64 0, .int .u64 0, .int .u64 0] 47 (0, 0))) := Lib.hid (by have q := Lib.heap_setCell_same (i := 2) hr (.int .u64 (g 2 : Nat)); simpa using q)
      have HB1 : Hid (Below w.heap.size w (wr.setCell ⟨B, 2, none⟩ (.int .u64 (g 2 : Nat)))) := Lib.hid (HBB.out.setCell (p := ⟨B, 2, none⟩) hwB _)
      have HT1 : Hid ((wr.setCell ⟨B, 2, none⟩ (.int .u64 (g 2 : Nat))).heap[w.heap.size]? = some (.cells #[.int .u64 0, .int .u64 0, .int .u64 0, .int .u64 0, .int .u64 0, .int .u64 0] 47 (0, 0))) := Lib.hid (stay_at HTT.out (OnlyAt.setCell B 2 wr _) hRB)
      clear hr hrow
      go_wp2_with fail
      refine (HG2.out _).mono ?_
      rintro e w5 ⟨rfl, rfl⟩
      go_wp2
      exact ⟨⟨3, by decide, by first | rfl | go_num, HR1.out, HT1.out, HB1.out⟩, by simp [intOf]⟩
    · have hr : wr.heap[B]? = some (.cells #[.int .u64 (g 0 : Nat), .int .u64 (g 1 : Nat), .int .u64 (g 2 : Nat), .int .u64 0, .int .u64 0, .int .u64 0] 47 (0, 0)) := hrow
      have c : wr.cell? ⟨B, 3, none⟩ = some (.int .u64 0) := by rw [Lib.cell_of_heap hr]; rfl
      have f : wr.frozen? ⟨B, 3, none⟩ = false := Lib.frozen_of_heap hr 3
      have HR1 : Hid ((wr.setCell ⟨B, 3, none⟩ (.int .u64 (g 3 : Nat))).heap[B]? = some (.cells #[.int .u64 (g 0 : Nat), .int .u64 (g 1 : Nat), .int .u64 (g 2 : Nat), .int .u64 (g 3 : Nat), .int .u64 0, .int .u64 0] 47 (0, 0))) := Lib.hid (by have q := Lib.heap_setCell_same (i := 3) hr (.int .u64 (g 3 : Nat)); simpa using q)
      have HB1 : Hid (Below w.heap.size w (wr.setCell ⟨B, 3, none⟩ (.int .u64 (g 3 : Nat)))) := Lib.hid (HBB.out.setCell (p := ⟨B, 3, none⟩) hwB _)
      have HT1 : Hid ((wr.setCell ⟨B, 3, none⟩ (.int .u64 (g 3 : Nat))).heap[w.heap.size]? = some (.cells #[.int .u64 0, .int .u64 0, .int .u64 0, .int .u64 0, .int .u64 0, .int .u64 0] 47 (0, 0))) := Lib.hid (stay_at HTT.out (OnlyAt.setCell B 3 wr _) hRB)
      clear hr hrow
      go_wp2_with fail
      refine (HG3.out _).mono ?_
      rintro e w5 ⟨rfl, rfl⟩
      go_wp2
      exact ⟨⟨4, by decide, by first | rfl | go_num, HR1.out, HT1.out, HB1.out⟩, by simp [intOf]⟩
    · have hr : wr.heap[B]? = some (.cells #[.int .u64 (g 0 : Nat), .int .u64 (g 1 : Nat), .int .u64 (g 2 : Nat), .int .u64 (g 3 : Nat), .int .u64 0, .int .u64 0] 47 (0, 0)) := hrow
      have c : wr.cell? ⟨B, 4, none⟩ = some (.int .u64 0) := by rw [Lib.cell_of_heap hr]; rfl
      have f : wr.frozen? ⟨B, 4, none⟩ = false := Lib.frozen_of_heap hr 4
      have HR1 : Hid ((wr.setCell ⟨B, 4, none⟩ (.int .u64 (g 4 : Nat))).heap[B]? = some (.cells #[.int .u64 (g 0 : Nat), .int .u64 (g 1 : Nat), .int .u64 (g 2 : Nat), .int .u64 (g 3 : Nat), .int .u64 (g 4 : Nat), .int .u64 0] 47 (0, 0))) := Lib.hid (by have q := Lib.heap_setCell_same (i := 4) hr (.int .u64 (g 4 : Nat)); simpa using q)
      have HB1 : Hid (Below w.heap.size w (wr.setCell ⟨B, 4, none⟩ (.int .u64 (g 4 : Nat)))) := Lib.hid (HBB.out.setCell (p := ⟨B, 4, none⟩) hwB _)
      have HT1 : Hid ((wr.setCell ⟨B, 4, none⟩ (.int .u64 (g 4 : Nat))).heap[w.heap.size]? = some (.cells #[.int .u64 0, .int .u64 0, .int .u64 0, .int .u64 0, .int .u64 0, .int .u64 0] 47 (0, 0))) := Lib.hid (stay_at HTT.out (OnlyAt.setCell B 4 wr _) hRB)
      clear hr hrow
      go_wp2_with fail
      refine (HG4.out _).mono ?_
      rintro e w5 ⟨rfl, rfl⟩
      go_wp2
      exact ⟨⟨5, by decide, by first | rfl | go_num, HR1.out, HT1.out, HB1.out⟩, by simp [intOf]⟩
    · have hr : wr.heap[B]? = some (.cells #[.int .u64 (g 0 : Nat), .int .u64 (g 1 : Nat), .int .u64 (g 2 : Nat), .int .u64 (g 3 : Nat), .int .u64 (g 4 : Nat), .int .u64 0] 47 (0, 0)) := hrow
      have c : wr.cell? ⟨B, 5, none⟩ = some (.int .u64 0) := by rw [Lib.cell_of_heap hr]; rfl
      have f : wr.frozen? ⟨B, 5, none⟩ = false := Lib.frozen_of_heap hr 5
      have HR1 : Hid ((wr.setCell ⟨B, 5, none⟩ (.int .u64 (g 5 : Nat))).heap[B]? = some (.cells #[.int .u64 (g 0 : Nat), .int .u64 (g 1 : Nat), .int .u64 (g 2 : Nat), .int .u64 (g 3 : Nat), .int .u64 (g 4 : Nat), .int .u64 (g 5 : Nat)] 47 (0, 0))) := Lib.hid (by have q := Lib.heap_setCell_same (i := 5) hr (.int .u64 (g 5 : Nat)); simpa using q)
      have HB1 : Hid (Below w.heap.size w (wr.setCell ⟨B, 5, none⟩ (.int .u64 (g 5 : Nat)))) := Lib.hid (HBB.out.setCell (p := ⟨B, 5, none⟩) hwB _)
      have HT1 : Hid ((wr.setCell ⟨B, 5, none⟩ (.int .u64 (g 5 : Nat))).heap[w.heap.size]? = some (.cells #[.int .u64 0, .int .u64 0, .int .u64 0, .int .u64 0, .int .u64 0, .int .u64 0] 47 (0, 0))) := Lib.hid (stay_at HTT.out (OnlyAt.setCell B 5 wr _) hRB)
      clear hr hrow
      go_wp2_with fail
      refine (HG5.out _).mono ?_
      rintro e w5 ⟨rfl, rfl⟩
      go_wp2
      exact ⟨⟨6, by decide, by first | rfl | go_num, HR1.out, HT1.out, HB1.out⟩, by simp [intOf]⟩
    · have hr : wr.heap[B]? = some (.cells #[.int .u64 (g 0 : Nat), .int .u64 (g 1 : Nat), .int .u64 (g 2 : Nat), .int .u64 (g 3 : Nat), .int .u64 (g 4 : Nat), .int .u64 (g 5 : Nat)] 47 (0, 0)) := hrow
      have HR := Lib.hid hr; clear hr hrow
      go_upto_region 10 with (fail)
      refine hdreg_8 _ _ _ _ _ _ _ _ _ _ _ _ _ _ _ _ _ _ _ _ _ _ _ _ _ _ _ _ _ _ _ _ _ _ _ _ _ _ _ _ _ _ B w.heap.size big s (g 0) (g 1) (g 2) (g 3) (g 4) (g 5) x y wr HR.out HTT.out (Ne.symm hRB) HX HY (fun _ _ _ _ _ h => h) (fun u31 u32 u33 u34 u35 u36 u37 u38 u39 u40 u41 u42 u43 u44 u45 w6 hT6 o6 => ?_)
      have HT6 := Lib.hid hT6; have HB6 := Lib.hid (HBB.out.trans (o6.below HBB.out.size (Nat.le_refl _))); clear hT6 o6
      go_wp2
      refine bodyPost_ret (head_res _ _ w.heap.size rfl rfl rfl rfl HT6.out) rfl ⟨rfl, HB6.out⟩
end Go.Proofs.Ytedocnidgiglaaa
