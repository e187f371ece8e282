/- Contracts of a header's package, by gen_hdr.py. Conditions: those written in each theorem. -/
import Derived.Laws.CopyOwn
import Derived.Laws.Tables
import Derived.Test.YtmbndepgkglaeaaPF
namespace Go.Proofs.Ytmbndepgkglaeaa
open Go.RowKit
set_option maxRecDepth 100000 in
set_option maxHeartbeats 2000000 in
theorem preads_no (fl : Int) (s0 t : ByteArray) (m : Nat) (hm : (s0.size ≤ 200 ∧ m = s0.size) ∨ (200 < s0.size ∧ m = 200)) (ht : s0.extract 0 m = t) (big wide : Bool) (hb : (bits BinOp.and IntKind.i64 fl 1 == 1) = big) (hw : (bits BinOp.and IntKind.i64 fl 2 == 2) = wide)
    (hlen : t.size < pLen wide) (w : World) :
    Calls Try.prog 4 #[.int .i64 fl, .string s0] w fun e w' => e = .returned (.bool true) ∧ Below w.heap.size w w' := by
  have HB := Lib.hid hb; clear hb
  have HW := Lib.hid hw; clear hw
  have q200 : (m : Int) ≤ 200 := by omega
  have q0 : (0 : Int) ≤ (m : Int) := by omega
  have qs : (m : Int) ≤ (s0.size : Int) := by omega
  have mn1 : (if (s0.size : Int) ≤ 200 then (s0.size : Int) else 200) = (m : Int) := by split <;> omega
  have mn3 : min (s0.size : Int) 200 = (m : Int) := by omega
  have htz : t.size ≤ 200 := by rw [← ht]; simp; omega
  have htt : s0.extract 0 (m : Int).toNat = t := by rw [Int.toNat_natCast]; exact ht
  clear hm
  have hrd : ∀ W : World, Calls Try.prog 12 #[.agg #[.bool big, .bool wide], .string t] W fun e w' => e = .returned (.tuple #[.agg #[.int .u64 0, .int .u64 0, .int .u64 0, .int .u64 0, .int .u64 0, .int .u64 0, .int .u64 0, .int .u64 0], .bool false]) ∧ Below W.heap.size W w' := fun W => pread_no big wide t W (by omega) hlen
  have hltB : decide (t.size < pLen wide) = true := by simp; omega
  have HRD := Lib.hid hrd; clear hrd
  have HLT := Lib.hid hltB; clear hltB
  go_enter Try.func4, Try.ntmps4
  go_wp2_with fail
  refine (pspeaks _).mono ?_
  rintro e w1 ⟨rfl, h1⟩
  go_wp2_with fail
  refine (pform fl big wide HB.out HW.out _).mono ?_
  rintro e w2 ⟨rfl, h2⟩
  have b2 : Below w.heap.size w w2 := h1.trans (h2.mono h1.size)
  clear h1 h2
  go_wp2_with fail
  clear mn1 mn3 htt ht
  refine (HRD.out _).mono ?_
  rintro e w3 ⟨rfl, h3⟩
  have b3 : Below w.heap.size w w3 := (b2.alloc b2.size _).trans (h3.mono (by have := b2.size; simp; omega))
  have z3 : w2.heap.size < w3.heap.size := by have := h3.size; simp at this; omega
  have f0 : w3.cell? ⟨w2.heap.size, 0, none⟩ = some (.bool big) := by rw [h3.cell (by simp)]; simp
  have f1 : w3.cell? ⟨w2.heap.size, 1, none⟩ = some (.bool wide) := by rw [h3.cell (by simp)]; simp
  clear h3
  go_wp2_with fail
  refine (psize big wide _).mono ?_
  rintro e w4 ⟨rfl, h4⟩
  have b4 : Below w.heap.size w w4 := (b3.alloc b3.size _).trans (h4.mono (by have := b3.size; simp; omega))
  have z4 : w3.heap.size < w4.heap.size := by have := h4.size; simp at this; omega
  have g0 : w4.cell? ⟨w2.heap.size, 0, none⟩ = some (.bool big) := by rw [h4.cell (by simp; omega), cell_alloc_old z3]; exact f0
  have g1 : w4.cell? ⟨w2.heap.size, 1, none⟩ = some (.bool wide) := by rw [h4.cell (by simp; omega), cell_alloc_old z3]; exact f1
  have x0 : w4.cell? ⟨w3.heap.size, 0, none⟩ = some (.int .u64 0) := by rw [h4.cell (by simp)]; simp
  have x1 : w4.cell? ⟨w3.heap.size, 1, none⟩ = some (.int .u64 0) := by rw [h4.cell (by simp)]; simp
  have x2 : w4.cell? ⟨w3.heap.size, 2, none⟩ = some (.int .u64 0) := by rw [h4.cell (by simp)]; simp
  have x3 : w4.cell? ⟨w3.heap.size, 3, none⟩ = some (.int .u64 0) := by rw [h4.cell (by simp)]; simp
  have x4 : w4.cell? ⟨w3.heap.size, 4, none⟩ = some (.int .u64 0) := by rw [h4.cell (by simp)]; simp
  have x5 : w4.cell? ⟨w3.heap.size, 5, none⟩ = some (.int .u64 0) := by rw [h4.cell (by simp)]; simp
  have x6 : w4.cell? ⟨w3.heap.size, 6, none⟩ = some (.int .u64 0) := by rw [h4.cell (by simp)]; simp
  have x7 : w4.cell? ⟨w3.heap.size, 7, none⟩ = some (.int .u64 0) := by rw [h4.cell (by simp)]; simp
  clear h4 f0 f1
  have hltB := HLT.out
  go_wp2
  go_ret
  exact ⟨rfl, b4⟩
set_option maxRecDepth 100000 in
set_option maxHeartbeats 2000000 in
theorem preads_yes (fl : Int) (s0 t : ByteArray) (m : Nat) (hm : (s0.size ≤ 200 ∧ m = s0.size) ∨ (200 < s0.size ∧ m = 200)) (ht : s0.extract 0 m = t) (big wide : Bool) (hb : (bits BinOp.and IntKind.i64 fl 1 == 1) = big) (hw : (bits BinOp.and IntKind.i64 fl 2 == 2) = wide)
    (hlen : pLen wide ≤ t.size) (w : World) :
    Calls Try.prog 4 #[.int .i64 fl, .string s0] w fun e w' => e = .returned (.bool true) ∧ Below w.heap.size w w' := by
  have HB := Lib.hid hb; clear hb
  have HW := Lib.hid hw; clear hw
  have q200 : (m : Int) ≤ 200 := by omega
  have q0 : (0 : Int) ≤ (m : Int) := by omega
  have qs : (m : Int) ≤ (s0.size : Int) := by omega
  have mn1 : (if (s0.size : Int) ≤ 200 then (s0.size : Int) else 200) = (m : Int) := by split <;> omega
  have mn3 : min (s0.size : Int) 200 = (m : Int) := by omega
  have htz : t.size ≤ 200 := by rw [← ht]; simp; omega
  have htt : s0.extract 0 (m : Int).toNat = t := by rw [Int.toNat_natCast]; exact ht
  clear hm
  obtain ⟨k0, k1, k2, k3, k4, k5, k6, k7, HK⟩ : ∃ k0 k1 k2 k3 k4 k5 k6 k7, Hid (∀ j, j < 8 → numAt big (fullL wide (pSizes wide) 8) t.data.toList (pPos wide j) = ([k0, k1, k2, k3, k4, k5, k6, k7] : List Nat).getD j 0) := ⟨numAt big (fullL wide (pSizes wide) 8) t.data.toList (pPos wide 0), numAt big (fullL wide (pSizes wide) 8) t.data.toList (pPos wide 1), numAt big (fullL wide (pSizes wide) 8) t.data.toList (pPos wide 2), numAt big (fullL wide (pSizes wide) 8) t.data.toList (pPos wide 3), numAt big (fullL wide (pSizes wide) 8) t.data.toList (pPos wide 4), numAt big (fullL wide (pSizes wide) 8) t.data.toList (pPos wide 5), numAt big (fullL wide (pSizes wide) 8) t.data.toList (pPos wide 6), numAt big (fullL wide (pSizes wide) 8) t.data.toList (pPos wide 7), Lib.hid (by
    intro j hj
    match j, hj with
    | 0, _ => rfl
    | 1, _ => rfl
    | 2, _ => rfl
    | 3, _ => rfl
    | 4, _ => rfl
    | 5, _ => rfl
    | 6, _ => rfl
    | 7, _ => rfl)⟩
  have hrd : ∀ W : World, Calls Try.prog 12 #[.agg #[.bool big, .bool wide], .string t] W fun e w' => e = .returned (.tuple #[.agg #[.int .u64 (k0 : Nat), .int .u64 (k1 : Nat), .int .u64 (k2 : Nat), .int .u64 (k3 : Nat), .int .u64 (k4 : Nat), .int .u64 (k5 : Nat), .int .u64 (k6 : Nat), .int .u64 (k7 : Nat)], .bool true]) ∧ Below W.heap.size W w' := fun W => by
    refine (pread_yes big wide t W (by omega) hlen).mono fun e w' ⟨he, hb⟩ => ⟨?_, hb⟩
    rw [he, HK.out 0 (by decide), HK.out 1 (by decide), HK.out 2 (by decide), HK.out 3 (by decide), HK.out 4 (by decide), HK.out 5 (by decide), HK.out 6 (by decide), HK.out 7 (by decide)]
    rfl
  have hrec : RecIs big wide (pSizes wide) (pNs wide k0 k1 k2 k3 k4 k5 k6 k7) 8 8 (t.extract 0 (pLen wide)) true := by
    have := recIs_back (big := big) (ns := pNs wide k0 k1 k2 k3 k4 k5 k6 k7) t (p_ok wide) (by rw [p_off]; exact hlen) (fun k hk => pNs_all wide k0 k1 k2 k3 k4 k5 k6 k7 (fun k => numAt big (fullL wide (pSizes wide) 8) t.data.toList k) HK.out k hk)
    rwa [p_off] at this
  have hk64 : ∀ n ∈ [k0, k1, k2, k3, k4, k5, k6, k7], n < 2 ^ 64 := by
    intro n hn
    obtain ⟨j, hj, rfl⟩ := List.getElem_of_mem hn
    have h1 := HK.out j hj
    rw [List.getD_eq_getElem?_getD, List.getElem?_eq_getElem hj] at h1
    have h2 := numAt_64 big (fullL wide (pSizes wide) 8) t.data.toList (pPos wide j) (full_ok (p_ok wide) (pPos wide j) (pPos_lt wide j hj)).2
    rw [h1] at h2
    exact h2
  have hSz : (t.extract 0 (pLen wide)).size = pLen wide := by simp; omega
  obtain ⟨S, hS⟩ : ∃ S, t.extract 0 (pLen wide) = S := ⟨_, rfl⟩
  rw [hS] at hrec hSz
  have hSS : t.extract 0 S.size = S := by rw [hSz, hS]
  have hre : ∀ W : World, Calls Try.prog 11 #[.bool wide, .bool big, .agg #[.int .u64 (k0 : Nat), .int .u64 (k1 : Nat), .int .u64 (k2 : Nat), .int .u64 (k3 : Nat), .int .u64 (k4 : Nat), .int .u64 (k5 : Nat), .int .u64 (k6 : Nat), .int .u64 (k7 : Nat)]] W fun e w' => e = .returned (.tuple #[.string S, .bool true]) ∧ Below W.heap.size W w' := fun W => pref big wide k0 k1 k2 k3 k4 k5 k6 k7 hk64 S true hrec W
  have HRE := Lib.hid hre; clear hre hrec hk64 hS
  have HSS := Lib.hid hSS; clear hSS
  have hltB : decide (t.size < pLen wide) = false := by simp; omega
  have HRD := Lib.hid hrd; clear hrd
  have HLT := Lib.hid hltB; clear hltB
  go_enter Try.func4, Try.ntmps4
  go_wp2_with fail
  refine (pspeaks _).mono ?_
  rintro e w1 ⟨rfl, h1⟩
  go_wp2_with fail
  refine (pform fl big wide HB.out HW.out _).mono ?_
  rintro e w2 ⟨rfl, h2⟩
  have b2 : Below w.heap.size w w2 := h1.trans (h2.mono h1.size)
  clear h1 h2
  go_wp2_with fail
  clear mn1 mn3 htt ht
  refine (HRD.out _).mono ?_
  rintro e w3 ⟨rfl, h3⟩
  have b3 : Below w.heap.size w w3 := (b2.alloc b2.size _).trans (h3.mono (by have := b2.size; simp; omega))
  have z3 : w2.heap.size < w3.heap.size := by have := h3.size; simp at this; omega
  have f0 : w3.cell? ⟨w2.heap.size, 0, none⟩ = some (.bool big) := by rw [h3.cell (by simp)]; simp
  have f1 : w3.cell? ⟨w2.heap.size, 1, none⟩ = some (.bool wide) := by rw [h3.cell (by simp)]; simp
  clear h3
  go_wp2_with fail
  refine (psize big wide _).mono ?_
  rintro e w4 ⟨rfl, h4⟩
  have b4 : Below w.heap.size w w4 := (b3.alloc b3.size _).trans (h4.mono (by have := b3.size; simp; omega))
  have z4 : w3.heap.size < w4.heap.size := by have := h4.size; simp at this; omega
  have g0 : w4.cell? ⟨w2.heap.size, 0, none⟩ = some (.bool big) := by rw [h4.cell (by simp; omega), cell_alloc_old z3]; exact f0
  have g1 : w4.cell? ⟨w2.heap.size, 1, none⟩ = some (.bool wide) := by rw [h4.cell (by simp; omega), cell_alloc_old z3]; exact f1
  have x0 : w4.cell? ⟨w3.heap.size, 0, none⟩ = some (.int .u64 (k0 : Nat)) := by rw [h4.cell (by simp)]; simp
  have x1 : w4.cell? ⟨w3.heap.size, 1, none⟩ = some (.int .u64 (k1 : Nat)) := by rw [h4.cell (by simp)]; simp
  have x2 : w4.cell? ⟨w3.heap.size, 2, none⟩ = some (.int .u64 (k2 : Nat)) := by rw [h4.cell (by simp)]; simp
  have x3 : w4.cell? ⟨w3.heap.size, 3, none⟩ = some (.int .u64 (k3 : Nat)) := by rw [h4.cell (by simp)]; simp
  have x4 : w4.cell? ⟨w3.heap.size, 4, none⟩ = some (.int .u64 (k4 : Nat)) := by rw [h4.cell (by simp)]; simp
  have x5 : w4.cell? ⟨w3.heap.size, 5, none⟩ = some (.int .u64 (k5 : Nat)) := by rw [h4.cell (by simp)]; simp
  have x6 : w4.cell? ⟨w3.heap.size, 6, none⟩ = some (.int .u64 (k6 : Nat)) := by rw [h4.cell (by simp)]; simp
  have x7 : w4.cell? ⟨w3.heap.size, 7, none⟩ = some (.int .u64 (k7 : Nat)) := by rw [h4.cell (by simp)]; simp
  clear h4 f0 f1
  have hltB := HLT.out
  go_wp2_with fail
  refine (HRE.out _).mono ?_
  rintro e w5 ⟨rfl, h5⟩
  have b5 : Below w.heap.size w w5 := b4.trans (h5.mono b4.size)
  have i0 : w5.cell? ⟨w2.heap.size, 0, none⟩ = some (.bool big) := by rw [h5.cell (by show w2.heap.size < _; omega)]; exact g0
  have i1 : w5.cell? ⟨w2.heap.size, 1, none⟩ = some (.bool wide) := by rw [h5.cell (by show w2.heap.size < _; omega)]; exact g1
  clear h5 g0 g1 hltB x0 x1 x2 x3 x4 x5 x6 x7
  have hS2 : S.size ≤ t.size := by omega
  have hSe : ((S.size : Int) == (pLen wide : Int)) = true := by simp; omega
  have hSe2 : (S.size == pLen wide) = true := by simp; omega
  have hSS := HSS.out
  clear hSz
  go_wp2_with fail
  refine (psize big wide _).mono ?_
  rintro e w6 ⟨rfl, h6⟩
  clear hSS
  go_wp2
  go_ret
  exact ⟨by first | rfl | simp, b5.trans (h6.mono b5.size)⟩
theorem preads_wf (fl : Int) (s : ByteArray) (w : World) :
    Calls Try.prog 4 #[.int .i64 fl, .string s] w fun e w' => e = .returned (.bool true) ∧ Below w.heap.size w w' := by
  by_cases h : pLen (bits BinOp.and IntKind.i64 fl 2 == 2) ≤ (s.extract 0 (min s.size 200)).size
  · exact preads_yes fl s _ (min s.size 200) (by omega) rfl _ _ rfl rfl h w
  · exact preads_no fl s _ (min s.size 200) (by omega) rfl _ _ rfl rfl (by omega) w
end Go.Proofs.Ytmbndepgkglaeaa
