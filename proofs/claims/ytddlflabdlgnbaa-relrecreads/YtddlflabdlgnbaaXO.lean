/- Contracts of layer 9, relocations. Conditions: those written in each theorem. -/
import Derived.Laws.CopyOwn
import Derived.Laws.Tables
import Derived.Test.YtddlflabdlgnbaaXK
namespace Go.Proofs.Ytddlflabdlgnbaa
open Go.RowKit
set_option maxRecDepth 100000 in
set_option maxHeartbeats 2000000 in
theorem rreads_no (fl : Int) (s0 t : ByteArray) (m : Nat) (hm : (s0.size ≤ 60 ∧ m = s0.size) ∨ (60 < s0.size ∧ m = 60)) (ht : s0.extract 0 m = t) (big wide a : Bool) (hb : (bits BinOp.and IntKind.i64 fl 1 == 1) = big) (hw : (bits BinOp.and IntKind.i64 fl 2 == 2) = wide) (ha : (bits BinOp.and IntKind.i64 fl 4 == 4) = a)
    (hlen : t.size < rLen wide a) (w : World) :
    Calls Try.prog 7 #[.int .i64 fl, .string s0] w fun e w' => e = .returned (.bool true) ∧ Below w.heap.size w w' := by
  have HB := Lib.hid hb; have HW := Lib.hid hw; have HA := Lib.hid ha; clear hb hw ha
  have q60 : (m : Int) ≤ 60 := by omega
  have q0 : (0 : Int) ≤ (m : Int) := by omega
  have qs : (m : Int) ≤ (s0.size : Int) := by omega
  have mn1 : (if (s0.size : Int) ≤ 60 then (s0.size : Int) else 60) = (m : Int) := by split <;> omega
  have mn3 : min (s0.size : Int) 60 = (m : Int) := by omega
  have htz : t.size ≤ 60 := by rw [← ht]; simp; omega
  have htt : s0.extract 0 (m : Int).toNat = t := by rw [Int.toNat_natCast]; exact ht
  clear hm
  have hrd := fun W => rread_none big wide a t (by omega) hlen W
  have hltB : decide (t.size < rLen wide a) = true := by simp; omega
  have HRD := Lib.hid hrd; have HLT := Lib.hid hltB; clear hrd hltB
  go_enter Try.func7, Try.ntmps7
  go_wp2_with fail
  refine (rspeaks _).mono ?_
  rintro e w1 ⟨rfl, h1⟩
  go_wp2_with fail
  refine (rform fl big wide HB.out HW.out _).mono ?_
  rintro e w2 ⟨rfl, h2⟩
  have b2 : Below w.heap.size w w2 := h1.trans (h2.mono h1.size)
  clear h1 h2
  have ha := HA.out
  go_wp2_with fail
  clear mn1 mn3 htt ht ha
  refine (HRD.out _).mono ?_
  rintro e w3 ⟨rfl, h3⟩
  have b3 : Below w.heap.size w w3 := (below_more b2 _).trans (h3.mono (below_more b2 _).size)
  have z3 : w2.heap.size < w3.heap.size := by have := h3.size; simp only [World.size_alloc] at this; omega
  have f0 : w3.cell? ⟨w2.heap.size, 0, none⟩ = some (.bool big) := by rw [h3.cell (by simp)]; simp
  have f1 : w3.cell? ⟨w2.heap.size, 1, none⟩ = some (.bool wide) := by rw [h3.cell (by simp)]; simp
  clear h3
  go_wp2_with fail
  refine (rsize_any big wide a _).mono ?_
  rintro e w4 ⟨rfl, h4⟩
  have b4 : Below w.heap.size w w4 := (below_more b3 _).trans (h4.mono (below_more b3 _).size)
  have z4 : w3.heap.size < w4.heap.size := by have := h4.size; simp only [World.size_alloc] at this; omega
  have g0 : w4.cell? ⟨w2.heap.size, 0, none⟩ = some (.bool big) := by rw [h4.cell (by simp; omega), cell_alloc_old z3]; exact f0
  have g1 : w4.cell? ⟨w2.heap.size, 1, none⟩ = some (.bool wide) := by rw [h4.cell (by simp; omega), cell_alloc_old z3]; exact f1
  have x0 : w4.cell? ⟨w3.heap.size, 0, none⟩ = some (.int .u64 0) := by rw [h4.cell (by simp)]; simp
  have x1 : w4.cell? ⟨w3.heap.size, 1, none⟩ = some (.int .u64 0) := by rw [h4.cell (by simp)]; simp
  have x2 : w4.cell? ⟨w3.heap.size, 2, none⟩ = some (.int .u64 0) := by rw [h4.cell (by simp)]; simp
  have x3 : w4.cell? ⟨w3.heap.size, 3, none⟩ = some (.int .u64 0) := by rw [h4.cell (by simp)]; simp
  clear h4 f0 f1
  have hltB := HLT.out
  go_wp2
  go_ret
  exact ⟨by first | rfl | simp, b4⟩
set_option maxRecDepth 100000 in
set_option maxHeartbeats 2000000 in
theorem rreads_yes (fl : Int) (s0 t : ByteArray) (m : Nat) (hm : (s0.size ≤ 60 ∧ m = s0.size) ∨ (60 < s0.size ∧ m = 60)) (ht : s0.extract 0 m = t) (big wide a : Bool) (hb : (bits BinOp.and IntKind.i64 fl 1 == 1) = big) (hw : (bits BinOp.and IntKind.i64 fl 2 == 2) = wide) (ha : (bits BinOp.and IntKind.i64 fl 4 == 4) = a)
    (hlen : rLen wide a ≤ t.size) (w : World) :
    Calls Try.prog 7 #[.int .i64 fl, .string s0] w fun e w' => e = .returned (.bool true) ∧ Below w.heap.size w w' := by
  have HB := Lib.hid hb; have HW := Lib.hid hw; have HA := Lib.hid ha; clear hb hw ha
  have q60 : (m : Int) ≤ 60 := by omega
  have q0 : (0 : Int) ≤ (m : Int) := by omega
  have qs : (m : Int) ≤ (s0.size : Int) := by omega
  have mn1 : (if (s0.size : Int) ≤ 60 then (s0.size : Int) else 60) = (m : Int) := by split <;> omega
  have mn3 : min (s0.size : Int) 60 = (m : Int) := by omega
  have htz : t.size ≤ 60 := by rw [← ht]; simp; omega
  have htt : s0.extract 0 (m : Int).toNat = t := by rw [Int.toNat_natCast]; exact ht
  clear hm
  obtain ⟨v0, hv0⟩ : ∃ v, rOff big wide a t.data.toList = v := ⟨_, rfl⟩
  obtain ⟨v1, hv1⟩ : ∃ v, rSym big wide a t.data.toList = v := ⟨_, rfl⟩
  obtain ⟨v2, hv2⟩ : ∃ v, rTy big wide a t.data.toList = v := ⟨_, rfl⟩
  obtain ⟨v3, hv3⟩ : ∃ v, rAdd big wide a t.data.toList = v := ⟨_, rfl⟩
  have h0 := rOff_64 big wide a t.data.toList
  have h3 := rAdd_64 big wide a t.data.toList
  have hp := putIs_back big wide a t hlen
  have hrd := fun W => rread_is big wide a t (by omega) hlen W
  rw [hv0] at h0 hp
  rw [hv3] at h3 hp
  rw [hv1, hv2] at hp
  rw [hv0, hv1, hv2, hv3] at hrd
  have hSz : (t.extract 0 (rLen wide a)).size = rLen wide a := by simp; omega
  obtain ⟨S, hS⟩ : ∃ S, t.extract 0 (rLen wide a) = S := ⟨_, rfl⟩
  rw [hS] at hp hSz
  have hSS : t.extract 0 S.size = S := by rw [hSz, hS]
  have HSS := Lib.hid hSS; have HP := Lib.hid hp; have HN := Lib.hid (And.intro h0 h3); clear hSS hp h0 h3 hv0 hv1 hv2 hv3 hS
  have hltB : decide (t.size < rLen wide a) = false := by simp; omega
  have HRD := Lib.hid hrd; have HLT := Lib.hid hltB; clear hrd hltB
  go_enter Try.func7, Try.ntmps7
  go_wp2_with fail
  refine (rspeaks _).mono ?_
  rintro e w1 ⟨rfl, h1⟩
  go_wp2_with fail
  refine (rform fl big wide HB.out HW.out _).mono ?_
  rintro e w2 ⟨rfl, h2⟩
  have b2 : Below w.heap.size w w2 := h1.trans (h2.mono h1.size)
  clear h1 h2
  have ha := HA.out
  go_wp2_with fail
  clear mn1 mn3 htt ht ha
  refine (HRD.out _).mono ?_
  rintro e w3 ⟨rfl, h3⟩
  have b3 : Below w.heap.size w w3 := (below_more b2 _).trans (h3.mono (below_more b2 _).size)
  have z3 : w2.heap.size < w3.heap.size := by have := h3.size; simp only [World.size_alloc] at this; omega
  have f0 : w3.cell? ⟨w2.heap.size, 0, none⟩ = some (.bool big) := by rw [h3.cell (by simp)]; simp
  have f1 : w3.cell? ⟨w2.heap.size, 1, none⟩ = some (.bool wide) := by rw [h3.cell (by simp)]; simp
  clear h3
  go_wp2_with fail
  refine (rsize_any big wide a _).mono ?_
  rintro e w4 ⟨rfl, h4⟩
  have b4 : Below w.heap.size w w4 := (below_more b3 _).trans (h4.mono (below_more b3 _).size)
  have z4 : w3.heap.size < w4.heap.size := by have := h4.size; simp only [World.size_alloc] at this; omega
  have g0 : w4.cell? ⟨w2.heap.size, 0, none⟩ = some (.bool big) := by rw [h4.cell (by simp; omega), cell_alloc_old z3]; exact f0
  have g1 : w4.cell? ⟨w2.heap.size, 1, none⟩ = some (.bool wide) := by rw [h4.cell (by simp; omega), cell_alloc_old z3]; exact f1
  have x0 : w4.cell? ⟨w3.heap.size, 0, none⟩ = some (.int .u64 (v0 : Nat)) := by rw [h4.cell (by simp)]; simp
  have x1 : w4.cell? ⟨w3.heap.size, 1, none⟩ = some (.int .u64 (v1 : Nat)) := by rw [h4.cell (by simp)]; simp
  have x2 : w4.cell? ⟨w3.heap.size, 2, none⟩ = some (.int .u64 (v2 : Nat)) := by rw [h4.cell (by simp)]; simp
  have x3 : w4.cell? ⟨w3.heap.size, 3, none⟩ = some (.int .u64 (v3 : Nat)) := by rw [h4.cell (by simp)]; simp
  clear h4 f0 f1
  have hltB := HLT.out
  go_wp2_with fail
  refine (rref_is HP.out HN.out _).mono ?_
  rintro e w5 ⟨rfl, h5⟩
  have b5 : Below w.heap.size w w5 := b4.trans (h5.mono b4.size)
  clear h5 hltB
  have hS2 : S.size ≤ t.size := by omega
  have hSS := HSS.out
  clear hSz
  go_wp2
  go_ret
  exact ⟨by first | rfl | simp, b5⟩
theorem rreads_law (fl : Int) (s : ByteArray) (w : World) : Calls Try.prog 7 #[.int .i64 fl, .string s] w fun e w' => e = .returned (.bool true) ∧ Below w.heap.size w w' := by
  by_cases h : rLen (bits BinOp.and IntKind.i64 fl 2 == 2) (bits BinOp.and IntKind.i64 fl 4 == 4) ≤ (s.extract 0 (min s.size 60)).size
  · exact rreads_yes fl s _ (min s.size 60) (by omega) rfl _ _ _ rfl rfl rfl h w
  · exact rreads_no fl s _ (min s.size 60) (by omega) rfl _ _ _ rfl rfl rfl (by omega) w
end Go.Proofs.Ytddlflabdlgnbaa
