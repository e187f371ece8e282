/- The walk of DynrecEntries. Conditions: those written in each theorem. -/
import Derived.Deep.CutBlock
import Derived.Deep.DeepCutAuto
import Derived.Test.YtnmklmaclmjfbaaDoorDAB
import Derived.Test.YtnmklmaclmjfbaaDoorDAC
import Derived.Test.YtnmklmaclmjfbaaDoorDV
import Derived.Test.YtnmklmaclmjfbaaDoorDY
import Derived.Test.YtnmklmaclmjfbaaDoorDZ
namespace Go.Proofs.YtnmklmaclmjfbaaDoor
open Go.RowKit
set_option linter.unusedVariables false
theorem cut_tail {S : ByteArray} {L : List UInt8} {z : Nat} (hz : 0 < z) (h : S.data.toList = L ++ zeroL z) : (S.extract 0 (S.size - 1)).data.toList = L ++ zeroL (z - 1) := by
  obtain ⟨y, rfl⟩ : ∃ y, z = y + 1 := ⟨z - 1, by omega⟩
  have hl : S.size = (L ++ zeroL y).length + 1 := by rw [← ba_len, h, List.length_append, List.length_append, zeroL_length, zeroL_length]; omega
  have e : zeroL (y + 1) = zeroL y ++ [0] := by simp [zeroL, List.replicate_succ']
  rw [ext_l, List.drop_zero, Nat.sub_zero, h, hl, Nat.add_sub_cancel, e, ← List.append_assoc, List.take_left, Nat.add_sub_cancel]
set_option maxRecDepth 100000 in
set_option maxHeartbeats 2000000 in
theorem entries_t (fl : Int) (A : Option Addr) (cap n0 n : Nat) (hn : (n = n0 ∧ n0 ≤ 12) ∨ (n = 12 ∧ 12 < n0)) (R : Nat → Nat × Nat) (m0 J : ByteArray) (m : Nat) (hm : (m0.size ≤ 30 ∧ m = m0.size) ∨ (30 < m0.size ∧ m = 30)) (hJ : m0.extract 0 m = J)
    (big wide : Bool) (hb : (bits BinOp.and IntKind.i64 fl 1 == 1) = big) (hw : (bits BinOp.and IntKind.i64 fl 2 == 2) = wide) (w : World) (hR : RowP w A n R) (h64 : ∀ i, i < n → (R i).1 < 2 ^ 64 ∧ (R i).2 < 2 ^ 64) :
    Calls Tryd.prog 3 #[.int .i64 fl, .slice A n0 cap, .string m0] w fun e w' => e = .returned (.bool true) ∧ Below w.heap.size w w' := by
  have HF := Lib.hid (fun u => dform fl big wide hb hw u)
  have HM := Lib.hid hm; have HJ := Lib.hid hJ; have HN := Lib.hid hn; have HR := Lib.hid hR
  obtain ⟨S, ok, hput, href, hSs, hok⟩ := dyn_same big wide n (by omega) R h64
  have HPUT := Lib.hid hput; have HREF := Lib.hid href; have HSS := Lib.hid hSs; have HOK := Lib.hid hok
  clear hb hw hm hJ hR h64 hput href hSs hok hn
  go_enter Tryd.func3, Tryd.ntmps3
  go_wp2_with fail
  refine (dspeaks _).mono ?_
  rintro e w1 ⟨rfl, h1⟩
  go_wp2_with fail
  refine (HF.out _).mono ?_
  rintro e w3 ⟨rfl, h3⟩
  have HB3 := Lib.hid (h1.trans (h3.mono h1.size))
  clear h1 h3
  go_upto_block 0 with (fail)
  have F0 : (w3.alloc (.cells #[.bool big, .bool wide] 27)).cell? ⟨w3.heap.size, 0, none⟩ = some (.bool big) := by simp
  have F1 : (w3.alloc (.cells #[.bool big, .bool wide] 27)).cell? ⟨w3.heap.size, 1, none⟩ = some (.bool wide) := by simp
  have hz : w3.heap.size < (w3.alloc (.cells #[.bool big, .bool wide] 27)).heap.size := by simp
  have HB4 := Lib.hid (HB3.out.alloc HB3.out.size (.cells #[.bool big, .bool wide] 27))
  generalize (w3.alloc (.cells #[.bool big, .bool wide] 27)) = W1 at *
  generalize w3.heap.size = bx at *
  have HF0 : Hid (∀ u, Below W1.heap.size W1 u → u.cell? ⟨bx, 0, none⟩ = some (.bool big)) := Lib.hid (fun u h => (h.cell (by exact hz)).trans F0)
  have HF1 : Hid (∀ u, Below W1.heap.size W1 u → u.cell? ⟨bx, 1, none⟩ = some (.bool wide)) := Lib.hid (fun u h => (h.cell (by exact hz)).trans F1)
  have HUP : Hid (∀ u, Below W1.heap.size W1 u → Below w.heap.size w u) := Lib.hid (fun u h => HB4.out.trans (h.mono HB4.out.size))
  have HR1 := Lib.hid (HR.out.low HB4.out)
  clear F0 F1
  go_cut [8, 9] (fun v8 v9 wr => wr.ownsRow W1.heap.size 34 2 v8 n (flatE ((List.range n).map R)) ∧ wr.ownsRow W1.heap.size 35 2 v9 n (flatE ((List.range n).map R)) ∧ Below W1.heap.size W1 wr)
  case first =>
    go_wp2
    go_loopw [8, 9, 10] (fun v8 v9 i wr => ∃ k : Nat, k ≤ n ∧ i = .int .i64 (k : Int) ∧ wr.ownsRow W1.heap.size 34 2 v8 k (flatE ((List.range k).map R)) ∧ wr.ownsRow W1.heap.size 35 2 v9 k (flatE ((List.range k).map R)) ∧ Below W1.heap.size W1 wr) (fun _ _ i _ => n - (intOf i).toNat)
    case atStart => exact ⟨0, Nat.zero_le _, rfl, World.ownsRow_nil _ _ _ _, World.ownsRow_nil _ _ _ _, Below.refl _ _⟩
    case round =>
      obtain ⟨k, hk, rfl, h8, h9, hB⟩ := hrel
      have HO8 := Lib.hid h8; have HO9 := Lib.hid h9; have HB := Lib.hid hB; clear h8 h9 hB
      by_cases hlt : k < n
      · obtain ⟨b, o, rfl, hbl, hc0, hc1⟩ := HR1.out k hlt
        have hnn := HN.out
        have HS : Hid (flatE ((List.range (k + 1)).map R) = flatE ((List.range k).map R) ++ cellsE (R k)) := Lib.hid (flatEm_succ R k)
        generalize hr : R k = r at *
        obtain ⟨rt, rv⟩ := r
        have k0 : (0 : Int) ≤ (k : Int) := by omega
        have k1 : (k : Int) < (n0 : Int) := by omega
        have k12 : (k : Int) < 12 := by omega
        have k2 : k + 1 ≤ 1048576 := by omega
        have k3 : k ≤ 1000 := by omega
        clear hnn
        have X0 : Hid (∀ u, Below W1.heap.size wr u → u.cell? ⟨b, o + k * 2, none⟩ = some (.int .u64 (rt : Nat))) := Lib.hid (fun u hu => ((HB.out.trans hu).cell (by exact hbl)).trans hc0)
        have X1 : Hid (∀ u, Below W1.heap.size wr u → u.cell? ⟨b, o + k * 2 + 1, none⟩ = some (.int .u64 (rv : Nat))) := Lib.hid (fun u hu => ((HB.out.trans hu).cell (by exact hbl)).trans hc1)
        clear hc0 hc1
        go_upto_region 9 with (fail)
        refine ereg9 _ _ _ _ _ _ _ _ _ _ _ _ _ _ _ _ _ _ _ _ _ _ _ _ _ _ _ _ _ _ _ _ _ _ _ _ _ _ _ _ _ _ _ _ _ _ _ _ _ _ _ _ _ _ _ _ _ _ _ _ _ _ _ _ _ _ _ _ _ _ _ _ _ _ _ _ _ _ _ _ _ _ _ _ _ _ _ _ _ _ _ _ _ _ _ _ _ _ _ _ _ _ _ _ _ _ _ _ _ _ _ _ _ _ _ _ _ _ _ _ _ _ _ _ _ _ _ _ _ _ _ _ _ _ _ b o n0 cap k rt rv W1.heap.size k k _ _ wr k0 k1 HB.out.size HO8.out HO9.out k3 k3 X0 X1 (fun _ _ _ _ _ h => h) (fun u34 u35 u36 u37 u38 u39 u40 u41 u42 u43 u44 u45 u46 u47 u48 u49 u50 u51 u52 u53 u54 u55 u56 u57 u58 u59 u60 u61 y8 y9 w7 h7 o8 o9 => ?_)
        have HO8' := Lib.hid o8; have HO9' := Lib.hid o9
        have HB7 := Lib.hid (HB.out.trans h7)
        clear o8 o9 h7
        go_wp2
        exact ⟨⟨k + 1, by omega, by go_num, by rw [HS.out]; exact HO8'.out, by rw [HS.out]; exact HO9'.out, HB7.out⟩, by simp [intOf]; omega⟩
      · obtain rfl : k = n := by omega
        rcases HN.out with ⟨hA, hA2⟩ | ⟨hA, hA2⟩
        · have e1 : (k : Int) = (n0 : Int) := by omega
          have e2 : decide ((k : Int) < (n0 : Int)) = false := decide_eq_false (by omega)
          have e3 : ¬ ((k : Int) < (n0 : Int)) := by omega
          go_wp2
          go_meet
          case rel => exact ⟨HO8.out, HO9.out, HB.out⟩
        · have e1 : (k : Int) < (n0 : Int) := by omega
          have e3 : ¬ ((k : Int) < 12) := by omega
          have e4 : decide ((k : Int) < 12) = false := decide_eq_false (by omega)
          go_wp2
          go_meet
          case rel => exact ⟨HO8.out, HO9.out, HB.out⟩
  case rest =>
    obtain ⟨h8, h9, hB⟩ := hcut
    obtain ⟨A8, c8, rfl, hr8⟩ := own_rowE h8
    obtain ⟨A9, c9, rfl, hr9⟩ := own_rowE h9
    have HR8 := Lib.hid hr8; have HR9 := Lib.hid hr9; have HB := Lib.hid hB; clear hr8 hr9 h8 h9 hB
    have f0 := HF0.out _ HB.out
    have f1 := HF1.out _ HB.out
    go_wp2_with fail
    refine (HPUT.out _ _ _ HR8.out).mono ?_
    rintro e w4 ⟨rfl, h4⟩
    have HB5 := Lib.hid (HB.out.trans (h4.mono HB.out.size))
    have HR8b := Lib.hid (HR8.out.low h4); have HR9b := Lib.hid (HR9.out.low h4)
    clear h4 f0 f1
    have f0 := HF0.out _ HB5.out
    have f1 := HF1.out _ HB5.out
    go_wp2_with fail
    refine (HREF.out _ _ _ HR9b.out).mono ?_
    rintro e w5 ⟨rfl, h5⟩
    have HB6 := Lib.hid (HB5.out.trans (h5.mono HB5.out.size))
    have HR8c := Lib.hid (HR8b.out.low h5)
    clear h5 f0 f1
    cases ok
    · go_wp2
      go_ret
      exact ⟨rfl, HUP.out _ HB6.out⟩
    · obtain ⟨hs1, hfit⟩ := HOK.out rfl
      have hww := wordN_pos wide
      have hsl : S.size = n * (2 * wordN wide) + 2 * wordN wide := by rw [← ba_len, hs1, List.length_append, catE_len, zeroL_length]
      have hm := HM.out
      have hss3 := HSS.out
      have hJs : J.size ≤ 30 := by rw [← HJ.out]; simp; omega
      have Y0 : Hid (∀ u, Below w5.heap.size w5 u → u.cell? ⟨bx, 0, none⟩ = some (.bool big)) := Lib.hid (fun u hu => HF0.out _ (HB6.out.trans (hu.mono HB6.out.size)))
      have Y1 : Hid (∀ u, Below w5.heap.size w5 u → u.cell? ⟨bx, 1, none⟩ = some (.bool wide)) := Lib.hid (fun u hu => HF1.out _ (HB6.out.trans (hu.mono HB6.out.size)))
      go_upto_region 16 with (fail)
      refine ereg16 _ _ _ _ _ _ _ _ _ _ _ _ _ _ _ _ _ _ _ _ _ _ _ _ _ _ _ _ _ _ _ _ _ _ _ _ _ _ _ _ _ _ _ _ _ _ _ _ _ _ _ _ _ _ _ _ _ _ _ _ _ _ _ _ _ _ _ _ _ _ _ _ _ _ _ _ _ _ _ _ _ _ _ _ _ _ _ _ _ _ _ _ _ _ _ _ _ _ _ _ _ _ _ _ _ _ _ _ _ _ _ _ _ _ _ _ _ _ _ _ _ _ _ _ _ _ _ _ _ _ _ _ _ _ bx big wide 0 (fun z v u => u.ownsRow z 34 2 v n (flatE ((List.range n).map R))) w5 S m0 J (S ++ J) m (by omega) (by omega) (by omega) (by split <;> omega) HJ.out rfl (by omega) Y0 Y1 (Lib.hid (fun u => (dyn_any big wide (S ++ J) (by rw [ByteArray.size_append]; omega) u).mono (fun e w' h => dyn_back (R := R) (n := n) (junk := J.data.toList) hfit (by simp [hs1]) h))) (fun z v u hz h => own_lower h hz) (fun _ _ _ _ _ h => h) (fun u88 u89 u90 u91 u92 u93 u94 u95 u96 u97 u98 u99 yv w6 h6 p6 => ?_)
      obtain ⟨A15, c15, rfl, hr15⟩ := own_rowE p6
      have HB7 := Lib.hid (HB6.out.trans (h6.mono HB6.out.size))
      have HR8d := Lib.hid (HR8c.out.low h6); have HR15 := Lib.hid hr15
      clear h6 p6 hr15 Y0 Y1
      have HS1 := Lib.hid hs1; have HFIT := Lib.hid hfit; have HSL := Lib.hid hsl
      clear hs1 hfit hsl hm hss3 hJs
      go_wp2
      go_loopw [17] (fun i wr => ∃ j : Nat, j ≤ n ∧ i = .int .i64 (j : Int) ∧ Below w6.heap.size w6 wr) (fun i _ => n - (intOf i).toNat)
      case atStart => exact ⟨0, Nat.zero_le _, rfl, Below.refl _ _⟩
      case round =>
        obtain ⟨j, hj, rfl, hBj⟩ := hrel
        have HBJ := Lib.hid hBj; clear hBj
        by_cases hlt2 : j < n
        · obtain ⟨b1, o1, rfl, hbl1, x0, x1⟩ := HR15.out.low HBJ.out j hlt2
          obtain ⟨b2, o2, rfl, hbl2, z0, z1⟩ := HR8d.out.low HBJ.out j hlt2
          generalize R j = r at *
          obtain ⟨rt, rv⟩ := r
          have k0 : (0 : Int) ≤ (j : Int) := by omega
          have k1 : (j : Int) < (n : Int) := by omega
          have k2 : j + 1 ≤ 1048576 := by have := HN.out; omega
          go_upto_region 22 with (fail)
          refine ereg22 _ _ _ _ _ _ _ _ _ _ _ _ _ _ _ _ _ _ _ _ _ _ _ _ _ _ _ _ _ _ _ _ _ _ _ _ _ _ _ _ _ _ _ _ _ _ _ _ _ _ _ _ _ _ _ _ _ _ _ _ _ _ _ _ _ _ _ _ _ _ _ _ _ _ _ _ _ _ _ _ _ _ _ _ _ _ _ _ _ _ _ _ _ _ _ _ _ _ _ _ _ _ _ _ _ _ _ _ _ _ _ _ _ _ _ _ _ _ _ _ _ _ _ _ _ _ _ _ _ _ _ _ _ _ b1 o1 c15 b2 o2 c8 n j rt rv wr k0 k1 (Lib.hid (fun u hu => (hu.cell (by exact hbl1)).trans x0)) (Lib.hid (fun u hu => (hu.cell (by exact hbl1)).trans x1)) (Lib.hid (fun u hu => (hu.cell (by exact hbl2)).trans z0)) (Lib.hid (fun u hu => (hu.cell (by exact hbl2)).trans z1)) (fun _ _ _ _ _ h => h) (fun u115 u116 u117 u118 u119 u120 u121 u122 w8 h8 => ?_)
          have HB8 := Lib.hid (HBJ.out.trans (h8.mono HBJ.out.size))
          clear h8 x0 x1 z0 z1
          go_wp2
          exact ⟨⟨j + 1, by omega, by go_num, HB8.out⟩, by simp [intOf]; omega⟩
        · obtain rfl : j = n := by omega
          have HB9 := Lib.hid (HB7.out.trans (HBJ.out.mono HB7.out.size))
          have Y0 : Hid (∀ u, Below wr.heap.size wr u → u.cell? ⟨bx, 0, none⟩ = some (.bool big)) := Lib.hid (fun u hu => HF0.out _ (HB9.out.trans (hu.mono HB9.out.size)))
          have Y1 : Hid (∀ u, Below wr.heap.size wr u → u.cell? ⟨bx, 1, none⟩ = some (.bool wide)) := Lib.hid (fun u hu => HF1.out _ (HB9.out.trans (hu.mono HB9.out.size)))
          have hsl := HSL.out
          have hss3 := HSS.out
          go_upto_region 24 with (fail)
          refine ereg24 _ _ _ _ _ _ _ _ _ _ _ _ _ _ _ _ _ _ _ _ _ _ _ _ _ _ _ _ _ _ _ _ _ _ _ _ _ _ _ _ _ _ _ _ _ _ _ _ _ _ _ _ _ _ _ _ _ _ _ _ _ _ _ _ _ _ _ _ _ _ _ _ _ _ _ _ _ _ _ _ _ _ _ _ _ _ _ _ _ _ _ _ _ _ _ _ _ _ _ _ _ _ _ _ _ _ _ _ _ _ _ _ _ _ _ _ _ _ _ _ _ _ _ _ _ _ _ _ _ _ _ _ _ _ _ bx big wide 24 (fun _ v _ => v = .slice none 0 0) wr S (S.extract 0 (S.size - 1)) (S.size - 1) (by omega) (by omega) (by omega) (by rw [IntKind.wrap_i64]; omega) rfl Y0 Y1 (Lib.hid (fun u => (dyn_any big wide (S.extract 0 (S.size - 1)) (by simp; omega) u).mono (fun e w' h => by
            obtain ⟨h1, h2⟩ := dyn_cut (R := R) (n := j) HFIT.out (cut_tail (by omega) HS1.out) (by rw [zeroL_length]; omega) h
            exact ⟨h1, _, h2, rfl⟩))) (fun z v u hz h => h) (fun _ _ _ _ _ h => h) (fun u124 u125 u126 u127 u128 u129 u130 u131 u132 u133 yv w9 h9 p9 => ?_)
          have HB10 := Lib.hid (HB9.out.trans (h9.mono HB9.out.size))
          clear h9 hsl hss3
          go_wp2
          go_ret
          exact ⟨rfl, HUP.out _ HB10.out⟩
end Go.Proofs.YtnmklmaclmjfbaaDoor
