/- The walk of DynrecTags. Conditions: those written in each theorem. -/
import Derived.Deep.CutBlock
import Derived.Deep.DeepCutAuto
import Derived.Test.YtnmklmaclmjfbaaDoorGF
import Derived.Test.YtnmklmaclmjfbaaDoorGE
import Derived.Test.YtnmklmaclmjfbaaDoorDS
import Derived.Test.YtnmklmaclmjfbaaDoorDK
import Derived.Test.YtnmklmaclmjfbaaDoorDAC
namespace Go.Proofs.YtnmklmaclmjfbaaDoor
open Go.RowKit
set_option linter.unusedVariables false
/-- n numbers stand one behind the other where a slice begins. -/
def RowU (w : World) (A : Option Addr) (l : List Nat) : Prop := ∀ i x, l[i]? = some x → ∃ b o, A = some ⟨b, o, none⟩ ∧ b < w.heap.size ∧ w.cell? ⟨b, o + i, none⟩ = some (.int .u64 (x : Nat))
theorem RowU.low {w w' : World} {A : Option Addr} {l : List Nat} (h : RowU w A l) (hb : Below w.heap.size w w') : RowU w' A l := fun i x hi => by
  obtain ⟨b, o, e, hl, h0⟩ := h i x hi
  exact ⟨b, o, e, Nat.lt_of_lt_of_le hl hb.size, (hb.cell (p := ⟨b, _, none⟩) hl).trans h0⟩
theorem own_rowU {w : World} {base e : Nat} {v : Value} {l : List Nat} (h : w.ownsRow base e 1 v l.length (uV l)) : ∃ A c, v = .slice A l.length c ∧ RowU w A l := by
  rcases h.2 with ⟨rfl, h0⟩ | ⟨g, cap, cur, rfl, _, hb, hnc, _, hcs, ht⟩
  · have h1 : l = [] := List.length_eq_zero_iff.1 h0
    subst h1
    exact ⟨none, 0, rfl, fun i x hi => by simp at hi⟩
  · refine ⟨_, cap, rfl, fun i x hi => ⟨g, 0, rfl, (Array.getElem?_eq_some_iff.1 hb).1, ?_⟩⟩
    have hil : i < l.length := (List.getElem?_eq_some_iff.1 hi).1
    rw [Nat.zero_add, Lib.cell_of_heap hb]
    have h4 : cur.toList[i]? = (cur.toList.take (l.length * 1))[i]? := (List.getElem?_take_of_lt (by omega)).symm
    rw [← Array.getElem?_toList, h4, ht]
    simp [uV, hi]
theorem all_find (R : Nat → Nat × Nat) (tag : Nat) : ∀ n, (allL R tag n = [] ∧ findV R tag n = .tuple #[.int .u64 0, .bool false] ∧ ∀ i, i < n → (R i).1 ≠ tag) ∨ (∃ x l, allL R tag n = x :: l ∧ findV R tag n = .tuple #[.int .u64 (x : Nat), .bool true] ∧ ∃ k, k < n ∧ (∀ i, i < k → (R i).1 ≠ tag) ∧ (R k).1 = tag)
  | 0 => .inl ⟨rfl, findV_none (fun i hi => absurd hi (Nat.not_lt_zero _)), fun i hi => absurd hi (Nat.not_lt_zero _)⟩
  | n + 1 => by
    rcases all_find R tag n with ⟨h1, _, h3⟩ | ⟨x, l, h1, h2, k, h3, h4, h5⟩
    · by_cases h : (R n).1 = tag
      · refine .inr ⟨(R n).2, [], by simp only [allL, h1, if_pos h, List.nil_append], ?_, n, by omega, h3, h⟩
        exact findV_some (by omega) h3 h
      · refine .inl ⟨by simp only [allL, h1, if_neg h], ?_, ?_⟩
        · exact findV_none (fun i hi => by
            rcases Nat.lt_or_ge i n with h5 | h5
            · exact h3 i h5
            · obtain rfl : i = n := by omega
              exact h)
        · intro i hi
          rcases Nat.lt_or_ge i n with h5 | h5
          · exact h3 i h5
          · obtain rfl : i = n := by omega
            exact h
    · refine .inr ⟨x, if (R n).1 = tag then l ++ [(R n).2] else l, ?_, ?_, k, by omega, h4, h5⟩
      · simp only [allL, h1]
        split <;> simp
      · rw [findV_some (show k < n + 1 by omega) h4 h5]
        rw [findV_some h3 h4 h5] at h2
        exact h2
theorem toList_mkS (l : List UInt8) : (ByteArray.mk l.toArray).toList = l := by simp
theorem two_dec (a : Nat) : ((((ByteArray.mk (Hex.look tagTab a).toArray).extract 0 2).toList) == [48, 120]) = decide ((24 : Int) < (a : Int)) := by
  have h := (look_two a).2
  generalize (ByteArray.mk (Hex.look tagTab a).toArray).extract 0 2 = X at *
  rw [Bool.eq_iff_iff, beq_iff_eq, decide_eq_true_iff]
  constructor
  · intro h1
    have : X = ⟨#[48, 120]⟩ := by
      apply ba_ext
      rw [← ByteArray.toList_eq, h1]
    have := h.1 this
    omega
  · intro h1
    rw [h.2 (by omega)]
    exact toList_mkS [48, 120]
set_option maxRecDepth 100000 in
set_option maxHeartbeats 2000000 in
theorem tags_t (A : Option Addr) (cap n0 n : Nat) (hn : (n = n0 ∧ n0 ≤ 12) ∨ (n = 12 ∧ 12 < n0)) (R : Nat → Nat × Nat) (a b : Nat) (ha : a < 2 ^ 64) (hb : b < 2 ^ 64) (w : World) (hR : RowP w A n R) (hT : TabsD w) :
    Calls Tryd.prog 6 #[.slice A n0 cap, .int .u64 a, .int .u64 b] w fun e w' => e = .returned (.bool true) ∧ Below w.heap.size w w' := by
  have HN := Lib.hid hn; have HR := Lib.hid hR; have HT := Lib.hid hT; have HA := Lib.hid ha; have HBB := Lib.hid hb
  have hn12 : n ≤ 12 := by omega
  have HN12 := Lib.hid hn12
  obtain ⟨i0, hi, hz0, hz1, hz2⟩ := info_parts infoU
  clear hn hR hT ha hb hn12
  go_enter Tryd.func6, Tryd.ntmps6
  go_wp2_with fail
  refine (dspeaks _).mono ?_
  rintro e w1 ⟨rfl, h1⟩
  go_upto_block 0 with (fail)
  have HB1 := Lib.hid h1; clear h1
  have HR1 := Lib.hid (HR.out.low HB1.out)
  have HT1 := Lib.hid (HT.out.kept HB1.out)
  go_cut [7, 8] (fun v7 v8 wr => wr.ownsRow w1.heap.size 34 2 v7 n (flatE ((List.range n).map R)) ∧ wr.ownsRow w1.heap.size 31 1 v8 (allL R a n).length (uV (allL R a n)) ∧ Below w1.heap.size w1 wr)
  case first =>
    go_wp2
    go_loopw [7, 8, 9] (fun v7 v8 i wr => ∃ k : Nat, k ≤ n ∧ i = .int .i64 (k : Int) ∧ wr.ownsRow w1.heap.size 34 2 v7 k (flatE ((List.range k).map R)) ∧ wr.ownsRow w1.heap.size 31 1 v8 (allL R a k).length (uV (allL R a k)) ∧ Below w1.heap.size w1 wr) (fun _ _ i _ => n - (intOf i).toNat)
    case atStart => exact ⟨0, Nat.zero_le _, rfl, World.ownsRow_nil _ _ _ _, World.ownsRow_nil _ _ _ _, Below.refl _ _⟩
    case round =>
      obtain ⟨k, hk, rfl, h7, h8, hB⟩ := hrel
      have HO7 := Lib.hid h7; have HO8 := Lib.hid h8; have HB := Lib.hid hB; clear h7 h8 hB
      by_cases hlt : k < n
      · obtain ⟨bb, o, rfl, hbl, hc0, hc1⟩ := HR1.out k hlt
        have hnn := HN.out
        have HS : Hid (flatE ((List.range (k + 1)).map R) = flatE ((List.range k).map R) ++ cellsE (R k)) := Lib.hid (flatEm_succ R k)
        have HSA : Hid (allL R a (k + 1) = if (R k).1 = a then allL R a k ++ [(R k).2] else allL R a k) := Lib.hid rfl
        have hle := allL_le R a k
        generalize hr : R k = r at *
        obtain ⟨rt, rv⟩ := r
        have k0 : (0 : Int) ≤ (k : Int) := by omega
        have k1 : (k : Int) < (n0 : Int) := by omega
        have k12 : (k : Int) < 12 := by omega
        have k2 : k + 1 ≤ 1048576 := by omega
        have k3 : k ≤ 1000 := by omega
        clear hnn hr
        dsimp only at hc0 hc1
        have X0 : Hid (∀ u, Below w1.heap.size w1 u → u.cell? ⟨bb, o + k * 2, none⟩ = some (.int .u64 (rt : Nat))) := Lib.hid (fun u hu => (hu.cell (by exact hbl)).trans hc0)
        have X1 : Hid (∀ u, Below w1.heap.size w1 u → u.cell? ⟨bb, o + k * 2 + 1, none⟩ = some (.int .u64 (rv : Nat))) := Lib.hid (fun u hu => (hu.cell (by exact hbl)).trans hc1)
        clear hc0 hc1
        go_upto_region 8 with (fail)
        refine treg8 _ _ _ _ _ _ _ _ _ _ _ _ _ _ _ _ _ _ _ _ _ _ _ _ _ _ _ _ _ _ _ _ _ _ _ _ _ _ _ _ _ _ _ _ _ _ _ _ _ _ _ _ _ _ _ _ _ _ _ _ _ _ _ _ _ _ _ _ _ _ _ _ _ _ _ _ _ _ _ _ _ _ _ _ _ _ _ _ _ _ _ _ _ _ _ _ _ _ _ _ _ _ _ _ _ _ _ _ _ _ _ _ _ _ _ _ _ _ _ _ _ _ _ _ _ _ _ _ _ _ _ _ _ _ _ _ _ _ _ _ bb o n0 cap k rt rv w1.heap.size k _ _ _ wr k0 k1 HB.out.size HO7.out HO8.out k3 (Lib.hid (fun u hu => X0.out u (HB.out.trans hu))) (Lib.hid (fun u hu => X1.out u (HB.out.trans hu))) (fun _ _ _ _ _ h => h) (fun u27 u28 u29 u30 u31 u32 u33 u34 u35 u36 u37 u38 u39 u40 y7 w7 h7 o7 o8 => ?_)
        have HO7' := Lib.hid o7; have HO8' := Lib.hid o8
        have HB7 := Lib.hid (HB.out.trans h7)
        clear o7 o8 h7
        have hc0 := X0.out _ HB7.out
        have hc1 := X1.out _ HB7.out
        have hsz := HB7.out.size
        have HOX := Lib.hid (own_stay HO8'.out ((Below.refl _ _).alloc (Nat.le_refl _) (.cells #[.int .u64 (rv : Nat)] 31)))
        have hcn := cells_new w7 [.int .u64 (rv : Nat)] 31
        have HCN := Lib.hid hcn; clear hcn
        by_cases ht : rt = a
        · subst ht
          have t1 : ((rt : Int) == (rt : Int)) = true := by simp
          go_wp2_with (first
            | (at_builtin; (refine wpList_append_own _ rfl _ _ 58 rfl w1.heap.size 31 i0 (.int .u64 0) 1 8 Tryd.underlying58 hi hz0 hz1 hz2 rfl (by decide) _ _ _ rfl HOX.out _ 1 1 [.int .u64 (rv : Nat)] rfl rfl HCN.out (by simp [Value.oneCell']) (by unfold maxLen; omega) (by omega) (by simp; omega) ?_; intro v' w12 hown' hg12 hnil12))
            | go_in)
          have hfl := own_floor HOX.out
          have hB12 : Below w1.heap.size w1 w12 := (HB7.out.alloc HB7.out.size _).grown hg12 (by simp; omega) (fun i hi => hfl i hi)
          have HO7'' := own_beside HOX.out (own_stay HO7'.out ((Below.refl _ w7).alloc (Nat.le_refl _) (.cells #[.int .u64 (rv : Nat)] 31))) (by decide) hg12
          have hS : allL R rt (k + 1) = allL R rt k ++ [rv] := by rw [HSA.out]; simp
          exact ⟨⟨k + 1, by omega, by go_num, by rw [HS.out]; exact HO7'', by rw [hS, uV_snoc, List.length_append]; exact hown', hB12⟩, by simp [intOf]; omega⟩
        · have t1 : ((rt : Int) == (a : Int)) = false := by rw [beq_eq_false_iff_ne]; omega
          have HTN := Lib.hid ht; clear ht
          go_wp2
          have hS : allL R a (k + 1) = allL R a k := by rw [HSA.out]; simp [HTN.out]
          exact ⟨⟨k + 1, by omega, by go_num, by rw [HS.out]; exact HO7'.out, by rw [hS]; exact HO8'.out, HB7.out⟩, by simp [intOf]; omega⟩
      · obtain rfl : k = n := by omega
        rcases HN.out with ⟨hA, hA2⟩ | ⟨hA, hA2⟩
        · have e1 : (k : Int) = (n0 : Int) := by omega
          have e2 : decide ((k : Int) < (n0 : Int)) = false := decide_eq_false (by omega)
          have e3 : ¬ ((k : Int) < (n0 : Int)) := by omega
          go_wp2
          go_meet
          case rel => exact ⟨HO7.out, HO8.out, HB.out⟩
        · have e1 : (k : Int) < (n0 : Int) := by omega
          have e3 : ¬ ((k : Int) < 12) := by omega
          have e4 : decide ((k : Int) < 12) = false := decide_eq_false (by omega)
          go_wp2
          go_meet
          case rel => exact ⟨HO7.out, HO8.out, HB.out⟩
  case rest =>
    obtain ⟨h7, h8, hB⟩ := hcut
    obtain ⟨A7, c7, rfl, hr7⟩ := own_rowE h7
    obtain ⟨A8, c8, rfl, hr8⟩ := own_rowU h8
    have HR7 := Lib.hid hr7; have HR8 := Lib.hid hr8; have HB := Lib.hid hB; clear hr7 hr8 h7 h8 hB
    have hle := allL_le R a n
    have hn12 := HN12.out
    have HAF := Lib.hid (all_find R a n)
    have HLL := Lib.hid (show (allL R a n).length ≤ 12 by omega)
    clear hle hn12
    go_wp2_with fail
    refine (all_any A7 c7 n R a (by have := HN12.out; omega) _ HR7.out).mono ?_
    rintro e w4 ⟨⟨v10, rfl, ho10⟩, h4⟩
    obtain ⟨A10, c10, rfl, hr10⟩ := own_rowU ho10
    have HB4 := Lib.hid (HB.out.trans (h4.mono HB.out.size))
    have HR7b := Lib.hid (HR7.out.low h4); have HR8b := Lib.hid (HR8.out.low h4); have HR10 := Lib.hid hr10
    clear h4 ho10 hr10
    go_wp2_with fail
    refine (find_any A7 c7 n R a (by have := HN12.out; omega) _ HR7b.out).mono ?_
    have HS5 : Hid (∀ L : List Nat, L = allL R a n → (allL R a n).length = L.length) := Lib.hid (fun L h => by rw [h])
    rcases HAF.out with ⟨h1, h2, _⟩ | ⟨x, l, h1, h2, _⟩
    · rw [h2]
      rintro e w5 ⟨rfl, h5⟩
      have HB5 := Lib.hid (HB4.out.trans (h5.mono HB4.out.size))
      have HR8c := Lib.hid (HR8b.out.low h5); have HR10b := Lib.hid (HR10.out.low h5)
      clear h5 h2 HAF HS5 HR10 HR8b HR8
      generalize allL R a n = L at *
      obtain rfl : L = [] := h1
      simp only [List.length_nil] at *
      go_wp2
      go_loopw [13] (fun i wr => i = .int .i64 0 ∧ Below w5.heap.size w5 wr) (fun i _ => 0)
      case atStart => exact ⟨rfl, Below.refl _ _⟩
      case round =>
        obtain ⟨rfl, hBj⟩ := hrel
        have HBJ := Lib.hid hBj; clear hBj
        have HB9 := Lib.hid (HB5.out.trans (HBJ.out.mono HB5.out.size))
        have HT9 := Lib.hid (HT1.out.kept HB9.out)
        go_wp2_with fail
        refine (tagName a HA.out _ HT9.out).mono ?_
        rintro e w6 ⟨rfl, h6⟩
        have HB10 := Lib.hid (HB9.out.trans (h6.mono HB9.out.size))
        have HT10 := Lib.hid (HT9.out.kept h6)
        clear h6
        go_upto_region 21 with (fail)
        refine treg21 _ _ _ _ _ _ _ _ _ _ _ _ _ _ _ _ _ _ _ _ _ _ _ _ _ _ _ _ _ _ _ _ _ _ _ _ _ _ _ _ _ _ _ _ _ _ _ _ _ _ _ _ _ _ _ _ _ _ _ _ _ _ _ _ _ _ _ _ _ _ _ _ _ _ _ _ _ _ _ _ _ _ _ _ _ _ _ _ _ _ _ _ _ _ _ _ _ _ _ _ _ _ _ _ _ _ _ _ _ _ _ _ _ _ _ _ _ _ _ _ _ _ _ _ _ _ _ _ _ _ _ _ _ _ _ _ _ _ a b _ ⟨(Hex.look tagTab b).toArray⟩ _ w6 HT10 (by have := (look_two a).1; omega) rfl ((a : Int) == (b : Int)) (decide ((24 : Int) < (a : Int))) (by rw [toList_mkS, toList_mkS]; exact Hex.look_beq tagTab tagTab_ok a b HA.out HBB.out) rfl (two_dec a) rfl (Lib.hid (fun u h => tagName b HBB.out u h)) (fun u112 u113 u114 u115 u116 u117 u118 u119 u120 u121 u122 u123 u124 u125 u126 u127 u128 u129 u130 u131 u132 u133 u134 u135 u136 u137 u138 u139 w7 h7 => ?_)
        have HB11 := Lib.hid (HB10.out.trans (h7.mono HB10.out.size))
        clear h7
        go_wp2
        go_ret
        exact ⟨rfl, HB1.out.trans (HB11.out.mono HB1.out.size)⟩
    · rw [h2]
      rintro e w5 ⟨rfl, h5⟩
      have HB5 := Lib.hid (HB4.out.trans (h5.mono HB4.out.size))
      have HR8c := Lib.hid (HR8b.out.low h5); have HR10b := Lib.hid (HR10.out.low h5)
      clear h5 h2 HAF HS5 HR10 HR8b HR8
      generalize allL R a n = L at *
      obtain ⟨g2, q2, rfl, hbl0, z0⟩ := HR8c.out 0 x (by rw [h1]; rfl)
      rw [Nat.add_zero] at z0
      have hpos : 0 < L.length := by rw [h1]; simp
      have hposi : (0 : Int) < (L.length : Int) := by omega
      have s1 : ((x : Int) == (x : Int)) = true := by simp
      clear h1 hpos
      go_wp2
      go_loopw [13] (fun i wr => ∃ j : Nat, j ≤ L.length ∧ i = .int .i64 (j : Int) ∧ Below w5.heap.size w5 wr) (fun i _ => L.length - (intOf i).toNat)
      case atStart => exact ⟨0, Nat.zero_le _, rfl, Below.refl _ _⟩
      case round =>
        obtain ⟨j, hj, rfl, hBj⟩ := hrel
        have HBJ := Lib.hid hBj; clear hBj
        by_cases hlt2 : j < L.length
        · obtain ⟨b1, o1, he1, hbl1, x0⟩ := HR10b.out.low HBJ.out j L[j] (List.getElem?_eq_getElem hlt2)
          obtain ⟨b2, o2, he2, hbl2, z0⟩ := HR8c.out.low HBJ.out j L[j] (List.getElem?_eq_getElem hlt2)
          cases he1; cases he2
          have hLL := HLL.out
          have k0 : (0 : Int) ≤ (j : Int) := by omega
          have k1 : (j : Int) < (L.length : Int) := by omega
          have k2 : j + 1 ≤ 1048576 := by omega
          clear hLL
          go_upto_region 18 with (fail)
          refine treg18 _ _ _ _ _ _ _ _ _ _ _ _ _ _ _ _ _ _ _ _ _ _ _ _ _ _ _ _ _ _ _ _ _ _ _ _ _ _ _ _ _ _ _ _ _ _ _ _ _ _ _ _ _ _ _ _ _ _ _ _ _ _ _ _ _ _ _ _ _ _ _ _ _ _ _ _ _ _ _ _ _ _ _ _ _ _ _ _ _ _ _ _ _ _ _ _ _ _ _ _ _ _ _ _ _ _ _ _ _ _ _ _ _ _ _ _ _ _ _ _ _ _ _ _ _ _ _ _ _ _ _ _ _ _ _ _ _ _ b1 o1 c10 g2 q2 c8 L.length j L[j] wr k0 k1 (Lib.hid (fun u hu => (hu.cell (by exact hbl1)).trans x0)) (Lib.hid (fun u hu => (hu.cell (by exact hbl2)).trans z0)) (fun _ _ _ _ _ h => h) (fun u101 u102 u103 u104 u105 u106 u107 u108 w8 h8 => ?_)
          have HB8 := Lib.hid (HBJ.out.trans (h8.mono HBJ.out.size))
          clear h8 x0 z0
          go_wp2
          exact ⟨⟨j + 1, by omega, by go_num, HB8.out⟩, by simp [intOf]; omega⟩
        · obtain rfl : j = L.length := by omega
          have HB9 := Lib.hid (HB5.out.trans (HBJ.out.mono HB5.out.size))
          have HT9 := Lib.hid (HT1.out.kept HB9.out)
          go_wp2_with fail
          refine (tagName a HA.out _ HT9.out).mono ?_
          rintro e w6 ⟨rfl, h6⟩
          have HB10 := Lib.hid (HB9.out.trans (h6.mono HB9.out.size))
          have HT10 := Lib.hid (HT9.out.kept h6)
          clear h6
          go_upto_region 21 with (fail)
          refine treg21 _ _ _ _ _ _ _ _ _ _ _ _ _ _ _ _ _ _ _ _ _ _ _ _ _ _ _ _ _ _ _ _ _ _ _ _ _ _ _ _ _ _ _ _ _ _ _ _ _ _ _ _ _ _ _ _ _ _ _ _ _ _ _ _ _ _ _ _ _ _ _ _ _ _ _ _ _ _ _ _ _ _ _ _ _ _ _ _ _ _ _ _ _ _ _ _ _ _ _ _ _ _ _ _ _ _ _ _ _ _ _ _ _ _ _ _ _ _ _ _ _ _ _ _ _ _ _ _ _ _ _ _ _ _ _ _ _ _ a b _ ⟨(Hex.look tagTab b).toArray⟩ _ w6 HT10 (by have := (look_two a).1; omega) rfl ((a : Int) == (b : Int)) (decide ((24 : Int) < (a : Int))) (by rw [toList_mkS, toList_mkS]; exact Hex.look_beq tagTab tagTab_ok a b HA.out HBB.out) rfl (two_dec a) rfl (Lib.hid (fun u h => tagName b HBB.out u h)) (fun u112 u113 u114 u115 u116 u117 u118 u119 u120 u121 u122 u123 u124 u125 u126 u127 u128 u129 u130 u131 u132 u133 u134 u135 u136 u137 u138 u139 w7 h7 => ?_)
          have HB11 := Lib.hid (HB10.out.trans (h7.mono HB10.out.size))
          clear h7
          go_wp2
          go_ret
          exact ⟨rfl, HB1.out.trans (HB11.out.mono HB1.out.size)⟩
end Go.Proofs.YtnmklmaclmjfbaaDoor
