/- The walk of DynrecNotes. Conditions: those written in each theorem. -/
import Derived.Deep.CutBlock
import Derived.Deep.DeepCutAuto
import Derived.Test.YtnmklmaclmjfbaaDoorFA
import Derived.Test.YtnmklmaclmjfbaaDoorFB
import Derived.Test.YtnmklmaclmjfbaaDoorFC
import Derived.Test.YtnmklmaclmjfbaaDoorFD
import Derived.Test.YtnmklmaclmjfbaaDoorDQ
namespace Go.Proofs.YtnmklmaclmjfbaaDoor
open Go.RowKit
set_option linter.unusedVariables false
/-- A note whose texts are cut to 40 bytes. -/
def cutN (x : Nt) : Nt := ⟨x.ty, x.name.extract 0 (min x.name.size 40), x.desc.extract 0 (min x.desc.size 40)⟩
theorem cutN_siz (x : Nt) : sizN (cutN x) ≤ 98 := by
  have h1 := pad4_le (cutN x).name.size
  have h2 := pad4_le (cutN x).desc.size
  have e1 : (cutN x).name.size ≤ 40 := by simp [cutN]; omega
  have e2 : (cutN x).desc.size ≤ 40 := by simp [cutN]; omega
  unfold sizN
  omega
theorem catN_bd (big : Bool) (X : Nat → Nt) : ∀ k, (∀ i, i < k → sizN (X i) ≤ 98) → (catN big X k).length ≤ k * 98
  | 0, _ => Nat.le_refl _
  | k + 1, h => by
    have := catN_bd big X k (fun i hi => h i (by omega))
    have := h k (by omega)
    simp only [catN, List.length_append, encN_length]
    omega
theorem flatNs (X : Nat → Nt) (k : Nat) : flatNt (firstN X (k + 1)) = flatNt (firstN X k) ++ cellsNt (X k) := by rw [firstN_succ]; exact flatNt_snoc _ _
theorem row_back {w : World} {B n e : Nat} {v : Value} {X : Nat → Nt} (h : w.ownsRow B e 3 v n (flatNt (firstN X n))) : ∃ A c, v = .slice A n c ∧ RowNt w A n X := by
  rcases h.2 with ⟨rfl, rfl⟩ | ⟨g, cap, cur, rfl, _, hb, hnc, _, hcs, ht⟩
  · exact ⟨none, 0, rfl, fun i hi => absurd hi (Nat.not_lt_zero _)⟩
  · refine ⟨_, cap, rfl, fun i hi => ⟨g, 0, rfl, (Array.getElem?_eq_some_iff.1 hb).1, ?_⟩⟩
    have key : ∀ j, j < 3 → w.cell? ⟨g, 0 + i * 3 + j, none⟩ = (cellsNt (X i))[j]? := fun j hj => by
      rw [Nat.zero_add, Lib.cell_of_heap hb]
      have h4 : cur.toList[i * 3 + j]? = (cur.toList.take (n * 3))[i * 3 + j]? := (List.getElem?_take_of_lt (by omega)).symm
      rw [← Array.getElem?_toList, h4, ht, flatF_at X n i j hi hj]
    exact ⟨key 0 (by omega), key 1 (by omega), key 2 (by omega)⟩
theorem allOkN_at {X : Nat → Nt} {n : Nat} (h : allOk (okN X) n = true) (hs : ∀ i, (X i).name.size ≤ 40 ∧ (X i).desc.size ≤ 40) : ∀ i, i < n → smallN (X i) := fun i hi => by
  unfold allOk at h
  rw [List.all_eq_true] at h
  have h1 := h i (List.mem_range.2 hi)
  unfold okN at h1
  have h2 := hs i
  exact ⟨by simpa using h1, by omega, by omega⟩
theorem allOkN_mk {X : Nat → Nt} {n : Nat} (h : ∀ i, i < n → smallN (X i)) : allOk (okN X) n = true := by
  unfold allOk
  rw [List.all_eq_true]
  intro i hi
  have := (h i (List.mem_range.1 hi)).1
  unfold okN
  simpa using this
theorem put_is (big : Bool) (X : Nat → Nt) (n : Nat) (hs : ∀ i, (X i).name.size ≤ 40 ∧ (X i).desc.size ≤ 40) (hbd : (catN big X n).length ≤ 784) : ∃ (S : ByteArray) (ok : Bool), putNV big X n = .tuple #[.string S, .bool ok] ∧ S.size ≤ 784 ∧ (ok = true → S.data.toList = catN big X n ∧ ∀ i, i < n → smallN (X i)) := by
  cases hok : allOk (okN X) n
  · exact ⟨⟨#[]⟩, false, by unfold putNV; rw [hok]; rfl, by decide, fun h => by cases h⟩
  · exact ⟨⟨(catN big X n).toArray⟩, true, by unfold putNV; rw [hok]; rfl, by rw [str_size]; exact hbd, fun _ => ⟨rfl, allOkN_at hok hs⟩⟩
/-- What Notes says of notes that are cut off by a byte. -/
theorem cut_end (big wide : Bool) (n : Nat) (X : Nat → Nt) (S : ByteArray) (hX : ∀ i, i < n → smallN (X i)) (hs : S.data.toList = catN big X n) (hz : S.size ≤ 784) : ∃ er : Int, (S.size = 0 ∧ er = 0 ∨ 0 < S.size ∧ er = 3) ∧
    ∀ u, Calls Tryd.prog 14 #[.agg #[.bool big, .bool wide], .string (S.extract 0 (S.size - 1))] u fun e w' => Below u.heap.size u w' ∧ ∃ v, e = .returned (.tuple #[v, .int .i64 er]) ∧ True := by
  have hsz : S.size = (catN big X n).length := by rw [← ba_len, hs]
  by_cases hn : n = 0
  · subst hn
    have h0 : S.size = 0 := hsz
    refine ⟨0, .inl ⟨h0, rfl⟩, fun u => (notes_any big wide _ (by simp; omega) u).mono fun e w' h => ?_⟩
    obtain ⟨h1, A, c, h2, _⟩ := notes_back (n := 0) (X := X) hX (by rw [ext_l, hs]; simp [catN]) h
    exact ⟨h1, _, h2, trivial⟩
  · have h1 : 12 ≤ S.size := by
      obtain ⟨m, rfl⟩ : ∃ m, n = m + 1 := ⟨n - 1, by omega⟩
      have := encN_pos big (X m)
      rw [hsz]; simp only [catN, List.length_append]; omega
    refine ⟨3, .inr ⟨by omega, rfl⟩, fun u => (notes_any big wide _ (by simp; omega) u).mono fun e w' h => ?_⟩
    obtain ⟨h2, h3⟩ := notes_cut (by omega) hX (by rw [ext_l, List.drop_zero, Nat.sub_zero, hs, hsz]) h
    exact ⟨h2, _, h3, trivial⟩
set_option maxRecDepth 100000 in
set_option maxHeartbeats 4000000 in
theorem notes_t (fl : Int) (A : Option Addr) (cap n0 n : Nat) (hn : (n = n0 ∧ n0 ≤ 8) ∨ (n = 8 ∧ 8 < n0)) (X0 : Nat → Nt) (m0 J : ByteArray) (m : Nat) (hm : (m0.size ≤ 300 ∧ m = m0.size) ∨ (300 < m0.size ∧ m = 300)) (hJ : m0.extract 0 m = J)
    (big wide : Bool) (hb : (bits BinOp.and IntKind.i64 fl 1 == 1) = big) (hw : (bits BinOp.and IntKind.i64 fl 2 == 2) = wide) (w : World) (hR : RowNt w A n X0) (h64 : ∀ i, i < n → (X0 i).ty < 2 ^ 64) :
    Calls Tryd.prog 4 #[.int .i64 fl, .slice A n0 cap, .string m0] w fun e w' => e = .returned (.bool true) ∧ Below w.heap.size w w' := by
  have HF := Lib.hid (fun u => dform fl big wide hb hw u)
  have hJs : J.size ≤ 300 := by rw [← hJ]; simp; omega
  have HM := Lib.hid hm; have HJ := Lib.hid hJ; have HN := Lib.hid hn; have HR := Lib.hid hR; have HJS := Lib.hid hJs
  have hn8 : n ≤ 8 := by omega
  have hbd := catN_bd big (fun i => cutN (X0 i)) n (fun i _ => cutN_siz _)
  have HPUT := Lib.hid (fun A c w hR => putNotes_any big wide A c n (fun i => cutN (X0 i)) (by omega) (by omega) (fun i hi => h64 i hi) w hR)
  have HREF := Lib.hid (fun A c w hR => refNotes_any big A c n (fun i => cutN (X0 i)) (by omega) (by omega) (fun i hi => h64 i hi) w hR)
  have HBD := Lib.hid hbd
  clear hb hw hm hJ hR h64 hn hn8 hbd hJs
  go_enter Tryd.func4, Tryd.ntmps4
  go_wp2_with fail
  refine (dspeaks _).mono ?_
  rintro e w1 ⟨rfl, h1⟩
  go_wp2_with fail
  refine (HF.out _).mono ?_
  rintro e w3 ⟨rfl, h3⟩
  have HB3 := Lib.hid (h1.trans (h3.mono h1.size))
  clear h1 h3
  go_upto_block 0 with (fail)
  have F0 : (w3.alloc (.cells #[.bool big, .bool wide] 27)).cell? ⟨w3.heap.size, 0, none⟩ = some (.bool big) := by simp
  have F1 : (w3.alloc (.cells #[.bool big, .bool wide] 27)).cell? ⟨w3.heap.size, 1, none⟩ = some (.bool wide) := by simp
  have hz : w3.heap.size < (w3.alloc (.cells #[.bool big, .bool wide] 27)).heap.size := by simp
  have HB4 := Lib.hid (HB3.out.alloc HB3.out.size (.cells #[.bool big, .bool wide] 27))
  generalize (w3.alloc (.cells #[.bool big, .bool wide] 27)) = W1 at *
  generalize w3.heap.size = bx at *
  have HF0 : Hid (∀ u, Below W1.heap.size W1 u → u.cell? ⟨bx, 0, none⟩ = some (.bool big)) := Lib.hid (fun u h => (h.cell (by exact hz)).trans F0)
  have HF1 : Hid (∀ u, Below W1.heap.size W1 u → u.cell? ⟨bx, 1, none⟩ = some (.bool wide)) := Lib.hid (fun u h => (h.cell (by exact hz)).trans F1)
  have HUP : Hid (∀ u, Below W1.heap.size W1 u → Below w.heap.size w u) := Lib.hid (fun u h => HB4.out.trans (h.mono HB4.out.size))
  have HR1 := Lib.hid (HR.out.low HB4.out)
  clear F0 F1
  go_cut [8, 9] (fun v8 v9 wr => wr.ownsRow W1.heap.size 48 3 v8 n (flatNt (firstN (fun i => cutN (X0 i)) n)) ∧ wr.ownsRow W1.heap.size 49 3 v9 n (flatNt (firstN (fun i => cutN (X0 i)) n)) ∧ Below W1.heap.size W1 wr)
  case first =>
    go_wp2
    go_loopw [8, 9, 10] (fun v8 v9 i wr => ∃ k : Nat, k ≤ n ∧ i = .int .i64 (k : Int) ∧ wr.ownsRow W1.heap.size 48 3 v8 k (flatNt (firstN (fun i => cutN (X0 i)) k)) ∧ wr.ownsRow W1.heap.size 49 3 v9 k (flatNt (firstN (fun i => cutN (X0 i)) k)) ∧ Below W1.heap.size W1 wr) (fun _ _ i _ => n - (intOf i).toNat)
    case atStart => exact ⟨0, Nat.zero_le _, rfl, World.ownsRow_nil _ _ _ _, World.ownsRow_nil _ _ _ _, Below.refl _ _⟩
    case round =>
      obtain ⟨k, hk, rfl, h8, h9, hB⟩ := hrel
      have HO8 := Lib.hid h8; have HO9 := Lib.hid h9; have HB := Lib.hid hB; clear h8 h9 hB
      by_cases hlt : k < n
      · obtain ⟨b, o, rfl, hbl, hc0, hc1, hc2⟩ := HR1.out.low HB.out k hlt
        have hnn := HN.out
        have HS : Hid (flatNt (firstN (fun i => cutN (X0 i)) (k + 1)) = flatNt (firstN (fun i => cutN (X0 i)) k) ++ cellsNt (cutN (X0 k))) := Lib.hid (flatNs _ k)
        generalize hr : X0 k = r at *
        obtain ⟨rt, rn, rd⟩ := r
        have k0 : (0 : Int) ≤ (k : Int) := by omega
        have k1 : (k : Int) < (n0 : Int) := by omega
        have k12 : (k : Int) < 8 := by omega
        have k2 : k + 1 ≤ 1048576 := by omega
        have k3 : k ≤ 1000 := by omega
        have HX := Lib.hid hr; clear hr
        dsimp only at hc0 hc1 hc2
        clear hnn
        go_upto_region 10 with (fail)
        generalize hg : wr.heap.size = g at *
        have HG := Lib.hid hg
        have hRg : (wr.alloc (.cells #[.int .u64 (rt : Nat), .string rn, .string rd] 47)).heap[g]? = some (.cells #[.int .u64 (rt : Nat), .string rn, .string rd] 47 (0, 0)) := by rw [← hg]; exact heap_alloc_new _ _
        have hBa : Below g wr (wr.alloc (.cells #[.int .u64 (rt : Nat), .string rn, .string rd] 47)) := (Below.refl _ wr).alloc (by omega) _
        have hgW : W1.heap.size ≤ g := by rw [← hg]; exact HB.out.size
        generalize (wr.alloc (.cells #[.int .u64 (rt : Nat), .string rn, .string rd] 47)) = w4 at *
        have HBA := Lib.hid hBa; have HGW := Lib.hid hgW; have HRG := Lib.hid hRg
        clear hBa hgW hRg hc0 hc1 hc2 hg
        generalize hm1 : min rn.size 40 = m1 at *
        generalize hm2 : min rd.size 40 = m2 at *
        have e1 : rn.extract 0 m1 = (cutN (X0 k)).name := by rw [HX.out, ← hm1]; rfl
        have e2 : rd.extract 0 m2 = (cutN (X0 k)).desc := by rw [HX.out, ← hm2]; rfl
        have e0 : rt = (cutN (X0 k)).ty := by rw [HX.out]; rfl
        refine nreg10 _ _ _ _ _ _ _ _ _ _ _ _ _ _ _ _ _ _ _ _ _ _ _ _ _ _ _ _ _ _ _ _ _ _ _ _ _ _ _ _ _ _ _ _ _ _ _ _ _ _ _ _ _ _ _ _ _ _ _ _ _ _ _ _ _ _ _ _ _ _ _ _ _ _ _ _ _ _ _ _ _ _ _ _ _ _ _ _ _ _ _ _ _ _ _ _ _ _ _ _ _ _ _ _ _ _ _ _ _ _ _ _ _ _ _ _ _ _ _ _ _ _ _ _ _ _ _ _ _ _ _ _ _ _ _ _ _ _ _ _ _ _ _ _ _ _ _ _ _ _ _ _ _ _ _ _ _ _ _ _ _ _ _ _ _ _ _ _ _ _ _ _ _ _ g rt rn rd _ _ m1 m2 _ HRG.out (by omega) (by omega) (by omega) (by split <;> omega) e1 (by omega) (by omega) (by omega) (by split <;> omega) e2 (fun _ _ _ _ _ h => h) (fun u43 u44 u45 u46 u47 u48 u49 u50 u51 u52 u53 u54 u55 u56 u57 u58 w5 hr5 h5 => ?_)
        have hB5 : Below wr.heap.size wr w5 := by rw [HG.out]; exact HBA.out.trans h5
        have HO8b := Lib.hid (own_stay HO8.out hB5); have HO9b := Lib.hid (own_stay HO9.out hB5)
        have HB5 := Lib.hid (HB.out.trans (hB5.mono (by rw [HG.out]; exact HGW.out)))
        rw [e0] at hr5
        have HR5 := Lib.hid hr5
        clear hr5 h5 hB5 e0 e1 e2 hm1 hm2
        go_upto_region 11 with (fail)
        refine nreg11 _ _ _ _ _ _ _ _ _ _ _ _ _ _ _ _ _ _ _ _ _ _ _ _ _ _ _ _ _ _ _ _ _ _ _ _ _ _ _ _ _ _ _ _ _ _ _ _ _ _ _ _ _ _ _ _ _ _ _ _ _ _ _ _ _ _ _ _ _ _ _ _ _ _ _ _ _ _ _ _ _ _ _ _ _ _ _ _ _ _ _ _ _ _ _ _ _ _ _ _ _ _ _ _ _ _ _ _ _ _ _ _ _ _ _ _ _ _ _ _ _ _ _ _ _ _ _ _ _ _ _ _ _ _ _ _ _ _ _ _ _ _ _ _ _ _ _ _ _ _ _ _ _ _ _ _ _ _ _ _ _ _ _ _ _ _ _ _ _ _ _ _ _ _ g (cutN (X0 k)) W1.heap.size k k _ _ w5 HR5.out HB5.out.size HO8b.out HO9b.out k3 k3 (fun _ _ _ _ _ h => h) (fun u59 u60 u61 u62 u63 u64 u65 u66 y8 y9 w7 h7 o8 o9 => ?_)
        have HO8' := Lib.hid o8; have HO9' := Lib.hid o9
        have HB7 := Lib.hid (HB5.out.trans h7)
        clear o8 o9 h7
        go_wp2
        exact ⟨⟨k + 1, by omega, by go_num, by rw [HS.out, ← HX.out]; exact HO8'.out, by rw [HS.out, ← HX.out]; exact HO9'.out, HB7.out⟩, by simp [intOf]; omega⟩
      · obtain rfl : k = n := by omega
        rcases HN.out with ⟨hA, hA2⟩ | ⟨hA, hA2⟩
        · have e1 : (k : Int) = (n0 : Int) := by omega
          have e2 : decide ((k : Int) < (n0 : Int)) = false := decide_eq_false (by omega)
          have e3 : ¬ ((k : Int) < (n0 : Int)) := by omega
          go_wp2
          go_meet
          case rel => exact ⟨HO8.out, HO9.out, HB.out⟩
        · have e1 : (k : Int) < (n0 : Int) := by omega
          have e3 : ¬ ((k : Int) < 8) := by omega
          have e4 : decide ((k : Int) < 8) = false := decide_eq_false (by omega)
          go_wp2
          go_meet
          case rel => exact ⟨HO8.out, HO9.out, HB.out⟩
  case rest =>
    obtain ⟨h8, h9, hB⟩ := hcut
    obtain ⟨A8, c8, rfl, hr8⟩ := row_back h8
    obtain ⟨A9, c9, rfl, hr9⟩ := row_back h9
    have HR8 := Lib.hid hr8; have HR9 := Lib.hid hr9; have HB := Lib.hid hB; clear hr8 hr9 h8 h9 hB
    have f0 := HF0.out _ HB.out
    have f1 := HF1.out _ HB.out
    generalize hX : (fun i => cutN (X0 i)) = X at *
    have HXS : Hid (∀ i, (X i).name.size ≤ 40 ∧ (X i).desc.size ≤ 40) := Lib.hid (fun i => by rw [← hX]; simp [cutN]; omega)
    clear hX
    obtain ⟨S, ok, hpv, hSs, hSo⟩ := put_is big X n HXS.out (by have := HBD.out; have := HN.out; omega)
    have HPV := Lib.hid hpv; have HSS := Lib.hid hSs; have HSO := Lib.hid hSo
    clear hpv hSs hSo
    go_wp2_with fail
    refine (HPUT.out _ _ _ HR8.out).mono ?_
    rw [HPV.out]
    rintro e w4 ⟨rfl, h4⟩
    have HB5 := Lib.hid (HB.out.trans (h4.mono HB.out.size))
    have HR8b := Lib.hid (HR8.out.low h4); have HR9b := Lib.hid (HR9.out.low h4)
    clear h4 f0 f1
    have f0 := HF0.out _ HB5.out
    have f1 := HF1.out _ HB5.out
    go_wp2_with fail
    refine (HREF.out _ _ _ HR9b.out).mono ?_
    rw [HPV.out]
    rintro e w5 ⟨rfl, h5⟩
    have HB6 := Lib.hid (HB5.out.trans (h5.mono HB5.out.size))
    have HR8c := Lib.hid (HR8b.out.low h5)
    clear h5 f0 f1
    go_upto_if 89 with (fail)
    go_cut [6] (fun v6 wr => Below W1.heap.size W1 wr)
    case first =>
      cases ok
      · go_wp2
        go_meet
        case rel => exact HB6.out
      · obtain ⟨hs1, hsm⟩ := HSO.out rfl
        have HS1 := Lib.hid hs1; have HSM := Lib.hid hsm; clear hs1 hsm
        have f0 := HF0.out _ HB6.out
        have f1 := HF1.out _ HB6.out
        go_wp2_with fail
        refine ((notes_any big wide S (by have := HSS.out; omega) _).mono fun e w' h => notes_back HSM.out HS1.out h).mono ?_
        rintro e w6 ⟨h6, A16, c16, rfl, hr16⟩
        have HB7 := Lib.hid (HB6.out.trans (h6.mono HB6.out.size))
        have HR8d := Lib.hid (HR8c.out.low h6); have HR16 := Lib.hid hr16
        clear h6 hr16 f0 f1
        go_wp2
        go_loopw [18] (fun i wr => ∃ j : Nat, j ≤ n ∧ i = .int .i64 (j : Int) ∧ Below w6.heap.size w6 wr) (fun i _ => n - (intOf i).toNat)
        case atStart => exact ⟨0, Nat.zero_le _, rfl, Below.refl _ _⟩
        case round =>
          obtain ⟨j, hj, rfl, hBj⟩ := hrel
          have HBJ := Lib.hid hBj; clear hBj
          by_cases hlt2 : j < n
          · obtain ⟨b1, o1, rfl, hbl1, x0, x1, x2⟩ := HR16.out.low HBJ.out j hlt2
            obtain ⟨b2, o2, rfl, hbl2, z0, z1, z2⟩ := HR8d.out.low HBJ.out j hlt2
            have k0 : (0 : Int) ≤ (j : Int) := by omega
            have k1 : (j : Int) < (n : Int) := by omega
            have k2 : j + 1 ≤ 1048576 := by have := HN.out; omega
            go_upto_region 23 with (fail)
            refine nreg23 _ _ _ _ _ _ _ _ _ _ _ _ _ _ _ _ _ _ _ _ _ _ _ _ _ _ _ _ _ _ _ _ _ _ _ _ _ _ _ _ _ _ _ _ _ _ _ _ _ _ _ _ _ _ _ _ _ _ _ _ _ _ _ _ _ _ _ _ _ _ _ _ _ _ _ _ _ _ _ _ _ _ _ _ _ _ _ _ _ _ _ _ _ _ _ _ _ _ _ _ _ _ _ _ _ _ _ _ _ _ _ _ _ _ _ _ _ _ _ _ _ _ _ _ _ _ _ _ _ _ _ _ _ _ _ _ _ _ _ _ _ _ _ _ _ _ _ _ _ _ _ _ _ _ _ _ _ _ _ _ _ _ _ _ _ _ _ _ _ _ _ _ b1 o1 c16 b2 o2 c8 n j (X j) wr k0 k1 (Lib.hid (fun u hu => (hu.cell (by exact hbl1)).trans x0)) (Lib.hid (fun u hu => (hu.cell (by exact hbl1)).trans x1)) (Lib.hid (fun u hu => (hu.cell (by exact hbl1)).trans x2)) (Lib.hid (fun u hu => (hu.cell (by exact hbl2)).trans z0)) (Lib.hid (fun u hu => (hu.cell (by exact hbl2)).trans z1)) (Lib.hid (fun u hu => (hu.cell (by exact hbl2)).trans z2)) (fun _ _ _ _ _ h => h) (fun u111 u112 u113 u114 u115 u116 u117 u118 w8 h8 => ?_)
            have HB8 := Lib.hid (HBJ.out.trans (h8.mono HBJ.out.size))
            clear h8 x0 x1 x2 z0 z1 z2
            go_wp2
            exact ⟨⟨j + 1, by omega, by go_num, HB8.out⟩, by simp [intOf]; omega⟩
          · obtain rfl : j = n := by omega
            have HB9 := Lib.hid (HB7.out.trans (HBJ.out.mono HB7.out.size))
            have Y0 : Hid (∀ u, Below wr.heap.size wr u → u.cell? ⟨bx, 0, none⟩ = some (.bool big)) := Lib.hid (fun u hu => HF0.out _ (HB9.out.trans (hu.mono HB9.out.size)))
            have Y1 : Hid (∀ u, Below wr.heap.size wr u → u.cell? ⟨bx, 1, none⟩ = some (.bool wide)) := Lib.hid (fun u hu => HF1.out _ (HB9.out.trans (hu.mono HB9.out.size)))
            have hss3 := HSS.out
            obtain ⟨er, her, HC⟩ := cut_end big wide j X S HSM.out HS1.out hss3
            have HC' := Lib.hid HC; have HER := Lib.hid her; clear HC her
            go_upto_region 25 with (fail)
            refine nreg25 _ _ _ _ _ _ _ _ _ _ _ _ _ _ _ _ _ _ _ _ _ _ _ _ _ _ _ _ _ _ _ _ _ _ _ _ _ _ _ _ _ _ _ _ _ _ _ _ _ _ _ _ _ _ _ _ _ _ _ _ _ _ _ _ _ _ _ _ _ _ _ _ _ _ _ _ _ _ _ _ _ _ _ _ _ _ _ _ _ _ _ _ _ _ _ _ _ _ _ _ _ _ _ _ _ _ _ _ _ _ _ _ _ _ _ _ _ _ _ _ _ _ _ _ _ _ _ _ _ _ _ _ _ _ _ _ _ _ _ _ _ _ _ _ _ _ _ _ _ _ _ _ _ _ _ _ _ _ _ _ _ _ _ _ _ _ _ _ _ _ _ _ _ bx big wide er (fun _ _ _ => True) wr S (S.extract 0 (S.size - 1)) ((S.size : Int) - 1) (S.size - 1) rfl (by rw [IntKind.wrap_i64]; omega) (by omega) (by split <;> omega) (by split <;> omega) (by split <;> omega) (by omega) (by omega) rfl Y0 Y1 HC' (fun _ _ _ _ _ => trivial) (fun _ _ _ _ _ h => h) (fun u120 u121 u122 u123 u124 u125 u126 u127 u128 u129 u130 yv w9 h9 _ => ?_)
            have HB10 := Lib.hid (HB9.out.trans (h9.mono HB9.out.size))
            clear h9 hss3
            rcases HER.out with ⟨h0, rfl⟩ | ⟨h0, rfl⟩
            · have h0i : (S.size : Int) = 0 := by omega
              go_wp2
              go_meet
              case rel => exact HB10.out
            · have h0i : (0 : Int) < (S.size : Int) := by omega
              go_wp2
              go_meet
              case rel => exact HB10.out
    case rest =>
      have HB7 := Lib.hid hcut; clear hcut
      have hm := HM.out
      have n0' : (0 : Int) ≤ (m : Int) := by omega
      have n1 : (m : Int) ≤ (m0.size : Int) := by omega
      have n2 : min (m0.size : Int) 300 = (m : Int) := by omega
      have n3 : (if (m0.size : Int) ≤ 300 then (m0.size : Int) else 300) = (m : Int) := by split <;> omega
      have hj := HJ.out
      clear hm
      have f0 := HF0.out _ HB7.out
      have f1 := HF1.out _ HB7.out
      go_wp2_with fail
      refine ((notes_any big wide J (by have := HJS.out; omega) _).mono fun e w' h => notes_junk h).mono ?_
      rintro e w6 ⟨h6, hc⟩
      have HB8 := Lib.hid (HB7.out.trans (h6.mono HB7.out.size))
      clear h6 n0' n1 n2 n3 hj f0 f1
      rcases hc with (rfl | rfl) | ⟨k, A21, c21, Y, rfl, hr21, hk, hcat, hsm⟩
      · go_wp2
        go_ret
        exact ⟨rfl, HUP.out _ HB8.out⟩
      · go_wp2
        go_ret
        exact ⟨rfl, HUP.out _ HB8.out⟩
      · have hlen : (catN big Y k).length = J.size := by rw [hcat, ba_len]
        have hjs := HJS.out
        have HPJ := Lib.hid (fun w hR => putNotes_any big wide A21 c21 k Y (by omega) (by omega) (fun i hi => Nat.lt_trans (hsm i hi).1 (by decide)) w hR)
        have HPV2 : Hid (putNV big Y k = .tuple #[.string J, .bool true]) := Lib.hid (by
          unfold putNV
          rw [allOkN_mk hsm, hcat]
          have : (ByteArray.mk J.data.toList.toArray) = J := ba_ext rfl
          rw [this]; rfl)
        have HR21 := Lib.hid hr21
        clear hr21 hlen hjs hcat hsm hk
        have f0 := HF0.out _ HB8.out
        have f1 := HF1.out _ HB8.out
        go_wp2_with fail
        refine (HPJ.out _ HR21.out).mono ?_
        rw [HPV2.out]
        rintro e w7 ⟨rfl, h7⟩
        have HB9 := Lib.hid (HB8.out.trans (h7.mono HB8.out.size))
        clear h7 f0 f1
        go_wp2
        go_ret
        exact ⟨by first | rfl | simp, HUP.out _ HB9.out⟩
end Go.Proofs.YtnmklmaclmjfbaaDoor
