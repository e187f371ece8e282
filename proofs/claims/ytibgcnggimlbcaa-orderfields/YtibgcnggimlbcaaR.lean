/- The walk of the law OrderFields: it returns true at every order and lists of sizes and numbers. Conditions: those written in each theorem. -/
import Derived.Test.YtibgcnggimlbcaaQ
import Derived.Test.YtibgcnggimlbcaaI
namespace Go.Proofs.Ytibgcnggimlbcaa
open Go.RowKit
theorem RowI.kept {w w' : World} {a : Option Addr} {len l : Nat} {zs : List Int} (h : RowI w a len zs) (hb : Below w.heap.size w w') (hl : l ≤ len) : RowI w' a l zs := fun k hk => by
  obtain ⟨b, off, h1, h2, h3⟩ := h k (by omega)
  exact ⟨b, off, h1, by have := hb.size; omega, by rw [hb.cell (by exact h2)]; exact h3⟩
theorem RowN.kept {w w' : World} {a : Option Addr} {len l : Nat} {ns : List Nat} (h : RowN w a len ns) (hb : Below w.heap.size w w') (hl : l ≤ len) : RowN w' a l ns := fun k hk => by
  obtain ⟨b, off, h1, h2, h3, h4⟩ := h k (by omega)
  exact ⟨b, off, h1, by have := hb.size; omega, by rw [hb.cell (by exact h2)]; exact h3, h4⟩
theorem keep2x {R B : Nat} {W W' : World} (h : OnlyAt R W W') {b1 o1 b2 o2 : Nat} {u v : Value} (h1 : b1 < B) (h2 : b2 < B) (hB : B ≤ W.heap.size) (hR : B < R) (c1 : W.cell? ⟨b1, o1, none⟩ = some u) (c2 : W.cell? ⟨b2, o2, none⟩ = some v) :
    W'.cell? ⟨b1, o1, none⟩ = some u ∧ W'.cell? ⟨b2, o2, none⟩ = some v :=
  ⟨(h.cell (by simp; omega) (by simp; omega)).trans c1, (h.cell (by simp; omega) (by simp; omega)).trans c2⟩
theorem keepB {B : Nat} {W W' : World} (h : Below W.heap.size W W') {b1 o1 b2 o2 : Nat} {u v : Value} (h1 : b1 < B) (h2 : b2 < B) (hB : B ≤ W.heap.size) (c : W.cell? ⟨b1, o1, none⟩ = some u ∧ W.cell? ⟨b2, o2, none⟩ = some v) :
    W'.cell? ⟨b1, o1, none⟩ = some u ∧ W'.cell? ⟨b2, o2, none⟩ = some v :=
  ⟨(h.cell (by simp; omega)).trans c.1, (h.cell (by simp; omega)).trans c.2⟩
theorem u64_nat' (m : Nat) (h : m ≤ 1000) : IntKind.u64.wrap (m : Int) = (m : Int) := by rw [IntKind.wrap_u64]; omega
theorem add_str (S P : ByteArray) (h : S.size + P.size ≤ 9223372036854775807) : ∀ W, (Op.stringOp .add S P).run Try.prog W = .ok (.string (S ++ P)) W := fun W => run_string_add_sum W S P h
theorem fieldsL_split (big : Bool) (zs : List Int) (ns : List Nat) (k d : Nat) : ∃ r, fieldsL big zs ns (k + d) = fieldsL big zs ns k ++ r := by
  induction d with
  | zero => exact ⟨[], by simp⟩
  | succ d ih =>
    obtain ⟨r, hr⟩ := ih
    exact ⟨r ++ Num.putL big (ns.getD (k + d) 0) (zs.getD (k + d) 0), by rw [← Nat.add_assoc, fieldsL, hr, List.append_assoc]⟩
theorem fieldsL_at (big : Bool) (zs : List Int) (ns : List Nat) (k M : Nat) (h : k < M) :
    ((fieldsL big zs ns M).drop (fieldsL big zs ns k).length).take (Num.putL big (ns.getD k 0) (zs.getD k 0)).length = Num.putL big (ns.getD k 0) (zs.getD k 0) ∧
    (fieldsL big zs ns k).length + (Num.putL big (ns.getD k 0) (zs.getD k 0)).length ≤ (fieldsL big zs ns M).length := by
  obtain ⟨r, hr⟩ := fieldsL_split big zs ns (k + 1) (M - (k + 1))
  rw [show k + 1 + (M - (k + 1)) = M by omega, fieldsL] at hr
  rw [hr]
  constructor
  · rw [List.append_assoc, List.drop_left, List.take_left]
  · simp only [List.length_append]; omega
theorem putL_none (big : Bool) (n : Nat) (x : Int) (h : x < 1 ∨ 8 < x) : Num.putL big n x = [] := by
  unfold Num.putL; rw [if_neg (by omega)]
set_option maxRecDepth 100000 in
set_option maxHeartbeats 2000000 in
theorem fields_walk (big : Bool) (a1 a2 : Option Addr) (l1 c1 l2 c2 : Nat) (zs : List Int) (ns : List Nat) (w : World) (k1 : l1 ≤ c1) (k2 : l2 ≤ c2) (r1 : RowI w a1 l1 zs) (r2 : RowN w a2 l2 ns) :
    Calls Try.prog 5 #[.bool big, .slice a1 l1 c1, .slice a2 l2 c2] w fun e w' => e = .returned (.bool true) ∧ Below w.heap.size w w' := by
  have R1 := Lib.hid r1; clear r1
  have R2 := Lib.hid r2; clear r2
  have i1 : (0 : Int) ≤ min (l1 : Int) 20 := by omega
  have i2 : (0 : Int) ≤ min (l2 : Int) 20 := by omega
  have j1 : min (l1 : Int) 20 ≤ (c1 : Int) := by omega
  have j2 : min (l2 : Int) 20 ≤ (c2 : Int) := by omega
  go_enter Try.func5, Try.ntmps5
  go_wp2_with fail
  refine (speaks1 _).mono ?_
  rintro e w1 ⟨rfl, hb1⟩
  go_wp2_with fail
  go_quiet (fail)
  have e1 : min (l1 : Int) 20 = ((min l1 20 : Nat) : Int) := by omega
  have e2 : min (l2 : Int) 20 = ((min l2 20 : Nat) : Int) := by omega
  rw [e1, e2]
  simp only [Int.toNat_natCast]
  clear i1 i2 j1 j2 e1 e2
  obtain ⟨m1, hm1⟩ : ∃ m, m = min l1 20 := ⟨_, rfl⟩
  obtain ⟨m2, hm2⟩ : ∃ m, m = min l2 20 := ⟨_, rfl⟩
  rw [← hm1, ← hm2]
  have hs1 : m1 ≤ 20 := by omega
  have hs2 : m2 ≤ 20 := by omega
  have hq1 : m1 ≤ l1 := by omega
  have hq2 : m2 ≤ l2 := by omega
  clear hm1 hm2
  have hw1 := hb1.size
  have hB1 : Below w.heap.size w ((w1.alloc (.cells #[.bool big] 25)).drewN nq) := below_drewN (hb1.alloc hb1.size _) nq
  have hO1 : ((w1.alloc (.cells #[.bool big] 25)).drewN nq).cell? ⟨w1.heap.size, 0, none⟩ = some (.bool big) := by
    show (w1.alloc (.cells #[.bool big] 25)).cell? ⟨w1.heap.size, 0, none⟩ = _
    simp
  have hz1 : w1.heap.size < ((w1.alloc (.cells #[.bool big] 25)).drewN nq).heap.size := by
    show w1.heap.size < (w1.alloc (.cells #[.bool big] 25)).heap.size
    simp
  generalize (w1.alloc (.cells #[.bool big] 25)).drewN nq = w2 at *
  generalize w1.heap.size = O at *
  go_wp2_with fail
  refine (fields_any big a1 a2 m1 c1 m2 c2 zs ns _ hs1 hs2 (R1.out.kept hB1 hq1) (R2.out.kept hB1 hq2)).mono ?_
  rintro e w3 ⟨rfl, hB3⟩
  have hg3 : Below w.heap.size w w3 := hB1.trans (hB3.mono hB1.size)
  have hO3 : w3.cell? ⟨O, 0, none⟩ = some (.bool big) := by rw [hB3.cell (by exact hz1)]; exact hO1
  have hz3 : O < w3.heap.size := by have := hB3.size; omega
  obtain ⟨M, hM⟩ : ∃ M, M = min m1 m2 := ⟨_, rfl⟩
  rw [← hM]
  have hM1 : M ≤ m1 := by omega
  have hM2 : M ≤ m2 := by omega
  have hMx : M = m1 ∨ M = m2 := by omega
  have HMX := Lib.hid hMx; clear hMx hM
  have hFl := fieldsL_le big zs ns M
  generalize hF : (⟨(fieldsL big zs ns M).toArray⟩ : ByteArray) = F
  have hFs : F.size = (fieldsL big zs ns M).length := by rw [← hF]; simp [ByteArray.size]
  have hF160 : F.size ≤ 160 := by omega
  have HFS := Lib.hid hFs; clear hFs hFl
  have HF := Lib.hid hF; clear hF
  clear hB3 hO1 hz1 hB1 hb1
  go_wp2_with fail
  go_loopw [9, 10] (fun s i wr => ∃ k : Nat, k ≤ M ∧ i = .int .i64 k ∧ s = .string ⟨(fieldsL big zs ns k).toArray⟩ ∧ wr.cell? ⟨O, 0, none⟩ = some (.bool big) ∧ O < wr.heap.size ∧ Below w.heap.size w wr) (fun _ i _ => M - (intOf i).toNat)
  case atStart => exact ⟨0, by omega, rfl, rfl, hO3, hz3, hg3⟩
  case round =>
    obtain ⟨k, hk, rfl, rfl, hO, hz, hg⟩ := hrel
    clear hO3 hz3 hg3
    by_cases hlt : k < M
    · have hd1 : decide (k < m1) = true := by simp; omega
      have hd2 : decide (k < m2) = true := by simp; omega
      obtain ⟨b1, off1, rfl, hb1, hc1⟩ := R1.out k (by omega)
      obtain ⟨b2, off2, rfl, hb2, hc2, hn2⟩ := R2.out k (by omega)
      have hc1w : wr.cell? ⟨b1, off1 + k, none⟩ = some (.int .i64 (zs.getD k 0)) := by rw [hg.cell (by exact hb1)]; exact hc1
      have hc2w : wr.cell? ⟨b2, off2 + k, none⟩ = some (.int .u64 (ns.getD k 0 : Nat)) := by rw [hg.cell (by exact hb2)]; exact hc2
      clear hc1 hc2
      have hstep : fieldsL big zs ns (k + 1) = fieldsL big zs ns k ++ Num.putL big (ns.getD k 0) (zs.getD k 0) := rfl
      have hle := fieldsL_le big zs ns k
      have hle2 := putL_le big (ns.getD k 0) (zs.getD k 0)
      generalize zs.getD k 0 = x at *
      generalize ns.getD k 0 = y at *
      generalize hl : fieldsL big zs ns k = l at *
      have HL := Lib.hid hl; clear hl
      generalize hS : (⟨l.toArray⟩ : ByteArray) = S at *
      have hSs : S.size ≤ 160 := by rw [← hS]; simp [ByteArray.size]; omega
      have HS := Lib.hid hS; clear hS
      have HST := Lib.hid hstep; clear hstep
      have HN := Lib.hid hn2; clear hn2
      have hi0 : (0 : Int) ≤ (k : Int) := by omega
      have hi1 : (k : Int) < (m1 : Int) := by omega
      have hi2 : (k : Int) < (m2 : Int) := by omega
      have hws := hg.size
      go_wp2_with fail
      go_region_held3 (fun w' => w'.cell? ⟨b1, off1 + k, none⟩ = some (.int .i64 x) ∧ w'.cell? ⟨b2, off2 + k, none⟩ = some (.int .u64 y)) (first | go_keep | exact keep1) ((go_at_call 13; refine (refPut_any big y x _ HN.out).mono ?_; rintro e wp ⟨rfl, hBp0⟩; have hBp := below_drewn hBp0; clear hBp0; have keep1 := (keep3 hBp (by simp; omega) (by simp; omega) (by simp; omega) hO hc1w hc2w).2; generalize hP : (⟨(Num.putL big y x).toArray⟩ : ByteArray) = P; have hPs : P.size ≤ 8 := (by rw [← hP]; simp [ByteArray.size]; omega); have HP := Lib.hid hP; clear hP; have hadd := add_str S P (by omega)))
      clear hadd
      have hgp : Below w.heap.size w wp := hg.trans (hBp.mono hws)
      have hOp : wp.cell? ⟨O, 0, none⟩ = some (.bool big) := by rw [hBp.cell (by exact hz)]; exact hO
      have hzp : O < wp.heap.size := by have := hBp.size; omega
      have hres : S ++ P = ⟨(fieldsL big zs ns (k + 1)).toArray⟩ := by
        rw [HST.out, ← HS.out, ← HP.out]; exact ByteArray.mk_append_mk _ _
      have HRES := Lib.hid hres; clear hres
      clear keep1 hc1w hc2w hO hz hBp
      go_wp2
      go_roundw
      case rel => exact ⟨k + 1, by omega, by go_num, str_eq HRES.out, hOp, hzp, hgp⟩
      case measure => simp [intOf]; omega
    · obtain rfl : k = M := by omega
      have hd : decide (k < m1) = false ∨ (decide (k < m1) = true ∧ decide (k < m2) = false) := by
        rcases HMX.out with h | h
        · left; simp; omega
        · by_cases h' : k < m1
          · right; exact ⟨by simpa using h', by simp; omega⟩
          · left; simpa using h'
      have HF2 : Hid ((⟨(fieldsL big zs ns k).toArray⟩ : ByteArray) = F) := HF.out
      rcases hd with hd1 | ⟨hd1, hd2⟩
      all_goals
        rw [HF2.out]
        go_wp2_with fail
        refine (read_any big F 0 _).mono ?_
        rintro e w4 ⟨rfl, hI4, hB4, hsz4⟩
        have hg4 : Below w.heap.size w w4 := hg.trans (hB4.mono hg.size)
        have hws := hg.size
        generalize hR : wr.heap.size + 1 = R at *
        have hRw : w.heap.size < R := by omega
        have HI4 := Lib.hid hI4; clear hI4 hB4 hsz4 hR hO hz
        clear hd1
        try clear hd2
        go_wp2_with fail
        go_loopw [12] (fun i wr => ∃ j : Nat, j ≤ k ∧ i = .int .i64 j ∧ IsRd wr R big F (fieldsL big zs ns j).length 0 ∧ Below w.heap.size w wr) (fun i _ => k - (intOf i).toNat)
        case atStart => exact ⟨0, by omega, rfl, HI4.out, hg4⟩
        case round =>
          obtain ⟨j, hj, rfl, hI, hg⟩ := hrel
          clear hg4 HI4
          by_cases hlt2 : j < k
          · have hd1 : decide (j < m1) = true := by simp; omega
            have hd2 : decide (j < m2) = true := by simp; omega
            obtain ⟨b1, off1, rfl, hb1, hc1⟩ := R1.out j (by omega)
            obtain ⟨b2, off2, rfl, hb2, hc2, hn2⟩ := R2.out j (by omega)
            have hc1w : wr.cell? ⟨b1, off1 + j, none⟩ = some (.int .i64 (zs.getD j 0)) := by rw [hg.cell (by exact hb1)]; exact hc1
            have hc2w : wr.cell? ⟨b2, off2 + j, none⟩ = some (.int .u64 (ns.getD j 0 : Nat)) := by rw [hg.cell (by exact hb2)]; exact hc2
            clear hc1 hc2
            have hstep : fieldsL big zs ns (j + 1) = fieldsL big zs ns j ++ Num.putL big (ns.getD j 0) (zs.getD j 0) := rfl
            have hat := fieldsL_at big zs ns j k hlt2
            have hFF : F.data.toList = fieldsL big zs ns k := by rw [← HF2.out]
            have hpl := fun h1 h8 => Num.putL_length big (ns.getD j 0) (zs.getD j 0).toNat h1 h8
            have hp0 := putL_none big (ns.getD j 0) (zs.getD j 0)
            rw [← hFF] at hat
            generalize zs.getD j 0 = x at *
            generalize ns.getD j 0 = y at *
            generalize hn : (fieldsL big zs ns j).length = n at *
            have HSTL : Hid ((fieldsL big zs ns (j + 1)).length = n + (Num.putL big y x).length) := Lib.hid (by rw [hstep, List.length_append, hn])
            have HN := Lib.hid hn2; clear hn2 hstep hn
            have HAT := Lib.hid hat; clear hat
            have HPL := Lib.hid hpl; clear hpl
            have HP0 := Lib.hid hp0; clear hp0
            have hFz : F.data.toList.length = F.size := by simp
            have HFZ := Lib.hid hFz; clear hFz
            have HFF := Lib.hid hFF; clear hFF
            have hi0 : (0 : Int) ≤ (j : Int) := by omega
            have hi1 : (j : Int) < (m1 : Int) := by omega
            have hi2 : (j : Int) < (m2 : Int) := by omega
            have hws := hg.size
            have HI := Lib.hid hI; clear hI
            by_cases hx : 1 ≤ x ∧ x ≤ 8
            · obtain ⟨hx1, hx8⟩ := hx
              obtain ⟨m, rfl⟩ := Int.eq_ofNat_of_zero_le (show 0 ≤ x by omega)
              have hd3 : decide ((m : Int) < 1) = false := by simp; omega
              have hd4 : decide ((8 : Int) < (m : Int)) = false := by simp; omega
              have hlen : (Num.putL big y (m : Int)).length = m := by have := HPL.out (by omega) (by omega); simpa using this
              have hat := HAT.out
              rw [hlen] at hat
              have hsum : n + m ≤ F.size := by have h2 := hat.2; have h3 := HFZ.out; omega
              have HAT1 := Lib.hid hat.1
              have HLEN := Lib.hid hlen
              clear hat hlen
              go_wp2_with fail
              go_region_held3 (fun w' => w'.cell? ⟨b1, off1 + j, none⟩ = some (.int .i64 (m : Int)) ∧ w'.cell? ⟨b2, off2 + j, none⟩ = some (.int .u64 y)) (first | go_keep | exact keep1 | exact keep2) (first | (go_at_call 17; refine (next_yes R big F n m _ ?_ ?_ ?_ ?_ ?_ ?_).mono ?_; exact HI.out; omega; omega; omega; omega; omega; rintro e wp ⟨rfl, hIp, hOp⟩; have keep1 := keep2x hOp hb1 hb2 hws hRw hc1w hc2w) | (go_at_call 13; refine (refPut_any big y m _ HN.out).mono ?_; rintro e wq ⟨rfl, hBq⟩; have keep2 := keepB hBq hb1 hb2 (Nat.le_trans hws hOp.size) keep1) | (go_at_call 15; refine (refGet_any big _ _).mono ?_; rintro e wz ⟨rfl, rfl⟩))
              rw [HAT1.out]
              generalize Num.getN big (Num.putL big y (m : Int)) = g
              have hIq : IsRd wq R big F (fieldsL big zs ns (j + 1)).length 0 := by
                rw [HSTL.out, HLEN.out]; exact hIp.only hBq
              have hgq : Below w.heap.size w wq := (hg.drew.trans (hOp.below hws (by omega))).trans (hBq.mono (Nat.le_trans hws hOp.size))
              have HIQ := Lib.hid hIq; clear hIq hIp
              clear keep1 keep2 hc1w hc2w hOp hBq
              go_wp2
              go_roundw
              case rel => exact ⟨j + 1, by omega, by go_num, HIQ.out, hgq⟩
              case measure => simp [intOf]; omega
            · have hxx : (decide (x < 1) = true) ∨ (decide (x < 1) = false ∧ decide (8 < x) = true) := by simp; omega
              have hI' : IsRd wr R big F (fieldsL big zs ns (j + 1)).length 0 := by
                rw [HSTL.out, HP0.out (by omega)]; exact HI.out
              have HIQ := Lib.hid hI'; clear hI'
              rcases hxx with hd3 | ⟨hd3, hd4⟩
              all_goals
                go_wp2
                go_roundw
                case rel => exact ⟨j + 1, by omega, by go_num, HIQ.out, hg⟩
                case measure => simp [intOf]; omega
          · obtain rfl : j = k := by omega
            have hd : decide (j < m1) = false ∨ (decide (j < m1) = true ∧ decide (j < m2) = false) := by
              rcases HMX.out with h | h
              · left; simp; omega
              · by_cases h' : j < m1
                · right; exact ⟨by simpa using h', by simp; omega⟩
                · left; simpa using h'
            rw [← HFS.out] at hI
            have HI := Lib.hid hI; clear hI
            have hwF := u64_nat' F.size (by omega)
            rcases hd with hd1 | ⟨hd1, hd2⟩
            all_goals
              go_wp2_with fail
              refine (err_any R big F F.size 0 _ HI.out).mono ?_
              rintro e wz ⟨rfl, rfl⟩
              go_wp2_with fail
              refine (at_any R big F F.size 0 _ HI.out).mono ?_
              rintro e wz ⟨rfl, rfl⟩
              go_wp2_with fail
              refine (nil_next _ _).mono ?_
              rintro e wz ⟨rfl, rfl⟩
              go_wp2_with fail
              refine (nil_bytes _ _).mono ?_
              rintro e wz ⟨rfl, rfl⟩
              go_wp2_with fail
              refine (nil_err _).mono ?_
              rintro e wz ⟨rfl, rfl⟩
              go_wp2_with fail
              refine (nil_at _).mono ?_
              rintro e wz ⟨rfl, rfl⟩
              go_wp2
              go_ret
              exact ⟨rfl, hg⟩
end Go.Proofs.Ytibgcnggimlbcaa
