/- The walk of the law OrderReads, for texts of more than 200 bytes, and for all. Conditions: those written in each theorem. -/
import Derived.Test.YtibgcnggimlbcaaL
namespace Go.Proofs.Ytibgcnggimlbcaa
open Go.RowKit
set_option maxRecDepth 100000 in
set_option maxHeartbeats 4000000 in
theorem reads_long (s : ByteArray) (n0 : Nat) (a : Option Addr) (len cap : Nat) (zs : List Int) (w : World) (hs : s.size ≤ maxLen) (hlong : 200 < s.size) (hn : n0 < 2 ^ 64) (hlen : len ≤ maxLen) (hrow : Row64 w a len zs) :
    Calls Try.prog 4 #[.string s, .int .u64 n0, .slice a len cap] w fun e w' => e = .returned (.bool true) ∧ Below w.heap.size w w' := by
  unfold maxLen at hlen hs
  have HN := Lib.hid hn; clear hn
  have HROW := Lib.hid hrow; clear hrow
  obtain ⟨big, hbig⟩ : ∃ b, (bits BinOp.and IntKind.u64 (n0 : Int) 1 == 1) = b := ⟨_, rfl⟩
  have h200 : (200 : Int) < (s.size : Int) := by omega
  all_goals
    go_enter Try.func4, Try.ntmps4
    go_wp2_with fail
    refine (speaks1 _).mono ?_
    rintro e w1 ⟨rfl, hb1⟩
    go_wp2_with fail
  have ht : (s.extract 0 200).size ≤ 200 := by simp; omega
  generalize s.extract 0 200 = t at *
  all_goals
    refine (read_any big t n0 _).mono ?_
    rintro e w2 ⟨rfl, hI2, hB2, hsz2⟩
    have hO2 : w2.cell? ⟨w1.heap.size, 0, none⟩ = some (.bool big) := by
      rw [hB2.cell (by simp)]; simp
    have hw2 : Below w.heap.size w w2 := (hb1.alloc hb1.size _).trans (hB2.mono (by have := hb1.size; simp; omega))
    have hs1 := hb1.size
    simp only [World.size_alloc] at hI2 ⊢
    have HI2 := Lib.hid hI2; clear hI2
    clear hB2 hsz2
    go_wp2_with fail
    go_loopw [9, 10, 11] (fun f b i wr => RdRel w w1.heap.size (w1.heap.size + 1 + 1) big t len f b i wr) (fun _ _ i _ => (40 - intOf i).toNat)
    case atStart => exact ⟨0, n0, false, by omega, by omega, rfl, rfl, rfl, HN.out, HI2.out, hO2, by omega, hs1, hw2⟩
    case round =>
      obtain ⟨k, n, b, hk, hk40, rfl, rfl, rfl, hn, hI, hO, hOR, hwO, hg⟩ := hrel
      have HN2 := Lib.hid hn; clear hn
      clear hw2 hO2 hb1 hbig
      by_cases hlt : k < len ∧ k < 40
      · obtain ⟨hl1, hl2⟩ := hlt
        obtain ⟨bb, off, rfl, hbb, hc, hx1, hx2⟩ := HROW.out k hl1
        have hcw : wr.cell? ⟨bb, off + k, none⟩ = some (.int .i64 (zs.getD k 0)) := by rw [hg.cell (by exact hbb)]; exact hc
        clear hc
        generalize zs.getD k 0 = x at *
        have HX1 := Lib.hid hx1; clear hx1
        have HX2 := Lib.hid hx2; clear hx2
        have HI := Lib.hid hI; clear hI
        have hd40 : decide ((k : Int) < 40) = true := by simp; omega
        have hdl : decide (k < len) = true := by simp; omega
        have hwt := u64_nat t.size (by omega)
        by_cases hx9 : x < 9
        · by_cases hyes : b = false ∧ 1 ≤ x ∧ x ≤ 8 ∧ n ≤ t.size ∧ x.toNat ≤ t.size - n
          · skip
            obtain ⟨rfl, hx1, hx8, hn1, hn2⟩ := hyes
            obtain ⟨m, rfl⟩ := Int.eq_ofNat_of_zero_le (show 0 ≤ x by omega)
            rw [Int.toNat_natCast] at hn2
            go_wp2_with fail
            refine (next_yes _ big t n m _ HI.out (by omega) (by omega) (by omega) hn1 hn2).mono ?_
            rintro e w3 ⟨rfl, hI3, hOn⟩
            generalize hG : Num.getN big (List.take m (List.drop n t.data.toList)) = g
            have eG : Num.getN big (t.extract n (n + m)).data.toList = g := by rw [← hG]; simp
            have HEG := Lib.hid eG; clear eG hG
            have hd1 : decide ((1 : Int) ≤ (m : Int)) = true := by simp; omega
            have hd8 : decide ((m : Int) ≤ 8) = true := by simp; omega
            have hdn : decide (n ≤ t.size) = true := by simp; omega
            have hwm := u64_nat m (by omega)
            have hws : IntKind.u64.wrap ((t.size : Int) - (n : Int)) = ((t.size - n : Nat) : Int) := u64_sub _ _ hn1 (by omega)
            have hdm : decide (m ≤ t.size - n) = true := by simp; omega
            have hwa : IntKind.u64.wrap ((n : Int) + (m : Int)) = (n : Int) + (m : Int) := u64_add _ _ (by omega)
            have hO3 : w3.cell? ⟨w1.heap.size, 0, none⟩ = some (.bool big) := by
              rw [hOn.cell (by have := HI.out.lt; simp; omega) (by simp; omega)]; exact hO
            have hb0 : (0 : Int) ≤ (n : Int) := by omega
            have hb1 : (n : Int) ≤ (n : Int) + (m : Int) := by omega
            have hb2 : (n : Int) + (m : Int) ≤ (t.size : Int) := by omega
            have HI3 := Lib.hid hI3; clear hI3
            go_wp2_with fail
            go_quiet ((go_at_call 15; exact refGet_quiet _ _ _ _))
            rw [HEG.out]
            have hI3 := HI3.out.only (below_drewN (Below.refl _ _) nq)
            have hOn := hOn.drewN nq
            clear hO3 HI3
            generalize w3.drewN nq = w4 at *

            have hO3 : w4.cell? ⟨w1.heap.size, 0, none⟩ = some (.bool big) := by
              rw [hOn.cell (by have := HI.out.lt; simp; omega) (by simp; omega)]; exact hO
            have hg3 : Below w.heap.size w w4 := hg.trans (hOn.below hg.size (by omega))
            have hR3 := (IsRd.cells hI3).1
            have HI3 := Lib.hid hI3; clear hI3
            clear hOn hO hcw
            go_wp2_with fail
            go_quiet (first | (go_at_call 19; exact at_quiet _ big t (n + m) 0 _ HI3.out _) | (go_at_call 20; exact err_quiet _ big t (n + m) 0 _ HI3.out _))
            have hI4 := HI3.out.only (below_drewN (Below.refl _ _) nq)
            have hO4 : (w4.drewN nq).cell? ⟨w1.heap.size, 0, none⟩ = some (.bool big) := hO3
            have hg4 := below_drewN hg3 nq
            have HI4 := Lib.hid hI4; clear hI4
            have HO4 := Lib.hid hO4; clear hO4
            have HG4 := Lib.hid hg4; clear hg4
            clear hO3 hR3 hg3
            go_wp2
            go_roundw
            case rel => exact ⟨k + 1, (n + m), false, by omega, by omega, by go_num, by go_num, rfl, by omega, HI4.out, HO4.out, hOR, hwO, HG4.out⟩
            case measure => simp [intOf]; omega
          · skip
            have hre : b = true ∨ (b = false ∧ decide ((1 : Int) ≤ x) = false) ∨ (b = false ∧ decide ((1 : Int) ≤ x) = true ∧ decide (x ≤ 8) = true ∧ ∃ m : Nat, x = m ∧ (decide (n ≤ t.size) = false ∨ (decide (n ≤ t.size) = true ∧ decide (m ≤ t.size - n) = false ∧ IntKind.u64.wrap ((t.size : Int) - (n : Int)) = ((t.size - n : Nat) : Int))) ∧ IntKind.u64.wrap (m : Int) = (m : Int)) := by
              cases b
              · right
                by_cases h1 : 1 ≤ x
                · right
                  refine ⟨rfl, by simpa using h1, by simp; omega, x.toNat, by omega, ?_, u64_nat _ (by omega)⟩
                  by_cases h2 : n ≤ t.size
                  · right
                    exact ⟨by simpa using h2, decide_eq_false (fun h => hyes ⟨rfl, h1, by omega, h2, h⟩), u64_sub _ _ h2 (by omega)⟩
                  · left
                    simpa using h2
                · left
                  exact ⟨rfl, by simpa using h1⟩
              · left; rfl
            have hno : ¬ (1 ≤ x ∧ x ≤ 8 ∧ may t n x.toNat (if b then 3 else 0)) := by
              rintro ⟨h1, h8, he, hm1, hm2⟩
              refine hyes ⟨?_, h1, h8, hm1, hm2⟩
              cases b
              · rfl
              · simp at he
            have HNO := Lib.hid hno; clear hno hyes
            rcases hre with rfl | ⟨rfl, hd1⟩ | ⟨rfl, hd1, hd8, m, rfl, (hdn | ⟨hdn, hdm, hws⟩), hwm⟩
            all_goals
              go_wp2_with fail
              refine (next_no _ big t n _ _ _ HI.out (by simp) (by omega) HNO.out).mono ?_
              rintro e w3 ⟨rfl, hI3, hOn⟩
              have hO3 : w3.cell? ⟨w1.heap.size, 0, none⟩ = some (.bool big) := by
                rw [hOn.cell (by have := HI.out.lt; simp; omega) (by simp; omega)]; exact hO
              have hg3 : Below w.heap.size w w3 := hg.trans (hOn.below hg.size (by omega))
              have hR3 := (IsRd.cells hI3).1
              have HI3 := Lib.hid hI3; clear hI3
              clear hOn hO hcw
              go_wp2_with fail
              go_quiet (first | (go_at_call 19; exact at_quiet _ big t n 3 _ HI3.out _) | (go_at_call 20; exact err_quiet _ big t n 3 _ HI3.out _))
              have hI4 := HI3.out.only (below_drewN (Below.refl _ _) nq)
              have hO4 : (w3.drewN nq).cell? ⟨w1.heap.size, 0, none⟩ = some (.bool big) := hO3
              have hg4 := below_drewN hg3 nq
              have HI4 := Lib.hid hI4; clear hI4
              have HO4 := Lib.hid hO4; clear hO4
              have HG4 := Lib.hid hg4; clear hg4
              clear hO3 hR3 hg3
              go_wp2
              go_roundw
              case rel => exact ⟨k + 1, n, true, by omega, by omega, by go_num, by go_num, rfl, HN2.out, HI4.out, HO4.out, hOR, hwO, HG4.out⟩
              case measure => simp [intOf]; omega
        · obtain ⟨m, rfl⟩ : ∃ m : Nat, x = (m : Int) + 9 := ⟨(x - 9).toNat, by omega⟩
          have hml := le_of_nine m _ HX2.out rfl
          have HW9 := Lib.hid (i64_nat m hml)
          have HW9' := Lib.hid (w64_nat m hml)
          have HWM := Lib.hid (u64_nat m hml)
          clear hml
          by_cases hyes : b = false ∧ n ≤ t.size ∧ m ≤ t.size - n
          · skip
            obtain ⟨rfl, hn1, hn2⟩ := hyes
            have hw9 := HW9.out
            have hw9' := HW9'.out
            have hwm := HWM.out
            go_wp2_with fail
            clear hw9 hw9' hwm
            refine (bytes_yes _ big t n m _ HI.out (by omega) hn1 hn2).mono ?_
            rintro e w3 ⟨rfl, hI3, hOn⟩

            have hO3 : w3.cell? ⟨w1.heap.size, 0, none⟩ = some (.bool big) := by
              rw [hOn.cell (by have := HI.out.lt; simp; omega) (by simp; omega)]; exact hO
            have hg3 : Below w.heap.size w w3 := hg.trans (hOn.below hg.size (by omega))
            have hR3 := (IsRd.cells hI3).1
            have HI3 := Lib.hid hI3; clear hI3
            clear hOn hO hcw
            have hdn : decide (n ≤ t.size) = true := by simp; omega
            have hdm : decide (m ≤ t.size - n) = true := by simp; omega
            have hb0 : (0 : Int) ≤ (n : Int) := by omega
            have hb1 : (n : Int) ≤ (n : Int) + (m : Int) := by omega
            have hb2 : (n : Int) + (m : Int) ≤ (t.size : Int) := by omega
            have hle : n + m ≤ 1000 := by omega
            have ht1 : t.size ≤ 1000 := by omega
            have hws : IntKind.u64.wrap ((t.size : Int) - (n : Int)) = ((t.size - n : Nat) : Int) := u64_sub _ _ hn1 ht1
            have hwa : IntKind.u64.wrap ((n : Int) + (m : Int)) = (n : Int) + (m : Int) := u64_add _ _ hle
            have hw9 := HW9.out
            have hw9' := HW9'.out
            have hwm := HWM.out
            go_wp2_with fail
            clear hws hwa hw9 hw9' hwm
            go_quiet (first | (go_at_call 19; exact at_quiet _ big t (n + m) 0 _ HI3.out _) | (go_at_call 20; exact err_quiet _ big t (n + m) 0 _ HI3.out _))
            have hI4 := HI3.out.only (below_drewN (Below.refl _ _) nq)
            have hO4 : (w3.drewN nq).cell? ⟨w1.heap.size, 0, none⟩ = some (.bool big) := hO3
            have hg4 := below_drewN hg3 nq
            have HI4 := Lib.hid hI4; clear hI4
            have HO4 := Lib.hid hO4; clear hO4
            have HG4 := Lib.hid hg4; clear hg4
            clear hO3 hR3 hg3
            go_wp2
            go_roundw
            case rel => exact ⟨k + 1, (n + m), false, by omega, by omega, by go_num, by go_num, rfl, by omega, HI4.out, HO4.out, hOR, hwO, HG4.out⟩
            case measure => simp [intOf]; omega
          · skip
            have hre : b = true ∨ (b = false ∧ decide (n ≤ t.size) = false) ∨ (b = false ∧ decide (n ≤ t.size) = true ∧ decide (m ≤ t.size - n) = false ∧ IntKind.u64.wrap ((t.size : Int) - (n : Int)) = ((t.size - n : Nat) : Int)) := by
              cases b
              · right
                by_cases h2 : n ≤ t.size
                · right
                  exact ⟨rfl, by simpa using h2, decide_eq_false (fun h => hyes ⟨rfl, h2, h⟩), u64_sub _ _ h2 (by omega)⟩
                · left
                  exact ⟨rfl, by simpa using h2⟩
              · left; rfl
            have hno : ¬ may t n m (if b then 3 else 0) := by
              rintro ⟨he, hm1, hm2⟩
              refine hyes ⟨?_, hm1, hm2⟩
              cases b
              · rfl
              · simp at he
            have HNO := Lib.hid hno; clear hno hyes
            rcases hre with rfl | ⟨rfl, hdn⟩ | ⟨rfl, hdn, hdm, hws⟩
            all_goals
              have hw9 := HW9.out
              have hw9' := HW9'.out
              have hwm := HWM.out
              go_wp2_with fail
              refine (bytes_no _ big t n _ _ _ HI.out (by simp) (by omega) HNO.out).mono ?_
              rintro e w3 ⟨rfl, hI3, hOn⟩
              have hO3 : w3.cell? ⟨w1.heap.size, 0, none⟩ = some (.bool big) := by
                rw [hOn.cell (by have := HI.out.lt; simp; omega) (by simp; omega)]; exact hO
              have hg3 : Below w.heap.size w w3 := hg.trans (hOn.below hg.size (by omega))
              have hR3 := (IsRd.cells hI3).1
              have HI3 := Lib.hid hI3; clear hI3
              clear hOn hO hcw
              go_wp2_with fail
              go_quiet (first | (go_at_call 19; exact at_quiet _ big t n 3 _ HI3.out _) | (go_at_call 20; exact err_quiet _ big t n 3 _ HI3.out _))
              have hI4 := HI3.out.only (below_drewN (Below.refl _ _) nq)
              have hO4 : (w3.drewN nq).cell? ⟨w1.heap.size, 0, none⟩ = some (.bool big) := hO3
              have hg4 := below_drewN hg3 nq
              have HI4 := Lib.hid hI4; clear hI4
              have HO4 := Lib.hid hO4; clear hO4
              have HG4 := Lib.hid hg4; clear hg4
              clear hO3 hR3 hg3
              go_wp2
              go_roundw
              case rel => exact ⟨k + 1, n, true, by omega, by omega, by go_num, by go_num, rfl, HN2.out, HI4.out, HO4.out, hOR, hwO, HG4.out⟩
              case measure => simp [intOf]; omega
      · have hd : decide (k < len) = false ∨ (decide (k < len) = true ∧ decide ((k : Int) < 40) = false) := by
          by_cases h : k < len
          · right; exact ⟨by simpa using h, by simp; omega⟩
          · left; simpa using h
        clear hlt hI hO
        rcases hd with hd | ⟨hd, hd40⟩
        all_goals
          go_wp2
          go_ret
          exact ⟨rfl, hg⟩

/-- What is told of a slice of integers that came in. -/
def IsRow (k : IntKind) (w : World) (a : Option Addr) (len cap : Nat) (zs : List Int) : Prop :=
  (a = none ∧ len = 0 ∧ cap = 0 ∧ zs = []) ∨
  ∃ x, a = some x ∧ len ≤ cap ∧ cap ≤ maxLen ∧ zs.length = cap ∧ (∀ i, i < zs.length → w.cell? (x.add i) = some (.int k (zs.getD i 0))) ∧ ∀ n ∈ zs, (Lit.int k n).wf = true
theorem IsRow.at {k : IntKind} {w : World} {a : Option Addr} {len cap : Nat} {zs : List Int} (h : IsRow k w a len cap zs) (i : Nat) (hi : i < len) :
    ∃ b off, a = some ⟨b, off, none⟩ ∧ b < w.heap.size ∧ w.cell? ⟨b, off + i, none⟩ = some (.int k (zs.getD i 0)) ∧ (Lit.int k (zs.getD i 0)).wf = true := by
  rcases h with ⟨rfl, rfl, rfl, rfl⟩ | ⟨x, rfl, hl, hm, hz, hcell, hwz⟩
  · omega
  · obtain ⟨b, off, rfl, hc⟩ := ints_at hcell (by omega)
    have hci := hc i (by omega)
    refine ⟨b, off, rfl, World.block_lt_of_cell? w _ hci, hci, ?_⟩
    have : zs.getD i 0 ∈ zs := by
      rw [List.getD_eq_getElem?_getD, List.getElem?_eq_getElem (by omega)]
      exact List.getElem_mem _
    exact hwz _ this
theorem IsRow.len_le {k : IntKind} {w : World} {a : Option Addr} {len cap : Nat} {zs : List Int} (h : IsRow k w a len cap zs) : len ≤ maxLen := by
  rcases h with ⟨rfl, rfl, rfl, rfl⟩ | ⟨x, rfl, hl, hm, hz, hcell, hwz⟩
  · exact Nat.zero_le _
  · omega
theorem reads_wf (s : ByteArray) (n : Int) (a : Option Addr) (len cap : Nat) (zs : List Int) (w : World) (hs : s.size ≤ maxLen) (hn : (Lit.int .u64 n).wf = true) (hrow : IsRow .i64 w a len cap zs) :
    Calls Try.prog 4 #[.string s, .int .u64 n, .slice a len cap] w fun e w' => e = .returned (.bool true) ∧ Below w.heap.size w w' := by
  obtain ⟨m, rfl, hm⟩ := nat_of_wf hn
  have hr : Row64 w a len zs := fun i hi => by
    obtain ⟨b, off, h1, h2, h3, h4⟩ := hrow.at i hi
    have := bounds_i64 h4
    exact ⟨b, off, h1, h2, h3, this.1, this.2⟩
  by_cases h : s.size ≤ 200
  · exact reads_short s m a len cap zs w h hm hrow.len_le hr
  · exact reads_long s m a len cap zs w hs (by omega) hm hrow.len_le hr
end Go.Proofs.Ytibgcnggimlbcaa
