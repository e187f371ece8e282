/- The walk of the law OrderReads: it returns true at every text, position and list of acts. Conditions: those written in each theorem. -/
import Derived.Test.YtibgcnggimlbcaaK
namespace Go.Proofs.Ytibgcnggimlbcaa
open Go.RowKit
theorem at_quiet (R : Nat) (big : Bool) (s : ByteArray) (n : Nat) (err : Int) (w : World) (h : IsRd w R big s n err) (q : Nat) :
    Calls Try.prog 19 #[.pointer (some ⟨R, 0, none⟩)] (w.drewN q) fun e w'' => e = .returned (.int .u64 n) ∧ ∃ m, w'' = w.drewN m :=
  (at_any R big s n err (w.drewN q) (h.only (below_drewN (Below.refl _ _) _))).mono fun _ _ ⟨he, hw⟩ => ⟨he, q, hw.symm⟩
theorem err_quiet (R : Nat) (big : Bool) (s : ByteArray) (n : Nat) (err : Int) (w : World) (h : IsRd w R big s n err) (q : Nat) :
    Calls Try.prog 20 #[.pointer (some ⟨R, 0, none⟩)] (w.drewN q) fun e w'' => e = .returned (.int .i64 err) ∧ ∃ m, w'' = w.drewN m :=
  (err_any R big s n err (w.drewN q) (h.only (below_drewN (Below.refl _ _) _))).mono fun _ _ ⟨he, hw⟩ => ⟨he, q, hw.symm⟩
theorem refGet_quiet (big : Bool) (s : ByteArray) (w : World) (q : Nat) :
    Calls Try.prog 15 #[.bool big, .string s] (w.drewN q) fun e w'' => e = .returned (.int .u64 (Num.getN big s.data.toList : Nat)) ∧ ∃ m, w'' = w.drewN m :=
  (refGet_any big s (w.drewN q)).mono fun _ _ ⟨he, hw⟩ => ⟨he, q, hw.symm⟩
theorem u64_nat (m : Nat) (h : m ≤ 9223372036854775807) : IntKind.u64.wrap (m : Int) = (m : Int) := by rw [IntKind.wrap_u64]; omega
theorem u64_sub (a b : Nat) (h : b ≤ a) (h2 : a ≤ 1000) : IntKind.u64.wrap ((a : Int) - (b : Int)) = ((a - b : Nat) : Int) := by rw [IntKind.wrap_u64]; omega
theorem u64_add (a b : Nat) (h : a + b ≤ 1000) : IntKind.u64.wrap ((a : Int) + (b : Int)) = (a : Int) + (b : Int) := by rw [IntKind.wrap_u64]; omega
theorem i64_nat (m : Nat) (h : m ≤ 9223372036854775807) : IntKind.i64.wrap (m : Int) = (m : Int) := IntWalk.i64_in _ (by omega)
theorem w64_nat (m : Nat) (h : m ≤ 9223372036854775807) : wrap64 (m : Int) = (m : Int) := IntWalk.wrap64_in _ (by omega)
theorem le_of_nine (m : Nat) (x : Int) (h : x ≤ 9223372036854775807) (e : x = (m : Int) + 9) : m ≤ 9223372036854775807 := by omega
/-- A slice of ints that can be read. -/
def Row64 (w : World) (a : Option Addr) (len : Nat) (zs : List Int) : Prop :=
  ∀ k, k < len → ∃ b off, a = some ⟨b, off, none⟩ ∧ b < w.heap.size ∧ w.cell? ⟨b, off + k, none⟩ = some (.int .i64 (zs.getD k 0)) ∧ -9223372036854775808 ≤ zs.getD k 0 ∧ zs.getD k 0 ≤ 9223372036854775807
/-- What holds at the head of a round. -/
def RdRel (w : World) (O R : Nat) (big : Bool) (s : ByteArray) (len : Nat) (from_ bad i : Value) (wr : World) : Prop :=
  ∃ (k n : Nat) (b : Bool), k ≤ len ∧ k ≤ 40 ∧ i = .int .i64 k ∧ from_ = .int .u64 n ∧ bad = .bool b ∧ n < 2 ^ 64 ∧ IsRd wr R big s n (if b then 3 else 0) ∧ wr.cell? ⟨O, 0, none⟩ = some (.bool big) ∧ O < R ∧ w.heap.size ≤ O ∧ Below w.heap.size w wr
set_option maxRecDepth 100000 in
set_option maxHeartbeats 4000000 in
theorem reads_short (s : ByteArray) (n0 : Nat) (a : Option Addr) (len cap : Nat) (zs : List Int) (w : World) (hs : s.size ≤ 200) (hn : n0 < 2 ^ 64) (hlen : len ≤ maxLen) (hrow : Row64 w a len zs) :
    Calls Try.prog 4 #[.string s, .int .u64 n0, .slice a len cap] w fun e w' => e = .returned (.bool true) ∧ Below w.heap.size w w' := by
  unfold maxLen at hlen
  have HN := Lib.hid hn; clear hn
  have HROW := Lib.hid hrow; clear hrow
  obtain ⟨big, hbig⟩ : ∃ b, (bits BinOp.and IntKind.u64 (n0 : Int) 1 == 1) = b := ⟨_, rfl⟩
  have h200 : (s.size : Int) ≤ 200 := by omega
  all_goals
    go_enter Try.func4, Try.ntmps4
    go_wp2_with fail
    refine (speaks1 _).mono ?_
    rintro e w1 ⟨rfl, hb1⟩
    go_wp2_with fail
  have ht : s.size ≤ 200 := hs
  clear hs
  generalize s = t at *
  all_goals
    refine (read_any big t n0 _).mono ?_
    rintro e w2 ⟨rfl, hI2, hB2, hsz2⟩
    have hO2 : w2.cell? ⟨w1.heap.size, 0, none⟩ = some (.bool big) := by
      rw [hB2.cell (by simp)]; simp
    have hw2 : Below w.heap.size w w2 := (hb1.alloc hb1.size _).trans (hB2.mono (by have := hb1.size; simp; omega))
    have hs1 := hb1.size
    simp only [World.size_alloc] at hI2 ⊢
    have HI2 := Lib.hid hI2; clear hI2
    clear hB2 hsz2
    go_wp2_with fail
    go_loopw [9, 10, 11] (fun f b i wr => RdRel w w1.heap.size (w1.heap.size + 1 + 1) big t len f b i wr) (fun _ _ i _ => (40 - intOf i).toNat)
    case atStart => exact ⟨0, n0, false, by omega, by omega, rfl, rfl, rfl, HN.out, HI2.out, hO2, by omega, hs1, hw2⟩
    case round =>
      obtain ⟨k, n, b, hk, hk40, rfl, rfl, rfl, hn, hI, hO, hOR, hwO, hg⟩ := hrel
      have HN2 := Lib.hid hn; clear hn
      clear hw2 hO2 hb1 hbig
      by_cases hlt : k < len ∧ k < 40
      · obtain ⟨hl1, hl2⟩ := hlt
        obtain ⟨bb, off, rfl, hbb, hc, hx1, hx2⟩ := HROW.out k hl1
        have hcw : wr.cell? ⟨bb, off + k, none⟩ = some (.int .i64 (zs.getD k 0)) := by rw [hg.cell (by exact hbb)]; exact hc
        clear hc
        generalize zs.getD k 0 = x at *
        have HX1 := Lib.hid hx1; clear hx1
        have HX2 := Lib.hid hx2; clear hx2
        have HI := Lib.hid hI; clear hI
        have hd40 : decide ((k : Int) < 40) = true := by simp; omega
        have hdl : decide (k < len) = true := by simp; omega
        have hwt := u64_nat t.size (by omega)
        by_cases hx9 : x < 9
        · by_cases hyes : b = false ∧ 1 ≤ x ∧ x ≤ 8 ∧ n ≤ t.size ∧ x.toNat ≤ t.size - n
          · skip
            obtain ⟨rfl, hx1, hx8, hn1, hn2⟩ := hyes
            obtain ⟨m, rfl⟩ := Int.eq_ofNat_of_zero_le (show 0 ≤ x by omega)
            rw [Int.toNat_natCast] at hn2
            go_wp2_with fail
            refine (next_yes _ big t n m _ HI.out (by omega) (by omega) (by omega) hn1 hn2).mono ?_
            rintro e w3 ⟨rfl, hI3, hOn⟩
            generalize hG : Num.getN big (List.take m (List.drop n t.data.toList)) = g
            have eG : Num.getN big (t.extract n (n + m)).data.toList = g := by rw [← hG]; simp
            have HEG := Lib.hid eG; clear eG hG
            have hd1 : decide ((1 : Int) ≤ (m : Int)) = true := by simp; omega
            have hd8 : decide ((m : Int) ≤ 8) = true := by simp; omega
            have hdn : decide (n ≤ t.size) = true := by simp; omega
            have hwm := u64_nat m (by omega)
            have hws : IntKind.u64.wrap ((t.size : Int) - (n : Int)) = ((t.size - n : Nat) : Int) := u64_sub _ _ hn1 (by omega)
            have hdm : decide (m ≤ t.size - n) = true := by simp; omega
            have hwa : IntKind.u64.wrap ((n : Int) + (m : Int)) = (n : Int) + (m : Int) := u64_add _ _ (by omega)
            have hO3 : w3.cell? ⟨w1.heap.size, 0, none⟩ = some (.bool big) := by
              rw [hOn.cell (by have := HI.out.lt; simp; omega) (by simp; omega)]; exact hO
            have hb0 : (0 : Int) ≤ (n : Int) := by omega
            have hb1 : (n : Int) ≤ (n : Int) + (m : Int) := by omega
            have hb2 : (n : Int) + (m : Int) ≤ (t.size : Int) := by omega
            have HI3 := Lib.hid hI3; clear hI3
            go_wp2_with fail
            go_quiet ((go_at_call 15; exact refGet_quiet _ _ _ _))
            rw [HEG.out]
            have hI3 := HI3.out.only (below_drewN (Below.refl _ _) nq)
            have hOn := hOn.drewN nq
            clear hO3 HI3
            generalize w3.drewN nq = w4 at *

            have hO3 : w4.cell? ⟨w1.heap.size, 0, none⟩ = some (.bool big) := by
              rw [hOn.cell (by have := HI.out.lt; simp; omega) (by simp; omega)]; exact hO
            have hg3 : Below w.heap.size w w4 := hg.trans (hOn.below hg.size (by omega))
            have hR3 := (IsRd.cells hI3).1
            have HI3 := Lib.hid hI3; clear hI3
            clear hOn hO hcw
            go_wp2_with fail
            go_quiet (first | (go_at_call 19; exact at_quiet _ big t (n + m) 0 _ HI3.out _) | (go_at_call 20; exact err_quiet _ big t (n + m) 0 _ HI3.out _))
            have hI4 := HI3.out.only (below_drewN (Below.refl _ _) nq)
            have hO4 : (w4.drewN nq).cell? ⟨w1.heap.size, 0, none⟩ = some (.bool big) := hO3
            have hg4 := below_drewN hg3 nq
            have HI4 := Lib.hid hI4; clear hI4
            have HO4 := Lib.hid hO4; clear hO4
            have HG4 := Lib.hid hg4; clear hg4
            clear hO3 hR3 hg3
            go_wp2
            go_roundw
            case rel => exact ⟨k + 1, (n + m), false, by omega, by omega, by go_num, by go_num, rfl, by omega, HI4.out, HO4.out, hOR, hwO, HG4.out⟩
            case measure => simp [intOf]; omega
          · skip
            have hre : b = true ∨ (b = false ∧ decide ((1 : Int) ≤ x) = false) ∨ (b = false ∧ decide ((1 : Int) ≤ x) = true ∧ decide (x ≤ 8) = true ∧ ∃ m : Nat, x = m ∧ (decide (n ≤ t.size) = false ∨ (decide (n ≤ t.size) = true ∧ decide (m ≤ t.size - n) = false ∧ IntKind.u64.wrap ((t.size : Int) - (n : Int)) = ((t.size - n : Nat) : Int))) ∧ IntKind.u64.wrap (m : Int) = (m : Int)) := by
              cases b
              · right
                by_cases h1 : 1 ≤ x
                · right
                  refine ⟨rfl, by simpa using h1, by simp; omega, x.toNat, by omega, ?_, u64_nat _ (by omega)⟩
                  by_cases h2 : n ≤ t.size
                  · right
                    exact ⟨by simpa using h2, decide_eq_false (fun h => hyes ⟨rfl, h1, by omega, h2, h⟩), u64_sub _ _ h2 (by omega)⟩
                  · left
                    simpa using h2
                · left
                  exact ⟨rfl, by simpa using h1⟩
              · left; rfl
            have hno : ¬ (1 ≤ x ∧ x ≤ 8 ∧ may t n x.toNat (if b then 3 else 0)) := by
              rintro ⟨h1, h8, he, hm1, hm2⟩
              refine hyes ⟨?_, h1, h8, hm1, hm2⟩
              cases b
              · rfl
              · simp at he
            have HNO := Lib.hid hno; clear hno hyes
            rcases hre with rfl | ⟨rfl, hd1⟩ | ⟨rfl, hd1, hd8, m, rfl, (hdn | ⟨hdn, hdm, hws⟩), hwm⟩
            all_goals
              go_wp2_with fail
              refine (next_no _ big t n _ _ _ HI.out (by simp) (by omega) HNO.out).mono ?_
              rintro e w3 ⟨rfl, hI3, hOn⟩
              have hO3 : w3.cell? ⟨w1.heap.size, 0, none⟩ = some (.bool big) := by
                rw [hOn.cell (by have := HI.out.lt; simp; omega) (by simp; omega)]; exact hO
              have hg3 : Below w.heap.size w w3 := hg.trans (hOn.below hg.size (by omega))
              have hR3 := (IsRd.cells hI3).1
              have HI3 := Lib.hid hI3; clear hI3
              clear hOn hO hcw
              go_wp2_with fail
              go_quiet (first | (go_at_call 19; exact at_quiet _ big t n 3 _ HI3.out _) | (go_at_call 20; exact err_quiet _ big t n 3 _ HI3.out _))
              have hI4 := HI3.out.only (below_drewN (Below.refl _ _) nq)
              have hO4 : (w3.drewN nq).cell? ⟨w1.heap.size, 0, none⟩ = some (.bool big) := hO3
              have hg4 := below_drewN hg3 nq
              have HI4 := Lib.hid hI4; clear hI4
              have HO4 := Lib.hid hO4; clear hO4
              have HG4 := Lib.hid hg4; clear hg4
              clear hO3 hR3 hg3
              go_wp2
              go_roundw
              case rel => exact ⟨k + 1, n, true, by omega, by omega, by go_num, by go_num, rfl, HN2.out, HI4.out, HO4.out, hOR, hwO, HG4.out⟩
              case measure => simp [intOf]; omega
        · obtain ⟨m, rfl⟩ : ∃ m : Nat, x = (m : Int) + 9 := ⟨(x - 9).toNat, by omega⟩
          have hml := le_of_nine m _ HX2.out rfl
          have HW9 := Lib.hid (i64_nat m hml)
          have HW9' := Lib.hid (w64_nat m hml)
          have HWM := Lib.hid (u64_nat m hml)
          clear hml
          by_cases hyes : b = false ∧ n ≤ t.size ∧ m ≤ t.size - n
          · skip
            obtain ⟨rfl, hn1, hn2⟩ := hyes
            have hw9 := HW9.out
            have hw9' := HW9'.out
            have hwm := HWM.out
            go_wp2_with fail
            clear hw9 hw9' hwm
            refine (bytes_yes _ big t n m _ HI.out (by omega) hn1 hn2).mono ?_
            rintro e w3 ⟨rfl, hI3, hOn⟩

            have hO3 : w3.cell? ⟨w1.heap.size, 0, none⟩ = some (.bool big) := by
              rw [hOn.cell (by have := HI.out.lt; simp; omega) (by simp; omega)]; exact hO
            have hg3 : Below w.heap.size w w3 := hg.trans (hOn.below hg.size (by omega))
            have hR3 := (IsRd.cells hI3).1
            have HI3 := Lib.hid hI3; clear hI3
            clear hOn hO hcw
            have hdn : decide (n ≤ t.size) = true := by simp; omega
            have hdm : decide (m ≤ t.size - n) = true := by simp; omega
            have hb0 : (0 : Int) ≤ (n : Int) := by omega
            have hb1 : (n : Int) ≤ (n : Int) + (m : Int) := by omega
            have hb2 : (n : Int) + (m : Int) ≤ (t.size : Int) := by omega
            have hle : n + m ≤ 1000 := by omega
            have ht1 : t.size ≤ 1000 := by omega
            have hws : IntKind.u64.wrap ((t.size : Int) - (n : Int)) = ((t.size - n : Nat) : Int) := u64_sub _ _ hn1 ht1
            have hwa : IntKind.u64.wrap ((n : Int) + (m : Int)) = (n : Int) + (m : Int) := u64_add _ _ hle
            have hw9 := HW9.out
            have hw9' := HW9'.out
            have hwm := HWM.out
            go_wp2_with fail
            clear hws hwa hw9 hw9' hwm
            go_quiet (first | (go_at_call 19; exact at_quiet _ big t (n + m) 0 _ HI3.out _) | (go_at_call 20; exact err_quiet _ big t (n + m) 0 _ HI3.out _))
            have hI4 := HI3.out.only (below_drewN (Below.refl _ _) nq)
            have hO4 : (w3.drewN nq).cell? ⟨w1.heap.size, 0, none⟩ = some (.bool big) := hO3
            have hg4 := below_drewN hg3 nq
            have HI4 := Lib.hid hI4; clear hI4
            have HO4 := Lib.hid hO4; clear hO4
            have HG4 := Lib.hid hg4; clear hg4
            clear hO3 hR3 hg3
            go_wp2
            go_roundw
            case rel => exact ⟨k + 1, (n + m), false, by omega, by omega, by go_num, by go_num, rfl, by omega, HI4.out, HO4.out, hOR, hwO, HG4.out⟩
            case measure => simp [intOf]; omega
          · skip
            have hre : b = true ∨ (b = false ∧ decide (n ≤ t.size) = false) ∨ (b = false ∧ decide (n ≤ t.size) = true ∧ decide (m ≤ t.size - n) = false ∧ IntKind.u64.wrap ((t.size : Int) - (n : Int)) = ((t.size - n : Nat) : Int)) := by
              cases b
              · right
                by_cases h2 : n ≤ t.size
                · right
                  exact ⟨rfl, by simpa using h2, decide_eq_false (fun h => hyes ⟨rfl, h2, h⟩), u64_sub _ _ h2 (by omega)⟩
                · left
                  exact ⟨rfl, by simpa using h2⟩
              · left; rfl
            have hno : ¬ may t n m (if b then 3 else 0) := by
              rintro ⟨he, hm1, hm2⟩
              refine hyes ⟨?_, hm1, hm2⟩
              cases b
              · rfl
              · simp at he
            have HNO := Lib.hid hno; clear hno hyes
            rcases hre with rfl | ⟨rfl, hdn⟩ | ⟨rfl, hdn, hdm, hws⟩
            all_goals
              have hw9 := HW9.out
              have hw9' := HW9'.out
              have hwm := HWM.out
              go_wp2_with fail
              refine (bytes_no _ big t n _ _ _ HI.out (by simp) (by omega) HNO.out).mono ?_
              rintro e w3 ⟨rfl, hI3, hOn⟩
              have hO3 : w3.cell? ⟨w1.heap.size, 0, none⟩ = some (.bool big) := by
                rw [hOn.cell (by have := HI.out.lt; simp; omega) (by simp; omega)]; exact hO
              have hg3 : Below w.heap.size w w3 := hg.trans (hOn.below hg.size (by omega))
              have hR3 := (IsRd.cells hI3).1
              have HI3 := Lib.hid hI3; clear hI3
              clear hOn hO hcw
              go_wp2_with fail
              go_quiet (first | (go_at_call 19; exact at_quiet _ big t n 3 _ HI3.out _) | (go_at_call 20; exact err_quiet _ big t n 3 _ HI3.out _))
              have hI4 := HI3.out.only (below_drewN (Below.refl _ _) nq)
              have hO4 : (w3.drewN nq).cell? ⟨w1.heap.size, 0, none⟩ = some (.bool big) := hO3
              have hg4 := below_drewN hg3 nq
              have HI4 := Lib.hid hI4; clear hI4
              have HO4 := Lib.hid hO4; clear hO4
              have HG4 := Lib.hid hg4; clear hg4
              clear hO3 hR3 hg3
              go_wp2
              go_roundw
              case rel => exact ⟨k + 1, n, true, by omega, by omega, by go_num, by go_num, rfl, HN2.out, HI4.out, HO4.out, hOR, hwO, HG4.out⟩
              case measure => simp [intOf]; omega
      · have hd : decide (k < len) = false ∨ (decide (k < len) = true ∧ decide ((k : Int) < 40) = false) := by
          by_cases h : k < len
          · right; exact ⟨by simpa using h, by simp; omega⟩
          · left; simpa using h
        clear hlt hI hO
        rcases hd with hd | ⟨hd, hd40⟩
        all_goals
          go_wp2
          go_ret
          exact ⟨rfl, hg⟩
end Go.Proofs.Ytibgcnggimlbcaa
