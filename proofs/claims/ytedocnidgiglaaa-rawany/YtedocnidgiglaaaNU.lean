/- Contracts of raw's checkSections and checkSegments. Conditions: those written in each theorem. -/
import Derived.Test.YtedocnidgiglaaaNT
import Derived.Test.YtedocnidgiglaaaNR
namespace Go.Proofs.Ytedocnidgiglaaa
open Go.RowKit
set_option linter.unusedVariables false
/-- The first number that is not 0 among the first n ones. -/
def firstE (g : Nat → Nat) : Nat → Nat
  | 0 => 0
  | k + 1 => if firstE g k ≠ 0 then firstE g k else g k
theorem firstE_stop {g : Nat → Nat} {k : Nat} (h : firstE g k = 0) (hk : g k ≠ 0) : ∀ n, k < n → firstE g n = g k
  | 0, h1 => absurd h1 (Nat.not_lt_zero _)
  | n + 1, h1 => by
    simp only [firstE]
    by_cases he : k = n
    · subst he
      rw [if_neg (by simpa using h)]
    · have := firstE_stop h hk n (by omega)
      rw [this, if_pos hk]
theorem firstE_go {g : Nat → Nat} {k : Nat} (h : firstE g k = 0) (hk : g k = 0) : firstE g (k + 1) = 0 := by
  simp only [firstE]
  rw [if_neg (by simpa using h)]
  exact hk
/-- Why a section's header may not be, in a text of so many bytes. -/
def secChk (ones : Nat → Nat) (z : Nat) (f : Nat → Nat → Nat) (i : Nat) : Nat := if 1 < ones (f i 8) then 13 else if (f i 1 ≠ 0 ∧ f i 1 ≠ 8) ∧ ¬ f i 4 + f i 5 ≤ z then 9 else 0
def segChk (z : Nat) (f : Nat → Nat → Nat) (i : Nat) : Nat := if f i 2 + f i 5 ≤ z then 0 else 9
set_option maxRecDepth 100000 in
set_option maxHeartbeats 4000000 in
theorem checkSections_any (ones : Nat → Nat) (HON : Hid (∀ x, x < 18446744073709551616 → ∀ u, Calls Try.prog 96 #[.int .u64 (x : Nat)] u fun e w' => e = .returned (.int .i64 (ones x : Nat)) ∧ u = w')) (P : Nat) (big wide : Bool) (abi ver : Nat) (pad : ByteArray) (h0 h1 h2 h3 h4 h5 h6 h7 h8 h9 h10 h11 h12 : Nat) (A : Option Addr) (n cN : Nat) (vp : Value) (nm : Nat) (f : Nat → Nat → Nat) (text : ByteArray) (W : World) (hm : text.size ≤ 1048576) (hn : n ≤ 4096) (hf : ∀ i j, f i j < 18446744073709551616)
    (hR : W.heap[P]? = some (.cells #[.bool big, .bool wide, .int .u8 (abi : Nat), .int .u8 (ver : Nat), .string pad, .int .u64 (h0 : Nat), .int .u64 (h1 : Nat), .int .u64 (h2 : Nat), .int .u64 (h3 : Nat), .int .u64 (h4 : Nat), .int .u64 (h5 : Nat), .int .u64 (h6 : Nat), .int .u64 (h7 : Nat), .int .u64 (h8 : Nat), .int .u64 (h9 : Nat), .int .u64 (h10 : Nat), .int .u64 (h11 : Nat), .int .u64 (h12 : Nat), .slice A n cN, vp, .int .u64 (nm : Nat), .string text] 138 (0, 0))) (hS : 0 < n → ∃ b, A = some ⟨b, 0, none⟩ ∧ W.heap[b]? = some (.cells (rowU64 (flatF 10 f n)) 52 (0, 0))) :
    Calls Try.prog 54 #[.pointer (some ⟨P, 0, none⟩)] W fun e w' => e = .returned (.int .i64 (firstE (secChk ones text.size f) n : Nat)) ∧ Below W.heap.size W w' := by
  have c18 : W.cell? ⟨P, 18, none⟩ = some (.slice A n cN) := by rw [Lib.cell_of_heap hR]; rfl
  have HR := Lib.hid hR; have HS := Lib.hid hS; have HF := Lib.hid hf; clear hR hS hf
  obtain ⟨g, hg⟩ : ∃ g, g = secChk ones text.size f := ⟨_, rfl⟩
  have HG := Lib.hid hg
  rw [← hg]
  clear hg
  go_enter Try.func54, Try.ntmps54
  go_wp2
  clear c18
  go_loopw [11] (fun i wr => ∃ k : Nat, k ≤ n ∧ i = .int .i64 (k : Int) ∧ firstE g k = 0 ∧ Below W.heap.size W wr) (fun i _ => n - (intOf i).toNat)
  case atStart => exact ⟨0, Nat.zero_le _, rfl, rfl, Below.refl _ _⟩
  case round =>
    obtain ⟨k, hk, rfl, hfe, hB⟩ := hrel
    have HFE := Lib.hid hfe; have HB := Lib.hid hB; clear hfe hB
    by_cases hlt : k < n
    · obtain ⟨b, rfl, hrow⟩ := HS.out (by omega)
      have HROW := Lib.hid hrow; clear hrow
      have k0 : (0 : Int) ≤ (k : Int) := by omega
      have k1 : (k : Int) < (n : Int) := by omega
      have k2 : k + 1 ≤ 1048576 := by omega
      have HO := Lib.hid (HON.out (f k 8) (HF.out k 8))
      have g0 : wr.cell? ⟨b, k * 10, none⟩ = some (.int .u64 (f k 0 : Nat)) := rowU_at (j := 0) (heap_low HROW.out HB.out) hlt (by decide)
      have g1 : wr.cell? ⟨b, k * 10 + 1, none⟩ = some (.int .u64 (f k 1 : Nat)) := rowU_at (j := 1) (heap_low HROW.out HB.out) hlt (by decide)
      have g2 : wr.cell? ⟨b, k * 10 + 2, none⟩ = some (.int .u64 (f k 2 : Nat)) := rowU_at (j := 2) (heap_low HROW.out HB.out) hlt (by decide)
      have g3 : wr.cell? ⟨b, k * 10 + 3, none⟩ = some (.int .u64 (f k 3 : Nat)) := rowU_at (j := 3) (heap_low HROW.out HB.out) hlt (by decide)
      have g4 : wr.cell? ⟨b, k * 10 + 4, none⟩ = some (.int .u64 (f k 4 : Nat)) := rowU_at (j := 4) (heap_low HROW.out HB.out) hlt (by decide)
      have g5 : wr.cell? ⟨b, k * 10 + 5, none⟩ = some (.int .u64 (f k 5 : Nat)) := rowU_at (j := 5) (heap_low HROW.out HB.out) hlt (by decide)
      have g6 : wr.cell? ⟨b, k * 10 + 6, none⟩ = some (.int .u64 (f k 6 : Nat)) := rowU_at (j := 6) (heap_low HROW.out HB.out) hlt (by decide)
      have g7 : wr.cell? ⟨b, k * 10 + 7, none⟩ = some (.int .u64 (f k 7 : Nat)) := rowU_at (j := 7) (heap_low HROW.out HB.out) hlt (by decide)
      have g8 : wr.cell? ⟨b, k * 10 + 8, none⟩ = some (.int .u64 (f k 8 : Nat)) := rowU_at (j := 8) (heap_low HROW.out HB.out) hlt (by decide)
      have g9 : wr.cell? ⟨b, k * 10 + 9, none⟩ = some (.int .u64 (f k 9 : Nat)) := rowU_at (j := 9) (heap_low HROW.out HB.out) hlt (by decide)
      have hgk : g k = if 1 < ones (f k 8) then 13 else if (f k 1 ≠ 0 ∧ f k 1 ≠ 8) ∧ ¬ f k 4 + f k 5 ≤ text.size then 9 else 0 := by rw [HG.out]; rfl
      have HGK := Lib.hid hgk; clear hgk
      have HST := Lib.hid (fun h => firstE_stop HFE.out h n hlt)
      go_wp2_with fail
      refine (HO.out _).mono ?_
      rintro e w5 ⟨rfl, rfl⟩
      clear g0 g1 g2 g3 g4 g5 g6 g7 g8 g9
      by_cases hp : 1 < ones (f k 8)
      · have k3 : (1 : Int) < ((ones (f k 8) : Nat) : Int) := by omega
        have e1 : g k = 13 := by rw [HGK.out, if_pos hp]
        have HE := Lib.hid (show firstE g n = 13 by rw [HST.out (by rw [e1]; decide), e1])
        have HB3 := Lib.hid (HB.out.alloc HB.out.size (.cells #[.int .u64 (f k 0 : Nat), .int .u64 (f k 1 : Nat), .int .u64 (f k 2 : Nat), .int .u64 (f k 3 : Nat), .int .u64 (f k 4 : Nat), .int .u64 (f k 5 : Nat), .int .u64 (f k 6 : Nat), .int .u64 (f k 7 : Nat), .int .u64 (f k 8 : Nat), .int .u64 (f k 9 : Nat)] 52))
        clear hp e1
        go_wp2
        go_ret
        exact ⟨by rw [HE.out]; rfl, HB3.out⟩
      · have k3 : ¬ (1 : Int) < ((ones (f k 8) : Nat) : Int) := by omega
        have k4 : decide ((1 : Int) < ((ones (f k 8) : Nat) : Int)) = false := decide_eq_false k3
        have HNP := Lib.hid hp; clear hp
        have HRW := Lib.hid (heap_alloc_new wr (.cells #[.int .u64 (f k 0 : Nat), .int .u64 (f k 1 : Nat), .int .u64 (f k 2 : Nat), .int .u64 (f k 3 : Nat), .int .u64 (f k 4 : Nat), .int .u64 (f k 5 : Nat), .int .u64 (f k 6 : Nat), .int .u64 (f k 7 : Nat), .int .u64 (f k 8 : Nat), .int .u64 (f k 9 : Nat)] 52))
        have HB3 := Lib.hid (HB.out.alloc HB.out.size (.cells #[.int .u64 (f k 0 : Nat), .int .u64 (f k 1 : Nat), .int .u64 (f k 2 : Nat), .int .u64 (f k 3 : Nat), .int .u64 (f k 4 : Nat), .int .u64 (f k 5 : Nat), .int .u64 (f k 6 : Nat), .int .u64 (f k 7 : Nat), .int .u64 (f k 8 : Nat), .int .u64 (f k 9 : Nat)] 52))
        have HR3 := Lib.hid (heap_low HR.out HB3.out)
        go_upto_region 6 with (fail)
        generalize (wr.alloc (.cells #[.int .u64 (f k 0 : Nat), .int .u64 (f k 1 : Nat), .int .u64 (f k 2 : Nat), .int .u64 (f k 3 : Nat), .int .u64 (f k 4 : Nat), .int .u64 (f k 5 : Nat), .int .u64 (f k 6 : Nat), .int .u64 (f k 7 : Nat), .int .u64 (f k 8 : Nat), .int .u64 (f k 9 : Nat)] 52)) = w6 at *
        generalize wr.heap.size = B at *
        by_cases hd : f k 1 ≠ 0 ∧ f k 1 ≠ 8
        · have HH := Lib.hid (fun u => (hasdata_any (f k 0) (f k 1) (f k 2) (f k 3) (f k 4) (f k 5) (f k 6) (f k 7) (f k 8) (f k 9) u).mono fun e w' h => (⟨by rw [h.1, decide_eq_true hd], h.2⟩ : e = .returned (.bool true) ∧ Below u.heap.size u w'))
          have HI := Lib.hid (fun u => in_any (f k 4) (f k 5) text.size u (HF.out k 4) (HF.out k 5) (by omega))
          have HD := Lib.hid hd; clear hd
          refine creg6_yes _ _ _ _ _ _ _ _ _ _ _ _ _ _ _ _ _ _ _ _ _ _ _ _ _ _ _ _ _ _ _ _ _ P B (f k 0) (f k 1) (f k 2) (f k 3) (f k 4) (f k 5) (f k 6) (f k 7) (f k 8) (f k 9) text text.size (inB (f k 4) (f k 5) text.size) w6 HRW.out HH HI (Lib.hid (fun u hu => by rw [Lib.cell_of_heap (heap_low HR3.out hu)]; rfl)) (by rw [IntKind.wrap_u64]; omega) (fun _ _ _ _ _ h => h) (fun u19 u20 u21 u22 u23 u24 u25 u26 u27 u28 u29 u30 u31 w7 h7 => ?_)
          have HB7 := Lib.hid (HB3.out.trans (h7.mono HB3.out.size)); clear h7
          by_cases hi : f k 4 + f k 5 ≤ text.size
          · have e2 : inB (f k 4) (f k 5) text.size = true := decide_eq_true hi
            have e1 : g k = 0 := by rw [HGK.out, if_neg HNP.out, if_neg (fun h => h.2 hi)]
            have HE := Lib.hid (firstE_go HFE.out e1)
            rw [e2]
            clear e1 e2 hi
            go_wp2
            exact ⟨⟨k + 1, by omega, by go_num, HE.out, HB7.out⟩, by simp [intOf]; omega⟩
          · have e2 : inB (f k 4) (f k 5) text.size = false := decide_eq_false hi
            have e1 : g k = 9 := by rw [HGK.out, if_neg HNP.out, if_pos ⟨HD.out, hi⟩]
            have HE := Lib.hid (show firstE g n = 9 by rw [HST.out (by rw [e1]; decide), e1])
            rw [e2]
            clear e1 e2 hi
            go_wp2
            go_ret
            exact ⟨by rw [HE.out]; rfl, HB7.out⟩
        · have HH := Lib.hid (fun u => (hasdata_any (f k 0) (f k 1) (f k 2) (f k 3) (f k 4) (f k 5) (f k 6) (f k 7) (f k 8) (f k 9) u).mono fun e w' h => (⟨by rw [h.1, decide_eq_false hd], h.2⟩ : e = .returned (.bool false) ∧ Below u.heap.size u w'))
          have e1 : g k = 0 := by rw [HGK.out, if_neg HNP.out, if_neg (fun h => hd h.1)]
          have HE := Lib.hid (firstE_go HFE.out e1)
          clear hd e1
          refine creg6_no _ _ _ _ _ _ _ _ _ _ _ _ _ _ _ _ _ _ _ _ _ _ _ _ _ _ _ _ _ _ _ _ _ P B (f k 0) (f k 1) (f k 2) (f k 3) (f k 4) (f k 5) (f k 6) (f k 7) (f k 8) (f k 9) text w6 HRW.out HH (fun _ _ _ _ _ h => h) (fun u19 u20 u21 u22 u23 u24 u25 u26 u27 u28 u29 u30 u31 w7 h7 => ?_)
          have HB7 := Lib.hid (HB3.out.trans (h7.mono HB3.out.size)); clear h7
          go_wp2
          exact ⟨⟨k + 1, by omega, by go_num, HE.out, HB7.out⟩, by simp [intOf]; omega⟩
    · obtain rfl : k = n := by omega
      go_wp2
      go_ret
      exact ⟨by rw [HFE.out]; rfl, HB.out⟩
set_option maxRecDepth 100000 in
set_option maxHeartbeats 4000000 in
theorem checkSegments_any (P : Nat) (big wide : Bool) (abi ver : Nat) (pad : ByteArray) (h0 h1 h2 h3 h4 h5 h6 h7 h8 h9 h10 h11 h12 : Nat) (vs : Value) (A : Option Addr) (n cN : Nat) (nm : Nat) (f : Nat → Nat → Nat) (text : ByteArray) (W : World) (hm : text.size ≤ 1048576) (hn : n ≤ 4096) (hf : ∀ i j, f i j < 18446744073709551616)
    (hR : W.heap[P]? = some (.cells #[.bool big, .bool wide, .int .u8 (abi : Nat), .int .u8 (ver : Nat), .string pad, .int .u64 (h0 : Nat), .int .u64 (h1 : Nat), .int .u64 (h2 : Nat), .int .u64 (h3 : Nat), .int .u64 (h4 : Nat), .int .u64 (h5 : Nat), .int .u64 (h6 : Nat), .int .u64 (h7 : Nat), .int .u64 (h8 : Nat), .int .u64 (h9 : Nat), .int .u64 (h10 : Nat), .int .u64 (h11 : Nat), .int .u64 (h12 : Nat), vs, .slice A n cN, .int .u64 (nm : Nat), .string text] 138 (0, 0))) (hS : 0 < n → ∃ b, A = some ⟨b, 0, none⟩ ∧ W.heap[b]? = some (.cells (rowU64 (flatF 8 f n)) 72 (0, 0))) :
    Calls Try.prog 55 #[.pointer (some ⟨P, 0, none⟩)] W fun e w' => e = .returned (.int .i64 (firstE (segChk text.size f) n : Nat)) ∧ Below W.heap.size W w' := by
  have c19 : W.cell? ⟨P, 19, none⟩ = some (.slice A n cN) := by rw [Lib.cell_of_heap hR]; rfl
  have HR := Lib.hid hR; have HS := Lib.hid hS; have HF := Lib.hid hf; clear hR hS hf
  obtain ⟨g, hg⟩ : ∃ g, g = segChk text.size f := ⟨_, rfl⟩
  have HG := Lib.hid hg
  rw [← hg]
  clear hg
  go_enter Try.func55, Try.ntmps55
  go_wp2
  clear c19
  go_loopw [11] (fun i wr => ∃ k : Nat, k ≤ n ∧ i = .int .i64 (k : Int) ∧ firstE g k = 0 ∧ Below W.heap.size W wr) (fun i _ => n - (intOf i).toNat)
  case atStart => exact ⟨0, Nat.zero_le _, rfl, rfl, Below.refl _ _⟩
  case round =>
    obtain ⟨k, hk, rfl, hfe, hB⟩ := hrel
    have HFE := Lib.hid hfe; have HB := Lib.hid hB; clear hfe hB
    by_cases hlt : k < n
    · obtain ⟨b, rfl, hrow⟩ := HS.out (by omega)
      have HROW := Lib.hid hrow; clear hrow
      have k0 : (0 : Int) ≤ (k : Int) := by omega
      have k1 : (k : Int) < (n : Int) := by omega
      have k2 : k + 1 ≤ 1048576 := by omega
      have g0 : wr.cell? ⟨b, k * 8, none⟩ = some (.int .u64 (f k 0 : Nat)) := rowU_at (j := 0) (heap_low HROW.out HB.out) hlt (by decide)
      have g1 : wr.cell? ⟨b, k * 8 + 1, none⟩ = some (.int .u64 (f k 1 : Nat)) := rowU_at (j := 1) (heap_low HROW.out HB.out) hlt (by decide)
      have g2 : wr.cell? ⟨b, k * 8 + 2, none⟩ = some (.int .u64 (f k 2 : Nat)) := rowU_at (j := 2) (heap_low HROW.out HB.out) hlt (by decide)
      have g3 : wr.cell? ⟨b, k * 8 + 3, none⟩ = some (.int .u64 (f k 3 : Nat)) := rowU_at (j := 3) (heap_low HROW.out HB.out) hlt (by decide)
      have g4 : wr.cell? ⟨b, k * 8 + 4, none⟩ = some (.int .u64 (f k 4 : Nat)) := rowU_at (j := 4) (heap_low HROW.out HB.out) hlt (by decide)
      have g5 : wr.cell? ⟨b, k * 8 + 5, none⟩ = some (.int .u64 (f k 5 : Nat)) := rowU_at (j := 5) (heap_low HROW.out HB.out) hlt (by decide)
      have g6 : wr.cell? ⟨b, k * 8 + 6, none⟩ = some (.int .u64 (f k 6 : Nat)) := rowU_at (j := 6) (heap_low HROW.out HB.out) hlt (by decide)
      have g7 : wr.cell? ⟨b, k * 8 + 7, none⟩ = some (.int .u64 (f k 7 : Nat)) := rowU_at (j := 7) (heap_low HROW.out HB.out) hlt (by decide)
      have hgk : g k = if f k 2 + f k 5 ≤ text.size then 0 else 9 := by rw [HG.out]; rfl
      have HGK := Lib.hid hgk; clear hgk
      have HST := Lib.hid (fun h => firstE_stop HFE.out h n hlt)
      have HRW := Lib.hid (heap_alloc_new wr (.cells #[.int .u64 (f k 0 : Nat), .int .u64 (f k 1 : Nat), .int .u64 (f k 2 : Nat), .int .u64 (f k 3 : Nat), .int .u64 (f k 4 : Nat), .int .u64 (f k 5 : Nat), .int .u64 (f k 6 : Nat), .int .u64 (f k 7 : Nat)] 72))
      have HB3 := Lib.hid (HB.out.alloc HB.out.size (.cells #[.int .u64 (f k 0 : Nat), .int .u64 (f k 1 : Nat), .int .u64 (f k 2 : Nat), .int .u64 (f k 3 : Nat), .int .u64 (f k 4 : Nat), .int .u64 (f k 5 : Nat), .int .u64 (f k 6 : Nat), .int .u64 (f k 7 : Nat)] 72))
      have HR3 := Lib.hid (heap_low HR.out HB3.out)
      have HI := Lib.hid (fun u => in_any (f k 2) (f k 5) text.size u (HF.out k 2) (HF.out k 5) (by omega))
      go_upto_region 4 with (fail)
      clear g0 g1 g2 g3 g4 g5 g6 g7
      generalize (wr.alloc (.cells #[.int .u64 (f k 0 : Nat), .int .u64 (f k 1 : Nat), .int .u64 (f k 2 : Nat), .int .u64 (f k 3 : Nat), .int .u64 (f k 4 : Nat), .int .u64 (f k 5 : Nat), .int .u64 (f k 6 : Nat), .int .u64 (f k 7 : Nat)] 72)) = w6 at *
      generalize wr.heap.size = B at *
      refine creg4 _ _ _ _ _ _ _ _ _ _ _ _ _ _ _ _ _ _ _ _ _ _ _ _ _ P B (f k 0) (f k 1) (f k 2) (f k 3) (f k 4) (f k 5) (f k 6) (f k 7) text text.size (inB (f k 2) (f k 5) text.size) w6 HRW.out HI (Lib.hid (fun u hu => by rw [Lib.cell_of_heap (heap_low HR3.out hu)]; rfl)) (by rw [IntKind.wrap_u64]; omega) (fun _ _ _ _ _ h => h) (fun u15 u16 u17 u18 u19 u20 u21 u22 u23 w7 h7 => ?_)
      have HB7 := Lib.hid (HB3.out.trans (h7.mono HB3.out.size)); clear h7
      by_cases hi : f k 2 + f k 5 ≤ text.size
      · have e2 : inB (f k 2) (f k 5) text.size = true := decide_eq_true hi
        have e1 : g k = 0 := by rw [HGK.out, if_pos hi]
        have HE := Lib.hid (firstE_go HFE.out e1)
        rw [e2]
        clear e1 e2 hi
        go_wp2
        exact ⟨⟨k + 1, by omega, by go_num, HE.out, HB7.out⟩, by simp [intOf]; omega⟩
      · have e2 : inB (f k 2) (f k 5) text.size = false := decide_eq_false hi
        have e1 : g k = 9 := by rw [HGK.out, if_neg hi]
        have HE := Lib.hid (show firstE g n = 9 by rw [HST.out (by rw [e1]; decide), e1])
        rw [e2]
        clear e1 e2 hi
        go_wp2
        go_ret
        exact ⟨by rw [HE.out]; rfl, HB7.out⟩
    · obtain rfl : k = n := by omega
      go_wp2
      go_ret
      exact ⟨by rw [HFE.out]; rfl, HB.out⟩
end Go.Proofs.Ytedocnidgiglaaa
