/- The contract of raw's Data. Conditions: those written in each theorem. -/
import Derived.Test.YtedocnidgiglaaaNR
import Derived.Test.YtedocnidgiglaaaNF
import Derived.Test.YtedocnidgiglaaaJC
namespace Go.Proofs.Ytedocnidgiglaaa
open Go.RowKit
set_option linter.unusedVariables false
/-- The bytes of a section in a text. -/
def dataS (f : Nat → Nat → Nat) (n : Nat) (s : ByteArray) (i : Nat) : ByteArray := if i < n ∧ (f i 1 ≠ 0 ∧ f i 1 ≠ 8) ∧ f i 4 + f i 5 ≤ s.size then s.extract (f i 4) (f i 4 + f i 5) else ⟨#[]⟩
set_option maxRecDepth 1000000 in
set_option maxHeartbeats 4000000 in
theorem fdata_any (big wide : Bool) (abi ver : Nat) (pad : ByteArray) (h0 h1 h2 h3 h4 h5 h6 h7 h8 h9 h10 h11 h12 : Nat) (As : Option Addr) (ns cs : Nat) (Ap : Option Addr) (np cp : Nat) (nm : Nat) (f : Nat → Nat → Nat) (s : ByteArray) (i : Nat) (w : World) (hS : 0 < ns → ∃ b, As = some ⟨b, 0, none⟩ ∧ w.heap[b]? = some (.cells (rowU64 (flatF 10 f ns)) 52 (0, 0))) (hf : ∀ i j, f i j < 18446744073709551616) (hs : s.size ≤ 1048576) (hi : i ≤ 100000) (hns : ns ≤ 100000) :
    Calls Try.prog 21 #[.agg #[.bool big, .bool wide, .int .u8 (abi : Nat), .int .u8 (ver : Nat), .string pad, .int .u64 (h0 : Nat), .int .u64 (h1 : Nat), .int .u64 (h2 : Nat), .int .u64 (h3 : Nat), .int .u64 (h4 : Nat), .int .u64 (h5 : Nat), .int .u64 (h6 : Nat), .int .u64 (h7 : Nat), .int .u64 (h8 : Nat), .int .u64 (h9 : Nat), .int .u64 (h10 : Nat), .int .u64 (h11 : Nat), .int .u64 (h12 : Nat), .slice As ns cs, .slice Ap np cp, .int .u64 (nm : Nat)], .string s, .int .i64 (i : Nat)] w fun e w' => e = .returned (.string (dataS f ns s i)) ∧ Below w.heap.size w w' := by
  obtain ⟨D, hD⟩ : ∃ D, D = dataS f ns s i := ⟨_, rfl⟩
  rw [← hD]
  have HD := Lib.hid hD; clear hD
  have HS := Lib.hid hS; clear hS
  have hM : s.size ≤ maxLen := by unfold maxLen; omega
  go_enter Try.func21, Try.ntmps21
  go_upto_region 1 with (fail)
  have c18 : (w.alloc (.cells #[.bool big, .bool wide, .int .u8 (abi : Nat), .int .u8 (ver : Nat), .string pad, .int .u64 (h0 : Nat), .int .u64 (h1 : Nat), .int .u64 (h2 : Nat), .int .u64 (h3 : Nat), .int .u64 (h4 : Nat), .int .u64 (h5 : Nat), .int .u64 (h6 : Nat), .int .u64 (h7 : Nat), .int .u64 (h8 : Nat), .int .u64 (h9 : Nat), .int .u64 (h10 : Nat), .int .u64 (h11 : Nat), .int .u64 (h12 : Nat), .slice As ns cs, .slice Ap np cp, .int .u64 (nm : Nat)] 42)).cell? ⟨w.heap.size, 18, none⟩ = some (.slice As ns cs) := by rw [Lib.cell_of_heap (heap_alloc_new w (.cells #[.bool big, .bool wide, .int .u8 (abi : Nat), .int .u8 (ver : Nat), .string pad, .int .u64 (h0 : Nat), .int .u64 (h1 : Nat), .int .u64 (h2 : Nat), .int .u64 (h3 : Nat), .int .u64 (h4 : Nat), .int .u64 (h5 : Nat), .int .u64 (h6 : Nat), .int .u64 (h7 : Nat), .int .u64 (h8 : Nat), .int .u64 (h9 : Nat), .int .u64 (h10 : Nat), .int .u64 (h11 : Nat), .int .u64 (h12 : Nat), .slice As ns cs, .slice Ap np cp, .int .u64 (nm : Nat)] 42))]; rfl
  have HB := Lib.hid (below_more (Below.refl w.heap.size w) (.cells #[.bool big, .bool wide, .int .u8 (abi : Nat), .int .u8 (ver : Nat), .string pad, .int .u64 (h0 : Nat), .int .u64 (h1 : Nat), .int .u64 (h2 : Nat), .int .u64 (h3 : Nat), .int .u64 (h4 : Nat), .int .u64 (h5 : Nat), .int .u64 (h6 : Nat), .int .u64 (h7 : Nat), .int .u64 (h8 : Nat), .int .u64 (h9 : Nat), .int .u64 (h10 : Nat), .int .u64 (h11 : Nat), .int .u64 (h12 : Nat), .slice As ns cs, .slice Ap np cp, .int .u64 (nm : Nat)] 42))
  have HN := Lib.hid (heap_alloc_new w (.cells #[.bool big, .bool wide, .int .u8 (abi : Nat), .int .u8 (ver : Nat), .string pad, .int .u64 (h0 : Nat), .int .u64 (h1 : Nat), .int .u64 (h2 : Nat), .int .u64 (h3 : Nat), .int .u64 (h4 : Nat), .int .u64 (h5 : Nat), .int .u64 (h6 : Nat), .int .u64 (h7 : Nat), .int .u64 (h8 : Nat), .int .u64 (h9 : Nat), .int .u64 (h10 : Nat), .int .u64 (h11 : Nat), .int .u64 (h12 : Nat), .slice As ns cs, .slice Ap np cp, .int .u64 (nm : Nat)] 42))
  have hw1 : w.heap.size < (w.alloc (.cells #[.bool big, .bool wide, .int .u8 (abi : Nat), .int .u8 (ver : Nat), .string pad, .int .u64 (h0 : Nat), .int .u64 (h1 : Nat), .int .u64 (h2 : Nat), .int .u64 (h3 : Nat), .int .u64 (h4 : Nat), .int .u64 (h5 : Nat), .int .u64 (h6 : Nat), .int .u64 (h7 : Nat), .int .u64 (h8 : Nat), .int .u64 (h9 : Nat), .int .u64 (h10 : Nat), .int .u64 (h11 : Nat), .int .u64 (h12 : Nat), .slice As ns cs, .slice Ap np cp, .int .u64 (nm : Nat)] 42)).heap.size := by simp
  generalize w.alloc (.cells #[.bool big, .bool wide, .int .u8 (abi : Nat), .int .u8 (ver : Nat), .string pad, .int .u64 (h0 : Nat), .int .u64 (h1 : Nat), .int .u64 (h2 : Nat), .int .u64 (h3 : Nat), .int .u64 (h4 : Nat), .int .u64 (h5 : Nat), .int .u64 (h6 : Nat), .int .u64 (h7 : Nat), .int .u64 (h8 : Nat), .int .u64 (h9 : Nat), .int .u64 (h10 : Nat), .int .u64 (h11 : Nat), .int .u64 (h12 : Nat), .slice As ns cs, .slice Ap np cp, .int .u64 (nm : Nat)] 42) = W at *
  by_cases hlt : i < ns
  · obtain ⟨b, rfl, hrow⟩ := HS.out (by omega)
    have HROW := Lib.hid (heap_low hrow HB.out); clear hrow HS
    have k0 : (0 : Int) ≤ (i : Int) := by omega
    have k1 : (i : Int) < (ns : Int) := by omega
    have k2 : i + 1 ≤ 1048576 := by omega
    by_cases hd : f i 1 ≠ 0 ∧ f i 1 ≠ 8
    · have HH := Lib.hid (fun u => (hasdata_any (f i 0) (f i 1) (f i 2) (f i 3) (f i 4) (f i 5) (f i 6) (f i 7) (f i 8) (f i 9) u).mono fun e w' h => (⟨by rw [h.1, decide_eq_true hd], h.2⟩ : e = .returned (.bool true) ∧ Below u.heap.size u w'))
      have g0 : (W).cell? ⟨b, i * 10, none⟩ = some (.int .u64 (f i 0 : Nat)) := rowU_at (j := 0) (HROW.out) hlt (by decide)
      have g1 : (W).cell? ⟨b, i * 10 + 1, none⟩ = some (.int .u64 (f i 1 : Nat)) := rowU_at (j := 1) (HROW.out) hlt (by decide)
      have g2 : (W).cell? ⟨b, i * 10 + 2, none⟩ = some (.int .u64 (f i 2 : Nat)) := rowU_at (j := 2) (HROW.out) hlt (by decide)
      have g3 : (W).cell? ⟨b, i * 10 + 3, none⟩ = some (.int .u64 (f i 3 : Nat)) := rowU_at (j := 3) (HROW.out) hlt (by decide)
      have g4 : (W).cell? ⟨b, i * 10 + 4, none⟩ = some (.int .u64 (f i 4 : Nat)) := rowU_at (j := 4) (HROW.out) hlt (by decide)
      have g5 : (W).cell? ⟨b, i * 10 + 5, none⟩ = some (.int .u64 (f i 5 : Nat)) := rowU_at (j := 5) (HROW.out) hlt (by decide)
      have g6 : (W).cell? ⟨b, i * 10 + 6, none⟩ = some (.int .u64 (f i 6 : Nat)) := rowU_at (j := 6) (HROW.out) hlt (by decide)
      have g7 : (W).cell? ⟨b, i * 10 + 7, none⟩ = some (.int .u64 (f i 7 : Nat)) := rowU_at (j := 7) (HROW.out) hlt (by decide)
      have g8 : (W).cell? ⟨b, i * 10 + 8, none⟩ = some (.int .u64 (f i 8 : Nat)) := rowU_at (j := 8) (HROW.out) hlt (by decide)
      have g9 : (W).cell? ⟨b, i * 10 + 9, none⟩ = some (.int .u64 (f i 9 : Nat)) := rowU_at (j := 9) (HROW.out) hlt (by decide)
      go_upto_region 3 with (go_at_call 46; with_reducible refine (HH.out _).mono ?_; rintro e w3 ⟨rfl, b3⟩)
      clear g0 g1 g2 g3 g4 g5 g6 g7 g8 g9
      have c18' : w3.cell? ⟨w.heap.size, 18, none⟩ = some (.slice (some ⟨b, 0, none⟩) ns cs) := by rw [b3.cell (p := ⟨w.heap.size, 18, none⟩) hw1]; exact c18
      clear c18 HN
      have g0 : (w3).cell? ⟨b, i * 10, none⟩ = some (.int .u64 (f i 0 : Nat)) := rowU_at (j := 0) (heap_low HROW.out b3) hlt (by decide)
      have g1 : (w3).cell? ⟨b, i * 10 + 1, none⟩ = some (.int .u64 (f i 1 : Nat)) := rowU_at (j := 1) (heap_low HROW.out b3) hlt (by decide)
      have g2 : (w3).cell? ⟨b, i * 10 + 2, none⟩ = some (.int .u64 (f i 2 : Nat)) := rowU_at (j := 2) (heap_low HROW.out b3) hlt (by decide)
      have g3 : (w3).cell? ⟨b, i * 10 + 3, none⟩ = some (.int .u64 (f i 3 : Nat)) := rowU_at (j := 3) (heap_low HROW.out b3) hlt (by decide)
      have g4 : (w3).cell? ⟨b, i * 10 + 4, none⟩ = some (.int .u64 (f i 4 : Nat)) := rowU_at (j := 4) (heap_low HROW.out b3) hlt (by decide)
      have g5 : (w3).cell? ⟨b, i * 10 + 5, none⟩ = some (.int .u64 (f i 5 : Nat)) := rowU_at (j := 5) (heap_low HROW.out b3) hlt (by decide)
      have g6 : (w3).cell? ⟨b, i * 10 + 6, none⟩ = some (.int .u64 (f i 6 : Nat)) := rowU_at (j := 6) (heap_low HROW.out b3) hlt (by decide)
      have g7 : (w3).cell? ⟨b, i * 10 + 7, none⟩ = some (.int .u64 (f i 7 : Nat)) := rowU_at (j := 7) (heap_low HROW.out b3) hlt (by decide)
      have g8 : (w3).cell? ⟨b, i * 10 + 8, none⟩ = some (.int .u64 (f i 8 : Nat)) := rowU_at (j := 8) (heap_low HROW.out b3) hlt (by decide)
      have g9 : (w3).cell? ⟨b, i * 10 + 9, none⟩ = some (.int .u64 (f i 9 : Nat)) := rowU_at (j := 9) (heap_low HROW.out b3) hlt (by decide)
      have HB3 := Lib.hid (HB.out.trans (b3.mono HB.out.size)); clear b3
      by_cases hfit : f i 4 + f i 5 ≤ s.size
      · have HP := Lib.hid (fun u => part_yes (f i 4) (f i 5) s u (hf i 4) (hf i 5) hM hfit)
        have HE : Hid (D = s.extract (f i 4) (f i 4 + f i 5)) := Lib.hid (by rw [HD.out]; unfold dataS; rw [if_pos ⟨hlt, hd, hfit⟩])
        rw [← HE.out] at HP
        clear hd hfit HD HE
        go_wp2_with (first | (go_at_call 60; with_reducible refine (data_any (f i 0) (f i 1) (f i 2) (f i 3) (f i 4) (f i 5) (f i 6) (f i 7) (f i 8) (f i 9) _).mono ?_; rintro e w4 ⟨rfl, b4⟩; have HB4 := Lib.hid (HB3.out.trans (b4.mono HB3.out.size)); clear b4 g0 g1 g2 g3 g4 g5 g6 g7 g8 g9 c18') | (go_at_call 61; with_reducible refine (HP.out _).mono ?_; rintro e w5 ⟨rfl, b5⟩; have HB5 := Lib.hid (HB4.out.trans (b5.mono HB4.out.size)); clear b5))
        go_ret
        exact ⟨rfl, HB5.out⟩
      · have HP := Lib.hid (fun u => part_no (f i 4) (f i 5) s u (hf i 4) (hf i 5) hM hfit)
        have HE : Hid (D = ⟨#[]⟩) := Lib.hid (by rw [HD.out]; unfold dataS; rw [if_neg (fun h => hfit h.2.2)])
        rw [← HE.out] at HP
        clear hd hfit HD HE
        go_wp2_with (first | (go_at_call 60; with_reducible refine (data_any (f i 0) (f i 1) (f i 2) (f i 3) (f i 4) (f i 5) (f i 6) (f i 7) (f i 8) (f i 9) _).mono ?_; rintro e w4 ⟨rfl, b4⟩; have HB4 := Lib.hid (HB3.out.trans (b4.mono HB3.out.size)); clear b4 g0 g1 g2 g3 g4 g5 g6 g7 g8 g9 c18') | (go_at_call 61; with_reducible refine (HP.out _).mono ?_; rintro e w5 ⟨rfl, b5⟩; have HB5 := Lib.hid (HB4.out.trans (b5.mono HB4.out.size)); clear b5))
        go_ret
        exact ⟨rfl, HB5.out⟩
    · have HH := Lib.hid (fun u => (hasdata_any (f i 0) (f i 1) (f i 2) (f i 3) (f i 4) (f i 5) (f i 6) (f i 7) (f i 8) (f i 9) u).mono fun e w' h => (⟨by rw [h.1, decide_eq_false hd], h.2⟩ : e = .returned (.bool false) ∧ Below u.heap.size u w'))
      have HE : Hid (⟨#[]⟩ = D) := Lib.hid (by rw [HD.out]; unfold dataS; rw [if_neg (fun h => hd h.2.1)])
      clear hd HD
      have g0 : (W).cell? ⟨b, i * 10, none⟩ = some (.int .u64 (f i 0 : Nat)) := rowU_at (j := 0) (HROW.out) hlt (by decide)
      have g1 : (W).cell? ⟨b, i * 10 + 1, none⟩ = some (.int .u64 (f i 1 : Nat)) := rowU_at (j := 1) (HROW.out) hlt (by decide)
      have g2 : (W).cell? ⟨b, i * 10 + 2, none⟩ = some (.int .u64 (f i 2 : Nat)) := rowU_at (j := 2) (HROW.out) hlt (by decide)
      have g3 : (W).cell? ⟨b, i * 10 + 3, none⟩ = some (.int .u64 (f i 3 : Nat)) := rowU_at (j := 3) (HROW.out) hlt (by decide)
      have g4 : (W).cell? ⟨b, i * 10 + 4, none⟩ = some (.int .u64 (f i 4 : Nat)) := rowU_at (j := 4) (HROW.out) hlt (by decide)
      have g5 : (W).cell? ⟨b, i * 10 + 5, none⟩ = some (.int .u64 (f i 5 : Nat)) := rowU_at (j := 5) (HROW.out) hlt (by decide)
      have g6 : (W).cell? ⟨b, i * 10 + 6, none⟩ = some (.int .u64 (f i 6 : Nat)) := rowU_at (j := 6) (HROW.out) hlt (by decide)
      have g7 : (W).cell? ⟨b, i * 10 + 7, none⟩ = some (.int .u64 (f i 7 : Nat)) := rowU_at (j := 7) (HROW.out) hlt (by decide)
      have g8 : (W).cell? ⟨b, i * 10 + 8, none⟩ = some (.int .u64 (f i 8 : Nat)) := rowU_at (j := 8) (HROW.out) hlt (by decide)
      have g9 : (W).cell? ⟨b, i * 10 + 9, none⟩ = some (.int .u64 (f i 9 : Nat)) := rowU_at (j := 9) (HROW.out) hlt (by decide)
      go_wp2_with (go_at_call 46; with_reducible refine (HH.out _).mono ?_; rintro e w3 ⟨rfl, b3⟩)
      go_ret
      exact ⟨by rw [← HE.out]; rfl, HB.out.trans (b3.mono HB.out.size)⟩
  · have HE : Hid (⟨#[]⟩ = D) := Lib.hid (by rw [HD.out]; unfold dataS; rw [if_neg (fun h => hlt h.1)])
    have k0 : (0 : Int) ≤ (i : Int) := by omega
    have k1 : ¬ (i : Int) < (ns : Int) := by omega
    clear HD HS
    go_wp2
    go_ret
    exact ⟨by rw [← HE.out]; rfl, HB.out⟩
end Go.Proofs.Ytedocnidgiglaaa
