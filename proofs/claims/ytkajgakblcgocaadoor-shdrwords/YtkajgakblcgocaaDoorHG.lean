/- The contract of shdr.FlagLetters. Conditions: those written in each theorem. -/
import Derived.Test.YtkajgakblcgocaaDoorHZ
namespace Go.Proofs.YtkajgakblcgocaaDoor
open Go.Shelf Go.RowKit
theorem pow12 (k : Nat) (h : k < 12) : 2 ^ k ≤ 2048 := by
  have : 2 ^ k ≤ 2 ^ 11 := Nat.pow_le_pow_right (by decide) (by omega)
  simpa using this
theorem shl_eq (k : Nat) (h : k < 12) : IntKind.u64.wrap ((2 : Int) ^ k) = ((2 ^ k : Nat) : Int) := by
  have := pow12 k h
  rw [show ((2 : Int) ^ k) = ((2 ^ k : Nat) : Int) by simp, IntKind.wrap_u64]
  generalize 2 ^ k = f at *
  omega
theorem and_zero (r k : Nat) (h : r.testBit k = false) : r &&& 2 ^ k = 0 := by
  apply Nat.eq_of_testBit_eq
  intro i
  rw [Nat.testBit_and, Nat.testBit_two_pow, Nat.zero_testBit]
  by_cases he : k = i
  · subst he; simp [h]
  · simp [he]
theorem and_pos (r k : Nat) (h : r.testBit k = true) : r &&& 2 ^ k ≠ 0 := fun h0 => by
  have := congrArg (fun x => Nat.testBit x k) h0
  simp [Nat.testBit_and, h] at this
theorem and_bit (r k : Nat) (hr : r < 2 ^ 64) (hk : k < 12) (c : Bool) (hc : r.testBit k = c) : (bits BinOp.and IntKind.u64 (r : Int) ((2 ^ k : Nat) : Int) != 0) = c := by
  have hp := pow12 k hk
  rw [u64_and_nat r (2 ^ k) (by omega) (by omega)]
  cases c
  · rw [and_zero r k hc]; rfl
  · have := and_pos r k hc
    simp; omega
theorem andNot_eq (r k : Nat) (hr : r < 2 ^ 64) (hk : k < 12) : bits BinOp.andNot IntKind.u64 (r : Int) ((2 ^ k : Nat) : Int) = ((r &&& (2 ^ 64 - (2 ^ k + 1)) : Nat) : Int) := by
  have hp := pow12 k hk
  rw [u64_andNot_nat r (2 ^ k) (by omega) (by omega)]
  congr 2
  omega
theorem let_at (k : Nat) (h : k < (ByteArray.mk #[87, 65, 88, 32, 77, 83, 73, 76, 79, 71, 84, 67]).size) : (ByteArray.mk #[87, 65, 88, 32, 77, 83, 73, 76, 79, 71, 84, 67])[k] = Flag.ch k := by
  have : ∀ d : Fin 12, (ByteArray.mk #[87, 65, 88, 32, 77, 83, 73, 76, 79, 71, 84, 67])[d.1] = Flag.ch d.1 := by decide
  exact this ⟨k, h⟩
theorem let_space (k : Nat) (h : k < 12) : (((Flag.ch k).toNat : Int) != 32) = (k != 3) := by
  have : ∀ d : Fin 12, (((Flag.ch d.1).toNat : Int) != 32) = (d.1 != 3) := by decide
  exact this ⟨k, h⟩
set_option maxHeartbeats 2000000 in
set_option maxRecDepth 100000 in
theorem flags_any (n : Nat) (hn : n < 2 ^ 64) (w : World) (h : TabsS w) :
    Calls Tryd.prog 10 #[.int .u64 n] w fun e w' => e = .returned (.string ⟨(Flag.text n).toArray⟩) ∧ Below w.heap.size w w' := by
  have HT := Lib.hid h; clear h
  have HN := Lib.hid hn; clear hn
  go_enter Tryd.func10, Tryd.ntmps10
  go_wp2
  go_loopw [0, 4, 5, 6] (fun m _ _ i wr => ∃ k : Nat, k ≤ 12 ∧ i = .int .i64 k ∧ m = .int .u64 (Flag.rem n k : Nat) ∧ Lib.IsBuilder 53 5 w.heap.size w.heap.size (Lib.byteCells (Flag.letL n k)) wr ∧ w.heap.size < wr.heap.size ∧ Below w.heap.size w wr) (fun _ _ _ i _ => 12 - (intOf i).toNat)
  case atStart =>
    refine ⟨0, Nat.zero_le _, rfl, rfl, .inl ⟨Nat.le_refl _, .slice none 0 0, ?_, World.ownsRow_nil _ _ _ _, by simp [Value.ownBlock]⟩, by simp, (Below.refl _ _).alloc (Nat.le_refl _) _⟩
    exact heap_alloc_new _ _
  case round =>
    obtain ⟨k, hk, rfl, rfl, hB, hsz, hg⟩ := hrel
    have HB := Lib.hid hB; clear hB
    by_cases hlt : k < 12
    · have hrl : Flag.rem n k < 2 ^ 64 := Nat.lt_of_le_of_lt (Flag.rem_le n k) HN.out
      have hbit : (Flag.rem n k).testBit k = n.testBit k := by rw [Flag.rem_bit n k k hk (by omega)]; simp
      have hshl := shl_eq k hlt
      have hstep : Flag.rem n (k + 1) = if Flag.cond n k then Flag.rem n k &&& (2 ^ 64 - (2 ^ k + 1)) else Flag.rem n k := rfl
      have hls := Flag.letL_succ n k
      have hll := Flag.letL_len n k
      have hlet := let_at k (show k < 12 from hlt)
      have hsp := let_space k hlt
      have hnot := andNot_eq (Flag.rem n k) k hrl hlt
      have hand := and_bit (Flag.rem n k) k hrl hlt (n.testBit k) hbit
      generalize Flag.rem n k = r at *
      generalize 2 ^ k = f at *
      by_cases hc : Flag.cond n k = true
      · have hc2 : n.testBit k = true ∧ (k != 3) = true := by unfold Flag.cond at hc; simpa using hc
        rw [hc2.1] at hand
        rw [hc2.2] at hsp
        rw [if_pos hc] at hstep hls
        rw [← hstep] at hnot
        have HS := Lib.hid hstep; clear hstep
        have HLS := Lib.hid hls; clear hls hbit hc hc2
        have HRL := Lib.hid hrl; clear hrl
        generalize Flag.ch k = c at *
        go_wp2_with fail
        refine (writeByte_any w.heap.size w.heap.size _ (c.toNat : Int) _ HB.out (by rw [Lib.byteCells_length]; omega) (by omega)).mono ?_
        rintro e w1 ⟨rfl, hB1, hb1⟩
        have hB2 : Lib.IsBuilder 53 5 w.heap.size w.heap.size (Lib.byteCells (Flag.letL n (k + 1))) w1 := by
          rw [HLS.out, Lib.byteCells_append]; exact .inr hB1
        have HB2 := Lib.hid hB2; clear hB2 hB1
        have hg1 : Below w.heap.size w w1 := hg.trans hb1
        have hs1 : w.heap.size < w1.heap.size := Nat.lt_of_lt_of_le hsz hb1.size
        go_wp2
        refine ⟨⟨k + 1, by omega, by go_num, rfl, HB2.out, hs1, hg1⟩, by simp [intOf]; omega⟩
      · have hcf : Flag.cond n k = false := by simpa using hc
        rw [if_neg hc] at hstep hls
        rw [List.append_nil] at hls
        rw [← hls] at HB
        have HS := Lib.hid hstep; clear hstep
        have HRL := Lib.hid hrl; clear hrl hls hnot
        by_cases hb : n.testBit k = true
        · have h3 : (k != 3) = false := by unfold Flag.cond at hcf; rw [hb] at hcf; simpa using hcf
          rw [hb] at hand
          rw [h3] at hsp
          clear hbit hc hcf hb h3
          generalize Flag.ch k = c at *
          go_wp2
          refine ⟨⟨k + 1, by omega, by go_num, int_eq (by rw [HS.out]), HB.out, hsz, hg⟩, by simp [intOf]; omega⟩
        · have hb' : n.testBit k = false := by simpa using hb
          rw [hb'] at hand
          clear hbit hc hcf hb hb' hsp
          generalize Flag.ch k = c at *
          go_wp2
          refine ⟨⟨k + 1, by omega, by go_num, int_eq (by rw [HS.out]), HB.out, hsz, hg⟩, by simp [intOf]; omega⟩
    · obtain rfl : k = 12 := by omega
      have hrl : Flag.rem n 12 < 2 ^ 64 := Nat.lt_of_le_of_lt (Flag.rem_le n 12) HN.out
      have hll := Flag.letL_len n 12
      have hrr : (restL (Flag.rem n 12)).length ≤ 20 := by
        unfold restL
        have := (Hex.hexL_len (Flag.rem n 12)).2
        split <;> simp <;> omega
      have hap : (ByteArray.mk (Flag.letL n 12).toArray) ++ (ByteArray.mk (restL (Flag.rem n 12)).toArray) = ⟨(Flag.text n).toArray⟩ := by apply ByteArray.ext; simp [Flag.text]
      have hz1 : (ByteArray.mk (Flag.letL n 12).toArray).size = (Flag.letL n 12).length := by simp [ByteArray.size]
      have hz2 : (ByteArray.mk (restL (Flag.rem n 12)).toArray).size = (restL (Flag.rem n 12)).length := by simp [ByteArray.size]
      have hadd : ∀ W, (Op.stringOp .add (ByteArray.mk (Flag.letL n 12).toArray) (ByteArray.mk (restL (Flag.rem n 12)).toArray)).run Tryd.prog W = .ok (.string ⟨(Flag.text n).toArray⟩) W := fun W => by
        rw [← hap]; exact run_string_add_sum W _ _ (by omega)
      have HADD := Lib.hid hadd; clear hadd hap hz1 hz2 hll hrr
      have HRL := Lib.hid hrl; clear hrl
      have hT := HT.out.kept hg
      go_wp2_with fail
      refine (Tryd.Builder_String_any w.heap.size w.heap.size _ _ HB.out (by omega)).mono ?_
      rintro e w1 ⟨rfl, hb1⟩
      have hg1 : Below w.heap.size w w1 := hg.trans hb1
      have hT1 := HT.out.kept hg1
      have HT1 := Lib.hid hT1; clear hT1 hT
      go_wp2_with fail
      refine (rest_any _ HRL.out _ HT1.out.db HT1.out.size).mono ?_
      rintro e w2 ⟨rfl, hb2⟩
      have hadd := HADD.out w2
      generalize (ByteArray.mk (Flag.letL n 12).toArray) = X at *
      generalize (ByteArray.mk (restL (Flag.rem n 12)).toArray) = Y at *
      go_wp2
      go_ret
      exact ⟨rfl, hg1.trans (hb2.mono hg1.size)⟩
end Go.Proofs.YtkajgakblcgocaaDoor
