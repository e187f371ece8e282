/- Contracts of raw's records where all are there. Conditions: those written in each theorem. -/
import Derived.Test.YtedocnidgiglaaaNI
import Derived.Test.YtedocnidgiglaaaJC
namespace Go.Proofs.Ytedocnidgiglaaa
open Go.RowKit
set_option linter.unusedVariables false
theorem info52 : (Try.prog.info? 52).map (fun i => (i.zero, i.size, i.bytes)) = some (some (.agg #[.int .u64 0, .int .u64 0, .int .u64 0, .int .u64 0, .int .u64 0, .int .u64 0, .int .u64 0, .int .u64 0, .int .u64 0, .int .u64 0]), 10, 80) := by kernel_rfl
theorem mk52 (n : Nat) (hn : n ≤ 100000) (w : World) : (Instr.makeSlice 39 (.int .u64 (n : Int)) (.int .u64 (n : Int))).run Try.prog w = .ok (.slice (some ⟨w.heap.size, 0, none⟩) n n) (w.alloc (.cells (rowU64 (List.replicate (n * 10) 0)) 52)) := by
  obtain ⟨i0, hi, hz0, hz1, hz2⟩ := info_parts info52
  have := run_make w 39 52 i0 (.agg #[.int .u64 0, .int .u64 0, .int .u64 0, .int .u64 0, .int .u64 0, .int .u64 0, .int .u64 0, .int .u64 0, .int .u64 0, .int .u64 0]) Try.underlying39 hi hz0 .u64 .u64 n n (by omega) (by omega) (by rw [hz2]; omega) (by omega)
  rw [this, hz1]
  simp only [Int.toNat_natCast]
  rw [madeCells_u64 _ (by
    intro i hi
    have hi' : i < 10 := hi
    match i, hi' with
    | 0, _ => rfl
    | 1, _ => rfl
    | 2, _ => rfl
    | 3, _ => rfl
    | 4, _ => rfl
    | 5, _ => rfl
    | 6, _ => rfl
    | 7, _ => rfl
    | 8, _ => rfl
    | 9, _ => rfl) (by show 0 < 10; omega)]
set_option maxRecDepth 100000 in
set_option maxHeartbeats 1000000 in
theorem srecs_core (big wide : Bool) (s P : ByteArray) (a n z A0 L0 : Nat) (f : Nat → Nat → Nat) (hn : n ≤ 100000) (hz : z ≤ 64) (hPs : n * z ≤ P.size) (hPm : P.size ≤ 1048576)
    (HSPAN : Hid (∀ u, Calls Try.prog 64 #[.agg #[.int .u64 (a : Nat), .int .u64 (n : Nat), .int .u64 (z : Nat)]] u fun e w' => e = .returned (.agg #[.int .u64 (A0 : Nat), .int .u64 (L0 : Nat)]) ∧ Below u.heap.size u w'))
    (HPART : Hid (∀ u, Calls Try.prog 61 #[.agg #[.int .u64 (A0 : Nat), .int .u64 (L0 : Nat)], .string s] u fun e w' => e = .returned (.tuple #[.string P, .bool true]) ∧ Below u.heap.size u w'))
    (HCS : Hid (∀ i, i < n → ∀ u, Calls Try.prog 93 #[.agg #[.bool big, .bool wide], .string (P.extract (i * z) P.size)] u fun e w' => e = .returned (.tuple #[.agg #[.int .u64 (f i 0 : Nat), .int .u64 (f i 1 : Nat), .int .u64 (f i 2 : Nat), .int .u64 (f i 3 : Nat), .int .u64 (f i 4 : Nat), .int .u64 (f i 5 : Nat), .int .u64 (f i 6 : Nat), .int .u64 (f i 7 : Nat), .int .u64 (f i 8 : Nat), .int .u64 (f i 9 : Nat)], .bool true]) ∧ Below u.heap.size u w'))
    (w : World) : Calls Try.prog 92 #[.agg #[.bool big, .bool wide], .string s, .agg #[.int .u64 (a : Nat), .int .u64 (n : Nat), .int .u64 (z : Nat)], .func (.func 93) #[] #[]] w fun e w' =>
      ∃ b, (w.heap.size ≤ b ∧ e = .returned (.tuple #[.slice (some ⟨b, 0, none⟩) n n, .bool true]) ∧ w'.heap[b]? = some (.cells (rowU64 (flatF 10 f n)) 52 (0, 0))) ∧ Below w.heap.size w w' := by
  have HPS := Lib.hid hPs; clear hPs
  go_enter Try.func92, Try.ntmps92
  go_wp2_with fail
  have F0 : ((w.alloc (.cells #[.bool big, .bool wide] 34)).alloc (.cells #[.int .u64 (a : Nat), .int .u64 (n : Nat), .int .u64 (z : Nat)] 148)).heap[w.heap.size]? = some (.cells #[.bool big, .bool wide] 34 (0, 0)) := heap_up _ (heap_alloc_new w _)
  have T0 : ((w.alloc (.cells #[.bool big, .bool wide] 34)).alloc (.cells #[.int .u64 (a : Nat), .int .u64 (n : Nat), .int .u64 (z : Nat)] 148)).heap[w.heap.size + 1]? = some (.cells #[.int .u64 (a : Nat), .int .u64 (n : Nat), .int .u64 (z : Nat)] 148 (0, 0)) := by
    have q := heap_alloc_new (w.alloc (.cells #[.bool big, .bool wide] 34)) (.cells #[.int .u64 (a : Nat), .int .u64 (n : Nat), .int .u64 (z : Nat)] 148)
    simpa using q
  have hup : Below w.heap.size w ((w.alloc (.cells #[.bool big, .bool wide] 34)).alloc (.cells #[.int .u64 (a : Nat), .int .u64 (n : Nat), .int .u64 (z : Nat)] 148)) := below_more (below_more (Below.refl _ _) _) _
  have HF0 := Lib.hid F0; have HT0 := Lib.hid T0; have HUP := Lib.hid hup
  clear F0 T0 hup
  refine (HSPAN.out _).mono ?_
  rintro e w2 ⟨rfl, h2⟩
  have HF2 := Lib.hid (heap_low HF0.out h2); have HT2 := Lib.hid (heap_low HT0.out h2); have HU2 := Lib.hid (HUP.out.trans (h2.mono HUP.out.size))
  clear h2 HF0 HT0 HUP
  go_wp2_with fail
  refine (HPART.out _).mono ?_
  rintro e w3 ⟨rfl, h3⟩
  have HF3 := Lib.hid (heap_low HF2.out h3); have HT3 := Lib.hid (heap_low HT2.out h3); have HU3 := Lib.hid (HU2.out.trans (h3.mono HU2.out.size))
  clear h3 HF2 HT2 HU2
  have c1 : w3.cell? ⟨w.heap.size + 1, 1, none⟩ = some (.int .u64 (n : Nat)) := by rw [Lib.cell_of_heap HT3.out]; rfl
  have hmk := mk52 n hn w3
  go_upto_block 0 with (fail)
  clear hmk c1
  have hr0 := heap_alloc_new w3 (.cells (rowU64 (List.replicate (n * 10) 0)) 52)
  rw [← fillF_zero 10 f n] at hr0 ⊢
  have hFF : w.heap.size < w3.heap.size := heap_lt HF3.out
  have hTT : w.heap.size + 1 < w3.heap.size := heap_lt HT3.out
  have HF4 := Lib.hid (heap_up (.cells (rowU64 (fillF 10 f n 0)) 52) HF3.out); have HT4 := Lib.hid (heap_up (.cells (rowU64 (fillF 10 f n 0)) 52) HT3.out)
  have HU4 := Lib.hid (below_more HU3.out (.cells (rowU64 (fillF 10 f n 0)) 52))
  have hb4 : w3.heap.size ≤ (w3.alloc (.cells (rowU64 (fillF 10 f n 0)) 52)).heap.size := by simp
  have hwb : w.heap.size ≤ w3.heap.size := HU3.out.size
  generalize (w3.alloc (.cells (rowU64 (fillF 10 f n 0)) 52)) = W1 at *
  generalize w3.heap.size = b at *
  have HRW := Lib.hid hr0
  clear hr0 HF3 HT3 HU3
  go_wp2
  go_loopw [28] (fun i wr => ∃ k : Nat, k ≤ n ∧ i = .int .i64 (k : Int) ∧ wr.heap[b]? = some (.cells (rowU64 (fillF 10 f n k)) 52 (0, 0)) ∧ Below b W1 wr) (fun i _ => n - (intOf i).toNat)
  case atStart => exact ⟨0, Nat.zero_le _, rfl, HRW.out, Below.refl _ _⟩
  case round =>
    obtain ⟨k, hk, rfl, hrow, hB⟩ := hrel
    have HROW := Lib.hid hrow; have HB := Lib.hid hB; clear hrow hB
    by_cases hlt : k < n
    · have k0 : (0 : Int) ≤ (k : Int) := by omega
      have k1 : (k : Int) < (n : Int) := by omega
      have k2 : k + 1 ≤ 1048576 := by omega
      have hkz : k * z + z ≤ n * z := by
        have : (k + 1) * z ≤ n * z := Nat.mul_le_mul_right _ hlt
        rw [Nat.succ_mul] at this; exact this
      have hkm : k * 10 + 10 ≤ n * 10 := by omega
      have hps := HPS.out
      obtain ⟨p, hp⟩ : ∃ p, p = k * z := ⟨_, rfl⟩
      have hcs := HCS.out k hlt
      rw [← hp] at hcs hkz
      have HC1 := Lib.hid hcs
      have iw : IntKind.u64.wrap (k : Int) = (k : Int) := by rw [IntKind.wrap_u64]; omega
      have pw : IntKind.u64.wrap ((k : Int) * (z : Int)) = (p : Int) := by rw [IntKind.wrap_u64, ← Int.natCast_mul, ← hp]; omega
      clear hcs hp
      go_upto_region 8 with (fail)
      refine sreg8 _ _ _ _ _ _ _ _ _ _ _ _ _ _ _ _ _ _ _ _ _ _ _ _ _ _ _ _ _ _ _ _ _ _ _ _ _ _ _ _ _ _ _ _ _ _ big wide w.heap.size (w.heap.size + 1) b n k z p (f k 0) (f k 1) (f k 2) (f k 3) (f k 4) (f k 5) (f k 6) (f k 7) (f k 8) (f k 9) (fillF 10 f n k) (fillF 10 f n (k + 1)) P wr HROW.out (Nat.le_trans hb4 HB.out.size) k0 k1 iw pw (by omega) (by omega) (by rw [fillF_len _ _ _ _ hk]; omega) (by have := fillF_step 10 f n k hlt; simpa [List.range_succ] using this)
        (Lib.hid (fun u hu => by rw [Lib.cell_of_heap (heap_low' HF4.out (HB.out.trans hu) hFF)]; rfl)) (Lib.hid (fun u hu => by rw [Lib.cell_of_heap (heap_low' HF4.out (HB.out.trans hu) hFF)]; rfl)) (Lib.hid (fun u hu => by rw [Lib.cell_of_heap (heap_low' HT4.out (HB.out.trans hu) hTT)]; rfl)) HC1 (fun _ _ _ _ _ h => h) (fun u31 u32 u33 u34 u35 u36 u37 u38 u39 u40 u41 u42 u43 u44 u45 u46 w7 hr7 h7 => ?_)
      have HROW7 := Lib.hid hr7; have HB7 := Lib.hid (HB.out.trans h7)
      clear hr7 h7 iw pw hps hkz hkm
      go_wp2
      exact ⟨⟨k + 1, by omega, by go_num, HROW7.out, HB7.out⟩, by simp [intOf]; omega⟩
    · obtain rfl : k = n := by omega
      go_wp2
      go_ret2
      exact ⟨b, ⟨hwb, rfl, by have := HROW.out; rw [fillF_all] at this; exact this⟩, HU4.out.trans (HB.out.mono hwb)⟩
theorem info72 : (Try.prog.info? 72).map (fun i => (i.zero, i.size, i.bytes)) = some (some (.agg #[.int .u64 0, .int .u64 0, .int .u64 0, .int .u64 0, .int .u64 0, .int .u64 0, .int .u64 0, .int .u64 0]), 8, 64) := by kernel_rfl
theorem mk72 (n : Nat) (hn : n ≤ 100000) (w : World) : (Instr.makeSlice 40 (.int .u64 (n : Int)) (.int .u64 (n : Int))).run Try.prog w = .ok (.slice (some ⟨w.heap.size, 0, none⟩) n n) (w.alloc (.cells (rowU64 (List.replicate (n * 8) 0)) 72)) := by
  obtain ⟨i0, hi, hz0, hz1, hz2⟩ := info_parts info72
  have := run_make w 40 72 i0 (.agg #[.int .u64 0, .int .u64 0, .int .u64 0, .int .u64 0, .int .u64 0, .int .u64 0, .int .u64 0, .int .u64 0]) Try.underlying40 hi hz0 .u64 .u64 n n (by omega) (by omega) (by rw [hz2]; omega) (by omega)
  rw [this, hz1]
  simp only [Int.toNat_natCast]
  rw [madeCells_u64 _ (by
    intro i hi
    have hi' : i < 8 := hi
    match i, hi' with
    | 0, _ => rfl
    | 1, _ => rfl
    | 2, _ => rfl
    | 3, _ => rfl
    | 4, _ => rfl
    | 5, _ => rfl
    | 6, _ => rfl
    | 7, _ => rfl) (by show 0 < 8; omega)]
set_option maxRecDepth 100000 in
set_option maxHeartbeats 1000000 in
theorem precs_core (big wide : Bool) (s P : ByteArray) (a n z A0 L0 : Nat) (f : Nat → Nat → Nat) (hn : n ≤ 100000) (hz : z ≤ 64) (hPs : n * z ≤ P.size) (hPm : P.size ≤ 1048576)
    (HSPAN : Hid (∀ u, Calls Try.prog 64 #[.agg #[.int .u64 (a : Nat), .int .u64 (n : Nat), .int .u64 (z : Nat)]] u fun e w' => e = .returned (.agg #[.int .u64 (A0 : Nat), .int .u64 (L0 : Nat)]) ∧ Below u.heap.size u w'))
    (HPART : Hid (∀ u, Calls Try.prog 61 #[.agg #[.int .u64 (A0 : Nat), .int .u64 (L0 : Nat)], .string s] u fun e w' => e = .returned (.tuple #[.string P, .bool true]) ∧ Below u.heap.size u w'))
    (HCS : Hid (∀ i, i < n → ∀ u, Calls Try.prog 95 #[.agg #[.bool big, .bool wide], .string (P.extract (i * z) P.size)] u fun e w' => e = .returned (.tuple #[.agg #[.int .u64 (f i 0 : Nat), .int .u64 (f i 1 : Nat), .int .u64 (f i 2 : Nat), .int .u64 (f i 3 : Nat), .int .u64 (f i 4 : Nat), .int .u64 (f i 5 : Nat), .int .u64 (f i 6 : Nat), .int .u64 (f i 7 : Nat)], .bool true]) ∧ Below u.heap.size u w'))
    (w : World) : Calls Try.prog 94 #[.agg #[.bool big, .bool wide], .string s, .agg #[.int .u64 (a : Nat), .int .u64 (n : Nat), .int .u64 (z : Nat)], .func (.func 95) #[] #[]] w fun e w' =>
      ∃ b, (w.heap.size ≤ b ∧ e = .returned (.tuple #[.slice (some ⟨b, 0, none⟩) n n, .bool true]) ∧ w'.heap[b]? = some (.cells (rowU64 (flatF 8 f n)) 72 (0, 0))) ∧ Below w.heap.size w w' := by
  have HPS := Lib.hid hPs; clear hPs
  go_enter Try.func94, Try.ntmps94
  go_wp2_with fail
  have F0 : ((w.alloc (.cells #[.bool big, .bool wide] 34)).alloc (.cells #[.int .u64 (a : Nat), .int .u64 (n : Nat), .int .u64 (z : Nat)] 148)).heap[w.heap.size]? = some (.cells #[.bool big, .bool wide] 34 (0, 0)) := heap_up _ (heap_alloc_new w _)
  have T0 : ((w.alloc (.cells #[.bool big, .bool wide] 34)).alloc (.cells #[.int .u64 (a : Nat), .int .u64 (n : Nat), .int .u64 (z : Nat)] 148)).heap[w.heap.size + 1]? = some (.cells #[.int .u64 (a : Nat), .int .u64 (n : Nat), .int .u64 (z : Nat)] 148 (0, 0)) := by
    have q := heap_alloc_new (w.alloc (.cells #[.bool big, .bool wide] 34)) (.cells #[.int .u64 (a : Nat), .int .u64 (n : Nat), .int .u64 (z : Nat)] 148)
    simpa using q
  have hup : Below w.heap.size w ((w.alloc (.cells #[.bool big, .bool wide] 34)).alloc (.cells #[.int .u64 (a : Nat), .int .u64 (n : Nat), .int .u64 (z : Nat)] 148)) := below_more (below_more (Below.refl _ _) _) _
  have HF0 := Lib.hid F0; have HT0 := Lib.hid T0; have HUP := Lib.hid hup
  clear F0 T0 hup
  refine (HSPAN.out _).mono ?_
  rintro e w2 ⟨rfl, h2⟩
  have HF2 := Lib.hid (heap_low HF0.out h2); have HT2 := Lib.hid (heap_low HT0.out h2); have HU2 := Lib.hid (HUP.out.trans (h2.mono HUP.out.size))
  clear h2 HF0 HT0 HUP
  go_wp2_with fail
  refine (HPART.out _).mono ?_
  rintro e w3 ⟨rfl, h3⟩
  have HF3 := Lib.hid (heap_low HF2.out h3); have HT3 := Lib.hid (heap_low HT2.out h3); have HU3 := Lib.hid (HU2.out.trans (h3.mono HU2.out.size))
  clear h3 HF2 HT2 HU2
  have c1 : w3.cell? ⟨w.heap.size + 1, 1, none⟩ = some (.int .u64 (n : Nat)) := by rw [Lib.cell_of_heap HT3.out]; rfl
  have hmk := mk72 n hn w3
  go_upto_block 0 with (fail)
  clear hmk c1
  have hr0 := heap_alloc_new w3 (.cells (rowU64 (List.replicate (n * 8) 0)) 72)
  rw [← fillF_zero 8 f n] at hr0 ⊢
  have hFF : w.heap.size < w3.heap.size := heap_lt HF3.out
  have hTT : w.heap.size + 1 < w3.heap.size := heap_lt HT3.out
  have HF4 := Lib.hid (heap_up (.cells (rowU64 (fillF 8 f n 0)) 72) HF3.out); have HT4 := Lib.hid (heap_up (.cells (rowU64 (fillF 8 f n 0)) 72) HT3.out)
  have HU4 := Lib.hid (below_more HU3.out (.cells (rowU64 (fillF 8 f n 0)) 72))
  have hb4 : w3.heap.size ≤ (w3.alloc (.cells (rowU64 (fillF 8 f n 0)) 72)).heap.size := by simp
  have hwb : w.heap.size ≤ w3.heap.size := HU3.out.size
  generalize (w3.alloc (.cells (rowU64 (fillF 8 f n 0)) 72)) = W1 at *
  generalize w3.heap.size = b at *
  have HRW := Lib.hid hr0
  clear hr0 HF3 HT3 HU3
  go_wp2
  go_loopw [28] (fun i wr => ∃ k : Nat, k ≤ n ∧ i = .int .i64 (k : Int) ∧ wr.heap[b]? = some (.cells (rowU64 (fillF 8 f n k)) 72 (0, 0)) ∧ Below b W1 wr) (fun i _ => n - (intOf i).toNat)
  case atStart => exact ⟨0, Nat.zero_le _, rfl, HRW.out, Below.refl _ _⟩
  case round =>
    obtain ⟨k, hk, rfl, hrow, hB⟩ := hrel
    have HROW := Lib.hid hrow; have HB := Lib.hid hB; clear hrow hB
    by_cases hlt : k < n
    · have k0 : (0 : Int) ≤ (k : Int) := by omega
      have k1 : (k : Int) < (n : Int) := by omega
      have k2 : k + 1 ≤ 1048576 := by omega
      have hkz : k * z + z ≤ n * z := by
        have : (k + 1) * z ≤ n * z := Nat.mul_le_mul_right _ hlt
        rw [Nat.succ_mul] at this; exact this
      have hkm : k * 8 + 8 ≤ n * 8 := by omega
      have hps := HPS.out
      obtain ⟨p, hp⟩ : ∃ p, p = k * z := ⟨_, rfl⟩
      have hcs := HCS.out k hlt
      rw [← hp] at hcs hkz
      have HC1 := Lib.hid hcs
      have iw : IntKind.u64.wrap (k : Int) = (k : Int) := by rw [IntKind.wrap_u64]; omega
      have pw : IntKind.u64.wrap ((k : Int) * (z : Int)) = (p : Int) := by rw [IntKind.wrap_u64, ← Int.natCast_mul, ← hp]; omega
      clear hcs hp
      go_upto_region 8 with (fail)
      refine preg8 _ _ _ _ _ _ _ _ _ _ _ _ _ _ _ _ _ _ _ _ _ _ _ _ _ _ _ _ _ _ _ _ _ _ _ _ _ _ _ _ _ _ _ _ _ _ big wide w.heap.size (w.heap.size + 1) b n k z p (f k 0) (f k 1) (f k 2) (f k 3) (f k 4) (f k 5) (f k 6) (f k 7) (fillF 8 f n k) (fillF 8 f n (k + 1)) P wr HROW.out (Nat.le_trans hb4 HB.out.size) k0 k1 iw pw (by omega) (by omega) (by rw [fillF_len _ _ _ _ hk]; omega) (by have := fillF_step 8 f n k hlt; simpa [List.range_succ] using this)
        (Lib.hid (fun u hu => by rw [Lib.cell_of_heap (heap_low' HF4.out (HB.out.trans hu) hFF)]; rfl)) (Lib.hid (fun u hu => by rw [Lib.cell_of_heap (heap_low' HF4.out (HB.out.trans hu) hFF)]; rfl)) (Lib.hid (fun u hu => by rw [Lib.cell_of_heap (heap_low' HT4.out (HB.out.trans hu) hTT)]; rfl)) HC1 (fun _ _ _ _ _ h => h) (fun u31 u32 u33 u34 u35 u36 u37 u38 u39 u40 u41 u42 u43 u44 u45 u46 w7 hr7 h7 => ?_)
      have HROW7 := Lib.hid hr7; have HB7 := Lib.hid (HB.out.trans h7)
      clear hr7 h7 iw pw hps hkz hkm
      go_wp2
      exact ⟨⟨k + 1, by omega, by go_num, HROW7.out, HB7.out⟩, by simp [intOf]; omega⟩
    · obtain rfl : k = n := by omega
      go_wp2
      go_ret2
      exact ⟨b, ⟨hwb, rfl, by have := HROW.out; rw [fillF_all] at this; exact this⟩, HU4.out.trans (HB.out.mono hwb)⟩
end Go.Proofs.Ytedocnidgiglaaa
