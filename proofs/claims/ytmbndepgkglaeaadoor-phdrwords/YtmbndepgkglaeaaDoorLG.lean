/- Contracts of a header's package, by gen_hdr.py. Conditions: those written in each theorem. -/
import Derived.Laws.CopyOwn
import Derived.Laws.Tables
import Derived.Lib.SlBytesConst
import Derived.Lib.BufferMore
import Derived.Test.YtmbndepgkglaeaaDoorLM
namespace Go.Proofs.YtmbndepgkglaeaaDoor
open Go.RowKit
set_option maxHeartbeats 2000000 in
set_option maxRecDepth 100000 in
theorem letters_any (n : Nat) (hn : n < 2 ^ 64) (w : World) (h : TabsP w) :
    Calls Tryd.prog 7 #[.int .u64 n] w fun e w' => e = .returned (.string ⟨(Let.text n).toArray⟩) ∧ Below w.heap.size w w' := by
  have HT := Lib.hid h; clear h
  have HN := Lib.hid hn; clear hn
  have hcb : (convert 26 26 (.slice (some ⟨w.heap.size, 0, none⟩) 3 3)).run Tryd.prog (w.alloc (.cells #[.int .u8 82, .int .u8 87, .int .u8 88] 5)) = .ok (.slice (some ⟨w.heap.size, 0, none⟩) 3 3) (w.alloc (.cells #[.int .u8 82, .int .u8 87, .int .u8 88] 5 (3, 4))) := Lib.run_convert_bytes_const w 26 5 _ 3 3 Tryd.underlying26 Tryd.underlying5
  go_enter Tryd.func7, Tryd.ntmps7
  go_wp2
  clear hcb
  go_loopw [0, 4, 5, 10] (fun m _ _ i wr => ∃ k : Nat, k ≤ 3 ∧ i = .int .i64 k ∧ m = .int .u64 (Let.rem n k : Nat) ∧ wr.heap[w.heap.size]? = some (.cells (rowU8 (rowP n k)) 5 (3, 4)) ∧ w.heap.size < wr.heap.size ∧ Below w.heap.size w wr) (fun _ _ _ i _ => 3 - (intOf i).toNat)
  case atStart =>
    refine ⟨0, Nat.zero_le _, rfl, rfl, ?_, by simp, (Below.refl _ _).alloc (Nat.le_refl _) _⟩
    exact heap_alloc_new _ _
  case round =>
    obtain ⟨k, hk, rfl, rfl, hrow, hsz, hg⟩ := hrel
    rcases (show k = 0 ∨ k = 1 ∨ k = 2 ∨ k = 3 by omega) with h0 | h1 | h2 | h3
    · obtain rfl : k = 0 := by omega
      cases hb : n.testBit 2
      · have hrl : Let.rem n 0 < 2 ^ 64 := Nat.lt_of_le_of_lt (Let.rem_le n 0) HN.out
        have hbit : (Let.rem n 0).testBit 2 = false := by rw [Let.rem_bit n 0 2 (by omega) (by omega), hb]; rfl
        have hand : (bits BinOp.and IntKind.u64 (Let.rem n 0 : Nat) 4 == 0) = true := and_bitP (Let.rem n 0) 2 hrl (by omega) false hbit
        have hnot : bits BinOp.andNot IntKind.u64 (Let.rem n 0 : Nat) 4 = (Let.rem n 1 : Nat) := andNotP (Let.rem n 0) 2 hrl (by omega)
        have hfr := freeM hrow 0 (by omega)
        have hcl := cellM hrow 0 (by show 0 < 3; omega)
        have R1 := setM hrow 0 45
        rw [rowP_no n 0 (by omega) hb] at R1
        have HR1 := Lib.hid R1; clear R1 hrow hb hbit
        have HRL := Lib.hid hrl; clear hrl
        generalize Let.rem n 0 = r at *
        skip
        go_wp2
        exact ⟨⟨1, by omega, rfl, rfl, HR1.out, by simp; omega, hg.setCell (by simp) _⟩, by simp [intOf]⟩
      · have hrl : Let.rem n 0 < 2 ^ 64 := Nat.lt_of_le_of_lt (Let.rem_le n 0) HN.out
        have hbit : (Let.rem n 0).testBit 2 = true := by rw [Let.rem_bit n 0 2 (by omega) (by omega), hb]; rfl
        have hand : (bits BinOp.and IntKind.u64 (Let.rem n 0 : Nat) 4 == 0) = false := and_bitP (Let.rem n 0) 2 hrl (by omega) true hbit
        have hnot : bits BinOp.andNot IntKind.u64 (Let.rem n 0 : Nat) 4 = (Let.rem n 1 : Nat) := andNotP (Let.rem n 0) 2 hrl (by omega)
        have hfr := freeM hrow 0 (by omega)
        have hcl := cellM hrow 0 (by show 0 < 3; omega)
        have R1 : wr.heap[w.heap.size]? = some (.cells (rowU8 (rowP n 1)) 5 (3, 4)) := by rw [← rowP_yes n 0 (by omega) hb]; exact hrow
        have HR1 := Lib.hid R1; clear R1 hrow hb hbit
        have HRL := Lib.hid hrl; clear hrl
        generalize Let.rem n 0 = r at *
        skip
        go_wp2
        exact ⟨⟨1, by omega, rfl, rfl, HR1.out, hsz, hg⟩, by simp [intOf]⟩
    · obtain rfl : k = 1 := by omega
      cases hb : n.testBit 1
      · have hrl : Let.rem n 1 < 2 ^ 64 := Nat.lt_of_le_of_lt (Let.rem_le n 1) HN.out
        have hbit : (Let.rem n 1).testBit 1 = false := by rw [Let.rem_bit n 1 1 (by omega) (by omega), hb]; rfl
        have hand : (bits BinOp.and IntKind.u64 (Let.rem n 1 : Nat) 2 == 0) = true := and_bitP (Let.rem n 1) 1 hrl (by omega) false hbit
        have hnot : bits BinOp.andNot IntKind.u64 (Let.rem n 1 : Nat) 2 = (Let.rem n 2 : Nat) := andNotP (Let.rem n 1) 1 hrl (by omega)
        have hfr := freeM hrow 1 (by omega)
        have hcl := cellM hrow 1 (by show 1 < 3; omega)
        have R1 := setM hrow 1 45
        rw [rowP_no n 1 (by omega) hb] at R1
        have HR1 := Lib.hid R1; clear R1 hrow hb hbit
        have HRL := Lib.hid hrl; clear hrl
        generalize Let.rem n 1 = r at *
        skip
        go_wp2
        exact ⟨⟨2, by omega, rfl, rfl, HR1.out, by simp; omega, hg.setCell (by simp) _⟩, by simp [intOf]⟩
      · have hrl : Let.rem n 1 < 2 ^ 64 := Nat.lt_of_le_of_lt (Let.rem_le n 1) HN.out
        have hbit : (Let.rem n 1).testBit 1 = true := by rw [Let.rem_bit n 1 1 (by omega) (by omega), hb]; rfl
        have hand : (bits BinOp.and IntKind.u64 (Let.rem n 1 : Nat) 2 == 0) = false := and_bitP (Let.rem n 1) 1 hrl (by omega) true hbit
        have hnot : bits BinOp.andNot IntKind.u64 (Let.rem n 1 : Nat) 2 = (Let.rem n 2 : Nat) := andNotP (Let.rem n 1) 1 hrl (by omega)
        have hfr := freeM hrow 1 (by omega)
        have hcl := cellM hrow 1 (by show 1 < 3; omega)
        have R1 : wr.heap[w.heap.size]? = some (.cells (rowU8 (rowP n 2)) 5 (3, 4)) := by rw [← rowP_yes n 1 (by omega) hb]; exact hrow
        have HR1 := Lib.hid R1; clear R1 hrow hb hbit
        have HRL := Lib.hid hrl; clear hrl
        generalize Let.rem n 1 = r at *
        skip
        go_wp2
        exact ⟨⟨2, by omega, rfl, rfl, HR1.out, hsz, hg⟩, by simp [intOf]⟩
    · obtain rfl : k = 2 := by omega
      cases hb : n.testBit 0
      · have hrl : Let.rem n 2 < 2 ^ 64 := Nat.lt_of_le_of_lt (Let.rem_le n 2) HN.out
        have hbit : (Let.rem n 2).testBit 0 = false := by rw [Let.rem_bit n 2 0 (by omega) (by omega), hb]; rfl
        have hand : (bits BinOp.and IntKind.u64 (Let.rem n 2 : Nat) 1 == 0) = true := and_bitP (Let.rem n 2) 0 hrl (by omega) false hbit
        have hnot : bits BinOp.andNot IntKind.u64 (Let.rem n 2 : Nat) 1 = (Let.rem n 3 : Nat) := andNotP (Let.rem n 2) 0 hrl (by omega)
        have hfr := freeM hrow 2 (by omega)
        have hcl := cellM hrow 2 (by show 2 < 3; omega)
        have R1 := setM hrow 2 45
        rw [rowP_no n 2 (by omega) hb] at R1
        have HR1 := Lib.hid R1; clear R1 hrow hb hbit
        have HRL := Lib.hid hrl; clear hrl
        generalize Let.rem n 2 = r at *
        skip
        go_wp2
        exact ⟨⟨3, by omega, rfl, rfl, HR1.out, by simp; omega, hg.setCell (by simp) _⟩, by simp [intOf]⟩
      · have hrl : Let.rem n 2 < 2 ^ 64 := Nat.lt_of_le_of_lt (Let.rem_le n 2) HN.out
        have hbit : (Let.rem n 2).testBit 0 = true := by rw [Let.rem_bit n 2 0 (by omega) (by omega), hb]; rfl
        have hand : (bits BinOp.and IntKind.u64 (Let.rem n 2 : Nat) 1 == 0) = false := and_bitP (Let.rem n 2) 0 hrl (by omega) true hbit
        have hnot : bits BinOp.andNot IntKind.u64 (Let.rem n 2 : Nat) 1 = (Let.rem n 3 : Nat) := andNotP (Let.rem n 2) 0 hrl (by omega)
        have hfr := freeM hrow 2 (by omega)
        have hcl := cellM hrow 2 (by show 2 < 3; omega)
        have R1 : wr.heap[w.heap.size]? = some (.cells (rowU8 (rowP n 3)) 5 (3, 4)) := by rw [← rowP_yes n 2 (by omega) hb]; exact hrow
        have HR1 := Lib.hid R1; clear R1 hrow hb hbit
        have HRL := Lib.hid hrl; clear hrl
        generalize Let.rem n 2 = r at *
        skip
        go_wp2
        exact ⟨⟨3, by omega, rfl, rfl, HR1.out, hsz, hg⟩, by simp [intOf]⟩
    · obtain rfl : k = 3 := by omega
      have hrl : Let.rem n 3 < 2 ^ 64 := Nat.lt_of_le_of_lt (Let.rem_le n 3) HN.out
      have hrr : (restL (Let.rem n 3)).length ≤ 20 := by
        unfold restL
        have := (Hex.hexL_len (Let.rem n 3)).2
        split <;> simp <;> omega
      have hap : (ByteArray.mk (rowP n 3).toArray) ++ (ByteArray.mk (restL (Let.rem n 3)).toArray) = ⟨(Let.text n).toArray⟩ := by apply ByteArray.ext; simp [Let.text, rowP]
      have hz1 : (ByteArray.mk (rowP n 3).toArray).size = 3 := rfl
      have hz2 : (ByteArray.mk (restL (Let.rem n 3)).toArray).size = (restL (Let.rem n 3)).length := by simp [ByteArray.size]
      have hadd : ∀ W, (Op.stringOp .add (ByteArray.mk (rowP n 3).toArray) (ByteArray.mk (restL (Let.rem n 3)).toArray)).run Tryd.prog W = .ok (.string ⟨(Let.text n).toArray⟩) W := fun W => by
        rw [← hap]; exact run_string_add_sum W _ _ (by omega)
      have HADD := Lib.hid hadd; clear hadd hap hz1 hz2 hrr
      have HRL := Lib.hid hrl; clear hrl
      have hT := HT.out.kept hg
      have HTW := Lib.hid hT; clear hT
      have HCV : Hid (∀ w', Below wr.heap.size wr w' → (convert 26 9 (.slice (some ⟨w.heap.size, 0, none⟩) 3 3)).run Tryd.prog w' = .ok (.string ⟨(rowP n 3).toArray⟩) w') := Lib.hid (fun w' h => convP w' _ _ 5 3 rfl (rowKeptP hrow h))
      clear hrow
      go_wp2_with fail
      refine wp_region_held_drew (S := fun w' => Below wr.heap.size wr w') (by kernel_rfl) ?_ (fun hHeld => ?_)
      · exact (Below.refl _ _).drew
      refine wpAnyH_take (i := 0) (oi := { dst := some 30, op := Go.Op.move (Go.Operand.tmp 3), type := 26, pos := "words.go:31", after := #[], guard := none }) (v := ?_) rfl (by kernel_rfl) (by kernel_rfl) (by kernel_rfl) (fun _ _ _ h => h) (Or.inl ⟨by rfl, ?_⟩) (by assumption) ?_
      rotate_left
      · (intro w hSw; (try dsimp only at hSw); go_simp <;> with_reducible rfl)
      try simp only [Act.put, List.setIfInBounds_toArray, List.set_cons_zero, List.set_cons_succ]
      refine wpAnyH_take (i := 1) (oi := { dst := some 31, op := Go.Op.convert 26 9 (Go.Operand.tmp 30), type := 9, pos := "words.go:31", after := #[{ on := 0, ground := Go.Ground.data }], guard := none }) (v := ?_) rfl (by kernel_rfl) (by kernel_rfl) (by kernel_rfl) (fun _ _ _ h => h) (Or.inl ⟨by rfl, ?_⟩) (by assumption) ?_
      rotate_left
      · (intro w hSw; have q0 := HCV.out w hSw; (try dsimp only at hSw); go_simp <;> with_reducible rfl)
      try simp only [Act.put, List.setIfInBounds_toArray, List.set_cons_zero, List.set_cons_succ]
      refine wpAnyH_take (i := 2) (oi := { dst := some 32, op := Go.Op.move (Go.Operand.tmp 0), type := 22, pos := "words.go:31", after := #[], guard := none }) (v := ?_) rfl (by kernel_rfl) (by kernel_rfl) (by kernel_rfl) (fun _ _ _ h => h) (Or.inl ⟨by rfl, ?_⟩) (by assumption) ?_
      rotate_left
      · (intro w hSw; (try dsimp only at hSw); go_simp <;> with_reducible rfl)
      try simp only [Act.put, List.setIfInBounds_toArray, List.set_cons_zero, List.set_cons_succ]
      refine wpAnyH_ready (rs := [3]) (by kernel_rfl) (by simp) ?_
      refine AllReadyH.cons (o := { dst := some 33, op := Go.Op.call { callee := Go.Callee.value (Go.Operand.func 17), args := #[Go.Operand.tmp 32], argTypes := #[22] }, type := 9, pos := "words.go:31", after := #[{ on := 2, ground := Go.Ground.data }], guard := none }) rfl (fun K hK => ?_) AllReadyH.nil
      (first | go_at_call 17 | (go_simp; go_at_call 17))
      (with_reducible refine (rest_any _ HRL.out _ (HTW.out.kept hHeld).db (HTW.out.kept hHeld).size).mono ?_)
      rintro e w2 ⟨rfl, h2⟩
      try go_wp2_with fail
      refine hK.out _ _ ?_ (fun hHeld2 => ?_)
      · exact hHeld.trans (h2.mono hHeld.size)
      clear hK K
      try simp only [Act.put, List.setIfInBounds_toArray, List.set_cons_zero, List.set_cons_succ]
      generalize (ByteArray.mk (rowP n 3).toArray) = X at *
      generalize (ByteArray.mk (restL (Let.rem n 3)).toArray) = Y at *
      refine wpAnyH_take (i := 4) (oi := { dst := some 34, op := Go.Op.binOp Go.BinOp.add 9 (Go.Operand.tmp 31) (Go.Operand.tmp 33) 9, type := 9, pos := "words.go:31", after := #[{ on := 1, ground := Go.Ground.data }, { on := 3, ground := Go.Ground.data }], guard := none }) (v := ?_) rfl (by kernel_rfl) (by kernel_rfl) (by kernel_rfl) (fun _ _ _ h => h) (Or.inl ⟨by rfl, ?_⟩) (by assumption) ?_
      rotate_left
      · (intro w hSw; have q0 := (fun W (_ : Below wr.heap.size wr W) => HADD.out W) w hSw; (try dsimp only at hSw); go_simp <;> with_reducible rfl)
      try simp only [Act.put, List.setIfInBounds_toArray, List.set_cons_zero, List.set_cons_succ]
      refine wpAnyH_take (i := 5) (oi := { dst := some 2, op := Go.Op.assign (Go.Operand.tmp 34), type := 9, pos := "words.go:31", after := #[{ on := 4, ground := Go.Ground.data }, { on := 3, ground := Go.Ground.chain }, { on := 0, ground := Go.Ground.phase }, { on := 1, ground := Go.Ground.phase }, { on := 2, ground := Go.Ground.phase }, { on := 3, ground := Go.Ground.phase }, { on := 4, ground := Go.Ground.phase }], guard := none }) (v := ?_) rfl (by kernel_rfl) (by kernel_rfl) (by kernel_rfl) (fun _ _ _ h => h) (Or.inl ⟨by rfl, ?_⟩) (by assumption) ?_
      rotate_left
      · (intro w hSw; (try dsimp only at hSw); go_simp <;> with_reducible rfl)
      try simp only [Act.put, List.setIfInBounds_toArray, List.set_cons_zero, List.set_cons_succ]
      refine wpAnyH_done (by kernel_rfl) ?_ _
      go_wp2
      go_ret
      exact ⟨rfl, hg.trans (hHeld2.mono hg.size)⟩
end Go.Proofs.YtmbndepgkglaeaaDoor
