/- The contract of record.Read where bytes are missing. Conditions: those written in each theorem. -/
import Derived.Test.YtnmklmaclmjfbaaRA
namespace Go.Proofs.Ytnmklmaclmjfbaa
open Go.RowKit
set_option maxRecDepth 100000 in
set_option maxHeartbeats 1000000 in
theorem recRead_no (big wide : Bool) (a : Option Addr) (l c : Nat) (zs : List Int) (s : ByteArray) (w : World) (hl : l ≤ 20) (hs : s.size ≤ 1048576) (r : RowI w a l zs) (hz : sizesOk wide zs l)
    (hsz : s.size < offN (fullL wide zs l) l) :
    Calls Try.prog 85 #[.agg #[.bool big, .bool wide], .string s, .slice a l c] w fun e w' => e = .returned (.tuple #[.slice none 0 0, .bool false]) ∧ Below w.heap.size w w' := by
  have R := Lib.hid r; clear r
  have HZ := Lib.hid hz; clear hz
  go_enter Try.func85, Try.ntmps85
  go_wp2_with fail
  refine (sizes_any big wide a l c zs _ hl (R.out.kept ((Below.refl _ _).alloc (Nat.le_refl _) _) (Nat.le_refl _))).mono ?_
  rintro e w1 ⟨b, hb1, hb2, rfl, hrow, hg0⟩
  have hg : Below w.heap.size w w1 := ((Below.refl _ _).alloc (Nat.le_refl _) _).trans (hg0.mono (by simp))
  have hbox0 : w1.cell? ⟨w.heap.size, 0, none⟩ = some (.bool big) := by rw [hg0.cell (by simp)]; simp
  have hbw : w.heap.size < w1.heap.size := by have := hg0.size; simp at this; omega
  clear hg0
  simp only [World.size_alloc] at hb1
  have HR := Lib.hid hrow; clear hrow
  generalize sumZ wide zs l = S
  have hmk := make_u64 l (by omega)
  go_wp2_with fail
  refine (read_any big s 0 _).mono ?_
  rintro e w2 ⟨rfl, hI, hB, hsz2⟩
  clear hmk
  simp only [World.size_alloc] at hI hsz2 ⊢
  have hrow2 : w2.heap[w1.heap.size]? = some (.cells (rowU64 (List.replicate l 0)) 29 (0, 0)) := by
    rw [hB.block _ (by simp), heap_alloc_new]
  have hfull2 : w2.heap[b]? = some (.cells (rowI64 (fullL wide zs l)) 3 (0, 0)) := by
    rw [hB.block _ (by simp; omega), Below.heap_alloc _ _ _ hb2]; exact HR.out
  have hg2 : Below w.heap.size w w2 := (hg.alloc hg.size _).trans (hB.mono (by simp; omega))
  have HI := Lib.hid hI; clear hI
  have HROW := Lib.hid hrow2; clear hrow2
  have HFULL := Lib.hid hfull2; clear hfull2
  have HSZ2 := Lib.hid hsz2; clear hsz2
  clear hB hbox0 HR hg
  go_wp2
  go_loopw [12, 13, 29] (fun _ _ i wr => ∃ (k n : Nat) (err : Int) (L : List Nat), k ≤ l ∧ i = .int .i64 k ∧ IsRd wr (w1.heap.size + 1 + 1) big s n err ∧ ((err = 0 ∧ n = offN (fullL wide zs l) k ∧ n ≤ s.size) ∨ err = 3) ∧ L.length = l ∧ wr.heap[w1.heap.size]? = some (.cells (rowU64 L) 29 (0, 0)) ∧ wr.heap[b]? = some (.cells (rowI64 (fullL wide zs l)) 3 (0, 0)) ∧ w1.heap.size + 1 + 1 < wr.heap.size ∧ Below w.heap.size w wr) (fun _ _ i _ => l - (intOf i).toNat)
  case atStart => exact ⟨0, 0, 0, List.replicate l 0, Nat.zero_le _, rfl, HI.out, Or.inl ⟨rfl, rfl, Nat.zero_le _⟩, by simp, HROW.out, HFULL.out, by rw [HSZ2.out]; omega, hg2⟩
  case round =>
    obtain ⟨k, n, err, L, hk, rfl, hI, hst, hL, hrow, hfull, hszr, hg⟩ := hrel
    clear hg2
    by_cases hlt : k < l
    · have hcf : wr.cell? ⟨b, k, none⟩ = some (.int .i64 (fullZ wide (zs.getD k 0))) := by
        rw [cell_of_rowI hfull k (by rw [fullL_length]; exact hlt)]
        have := fullL_getD wide zs l k hlt
        rw [List.getD_eq_getElem?_getD, List.getElem?_eq_getElem (by rw [fullL_length]; exact hlt)] at this
        rw [← this]; rfl
      obtain ⟨hz1, hz8⟩ := HZ.out k hlt
      have hoff : offN (fullL wide zs l) (k + 1) = offN (fullL wide zs l) k + (fullZ wide (zs.getD k 0)).toNat := by
        show offN (fullL wide zs l) k + ((fullL wide zs l).getD k 0).toNat = _
        rw [fullL_getD wide zs l k hlt]
      generalize fullZ wide (zs.getD k 0) = f at *
      obtain ⟨m, rfl⟩ := Int.eq_ofNat_of_zero_le (show 0 ≤ f by omega)
      rw [Int.toNat_natCast] at hoff
      have HF := Lib.hid hfull; clear hfull
      have HR := Lib.hid hrow; clear hrow
      have HI' := Lib.hid hI; clear hI
      have HOFF := Lib.hid hoff; clear hoff
      have HLL := Lib.hid hL; clear hL
      have hi0 : (0 : Int) ≤ (k : Int) := by omega
      have hi1 : (k : Int) < (l : Int) := by omega
      have hcase : (may s n m err) ∨ ¬ may s n m err := Classical.em _
      have hnx : Calls Try.prog 99 #[.pointer (some ⟨w1.heap.size + 1 + 1, 0, none⟩), .int .i64 (m : Int)] wr fun e w' => ∃ (nn n' : Nat) (err' : Int), e = .returned (.int .u64 (nn : Int)) ∧ IsRd w' (w1.heap.size + 1 + 1) big s n' err' ∧ ((err' = 0 ∧ n' = offN (fullL wide zs l) (k + 1) ∧ n' ≤ s.size) ∨ err' = 3) ∧ OnlyAt (w1.heap.size + 1 + 1) wr w' := by
        rcases hcase with ⟨rfl, h1, h2⟩ | hno
        · rcases hst with ⟨_, rfl, _⟩ | h
          · exact (next_yes _ big s _ m _ HI'.out hs (by omega) (by omega) h1 h2).mono fun e w' ⟨he, hI, hO⟩ => ⟨_, _, _, he, hI, Or.inl ⟨rfl, HOFF.out.symm, by omega⟩, hO⟩
          · omega
        · exact (next_short _ big s n m err _ HI'.out (by omega) hs (by omega) (by omega) hno).mono fun e w' ⟨he, hI, hO⟩ => ⟨0, _, _, by rw [he]; rfl, hI, Or.inr rfl, hO⟩
      have HNX := Lib.hid hnx; clear hnx hcase hst
      go_wp2_with fail
      refine HNX.out.mono ?_
      rintro e w3 ⟨nn, n', err', rfl, hI3, hst3, hO⟩
      have hbw3 := hO.size
      have hrow3 : w3.heap[w1.heap.size]? = some (.cells (rowU64 L) 29 (0, 0)) := by rw [hO.block _ (by omega) (by omega)]; exact HR.out
      have hfull3 : w3.heap[b]? = some (.cells (rowI64 (fullL wide zs l)) 3 (0, 0)) := by rw [hO.block _ (by omega) (by omega)]; exact HF.out
      have hg3 : Below w.heap.size w w3 := hg.trans (hO.below hg.size (by omega))
      have hfr3 := free_of_rowU hrow3 k
      have hcl3 := cell_of_rowU hrow3 k (by rw [HLL.out]; exact hlt)
      generalize (L[k]'(by rw [HLL.out]; exact hlt)) = y at hcl3
      have R3 := rowU_set hrow3 k nn
      have HR3 := Lib.hid R3; clear R3 hrow3
      have HF3 := Lib.hid hfull3; clear hfull3
      have HI3 := Lib.hid hI3; clear hI3
      have HS3 := Lib.hid hst3; clear hst3
      clear hcf hO HNX
      go_wp2
      go_roundw
      case rel => exact ⟨k + 1, n', err', L.set k nn, by omega, by go_num, IsRd.other HI3.out (by omega), HS3.out, by rw [List.length_set]; exact HLL.out, HR3.out, by rw [heap_setCell_other _ _ _ _ (by show b ≠ w1.heap.size; omega)]; exact HF3.out, by simp; omega, hg3.setCell (by show w.heap.size ≤ w1.heap.size; omega) _⟩
      case measure => simp [intOf]; omega
    · obtain rfl : k = l := by omega
      have he3 : err = 3 := by rcases hst with ⟨_, rfl, h⟩ | h <;> omega
      subst he3
      have HI' := Lib.hid hI; clear hI
      clear hfull hrow hst hL
      go_wp2_with fail
      refine (err_any _ big s _ 3 _ HI'.out).mono ?_
      rintro e w3 ⟨rfl, rfl⟩
      go_wp2
      go_ret2
      exact ⟨rfl, hg⟩
end Go.Proofs.Ytnmklmaclmjfbaa
