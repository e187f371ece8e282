/- The contract of class's Sizes. Conditions: those written in each theorem. -/
import Derived.Test.YtnmklmaclmjfbaaDoorG
namespace Go.Proofs.YtnmklmaclmjfbaaDoor
open Go.RowKit
/-- What Sizes answers: a new row of the full sizes, and their sum. -/
def SizesOut (wide : Bool) (l : Nat) (zs : List Int) (w : World) (e : Ending) (w' : World) : Prop :=
  ∃ b, w.heap.size ≤ b ∧ b < w'.heap.size ∧ e = .returned (.tuple #[.slice (some ⟨b, 0, none⟩) l l, .int .i64 (sumZ wide zs l)]) ∧ w'.heap[b]? = some (.cells (rowI64 (fullL wide zs l)) 3 (0, 0)) ∧ Below w.heap.size w w'
theorem cell_set_other {w : World} {b b' o o' : Nat} {v : Value} (h : b ≠ b') : (w.setCell ⟨b', o', none⟩ v).cell? ⟨b, o, none⟩ = w.cell? ⟨b, o, none⟩ :=
  World.cell?_of_block (w := w) (Below.heap_setCell w ⟨b', o', none⟩ v b h)
theorem cell_alloc_old {w : World} {b o : Nat} {x : Obj} (h : b < w.heap.size) : (w.alloc x).cell? ⟨b, o, none⟩ = w.cell? ⟨b, o, none⟩ :=
  World.cell?_of_block (w := w) (Below.heap_alloc w x b h)
set_option maxRecDepth 100000 in
set_option maxHeartbeats 1000000 in
theorem sizes_any (big wide : Bool) (a : Option Addr) (l c : Nat) (zs : List Int) (w : World) (hl : l ≤ 20) (r : RowI w a l zs) :
    Calls Tryd.prog 40 #[.agg #[.bool big, .bool wide], .slice a l c] w (SizesOut wide l zs w) := by
  have R := Lib.hid r; clear r
  have hmk := make_i64 l (by omega)
  go_enter Tryd.func40, Tryd.ntmps40
  go_wp2
  clear hmk
  go_loopw [7, 8, 9, 15] (fun s _ _ i wr => ∃ k : Nat, k ≤ l ∧ i = .int .i64 k ∧ s = .int .i64 (sumZ wide zs k) ∧ wr.cell? ⟨w.heap.size, 0, none⟩ = some (.bool big) ∧ wr.cell? ⟨w.heap.size, 1, none⟩ = some (.bool wide) ∧ w.heap.size + 1 < wr.heap.size ∧ wr.heap[w.heap.size + 1]? = some (.cells (rowI64 (fullTo wide zs l k)) 3 (0, 0)) ∧ Below w.heap.size w wr) (fun _ _ _ i _ => l - (intOf i).toNat)
  case atStart =>
    refine ⟨0, Nat.zero_le _, rfl, rfl, by simp, by simp, by simp, ?_, ((Below.refl _ _).alloc (Nat.le_refl _) _).alloc (by simp) _⟩
    simpa [fullTo, fullL] using two_new w (.cells #[.bool big, .bool wide] 27) (.cells (rowI64 (List.replicate l 0)) 3)
  case round =>
    obtain ⟨k, hk, rfl, rfl, hb0, hb1, hsz, hrow, hg⟩ := hrel
    by_cases hlt : k < l
    · obtain ⟨b, off, rfl, hb, hc⟩ := R.out k hlt
      have hcw : wr.cell? ⟨b, off + k, none⟩ = some (.int .i64 (zs.getD k 0)) := by rw [hg.cell (by exact hb)]; exact hc
      clear hc
      have hstep : sumZ wide zs (k + 1) = wrap64 (sumZ wide zs k + fullZ wide (zs.getD k 0)) := rfl
      have hst2 := fullTo_step wide zs l k hlt
      have hfr := free_of_rowI hrow k
      have hcl := cell_of_rowI hrow k (by rw [fullTo_length _ _ _ _ hk]; exact hlt)
      generalize (fullTo wide zs l k)[k]'(by rw [fullTo_length _ _ _ _ hk]; exact hlt) = y at hcl
      generalize zs.getD k 0 = z at *
      generalize sumZ wide zs k = sk at *
      have HST := Lib.hid hstep; clear hstep
      have HS2 := Lib.hid hst2; clear hst2
      have HR := Lib.hid hrow; clear hrow
      have hi0 : (0 : Int) ≤ (k : Int) := by omega
      have hi1 : (k : Int) < (l : Int) := by omega
      by_cases hz : z = 0
      · have hzb : (z == 0) = true := by simp [hz]
        have hf : fullZ wide z = (wordN wide : Int) := by unfold fullZ; rw [if_pos hz]
        have HF := Lib.hid hf; clear hf
        have HZ := Lib.hid hz; clear hz
        go_wp2_with (go_at_call 24; refine (word_is big wide _).mono ?_; rintro e w2 ⟨rfl, rfl⟩)
        have R1 := rowI_set HR.out k (wordN wide : Int)
        rw [← HF.out, HS2.out] at R1
        refine ⟨⟨k + 1, by omega, by go_num, int_eq (by rw [HST.out, HF.out]), by rw [cell_alloc_old (by simp; omega), cell_set_other (by omega)]; exact hb0, by rw [cell_alloc_old (by simp; omega), cell_set_other (by omega)]; exact hb1, by simp; omega, ?_, (hg.setCell (by simp) _).alloc (by simpa using hg.size) _⟩, by simp [intOf]; omega⟩
        rw [Below.heap_alloc _ _ _ (by simpa using hsz), ← HF.out]
        exact R1
      · have hzb : (z == 0) = false := by simp [hz]
        have hf : fullZ wide z = z := by unfold fullZ; rw [if_neg hz]
        have HF := Lib.hid hf; clear hf
        have HZ := Lib.hid hz; clear hz
        go_wp2
        have R1 := rowI_set HR.out k z
        rw [HF.out] at HS2
        rw [HS2.out] at R1
        refine ⟨⟨k + 1, by omega, by go_num, int_eq (by rw [HST.out, HF.out]), by rw [cell_set_other (by omega)]; exact hb0, by rw [cell_set_other (by omega)]; exact hb1, by simp; omega, R1, hg.setCell (by simp) _⟩, by simp [intOf]; omega⟩
    · obtain rfl : k = l := by omega
      have e : fullTo wide zs k k = fullL wide zs k := by simp [fullTo]
      rw [e] at hrow
      have HR := Lib.hid hrow; clear hrow e
      go_wp2
      go_ret2
      exact ⟨w.heap.size + 1, by omega, hsz, rfl, HR.out, hg⟩
end Go.Proofs.YtnmklmaclmjfbaaDoor
