/- The contract of class's Fits. Conditions: those written in each theorem. -/
import Derived.Test.YtnmklmaclmjfbaaRC
namespace Go.Proofs.Ytnmklmaclmjfbaa
open Go.RowKit
set_option maxRecDepth 100000 in
set_option maxHeartbeats 400000 in
theorem allFit_yes (big wide : Bool) (a : Option Addr) (l c : Nat) (ns : List Nat) (w : World) (hl : l ≤ 20) (r : RowN w a l ns) (h : ∀ k, k < l → fitAt wide ns k = true) :
    Calls Try.prog 96 #[.agg #[.bool big, .bool wide], .slice a l c] w fun e w' => e = .returned (.bool true) ∧ Below w.heap.size w w' := by
  have R := Lib.hid r; clear r
  have H := Lib.hid h; clear h
  go_enter Try.func96, Try.ntmps96
  go_wp2
  go_loopw [6, 9] (fun _ i wr => ∃ k : Nat, k ≤ l ∧ i = .int .i64 k ∧ wr.cell? ⟨w.heap.size, 0, none⟩ = some (.bool big) ∧ wr.cell? ⟨w.heap.size, 1, none⟩ = some (.bool wide) ∧ w.heap.size < wr.heap.size ∧ Below w.heap.size w wr) (fun _ i _ => l - (intOf i).toNat)
  case atStart => exact ⟨0, Nat.zero_le _, rfl, by simp, by simp, by simp, (Below.refl _ _).alloc (Nat.le_refl _) _⟩
  case round =>
    obtain ⟨k, hk, rfl, hb0, hb1, hsz, hg⟩ := hrel
    by_cases hlt : k < l
    · obtain ⟨b, off, rfl, hb, hc, hn⟩ := R.out k hlt
      have hf := H.out k hlt
      unfold fitAt at hf
      have hcw : wr.cell? ⟨b, off + k, none⟩ = some (.int .u64 (ns.getD k 0 : Nat)) := by rw [hg.cell (by exact hb)]; exact hc
      clear hc
      generalize ns.getD k 0 = y at *
      have HF := Lib.hid hf; clear hf
      have HN := Lib.hid hn; clear hn
      have hi0 : (0 : Int) ≤ (k : Int) := by omega
      have hi1 : (k : Int) < (l : Int) := by omega
      go_wp2_with (first
        | (go_at_call 16; refine (word_is big wide _).mono ?_; rintro e w2 ⟨rfl, rfl⟩)
        | (go_at_call 94; refine (fits_is true y (wordN wide : Int) _ (by omega) (by unfold wordN; cases wide <;> decide) HF.out).mono ?_; rintro e w3 ⟨rfl, rfl⟩))
      go_roundw
      case rel => exact ⟨k + 1, by omega, by go_num, by simp [hb0, World.cell?_alloc_past, hsz], by simp [hb1, World.cell?_alloc_past, hsz], by simp; omega, hg.alloc hg.size _⟩
      case measure => simp [intOf]; omega
    · go_wp2
      go_ret
      exact ⟨rfl, hg⟩
set_option maxRecDepth 100000 in
set_option maxHeartbeats 400000 in
theorem allFit_no (big wide : Bool) (a : Option Addr) (l c : Nat) (ns : List Nat) (w : World) (hl : l ≤ 20) (r : RowN w a l ns) (k0 : Nat) (hk0 : k0 < l) (h : ∀ k, k < k0 → fitAt wide ns k = true) (hno : fitAt wide ns k0 = false) :
    Calls Try.prog 96 #[.agg #[.bool big, .bool wide], .slice a l c] w fun e w' => e = .returned (.bool false) ∧ Below w.heap.size w w' := by
  have R := Lib.hid r; clear r
  have H := Lib.hid h; clear h
  have HX := Lib.hid hno; clear hno
  go_enter Try.func96, Try.ntmps96
  go_wp2
  go_loopw [6, 9] (fun _ i wr => ∃ k : Nat, k ≤ k0 ∧ i = .int .i64 k ∧ wr.cell? ⟨w.heap.size, 0, none⟩ = some (.bool big) ∧ wr.cell? ⟨w.heap.size, 1, none⟩ = some (.bool wide) ∧ w.heap.size < wr.heap.size ∧ Below w.heap.size w wr) (fun _ i _ => l - (intOf i).toNat)
  case atStart => exact ⟨0, Nat.zero_le _, rfl, by simp, by simp, by simp, (Below.refl _ _).alloc (Nat.le_refl _) _⟩
  case round =>
    obtain ⟨k, hk, rfl, hb0, hb1, hsz, hg⟩ := hrel
    by_cases hlt : k < k0
    · obtain ⟨b, off, rfl, hb, hc, hn⟩ := R.out k (by omega)
      have hf := H.out k hlt
      unfold fitAt at hf
      have hcw : wr.cell? ⟨b, off + k, none⟩ = some (.int .u64 (ns.getD k 0 : Nat)) := by rw [hg.cell (by exact hb)]; exact hc
      clear hc
      generalize ns.getD k 0 = y at *
      have HF := Lib.hid hf; clear hf
      have HN := Lib.hid hn; clear hn
      have hi0 : (0 : Int) ≤ (k : Int) := by omega
      have hi1 : (k : Int) < (l : Int) := by omega
      go_wp2_with (first
        | (go_at_call 16; refine (word_is big wide _).mono ?_; rintro e w2 ⟨rfl, rfl⟩)
        | (go_at_call 94; refine (fits_is true y (wordN wide : Int) _ (by omega) (by unfold wordN; cases wide <;> decide) HF.out).mono ?_; rintro e w3 ⟨rfl, rfl⟩))
      go_roundw
      case rel => exact ⟨k + 1, by omega, by go_num, by simp [hb0, World.cell?_alloc_past, hsz], by simp [hb1, World.cell?_alloc_past, hsz], by simp; omega, hg.alloc hg.size _⟩
      case measure => simp [intOf]; omega
    · obtain rfl : k = k0 := by omega
      obtain ⟨b, off, rfl, hb, hc, hn⟩ := R.out k (by omega)
      have hf := HX.out
      unfold fitAt at hf
      have hcw : wr.cell? ⟨b, off + k, none⟩ = some (.int .u64 (ns.getD k 0 : Nat)) := by rw [hg.cell (by exact hb)]; exact hc
      clear hc
      generalize ns.getD k 0 = y at *
      have HF := Lib.hid hf; clear hf
      have HN := Lib.hid hn; clear hn
      have hi0 : (0 : Int) ≤ (k : Int) := by omega
      have hi1 : (k : Int) < (l : Int) := by omega
      go_wp2_with (first
        | (go_at_call 16; refine (word_is big wide _).mono ?_; rintro e w2 ⟨rfl, rfl⟩)
        | (go_at_call 94; refine (fits_is false y (wordN wide : Int) _ (by omega) (by unfold wordN; cases wide <;> decide) HF.out).mono ?_; rintro e w3 ⟨rfl, rfl⟩))
      go_ret
      exact ⟨rfl, hg.alloc hg.size _⟩
theorem allFit_is (big wide : Bool) (a : Option Addr) (l c : Nat) (ns : List Nat) (w : World) (hl : l ≤ 20) (r : RowN w a l ns) :
    Calls Try.prog 96 #[.agg #[.bool big, .bool wide], .slice a l c] w fun e w' => e = .returned (.bool (fitsTo wide ns l)) ∧ Below w.heap.size w w' := by
  rcases first_fail (fun k => fitAt wide ns k = true) l with h | ⟨k0, h1, h2, h3⟩
  · rw [fitsTo_true wide ns l h]
    exact allFit_yes big wide a l c ns w hl r h
  · have h3 : fitAt wide ns k0 = false := by simpa using h3
    rw [fitsTo_false wide ns l k0 h1 h3]
    exact allFit_no big wide a l c ns w hl r k0 h1 h2 h3
end Go.Proofs.Ytnmklmaclmjfbaa
