/- The contract of class's Record. Conditions: those written in each theorem. -/
import Derived.Test.YtnmklmaclmjfbaaDoorH
namespace Go.Proofs.YtnmklmaclmjfbaaDoor
open Go.RowKit
/-- Whether the k-th number may be in the k-th field. -/
def okAt (wide : Bool) (zs : List Int) (ns : List Nat) (k : Nat) : Prop :=
  0 ≤ fullZ wide (zs.getD k 0) ∧ fullZ wide (zs.getD k 0) ≤ 8 ∧ ns.getD k 0 < 256 ^ (fullZ wide (zs.getD k 0)).toNat
theorem RowI.of_row {w : World} {b : Nat} {L : List Int} (hb : b < w.heap.size) (h : w.heap[b]? = some (.cells (rowI64 L) 3 (0, 0))) : RowI w (some ⟨b, 0, none⟩) L.length L := fun k hk =>
  ⟨b, 0, rfl, hb, by rw [Nat.zero_add, cell_of_rowI h k hk, List.getD_eq_getElem?_getD, List.getElem?_eq_getElem hk]; rfl⟩
theorem RowI.kept {w w' : World} {a : Option Addr} {len l : Nat} {zs : List Int} (h : RowI w a len zs) (hb : Below w.heap.size w w') (hl : l ≤ len) : RowI w' a l zs := fun k hk => by
  obtain ⟨b, off, e, h1, h2⟩ := h k (by omega)
  exact ⟨b, off, e, Nat.lt_of_lt_of_le h1 hb.size, by rw [hb.cell (by exact h1)]; exact h2⟩
theorem RowN.kept {w w' : World} {a : Option Addr} {len l : Nat} {ns : List Nat} (h : RowN w a len ns) (hb : Below w.heap.size w w') (hl : l ≤ len) : RowN w' a l ns := fun k hk => by
  obtain ⟨b, off, e, h1, h2, h3⟩ := h k (by omega)
  exact ⟨b, off, e, Nat.lt_of_lt_of_le h1 hb.size, by rw [hb.cell (by exact h1)]; exact h2, h3⟩
theorem fullL_length (wide : Bool) (zs : List Int) (l : Nat) : (fullL wide zs l).length = l := by simp [fullL]
set_option maxRecDepth 100000 in
theorem record_len (big wide : Bool) (a1 a2 : Option Addr) (l1 c1 l2 c2 : Nat) (w : World) (h : l1 ≠ l2) :
    Calls Tryd.prog 26 #[.agg #[.bool big, .bool wide], .slice a1 l1 c1, .slice a2 l2 c2] w fun e w' => e = .returned (.tuple #[.string ⟨#[]⟩, .bool false]) ∧ Below w.heap.size w w' := by
  have hb : ((l1 : Int) != (l2 : Int)) = true := by simp; omega
  go_enter Tryd.func26, Tryd.ntmps26
  go_wp2
  go_ret2
  exact ⟨rfl, (Below.refl _ _).alloc (Nat.le_refl _) _⟩
set_option maxRecDepth 100000 in
set_option maxHeartbeats 1000000 in
theorem record_yes (big wide : Bool) (a1 a2 : Option Addr) (l c1 c2 : Nat) (zs : List Int) (ns : List Nat) (w : World) (hl : l ≤ 20) (r1 : RowI w a1 l zs) (r2 : RowN w a2 l ns)
    (hok : ∀ k, k < l → okAt wide zs ns k) :
    Calls Tryd.prog 26 #[.agg #[.bool big, .bool wide], .slice a1 l c1, .slice a2 l c2] w fun e w' => e = .returned (.tuple #[.string ⟨(fieldsL big (fullL wide zs l) ns l).toArray⟩, .bool true]) ∧ Below w.heap.size w w' := by
  have R1 := Lib.hid r1; clear r1
  have R2 := Lib.hid r2; clear r2
  have HOK := Lib.hid hok; clear hok
  go_enter Tryd.func26, Tryd.ntmps26
  go_wp2_with fail
  refine (sizes_any big wide a1 l c1 zs _ hl (R1.out.kept ((Below.refl _ _).alloc (Nat.le_refl _) _) (Nat.le_refl _))).mono ?_
  rintro e w1 ⟨b, hb1, hb2, rfl, hrow, hg0⟩
  have hg : Below w.heap.size w w1 := ((Below.refl _ _).alloc (Nat.le_refl _) _).trans (hg0.mono (by simp))
  have hbox0 : w1.cell? ⟨w.heap.size, 0, none⟩ = some (.bool big) := by rw [hg0.cell (by simp)]; simp
  have hbox1 : w1.cell? ⟨w.heap.size, 1, none⟩ = some (.bool wide) := by rw [hg0.cell (by simp)]; simp
  clear hg0
  have HR := Lib.hid hrow; clear hrow
  generalize sumZ wide zs l = S
  go_wp2
  go_loop [10, 11, 25] (fun _ _ i => ∃ k : Nat, k ≤ l ∧ i = .int .i64 k) (fun _ _ i => l - (intOf i).toNat)
  case atStart => exact ⟨0, Nat.zero_le _, rfl⟩
  case round =>
    obtain ⟨k, hk, rfl⟩ := hrel
    by_cases hlt : k < l
    · obtain ⟨b2, off2, rfl, hbb, hc2, hn2⟩ := R2.out k hlt
      have hc2w : w1.cell? ⟨b2, off2 + k, none⟩ = some (.int .u64 (ns.getD k 0 : Nat)) := by rw [hg.cell (by exact hbb)]; exact hc2
      clear hc2
      have hcf : w1.cell? ⟨b, k, none⟩ = some (.int .i64 (fullZ wide (zs.getD k 0))) := by
        rw [cell_of_rowI HR.out k (by rw [fullL_length]; exact hlt)]
        have := fullL_getD wide zs l k hlt
        rw [List.getD_eq_getElem?_getD, List.getElem?_eq_getElem (by rw [fullL_length]; exact hlt)] at this
        rw [← this]; rfl
      obtain ⟨ho0, ho8, hof⟩ := HOK.out k hlt
      generalize fullZ wide (zs.getD k 0) = f at *
      generalize ns.getD k 0 = y at *
      have HOF := Lib.hid (show decide (y < 256 ^ f.toNat) = true by simpa using hof); clear hof
      have HN := Lib.hid hn2; clear hn2
      have hi0 : (0 : Int) ≤ (k : Int) := by omega
      have hi1 : (k : Int) < (l : Int) := by omega
      have hd0 : decide (f < 0) = false := by simp; omega
      have hd8 : decide ((8 : Int) < f) = false := by simp; omega
      go_wp2_with (go_at_call 41; refine (fits_is true y f _ ho0 ho8 HOF.out).mono ?_; rintro e w3 ⟨rfl, rfl⟩)
      go_round
      case rel => exact ⟨k + 1, by omega, by go_num⟩
      case measure => simp [intOf]; omega
    · obtain rfl : k = l := by omega
      go_wp2_with fail
      have hR := RowI.of_row hb2 HR.out
      rw [fullL_length] at hR
      refine (fields_any big _ a2 k k k c2 _ ns _ hl hl hR (R2.out.kept hg (Nat.le_refl _))).mono ?_
      rintro e w2 ⟨rfl, h2⟩
      rw [Nat.min_self]
      go_wp2
      go_ret2
      exact ⟨rfl, hg.trans (h2.mono hg.size)⟩
set_option maxRecDepth 100000 in
set_option maxHeartbeats 1000000 in
theorem record_no (big wide : Bool) (a1 a2 : Option Addr) (l c1 c2 : Nat) (zs : List Int) (ns : List Nat) (w : World) (hl : l ≤ 20) (r1 : RowI w a1 l zs) (r2 : RowN w a2 l ns)
    (k0 : Nat) (hk0 : k0 < l) (hok : ∀ k, k < k0 → okAt wide zs ns k) (hno : ¬ okAt wide zs ns k0) :
    Calls Tryd.prog 26 #[.agg #[.bool big, .bool wide], .slice a1 l c1, .slice a2 l c2] w fun e w' => e = .returned (.tuple #[.string ⟨#[]⟩, .bool false]) ∧ Below w.heap.size w w' := by
  have R1 := Lib.hid r1; clear r1
  have R2 := Lib.hid r2; clear r2
  have HOK := Lib.hid hok; clear hok
  have HNO := Lib.hid hno; clear hno
  go_enter Tryd.func26, Tryd.ntmps26
  go_wp2_with fail
  refine (sizes_any big wide a1 l c1 zs _ hl (R1.out.kept ((Below.refl _ _).alloc (Nat.le_refl _) _) (Nat.le_refl _))).mono ?_
  rintro e w1 ⟨b, hb1, hb2, rfl, hrow, hg0⟩
  have hg : Below w.heap.size w w1 := ((Below.refl _ _).alloc (Nat.le_refl _) _).trans (hg0.mono (by simp))
  have hbox0 : w1.cell? ⟨w.heap.size, 0, none⟩ = some (.bool big) := by rw [hg0.cell (by simp)]; simp
  have hbox1 : w1.cell? ⟨w.heap.size, 1, none⟩ = some (.bool wide) := by rw [hg0.cell (by simp)]; simp
  clear hg0
  have HR := Lib.hid hrow; clear hrow
  generalize sumZ wide zs l = S
  go_wp2
  go_loop [10, 11, 25] (fun _ _ i => ∃ k : Nat, k ≤ k0 ∧ i = .int .i64 k) (fun _ _ i => l - (intOf i).toNat)
  case atStart => exact ⟨0, Nat.zero_le _, rfl⟩
  case round =>
    obtain ⟨k, hk, rfl⟩ := hrel
    by_cases hlt : k < k0
    · obtain ⟨b2, off2, rfl, hbb, hc2, hn2⟩ := R2.out k (by omega)
      have hc2w : w1.cell? ⟨b2, off2 + k, none⟩ = some (.int .u64 (ns.getD k 0 : Nat)) := by rw [hg.cell (by exact hbb)]; exact hc2
      clear hc2
      have hcf : w1.cell? ⟨b, k, none⟩ = some (.int .i64 (fullZ wide (zs.getD k 0))) := by
        rw [cell_of_rowI HR.out k (by rw [fullL_length]; omega)]
        have := fullL_getD wide zs l k (by omega)
        rw [List.getD_eq_getElem?_getD, List.getElem?_eq_getElem (by rw [fullL_length]; omega)] at this
        rw [← this]; rfl
      obtain ⟨ho0, ho8, hof⟩ := HOK.out k hlt
      generalize fullZ wide (zs.getD k 0) = f at *
      generalize ns.getD k 0 = y at *
      have HOF := Lib.hid (show decide (y < 256 ^ f.toNat) = true by simpa using hof); clear hof
      have HN := Lib.hid hn2; clear hn2
      have hi0 : (0 : Int) ≤ (k : Int) := by omega
      have hi1 : (k : Int) < (l : Int) := by omega
      have hd0 : decide (f < 0) = false := by simp; omega
      have hd8 : decide ((8 : Int) < f) = false := by simp; omega
      go_wp2_with (go_at_call 41; refine (fits_is true y f _ ho0 ho8 HOF.out).mono ?_; rintro e w3 ⟨rfl, rfl⟩)
      go_round
      case rel => exact ⟨k + 1, by omega, by go_num⟩
      case measure => simp [intOf]; omega
    · obtain rfl : k = k0 := by omega
      obtain ⟨b2, off2, rfl, hbb, hc2, hn2⟩ := R2.out k (by omega)
      have hc2w : w1.cell? ⟨b2, off2 + k, none⟩ = some (.int .u64 (ns.getD k 0 : Nat)) := by rw [hg.cell (by exact hbb)]; exact hc2
      clear hc2
      have hcf : w1.cell? ⟨b, k, none⟩ = some (.int .i64 (fullZ wide (zs.getD k 0))) := by
        rw [cell_of_rowI HR.out k (by rw [fullL_length]; omega)]
        have := fullL_getD wide zs l k (by omega)
        rw [List.getD_eq_getElem?_getD, List.getElem?_eq_getElem (by rw [fullL_length]; omega)] at this
        rw [← this]; rfl
      have hno := HNO.out
      unfold okAt at hno
      generalize fullZ wide (zs.getD k 0) = f at *
      generalize ns.getD k 0 = y at *
      have HN := Lib.hid hn2; clear hn2
      have hi0 : (0 : Int) ≤ (k : Int) := by omega
      have hi1 : (k : Int) < (l : Int) := by omega
      have hcases : decide (f < 0) = true ∨ decide (f < 0) = false ∧ decide ((8 : Int) < f) = true ∨ decide (f < 0) = false ∧ decide ((8 : Int) < f) = false ∧ decide (y < 256 ^ f.toNat) = false := by
        by_cases h0 : f < 0
        · left; simpa using h0
        · right
          by_cases h8 : 8 < f
          · left; exact ⟨by simpa using h0, by simpa using h8⟩
          · right
            refine ⟨by simpa using h0, by simpa using h8, ?_⟩
            simp
            exact Nat.le_of_not_lt fun h => hno ⟨by omega, by omega, h⟩
      clear hno
      rcases hcases with hd0 | ⟨hd0, hd8⟩ | ⟨hd0, hd8, hf⟩
      · go_wp2
        go_ret2
        exact ⟨rfl, hg⟩
      · go_wp2
        go_ret2
        exact ⟨rfl, hg⟩
      · have HOF := Lib.hid hf; clear hf
        have ho0 : 0 ≤ f := by simpa using hd0
        have ho8 : f ≤ 8 := by simpa using hd8
        go_wp2_with (go_at_call 41; refine (fits_is false y f _ ho0 ho8 HOF.out).mono ?_; rintro e w3 ⟨rfl, rfl⟩)
        go_ret2
        exact ⟨rfl, hg⟩
end Go.Proofs.YtnmklmaclmjfbaaDoor
