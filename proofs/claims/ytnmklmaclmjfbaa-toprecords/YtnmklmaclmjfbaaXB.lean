/- Contracts of layer 9, relocations. Conditions: those written in each theorem. -/
import Derived.Laws.CopyOwn
import Derived.Laws.Tables
import Derived.Test.YtnmklmaclmjfbaaXA
import Derived.Test.YtnmklmaclmjfbaaGF
namespace Go.Proofs.Ytnmklmaclmjfbaa
open Go.RowKit
theorem below_more {w w' : World} (h : Below w.heap.size w w') (o : Obj) : Below w.heap.size w (w'.alloc o) := h.alloc h.size o
theorem cell_up {W : World} {p : Addr} {v : Value} (o : Obj) (h : W.cell? p = some v) : (W.alloc o).cell? p = some v := by
  have hlt : p.block < W.heap.size := by
    rcases Nat.lt_or_ge p.block W.heap.size with h1 | h1
    · exact h1
    · simp [World.cell?, Array.getElem?_eq_none h1] at h
  rw [World.cell?_of_block (w := W) (Below.heap_alloc W o p.block hlt)]
  exact h
theorem typeBits_f (big : Bool) (w : World) : Calls Try.prog 83 #[.agg #[.bool big, .bool false]] w fun e w' => e = .returned (.int .i64 8) ∧ w' = w.alloc (.cells #[.bool big, .bool false] 34) := typeBits_any big false w
theorem typeBits_t (big : Bool) (w : World) : Calls Try.prog 83 #[.agg #[.bool big, .bool true]] w fun e w' => e = .returned (.int .i64 32) ∧ w' = w.alloc (.cells #[.bool big, .bool true] 34) := typeBits_any big true w
theorem word_f (big : Bool) (w : World) : Calls Try.prog 16 #[.agg #[.bool big, .bool false]] w fun e w' => e = .returned (.int .i64 4) ∧ w' = w.alloc (.cells #[.bool big, .bool false] 34) := word_any big false w
theorem word_t (big : Bool) (w : World) : Calls Try.prog 16 #[.agg #[.bool big, .bool true]] w fun e w' => e = .returned (.int .i64 8) ∧ w' = w.alloc (.cells #[.bool big, .bool true] 34) := word_any big true w
set_option maxRecDepth 100000 in
set_option maxHeartbeats 1000000 in
theorem rgood_Tf (big : Bool) (off sym ty add : Nat) (hn : ∀ n ∈ [off, add], n < 2 ^ 64) (w : World) (b1 b2 b3 : Bool) (hf : fitsTo false [off, add] 2 = b1) (h2 : ((ty : Int) / 256 == 0) = b2) (h3 : ((sym : Int) / 16777216 == 0) = b3) :
    Calls Try.prog 81 #[.agg #[.int .u64 (off : Nat), .int .u64 (sym : Nat), .int .u64 (ty : Nat), .int .u64 (add : Nat)], .agg #[.bool big, .bool false], .bool true] w fun e w' => e = .returned (.bool (b1 && b2 && b3)) ∧ Below w.heap.size w w' := by
  have HN := Lib.hid hn; clear hn
  have HF := Lib.hid hf; clear hf
  have HC2 := Lib.hid h2; clear h2
  have HC3 := Lib.hid h3; clear h3
  go_enter Try.func81, Try.ntmps81
  go_wp2_with fail
  have hW : Below w.heap.size w ((w.alloc (.cells #[.int .u64 (off : Nat), .int .u64 (sym : Nat), .int .u64 (ty : Nat), .int .u64 (add : Nat)] 104)).alloc (.cells #[.bool big, .bool false] 34)) := below_more (below_more (Below.refl _ _) _) _
  have F0 : ((w.alloc (.cells #[.int .u64 (off : Nat), .int .u64 (sym : Nat), .int .u64 (ty : Nat), .int .u64 (add : Nat)] 104)).alloc (.cells #[.bool big, .bool false] 34)).cell? ⟨w.heap.size, 0, none⟩ = some (.int .u64 (off : Nat)) := cell_up _ (by simp)
  have F1 : ((w.alloc (.cells #[.int .u64 (off : Nat), .int .u64 (sym : Nat), .int .u64 (ty : Nat), .int .u64 (add : Nat)] 104)).alloc (.cells #[.bool big, .bool false] 34)).cell? ⟨w.heap.size, 1, none⟩ = some (.int .u64 (sym : Nat)) := cell_up _ (by simp)
  have F2 : ((w.alloc (.cells #[.int .u64 (off : Nat), .int .u64 (sym : Nat), .int .u64 (ty : Nat), .int .u64 (add : Nat)] 104)).alloc (.cells #[.bool big, .bool false] 34)).cell? ⟨w.heap.size, 2, none⟩ = some (.int .u64 (ty : Nat)) := cell_up _ (by simp)
  have F3 : ((w.alloc (.cells #[.int .u64 (off : Nat), .int .u64 (sym : Nat), .int .u64 (ty : Nat), .int .u64 (add : Nat)] 104)).alloc (.cells #[.bool big, .bool false] 34)).cell? ⟨w.heap.size, 3, none⟩ = some (.int .u64 (add : Nat)) := cell_up _ (by simp)
  have F4 : ((w.alloc (.cells #[.int .u64 (off : Nat), .int .u64 (sym : Nat), .int .u64 (ty : Nat), .int .u64 (add : Nat)] 104)).alloc (.cells #[.bool big, .bool false] 34)).cell? ⟨w.heap.size + 1, 0, none⟩ = some (.bool big) := by rw [Lib.cell_of_heap (two_new w (.cells #[.int .u64 (off : Nat), .int .u64 (sym : Nat), .int .u64 (ty : Nat), .int .u64 (add : Nat)] 104) (.cells #[.bool big, .bool false] 34))]; rfl
  have F5 : ((w.alloc (.cells #[.int .u64 (off : Nat), .int .u64 (sym : Nat), .int .u64 (ty : Nat), .int .u64 (add : Nat)] 104)).alloc (.cells #[.bool big, .bool false] 34)).cell? ⟨w.heap.size + 1, 1, none⟩ = some (.bool false) := by rw [Lib.cell_of_heap (two_new w (.cells #[.int .u64 (off : Nat), .int .u64 (sym : Nat), .int .u64 (ty : Nat), .int .u64 (add : Nat)] 104) (.cells #[.bool big, .bool false] 34))]; rfl
  have hz : w.heap.size + 1 < ((w.alloc (.cells #[.int .u64 (off : Nat), .int .u64 (sym : Nat), .int .u64 (ty : Nat), .int .u64 (add : Nat)] 104)).alloc (.cells #[.bool big, .bool false] 34)).heap.size := by simp
  generalize ((w.alloc (.cells #[.int .u64 (off : Nat), .int .u64 (sym : Nat), .int .u64 (ty : Nat), .int .u64 (add : Nat)] 104)).alloc (.cells #[.bool big, .bool false] 34)) = W at *
  refine (typeBits_f big _).mono ?_
  rintro e w1 ⟨rfl, rfl⟩
  go_wp2_with fail
  refine (word_f big _).mono ?_
  rintro e w2 ⟨rfl, rfl⟩
  have hW3 : Below w.heap.size w ((W.alloc (.cells #[.bool big, .bool false] 34)).alloc (.cells #[.bool big, .bool false] 34)) := below_more (below_more hW _) _
  replace F0 := cell_up (.cells #[.bool big, .bool false] 34) (cell_up (.cells #[.bool big, .bool false] 34) F0)
  replace F1 := cell_up (.cells #[.bool big, .bool false] 34) (cell_up (.cells #[.bool big, .bool false] 34) F1)
  replace F2 := cell_up (.cells #[.bool big, .bool false] 34) (cell_up (.cells #[.bool big, .bool false] 34) F2)
  replace F3 := cell_up (.cells #[.bool big, .bool false] 34) (cell_up (.cells #[.bool big, .bool false] 34) F3)
  replace F4 := cell_up (.cells #[.bool big, .bool false] 34) (cell_up (.cells #[.bool big, .bool false] 34) F4)
  replace F5 := cell_up (.cells #[.bool big, .bool false] 34) (cell_up (.cells #[.bool big, .bool false] 34) F5)
  replace hz : w.heap.size + 1 < ((W.alloc (.cells #[.bool big, .bool false] 34)).alloc (.cells #[.bool big, .bool false] 34)).heap.size := by simp; omega
  clear hW
  generalize ((W.alloc (.cells #[.bool big, .bool false] 34)).alloc (.cells #[.bool big, .bool false] 34)) = W3 at *
  go_wp2_with fail
  have hRN : RowN (W3.alloc (.cells #[.int .u64 (off : Nat), .int .u64 (add : Nat)] 29)) (some ⟨W3.heap.size, 0, none⟩) 2 [off, add] := RowN.of_rowT (L := [off, add]) (t := 29) (by simp) (heap_alloc_new W3 _) HN.out
  have HA := Lib.hid (allFit_is big false (some ⟨W3.heap.size, 0, none⟩) 2 2 [off, add] _ (by decide) hRN)
  rw [HF.out] at HA
  clear hRN
  refine HA.out.mono ?_
  rintro e w5 ⟨rfl, h5⟩
  have G1 : w5.cell? ⟨w.heap.size, 1, none⟩ = some (.int .u64 (sym : Nat)) := by rw [h5.cell (by show w.heap.size < (W3.alloc _).heap.size; simp; omega)]; exact cell_up _ F1
  have G2 : w5.cell? ⟨w.heap.size, 2, none⟩ = some (.int .u64 (ty : Nat)) := by rw [h5.cell (by show w.heap.size < (W3.alloc _).heap.size; simp; omega)]; exact cell_up _ F2
  have hB : Below w.heap.size w w5 := (below_more hW3 _).trans (h5.mono (below_more hW3 _).size)
  clear h5 F0 F1 F2 F3 F4 F5 HA
  cases b1
  · go_wp2
    go_ret
    exact ⟨by simp, hB⟩
  have hc2 := HC2.out
  have hc3 := HC3.out
  cases b2
  · go_wp2
    go_ret
    exact ⟨by simp, hB⟩
  cases b3
  all_goals
    go_wp2
    go_ret
    exact ⟨by simp, hB⟩
set_option maxRecDepth 100000 in
set_option maxHeartbeats 1000000 in
theorem rgood_Tt (big : Bool) (off sym ty add : Nat) (hn : ∀ n ∈ [off, add], n < 2 ^ 64) (w : World) (b1 b2 b3 : Bool) (hf : fitsTo true [off, add] 2 = b1) (h2 : ((ty : Int) / 4294967296 == 0) = b2) (h3 : ((sym : Int) / 4294967296 == 0) = b3) :
    Calls Try.prog 81 #[.agg #[.int .u64 (off : Nat), .int .u64 (sym : Nat), .int .u64 (ty : Nat), .int .u64 (add : Nat)], .agg #[.bool big, .bool true], .bool true] w fun e w' => e = .returned (.bool (b1 && b2 && b3)) ∧ Below w.heap.size w w' := by
  have HN := Lib.hid hn; clear hn
  have HF := Lib.hid hf; clear hf
  have HC2 := Lib.hid h2; clear h2
  have HC3 := Lib.hid h3; clear h3
  go_enter Try.func81, Try.ntmps81
  go_wp2_with fail
  have hW : Below w.heap.size w ((w.alloc (.cells #[.int .u64 (off : Nat), .int .u64 (sym : Nat), .int .u64 (ty : Nat), .int .u64 (add : Nat)] 104)).alloc (.cells #[.bool big, .bool true] 34)) := below_more (below_more (Below.refl _ _) _) _
  have F0 : ((w.alloc (.cells #[.int .u64 (off : Nat), .int .u64 (sym : Nat), .int .u64 (ty : Nat), .int .u64 (add : Nat)] 104)).alloc (.cells #[.bool big, .bool true] 34)).cell? ⟨w.heap.size, 0, none⟩ = some (.int .u64 (off : Nat)) := cell_up _ (by simp)
  have F1 : ((w.alloc (.cells #[.int .u64 (off : Nat), .int .u64 (sym : Nat), .int .u64 (ty : Nat), .int .u64 (add : Nat)] 104)).alloc (.cells #[.bool big, .bool true] 34)).cell? ⟨w.heap.size, 1, none⟩ = some (.int .u64 (sym : Nat)) := cell_up _ (by simp)
  have F2 : ((w.alloc (.cells #[.int .u64 (off : Nat), .int .u64 (sym : Nat), .int .u64 (ty : Nat), .int .u64 (add : Nat)] 104)).alloc (.cells #[.bool big, .bool true] 34)).cell? ⟨w.heap.size, 2, none⟩ = some (.int .u64 (ty : Nat)) := cell_up _ (by simp)
  have F3 : ((w.alloc (.cells #[.int .u64 (off : Nat), .int .u64 (sym : Nat), .int .u64 (ty : Nat), .int .u64 (add : Nat)] 104)).alloc (.cells #[.bool big, .bool true] 34)).cell? ⟨w.heap.size, 3, none⟩ = some (.int .u64 (add : Nat)) := cell_up _ (by simp)
  have F4 : ((w.alloc (.cells #[.int .u64 (off : Nat), .int .u64 (sym : Nat), .int .u64 (ty : Nat), .int .u64 (add : Nat)] 104)).alloc (.cells #[.bool big, .bool true] 34)).cell? ⟨w.heap.size + 1, 0, none⟩ = some (.bool big) := by rw [Lib.cell_of_heap (two_new w (.cells #[.int .u64 (off : Nat), .int .u64 (sym : Nat), .int .u64 (ty : Nat), .int .u64 (add : Nat)] 104) (.cells #[.bool big, .bool true] 34))]; rfl
  have F5 : ((w.alloc (.cells #[.int .u64 (off : Nat), .int .u64 (sym : Nat), .int .u64 (ty : Nat), .int .u64 (add : Nat)] 104)).alloc (.cells #[.bool big, .bool true] 34)).cell? ⟨w.heap.size + 1, 1, none⟩ = some (.bool true) := by rw [Lib.cell_of_heap (two_new w (.cells #[.int .u64 (off : Nat), .int .u64 (sym : Nat), .int .u64 (ty : Nat), .int .u64 (add : Nat)] 104) (.cells #[.bool big, .bool true] 34))]; rfl
  have hz : w.heap.size + 1 < ((w.alloc (.cells #[.int .u64 (off : Nat), .int .u64 (sym : Nat), .int .u64 (ty : Nat), .int .u64 (add : Nat)] 104)).alloc (.cells #[.bool big, .bool true] 34)).heap.size := by simp
  generalize ((w.alloc (.cells #[.int .u64 (off : Nat), .int .u64 (sym : Nat), .int .u64 (ty : Nat), .int .u64 (add : Nat)] 104)).alloc (.cells #[.bool big, .bool true] 34)) = W at *
  refine (typeBits_t big _).mono ?_
  rintro e w1 ⟨rfl, rfl⟩
  go_wp2_with fail
  refine (word_t big _).mono ?_
  rintro e w2 ⟨rfl, rfl⟩
  have hW3 : Below w.heap.size w ((W.alloc (.cells #[.bool big, .bool true] 34)).alloc (.cells #[.bool big, .bool true] 34)) := below_more (below_more hW _) _
  replace F0 := cell_up (.cells #[.bool big, .bool true] 34) (cell_up (.cells #[.bool big, .bool true] 34) F0)
  replace F1 := cell_up (.cells #[.bool big, .bool true] 34) (cell_up (.cells #[.bool big, .bool true] 34) F1)
  replace F2 := cell_up (.cells #[.bool big, .bool true] 34) (cell_up (.cells #[.bool big, .bool true] 34) F2)
  replace F3 := cell_up (.cells #[.bool big, .bool true] 34) (cell_up (.cells #[.bool big, .bool true] 34) F3)
  replace F4 := cell_up (.cells #[.bool big, .bool true] 34) (cell_up (.cells #[.bool big, .bool true] 34) F4)
  replace F5 := cell_up (.cells #[.bool big, .bool true] 34) (cell_up (.cells #[.bool big, .bool true] 34) F5)
  replace hz : w.heap.size + 1 < ((W.alloc (.cells #[.bool big, .bool true] 34)).alloc (.cells #[.bool big, .bool true] 34)).heap.size := by simp; omega
  clear hW
  generalize ((W.alloc (.cells #[.bool big, .bool true] 34)).alloc (.cells #[.bool big, .bool true] 34)) = W3 at *
  go_wp2_with fail
  have hRN : RowN (W3.alloc (.cells #[.int .u64 (off : Nat), .int .u64 (add : Nat)] 29)) (some ⟨W3.heap.size, 0, none⟩) 2 [off, add] := RowN.of_rowT (L := [off, add]) (t := 29) (by simp) (heap_alloc_new W3 _) HN.out
  have HA := Lib.hid (allFit_is big true (some ⟨W3.heap.size, 0, none⟩) 2 2 [off, add] _ (by decide) hRN)
  rw [HF.out] at HA
  clear hRN
  refine HA.out.mono ?_
  rintro e w5 ⟨rfl, h5⟩
  have G1 : w5.cell? ⟨w.heap.size, 1, none⟩ = some (.int .u64 (sym : Nat)) := by rw [h5.cell (by show w.heap.size < (W3.alloc _).heap.size; simp; omega)]; exact cell_up _ F1
  have G2 : w5.cell? ⟨w.heap.size, 2, none⟩ = some (.int .u64 (ty : Nat)) := by rw [h5.cell (by show w.heap.size < (W3.alloc _).heap.size; simp; omega)]; exact cell_up _ F2
  have hB : Below w.heap.size w w5 := (below_more hW3 _).trans (h5.mono (below_more hW3 _).size)
  clear h5 F0 F1 F2 F3 F4 F5 HA
  cases b1
  · go_wp2
    go_ret
    exact ⟨by simp, hB⟩
  have hc2 := HC2.out
  have hc3 := HC3.out
  cases b2
  · go_wp2
    go_ret
    exact ⟨by simp, hB⟩
  cases b3
  all_goals
    go_wp2
    go_ret
    exact ⟨by simp, hB⟩
set_option maxRecDepth 100000 in
set_option maxHeartbeats 1000000 in
theorem rgood_Ff (big : Bool) (off sym ty add : Nat) (hn : ∀ n ∈ [off, add], n < 2 ^ 64) (w : World) (b1 b2 b3 : Bool) (hf : fitsTo false [off, add] 2 = b1) (h2 : ((ty : Int) / 256 == 0) = b2) (h3 : ((sym : Int) / 16777216 == 0) = b3) (d : Bool) (hadd : ((add : Int) != 0) = d) :
    Calls Try.prog 81 #[.agg #[.int .u64 (off : Nat), .int .u64 (sym : Nat), .int .u64 (ty : Nat), .int .u64 (add : Nat)], .agg #[.bool big, .bool false], .bool false] w fun e w' => e = .returned (.bool (!d && (b1 && b2 && b3))) ∧ Below w.heap.size w w' := by
  have HN := Lib.hid hn; clear hn
  have HF := Lib.hid hf; clear hf
  have HC2 := Lib.hid h2; clear h2
  have HC3 := Lib.hid h3; clear h3
  have hadd' : ((add : Int) == 0) = (!d) := by subst hadd; simp [bne]
  cases d
  rotate_left
  · go_enter Try.func81, Try.ntmps81
    go_wp2
    go_ret
    exact ⟨by simp, below_more (below_more (Below.refl _ _) _) _⟩
  go_enter Try.func81, Try.ntmps81
  go_wp2_with fail
  have hW : Below w.heap.size w ((w.alloc (.cells #[.int .u64 (off : Nat), .int .u64 (sym : Nat), .int .u64 (ty : Nat), .int .u64 (add : Nat)] 104)).alloc (.cells #[.bool big, .bool false] 34)) := below_more (below_more (Below.refl _ _) _) _
  have F0 : ((w.alloc (.cells #[.int .u64 (off : Nat), .int .u64 (sym : Nat), .int .u64 (ty : Nat), .int .u64 (add : Nat)] 104)).alloc (.cells #[.bool big, .bool false] 34)).cell? ⟨w.heap.size, 0, none⟩ = some (.int .u64 (off : Nat)) := cell_up _ (by simp)
  have F1 : ((w.alloc (.cells #[.int .u64 (off : Nat), .int .u64 (sym : Nat), .int .u64 (ty : Nat), .int .u64 (add : Nat)] 104)).alloc (.cells #[.bool big, .bool false] 34)).cell? ⟨w.heap.size, 1, none⟩ = some (.int .u64 (sym : Nat)) := cell_up _ (by simp)
  have F2 : ((w.alloc (.cells #[.int .u64 (off : Nat), .int .u64 (sym : Nat), .int .u64 (ty : Nat), .int .u64 (add : Nat)] 104)).alloc (.cells #[.bool big, .bool false] 34)).cell? ⟨w.heap.size, 2, none⟩ = some (.int .u64 (ty : Nat)) := cell_up _ (by simp)
  have F3 : ((w.alloc (.cells #[.int .u64 (off : Nat), .int .u64 (sym : Nat), .int .u64 (ty : Nat), .int .u64 (add : Nat)] 104)).alloc (.cells #[.bool big, .bool false] 34)).cell? ⟨w.heap.size, 3, none⟩ = some (.int .u64 (add : Nat)) := cell_up _ (by simp)
  have F4 : ((w.alloc (.cells #[.int .u64 (off : Nat), .int .u64 (sym : Nat), .int .u64 (ty : Nat), .int .u64 (add : Nat)] 104)).alloc (.cells #[.bool big, .bool false] 34)).cell? ⟨w.heap.size + 1, 0, none⟩ = some (.bool big) := by rw [Lib.cell_of_heap (two_new w (.cells #[.int .u64 (off : Nat), .int .u64 (sym : Nat), .int .u64 (ty : Nat), .int .u64 (add : Nat)] 104) (.cells #[.bool big, .bool false] 34))]; rfl
  have F5 : ((w.alloc (.cells #[.int .u64 (off : Nat), .int .u64 (sym : Nat), .int .u64 (ty : Nat), .int .u64 (add : Nat)] 104)).alloc (.cells #[.bool big, .bool false] 34)).cell? ⟨w.heap.size + 1, 1, none⟩ = some (.bool false) := by rw [Lib.cell_of_heap (two_new w (.cells #[.int .u64 (off : Nat), .int .u64 (sym : Nat), .int .u64 (ty : Nat), .int .u64 (add : Nat)] 104) (.cells #[.bool big, .bool false] 34))]; rfl
  have hz : w.heap.size + 1 < ((w.alloc (.cells #[.int .u64 (off : Nat), .int .u64 (sym : Nat), .int .u64 (ty : Nat), .int .u64 (add : Nat)] 104)).alloc (.cells #[.bool big, .bool false] 34)).heap.size := by simp
  generalize ((w.alloc (.cells #[.int .u64 (off : Nat), .int .u64 (sym : Nat), .int .u64 (ty : Nat), .int .u64 (add : Nat)] 104)).alloc (.cells #[.bool big, .bool false] 34)) = W at *
  refine (typeBits_f big _).mono ?_
  rintro e w1 ⟨rfl, rfl⟩
  go_wp2_with fail
  refine (word_f big _).mono ?_
  rintro e w2 ⟨rfl, rfl⟩
  have hW3 : Below w.heap.size w ((W.alloc (.cells #[.bool big, .bool false] 34)).alloc (.cells #[.bool big, .bool false] 34)) := below_more (below_more hW _) _
  replace F0 := cell_up (.cells #[.bool big, .bool false] 34) (cell_up (.cells #[.bool big, .bool false] 34) F0)
  replace F1 := cell_up (.cells #[.bool big, .bool false] 34) (cell_up (.cells #[.bool big, .bool false] 34) F1)
  replace F2 := cell_up (.cells #[.bool big, .bool false] 34) (cell_up (.cells #[.bool big, .bool false] 34) F2)
  replace F3 := cell_up (.cells #[.bool big, .bool false] 34) (cell_up (.cells #[.bool big, .bool false] 34) F3)
  replace F4 := cell_up (.cells #[.bool big, .bool false] 34) (cell_up (.cells #[.bool big, .bool false] 34) F4)
  replace F5 := cell_up (.cells #[.bool big, .bool false] 34) (cell_up (.cells #[.bool big, .bool false] 34) F5)
  replace hz : w.heap.size + 1 < ((W.alloc (.cells #[.bool big, .bool false] 34)).alloc (.cells #[.bool big, .bool false] 34)).heap.size := by simp; omega
  clear hW
  generalize ((W.alloc (.cells #[.bool big, .bool false] 34)).alloc (.cells #[.bool big, .bool false] 34)) = W3 at *
  go_wp2_with fail
  have hRN : RowN (W3.alloc (.cells #[.int .u64 (off : Nat), .int .u64 (add : Nat)] 29)) (some ⟨W3.heap.size, 0, none⟩) 2 [off, add] := RowN.of_rowT (L := [off, add]) (t := 29) (by simp) (heap_alloc_new W3 _) HN.out
  have HA := Lib.hid (allFit_is big false (some ⟨W3.heap.size, 0, none⟩) 2 2 [off, add] _ (by decide) hRN)
  rw [HF.out] at HA
  clear hRN
  refine HA.out.mono ?_
  rintro e w5 ⟨rfl, h5⟩
  have G1 : w5.cell? ⟨w.heap.size, 1, none⟩ = some (.int .u64 (sym : Nat)) := by rw [h5.cell (by show w.heap.size < (W3.alloc _).heap.size; simp; omega)]; exact cell_up _ F1
  have G2 : w5.cell? ⟨w.heap.size, 2, none⟩ = some (.int .u64 (ty : Nat)) := by rw [h5.cell (by show w.heap.size < (W3.alloc _).heap.size; simp; omega)]; exact cell_up _ F2
  have hB : Below w.heap.size w w5 := (below_more hW3 _).trans (h5.mono (below_more hW3 _).size)
  clear h5 F0 F1 F2 F3 F4 F5 HA
  cases b1
  · go_wp2
    go_ret
    exact ⟨by simp, hB⟩
  have hc2 := HC2.out
  have hc3 := HC3.out
  cases b2
  · go_wp2
    go_ret
    exact ⟨by simp, hB⟩
  cases b3
  all_goals
    go_wp2
    go_ret
    exact ⟨by simp, hB⟩
set_option maxRecDepth 100000 in
set_option maxHeartbeats 1000000 in
theorem rgood_Ft (big : Bool) (off sym ty add : Nat) (hn : ∀ n ∈ [off, add], n < 2 ^ 64) (w : World) (b1 b2 b3 : Bool) (hf : fitsTo true [off, add] 2 = b1) (h2 : ((ty : Int) / 4294967296 == 0) = b2) (h3 : ((sym : Int) / 4294967296 == 0) = b3) (d : Bool) (hadd : ((add : Int) != 0) = d) :
    Calls Try.prog 81 #[.agg #[.int .u64 (off : Nat), .int .u64 (sym : Nat), .int .u64 (ty : Nat), .int .u64 (add : Nat)], .agg #[.bool big, .bool true], .bool false] w fun e w' => e = .returned (.bool (!d && (b1 && b2 && b3))) ∧ Below w.heap.size w w' := by
  have HN := Lib.hid hn; clear hn
  have HF := Lib.hid hf; clear hf
  have HC2 := Lib.hid h2; clear h2
  have HC3 := Lib.hid h3; clear h3
  have hadd' : ((add : Int) == 0) = (!d) := by subst hadd; simp [bne]
  cases d
  rotate_left
  · go_enter Try.func81, Try.ntmps81
    go_wp2
    go_ret
    exact ⟨by simp, below_more (below_more (Below.refl _ _) _) _⟩
  go_enter Try.func81, Try.ntmps81
  go_wp2_with fail
  have hW : Below w.heap.size w ((w.alloc (.cells #[.int .u64 (off : Nat), .int .u64 (sym : Nat), .int .u64 (ty : Nat), .int .u64 (add : Nat)] 104)).alloc (.cells #[.bool big, .bool true] 34)) := below_more (below_more (Below.refl _ _) _) _
  have F0 : ((w.alloc (.cells #[.int .u64 (off : Nat), .int .u64 (sym : Nat), .int .u64 (ty : Nat), .int .u64 (add : Nat)] 104)).alloc (.cells #[.bool big, .bool true] 34)).cell? ⟨w.heap.size, 0, none⟩ = some (.int .u64 (off : Nat)) := cell_up _ (by simp)
  have F1 : ((w.alloc (.cells #[.int .u64 (off : Nat), .int .u64 (sym : Nat), .int .u64 (ty : Nat), .int .u64 (add : Nat)] 104)).alloc (.cells #[.bool big, .bool true] 34)).cell? ⟨w.heap.size, 1, none⟩ = some (.int .u64 (sym : Nat)) := cell_up _ (by simp)
  have F2 : ((w.alloc (.cells #[.int .u64 (off : Nat), .int .u64 (sym : Nat), .int .u64 (ty : Nat), .int .u64 (add : Nat)] 104)).alloc (.cells #[.bool big, .bool true] 34)).cell? ⟨w.heap.size, 2, none⟩ = some (.int .u64 (ty : Nat)) := cell_up _ (by simp)
  have F3 : ((w.alloc (.cells #[.int .u64 (off : Nat), .int .u64 (sym : Nat), .int .u64 (ty : Nat), .int .u64 (add : Nat)] 104)).alloc (.cells #[.bool big, .bool true] 34)).cell? ⟨w.heap.size, 3, none⟩ = some (.int .u64 (add : Nat)) := cell_up _ (by simp)
  have F4 : ((w.alloc (.cells #[.int .u64 (off : Nat), .int .u64 (sym : Nat), .int .u64 (ty : Nat), .int .u64 (add : Nat)] 104)).alloc (.cells #[.bool big, .bool true] 34)).cell? ⟨w.heap.size + 1, 0, none⟩ = some (.bool big) := by rw [Lib.cell_of_heap (two_new w (.cells #[.int .u64 (off : Nat), .int .u64 (sym : Nat), .int .u64 (ty : Nat), .int .u64 (add : Nat)] 104) (.cells #[.bool big, .bool true] 34))]; rfl
  have F5 : ((w.alloc (.cells #[.int .u64 (off : Nat), .int .u64 (sym : Nat), .int .u64 (ty : Nat), .int .u64 (add : Nat)] 104)).alloc (.cells #[.bool big, .bool true] 34)).cell? ⟨w.heap.size + 1, 1, none⟩ = some (.bool true) := by rw [Lib.cell_of_heap (two_new w (.cells #[.int .u64 (off : Nat), .int .u64 (sym : Nat), .int .u64 (ty : Nat), .int .u64 (add : Nat)] 104) (.cells #[.bool big, .bool true] 34))]; rfl
  have hz : w.heap.size + 1 < ((w.alloc (.cells #[.int .u64 (off : Nat), .int .u64 (sym : Nat), .int .u64 (ty : Nat), .int .u64 (add : Nat)] 104)).alloc (.cells #[.bool big, .bool true] 34)).heap.size := by simp
  generalize ((w.alloc (.cells #[.int .u64 (off : Nat), .int .u64 (sym : Nat), .int .u64 (ty : Nat), .int .u64 (add : Nat)] 104)).alloc (.cells #[.bool big, .bool true] 34)) = W at *
  refine (typeBits_t big _).mono ?_
  rintro e w1 ⟨rfl, rfl⟩
  go_wp2_with fail
  refine (word_t big _).mono ?_
  rintro e w2 ⟨rfl, rfl⟩
  have hW3 : Below w.heap.size w ((W.alloc (.cells #[.bool big, .bool true] 34)).alloc (.cells #[.bool big, .bool true] 34)) := below_more (below_more hW _) _
  replace F0 := cell_up (.cells #[.bool big, .bool true] 34) (cell_up (.cells #[.bool big, .bool true] 34) F0)
  replace F1 := cell_up (.cells #[.bool big, .bool true] 34) (cell_up (.cells #[.bool big, .bool true] 34) F1)
  replace F2 := cell_up (.cells #[.bool big, .bool true] 34) (cell_up (.cells #[.bool big, .bool true] 34) F2)
  replace F3 := cell_up (.cells #[.bool big, .bool true] 34) (cell_up (.cells #[.bool big, .bool true] 34) F3)
  replace F4 := cell_up (.cells #[.bool big, .bool true] 34) (cell_up (.cells #[.bool big, .bool true] 34) F4)
  replace F5 := cell_up (.cells #[.bool big, .bool true] 34) (cell_up (.cells #[.bool big, .bool true] 34) F5)
  replace hz : w.heap.size + 1 < ((W.alloc (.cells #[.bool big, .bool true] 34)).alloc (.cells #[.bool big, .bool true] 34)).heap.size := by simp; omega
  clear hW
  generalize ((W.alloc (.cells #[.bool big, .bool true] 34)).alloc (.cells #[.bool big, .bool true] 34)) = W3 at *
  go_wp2_with fail
  have hRN : RowN (W3.alloc (.cells #[.int .u64 (off : Nat), .int .u64 (add : Nat)] 29)) (some ⟨W3.heap.size, 0, none⟩) 2 [off, add] := RowN.of_rowT (L := [off, add]) (t := 29) (by simp) (heap_alloc_new W3 _) HN.out
  have HA := Lib.hid (allFit_is big true (some ⟨W3.heap.size, 0, none⟩) 2 2 [off, add] _ (by decide) hRN)
  rw [HF.out] at HA
  clear hRN
  refine HA.out.mono ?_
  rintro e w5 ⟨rfl, h5⟩
  have G1 : w5.cell? ⟨w.heap.size, 1, none⟩ = some (.int .u64 (sym : Nat)) := by rw [h5.cell (by show w.heap.size < (W3.alloc _).heap.size; simp; omega)]; exact cell_up _ F1
  have G2 : w5.cell? ⟨w.heap.size, 2, none⟩ = some (.int .u64 (ty : Nat)) := by rw [h5.cell (by show w.heap.size < (W3.alloc _).heap.size; simp; omega)]; exact cell_up _ F2
  have hB : Below w.heap.size w w5 := (below_more hW3 _).trans (h5.mono (below_more hW3 _).size)
  clear h5 F0 F1 F2 F3 F4 F5 HA
  cases b1
  · go_wp2
    go_ret
    exact ⟨by simp, hB⟩
  have hc2 := HC2.out
  have hc3 := HC3.out
  cases b2
  · go_wp2
    go_ret
    exact ⟨by simp, hB⟩
  cases b3
  all_goals
    go_wp2
    go_ret
    exact ⟨by simp, hB⟩
end Go.Proofs.Ytnmklmaclmjfbaa
