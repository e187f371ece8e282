/- Contracts of layer 9, relocations. Conditions: those written in each theorem. -/
import Derived.Laws.CopyOwn
import Derived.Laws.Tables
import Derived.Deep.Cut
import Derived.Test.YtddlflabdlgnbaaXB
namespace Go.Proofs.Ytddlflabdlgnbaa
open Go.RowKit
theorem info_sum (k sym ty : Nat) (h : sym * k + ty < 2 ^ 64) : IntKind.u64.wrap (IntKind.u64.wrap ((sym : Int) * (k : Int)) + (ty : Int)) = ((sym * k + ty : Nat) : Int) := by
  have e1 : IntKind.u64.wrap ((sym : Int) * (k : Int)) = ((sym * k : Nat) : Int) := by
    rw [← Int.natCast_mul, IntKind.wrap_u64]
    generalize sym * k = y at *
    omega
  rw [e1, IntKind.wrap_u64]
  generalize sym * k = y at *
  omega
set_option maxRecDepth 100000 in
set_option maxHeartbeats 2000000 in
theorem rref_yes_Tf (big : Bool) (off sym ty add : Nat) (S : ByteArray) (ok : Bool) (hty : decide ((256 : Int) ≤ (ty : Int)) = false) (hsym : decide ((16777216 : Int) ≤ (sym : Int)) = false) (inf : Nat) (hinf : IntKind.u64.wrap (IntKind.u64.wrap ((sym : Int) * 256) + (ty : Int)) = (inf : Nat)) (hn : ∀ n ∈ [off, inf, add], n < 2 ^ 64) (hrec : RecIs big false [0, 0, 0] [off, inf, add] 3 3 S ok) (w : World) :
    Calls Try.prog 24 #[.bool false, .bool big, .bool true, .agg #[.int .u64 (off : Nat), .int .u64 (sym : Nat), .int .u64 (ty : Nat), .int .u64 (add : Nat)]] w fun e w' => e = .returned (.tuple #[.string S, .bool ok]) ∧ Below w.heap.size w w' := by
  have HN := Lib.hid hn; clear hn
  have HREC := Lib.hid hrec; clear hrec
  have HI := Lib.hid hinf; clear hinf
  go_enter Try.func24, Try.ntmps24
  go_upto_region 7 with (fail)
  rw [HI.out]
  have hW : Below w.heap.size w (w.alloc (.cells #[.int .u64 (off : Nat), .int .u64 (sym : Nat), .int .u64 (ty : Nat), .int .u64 (add : Nat)] 51)) := below_more (Below.refl _ _) _
  have F0 : (w.alloc (.cells #[.int .u64 (off : Nat), .int .u64 (sym : Nat), .int .u64 (ty : Nat), .int .u64 (add : Nat)] 51)).cell? ⟨w.heap.size, 0, none⟩ = some (.int .u64 (off : Nat)) := by simp
  have F1 : (w.alloc (.cells #[.int .u64 (off : Nat), .int .u64 (sym : Nat), .int .u64 (ty : Nat), .int .u64 (add : Nat)] 51)).cell? ⟨w.heap.size, 3, none⟩ = some (.int .u64 (add : Nat)) := by simp
  have hz : w.heap.size < (w.alloc (.cells #[.int .u64 (off : Nat), .int .u64 (sym : Nat), .int .u64 (ty : Nat), .int .u64 (add : Nat)] 51)).heap.size := by simp
  generalize (w.alloc (.cells #[.int .u64 (off : Nat), .int .u64 (sym : Nat), .int .u64 (ty : Nat), .int .u64 (add : Nat)] 51)) = W at *
  go_wp2_with fail
  have hr1 : RowI ((W.alloc (.cells #[.int .i64 0, .int .i64 0, .int .i64 0] 3)).alloc (.cells #[.int .u64 (off : Nat), .int .u64 (inf : Nat), .int .u64 (add : Nat)] 32)) (some ⟨W.heap.size, 0, none⟩) 3 [0, 0, 0] := RowI.of_rowT (L := [0, 0, 0]) (t := 3) (by simp; omega) (by rw [Below.heap_alloc _ _ _ (by simp)]; exact heap_alloc_new _ _)
  have hr2 : RowN ((W.alloc (.cells #[.int .i64 0, .int .i64 0, .int .i64 0] 3)).alloc (.cells #[.int .u64 (off : Nat), .int .u64 (inf : Nat), .int .u64 (add : Nat)] 32)) (some ⟨W.heap.size + 1, 0, none⟩) 3 [off, inf, add] := RowN.of_rowT (L := [off, inf, add]) (t := 32) (by simp) (two_new _ _ _) HN.out
  have HC := Lib.hid (refRecord_is big false (some ⟨W.heap.size, 0, none⟩) (some ⟨W.heap.size + 1, 0, none⟩) 3 3 3 3 [0, 0, 0] [off, inf, add] S ok _ (by decide) hr1 hr2 HREC.out)
  clear hr1 hr2
  refine HC.out.mono ?_
  rintro e w3 ⟨rfl, h3⟩
  have hB : Below w.heap.size w w3 := (below_more (below_more hW _) _).trans (h3.mono (below_more (below_more hW _) _).size)
  clear h3 HC
  go_wp2
  go_ret2
  exact ⟨rfl, hB⟩
set_option maxRecDepth 100000 in
theorem rref_ty_Tf (big : Bool) (off sym ty add : Nat) (hty : decide ((256 : Int) ≤ (ty : Int)) = true) (w : World) :
    Calls Try.prog 24 #[.bool false, .bool big, .bool true, .agg #[.int .u64 (off : Nat), .int .u64 (sym : Nat), .int .u64 (ty : Nat), .int .u64 (add : Nat)]] w fun e w' => e = .returned (.tuple #[.string ⟨#[]⟩, .bool false]) ∧ Below w.heap.size w w' := by
  go_enter Try.func24, Try.ntmps24
  go_wp2
  go_ret2
  exact ⟨rfl, below_more (Below.refl _ _) _⟩
set_option maxRecDepth 100000 in
theorem rref_sym_Tf (big : Bool) (off sym ty add : Nat) (hty : decide ((256 : Int) ≤ (ty : Int)) = false) (hsym : decide ((16777216 : Int) ≤ (sym : Int)) = true) (w : World) :
    Calls Try.prog 24 #[.bool false, .bool big, .bool true, .agg #[.int .u64 (off : Nat), .int .u64 (sym : Nat), .int .u64 (ty : Nat), .int .u64 (add : Nat)]] w fun e w' => e = .returned (.tuple #[.string ⟨#[]⟩, .bool false]) ∧ Below w.heap.size w w' := by
  go_enter Try.func24, Try.ntmps24
  go_wp2
  go_ret2
  exact ⟨rfl, below_more (Below.refl _ _) _⟩
set_option maxRecDepth 100000 in
set_option maxHeartbeats 2000000 in
theorem rref_yes_Ff (big : Bool) (off sym ty add : Nat) (S : ByteArray) (ok : Bool) (hty : decide ((256 : Int) ≤ (ty : Int)) = false) (hsym : decide ((16777216 : Int) ≤ (sym : Int)) = false) (hadd : add = 0) (inf : Nat) (hinf : IntKind.u64.wrap (IntKind.u64.wrap ((sym : Int) * 256) + (ty : Int)) = (inf : Nat)) (hn : ∀ n ∈ [off, inf], n < 2 ^ 64) (hrec : RecIs big false [0, 0] [off, inf] 2 2 S ok) (w : World) :
    Calls Try.prog 24 #[.bool false, .bool big, .bool false, .agg #[.int .u64 (off : Nat), .int .u64 (sym : Nat), .int .u64 (ty : Nat), .int .u64 (add : Nat)]] w fun e w' => e = .returned (.tuple #[.string S, .bool ok]) ∧ Below w.heap.size w w' := by
  have HN := Lib.hid hn; clear hn
  have HREC := Lib.hid hrec; clear hrec
  have HI := Lib.hid hinf; clear hinf
  subst hadd
  go_enter Try.func24, Try.ntmps24
  go_upto_region 7 with (fail)
  rw [HI.out]
  have hW : Below w.heap.size w (w.alloc (.cells #[.int .u64 (off : Nat), .int .u64 (sym : Nat), .int .u64 (ty : Nat), .int .u64 (0 : Nat)] 51)) := below_more (Below.refl _ _) _
  have F0 : (w.alloc (.cells #[.int .u64 (off : Nat), .int .u64 (sym : Nat), .int .u64 (ty : Nat), .int .u64 (0 : Nat)] 51)).cell? ⟨w.heap.size, 0, none⟩ = some (.int .u64 (off : Nat)) := by simp
  have hz : w.heap.size < (w.alloc (.cells #[.int .u64 (off : Nat), .int .u64 (sym : Nat), .int .u64 (ty : Nat), .int .u64 (0 : Nat)] 51)).heap.size := by simp
  generalize (w.alloc (.cells #[.int .u64 (off : Nat), .int .u64 (sym : Nat), .int .u64 (ty : Nat), .int .u64 (0 : Nat)] 51)) = W at *
  go_wp2_with fail
  have hr1 : RowI ((W.alloc (.cells #[.int .i64 0, .int .i64 0] 3)).alloc (.cells #[.int .u64 (off : Nat), .int .u64 (inf : Nat)] 32)) (some ⟨W.heap.size, 0, none⟩) 2 [0, 0] := RowI.of_rowT (L := [0, 0]) (t := 3) (by simp; omega) (by rw [Below.heap_alloc _ _ _ (by simp)]; exact heap_alloc_new _ _)
  have hr2 : RowN ((W.alloc (.cells #[.int .i64 0, .int .i64 0] 3)).alloc (.cells #[.int .u64 (off : Nat), .int .u64 (inf : Nat)] 32)) (some ⟨W.heap.size + 1, 0, none⟩) 2 [off, inf] := RowN.of_rowT (L := [off, inf]) (t := 32) (by simp) (two_new _ _ _) HN.out
  have HC := Lib.hid (refRecord_is big false (some ⟨W.heap.size, 0, none⟩) (some ⟨W.heap.size + 1, 0, none⟩) 2 2 2 2 [0, 0] [off, inf] S ok _ (by decide) hr1 hr2 HREC.out)
  clear hr1 hr2
  refine HC.out.mono ?_
  rintro e w3 ⟨rfl, h3⟩
  have hB : Below w.heap.size w w3 := (below_more (below_more hW _) _).trans (h3.mono (below_more (below_more hW _) _).size)
  clear h3 HC
  go_wp2
  go_ret2
  exact ⟨rfl, hB⟩
set_option maxRecDepth 100000 in
theorem rref_ty_Ff (big : Bool) (off sym ty add : Nat) (hty : decide ((256 : Int) ≤ (ty : Int)) = true) (w : World) :
    Calls Try.prog 24 #[.bool false, .bool big, .bool false, .agg #[.int .u64 (off : Nat), .int .u64 (sym : Nat), .int .u64 (ty : Nat), .int .u64 (add : Nat)]] w fun e w' => e = .returned (.tuple #[.string ⟨#[]⟩, .bool false]) ∧ Below w.heap.size w w' := by
  go_enter Try.func24, Try.ntmps24
  go_wp2
  go_ret2
  exact ⟨rfl, below_more (Below.refl _ _) _⟩
set_option maxRecDepth 100000 in
theorem rref_sym_Ff (big : Bool) (off sym ty add : Nat) (hty : decide ((256 : Int) ≤ (ty : Int)) = false) (hsym : decide ((16777216 : Int) ≤ (sym : Int)) = true) (w : World) :
    Calls Try.prog 24 #[.bool false, .bool big, .bool false, .agg #[.int .u64 (off : Nat), .int .u64 (sym : Nat), .int .u64 (ty : Nat), .int .u64 (add : Nat)]] w fun e w' => e = .returned (.tuple #[.string ⟨#[]⟩, .bool false]) ∧ Below w.heap.size w w' := by
  go_enter Try.func24, Try.ntmps24
  go_wp2
  go_ret2
  exact ⟨rfl, below_more (Below.refl _ _) _⟩
set_option maxRecDepth 100000 in
theorem rref_add_Ff (big : Bool) (off sym ty add : Nat) (hty : decide ((256 : Int) ≤ (ty : Int)) = false) (hsym : decide ((16777216 : Int) ≤ (sym : Int)) = false) (hadd : ((add : Int) != 0) = true) (w : World) :
    Calls Try.prog 24 #[.bool false, .bool big, .bool false, .agg #[.int .u64 (off : Nat), .int .u64 (sym : Nat), .int .u64 (ty : Nat), .int .u64 (add : Nat)]] w fun e w' => e = .returned (.tuple #[.string ⟨#[]⟩, .bool false]) ∧ Below w.heap.size w w' := by
  have hadd2 : ((add : Int) == 0) = false := by simpa [bne] using hadd
  go_enter Try.func24, Try.ntmps24
  go_wp2
  go_ret2
  exact ⟨rfl, below_more (Below.refl _ _) _⟩
set_option maxRecDepth 100000 in
set_option maxHeartbeats 2000000 in
theorem rref_yes_Tt (big : Bool) (off sym ty add : Nat) (S : ByteArray) (ok : Bool) (hty : decide ((4294967296 : Int) ≤ (ty : Int)) = false) (hsym : decide ((4294967296 : Int) ≤ (sym : Int)) = false) (inf : Nat) (hinf : IntKind.u64.wrap (IntKind.u64.wrap ((sym : Int) * 4294967296) + (ty : Int)) = (inf : Nat)) (hn : ∀ n ∈ [off, inf, add], n < 2 ^ 64) (hrec : RecIs big true [0, 0, 0] [off, inf, add] 3 3 S ok) (w : World) :
    Calls Try.prog 24 #[.bool true, .bool big, .bool true, .agg #[.int .u64 (off : Nat), .int .u64 (sym : Nat), .int .u64 (ty : Nat), .int .u64 (add : Nat)]] w fun e w' => e = .returned (.tuple #[.string S, .bool ok]) ∧ Below w.heap.size w w' := by
  have HN := Lib.hid hn; clear hn
  have HREC := Lib.hid hrec; clear hrec
  have HI := Lib.hid hinf; clear hinf
  go_enter Try.func24, Try.ntmps24
  go_upto_region 7 with (fail)
  rw [HI.out]
  have hW : Below w.heap.size w (w.alloc (.cells #[.int .u64 (off : Nat), .int .u64 (sym : Nat), .int .u64 (ty : Nat), .int .u64 (add : Nat)] 51)) := below_more (Below.refl _ _) _
  have F0 : (w.alloc (.cells #[.int .u64 (off : Nat), .int .u64 (sym : Nat), .int .u64 (ty : Nat), .int .u64 (add : Nat)] 51)).cell? ⟨w.heap.size, 0, none⟩ = some (.int .u64 (off : Nat)) := by simp
  have F1 : (w.alloc (.cells #[.int .u64 (off : Nat), .int .u64 (sym : Nat), .int .u64 (ty : Nat), .int .u64 (add : Nat)] 51)).cell? ⟨w.heap.size, 3, none⟩ = some (.int .u64 (add : Nat)) := by simp
  have hz : w.heap.size < (w.alloc (.cells #[.int .u64 (off : Nat), .int .u64 (sym : Nat), .int .u64 (ty : Nat), .int .u64 (add : Nat)] 51)).heap.size := by simp
  generalize (w.alloc (.cells #[.int .u64 (off : Nat), .int .u64 (sym : Nat), .int .u64 (ty : Nat), .int .u64 (add : Nat)] 51)) = W at *
  go_wp2_with fail
  have hr1 : RowI ((W.alloc (.cells #[.int .i64 0, .int .i64 0, .int .i64 0] 3)).alloc (.cells #[.int .u64 (off : Nat), .int .u64 (inf : Nat), .int .u64 (add : Nat)] 32)) (some ⟨W.heap.size, 0, none⟩) 3 [0, 0, 0] := RowI.of_rowT (L := [0, 0, 0]) (t := 3) (by simp; omega) (by rw [Below.heap_alloc _ _ _ (by simp)]; exact heap_alloc_new _ _)
  have hr2 : RowN ((W.alloc (.cells #[.int .i64 0, .int .i64 0, .int .i64 0] 3)).alloc (.cells #[.int .u64 (off : Nat), .int .u64 (inf : Nat), .int .u64 (add : Nat)] 32)) (some ⟨W.heap.size + 1, 0, none⟩) 3 [off, inf, add] := RowN.of_rowT (L := [off, inf, add]) (t := 32) (by simp) (two_new _ _ _) HN.out
  have HC := Lib.hid (refRecord_is big true (some ⟨W.heap.size, 0, none⟩) (some ⟨W.heap.size + 1, 0, none⟩) 3 3 3 3 [0, 0, 0] [off, inf, add] S ok _ (by decide) hr1 hr2 HREC.out)
  clear hr1 hr2
  refine HC.out.mono ?_
  rintro e w3 ⟨rfl, h3⟩
  have hB : Below w.heap.size w w3 := (below_more (below_more hW _) _).trans (h3.mono (below_more (below_more hW _) _).size)
  clear h3 HC
  go_wp2
  go_ret2
  exact ⟨rfl, hB⟩
set_option maxRecDepth 100000 in
theorem rref_ty_Tt (big : Bool) (off sym ty add : Nat) (hty : decide ((4294967296 : Int) ≤ (ty : Int)) = true) (w : World) :
    Calls Try.prog 24 #[.bool true, .bool big, .bool true, .agg #[.int .u64 (off : Nat), .int .u64 (sym : Nat), .int .u64 (ty : Nat), .int .u64 (add : Nat)]] w fun e w' => e = .returned (.tuple #[.string ⟨#[]⟩, .bool false]) ∧ Below w.heap.size w w' := by
  go_enter Try.func24, Try.ntmps24
  go_wp2
  go_ret2
  exact ⟨rfl, below_more (Below.refl _ _) _⟩
set_option maxRecDepth 100000 in
theorem rref_sym_Tt (big : Bool) (off sym ty add : Nat) (hty : decide ((4294967296 : Int) ≤ (ty : Int)) = false) (hsym : decide ((4294967296 : Int) ≤ (sym : Int)) = true) (w : World) :
    Calls Try.prog 24 #[.bool true, .bool big, .bool true, .agg #[.int .u64 (off : Nat), .int .u64 (sym : Nat), .int .u64 (ty : Nat), .int .u64 (add : Nat)]] w fun e w' => e = .returned (.tuple #[.string ⟨#[]⟩, .bool false]) ∧ Below w.heap.size w w' := by
  go_enter Try.func24, Try.ntmps24
  go_wp2
  go_ret2
  exact ⟨rfl, below_more (Below.refl _ _) _⟩
set_option maxRecDepth 100000 in
set_option maxHeartbeats 2000000 in
theorem rref_yes_Ft (big : Bool) (off sym ty add : Nat) (S : ByteArray) (ok : Bool) (hty : decide ((4294967296 : Int) ≤ (ty : Int)) = false) (hsym : decide ((4294967296 : Int) ≤ (sym : Int)) = false) (hadd : add = 0) (inf : Nat) (hinf : IntKind.u64.wrap (IntKind.u64.wrap ((sym : Int) * 4294967296) + (ty : Int)) = (inf : Nat)) (hn : ∀ n ∈ [off, inf], n < 2 ^ 64) (hrec : RecIs big true [0, 0] [off, inf] 2 2 S ok) (w : World) :
    Calls Try.prog 24 #[.bool true, .bool big, .bool false, .agg #[.int .u64 (off : Nat), .int .u64 (sym : Nat), .int .u64 (ty : Nat), .int .u64 (add : Nat)]] w fun e w' => e = .returned (.tuple #[.string S, .bool ok]) ∧ Below w.heap.size w w' := by
  have HN := Lib.hid hn; clear hn
  have HREC := Lib.hid hrec; clear hrec
  have HI := Lib.hid hinf; clear hinf
  subst hadd
  go_enter Try.func24, Try.ntmps24
  go_upto_region 7 with (fail)
  rw [HI.out]
  have hW : Below w.heap.size w (w.alloc (.cells #[.int .u64 (off : Nat), .int .u64 (sym : Nat), .int .u64 (ty : Nat), .int .u64 (0 : Nat)] 51)) := below_more (Below.refl _ _) _
  have F0 : (w.alloc (.cells #[.int .u64 (off : Nat), .int .u64 (sym : Nat), .int .u64 (ty : Nat), .int .u64 (0 : Nat)] 51)).cell? ⟨w.heap.size, 0, none⟩ = some (.int .u64 (off : Nat)) := by simp
  have hz : w.heap.size < (w.alloc (.cells #[.int .u64 (off : Nat), .int .u64 (sym : Nat), .int .u64 (ty : Nat), .int .u64 (0 : Nat)] 51)).heap.size := by simp
  generalize (w.alloc (.cells #[.int .u64 (off : Nat), .int .u64 (sym : Nat), .int .u64 (ty : Nat), .int .u64 (0 : Nat)] 51)) = W at *
  go_wp2_with fail
  have hr1 : RowI ((W.alloc (.cells #[.int .i64 0, .int .i64 0] 3)).alloc (.cells #[.int .u64 (off : Nat), .int .u64 (inf : Nat)] 32)) (some ⟨W.heap.size, 0, none⟩) 2 [0, 0] := RowI.of_rowT (L := [0, 0]) (t := 3) (by simp; omega) (by rw [Below.heap_alloc _ _ _ (by simp)]; exact heap_alloc_new _ _)
  have hr2 : RowN ((W.alloc (.cells #[.int .i64 0, .int .i64 0] 3)).alloc (.cells #[.int .u64 (off : Nat), .int .u64 (inf : Nat)] 32)) (some ⟨W.heap.size + 1, 0, none⟩) 2 [off, inf] := RowN.of_rowT (L := [off, inf]) (t := 32) (by simp) (two_new _ _ _) HN.out
  have HC := Lib.hid (refRecord_is big true (some ⟨W.heap.size, 0, none⟩) (some ⟨W.heap.size + 1, 0, none⟩) 2 2 2 2 [0, 0] [off, inf] S ok _ (by decide) hr1 hr2 HREC.out)
  clear hr1 hr2
  refine HC.out.mono ?_
  rintro e w3 ⟨rfl, h3⟩
  have hB : Below w.heap.size w w3 := (below_more (below_more hW _) _).trans (h3.mono (below_more (below_more hW _) _).size)
  clear h3 HC
  go_wp2
  go_ret2
  exact ⟨rfl, hB⟩
set_option maxRecDepth 100000 in
theorem rref_ty_Ft (big : Bool) (off sym ty add : Nat) (hty : decide ((4294967296 : Int) ≤ (ty : Int)) = true) (w : World) :
    Calls Try.prog 24 #[.bool true, .bool big, .bool false, .agg #[.int .u64 (off : Nat), .int .u64 (sym : Nat), .int .u64 (ty : Nat), .int .u64 (add : Nat)]] w fun e w' => e = .returned (.tuple #[.string ⟨#[]⟩, .bool false]) ∧ Below w.heap.size w w' := by
  go_enter Try.func24, Try.ntmps24
  go_wp2
  go_ret2
  exact ⟨rfl, below_more (Below.refl _ _) _⟩
set_option maxRecDepth 100000 in
theorem rref_sym_Ft (big : Bool) (off sym ty add : Nat) (hty : decide ((4294967296 : Int) ≤ (ty : Int)) = false) (hsym : decide ((4294967296 : Int) ≤ (sym : Int)) = true) (w : World) :
    Calls Try.prog 24 #[.bool true, .bool big, .bool false, .agg #[.int .u64 (off : Nat), .int .u64 (sym : Nat), .int .u64 (ty : Nat), .int .u64 (add : Nat)]] w fun e w' => e = .returned (.tuple #[.string ⟨#[]⟩, .bool false]) ∧ Below w.heap.size w w' := by
  go_enter Try.func24, Try.ntmps24
  go_wp2
  go_ret2
  exact ⟨rfl, below_more (Below.refl _ _) _⟩
set_option maxRecDepth 100000 in
theorem rref_add_Ft (big : Bool) (off sym ty add : Nat) (hty : decide ((4294967296 : Int) ≤ (ty : Int)) = false) (hsym : decide ((4294967296 : Int) ≤ (sym : Int)) = false) (hadd : ((add : Int) != 0) = true) (w : World) :
    Calls Try.prog 24 #[.bool true, .bool big, .bool false, .agg #[.int .u64 (off : Nat), .int .u64 (sym : Nat), .int .u64 (ty : Nat), .int .u64 (add : Nat)]] w fun e w' => e = .returned (.tuple #[.string ⟨#[]⟩, .bool false]) ∧ Below w.heap.size w w' := by
  have hadd2 : ((add : Int) == 0) = false := by simpa [bne] using hadd
  go_enter Try.func24, Try.ntmps24
  go_wp2
  go_ret2
  exact ⟨rfl, below_more (Below.refl _ _) _⟩
end Go.Proofs.Ytddlflabdlgnbaa
