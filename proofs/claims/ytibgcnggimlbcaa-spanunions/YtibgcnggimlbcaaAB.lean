/- The walk of the law SpanParts: it returns true at every span and text. Conditions: those written in each theorem. -/
import Derived.Test.YtibgcnggimlbcaaAA
import Derived.OpenShut
namespace Go.Proofs.Ytibgcnggimlbcaa
open Go.RowKit Go.Shelf Go.Sort
theorem u64_len (n : Nat) (h : n ≤ 9223372036854775807) : IntKind.u64.wrap (n : Int) = (n : Int) := by rw [IntKind.wrap_u64]; omega
theorem u64_add' (a b : Nat) (h : a + b ≤ 9223372036854775807) : IntKind.u64.wrap ((a : Int) + (b : Int)) = (a : Int) + (b : Int) := by rw [IntKind.wrap_u64]; omega
set_option maxRecDepth 100000 in
set_option maxHeartbeats 1000000 in
theorem parts_yes (x y : Nat) (t : ByteArray) (w : World) (hx : x < 2 ^ 64) (hy : y < 2 ^ 64) (ht : t.size ≤ maxLen) (h : x + y ≤ t.size) :
    Calls Try.prog 8 #[.int .u64 (x : Int), .int .u64 (y : Int), .string t] w fun e w' => e = .returned (.bool true) ∧ Below w.heap.size w w' := by
  have hp := fun W => part_yes x y t W hx hy ht h
  unfold maxLen at ht
  have hn := fun W => in_any x y t.size W hx hy (by omega)
  have hr : inB x y t.size = true := by simp [inB, h]
  rw [hr] at hn
  have hw := u64_len t.size (by omega)
  have hsub := u64_sub' t.size x (by omega) (by omega)
  have hadd := u64_add' x y (by omega)
  have hd1 : decide (x ≤ t.size) = true := by simp; omega
  have hd2 : decide (y ≤ t.size - x) = true := by simp; omega
  have i0 : (0 : Int) ≤ (x : Int) := by omega
  have i1 : (x : Int) ≤ (x : Int) + (y : Int) := by omega
  have i2 : (x : Int) + (y : Int) ≤ (t.size : Int) := by omega
  generalize t.size - x = df at *
  have HPT := Lib.hid hp
  have HIN := Lib.hid hn
  clear hx hy ht hr hp hn h
  go_enter Try.func8, Try.ntmps8
  go_wp2_with fail
  refine (speaks2 _).mono ?_
  rintro e w1 ⟨rfl, hb1⟩
  go_wp2_with fail
  refine (HPT.out _).mono ?_
  rintro e w2 ⟨rfl, hb2⟩
  have c0 : w2.cell? ⟨w1.heap.size, 0, none⟩ = some (.int .u64 (x : Int)) := by rw [hb2.cell (by simp)]; simp
  have c1 : w2.cell? ⟨w1.heap.size, 1, none⟩ = some (.int .u64 (y : Int)) := by rw [hb2.cell (by simp)]; simp
  go_wp2_with fail
  refine (HIN.out _).mono ?_
  rintro e w3 ⟨rfl, hb3⟩
  have hB2 : Below w.heap.size w w2 := (hb1.alloc hb1.size _).trans (hb2.mono (by have := hb1.size; simp; omega))
  clear c0 c1
  go_wp2
  go_ret
  exact ⟨by simp, hB2.trans (hb3.mono hB2.size)⟩
set_option maxRecDepth 100000 in
set_option maxHeartbeats 1000000 in
theorem parts_no (x y : Nat) (t : ByteArray) (w : World) (hx : x < 2 ^ 64) (hy : y < 2 ^ 64) (ht : t.size ≤ maxLen) (h : ¬ x + y ≤ t.size) :
    Calls Try.prog 8 #[.int .u64 (x : Int), .int .u64 (y : Int), .string t] w fun e w' => e = .returned (.bool true) ∧ Below w.heap.size w w' := by
  have hp := fun W => part_no x y t W hx hy ht h
  unfold maxLen at ht
  have hn := fun W => in_any x y t.size W hx hy (by omega)
  have hr : inB x y t.size = false := by simp [inB]; omega
  rw [hr] at hn
  have hw := u64_len t.size (by omega)
  have hcase : decide (x ≤ t.size) = false ∨ (decide (x ≤ t.size) = true ∧ decide (y ≤ t.size - x) = false ∧ IntKind.u64.wrap ((t.size : Int) - (x : Int)) = ((t.size - x : Nat) : Int)) := by
    by_cases hxt : x ≤ t.size
    · right; exact ⟨by simpa using hxt, by simp; omega, u64_sub' t.size x (by omega) (by omega)⟩
    · left; simpa using hxt
  generalize t.size - x = df at *
  have HPT := Lib.hid hp
  have HIN := Lib.hid hn
  clear hx hy ht hr hp hn h
  rcases hcase with hd1 | ⟨hd1, hd2, hsub⟩
  all_goals
    go_enter Try.func8, Try.ntmps8
    go_wp2_with fail
    refine (speaks2 _).mono ?_
    rintro e w1 ⟨rfl, hb1⟩
    go_wp2_with fail
    refine (HPT.out _).mono ?_
    rintro e w2 ⟨rfl, hb2⟩
    have c0 : w2.cell? ⟨w1.heap.size, 0, none⟩ = some (.int .u64 (x : Int)) := by rw [hb2.cell (by simp)]; simp
    have c1 : w2.cell? ⟨w1.heap.size, 1, none⟩ = some (.int .u64 (y : Int)) := by rw [hb2.cell (by simp)]; simp
    go_wp2_with fail
    refine (HIN.out _).mono ?_
    rintro e w3 ⟨rfl, hb3⟩
    have hB2 : Below w.heap.size w w2 := (hb1.alloc hb1.size _).trans (hb2.mono (by have := hb1.size; simp; omega))
    clear c0 c1
    go_wp2
    go_ret
    exact ⟨by simp, hB2.trans (hb3.mono hB2.size)⟩
theorem nat_of_wf' {a : Int} (h : (Lit.int .u64 a).wf = true) : ∃ n : Nat, a = n ∧ n < 2 ^ 64 := by
  have b := bounds_u64 h
  exact ⟨a.toNat, by omega, by omega⟩
theorem parts_wf (a b : Int) (t : ByteArray) (h0 : (Lit.int .u64 a).wf = true) (h1 : (Lit.int .u64 b).wf = true) (ht : t.size ≤ maxLen) (w : World) :
    Calls Try.prog 8 #[.int .u64 a, .int .u64 b, .string t] w fun e w' => e = .returned (.bool true) ∧ Below w.heap.size w w' := by
  obtain ⟨x, rfl, hx⟩ := nat_of_wf' h0
  obtain ⟨y, rfl, hy⟩ := nat_of_wf' h1
  by_cases h : x + y ≤ t.size
  · exact parts_yes x y t w hx hy ht h
  · exact parts_no x y t w hx hy ht h
end Go.Proofs.Ytibgcnggimlbcaa
