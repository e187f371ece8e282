/- Contracts of a header's package, by gen_hdr.py. Conditions: those written in each theorem. -/
import Derived.Laws.CopyOwn
import Derived.Laws.Tables
import Derived.Test.YtmbndepgkglaeaaDoorPB
import Derived.Test.YtmbndepgkglaeaaDoorPD
import Derived.Test.YtmbndepgkglaeaaDoorPE
import Derived.Test.YtmbndepgkglaeaaDoorMB
namespace Go.Proofs.YtmbndepgkglaeaaDoor
open Go.RowKit
def pSizes (wide : Bool) : List Int := cond wide ptSizes pfSizes
/-- The numbers in the order of the form. -/
def pNs (wide : Bool) (n0 n1 n2 n3 n4 n5 n6 n7 : Nat) : List Nat := cond wide [n0, n1, n2, n3, n4, n5, n6, n7] [n0, n2, n3, n4, n5, n6, n1, n7]
/-- Where a field stands in the order of the form. -/
def pPos (wide : Bool) (j : Nat) : Nat := cond wide j (([0, 6, 1, 2, 3, 4, 5, 7] : List Nat).getD j 0)
/-- How many bytes there are. -/
def pLen (wide : Bool) : Nat := cond wide 56 32
theorem p_ok (wide : Bool) : sizesOk wide (pSizes wide) 8 := by cases wide; exact pf_ok; exact pt_ok
theorem p_off (wide : Bool) : offN (fullL wide (pSizes wide) 8) 8 = pLen wide := by cases wide; exact pf_off; exact pt_off
theorem pPos_lt (wide : Bool) (j : Nat) (h : j < 8) : pPos wide j < 8 := by
  have : ∀ wide : Bool, ∀ j : Fin 8, pPos wide j.1 < 8 := by decide
  exact this wide ⟨j, h⟩
theorem pNs_pos (wide : Bool) (n0 n1 n2 n3 n4 n5 n6 n7 : Nat) (j : Nat) (h : j < 8) : (pNs wide n0 n1 n2 n3 n4 n5 n6 n7).getD (pPos wide j) 0 = ([n0, n1, n2, n3, n4, n5, n6, n7] : List Nat).getD j 0 := by
  cases wide <;> (match j, h with
  | 0, _ => rfl
  | 1, _ => rfl
  | 2, _ => rfl
  | 3, _ => rfl
  | 4, _ => rfl
  | 5, _ => rfl
  | 6, _ => rfl
  | 7, _ => rfl)
theorem pNs_all (wide : Bool) (n0 n1 n2 n3 n4 n5 n6 n7 : Nat) (f : Nat → Nat) (h : ∀ j, j < 8 → f (pPos wide j) = ([n0, n1, n2, n3, n4, n5, n6, n7] : List Nat).getD j 0) (k : Nat) (hk : k < 8) : (pNs wide n0 n1 n2 n3 n4 n5 n6 n7).getD k 0 = f k := by
  cases wide
  · match k, hk with
    | 0, _ => exact (h 0 (by decide)).symm
    | 1, _ => exact (h 2 (by decide)).symm
    | 2, _ => exact (h 3 (by decide)).symm
    | 3, _ => exact (h 4 (by decide)).symm
    | 4, _ => exact (h 5 (by decide)).symm
    | 5, _ => exact (h 6 (by decide)).symm
    | 6, _ => exact (h 1 (by decide)).symm
    | 7, _ => exact (h 7 (by decide)).symm
  · match k, hk with
    | 0, _ => exact (h 0 (by decide)).symm
    | 1, _ => exact (h 1 (by decide)).symm
    | 2, _ => exact (h 2 (by decide)).symm
    | 3, _ => exact (h 3 (by decide)).symm
    | 4, _ => exact (h 4 (by decide)).symm
    | 5, _ => exact (h 5 (by decide)).symm
    | 6, _ => exact (h 6 (by decide)).symm
    | 7, _ => exact (h 7 (by decide)).symm
theorem pNs_mem (wide : Bool) (n0 n1 n2 n3 n4 n5 n6 n7 : Nat) (hn : ∀ n ∈ [n0, n1, n2, n3, n4, n5, n6, n7], n < 2 ^ 64) : ∀ n ∈ pNs wide n0 n1 n2 n3 n4 n5 n6 n7, n < 2 ^ 64 := by
  intro n hm
  refine hn n ?_
  cases wide
  · simp [pNs] at hm ⊢
    omega
  · exact hm
theorem psize (big wide : Bool) (w : World) : Calls Tryd.prog 15 #[.agg #[.bool big, .bool wide]] w fun e w' => e = .returned (.int .i64 (pLen wide : Int)) ∧ Below w.heap.size w w' := by
  cases wide
  · exact pfsize big w
  · exact ptsize big w
theorem pput (big wide : Bool) (n0 n1 n2 n3 n4 n5 n6 n7 : Nat) (hn : ∀ n ∈ [n0, n1, n2, n3, n4, n5, n6, n7], n < 2 ^ 64) (S : ByteArray) (ok : Bool) (hrec : RecIs big wide (pSizes wide) (pNs wide n0 n1 n2 n3 n4 n5 n6 n7) 8 8 S ok) (w : World) :
    Calls Tryd.prog 12 #[.agg #[.bool big, .bool wide], .agg #[.int .u64 (n0 : Nat), .int .u64 (n1 : Nat), .int .u64 (n2 : Nat), .int .u64 (n3 : Nat), .int .u64 (n4 : Nat), .int .u64 (n5 : Nat), .int .u64 (n6 : Nat), .int .u64 (n7 : Nat)]] w fun e w' => e = .returned (.tuple #[.string S, .bool ok]) ∧ Below w.heap.size w w' := by
  cases wide
  · exact pfput big n0 n1 n2 n3 n4 n5 n6 n7 (pNs_mem false n0 n1 n2 n3 n4 n5 n6 n7 hn) S ok hrec w
  · exact ptput big n0 n1 n2 n3 n4 n5 n6 n7 hn S ok hrec w
theorem pread_yes (big wide : Bool) (s : ByteArray) (w : World) (hs : s.size ≤ 1000) (hlen : pLen wide ≤ s.size) :
    Calls Tryd.prog 14 #[.agg #[.bool big, .bool wide], .string s] w fun e w' => e = .returned (.tuple #[.agg #[.int .u64 (numAt big (fullL wide (pSizes wide) 8) s.data.toList (pPos wide 0) : Nat), .int .u64 (numAt big (fullL wide (pSizes wide) 8) s.data.toList (pPos wide 1) : Nat), .int .u64 (numAt big (fullL wide (pSizes wide) 8) s.data.toList (pPos wide 2) : Nat), .int .u64 (numAt big (fullL wide (pSizes wide) 8) s.data.toList (pPos wide 3) : Nat), .int .u64 (numAt big (fullL wide (pSizes wide) 8) s.data.toList (pPos wide 4) : Nat), .int .u64 (numAt big (fullL wide (pSizes wide) 8) s.data.toList (pPos wide 5) : Nat), .int .u64 (numAt big (fullL wide (pSizes wide) 8) s.data.toList (pPos wide 6) : Nat), .int .u64 (numAt big (fullL wide (pSizes wide) 8) s.data.toList (pPos wide 7) : Nat)], .bool true]) ∧ Below w.heap.size w w' := by
  cases wide
  · exact pfread_yes big s w hs hlen
  · exact ptread_yes big s w hs hlen
theorem pread_no (big wide : Bool) (s : ByteArray) (w : World) (hs : s.size ≤ 1000) (hlen : s.size < pLen wide) :
    Calls Tryd.prog 14 #[.agg #[.bool big, .bool wide], .string s] w fun e w' => e = .returned (.tuple #[.agg #[.int .u64 0, .int .u64 0, .int .u64 0, .int .u64 0, .int .u64 0, .int .u64 0, .int .u64 0, .int .u64 0], .bool false]) ∧ Below w.heap.size w w' := by
  cases wide
  · exact pfread_no big s w hs hlen
  · exact ptread_no big s w hs hlen
theorem pform (fl : Int) (big wide : Bool) (hb : (bits BinOp.and IntKind.i64 fl 1 == 1) = big) (hw : (bits BinOp.and IntKind.i64 fl 2 == 2) = wide) (w : World) :
    Calls Tryd.prog 13 #[.int .i64 fl] w fun e w' => e = .returned (.agg #[.bool big, .bool wide]) ∧ Below w.heap.size w w' := by
  subst hb hw
  go_enter Tryd.func13, Tryd.ntmps13
  go_wp2
  generalize (bits BinOp.and IntKind.i64 fl 1 == 1) = big
  generalize (bits BinOp.and IntKind.i64 fl 2 == 2) = wide
  exact bodyPost_ret (v := .agg #[.bool big, .bool wide]) (by simp [results, Tryd.results13, go_sem]) rfl ⟨rfl, (Below.refl _ _).alloc (Nat.le_refl _) _⟩
def pS : ByteArray := ⟨#[0, 0, 0, 1, 0, 0, 0, 0, 0, 0, 0, 0, 0, 0, 0, 0, 0, 0, 0, 0, 0, 0, 0, 0, 0, 0, 0, 0, 0, 0, 0, 0, 0, 0, 0, 0, 0, 0, 0, 0, 0, 0, 0, 0, 0, 0, 0, 0, 0, 0, 0, 0, 0, 0, 0, 0]⟩
theorem pS_rec : RecIs true true ptSizes [1, 0, 0, 0, 0, 0, 0, 0] 8 8 pS true := by
  right; left
  refine ⟨rfl, ?_, by kernel_rfl, rfl⟩
  intro k hk
  have : ∀ k : Fin 8, 0 ≤ fullZ true (ptSizes.getD k.1 0) ∧ fullZ true (ptSizes.getD k.1 0) ≤ 8 ∧ ([1, 0, 0, 0, 0, 0, 0, 0] : List Nat).getD k.1 0 < 256 ^ (fullZ true (ptSizes.getD k.1 0)).toNat := by decide
  exact this ⟨k, hk⟩
theorem psize0 (w : World) : Calls Tryd.prog 15 #[.agg #[.bool false, .bool false]] w fun e w' => e = .returned (.int .i64 32) ∧ Below w.heap.size w w' := psize false false w
theorem psize1 (w : World) : Calls Tryd.prog 15 #[.agg #[.bool false, .bool true]] w fun e w' => e = .returned (.int .i64 56) ∧ Below w.heap.size w w' := psize false true w
theorem pput1 (w : World) : Calls Tryd.prog 12 #[.agg #[.bool true, .bool true], .agg #[.int .u64 1, .int .u64 0, .int .u64 0, .int .u64 0, .int .u64 0, .int .u64 0, .int .u64 0, .int .u64 0]] w fun e w' => e = .returned (.tuple #[.string ⟨#[0, 0, 0, 1, 0, 0, 0, 0, 0, 0, 0, 0, 0, 0, 0, 0, 0, 0, 0, 0, 0, 0, 0, 0, 0, 0, 0, 0, 0, 0, 0, 0, 0, 0, 0, 0, 0, 0, 0, 0, 0, 0, 0, 0, 0, 0, 0, 0, 0, 0, 0, 0, 0, 0, 0, 0]⟩, .bool true]) ∧ Below w.heap.size w w' :=
  ptput true 1 0 0 0 0 0 0 0 (by decide) pS true pS_rec w
theorem pread1 (w : World) : Calls Tryd.prog 14 #[.agg #[.bool true, .bool true], .string ⟨#[0, 0, 0, 1, 0, 0, 0, 0, 0, 0, 0, 0, 0, 0, 0, 0, 0, 0, 0, 0, 0, 0, 0, 0, 0, 0, 0, 0, 0, 0, 0, 0, 0, 0, 0, 0, 0, 0, 0, 0, 0, 0, 0, 0, 0, 0, 0, 0, 0, 0, 0, 0, 0, 0, 0, 0]⟩] w fun e w' => e = .returned (.tuple #[.agg #[.int .u64 1, .int .u64 0, .int .u64 0, .int .u64 0, .int .u64 0, .int .u64 0, .int .u64 0, .int .u64 0], .bool true]) ∧ Below w.heap.size w w' := by
  refine (ptread_yes true pS w (by decide) (by decide)).mono fun e w' ⟨he, hb⟩ => ⟨?_, hb⟩
  have hr := (recIs_read pS_rec pt_ok ⟨#[]⟩).2
  have e0 : (pS ++ ⟨#[]⟩) = pS := by apply ByteArray.ext; simp
  rw [e0] at hr
  rw [he, hr 0 (by decide), hr 1 (by decide), hr 2 (by decide), hr 3 (by decide), hr 4 (by decide), hr 5 (by decide), hr 6 (by decide), hr 7 (by decide)]
  rfl
set_option maxRecDepth 100000 in
set_option maxHeartbeats 2000000 in
theorem pspeaks (w : World) : Calls Tryd.prog 5 #[] w fun e w' => e = .returned (.bool true) ∧ Below w.heap.size w w' := by
  go_enter Tryd.func5, Tryd.ntmps5
  go_wp2_with fail
  refine (pform 3 true true rfl rfl _).mono ?_
  rintro e w1 ⟨rfl, h1⟩
  go_wp2_with fail
  refine (pput1 _).mono ?_
  rintro e w2 ⟨rfl, h2⟩
  have g2 : Below w.heap.size w w2 := h1.trans (h2.mono h1.size)
  clear h1 h2
  go_wp2_with fail
  refine (pform 3 true true rfl rfl _).mono ?_
  rintro e w3 ⟨rfl, h3⟩
  go_wp2_with fail
  refine (pread1 _).mono ?_
  rintro e w4 ⟨rfl, h4⟩
  have g4 : Below w.heap.size w w4 := (g2.trans (h3.mono g2.size)).trans (h4.mono (g2.trans (h3.mono g2.size)).size)
  clear g2 h3 h4
  go_wp2_with fail
  refine (pform 0 false false rfl rfl _).mono ?_
  rintro e w5 ⟨rfl, h5⟩
  go_wp2_with fail
  refine (psize0 _).mono ?_
  rintro e w6 ⟨rfl, h6⟩
  have z5 := h5.size
  have z6 := h6.size
  simp only [World.size_alloc] at z5
  have g6 := (h5.trans (h6.mono h5.size))
  have c6 : w6.cell? ⟨w4.heap.size, 0, none⟩ = some (.int .u64 1) := by rw [g6.cell (by simp)]; simp
  have G6 : Below w.heap.size w w6 := (g4.alloc g4.size _).trans (g6.mono (by have := g4.size; simp; omega))
  clear h5 h6 g6
  go_wp2_with fail
  refine (pform 2 false true rfl rfl _).mono ?_
  rintro e w7 ⟨rfl, h7⟩
  go_wp2_with fail
  refine (psize1 _).mono ?_
  rintro e w8 ⟨rfl, h8⟩
  have g8 := (h7.trans (h8.mono h7.size))
  have c8 : w8.cell? ⟨w4.heap.size, 0, none⟩ = some (.int .u64 1) := by rw [g8.cell (by show w4.heap.size < _; omega)]; exact c6
  have G8 : Below w.heap.size w w8 := G6.trans (g8.mono G6.size)
  clear h7 h8 g8 c6
  go_wp2
  go_ret
  exact ⟨rfl, G8⟩
end Go.Proofs.YtmbndepgkglaeaaDoor
