/- Contracts of a header's package, by gen_hdr.py. Conditions: those written in each theorem. -/
import Derived.Laws.CopyOwn
import Derived.Laws.Tables
import Derived.Test.YtkajgakblcgocaaDoorED
import Derived.Test.YtkajgakblcgocaaDoorEE
import Derived.Test.YtkajgakblcgocaaDoorMB
namespace Go.Proofs.YtkajgakblcgocaaDoor
open Go.RowKit
theorem eform (fl : Int) (big wide : Bool) (hb : (bits BinOp.and IntKind.i64 fl 1 == 1) = big) (hw : (bits BinOp.and IntKind.i64 fl 2 == 2) = wide) (w : World) :
    Calls Tryd.prog 12 #[.int .i64 fl] w fun e w' => e = .returned (.agg #[.bool big, .bool wide]) ∧ Below w.heap.size w w' := by
  subst hb hw
  go_enter Tryd.func12, Tryd.ntmps12
  go_wp2
  generalize (bits BinOp.and IntKind.i64 fl 1 == 1) = big
  generalize (bits BinOp.and IntKind.i64 fl 2 == 2) = wide
  exact bodyPost_ret (v := .agg #[.bool big, .bool wide]) (by simp [results, Tryd.results12, go_sem]) rfl ⟨rfl, (Below.refl _ _).alloc (Nat.le_refl _) _⟩
def eS : ByteArray := ⟨#[0, 1, 0, 0, 0, 0, 0, 0, 0, 0, 0, 0, 0, 0, 0, 0, 0, 0, 0, 0, 0, 0, 0, 0, 0, 0, 0, 0, 0, 0, 0, 0, 0, 0, 0, 0, 0, 0, 0, 0, 0, 0, 0, 0, 0, 0, 0, 0]⟩
theorem eS_rec : RecIs true true eSizes [1, 0, 0, 0, 0, 0, 0, 0, 0, 0, 0, 0, 0] 13 13 eS true := by
  right; left
  refine ⟨rfl, ?_, by kernel_rfl, rfl⟩
  intro k hk
  have : ∀ k : Fin 13, 0 ≤ fullZ true (eSizes.getD k.1 0) ∧ fullZ true (eSizes.getD k.1 0) ≤ 8 ∧ ([1, 0, 0, 0, 0, 0, 0, 0, 0, 0, 0, 0, 0] : List Nat).getD k.1 0 < 256 ^ (fullZ true (eSizes.getD k.1 0)).toNat := by decide
  exact this ⟨k, hk⟩
theorem esize0 (w : World) : Calls Tryd.prog 14 #[.agg #[.bool false, .bool false]] w fun e w' => e = .returned (.int .i64 36) ∧ Below w.heap.size w w' := esize false false w
theorem esize1 (w : World) : Calls Tryd.prog 14 #[.agg #[.bool false, .bool true]] w fun e w' => e = .returned (.int .i64 48) ∧ Below w.heap.size w w' := esize false true w
theorem eput1 (w : World) : Calls Tryd.prog 11 #[.agg #[.bool true, .bool true], .agg #[.int .u64 1, .int .u64 0, .int .u64 0, .int .u64 0, .int .u64 0, .int .u64 0, .int .u64 0, .int .u64 0, .int .u64 0, .int .u64 0, .int .u64 0, .int .u64 0, .int .u64 0]] w fun e w' => e = .returned (.tuple #[.string ⟨#[0, 1, 0, 0, 0, 0, 0, 0, 0, 0, 0, 0, 0, 0, 0, 0, 0, 0, 0, 0, 0, 0, 0, 0, 0, 0, 0, 0, 0, 0, 0, 0, 0, 0, 0, 0, 0, 0, 0, 0, 0, 0, 0, 0, 0, 0, 0, 0]⟩, .bool true]) ∧ Below w.heap.size w w' :=
  eput true true 1 0 0 0 0 0 0 0 0 0 0 0 0 (by decide) eS true eS_rec w
theorem eread1 (w : World) : Calls Tryd.prog 13 #[.agg #[.bool true, .bool true], .string ⟨#[0, 1, 0, 0, 0, 0, 0, 0, 0, 0, 0, 0, 0, 0, 0, 0, 0, 0, 0, 0, 0, 0, 0, 0, 0, 0, 0, 0, 0, 0, 0, 0, 0, 0, 0, 0, 0, 0, 0, 0, 0, 0, 0, 0, 0, 0, 0, 0]⟩] w fun e w' => e = .returned (.tuple #[.agg #[.int .u64 1, .int .u64 0, .int .u64 0, .int .u64 0, .int .u64 0, .int .u64 0, .int .u64 0, .int .u64 0, .int .u64 0, .int .u64 0, .int .u64 0, .int .u64 0, .int .u64 0], .bool true]) ∧ Below w.heap.size w w' := by
  refine (eread_yes true true eS w (by decide) (by decide)).mono fun e w' ⟨he, hb⟩ => ⟨?_, hb⟩
  have hr := (recIs_read eS_rec (e_ok true) ⟨#[]⟩).2
  have e0 : (eS ++ ⟨#[]⟩) = eS := by apply ByteArray.ext; simp
  rw [e0] at hr
  rw [he, hr 0 (by decide), hr 1 (by decide), hr 2 (by decide), hr 3 (by decide), hr 4 (by decide), hr 5 (by decide), hr 6 (by decide), hr 7 (by decide), hr 8 (by decide), hr 9 (by decide), hr 10 (by decide), hr 11 (by decide), hr 12 (by decide)]
  rfl
set_option maxRecDepth 100000 in
set_option maxHeartbeats 2000000 in
theorem espeaks (w : World) : Calls Tryd.prog 5 #[] w fun e w' => e = .returned (.bool true) ∧ Below w.heap.size w w' := by
  go_enter Tryd.func5, Tryd.ntmps5
  go_wp2_with fail
  refine (eform 3 true true rfl rfl _).mono ?_
  rintro e w1 ⟨rfl, h1⟩
  go_wp2_with fail
  refine (eput1 _).mono ?_
  rintro e w2 ⟨rfl, h2⟩
  have g2 : Below w.heap.size w w2 := h1.trans (h2.mono h1.size)
  clear h1 h2
  go_wp2_with fail
  refine (eform 3 true true rfl rfl _).mono ?_
  rintro e w3 ⟨rfl, h3⟩
  go_wp2_with fail
  refine (eread1 _).mono ?_
  rintro e w4 ⟨rfl, h4⟩
  have g4 : Below w.heap.size w w4 := (g2.trans (h3.mono g2.size)).trans (h4.mono (g2.trans (h3.mono g2.size)).size)
  clear g2 h3 h4
  go_wp2_with fail
  refine (eform 0 false false rfl rfl _).mono ?_
  rintro e w5 ⟨rfl, h5⟩
  go_wp2_with fail
  refine (esize0 _).mono ?_
  rintro e w6 ⟨rfl, h6⟩
  have z5 := h5.size
  have z6 := h6.size
  simp only [World.size_alloc] at z5
  have g6 := (h5.trans (h6.mono h5.size))
  have c6 : w6.cell? ⟨w4.heap.size, 0, none⟩ = some (.int .u64 1) := by rw [g6.cell (by simp)]; simp
  have G6 : Below w.heap.size w w6 := (g4.alloc g4.size _).trans (g6.mono (by have := g4.size; simp; omega))
  clear h5 h6 g6
  go_wp2_with fail
  refine (eform 2 false true rfl rfl _).mono ?_
  rintro e w7 ⟨rfl, h7⟩
  go_wp2_with fail
  refine (esize1 _).mono ?_
  rintro e w8 ⟨rfl, h8⟩
  have g8 := (h7.trans (h8.mono h7.size))
  have c8 : w8.cell? ⟨w4.heap.size, 0, none⟩ = some (.int .u64 1) := by rw [g8.cell (by show w4.heap.size < _; omega)]; exact c6
  have G8 : Below w.heap.size w w8 := G6.trans (g8.mono G6.size)
  clear h7 h8 g8 c6
  go_wp2
  go_ret
  exact ⟨rfl, G8⟩
end Go.Proofs.YtkajgakblcgocaaDoor
