/- Contracts of a header's package, by gen_hdr.py. Conditions: those written in each theorem. -/
import Derived.Laws.CopyOwn
import Derived.Laws.Tables
import Derived.Test.YtkajgakblcgocaaDoorSD
import Derived.Test.YtkajgakblcgocaaDoorSE
import Derived.Test.YtkajgakblcgocaaDoorMB
namespace Go.Proofs.YtkajgakblcgocaaDoor
open Go.RowKit
theorem sform (fl : Int) (big wide : Bool) (hb : (bits BinOp.and IntKind.i64 fl 1 == 1) = big) (hw : (bits BinOp.and IntKind.i64 fl 2 == 2) = wide) (w : World) :
    Calls Tryd.prog 17 #[.int .i64 fl] w fun e w' => e = .returned (.agg #[.bool big, .bool wide]) ∧ Below w.heap.size w w' := by
  subst hb hw
  go_enter Tryd.func17, Tryd.ntmps17
  go_wp2
  generalize (bits BinOp.and IntKind.i64 fl 1 == 1) = big
  generalize (bits BinOp.and IntKind.i64 fl 2 == 2) = wide
  exact bodyPost_ret (v := .agg #[.bool big, .bool wide]) (by simp [results, Tryd.results17, go_sem]) rfl ⟨rfl, (Below.refl _ _).alloc (Nat.le_refl _) _⟩
def sS : ByteArray := ⟨#[0, 0, 0, 1, 0, 0, 0, 0, 0, 0, 0, 0, 0, 0, 0, 0, 0, 0, 0, 0, 0, 0, 0, 0, 0, 0, 0, 0, 0, 0, 0, 0, 0, 0, 0, 0, 0, 0, 0, 0, 0, 0, 0, 0, 0, 0, 0, 0, 0, 0, 0, 0, 0, 0, 0, 0, 0, 0, 0, 0, 0, 0, 0, 0]⟩
theorem sS_rec : RecIs true true sSizes [1, 0, 0, 0, 0, 0, 0, 0, 0, 0] 10 10 sS true := by
  right; left
  refine ⟨rfl, ?_, by kernel_rfl, rfl⟩
  intro k hk
  have : ∀ k : Fin 10, 0 ≤ fullZ true (sSizes.getD k.1 0) ∧ fullZ true (sSizes.getD k.1 0) ≤ 8 ∧ ([1, 0, 0, 0, 0, 0, 0, 0, 0, 0] : List Nat).getD k.1 0 < 256 ^ (fullZ true (sSizes.getD k.1 0)).toNat := by decide
  exact this ⟨k, hk⟩
theorem ssize0 (w : World) : Calls Tryd.prog 19 #[.agg #[.bool false, .bool false]] w fun e w' => e = .returned (.int .i64 40) ∧ Below w.heap.size w w' := ssize false false w
theorem ssize1 (w : World) : Calls Tryd.prog 19 #[.agg #[.bool false, .bool true]] w fun e w' => e = .returned (.int .i64 64) ∧ Below w.heap.size w w' := ssize false true w
theorem sput1 (w : World) : Calls Tryd.prog 16 #[.agg #[.bool true, .bool true], .agg #[.int .u64 1, .int .u64 0, .int .u64 0, .int .u64 0, .int .u64 0, .int .u64 0, .int .u64 0, .int .u64 0, .int .u64 0, .int .u64 0]] w fun e w' => e = .returned (.tuple #[.string ⟨#[0, 0, 0, 1, 0, 0, 0, 0, 0, 0, 0, 0, 0, 0, 0, 0, 0, 0, 0, 0, 0, 0, 0, 0, 0, 0, 0, 0, 0, 0, 0, 0, 0, 0, 0, 0, 0, 0, 0, 0, 0, 0, 0, 0, 0, 0, 0, 0, 0, 0, 0, 0, 0, 0, 0, 0, 0, 0, 0, 0, 0, 0, 0, 0]⟩, .bool true]) ∧ Below w.heap.size w w' :=
  sput true true 1 0 0 0 0 0 0 0 0 0 (by decide) sS true sS_rec w
theorem sread1 (w : World) : Calls Tryd.prog 18 #[.agg #[.bool true, .bool true], .string ⟨#[0, 0, 0, 1, 0, 0, 0, 0, 0, 0, 0, 0, 0, 0, 0, 0, 0, 0, 0, 0, 0, 0, 0, 0, 0, 0, 0, 0, 0, 0, 0, 0, 0, 0, 0, 0, 0, 0, 0, 0, 0, 0, 0, 0, 0, 0, 0, 0, 0, 0, 0, 0, 0, 0, 0, 0, 0, 0, 0, 0, 0, 0, 0, 0]⟩] w fun e w' => e = .returned (.tuple #[.agg #[.int .u64 1, .int .u64 0, .int .u64 0, .int .u64 0, .int .u64 0, .int .u64 0, .int .u64 0, .int .u64 0, .int .u64 0, .int .u64 0], .bool true]) ∧ Below w.heap.size w w' := by
  refine (sread_yes true true sS w (by decide) (by decide)).mono fun e w' ⟨he, hb⟩ => ⟨?_, hb⟩
  have hr := (recIs_read sS_rec (s_ok true) ⟨#[]⟩).2
  have e0 : (sS ++ ⟨#[]⟩) = sS := by apply ByteArray.ext; simp
  rw [e0] at hr
  rw [he, hr 0 (by decide), hr 1 (by decide), hr 2 (by decide), hr 3 (by decide), hr 4 (by decide), hr 5 (by decide), hr 6 (by decide), hr 7 (by decide), hr 8 (by decide), hr 9 (by decide)]
  rfl
set_option maxRecDepth 100000 in
set_option maxHeartbeats 2000000 in
theorem sspeaks (w : World) : Calls Tryd.prog 8 #[] w fun e w' => e = .returned (.bool true) ∧ Below w.heap.size w w' := by
  go_enter Tryd.func8, Tryd.ntmps8
  go_wp2_with fail
  refine (sform 3 true true rfl rfl _).mono ?_
  rintro e w1 ⟨rfl, h1⟩
  go_wp2_with fail
  refine (sput1 _).mono ?_
  rintro e w2 ⟨rfl, h2⟩
  have g2 : Below w.heap.size w w2 := h1.trans (h2.mono h1.size)
  clear h1 h2
  go_wp2_with fail
  refine (sform 3 true true rfl rfl _).mono ?_
  rintro e w3 ⟨rfl, h3⟩
  go_wp2_with fail
  refine (sread1 _).mono ?_
  rintro e w4 ⟨rfl, h4⟩
  have g4 : Below w.heap.size w w4 := (g2.trans (h3.mono g2.size)).trans (h4.mono (g2.trans (h3.mono g2.size)).size)
  clear g2 h3 h4
  go_wp2_with fail
  refine (sform 0 false false rfl rfl _).mono ?_
  rintro e w5 ⟨rfl, h5⟩
  go_wp2_with fail
  refine (ssize0 _).mono ?_
  rintro e w6 ⟨rfl, h6⟩
  have z5 := h5.size
  have z6 := h6.size
  simp only [World.size_alloc] at z5
  have g6 := (h5.trans (h6.mono h5.size))
  have c6 : w6.cell? ⟨w4.heap.size, 0, none⟩ = some (.int .u64 1) := by rw [g6.cell (by simp)]; simp
  have G6 : Below w.heap.size w w6 := (g4.alloc g4.size _).trans (g6.mono (by have := g4.size; simp; omega))
  clear h5 h6 g6
  go_wp2_with fail
  refine (sform 2 false true rfl rfl _).mono ?_
  rintro e w7 ⟨rfl, h7⟩
  go_wp2_with fail
  refine (ssize1 _).mono ?_
  rintro e w8 ⟨rfl, h8⟩
  have g8 := (h7.trans (h8.mono h7.size))
  have c8 : w8.cell? ⟨w4.heap.size, 0, none⟩ = some (.int .u64 1) := by rw [g8.cell (by show w4.heap.size < _; omega)]; exact c6
  have G8 : Below w.heap.size w w8 := G6.trans (g8.mono G6.size)
  clear h7 h8 g8 c6
  go_wp2
  go_ret
  exact ⟨rfl, G8⟩
end Go.Proofs.YtkajgakblcgocaaDoor
