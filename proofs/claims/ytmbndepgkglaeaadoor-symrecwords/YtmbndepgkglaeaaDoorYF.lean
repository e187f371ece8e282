/- Contracts of a header's package, by gen_hdr.py. Conditions: those written in each theorem. -/
import Derived.Laws.CopyOwn
import Derived.Laws.Tables
import Derived.Test.YtmbndepgkglaeaaDoorYB
import Derived.Test.YtmbndepgkglaeaaDoorYD
import Derived.Test.YtmbndepgkglaeaaDoorYE
import Derived.Test.YtmbndepgkglaeaaDoorMB
namespace Go.Proofs.YtmbndepgkglaeaaDoor
open Go.RowKit
def ySizes (wide : Bool) : List Int := cond wide ytSizes yfSizes
/-- The numbers in the order of the form. -/
def yNs (wide : Bool) (n0 n1 n2 n3 n4 n5 : Nat) : List Nat := cond wide [n0, n1, n2, n3, n4, n5] [n0, n4, n5, n1, n2, n3]
/-- Where a field stands in the order of the form. -/
def yPos (wide : Bool) (j : Nat) : Nat := cond wide j (([0, 3, 4, 5, 1, 2] : List Nat).getD j 0)
/-- How many bytes there are. -/
def yLen (wide : Bool) : Nat := cond wide 24 16
theorem y_ok (wide : Bool) : sizesOk wide (ySizes wide) 6 := by cases wide; exact yf_ok; exact yt_ok
theorem y_off (wide : Bool) : offN (fullL wide (ySizes wide) 6) 6 = yLen wide := by cases wide; exact yf_off; exact yt_off
theorem yPos_lt (wide : Bool) (j : Nat) (h : j < 6) : yPos wide j < 6 := by
  have : ∀ wide : Bool, ∀ j : Fin 6, yPos wide j.1 < 6 := by decide
  exact this wide ⟨j, h⟩
theorem yNs_pos (wide : Bool) (n0 n1 n2 n3 n4 n5 : Nat) (j : Nat) (h : j < 6) : (yNs wide n0 n1 n2 n3 n4 n5).getD (yPos wide j) 0 = ([n0, n1, n2, n3, n4, n5] : List Nat).getD j 0 := by
  cases wide <;> (match j, h with
  | 0, _ => rfl
  | 1, _ => rfl
  | 2, _ => rfl
  | 3, _ => rfl
  | 4, _ => rfl
  | 5, _ => rfl)
theorem yNs_all (wide : Bool) (n0 n1 n2 n3 n4 n5 : Nat) (f : Nat → Nat) (h : ∀ j, j < 6 → f (yPos wide j) = ([n0, n1, n2, n3, n4, n5] : List Nat).getD j 0) (k : Nat) (hk : k < 6) : (yNs wide n0 n1 n2 n3 n4 n5).getD k 0 = f k := by
  cases wide
  · match k, hk with
    | 0, _ => exact (h 0 (by decide)).symm
    | 1, _ => exact (h 4 (by decide)).symm
    | 2, _ => exact (h 5 (by decide)).symm
    | 3, _ => exact (h 1 (by decide)).symm
    | 4, _ => exact (h 2 (by decide)).symm
    | 5, _ => exact (h 3 (by decide)).symm
  · match k, hk with
    | 0, _ => exact (h 0 (by decide)).symm
    | 1, _ => exact (h 1 (by decide)).symm
    | 2, _ => exact (h 2 (by decide)).symm
    | 3, _ => exact (h 3 (by decide)).symm
    | 4, _ => exact (h 4 (by decide)).symm
    | 5, _ => exact (h 5 (by decide)).symm
theorem yNs_mem (wide : Bool) (n0 n1 n2 n3 n4 n5 : Nat) (hn : ∀ n ∈ [n0, n1, n2, n3, n4, n5], n < 2 ^ 64) : ∀ n ∈ yNs wide n0 n1 n2 n3 n4 n5, n < 2 ^ 64 := by
  intro n hm
  refine hn n ?_
  cases wide
  · simp [yNs] at hm ⊢
    omega
  · exact hm
theorem ysize (big wide : Bool) (w : World) : Calls Tryd.prog 21 #[.agg #[.bool big, .bool wide]] w fun e w' => e = .returned (.int .i64 (yLen wide : Int)) ∧ Below w.heap.size w w' := by
  cases wide
  · exact yfsize big w
  · exact ytsize big w
theorem yput (big wide : Bool) (n0 n1 n2 n3 n4 n5 : Nat) (hn : ∀ n ∈ [n0, n1, n2, n3, n4, n5], n < 2 ^ 64) (S : ByteArray) (ok : Bool) (hrec : RecIs big wide (ySizes wide) (yNs wide n0 n1 n2 n3 n4 n5) 6 6 S ok) (w : World) :
    Calls Tryd.prog 18 #[.agg #[.bool big, .bool wide], .agg #[.int .u64 (n0 : Nat), .int .u64 (n1 : Nat), .int .u64 (n2 : Nat), .int .u64 (n3 : Nat), .int .u64 (n4 : Nat), .int .u64 (n5 : Nat)]] w fun e w' => e = .returned (.tuple #[.string S, .bool ok]) ∧ Below w.heap.size w w' := by
  cases wide
  · exact yfput big n0 n1 n2 n3 n4 n5 (yNs_mem false n0 n1 n2 n3 n4 n5 hn) S ok hrec w
  · exact ytput big n0 n1 n2 n3 n4 n5 hn S ok hrec w
theorem yread_yes (big wide : Bool) (s : ByteArray) (w : World) (hs : s.size ≤ 1000) (hlen : yLen wide ≤ s.size) :
    Calls Tryd.prog 20 #[.agg #[.bool big, .bool wide], .string s] w fun e w' => e = .returned (.tuple #[.agg #[.int .u64 (numAt big (fullL wide (ySizes wide) 6) s.data.toList (yPos wide 0) : Nat), .int .u64 (numAt big (fullL wide (ySizes wide) 6) s.data.toList (yPos wide 1) : Nat), .int .u64 (numAt big (fullL wide (ySizes wide) 6) s.data.toList (yPos wide 2) : Nat), .int .u64 (numAt big (fullL wide (ySizes wide) 6) s.data.toList (yPos wide 3) : Nat), .int .u64 (numAt big (fullL wide (ySizes wide) 6) s.data.toList (yPos wide 4) : Nat), .int .u64 (numAt big (fullL wide (ySizes wide) 6) s.data.toList (yPos wide 5) : Nat)], .bool true]) ∧ Below w.heap.size w w' := by
  cases wide
  · exact yfread_yes big s w hs hlen
  · exact ytread_yes big s w hs hlen
theorem yread_no (big wide : Bool) (s : ByteArray) (w : World) (hs : s.size ≤ 1000) (hlen : s.size < yLen wide) :
    Calls Tryd.prog 20 #[.agg #[.bool big, .bool wide], .string s] w fun e w' => e = .returned (.tuple #[.agg #[.int .u64 0, .int .u64 0, .int .u64 0, .int .u64 0, .int .u64 0, .int .u64 0], .bool false]) ∧ Below w.heap.size w w' := by
  cases wide
  · exact yfread_no big s w hs hlen
  · exact ytread_no big s w hs hlen
theorem yform (fl : Int) (big wide : Bool) (hb : (bits BinOp.and IntKind.i64 fl 1 == 1) = big) (hw : (bits BinOp.and IntKind.i64 fl 2 == 2) = wide) (w : World) :
    Calls Tryd.prog 19 #[.int .i64 fl] w fun e w' => e = .returned (.agg #[.bool big, .bool wide]) ∧ Below w.heap.size w w' := by
  subst hb hw
  go_enter Tryd.func19, Tryd.ntmps19
  go_wp2
  generalize (bits BinOp.and IntKind.i64 fl 1 == 1) = big
  generalize (bits BinOp.and IntKind.i64 fl 2 == 2) = wide
  exact bodyPost_ret (v := .agg #[.bool big, .bool wide]) (by simp [results, Tryd.results19, go_sem]) rfl ⟨rfl, (Below.refl _ _).alloc (Nat.le_refl _) _⟩
def yS : ByteArray := ⟨#[0, 0, 0, 1, 0, 0, 0, 0, 0, 0, 0, 0, 0, 0, 0, 0, 0, 0, 0, 0, 0, 0, 0, 0]⟩
theorem yS_rec : RecIs true true ytSizes [1, 0, 0, 0, 0, 0] 6 6 yS true := by
  right; left
  refine ⟨rfl, ?_, by kernel_rfl, rfl⟩
  intro k hk
  have : ∀ k : Fin 6, 0 ≤ fullZ true (ytSizes.getD k.1 0) ∧ fullZ true (ytSizes.getD k.1 0) ≤ 8 ∧ ([1, 0, 0, 0, 0, 0] : List Nat).getD k.1 0 < 256 ^ (fullZ true (ytSizes.getD k.1 0)).toNat := by decide
  exact this ⟨k, hk⟩
theorem ysize0 (w : World) : Calls Tryd.prog 21 #[.agg #[.bool false, .bool false]] w fun e w' => e = .returned (.int .i64 16) ∧ Below w.heap.size w w' := ysize false false w
theorem ysize1 (w : World) : Calls Tryd.prog 21 #[.agg #[.bool false, .bool true]] w fun e w' => e = .returned (.int .i64 24) ∧ Below w.heap.size w w' := ysize false true w
theorem yput1 (w : World) : Calls Tryd.prog 18 #[.agg #[.bool true, .bool true], .agg #[.int .u64 1, .int .u64 0, .int .u64 0, .int .u64 0, .int .u64 0, .int .u64 0]] w fun e w' => e = .returned (.tuple #[.string ⟨#[0, 0, 0, 1, 0, 0, 0, 0, 0, 0, 0, 0, 0, 0, 0, 0, 0, 0, 0, 0, 0, 0, 0, 0]⟩, .bool true]) ∧ Below w.heap.size w w' :=
  ytput true 1 0 0 0 0 0 (by decide) yS true yS_rec w
theorem yread1 (w : World) : Calls Tryd.prog 20 #[.agg #[.bool true, .bool true], .string ⟨#[0, 0, 0, 1, 0, 0, 0, 0, 0, 0, 0, 0, 0, 0, 0, 0, 0, 0, 0, 0, 0, 0, 0, 0]⟩] w fun e w' => e = .returned (.tuple #[.agg #[.int .u64 1, .int .u64 0, .int .u64 0, .int .u64 0, .int .u64 0, .int .u64 0], .bool true]) ∧ Below w.heap.size w w' := by
  refine (ytread_yes true yS w (by decide) (by decide)).mono fun e w' ⟨he, hb⟩ => ⟨?_, hb⟩
  have hr := (recIs_read yS_rec yt_ok ⟨#[]⟩).2
  have e0 : (yS ++ ⟨#[]⟩) = yS := by apply ByteArray.ext; simp
  rw [e0] at hr
  rw [he, hr 0 (by decide), hr 1 (by decide), hr 2 (by decide), hr 3 (by decide), hr 4 (by decide), hr 5 (by decide)]
  rfl
set_option maxRecDepth 100000 in
set_option maxHeartbeats 2000000 in
theorem yspeaks (w : World) : Calls Tryd.prog 8 #[] w fun e w' => e = .returned (.bool true) ∧ Below w.heap.size w w' := by
  go_enter Tryd.func8, Tryd.ntmps8
  go_wp2_with fail
  refine (yform 3 true true rfl rfl _).mono ?_
  rintro e w1 ⟨rfl, h1⟩
  go_wp2_with fail
  refine (yput1 _).mono ?_
  rintro e w2 ⟨rfl, h2⟩
  have g2 : Below w.heap.size w w2 := h1.trans (h2.mono h1.size)
  clear h1 h2
  go_wp2_with fail
  refine (yform 3 true true rfl rfl _).mono ?_
  rintro e w3 ⟨rfl, h3⟩
  go_wp2_with fail
  refine (yread1 _).mono ?_
  rintro e w4 ⟨rfl, h4⟩
  have g4 : Below w.heap.size w w4 := (g2.trans (h3.mono g2.size)).trans (h4.mono (g2.trans (h3.mono g2.size)).size)
  clear g2 h3 h4
  go_wp2_with fail
  refine (yform 0 false false rfl rfl _).mono ?_
  rintro e w5 ⟨rfl, h5⟩
  go_wp2_with fail
  refine (ysize0 _).mono ?_
  rintro e w6 ⟨rfl, h6⟩
  have z5 := h5.size
  have z6 := h6.size
  simp only [World.size_alloc] at z5
  have g6 := (h5.trans (h6.mono h5.size))
  have c6 : w6.cell? ⟨w4.heap.size, 0, none⟩ = some (.int .u64 1) := by rw [g6.cell (by simp)]; simp
  have G6 : Below w.heap.size w w6 := (g4.alloc g4.size _).trans (g6.mono (by have := g4.size; simp; omega))
  clear h5 h6 g6
  go_wp2_with fail
  refine (yform 2 false true rfl rfl _).mono ?_
  rintro e w7 ⟨rfl, h7⟩
  go_wp2_with fail
  refine (ysize1 _).mono ?_
  rintro e w8 ⟨rfl, h8⟩
  have g8 := (h7.trans (h8.mono h7.size))
  have c8 : w8.cell? ⟨w4.heap.size, 0, none⟩ = some (.int .u64 1) := by rw [g8.cell (by show w4.heap.size < _; omega)]; exact c6
  have G8 : Below w.heap.size w w8 := G6.trans (g8.mono G6.size)
  clear h7 h8 g8 c6
  go_wp2
  go_ret
  exact ⟨rfl, G8⟩
end Go.Proofs.YtmbndepgkglaeaaDoor
