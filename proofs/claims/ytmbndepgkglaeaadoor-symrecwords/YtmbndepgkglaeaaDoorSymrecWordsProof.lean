/-
  Proved: for every two numbers, the Go function SymrecWords of graverlaw08 returns true, and what it was handed reads as before; the listed package variables tied to the program's text (the card).
  Conditions: none beyond the given statement's own form.
-/
import Derived.Test.YtmbndepgkglaeaaDoorRows
import Derived.Test.YtmbndepgkglaeaaDoorCards
import Derived.Test.YtmbndepgkglaeaaDoorTie
import Derived.Test.YtmbndepgkglaeaaDoorSQ
import Derived.Test.YtmbndepgkglaeaaDoorHS
import Derived.SevenTiedAt
import Derived.ChangeOld
import Derived.Below
namespace Go.Proofs.YtmbndepgkglaeaaDoor
open Go.ChangeShapes Go.WideShapes Go.ChangeAt Go.RowKit Go.Deep
set_option linter.unusedVariables false
theorem knob_own : ownKnob Tryd.prog.godebug = none := by kernel_rfl
theorem laid_out : laidOutB Tryd.prog = true := by kernel_rfl
def laidE : List (String × DataW Unit) := [("math/bits.deBruijn32tab", Rows.laid_math_bits_deBruijn32tab), ("math/bits.deBruijn64tab", Rows.laid_math_bits_deBruijn64tab), ("internal/strconv.uint64pow10", Rows.laid_internal_strconv_uint64pow10), ("graver/symrec.binds", Rows.laid_graver_symrec_binds), ("graver/symrec.kinds", Rows.laid_graver_symrec_kinds)]
theorem g5 : Tryd.prog.globalNamed "math/bits.deBruijn64tab" = some 5 := by kernel_rfl
theorem t5 : (Tryd.prog.globals[5]?).map (·.type) = some 99 := by kernel_rfl
theorem g3 : Tryd.prog.globalNamed "internal/strconv.uint64pow10" = some 3 := by kernel_rfl
theorem t3 : (Tryd.prog.globals[3]?).map (·.type) = some 90 := by kernel_rfl
theorem g1 : Tryd.prog.globalNamed "graver/symrec.binds" = some 1 := by kernel_rfl
theorem t1 : (Tryd.prog.globals[1]?).map (·.type) = some 46 := by kernel_rfl
theorem g2 : Tryd.prog.globalNamed "graver/symrec.kinds" = some 2 := by kernel_rfl
theorem t2 : (Tryd.prog.globals[2]?).map (·.type) = some 47 := by kernel_rfl
theorem door_met (os : Os) (args : Array Value) : laidMetH Tryd.prog laidE ((World.doorLaid Tryd.prog 4000 os).forCall (fun _ _ => 0) ⟨#[], args, []⟩).memory :=
  laidMetH_of_parts3 (fuel := 8) (laidMet_of_run' 8 (by kernel_rfl) (by kernel_rfl)) (by kernel_rfl) (by kernel_rfl)
theorem of_laid {W : World} (h : laidMetH Tryd.prog laidE W) : TabsY W := by
  rw [MakeChecks.laidMetH_plain _ _ _ (by kernel_rfl)] at h
  obtain ⟨ps, ⟨ga, ta, ca, fa, pa, qa, hga, hta, hva, hda, ⟨gb, tb, cb, fb, pb, qb, hgb, htb, hvb, hdb, ⟨gc, tc, cc, fc, pc, qc, hgc, htc, hvc, hdc, ⟨gd, td, cd, fd, pd, qd, hgd, htd, hvd, hdd, ⟨ge, te, ce, fe, pe, qe, hge, hte, hve, hde, _, _⟩, _⟩, _⟩, _⟩, _⟩, _, _⟩ := h
  obtain rfl := Option.some.inj (g5.symm.trans hgb)
  obtain rfl := Option.some.inj (t5.symm.trans htb)
  obtain rfl := Option.some.inj (g3.symm.trans hgc)
  obtain rfl := Option.some.inj (t3.symm.trans htc)
  obtain rfl := Option.some.inj (g1.symm.trans hgd)
  obtain rfl := Option.some.inj (t1.symm.trans htd)
  obtain rfl := Option.some.inj (g2.symm.trans hge)
  obtain rfl := Option.some.inj (t2.symm.trans hte)
  have c5 : Tryd.prog.cellsOf 5 = 1 := by kernel_rfl
  have c9 : Tryd.prog.cellsOf 9 = 1 := by kernel_rfl
  have c22 : Tryd.prog.cellsOf 22 = 1 := by kernel_rfl
  have ct : Tryd.prog.cellsOf 90 = 20 := by kernel_rfl
  have x3 : Lib.TabIs Tryd.prog W "internal/strconv.uint64pow10" .u64 Lib.pow10Tab := by
    have hcs := Lib.cells_of_tab (k := .u64) (zs := Lib.pow10Tab) Tryd.underlying90 Tryd.underlying22 c22 ct hdc
    unfold Lib.TabIs
    rw [hvc, ← hcs]
  have y0 : W.cell? ⟨1, 0, none⟩ = some (.string ⟨#[76, 79, 67, 65, 76]⟩) := by
    have := arr_str Tryd.underlying46 Tryd.underlying9 c9 hdd 0 (by decide) [76, 79, 67, 65, 76] rfl
    rw [World.var?_cell hgd hvd 0]
    simpa using this
  have y1 : W.cell? ⟨1, 1, none⟩ = some (.string ⟨#[71, 76, 79, 66, 65, 76]⟩) := by
    have := arr_str Tryd.underlying46 Tryd.underlying9 c9 hdd 1 (by decide) [71, 76, 79, 66, 65, 76] rfl
    rw [World.var?_cell hgd hvd 1]
    simpa using this
  have y2 : W.cell? ⟨1, 2, none⟩ = some (.string ⟨#[87, 69, 65, 75]⟩) := by
    have := arr_str Tryd.underlying46 Tryd.underlying9 c9 hdd 2 (by decide) [87, 69, 65, 75] rfl
    rw [World.var?_cell hgd hvd 2]
    simpa using this
  have z0 : W.cell? ⟨2, 0, none⟩ = some (.string ⟨#[78, 79, 84, 89, 80, 69]⟩) := by
    have := arr_str Tryd.underlying47 Tryd.underlying9 c9 hde 0 (by decide) [78, 79, 84, 89, 80, 69] rfl
    rw [World.var?_cell hge hve 0]
    simpa using this
  have z1 : W.cell? ⟨2, 1, none⟩ = some (.string ⟨#[79, 66, 74, 69, 67, 84]⟩) := by
    have := arr_str Tryd.underlying47 Tryd.underlying9 c9 hde 1 (by decide) [79, 66, 74, 69, 67, 84] rfl
    rw [World.var?_cell hge hve 1]
    simpa using this
  have z2 : W.cell? ⟨2, 2, none⟩ = some (.string ⟨#[70, 85, 78, 67]⟩) := by
    have := arr_str Tryd.underlying47 Tryd.underlying9 c9 hde 2 (by decide) [70, 85, 78, 67] rfl
    rw [World.var?_cell hge hve 2]
    simpa using this
  have z3 : W.cell? ⟨2, 3, none⟩ = some (.string ⟨#[83, 69, 67, 84, 73, 79, 78]⟩) := by
    have := arr_str Tryd.underlying47 Tryd.underlying9 c9 hde 3 (by decide) [83, 69, 67, 84, 73, 79, 78] rfl
    rw [World.var?_cell hge hve 3]
    simpa using this
  have z4 : W.cell? ⟨2, 4, none⟩ = some (.string ⟨#[70, 73, 76, 69]⟩) := by
    have := arr_str Tryd.underlying47 Tryd.underlying9 c9 hde 4 (by decide) [70, 73, 76, 69] rfl
    rw [World.var?_cell hge hve 4]
    simpa using this
  have z5 : W.cell? ⟨2, 5, none⟩ = some (.string ⟨#[67, 79, 77, 77, 79, 78]⟩) := by
    have := arr_str Tryd.underlying47 Tryd.underlying9 c9 hde 5 (by decide) [67, 79, 77, 77, 79, 78] rfl
    rw [World.var?_cell hge hve 5]
    simpa using this
  have z6 : W.cell? ⟨2, 6, none⟩ = some (.string ⟨#[84, 76, 83]⟩) := by
    have := arr_str Tryd.underlying47 Tryd.underlying9 c9 hde 6 (by decide) [84, 76, 83] rfl
    rw [World.var?_cell hge hve 6]
    simpa using this
  have x4 : 3 < W.heap.size := by
    have h := hvc
    unfold World.var? at h
    rw [gPow] at h
    simp only [Option.bind_some] at h
    apply Classical.byContradiction
    intro hn
    rw [Array.getElem?_eq_none (by omega)] at h
    simp at h
  refine ⟨x4, x3, ?_, ?_⟩
  · intro j v hv
    rw [Nat.zero_add]
    match j, hv with
    | 0, hv => (have e := Option.some.inj hv; rw [← e]; exact y0)
    | 1, hv => (have e := Option.some.inj hv; rw [← e]; exact y1)
    | 2, hv => (have e := Option.some.inj hv; rw [← e]; exact y2)
    | n + 3, hv => (exact absurd hv (by simp [bindCells]))
  · intro j v hv
    rw [Nat.zero_add]
    match j, hv with
    | 0, hv => (have e := Option.some.inj hv; rw [← e]; exact z0)
    | 1, hv => (have e := Option.some.inj hv; rw [← e]; exact z1)
    | 2, hv => (have e := Option.some.inj hv; rw [← e]; exact z2)
    | 3, hv => (have e := Option.some.inj hv; rw [← e]; exact z3)
    | 4, hv => (have e := Option.some.inj hv; rw [← e]; exact z4)
    | 5, hv => (have e := Option.some.inj hv; rw [← e]; exact z5)
    | 6, hv => (have e := Option.some.inj hv; rw [← e]; exact z6)
    | n + 7, hv => (exact absurd hv (by simp [kindCells]))
set_option maxRecDepth 100000 in
theorem symrecWords_lifted (os : Os) (started : os.Started) (H : Type) (enc : TypeId × Value → H) :
    ReturnsInHanded {} Tryd.checked os 4 .any (fun w args => (Rows.symrecWordsSpec.pre enc Tryd.prog Tryd.f4 [] false w args ∧ laidMetH Tryd.prog laidE w) ∧ sizedMet enc Tryd.prog Tryd.f4 (OpenSpec.ofChange Rows.symrecWordsSpec) false w args)
      (Rows.symrecWordsSpec.post enc Tryd.prog Tryd.f4 false true false false) := by
  refine returnsInHanded_of_change_and (C := Tryd.checked) (X := fun w _ => laidMetH Tryd.prog laidE w) (fun _ _ _ hh h => h.of_heap hh) knob_own started (by kernel_rfl) Tryd.func4
    (ChangeSpec.witness_shaped (enc := enc) (C := Tryd.checked) (os := os) (X := fun w _ => laidMetH Tryd.prog laidE w) false (World.doorLaid Tryd.prog 4000 os) #[.int .u64 0, .int .u64 0] 8 rfl (World.shaped_of_RefB (by kernel_rfl) (by kernel_rfl)) (by kernel_rfl) (by kernel_rfl) (by kernel_rfl) (door_met os _)) ?_
  intro W base args ds gs before hval0 hW _ _ hL _
  have hval : ∀ (j : Nat) t v, Tryd.f4.params[j]? = some t → args[j]? = some v → Value.okWide Tryd.prog W .any base t v := hval0
  have hW' := hW
  obtain ⟨p, q, hA0, hV, rfl, hfz, hnd⟩ := hW
  have hA : DataW.TrodAll enc Tryd.prog W 0 (fun _ => true) true Tryd.f4.params.toList args.toList ds p := hA0
  rw [Tryd.params4] at hA hval
  obtain ⟨v0, vs0, d0, ds0, p0, q0, hargs, rfl, rfl, h0, r0⟩ := trodAll_cons hA
  obtain ⟨v1, vs1, d1, ds1, p1, q1, rfl, rfl, rfl, h1, r1⟩ := trodAll_cons r0
  obtain ⟨rfl, rfl, rfl⟩ := trodAll_nil r1
  obtain rfl : args = #[v0, v1] := by cases args; simp_all
  obtain ⟨rfl, rfl⟩ := trodVars_none hV
  obtain ⟨a0, rfl, rfl, rfl, w0⟩ := open_int Tryd.underlying22 (hval 0 22 v0 rfl rfl) h0
  obtain ⟨a1, rfl, rfl, rfl, w1⟩ := open_int Tryd.underlying22 (hval 1 22 v1 rfl rfl) h1
  have hT := of_laid hL
  clear hA0 hval0
  simp only [List.append_nil] at hW'
  have bd0 := bounds_u64 w0
  have bd1 := bounds_u64 w1
  obtain ⟨n0, rfl⟩ := Int.eq_ofNat_of_zero_le bd0.1
  obtain ⟨n1, rfl⟩ := Int.eq_ofNat_of_zero_le bd1.1
  have hwalk : Calls Tryd.prog 4 #[.int .u64 (n0 : Int), .int .u64 (n1 : Int)] W fun e w' => e = .returned (.bool true) ∧ Below W.heap.size W w' := by
    exact ywords n0 n1 (by omega) (by omega) W hT
  refine hwalk.mono fun e W' ⟨he, bel⟩ => ?_
  subst he
  exact ⟨_, rfl, _, _, _, [], [], [], hW', (trodAll_cons_mk (shut_bool Tryd.underlying4 _) trodAll_mk0), (trodAll_cons_mk (shut_int Tryd.underlying22 w0) (trodAll_cons_mk (shut_int Tryd.underlying22 w1) trodAll_mk0)), rfl, bel.frame _, fun h => by cases h⟩
theorem symrecWords_said : Rows.SymrecWordsSaid :=
  OpenClaim.holds_of_wide 4 Tryd.f4 rfl rfl rfl rfl rfl rfl rfl ⟨rfl, rfl, rfl, rfl, rfl⟩ rfl rfl rfl rfl rfl (by kernel_rfl) Tryd.func4 (by kernel_rfl)
    (of_decide_eq_true (by kernel_rfl)) (by unfold Func.isWrapper; first | (rw [if_pos (by decide +kernel)]; kernel_rfl) | (rw [if_neg (by decide +kernel)]; exact ⟨rfl, rfl⟩))
    (fun os started H enc _ => symrecWords_lifted os started H enc)
theorem symrecWords_holds : Rows.SymrecWordsCardSaid :=
  Claim7.holds_tied_plain_at .later [] [.data, .data, .data, .data, .data] true (true, "2161f7daf6b63b1d19bf614ea6b8a780b4d357deb73bc1241a1161ab5f5aea59") false
    symrecWords_said (fun _ h => by cases h) (by kernel_rfl) (fun _ h => by cases h) symrecWords_row_tie rfl ⟨rfl, rfl⟩ (by kernel_rfl) rfl
    (fun f fn hf hfn => by
      obtain rfl : f = 4 := Option.some.inj ((show Tryd.prog.funcNamed "graver/graverlaw08.SymrecWords" = some 4 by kernel_rfl).symm.trans hf) |>.symm
      obtain rfl : fn = Tryd.f4 := (Option.some.inj (Tryd.func4.symm.trans hfn)).symm
      exact ⟨by kernel_rfl, fun j t ht => by
        rw [Tryd.params4] at ht
        have h3 : t = 22 := by
          rcases j with _ | _ | j
          · simpa using ht.symm
          · simpa using ht.symm
          · simp at ht
        subst h3
        exact (show Tryd.prog.wantsStandIn 22 = false by kernel_rfl)⟩)
    (by kernel_rfl)
#print axioms symrecWords_holds
end Go.Proofs.YtmbndepgkglaeaaDoor
