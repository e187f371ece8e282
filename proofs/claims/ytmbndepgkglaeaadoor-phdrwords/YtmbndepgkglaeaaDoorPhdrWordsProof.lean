/-
  Proved: for every two numbers, the Go function PhdrWords of graverlaw07 returns true, and what it was handed reads as before; the listed package variables tied to the program's text (the card).
  Conditions: none beyond the given statement's own form.
-/
import Derived.Test.YtmbndepgkglaeaaDoorRows
import Derived.Test.YtmbndepgkglaeaaDoorCards
import Derived.Test.YtmbndepgkglaeaaDoorTie
import Derived.Test.YtmbndepgkglaeaaDoorLQ
import Derived.Test.YtmbndepgkglaeaaDoorLR
import Derived.Test.YtmbndepgkglaeaaDoorHS
import Derived.SevenTiedAt
import Derived.ChangeOld
import Derived.Below
namespace Go.Proofs.YtmbndepgkglaeaaDoor
open Go.ChangeShapes Go.WideShapes Go.ChangeAt Go.RowKit Go.Deep
set_option linter.unusedVariables false
theorem knob_own : ownKnob Tryd.prog.godebug = none := by kernel_rfl
theorem laid_out : laidOutB Tryd.prog = true := by kernel_rfl
def laidE : List (String × DataW Unit) := [("math/bits.deBruijn32tab", Rows.laid_math_bits_deBruijn32tab), ("math/bits.deBruijn64tab", Rows.laid_math_bits_deBruijn64tab), ("internal/strconv.uint64pow10", Rows.laid_internal_strconv_uint64pow10), ("graver/phdr.types", Rows.laid_graver_phdr_types)]
theorem g5 : Tryd.prog.globalNamed "math/bits.deBruijn64tab" = some 5 := by kernel_rfl
theorem t5 : (Tryd.prog.globals[5]?).map (·.type) = some 99 := by kernel_rfl
theorem g0 : Tryd.prog.globalNamed "graver/phdr.types" = some 0 := by kernel_rfl
theorem t0 : (Tryd.prog.globals[0]?).map (·.type) = some 40 := by kernel_rfl
theorem door_met (os : Os) (args : Array Value) : laidMetH Tryd.prog laidE ((World.doorLaid Tryd.prog 4000 os).forCall (fun _ _ => 0) ⟨#[], args, []⟩).memory :=
  laidMetH_of_parts3 (fuel := 8) (laidMet_of_run' 8 (by kernel_rfl) (by kernel_rfl)) (by kernel_rfl) (by kernel_rfl)
theorem of_laid {W : World} (h : laidMetH Tryd.prog laidE W) : TabsP W := by
  rw [MakeChecks.laidMetH_plain _ _ _ (by kernel_rfl)] at h
  obtain ⟨ps, ⟨ga, ta, ca, fa, pa, qa, hga, hta, hva, hda, ⟨gb, tb, cb, fb, pb, qb, hgb, htb, hvb, hdb, ⟨gc, tc, cc, fc, pc, qc, hgc, htc, hvc, hdc, ⟨gd, td, cd, fd, pd, qd, hgd, htd, hvd, hdd, _, _⟩, _⟩, _⟩, _⟩, _, _⟩ := h
  obtain rfl := Option.some.inj (g5.symm.trans hgb)
  obtain rfl := Option.some.inj (t5.symm.trans htb)
  obtain rfl := Option.some.inj (g0.symm.trans hgd)
  obtain rfl := Option.some.inj (t0.symm.trans htd)
  have c5 : Tryd.prog.cellsOf 5 = 1 := by kernel_rfl
  have c9 : Tryd.prog.cellsOf 9 = 1 := by kernel_rfl
  have c22 : Tryd.prog.cellsOf 22 = 1 := by kernel_rfl
  have x5 : W.cell? ⟨5, 15, none⟩ = some (.int .u8 4) := by
    have := arr_int Tryd.underlying99 Tryd.underlying5 c5 hdb 15 (by decide) 4 rfl
    rw [World.var?_cell hgb hvb 15]
    simpa using this
  have y0 : W.cell? ⟨0, 0, none⟩ = some (.string ⟨#[78, 85, 76, 76]⟩) := by
    have := arr_str Tryd.underlying40 Tryd.underlying9 c9 hdd 0 (by decide) [78, 85, 76, 76] rfl
    rw [World.var?_cell hgd hvd 0]
    simpa using this
  have y1 : W.cell? ⟨0, 1, none⟩ = some (.string ⟨#[76, 79, 65, 68]⟩) := by
    have := arr_str Tryd.underlying40 Tryd.underlying9 c9 hdd 1 (by decide) [76, 79, 65, 68] rfl
    rw [World.var?_cell hgd hvd 1]
    simpa using this
  have y2 : W.cell? ⟨0, 2, none⟩ = some (.string ⟨#[68, 89, 78, 65, 77, 73, 67]⟩) := by
    have := arr_str Tryd.underlying40 Tryd.underlying9 c9 hdd 2 (by decide) [68, 89, 78, 65, 77, 73, 67] rfl
    rw [World.var?_cell hgd hvd 2]
    simpa using this
  have y3 : W.cell? ⟨0, 3, none⟩ = some (.string ⟨#[73, 78, 84, 69, 82, 80]⟩) := by
    have := arr_str Tryd.underlying40 Tryd.underlying9 c9 hdd 3 (by decide) [73, 78, 84, 69, 82, 80] rfl
    rw [World.var?_cell hgd hvd 3]
    simpa using this
  have y4 : W.cell? ⟨0, 4, none⟩ = some (.string ⟨#[78, 79, 84, 69]⟩) := by
    have := arr_str Tryd.underlying40 Tryd.underlying9 c9 hdd 4 (by decide) [78, 79, 84, 69] rfl
    rw [World.var?_cell hgd hvd 4]
    simpa using this
  have y5 : W.cell? ⟨0, 5, none⟩ = some (.string ⟨#[83, 72, 76, 73, 66]⟩) := by
    have := arr_str Tryd.underlying40 Tryd.underlying9 c9 hdd 5 (by decide) [83, 72, 76, 73, 66] rfl
    rw [World.var?_cell hgd hvd 5]
    simpa using this
  have y6 : W.cell? ⟨0, 6, none⟩ = some (.string ⟨#[80, 72, 68, 82]⟩) := by
    have := arr_str Tryd.underlying40 Tryd.underlying9 c9 hdd 6 (by decide) [80, 72, 68, 82] rfl
    rw [World.var?_cell hgd hvd 6]
    simpa using this
  have y7 : W.cell? ⟨0, 7, none⟩ = some (.string ⟨#[84, 76, 83]⟩) := by
    have := arr_str Tryd.underlying40 Tryd.underlying9 c9 hdd 7 (by decide) [84, 76, 83] rfl
    rw [World.var?_cell hgd hvd 7]
    simpa using this
  refine ⟨World.block_lt_of_cell? W _ x5, x5, ?_⟩
  · intro j v hv
    rw [Nat.zero_add]
    match j, hv with
    | 0, hv => (have e := Option.some.inj hv; rw [← e]; exact y0)
    | 1, hv => (have e := Option.some.inj hv; rw [← e]; exact y1)
    | 2, hv => (have e := Option.some.inj hv; rw [← e]; exact y2)
    | 3, hv => (have e := Option.some.inj hv; rw [← e]; exact y3)
    | 4, hv => (have e := Option.some.inj hv; rw [← e]; exact y4)
    | 5, hv => (have e := Option.some.inj hv; rw [← e]; exact y5)
    | 6, hv => (have e := Option.some.inj hv; rw [← e]; exact y6)
    | 7, hv => (have e := Option.some.inj hv; rw [← e]; exact y7)
    | n + 8, hv => (exact absurd hv (by simp [segCells]))
set_option maxRecDepth 100000 in
theorem phdrWords_lifted (os : Os) (started : os.Started) (H : Type) (enc : TypeId × Value → H) :
    ReturnsInHanded {} Tryd.checked os 3 .any (fun w args => (Rows.phdrWordsSpec.pre enc Tryd.prog Tryd.f3 [] false w args ∧ laidMetH Tryd.prog laidE w) ∧ sizedMet enc Tryd.prog Tryd.f3 (OpenSpec.ofChange Rows.phdrWordsSpec) false w args)
      (Rows.phdrWordsSpec.post enc Tryd.prog Tryd.f3 false true false false) := by
  refine returnsInHanded_of_change_and (C := Tryd.checked) (X := fun w _ => laidMetH Tryd.prog laidE w) (fun _ _ _ hh h => h.of_heap hh) knob_own started (by kernel_rfl) Tryd.func3
    (ChangeSpec.witness_shaped (enc := enc) (C := Tryd.checked) (os := os) (X := fun w _ => laidMetH Tryd.prog laidE w) false (World.doorLaid Tryd.prog 4000 os) #[.int .u64 0, .int .u64 0] 8 rfl (World.shaped_of_RefB (by kernel_rfl) (by kernel_rfl)) (by kernel_rfl) (by kernel_rfl) (by kernel_rfl) (door_met os _)) ?_
  intro W base args ds gs before hval0 hW _ _ hL _
  have hval : ∀ (j : Nat) t v, Tryd.f3.params[j]? = some t → args[j]? = some v → Value.okWide Tryd.prog W .any base t v := hval0
  have hW' := hW
  obtain ⟨p, q, hA0, hV, rfl, hfz, hnd⟩ := hW
  have hA : DataW.TrodAll enc Tryd.prog W 0 (fun _ => true) true Tryd.f3.params.toList args.toList ds p := hA0
  rw [Tryd.params3] at hA hval
  obtain ⟨v0, vs0, d0, ds0, p0, q0, hargs, rfl, rfl, h0, r0⟩ := trodAll_cons hA
  obtain ⟨v1, vs1, d1, ds1, p1, q1, rfl, rfl, rfl, h1, r1⟩ := trodAll_cons r0
  obtain ⟨rfl, rfl, rfl⟩ := trodAll_nil r1
  obtain rfl : args = #[v0, v1] := by cases args; simp_all
  obtain ⟨rfl, rfl⟩ := trodVars_none hV
  obtain ⟨a0, rfl, rfl, rfl, w0⟩ := open_int Tryd.underlying22 (hval 0 22 v0 rfl rfl) h0
  obtain ⟨a1, rfl, rfl, rfl, w1⟩ := open_int Tryd.underlying22 (hval 1 22 v1 rfl rfl) h1
  have hT := of_laid hL
  clear hA0 hval0
  simp only [List.append_nil] at hW'
  have bd0 := bounds_u64 w0
  have bd1 := bounds_u64 w1
  obtain ⟨n0, rfl⟩ := Int.eq_ofNat_of_zero_le bd0.1
  obtain ⟨n1, rfl⟩ := Int.eq_ofNat_of_zero_le bd1.1
  have hwalk : Calls Tryd.prog 3 #[.int .u64 (n0 : Int), .int .u64 (n1 : Int)] W fun e w' => e = .returned (.bool true) ∧ Below W.heap.size W w' := by
    by_cases h5 : n0 < 8
    · exact pwords_lt n0 n1 (by omega) (by omega) h5 W hT
    · exact pwords_ge n0 n1 (by omega) (by omega) (by omega) W hT
  refine hwalk.mono fun e W' ⟨he, bel⟩ => ?_
  subst he
  exact ⟨_, rfl, _, _, _, [], [], [], hW', (trodAll_cons_mk (shut_bool Tryd.underlying4 _) trodAll_mk0), (trodAll_cons_mk (shut_int Tryd.underlying22 w0) (trodAll_cons_mk (shut_int Tryd.underlying22 w1) trodAll_mk0)), rfl, bel.frame _, fun h => by cases h⟩
theorem phdrWords_said : Rows.PhdrWordsSaid :=
  OpenClaim.holds_of_wide 3 Tryd.f3 rfl rfl rfl rfl rfl rfl rfl ⟨rfl, rfl, rfl, rfl, rfl⟩ rfl rfl rfl rfl rfl (by kernel_rfl) Tryd.func3 (by kernel_rfl)
    (of_decide_eq_true (by kernel_rfl)) (by unfold Func.isWrapper; first | (rw [if_pos (by decide +kernel)]; kernel_rfl) | (rw [if_neg (by decide +kernel)]; exact ⟨rfl, rfl⟩))
    (fun os started H enc _ => phdrWords_lifted os started H enc)
theorem phdrWords_holds : Rows.PhdrWordsCardSaid :=
  Claim7.holds_tied_plain_at .later [] [.data, .data, .data, .data] true (true, "2161f7daf6b63b1d19bf614ea6b8a780b4d357deb73bc1241a1161ab5f5aea59") false
    phdrWords_said (fun _ h => by cases h) (by kernel_rfl) (fun _ h => by cases h) phdrWords_row_tie rfl ⟨rfl, rfl⟩ (by kernel_rfl) rfl
    (fun f fn hf hfn => by
      obtain rfl : f = 3 := Option.some.inj ((show Tryd.prog.funcNamed "graver/graverlaw07.PhdrWords" = some 3 by kernel_rfl).symm.trans hf) |>.symm
      obtain rfl : fn = Tryd.f3 := (Option.some.inj (Tryd.func3.symm.trans hfn)).symm
      exact ⟨by kernel_rfl, fun j t ht => by
        rw [Tryd.params3] at ht
        have h3 : t = 22 := by
          rcases j with _ | _ | j
          · simpa using ht.symm
          · simpa using ht.symm
          · simp at ht
        subst h3
        exact (show Tryd.prog.wantsStandIn 22 = false by kernel_rfl)⟩)
    (by kernel_rfl)
#print axioms phdrWords_holds
end Go.Proofs.YtmbndepgkglaeaaDoor
