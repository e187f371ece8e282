/-
  Proved: for every two numbers, the Go function ShdrWords of graverlaw06 returns true, and what it was handed reads as before; the listed package variables tied to the program's text (the card).
  Conditions: none beyond the given statement's own form.
-/
import Derived.Test.YtkajgakblcgocaaDoorRows
import Derived.Test.YtkajgakblcgocaaDoorCards
import Derived.Test.YtkajgakblcgocaaDoorTie
import Derived.Test.YtkajgakblcgocaaDoorHQ
import Derived.Test.YtkajgakblcgocaaDoorHR
import Derived.Test.YtkajgakblcgocaaDoorHS
import Derived.SevenTiedAt
import Derived.ChangeOld
import Derived.Below
namespace Go.Proofs.YtkajgakblcgocaaDoor
open Go.ChangeShapes Go.WideShapes Go.ChangeAt Go.RowKit Go.Deep
set_option linter.unusedVariables false
theorem knob_own : ownKnob Tryd.prog.godebug = none := by kernel_rfl
theorem laid_out : laidOutB Tryd.prog = true := by kernel_rfl
def laidE : List (String × DataW Unit) := [("math/bits.deBruijn32tab", Rows.laid_math_bits_deBruijn32tab), ("math/bits.deBruijn64tab", Rows.laid_math_bits_deBruijn64tab), ("internal/strconv.uint64pow10", Rows.laid_internal_strconv_uint64pow10), ("graver/shdr.types", Rows.laid_graver_shdr_types)]
theorem g2 : Tryd.prog.globalNamed "graver/shdr.types" = some 2 := by kernel_rfl
theorem g5 : Tryd.prog.globalNamed "math/bits.deBruijn64tab" = some 5 := by kernel_rfl
theorem t2 : (Tryd.prog.globals[2]?).map (·.type) = some 49 := by kernel_rfl
theorem t5 : (Tryd.prog.globals[5]?).map (·.type) = some 102 := by kernel_rfl
theorem door_met (os : Os) (args : Array Value) : laidMetH Tryd.prog laidE ((World.doorLaid Tryd.prog 4000 os).forCall (fun _ _ => 0) ⟨#[], args, []⟩).memory :=
  laidMetH_of_parts3 (fuel := 8) (laidMet_of_run' 8 (by kernel_rfl) (by kernel_rfl)) (by kernel_rfl) (by kernel_rfl)
theorem of_laid {W : World} (h : laidMetH Tryd.prog laidE W) : TabsS W := by
  rw [MakeChecks.laidMetH_plain _ _ _ (by kernel_rfl)] at h
  obtain ⟨ps, ⟨ga, ta, ca, fa, pa, qa, hga, hta, hva, hda, ⟨gb, tb, cb, fb, pb, qb, hgb, htb, hvb, hdb, ⟨gc, tc, cc, fc, pc, qc, hgc, htc, hvc, hdc, ⟨gd, td, cd, fd, pd, qd, hgd, htd, hvd, hdd, _, _⟩, _⟩, _⟩, _⟩, _, _⟩ := h
  obtain rfl := Option.some.inj (g5.symm.trans hgb)
  obtain rfl := Option.some.inj (g2.symm.trans hgd)
  obtain rfl := Option.some.inj (t5.symm.trans htb)
  obtain rfl := Option.some.inj (t2.symm.trans htd)
  have c5 : Tryd.prog.cellsOf 5 = 1 := by kernel_rfl
  have c9 : Tryd.prog.cellsOf 9 = 1 := by kernel_rfl
  have x5 : W.cell? ⟨5, 15, none⟩ = some (.int .u8 4) := by
    have := arr_int Tryd.underlying102 Tryd.underlying5 c5 hdb 15 (by decide) 4 rfl
    rw [World.var?_cell hgb hvb 15]
    simpa using this
  have y0 : W.cell? ⟨2, 0, none⟩ = some (.string ⟨#[78, 85, 76, 76]⟩) := by
    have := arr_str Tryd.underlying49 Tryd.underlying9 c9 hdd 0 (by decide) [78, 85, 76, 76] rfl
    rw [World.var?_cell hgd hvd 0]
    simpa using this
  have y1 : W.cell? ⟨2, 1, none⟩ = some (.string ⟨#[80, 82, 79, 71, 66, 73, 84, 83]⟩) := by
    have := arr_str Tryd.underlying49 Tryd.underlying9 c9 hdd 1 (by decide) [80, 82, 79, 71, 66, 73, 84, 83] rfl
    rw [World.var?_cell hgd hvd 1]
    simpa using this
  have y2 : W.cell? ⟨2, 2, none⟩ = some (.string ⟨#[83, 89, 77, 84, 65, 66]⟩) := by
    have := arr_str Tryd.underlying49 Tryd.underlying9 c9 hdd 2 (by decide) [83, 89, 77, 84, 65, 66] rfl
    rw [World.var?_cell hgd hvd 2]
    simpa using this
  have y3 : W.cell? ⟨2, 3, none⟩ = some (.string ⟨#[83, 84, 82, 84, 65, 66]⟩) := by
    have := arr_str Tryd.underlying49 Tryd.underlying9 c9 hdd 3 (by decide) [83, 84, 82, 84, 65, 66] rfl
    rw [World.var?_cell hgd hvd 3]
    simpa using this
  have y4 : W.cell? ⟨2, 4, none⟩ = some (.string ⟨#[82, 69, 76, 65]⟩) := by
    have := arr_str Tryd.underlying49 Tryd.underlying9 c9 hdd 4 (by decide) [82, 69, 76, 65] rfl
    rw [World.var?_cell hgd hvd 4]
    simpa using this
  have y5 : W.cell? ⟨2, 5, none⟩ = some (.string ⟨#[72, 65, 83, 72]⟩) := by
    have := arr_str Tryd.underlying49 Tryd.underlying9 c9 hdd 5 (by decide) [72, 65, 83, 72] rfl
    rw [World.var?_cell hgd hvd 5]
    simpa using this
  have y6 : W.cell? ⟨2, 6, none⟩ = some (.string ⟨#[68, 89, 78, 65, 77, 73, 67]⟩) := by
    have := arr_str Tryd.underlying49 Tryd.underlying9 c9 hdd 6 (by decide) [68, 89, 78, 65, 77, 73, 67] rfl
    rw [World.var?_cell hgd hvd 6]
    simpa using this
  have y7 : W.cell? ⟨2, 7, none⟩ = some (.string ⟨#[78, 79, 84, 69]⟩) := by
    have := arr_str Tryd.underlying49 Tryd.underlying9 c9 hdd 7 (by decide) [78, 79, 84, 69] rfl
    rw [World.var?_cell hgd hvd 7]
    simpa using this
  have y8 : W.cell? ⟨2, 8, none⟩ = some (.string ⟨#[78, 79, 66, 73, 84, 83]⟩) := by
    have := arr_str Tryd.underlying49 Tryd.underlying9 c9 hdd 8 (by decide) [78, 79, 66, 73, 84, 83] rfl
    rw [World.var?_cell hgd hvd 8]
    simpa using this
  have y9 : W.cell? ⟨2, 9, none⟩ = some (.string ⟨#[82, 69, 76]⟩) := by
    have := arr_str Tryd.underlying49 Tryd.underlying9 c9 hdd 9 (by decide) [82, 69, 76] rfl
    rw [World.var?_cell hgd hvd 9]
    simpa using this
  have y10 : W.cell? ⟨2, 10, none⟩ = some (.string ⟨#[83, 72, 76, 73, 66]⟩) := by
    have := arr_str Tryd.underlying49 Tryd.underlying9 c9 hdd 10 (by decide) [83, 72, 76, 73, 66] rfl
    rw [World.var?_cell hgd hvd 10]
    simpa using this
  have y11 : W.cell? ⟨2, 11, none⟩ = some (.string ⟨#[68, 89, 78, 83, 89, 77]⟩) := by
    have := arr_str Tryd.underlying49 Tryd.underlying9 c9 hdd 11 (by decide) [68, 89, 78, 83, 89, 77] rfl
    rw [World.var?_cell hgd hvd 11]
    simpa using this
  have y12 : W.cell? ⟨2, 12, none⟩ = some (.string ⟨#[]⟩) := by
    have := arr_str Tryd.underlying49 Tryd.underlying9 c9 hdd 12 (by decide) [] rfl
    rw [World.var?_cell hgd hvd 12]
    simpa using this
  have y13 : W.cell? ⟨2, 13, none⟩ = some (.string ⟨#[]⟩) := by
    have := arr_str Tryd.underlying49 Tryd.underlying9 c9 hdd 13 (by decide) [] rfl
    rw [World.var?_cell hgd hvd 13]
    simpa using this
  have y14 : W.cell? ⟨2, 14, none⟩ = some (.string ⟨#[73, 78, 73, 84, 95, 65, 82, 82, 65, 89]⟩) := by
    have := arr_str Tryd.underlying49 Tryd.underlying9 c9 hdd 14 (by decide) [73, 78, 73, 84, 95, 65, 82, 82, 65, 89] rfl
    rw [World.var?_cell hgd hvd 14]
    simpa using this
  have y15 : W.cell? ⟨2, 15, none⟩ = some (.string ⟨#[70, 73, 78, 73, 95, 65, 82, 82, 65, 89]⟩) := by
    have := arr_str Tryd.underlying49 Tryd.underlying9 c9 hdd 15 (by decide) [70, 73, 78, 73, 95, 65, 82, 82, 65, 89] rfl
    rw [World.var?_cell hgd hvd 15]
    simpa using this
  have y16 : W.cell? ⟨2, 16, none⟩ = some (.string ⟨#[80, 82, 69, 73, 78, 73, 84, 95, 65, 82, 82, 65, 89]⟩) := by
    have := arr_str Tryd.underlying49 Tryd.underlying9 c9 hdd 16 (by decide) [80, 82, 69, 73, 78, 73, 84, 95, 65, 82, 82, 65, 89] rfl
    rw [World.var?_cell hgd hvd 16]
    simpa using this
  have y17 : W.cell? ⟨2, 17, none⟩ = some (.string ⟨#[71, 82, 79, 85, 80]⟩) := by
    have := arr_str Tryd.underlying49 Tryd.underlying9 c9 hdd 17 (by decide) [71, 82, 79, 85, 80] rfl
    rw [World.var?_cell hgd hvd 17]
    simpa using this
  have y18 : W.cell? ⟨2, 18, none⟩ = some (.string ⟨#[83, 89, 77, 84, 65, 66, 95, 83, 72, 78, 68, 88]⟩) := by
    have := arr_str Tryd.underlying49 Tryd.underlying9 c9 hdd 18 (by decide) [83, 89, 77, 84, 65, 66, 95, 83, 72, 78, 68, 88] rfl
    rw [World.var?_cell hgd hvd 18]
    simpa using this
  refine ⟨World.block_lt_of_cell? W _ x5, x5, ?_⟩
  intro j v hv
  rw [Nat.zero_add]
  match j, hv with
  | 0, hv => (have e := Option.some.inj hv; rw [← e]; exact y0)
  | 1, hv => (have e := Option.some.inj hv; rw [← e]; exact y1)
  | 2, hv => (have e := Option.some.inj hv; rw [← e]; exact y2)
  | 3, hv => (have e := Option.some.inj hv; rw [← e]; exact y3)
  | 4, hv => (have e := Option.some.inj hv; rw [← e]; exact y4)
  | 5, hv => (have e := Option.some.inj hv; rw [← e]; exact y5)
  | 6, hv => (have e := Option.some.inj hv; rw [← e]; exact y6)
  | 7, hv => (have e := Option.some.inj hv; rw [← e]; exact y7)
  | 8, hv => (have e := Option.some.inj hv; rw [← e]; exact y8)
  | 9, hv => (have e := Option.some.inj hv; rw [← e]; exact y9)
  | 10, hv => (have e := Option.some.inj hv; rw [← e]; exact y10)
  | 11, hv => (have e := Option.some.inj hv; rw [← e]; exact y11)
  | 12, hv => (have e := Option.some.inj hv; rw [← e]; exact y12)
  | 13, hv => (have e := Option.some.inj hv; rw [← e]; exact y13)
  | 14, hv => (have e := Option.some.inj hv; rw [← e]; exact y14)
  | 15, hv => (have e := Option.some.inj hv; rw [← e]; exact y15)
  | 16, hv => (have e := Option.some.inj hv; rw [← e]; exact y16)
  | 17, hv => (have e := Option.some.inj hv; rw [← e]; exact y17)
  | 18, hv => (have e := Option.some.inj hv; rw [← e]; exact y18)
  | n + 19, hv => (exact absurd hv (by simp [secCells]))
set_option maxRecDepth 100000 in
theorem shdrWords_lifted (os : Os) (started : os.Started) (H : Type) (enc : TypeId × Value → H) :
    ReturnsInHanded {} Tryd.checked os 4 .any (fun w args => (Rows.shdrWordsSpec.pre enc Tryd.prog Tryd.f4 [] false w args ∧ laidMetH Tryd.prog laidE w) ∧ sizedMet enc Tryd.prog Tryd.f4 (OpenSpec.ofChange Rows.shdrWordsSpec) false w args)
      (Rows.shdrWordsSpec.post enc Tryd.prog Tryd.f4 false true false false) := by
  refine returnsInHanded_of_change_and (C := Tryd.checked) (X := fun w _ => laidMetH Tryd.prog laidE w) (fun _ _ _ hh h => h.of_heap hh) knob_own started (by kernel_rfl) Tryd.func4
    (ChangeSpec.witness_shaped (enc := enc) (C := Tryd.checked) (os := os) (X := fun w _ => laidMetH Tryd.prog laidE w) false (World.doorLaid Tryd.prog 4000 os) #[.int .u64 0, .int .u64 0] 8 rfl (World.shaped_of_RefB (by kernel_rfl) (by kernel_rfl)) (by kernel_rfl) (by kernel_rfl) (by kernel_rfl) (door_met os _)) ?_
  intro W base args ds gs before hval0 hW _ _ hL _
  have hval : ∀ (j : Nat) t v, Tryd.f4.params[j]? = some t → args[j]? = some v → Value.okWide Tryd.prog W .any base t v := hval0
  have hW' := hW
  obtain ⟨p, q, hA0, hV, rfl, hfz, hnd⟩ := hW
  have hA : DataW.TrodAll enc Tryd.prog W 0 (fun _ => true) true Tryd.f4.params.toList args.toList ds p := hA0
  rw [Tryd.params4] at hA hval
  obtain ⟨v0, vs0, d0, ds0, p0, q0, hargs, rfl, rfl, h0, r0⟩ := trodAll_cons hA
  obtain ⟨v1, vs1, d1, ds1, p1, q1, rfl, rfl, rfl, h1, r1⟩ := trodAll_cons r0
  obtain ⟨rfl, rfl, rfl⟩ := trodAll_nil r1
  obtain rfl : args = #[v0, v1] := by cases args; simp_all
  obtain ⟨rfl, rfl⟩ := trodVars_none hV
  obtain ⟨a0, rfl, rfl, rfl, w0⟩ := open_int Tryd.underlying22 (hval 0 22 v0 rfl rfl) h0
  obtain ⟨a1, rfl, rfl, rfl, w1⟩ := open_int Tryd.underlying22 (hval 1 22 v1 rfl rfl) h1
  have hT := of_laid hL
  clear hA0 hval0
  simp only [List.append_nil] at hW'
  have bd0 := bounds_u64 w0
  have bd1 := bounds_u64 w1
  obtain ⟨n0, rfl⟩ := Int.eq_ofNat_of_zero_le bd0.1
  obtain ⟨n1, rfl⟩ := Int.eq_ofNat_of_zero_le bd1.1
  have hwalk : Calls Tryd.prog 4 #[.int .u64 (n0 : Int), .int .u64 (n1 : Int)] W fun e w' => e = .returned (.bool true) ∧ Below W.heap.size W w' := by
    by_cases h5 : n0 < 19
    · exact swords_lt n0 n1 (by omega) (by omega) h5 W hT
    · exact swords_ge n0 n1 (by omega) (by omega) (by omega) W hT
  refine hwalk.mono fun e W' ⟨he, bel⟩ => ?_
  subst he
  exact ⟨_, rfl, _, _, _, [], [], [], hW', (trodAll_cons_mk (shut_bool Tryd.underlying4 _) trodAll_mk0), (trodAll_cons_mk (shut_int Tryd.underlying22 w0) (trodAll_cons_mk (shut_int Tryd.underlying22 w1) trodAll_mk0)), rfl, bel.frame _, fun h => by cases h⟩
theorem shdrWords_said : Rows.ShdrWordsSaid :=
  OpenClaim.holds_of_wide 4 Tryd.f4 rfl rfl rfl rfl rfl rfl rfl ⟨rfl, rfl, rfl, rfl, rfl⟩ rfl rfl rfl rfl rfl (by kernel_rfl) Tryd.func4 (by kernel_rfl)
    (of_decide_eq_true (by kernel_rfl)) (by unfold Func.isWrapper; first | (rw [if_pos (by decide +kernel)]; kernel_rfl) | (rw [if_neg (by decide +kernel)]; exact ⟨rfl, rfl⟩))
    (fun os started H enc _ => shdrWords_lifted os started H enc)
theorem shdrWords_holds : Rows.ShdrWordsCardSaid :=
  Claim7.holds_tied_plain_at .later [] [.data, .data, .data, .data] true (true, "ab3114423103e7d8e1704da2d2dff9b6e73193ec99190dab690550fad9ca9352") false
    shdrWords_said (fun _ h => by cases h) (by kernel_rfl) (fun _ h => by cases h) shdrWords_row_tie rfl ⟨rfl, rfl⟩ (by kernel_rfl) rfl
    (fun f fn hf hfn => by
      obtain rfl : f = 4 := Option.some.inj ((show Tryd.prog.funcNamed "graver/graverlaw06.ShdrWords" = some 4 by kernel_rfl).symm.trans hf) |>.symm
      obtain rfl : fn = Tryd.f4 := (Option.some.inj (Tryd.func4.symm.trans hfn)).symm
      exact ⟨by kernel_rfl, fun j t ht => by
        rw [Tryd.params4] at ht
        have h3 : t = 22 := by
          rcases j with _ | _ | j
          · simpa using ht.symm
          · simpa using ht.symm
          · simp at ht
        subst h3
        exact (show Tryd.prog.wantsStandIn 22 = false by kernel_rfl)⟩)
    (by kernel_rfl)
#print axioms shdrWords_holds
end Go.Proofs.YtkajgakblcgocaaDoor
