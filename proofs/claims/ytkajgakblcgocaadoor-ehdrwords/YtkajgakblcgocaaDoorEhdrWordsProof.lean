/-
  Proved: for every two numbers, the Go function EhdrWords of graverlaw05 returns true, and what it was handed reads as before; the listed package variables tied to the program's text (the card).
  Conditions: none beyond the given statement's own form.
-/
import Derived.Test.YtkajgakblcgocaaDoorRows
import Derived.Test.YtkajgakblcgocaaDoorCards
import Derived.Test.YtkajgakblcgocaaDoorTie
import Derived.Test.YtkajgakblcgocaaDoorHT
import Derived.SevenTiedAt
import Derived.ChangeOld
import Derived.Below
namespace Go.Proofs.YtkajgakblcgocaaDoor
open Go.ChangeShapes Go.WideShapes Go.ChangeAt Go.RowKit Go.Deep
set_option linter.unusedVariables false
theorem knob_own : ownKnob Tryd.prog.godebug = none := by kernel_rfl
theorem laid_out : laidOutB Tryd.prog = true := by kernel_rfl
def laidE : List (String × DataW Unit) := [("math/bits.deBruijn32tab", Rows.laid_math_bits_deBruijn32tab), ("math/bits.deBruijn64tab", Rows.laid_math_bits_deBruijn64tab), ("internal/strconv.uint64pow10", Rows.laid_internal_strconv_uint64pow10), ("graver/ehdr.types", Rows.laid_graver_ehdr_types), ("graver/ehdr.machines", Rows.laid_graver_ehdr_machines)]
theorem g0 : Tryd.prog.globalNamed "graver/ehdr.types" = some 0 := by kernel_rfl
theorem g1 : Tryd.prog.globalNamed "graver/ehdr.machines" = some 1 := by kernel_rfl
theorem g5 : Tryd.prog.globalNamed "math/bits.deBruijn64tab" = some 5 := by kernel_rfl
theorem t0 : (Tryd.prog.globals[0]?).map (·.type) = some 41 := by kernel_rfl
theorem t1 : (Tryd.prog.globals[1]?).map (·.type) = some 43 := by kernel_rfl
theorem t5 : (Tryd.prog.globals[5]?).map (·.type) = some 102 := by kernel_rfl
theorem door_met (os : Os) (args : Array Value) : laidMetH Tryd.prog laidE ((World.doorLaid Tryd.prog 4000 os).forCall (fun _ _ => 0) ⟨#[], args, []⟩).memory :=
  laidMetH_of_parts3 (fuel := 8) (laidMet_of_run' 8 (by kernel_rfl) (by kernel_rfl)) (by kernel_rfl) (by kernel_rfl)
theorem of_laid {W : World} (h : laidMetH Tryd.prog laidE W) : Tabs W := by
  rw [MakeChecks.laidMetH_plain _ _ _ (by kernel_rfl)] at h
  obtain ⟨ps, ⟨ga, ta, ca, fa, pa, qa, hga, hta, hva, hda, ⟨gb, tb, cb, fb, pb, qb, hgb, htb, hvb, hdb, ⟨gc, tc, cc, fc, pc, qc, hgc, htc, hvc, hdc, ⟨gd, td, cd, fd, pd, qd, hgd, htd, hvd, hdd, ⟨ge, te, ce, fe, pe, qe, hge, hte, hve, hde, _, _⟩, _⟩, _⟩, _⟩, _⟩, _, _⟩ := h
  obtain rfl := Option.some.inj (g5.symm.trans hgb)
  obtain rfl := Option.some.inj (g0.symm.trans hgd)
  obtain rfl := Option.some.inj (g1.symm.trans hge)
  obtain rfl := Option.some.inj (t5.symm.trans htb)
  obtain rfl := Option.some.inj (t0.symm.trans htd)
  obtain rfl := Option.some.inj (t1.symm.trans hte)
  have c5 : Tryd.prog.cellsOf 5 = 1 := by kernel_rfl
  have c9 : Tryd.prog.cellsOf 9 = 1 := by kernel_rfl
  have c42 : Tryd.prog.cellsOf 42 = 2 := by kernel_rfl
  have x5 : W.cell? ⟨5, 15, none⟩ = some (.int .u8 4) := by
    have := arr_int Tryd.underlying102 Tryd.underlying5 c5 hdb 15 (by decide) 4 rfl
    rw [World.var?_cell hgb hvb 15]
    simpa using this
  have y0 : W.cell? ⟨0, 0, none⟩ = some (.string ⟨#[78, 79, 78, 69]⟩) := by
    have := arr_str Tryd.underlying41 Tryd.underlying9 c9 hdd 0 (by decide) [78, 79, 78, 69] rfl
    rw [World.var?_cell hgd hvd 0]
    simpa using this
  have y1 : W.cell? ⟨0, 1, none⟩ = some (.string ⟨#[82, 69, 76]⟩) := by
    have := arr_str Tryd.underlying41 Tryd.underlying9 c9 hdd 1 (by decide) [82, 69, 76] rfl
    rw [World.var?_cell hgd hvd 1]
    simpa using this
  have y2 : W.cell? ⟨0, 2, none⟩ = some (.string ⟨#[69, 88, 69, 67]⟩) := by
    have := arr_str Tryd.underlying41 Tryd.underlying9 c9 hdd 2 (by decide) [69, 88, 69, 67] rfl
    rw [World.var?_cell hgd hvd 2]
    simpa using this
  have y3 : W.cell? ⟨0, 3, none⟩ = some (.string ⟨#[68, 89, 78]⟩) := by
    have := arr_str Tryd.underlying41 Tryd.underlying9 c9 hdd 3 (by decide) [68, 89, 78] rfl
    rw [World.var?_cell hgd hvd 3]
    simpa using this
  have y4 : W.cell? ⟨0, 4, none⟩ = some (.string ⟨#[67, 79, 82, 69]⟩) := by
    have := arr_str Tryd.underlying41 Tryd.underlying9 c9 hdd 4 (by decide) [67, 79, 82, 69] rfl
    rw [World.var?_cell hgd hvd 4]
    simpa using this
  have z0 : W.cell? ⟨1, 0, none⟩ = some (.int .u64 0) ∧ W.cell? ⟨1, 1, none⟩ = some (.string ⟨#[110, 111, 110, 101]⟩) := by
    have := arr_pair Tryd.underlying43 Tryd.underlying42 (by kernel_rfl) Tryd.underlying22 Tryd.underlying9 c42 hde 0 (by decide) 0 [110, 111, 110, 101] rfl
    rw [World.var?_cell hge hve 0, World.var?_cell hge hve 1]
    simpa using this
  have z1 : W.cell? ⟨1, 2, none⟩ = some (.int .u64 3) ∧ W.cell? ⟨1, 3, none⟩ = some (.string ⟨#[51, 56, 54]⟩) := by
    have := arr_pair Tryd.underlying43 Tryd.underlying42 (by kernel_rfl) Tryd.underlying22 Tryd.underlying9 c42 hde 1 (by decide) 3 [51, 56, 54] rfl
    rw [World.var?_cell hge hve 2, World.var?_cell hge hve 3]
    simpa using this
  have z2 : W.cell? ⟨1, 4, none⟩ = some (.int .u64 8) ∧ W.cell? ⟨1, 5, none⟩ = some (.string ⟨#[77, 73, 80, 83]⟩) := by
    have := arr_pair Tryd.underlying43 Tryd.underlying42 (by kernel_rfl) Tryd.underlying22 Tryd.underlying9 c42 hde 2 (by decide) 8 [77, 73, 80, 83] rfl
    rw [World.var?_cell hge hve 4, World.var?_cell hge hve 5]
    simpa using this
  have z3 : W.cell? ⟨1, 6, none⟩ = some (.int .u64 20) ∧ W.cell? ⟨1, 7, none⟩ = some (.string ⟨#[80, 111, 119, 101, 114, 80, 67]⟩) := by
    have := arr_pair Tryd.underlying43 Tryd.underlying42 (by kernel_rfl) Tryd.underlying22 Tryd.underlying9 c42 hde 3 (by decide) 20 [80, 111, 119, 101, 114, 80, 67] rfl
    rw [World.var?_cell hge hve 6, World.var?_cell hge hve 7]
    simpa using this
  have z4 : W.cell? ⟨1, 8, none⟩ = some (.int .u64 21) ∧ W.cell? ⟨1, 9, none⟩ = some (.string ⟨#[80, 111, 119, 101, 114, 80, 67, 54, 52]⟩) := by
    have := arr_pair Tryd.underlying43 Tryd.underlying42 (by kernel_rfl) Tryd.underlying22 Tryd.underlying9 c42 hde 4 (by decide) 21 [80, 111, 119, 101, 114, 80, 67, 54, 52] rfl
    rw [World.var?_cell hge hve 8, World.var?_cell hge hve 9]
    simpa using this
  have z5 : W.cell? ⟨1, 10, none⟩ = some (.int .u64 22) ∧ W.cell? ⟨1, 11, none⟩ = some (.string ⟨#[83, 51, 57, 48]⟩) := by
    have := arr_pair Tryd.underlying43 Tryd.underlying42 (by kernel_rfl) Tryd.underlying22 Tryd.underlying9 c42 hde 5 (by decide) 22 [83, 51, 57, 48] rfl
    rw [World.var?_cell hge hve 10, World.var?_cell hge hve 11]
    simpa using this
  have z6 : W.cell? ⟨1, 12, none⟩ = some (.int .u64 40) ∧ W.cell? ⟨1, 13, none⟩ = some (.string ⟨#[65, 82, 77]⟩) := by
    have := arr_pair Tryd.underlying43 Tryd.underlying42 (by kernel_rfl) Tryd.underlying22 Tryd.underlying9 c42 hde 6 (by decide) 40 [65, 82, 77] rfl
    rw [World.var?_cell hge hve 12, World.var?_cell hge hve 13]
    simpa using this
  have z7 : W.cell? ⟨1, 14, none⟩ = some (.int .u64 62) ∧ W.cell? ⟨1, 15, none⟩ = some (.string ⟨#[88, 56, 54, 45, 54, 52]⟩) := by
    have := arr_pair Tryd.underlying43 Tryd.underlying42 (by kernel_rfl) Tryd.underlying22 Tryd.underlying9 c42 hde 7 (by decide) 62 [88, 56, 54, 45, 54, 52] rfl
    rw [World.var?_cell hge hve 14, World.var?_cell hge hve 15]
    simpa using this
  have z8 : W.cell? ⟨1, 16, none⟩ = some (.int .u64 183) ∧ W.cell? ⟨1, 17, none⟩ = some (.string ⟨#[65, 65, 114, 99, 104, 54, 52]⟩) := by
    have := arr_pair Tryd.underlying43 Tryd.underlying42 (by kernel_rfl) Tryd.underlying22 Tryd.underlying9 c42 hde 8 (by decide) 183 [65, 65, 114, 99, 104, 54, 52] rfl
    rw [World.var?_cell hge hve 16, World.var?_cell hge hve 17]
    simpa using this
  have z9 : W.cell? ⟨1, 18, none⟩ = some (.int .u64 243) ∧ W.cell? ⟨1, 19, none⟩ = some (.string ⟨#[82, 73, 83, 67, 45, 86]⟩) := by
    have := arr_pair Tryd.underlying43 Tryd.underlying42 (by kernel_rfl) Tryd.underlying22 Tryd.underlying9 c42 hde 9 (by decide) 243 [82, 73, 83, 67, 45, 86] rfl
    rw [World.var?_cell hge hve 18, World.var?_cell hge hve 19]
    simpa using this
  have z10 : W.cell? ⟨1, 20, none⟩ = some (.int .u64 258) ∧ W.cell? ⟨1, 21, none⟩ = some (.string ⟨#[76, 111, 111, 110, 103, 65, 114, 99, 104]⟩) := by
    have := arr_pair Tryd.underlying43 Tryd.underlying42 (by kernel_rfl) Tryd.underlying22 Tryd.underlying9 c42 hde 10 (by decide) 258 [76, 111, 111, 110, 103, 65, 114, 99, 104] rfl
    rw [World.var?_cell hge hve 20, World.var?_cell hge hve 21]
    simpa using this
  refine ⟨World.block_lt_of_cell? W _ x5, x5, y0, y1, y2, y3, y4, ?_⟩
  intro j v hv
  rw [Nat.zero_add]
  match j, hv with
  | 0, hv => (have e := Option.some.inj hv; rw [← e]; exact z0.1)
  | 1, hv => (have e := Option.some.inj hv; rw [← e]; exact z0.2)
  | 2, hv => (have e := Option.some.inj hv; rw [← e]; exact z1.1)
  | 3, hv => (have e := Option.some.inj hv; rw [← e]; exact z1.2)
  | 4, hv => (have e := Option.some.inj hv; rw [← e]; exact z2.1)
  | 5, hv => (have e := Option.some.inj hv; rw [← e]; exact z2.2)
  | 6, hv => (have e := Option.some.inj hv; rw [← e]; exact z3.1)
  | 7, hv => (have e := Option.some.inj hv; rw [← e]; exact z3.2)
  | 8, hv => (have e := Option.some.inj hv; rw [← e]; exact z4.1)
  | 9, hv => (have e := Option.some.inj hv; rw [← e]; exact z4.2)
  | 10, hv => (have e := Option.some.inj hv; rw [← e]; exact z5.1)
  | 11, hv => (have e := Option.some.inj hv; rw [← e]; exact z5.2)
  | 12, hv => (have e := Option.some.inj hv; rw [← e]; exact z6.1)
  | 13, hv => (have e := Option.some.inj hv; rw [← e]; exact z6.2)
  | 14, hv => (have e := Option.some.inj hv; rw [← e]; exact z7.1)
  | 15, hv => (have e := Option.some.inj hv; rw [← e]; exact z7.2)
  | 16, hv => (have e := Option.some.inj hv; rw [← e]; exact z8.1)
  | 17, hv => (have e := Option.some.inj hv; rw [← e]; exact z8.2)
  | 18, hv => (have e := Option.some.inj hv; rw [← e]; exact z9.1)
  | 19, hv => (have e := Option.some.inj hv; rw [← e]; exact z9.2)
  | 20, hv => (have e := Option.some.inj hv; rw [← e]; exact z10.1)
  | 21, hv => (have e := Option.some.inj hv; rw [← e]; exact z10.2)
  | n + 22, hv => (exact absurd hv (by simp [machCells]))
set_option maxRecDepth 100000 in
theorem ehdrWords_lifted (os : Os) (started : os.Started) (H : Type) (enc : TypeId × Value → H) :
    ReturnsInHanded {} Tryd.checked os 3 .any (fun w args => (Rows.ehdrWordsSpec.pre enc Tryd.prog Tryd.f3 [] false w args ∧ laidMetH Tryd.prog laidE w) ∧ sizedMet enc Tryd.prog Tryd.f3 (OpenSpec.ofChange Rows.ehdrWordsSpec) false w args)
      (Rows.ehdrWordsSpec.post enc Tryd.prog Tryd.f3 false true false false) := by
  refine returnsInHanded_of_change_and (C := Tryd.checked) (X := fun w _ => laidMetH Tryd.prog laidE w) (fun _ _ _ hh h => h.of_heap hh) knob_own started (by kernel_rfl) Tryd.func3
    (ChangeSpec.witness_shaped (enc := enc) (C := Tryd.checked) (os := os) (X := fun w _ => laidMetH Tryd.prog laidE w) false (World.doorLaid Tryd.prog 4000 os) #[.int .u64 0, .int .u64 0] 8 rfl (World.shaped_of_RefB (by kernel_rfl) (by kernel_rfl)) (by kernel_rfl) (by kernel_rfl) (by kernel_rfl) (door_met os _)) ?_
  intro W base args ds gs before hval0 hW _ _ hL _
  have hval : ∀ (j : Nat) t v, Tryd.f3.params[j]? = some t → args[j]? = some v → Value.okWide Tryd.prog W .any base t v := hval0
  have hW' := hW
  obtain ⟨p, q, hA0, hV, rfl, hfz, hnd⟩ := hW
  have hA : DataW.TrodAll enc Tryd.prog W 0 (fun _ => true) true Tryd.f3.params.toList args.toList ds p := hA0
  rw [Tryd.params3] at hA hval
  obtain ⟨v0, vs0, d0, ds0, p0, q0, hargs, rfl, rfl, h0, r0⟩ := trodAll_cons hA
  obtain ⟨v1, vs1, d1, ds1, p1, q1, rfl, rfl, rfl, h1, r1⟩ := trodAll_cons r0
  obtain ⟨rfl, rfl, rfl⟩ := trodAll_nil r1
  obtain rfl : args = #[v0, v1] := by cases args; simp_all
  obtain ⟨rfl, rfl⟩ := trodVars_none hV
  obtain ⟨a0, rfl, rfl, rfl, w0⟩ := open_int Tryd.underlying22 (hval 0 22 v0 rfl rfl) h0
  obtain ⟨a1, rfl, rfl, rfl, w1⟩ := open_int Tryd.underlying22 (hval 1 22 v1 rfl rfl) h1
  have hT := of_laid hL
  clear hA0 hval0
  simp only [List.append_nil] at hW'
  have bd0 := bounds_u64 w0
  have bd1 := bounds_u64 w1
  obtain ⟨n0, rfl⟩ := Int.eq_ofNat_of_zero_le bd0.1
  obtain ⟨n1, rfl⟩ := Int.eq_ofNat_of_zero_le bd1.1
  have hwalk : Calls Tryd.prog 3 #[.int .u64 (n0 : Int), .int .u64 (n1 : Int)] W fun e w' => e = .returned (.bool true) ∧ Below W.heap.size W w' := by
    by_cases h5 : n0 < 5
    · exact words_lt n0 n1 (by omega) (by omega) h5 W hT
    · exact words_ge n0 n1 (by omega) (by omega) (by omega) W hT
  refine hwalk.mono fun e W' ⟨he, bel⟩ => ?_
  subst he
  exact ⟨_, rfl, _, _, _, [], [], [], hW', (trodAll_cons_mk (shut_bool Tryd.underlying4 _) trodAll_mk0), (trodAll_cons_mk (shut_int Tryd.underlying22 w0) (trodAll_cons_mk (shut_int Tryd.underlying22 w1) trodAll_mk0)), rfl, bel.frame _, fun h => by cases h⟩
theorem ehdrWords_said : Rows.EhdrWordsSaid :=
  OpenClaim.holds_of_wide 3 Tryd.f3 rfl rfl rfl rfl rfl rfl rfl ⟨rfl, rfl, rfl, rfl, rfl⟩ rfl rfl rfl rfl rfl (by kernel_rfl) Tryd.func3 (by kernel_rfl)
    (of_decide_eq_true (by kernel_rfl)) (by unfold Func.isWrapper; first | (rw [if_pos (by decide +kernel)]; kernel_rfl) | (rw [if_neg (by decide +kernel)]; exact ⟨rfl, rfl⟩))
    (fun os started H enc _ => ehdrWords_lifted os started H enc)
theorem ehdrWords_holds : Rows.EhdrWordsCardSaid :=
  Claim7.holds_tied_plain_at .later [] [.data, .data, .data, .data, .data] true (true, "ab3114423103e7d8e1704da2d2dff9b6e73193ec99190dab690550fad9ca9352") false
    ehdrWords_said (fun _ h => by cases h) (by kernel_rfl) (fun _ h => by cases h) ehdrWords_row_tie rfl ⟨rfl, rfl⟩ (by kernel_rfl) rfl
    (fun f fn hf hfn => by
      obtain rfl : f = 3 := Option.some.inj ((show Tryd.prog.funcNamed "graver/graverlaw05.EhdrWords" = some 3 by kernel_rfl).symm.trans hf) |>.symm
      obtain rfl : fn = Tryd.f3 := (Option.some.inj (Tryd.func3.symm.trans hfn)).symm
      exact ⟨by kernel_rfl, fun j t ht => by
        rw [Tryd.params3] at ht
        have h3 : t = 22 := by
          rcases j with _ | _ | j
          · simpa using ht.symm
          · simpa using ht.symm
          · simp at ht
        subst h3
        exact (show Tryd.prog.wantsStandIn 22 = false by kernel_rfl)⟩)
    (by kernel_rfl)
#print axioms ehdrWords_holds
end Go.Proofs.YtkajgakblcgocaaDoor
