/-
  DynrecTags: the values of any tag are those that entries with it have, in order, the first one is found; the names of tags are never the same for two of them; the listed package variables are tied to the text of the program (the card).
  Conditions: none beyond the given statement's own form.
-/
import Derived.Test.YtnmklmaclmjfbaaDoorRows
import Derived.Test.YtnmklmaclmjfbaaDoorCards
import Derived.Test.YtnmklmaclmjfbaaDoorTie
import Derived.Test.YtnmklmaclmjfbaaDoorGX
import Derived.Test.YtnmklmaclmjfbaaDoorGS
import Derived.LaidMore
import Derived.Lay
import Derived.Stop.Joined
import Derived.MakeChecks
import Derived.SevenTiedAt
import Derived.OpenShut
import Derived.ShutString
import Derived.ChangeOld
import Derived.Below
namespace Go.Proofs.YtnmklmaclmjfbaaDoor
open Go.ChangeShapes Go.WideShapes Go.ChangeAt Go.RowKit Go.Deep
open Go.ChangeMaps (open_string shut_string)
set_option linter.unusedVariables false
theorem knob_own : ownKnob Tryd.prog.godebug = none := by kernel_rfl
theorem laid_out : laidOutB Tryd.prog = true := by kernel_rfl
def laidE : List (String × DataW Unit) := [("math/bits.deBruijn32tab", Rows.laid_math_bits_deBruijn32tab), ("math/bits.deBruijn64tab", Rows.laid_math_bits_deBruijn64tab), ("internal/strconv.uint64pow10", Rows.laid_internal_strconv_uint64pow10), ("unicode/utf8.acceptRanges", Rows.laid_unicode_utf8_acceptRanges), ("graver/dynrec.tags", Rows.laid_graver_dynrec_tags), ("unicode/utf8.first", Rows.laid_unicode_utf8_first)]
theorem g6 : Tryd.prog.globalNamed "math/bits.deBruijn64tab" = some 6 := by kernel_rfl
theorem t6 : (Tryd.prog.globals[6]?).map (·.type) = some 135 := by kernel_rfl
theorem g0 : Tryd.prog.globalNamed "graver/dynrec.tags" = some 0 := by kernel_rfl
theorem t0 : (Tryd.prog.globals[0]?).map (·.type) = some 86 := by kernel_rfl
theorem of_laid {W : World} (h : laidMetH Tryd.prog laidE W) : TabsD W := by
  rw [MakeChecks.laidMetH_plain _ _ _ (by kernel_rfl)] at h
  obtain ⟨ps, ⟨ga, ta, ca, fa, pa, qa, hga, hta, hva, hda, ⟨gb, tb, cb, fb, pb, qb, hgb, htb, hvb, hdb, ⟨gc, tc, cc, fc, pc, qc, hgc, htc, hvc, hdc, ⟨gd, td, cd, fd, pd, qd, hgd, htd, hvd, hdd, ⟨ge, te, ce, fe, pe, qe, hge, hte, hve, hde, _, _⟩, _⟩, _⟩, _⟩, _⟩, _, _⟩ := h
  obtain rfl := Option.some.inj (g6.symm.trans hgb)
  obtain rfl := Option.some.inj (t6.symm.trans htb)
  obtain rfl := Option.some.inj (g0.symm.trans hge)
  obtain rfl := Option.some.inj (t0.symm.trans hte)
  have c5 : Tryd.prog.cellsOf 5 = 1 := by kernel_rfl
  have c9 : Tryd.prog.cellsOf 9 = 1 := by kernel_rfl
  have x5 : W.cell? ⟨6, 15, none⟩ = some (.int .u8 4) := by
    have := arr_int Tryd.underlying135 Tryd.underlying5 c5 hdb 15 (by decide) 4 rfl
    rw [World.var?_cell hgb hvb 15]
    simpa using this
  have y0 : W.cell? ⟨0, 0, none⟩ = some (.string ⟨#[78, 85, 76, 76]⟩) := by
    have := arr_str Tryd.underlying86 Tryd.underlying9 c9 hde 0 (by decide) [78, 85, 76, 76] rfl
    rw [World.var?_cell hge hve 0]
    simpa using this
  have y1 : W.cell? ⟨0, 1, none⟩ = some (.string ⟨#[78, 69, 69, 68, 69, 68]⟩) := by
    have := arr_str Tryd.underlying86 Tryd.underlying9 c9 hde 1 (by decide) [78, 69, 69, 68, 69, 68] rfl
    rw [World.var?_cell hge hve 1]
    simpa using this
  have y2 : W.cell? ⟨0, 2, none⟩ = some (.string ⟨#[80, 76, 84, 82, 69, 76, 83, 90]⟩) := by
    have := arr_str Tryd.underlying86 Tryd.underlying9 c9 hde 2 (by decide) [80, 76, 84, 82, 69, 76, 83, 90] rfl
    rw [World.var?_cell hge hve 2]
    simpa using this
  have y3 : W.cell? ⟨0, 3, none⟩ = some (.string ⟨#[80, 76, 84, 71, 79, 84]⟩) := by
    have := arr_str Tryd.underlying86 Tryd.underlying9 c9 hde 3 (by decide) [80, 76, 84, 71, 79, 84] rfl
    rw [World.var?_cell hge hve 3]
    simpa using this
  have y4 : W.cell? ⟨0, 4, none⟩ = some (.string ⟨#[72, 65, 83, 72]⟩) := by
    have := arr_str Tryd.underlying86 Tryd.underlying9 c9 hde 4 (by decide) [72, 65, 83, 72] rfl
    rw [World.var?_cell hge hve 4]
    simpa using this
  have y5 : W.cell? ⟨0, 5, none⟩ = some (.string ⟨#[83, 84, 82, 84, 65, 66]⟩) := by
    have := arr_str Tryd.underlying86 Tryd.underlying9 c9 hde 5 (by decide) [83, 84, 82, 84, 65, 66] rfl
    rw [World.var?_cell hge hve 5]
    simpa using this
  have y6 : W.cell? ⟨0, 6, none⟩ = some (.string ⟨#[83, 89, 77, 84, 65, 66]⟩) := by
    have := arr_str Tryd.underlying86 Tryd.underlying9 c9 hde 6 (by decide) [83, 89, 77, 84, 65, 66] rfl
    rw [World.var?_cell hge hve 6]
    simpa using this
  have y7 : W.cell? ⟨0, 7, none⟩ = some (.string ⟨#[82, 69, 76, 65]⟩) := by
    have := arr_str Tryd.underlying86 Tryd.underlying9 c9 hde 7 (by decide) [82, 69, 76, 65] rfl
    rw [World.var?_cell hge hve 7]
    simpa using this
  have y8 : W.cell? ⟨0, 8, none⟩ = some (.string ⟨#[82, 69, 76, 65, 83, 90]⟩) := by
    have := arr_str Tryd.underlying86 Tryd.underlying9 c9 hde 8 (by decide) [82, 69, 76, 65, 83, 90] rfl
    rw [World.var?_cell hge hve 8]
    simpa using this
  have y9 : W.cell? ⟨0, 9, none⟩ = some (.string ⟨#[82, 69, 76, 65, 69, 78, 84]⟩) := by
    have := arr_str Tryd.underlying86 Tryd.underlying9 c9 hde 9 (by decide) [82, 69, 76, 65, 69, 78, 84] rfl
    rw [World.var?_cell hge hve 9]
    simpa using this
  have y10 : W.cell? ⟨0, 10, none⟩ = some (.string ⟨#[83, 84, 82, 83, 90]⟩) := by
    have := arr_str Tryd.underlying86 Tryd.underlying9 c9 hde 10 (by decide) [83, 84, 82, 83, 90] rfl
    rw [World.var?_cell hge hve 10]
    simpa using this
  have y11 : W.cell? ⟨0, 11, none⟩ = some (.string ⟨#[83, 89, 77, 69, 78, 84]⟩) := by
    have := arr_str Tryd.underlying86 Tryd.underlying9 c9 hde 11 (by decide) [83, 89, 77, 69, 78, 84] rfl
    rw [World.var?_cell hge hve 11]
    simpa using this
  have y12 : W.cell? ⟨0, 12, none⟩ = some (.string ⟨#[73, 78, 73, 84]⟩) := by
    have := arr_str Tryd.underlying86 Tryd.underlying9 c9 hde 12 (by decide) [73, 78, 73, 84] rfl
    rw [World.var?_cell hge hve 12]
    simpa using this
  have y13 : W.cell? ⟨0, 13, none⟩ = some (.string ⟨#[70, 73, 78, 73]⟩) := by
    have := arr_str Tryd.underlying86 Tryd.underlying9 c9 hde 13 (by decide) [70, 73, 78, 73] rfl
    rw [World.var?_cell hge hve 13]
    simpa using this
  have y14 : W.cell? ⟨0, 14, none⟩ = some (.string ⟨#[83, 79, 78, 65, 77, 69]⟩) := by
    have := arr_str Tryd.underlying86 Tryd.underlying9 c9 hde 14 (by decide) [83, 79, 78, 65, 77, 69] rfl
    rw [World.var?_cell hge hve 14]
    simpa using this
  have y15 : W.cell? ⟨0, 15, none⟩ = some (.string ⟨#[82, 80, 65, 84, 72]⟩) := by
    have := arr_str Tryd.underlying86 Tryd.underlying9 c9 hde 15 (by decide) [82, 80, 65, 84, 72] rfl
    rw [World.var?_cell hge hve 15]
    simpa using this
  have y16 : W.cell? ⟨0, 16, none⟩ = some (.string ⟨#[83, 89, 77, 66, 79, 76, 73, 67]⟩) := by
    have := arr_str Tryd.underlying86 Tryd.underlying9 c9 hde 16 (by decide) [83, 89, 77, 66, 79, 76, 73, 67] rfl
    rw [World.var?_cell hge hve 16]
    simpa using this
  have y17 : W.cell? ⟨0, 17, none⟩ = some (.string ⟨#[82, 69, 76]⟩) := by
    have := arr_str Tryd.underlying86 Tryd.underlying9 c9 hde 17 (by decide) [82, 69, 76] rfl
    rw [World.var?_cell hge hve 17]
    simpa using this
  have y18 : W.cell? ⟨0, 18, none⟩ = some (.string ⟨#[82, 69, 76, 83, 90]⟩) := by
    have := arr_str Tryd.underlying86 Tryd.underlying9 c9 hde 18 (by decide) [82, 69, 76, 83, 90] rfl
    rw [World.var?_cell hge hve 18]
    simpa using this
  have y19 : W.cell? ⟨0, 19, none⟩ = some (.string ⟨#[82, 69, 76, 69, 78, 84]⟩) := by
    have := arr_str Tryd.underlying86 Tryd.underlying9 c9 hde 19 (by decide) [82, 69, 76, 69, 78, 84] rfl
    rw [World.var?_cell hge hve 19]
    simpa using this
  have y20 : W.cell? ⟨0, 20, none⟩ = some (.string ⟨#[80, 76, 84, 82, 69, 76]⟩) := by
    have := arr_str Tryd.underlying86 Tryd.underlying9 c9 hde 20 (by decide) [80, 76, 84, 82, 69, 76] rfl
    rw [World.var?_cell hge hve 20]
    simpa using this
  have y21 : W.cell? ⟨0, 21, none⟩ = some (.string ⟨#[68, 69, 66, 85, 71]⟩) := by
    have := arr_str Tryd.underlying86 Tryd.underlying9 c9 hde 21 (by decide) [68, 69, 66, 85, 71] rfl
    rw [World.var?_cell hge hve 21]
    simpa using this
  have y22 : W.cell? ⟨0, 22, none⟩ = some (.string ⟨#[84, 69, 88, 84, 82, 69, 76]⟩) := by
    have := arr_str Tryd.underlying86 Tryd.underlying9 c9 hde 22 (by decide) [84, 69, 88, 84, 82, 69, 76] rfl
    rw [World.var?_cell hge hve 22]
    simpa using this
  have y23 : W.cell? ⟨0, 23, none⟩ = some (.string ⟨#[74, 77, 80, 82, 69, 76]⟩) := by
    have := arr_str Tryd.underlying86 Tryd.underlying9 c9 hde 23 (by decide) [74, 77, 80, 82, 69, 76] rfl
    rw [World.var?_cell hge hve 23]
    simpa using this
  have y24 : W.cell? ⟨0, 24, none⟩ = some (.string ⟨#[66, 73, 78, 68, 95, 78, 79, 87]⟩) := by
    have := arr_str Tryd.underlying86 Tryd.underlying9 c9 hde 24 (by decide) [66, 73, 78, 68, 95, 78, 79, 87] rfl
    rw [World.var?_cell hge hve 24]
    simpa using this
  refine ⟨World.block_lt_of_cell? W _ x5, x5, ?_⟩
  · intro j v hv
    rw [Nat.zero_add]
    match j, hv with
    | 0, hv => (have e := Option.some.inj hv; rw [← e]; exact y0)
    | 1, hv => (have e := Option.some.inj hv; rw [← e]; exact y1)
    | 2, hv => (have e := Option.some.inj hv; rw [← e]; exact y2)
    | 3, hv => (have e := Option.some.inj hv; rw [← e]; exact y3)
    | 4, hv => (have e := Option.some.inj hv; rw [← e]; exact y4)
    | 5, hv => (have e := Option.some.inj hv; rw [← e]; exact y5)
    | 6, hv => (have e := Option.some.inj hv; rw [← e]; exact y6)
    | 7, hv => (have e := Option.some.inj hv; rw [← e]; exact y7)
    | 8, hv => (have e := Option.some.inj hv; rw [← e]; exact y8)
    | 9, hv => (have e := Option.some.inj hv; rw [← e]; exact y9)
    | 10, hv => (have e := Option.some.inj hv; rw [← e]; exact y10)
    | 11, hv => (have e := Option.some.inj hv; rw [← e]; exact y11)
    | 12, hv => (have e := Option.some.inj hv; rw [← e]; exact y12)
    | 13, hv => (have e := Option.some.inj hv; rw [← e]; exact y13)
    | 14, hv => (have e := Option.some.inj hv; rw [← e]; exact y14)
    | 15, hv => (have e := Option.some.inj hv; rw [← e]; exact y15)
    | 16, hv => (have e := Option.some.inj hv; rw [← e]; exact y16)
    | 17, hv => (have e := Option.some.inj hv; rw [← e]; exact y17)
    | 18, hv => (have e := Option.some.inj hv; rw [← e]; exact y18)
    | 19, hv => (have e := Option.some.inj hv; rw [← e]; exact y19)
    | 20, hv => (have e := Option.some.inj hv; rw [← e]; exact y20)
    | 21, hv => (have e := Option.some.inj hv; rw [← e]; exact y21)
    | 22, hv => (have e := Option.some.inj hv; rw [← e]; exact y22)
    | 23, hv => (have e := Option.some.inj hv; rw [← e]; exact y23)
    | 24, hv => (have e := Option.some.inj hv; rw [← e]; exact y24)
    | n + 25, hv => (exact absurd hv (by simp [tagCells]))
set_option maxRecDepth 100000 in
theorem dynrecTags_lifted (os : Os) (started : os.Started) (H : Type) (enc : TypeId × Value → H) :
    ReturnsInHanded {} Tryd.checked os 6 .any (fun w args => (Rows.dynrecTagsSpec.pre enc Tryd.prog Tryd.f6 [] false w args ∧ laidMetH Tryd.prog laidE w) ∧ sizedMet enc Tryd.prog Tryd.f6 (OpenSpec.ofChange Rows.dynrecTagsSpec) false w args)
      (Rows.dynrecTagsSpec.post enc Tryd.prog Tryd.f6 false true false false) := by
  refine returnsInHanded_of_change_and (C := Tryd.checked) (X := fun w _ => laidMetH Tryd.prog laidE w) (fun _ _ _ hh h => h.of_heap hh) knob_own started (by kernel_rfl) Tryd.func6
    (ChangeSpec.witness_shaped (enc := enc) (C := Tryd.checked) (os := os) (X := fun w _ => laidMetH Tryd.prog laidE w) false (World.laidAll Tryd.prog os laidE) #[.slice none 0 0, .int .u64 0, .int .u64 0] 8 (World.laidAll_os _ _ _) (World.shaped_of_ZipB (by kernel_rfl) (by kernel_rfl)) (by kernel_rfl) (by kernel_rfl) (by kernel_rfl) (by rw [MakeChecks.laidMetH_plain _ _ _ (by kernel_rfl)]; exact laidMet_laidAll _ (by kernel_rfl) (by kernel_rfl))) ?_
  intro W base args ds gs before hval0 hW _ _ hL _
  have hval : ∀ (j : Nat) t v, Tryd.f6.params[j]? = some t → args[j]? = some v → Value.okWide Tryd.prog W .any base t v := hval0
  have hW' := hW
  obtain ⟨p, q, hA0, hV, rfl, hfz, hnd⟩ := hW
  have hA : DataW.TrodAll enc Tryd.prog W 0 (fun _ => true) true Tryd.f6.params.toList args.toList ds p := hA0
  rw [Tryd.params6] at hA hval
  obtain ⟨v0, vs0, d0, ds0, p0, q0, hargs, rfl, rfl, h0, r0⟩ := trodAll_cons hA
  obtain ⟨v1, vs1, d1, ds1, p1, q1, rfl, rfl, rfl, h1, r1⟩ := trodAll_cons r0
  obtain ⟨v2, vs2, d2, ds2, p2, q2, rfl, rfl, rfl, h2, r2⟩ := trodAll_cons r1
  obtain ⟨rfl, rfl, rfl⟩ := trodAll_nil r2
  obtain rfl : args = #[v0, v1, v2] := by cases args; simp_all
  obtain ⟨rfl, rfl⟩ := trodVars_none hV
  obtain ⟨a0, len0, cap0, rfl⟩ := okWide_slice Tryd.underlying22 (hval 0 22 v0 rfl rfl)
  have k0 := h0
  have lt0 : ∀ x ∈ p0, x.block < W.heap.size := by obtain ⟨m, hm⟩ := k0; exact DataW.trod_lt m _ _ _ hm
  obtain ⟨z0, w0, n0⟩ : ∃ R, RowP W a0 len0 R ∧ ∀ i, i < len0 → (R i).1 < 18446744073709551616 ∧ (R i).2 < 18446744073709551616 := by
    obtain ⟨fuel, hf⟩ := h0
    rcases open_pairs Tryd.underlying22 Tryd.underlying32 Tryd.underlying31 (by kernel_rfl) (by kernel_rfl) hf with hcs | ⟨x, l, c, R, hcs, hl, hr, hn⟩
    · simp [Value.cells] at hcs
      obtain ⟨rfl, rfl, rfl⟩ := hcs
      exact ⟨fun _ => (0, 0), fun i hi => absurd hi (Nat.not_lt_zero _), fun i hi => absurd hi (Nat.not_lt_zero _)⟩
    · simp [Value.cells] at hcs
      obtain ⟨rfl, rfl, rfl⟩ := hcs
      exact ⟨R, hr, hn⟩
  obtain ⟨a1, rfl, rfl, rfl, w1⟩ := open_int Tryd.underlying31 (hval 1 31 v1 rfl rfl) h1
  obtain ⟨a2, rfl, rfl, rfl, w2⟩ := open_int Tryd.underlying31 (hval 2 31 v2 rfl rfl) h2
  have bd1 := bounds_u64 w1
  have bd2 := bounds_u64 w2
  obtain ⟨m1, rfl⟩ := Int.eq_ofNat_of_zero_le bd1.1
  obtain ⟨m2, rfl⟩ := Int.eq_ofNat_of_zero_le bd2.1
  have hT := of_laid hL
  clear hA0 hval0
  have hwalk : Calls Tryd.prog 6 #[.slice a0 len0 cap0, .int .u64 (m1 : Int), .int .u64 (m2 : Int)] W fun e w' => e = .returned (.bool true) ∧ Below W.heap.size W w' := tags_law a0 len0 cap0 z0 m1 m2 (by omega) (by omega) W w0 hT
  refine hwalk.mono fun e W' ⟨he, bel⟩ => ?_
  subst he
  exact ⟨_, rfl, _, _, _, [], _, [], hW', (trodAll_cons_mk (shut_bool Tryd.underlying4 _) trodAll_mk0), (trodAll_cons_mk (Below.trod laid_out (by kernel_rfl) (of_decide_eq_true (by kernel_rfl)) k0 bel lt0) (trodAll_cons_mk (shut_int Tryd.underlying31 w1) (trodAll_cons_mk (shut_int Tryd.underlying31 w2) trodAll_mk0))), rfl, bel.frame _, fun h => by cases h⟩
theorem dynrecTags_said : Rows.DynrecTagsSaid :=
  OpenClaim.holds_of_wide 6 Tryd.f6 rfl rfl rfl rfl rfl rfl rfl ⟨rfl, rfl, rfl, rfl, rfl⟩ rfl rfl rfl rfl rfl (by kernel_rfl) Tryd.func6 (by kernel_rfl)
    (of_decide_eq_true (by kernel_rfl)) (by unfold Func.isWrapper; first | (rw [if_pos (by decide +kernel)]; kernel_rfl) | (rw [if_neg (by decide +kernel)]; exact ⟨rfl, rfl⟩))
    (fun os started H enc _ => dynrecTags_lifted os started H enc)
theorem dynrecTags_holds : Rows.DynrecTagsCardSaid :=
  Claim7.holds_tied_plain_at .later [] [.data, .data, .data, .data, .data, .pinned] true (true, "ae01829c08b8bbd3fc9e311ae0a2f51276567ea718f9870cb32e18596310920d") false
    dynrecTags_said (fun _ h => by cases h) (by kernel_rfl) (fun _ h => by cases h) dynrecTags_row_tie rfl ⟨rfl, rfl⟩ (by kernel_rfl) rfl
    (fun f fn hf hfn => by
      obtain rfl : f = 6 := Option.some.inj ((show Tryd.prog.funcNamed "graver/graverlaw10.DynrecTags" = some 6 by kernel_rfl).symm.trans hf) |>.symm
      obtain rfl : fn = Tryd.f6 := (Option.some.inj (Tryd.func6.symm.trans hfn)).symm
      exact ⟨by kernel_rfl, fun j t ht => by
        rw [Tryd.params6] at ht
        rcases j with _ | _ | _ | j
        · have h3 : t = 22 := by simpa using ht.symm
          subst h3
          exact (show Tryd.prog.wantsStandIn 22 = false by kernel_rfl)
        · have h3 : t = 31 := by simpa using ht.symm
          subst h3
          exact (show Tryd.prog.wantsStandIn 31 = false by kernel_rfl)
        · have h3 : t = 31 := by simpa using ht.symm
          subst h3
          exact (show Tryd.prog.wantsStandIn 31 = false by kernel_rfl)
        · simp at ht⟩)
    (by kernel_rfl)
#print axioms dynrecTags_holds
end Go.Proofs.YtnmklmaclmjfbaaDoor
