/- RawAny's walk. Conditions: those written in each theorem. -/
import Derived.Test.YtedocnidgiglaaaLH
namespace Go.Proofs.Ytedocnidgiglaaa
open Go.RowKit
set_option linter.unusedVariables false
set_option linter.unusedSimpArgs false
theorem FileIs.err {ones : Nat → Nat} {s : ByteArray} {w w' : World} {v : Value} {k : Int} (h : FileIs ones s w v k w') : k = (parseErr ones s : Nat) := by
  rcases h with ⟨_, h, _⟩ | ⟨h0, h, _⟩
  · exact h
  · rw [h, h0]; rfl
theorem ident_le (big wide : Bool) : (⟨(identL big wide 0 0 []).toArray⟩ : ByteArray).size ≤ 16 := by cases big <;> cases wide <;> decide +kernel
set_option maxRecDepth 1000000 in
set_option maxHeartbeats 4000000 in
theorem rawAny_core (fl : Int) (s T I V : ByteArray) (m : Nat) (big wide : Bool) (hb : (bits BinOp.and IntKind.i64 fl 1 == 1) = big) (hw : (bits BinOp.and IntKind.i64 fl 2 == 2) = wide) (hm : (s.size ≤ 400 ∧ m = s.size) ∨ (400 < s.size ∧ m = 400)) (hT : s.extract 0 m = T) (hI : I = ⟨(identL big wide 0 0 []).toArray⟩) (hV : I ++ T = V) (w : World) :
    Calls Try.prog 5 #[.int .i64 fl, .string s] w fun e w' => e = .returned (.bool true) ∧ Below w.heap.size w w' := by
  have hTs : T.size ≤ 400 := by rw [← hT]; simp; omega
  have hIs : I.size ≤ 16 := by rw [hI]; exact ident_le big wide
  have hVs : V.size ≤ 416 := by rw [← hV, ByteArray.size_append]; omega
  have HF := Lib.hid (fun u => form11 fl big wide hb hw u)
  have HC := Lib.hid (fun u => show Calls Try.prog 25 #[.agg #[.bool big, .bool wide, .int .u8 0, .int .u8 0, .string ⟨#[]⟩]] u (fun e w' => e = .returned (.string I) ∧ Below u.heap.size u w') from by rw [hI]; exact bytes_any big wide 0 0 ⟨#[]⟩ u)
  have HS := Lib.hid (fun u => show (Op.stringOp .add I T).run Try.prog u = .ok (.string V) u from by rw [← hV]; exact run_string_add_sum u _ _ (by omega))
  have HP1 := Lib.hid (fun u => parse_is (Pop.popF 64) (Lib.hid (fun x hx u => ones_any x u hx)) V (by omega) u)
  have HP2 := Lib.hid (fun u => parse_is (Pop.popF 64) (Lib.hid (fun x hx u => ones_any x u hx)) T (by omega) u)
  have HR1 := Lib.hid (fun u => refWhy11 V (by omega) u)
  have HR2 := Lib.hid (fun u => refWhy11 T (by omega) u)
  have HM := Lib.hid hm; have HT := Lib.hid hT
  clear hm hT hI hV hb hw hTs hIs hVs
  go_enter Try.func5, Try.ntmps5
  go_wp2_with fail
  refine (speaks11 _).mono ?_
  rintro e w1 ⟨rfl, hb1⟩
  have HB1 := Lib.hid hb1; clear hb1
  go_upto_region 3 with (fail)
  refine areg3 _ _ _ _ _ _ _ _ _ _ _ _ _ _ _ _ _ _ _ _ _ _ _ _ _ _ _ _ _ _ _ _ _ _ _ _ _ _ _ _ _ _ _ s T m w1 (by have := HM.out; split <;> omega) (by have := HM.out; omega) (by omega) (by have := HM.out; omega) (by rw [← HT.out]; rfl) HT.out (fun u12 u13 u14 u15 u16 w2 b2 => ?_)
  have HB2 := Lib.hid (HB1.out.trans (b2.mono HB1.out.size)); clear b2 HB1 HM HT
  go_upto_region 4 with (fail)
  refine areg4 _ _ _ _ _ _ _ _ _ _ _ _ _ _ _ _ _ _ _ _ _ _ _ _ _ _ _ _ _ _ _ _ _ _ _ _ _ _ _ _ _ _ fl big wide T I V w2 HS.out HF HC (fun u17 u18 u19 u20 u21 u22 w3 b3 => ?_)
  have HB3 := Lib.hid (HB2.out.trans (b3.mono HB2.out.size)); clear b3 HB2 HS HF HC
  go_upto_region 5 with (fail)
  refine areg5 _ _ _ _ _ _ _ _ _ _ _ _ _ _ _ _ _ _ _ _ _ _ _ _ _ _ _ _ _ _ _ _ _ _ _ _ _ _ _ _ _ _ _ (Pop.popF 64) V w3 HP1 (fun u23 u24 u25 u26 u27 G big wide abi ver pad h0 h1 h2 h3 h4 h5 h6 h7 h8 h9 h10 h11 h12 As ns cs Ap np cp nm k u w4 hfi hu hG hg b4 => ?_)
  have hk := hfi.err
  subst hk
  have HB4 := Lib.hid (HB3.out.trans (b4.mono HB3.out.size)); clear b4 HB3 hfi hu hG hg HP1
  go_upto_region 6 with (fail)
  refine areg6 _ _ _ _ _ _ _ _ _ _ _ _ _ _ _ _ _ _ _ _ _ _ _ _ _ _ _ _ _ _ _ _ _ _ _ _ _ _ _ _ _ _ _ (Pop.popF 64) T w4 HP2 (fun u28 u29 u30 u31 u32 G2 bg2 wd2 abi ver pad h0 h1 h2 h3 h4 h5 h6 h7 h8 h9 h10 h11 h12 As ns cs Ap np cp nm k u w5 hfi hu hG hg b5 => ?_)
  have hk := hfi.err
  subst hk
  have HB5 := Lib.hid (HB4.out.trans (b5.mono HB4.out.size)); clear b5 HB4 hfi hu hG hg HP2
  generalize parseErr (Pop.popF 64) V = m1 at *
  generalize parseErr (Pop.popF 64) T = m2 at *
  go_upto_region 7 with (fail)
  refine areg7 _ _ _ _ _ _ _ _ _ _ _ _ _ _ _ _ _ _ _ _ _ _ _ _ _ _ _ _ _ _ _ _ _ _ _ _ _ _ _ _ m1 m2 V T w5 HR1 HR2 (fun u33 u34 u35 u36 u37 u38 u39 u40 u41 u42 w6 b6 => ?_)
  have HB6 := Lib.hid (HB5.out.trans (b6.mono HB5.out.size)); clear b6 HB5
  go_wp2
  go_ret
  exact ⟨rfl, HB6.out⟩
theorem rawAny_wf (fl : Int) (s : ByteArray) (w : World) : Calls Try.prog 5 #[.int .i64 fl, .string s] w fun e w' => e = .returned (.bool true) ∧ Below w.heap.size w w' :=
  rawAny_core fl s _ _ _ (min s.size 400) _ _ rfl rfl (by omega) rfl rfl rfl w
end Go.Proofs.Ytedocnidgiglaaa
