/- The reference's word on a file's tables. Conditions: those written in each theorem. -/
import Derived.Test.YtedocnidgiglaaaVG
import Derived.Test.YtedocnidgiglaaaVJ
import Derived.Test.YtedocnidgiglaaaVK
import Derived.Test.YtedocnidgiglaaaVL
import Derived.Test.YtedocnidgiglaaaVM
import Derived.Deep.CutBlock
import Derived.Deep.DeepCutAuto
namespace Go.Proofs.Ytedocnidgiglaaa
open Go.RowKit
set_option linter.unusedVariables false
theorem res17 (tm : Array Value) (w : World) (v : Value) (h : tm.getD 2 undef = v) : (results Try.f17 tm).run Try.prog w = .ok v w := by
  simp only [results, Try.results17]
  simp
  simpa using h
set_option maxRecDepth 100000 in
set_option maxHeartbeats 6000000 in
theorem why_rest (s : ByteArray) (hl : s.size ≤ 1048576) (hi : idErr s = 0) (h16 : 16 ≤ s.size) (w : World) : Calls Try.prog 17 #[.string s] w (fun e w' => e = .returned (.int .i64 (parseErr (Pop.popF 64) s : Nat)) ∧ Below w.heap.size w w') := by
  have hM : s.size ≤ maxLen := by unfold maxLen; omega
  have h1 : ¬ (1048576 : Int) < (s.size : Int) := by omega
  have HW := Lib.hid (show ∀ u, Calls Try.prog 56 #[.string s] u fun e w' => e = .returned (.int .i64 0) ∧ u = w' from fun u => by have q := refWhy_any s hl u; rw [hi] at q; exact q)
  obtain ⟨r, hr⟩ : ∃ r, r = parseErr (Pop.popF 64) s := ⟨_, rfl⟩
  rw [← hr]
  have HR := Lib.hid hr; clear hr
  have g4 : (4 : Int) < (s.size : Int) := by omega
  have g5 : (5 : Int) < (s.size : Int) := by omega
  have b4 := byteN_at s 4 (by omega); have b5 := byteN_at s 5 (by omega)
  have q5 : ((s[5].toNat : Int) == 2) = bigB s := by rw [b5]; rfl
  have q4 : ((s[4].toNat : Int) == 2) = wideB s := by rw [b4]; rfl
  clear b4 b5
  have hls : 16 + eLen (wideB s) = ehs (wideB s) := by unfold eLen ehs; cases wideB s <;> rfl
  have HH := Lib.hid (fun u => head_any s u hl)
  rw [hls] at HH
  have hd1 : hdErr s = if s.size < ehs (wideB s) then 3 else chkN s := by unfold hdErr; rw [if_neg (fun q => q hi), hls]
  have hhd : s.size < ehs (wideB s) → r = 3 := fun h => by rw [if_pos h] at hd1; rw [HR.out, pe_hd hl (by rw [hd1]; decide), hd1]
  have hch : ¬ s.size < ehs (wideB s) → (chkN s ≠ 0 → r = chkN s) ∧ (chkN s = 0 → hdErr s = 0) := fun h => by rw [if_neg h] at hd1; exact ⟨fun q => by rw [HR.out, pe_hd hl (by rw [hd1]; exact q), hd1], fun q => by rw [hd1, q]⟩
  have HCH := Lib.hid hch; clear hch hd1
  have hv := hd_version s
  have HV := Lib.hid (show 24 ≤ s.size → ∀ u, Calls Try.prog 57 #[.bool (bigB s), .string s, .int .u64 20, .int .u64 4] u fun e w' => e = .returned (.int .u64 (hdN s 2 : Nat)) ∧ u = w' from fun h u => by rw [hv]; exact num_any (bigB s) s 20 4 u hl (by omega))
  have hck : chkN s = if hdN s 2 ≠ 1 then 7 else if hdN s 7 ≠ ehs (wideB s) ∨ (hdN s 4 ≠ 0 ∧ hdN s 8 ≠ phs (wideB s)) ∨ (hdN s 5 ≠ 0 ∧ hdN s 10 ≠ shs (wideB s)) then 8 else 0 := rfl
  have HCK := Lib.hid hck; clear hck hv
  have hsl : sLen (wideB s) = shs (wideB s) := by unfold sLen shs; cases wideB s <;> rfl
  have HES := Lib.hid (show errSec s = (if hdN s 5 = 0 then (if hdN s 11 ≠ 0 then 10 else if hdN s 12 ≠ 0 then 11 else 0) else if ¬ hdN s 5 + 1 * sLen (wideB s) ≤ s.size then 9 else if nSec s = 0 ∨ 4096 < nSec s then 10 else if ¬ hdN s 5 + nSec s * sLen (wideB s) ≤ s.size then 9 else if fSec s 0 1 ≠ 0 then 27 else if nSec s ≤ nameS s then 11 else 0) from rfl)
  have HNS := Lib.hid (show nSec s = if hdN s 5 = 0 then 0 else if hdN s 11 = 0 then fSec s 0 5 else hdN s 11 from rfl)
  have HQS := Lib.hid (show nameS s = if hdN s 5 = 0 then 0 else if hdN s 12 = 65535 then fSec s 0 6 else hdN s 12 from rfl)
  have HRS := Lib.hid (fun (h0 : hdErr s = 0) (h : errSec s ≠ 0) => (HR.out.trans (pe_sec hl h0 h) : r = errSec s))
  have HF := Lib.hid (show ∀ i k, k < 10 → hdN s 5 + i * sLen (wideB s) + sLen (wideB s) ≤ s.size → ∀ u, Calls Try.prog 20 #[.bool (bigB s), .int .u64 (wLen (wideB s) : Nat), .string s, .int .u64 (hdN s 5 + i * sLen (wideB s) : Nat), .int .i64 (k : Nat)] u fun e w' => e = .returned (.int .u64 (fSec s i k : Nat)) ∧ Below u.heap.size u w' from fun i k hk h u => field_any (wideB s) s (hdN s 5) i k (bigB s) u hl hk h)
  have HF0 := Lib.hid (show hdN s 5 + sLen (wideB s) ≤ s.size → ∀ k, k < 10 → ∀ u, Calls Try.prog 20 #[.bool (bigB s), .int .u64 (wLen (wideB s) : Nat), .string s, .int .u64 (hdN s 5 : Nat), .int .i64 (k : Nat)] u fun e w' => e = .returned (.int .u64 (fSec s 0 k : Nat)) ∧ Below u.heap.size u w' from fun h k hk u => by have q := HF.out 0 k hk (by omega) u; rw [Nat.zero_mul, Nat.add_zero] at q; exact q)
  rw [hsl] at HES HF HF0
  clear hsl
  have HHD := Lib.hid hhd; clear hhd hls
  obtain ⟨wide, hwd⟩ : ∃ b, b = wideB s := ⟨_, rfl⟩
  rw [← hwd] at q4 HH HHD HCH HCK HES HF HF0
  have HWD := Lib.hid hwd; clear hwd
  obtain ⟨big, hbg⟩ : ∃ b, b = bigB s := ⟨_, rfl⟩
  rw [← hbg] at q5 HV HF HF0
  have HBG := Lib.hid hbg; clear hbg
  go_enter Try.func17, Try.ntmps17
  go_upto_region 6 with (go_at_call 56; refine (HW.out _).mono ?_; rintro e w' ⟨rfl, rfl⟩)
  go_quiet (fail)
  clear q4 q5
  go_upto_if 37 with (fail)
  have HB0 := Lib.hid (below_drewN (Below.refl w.heap.size w) nq)
  generalize w.drewN nq = W1 at *
  go_cut [6, 7, 8] (fun v6 v7 v8 wr => v6 = .int .u64 (ehs wide : Nat) ∧ v7 = .int .u64 (phs wide : Nat) ∧ v8 = .int .u64 (shs wide : Nat) ∧ wr = W1)
  case first =>
    cases wide
    · go_wp2
      go_meet
      case rel => exact ⟨rfl, rfl, rfl, rfl⟩
    · go_wp2
      go_meet
      case rel => exact ⟨rfl, rfl, rfl, rfl⟩
  case rest =>
    obtain ⟨rfl, rfl, rfl, rfl⟩ := hcut
    have heh : ehs wide ≤ 64 ∧ 52 ≤ ehs wide := by unfold ehs; cases wide <;> decide
    have z0 : IntKind.u64.wrap (s.size : Int) = (s.size : Int) := by rw [IntKind.wrap_u64]; omega
    by_cases hz : s.size < ehs wide
    · have z1 : (s.size : Int) < (ehs wide : Nat) := by omega
      have e1 := HHD.out hz
      subst e1
      go_wp2
      go_ret
      exact ⟨rfl, HB0.out⟩
    · have z1 : ¬ (s.size : Int) < (ehs wide : Nat) := by omega
      have HH2 := Lib.hid (fun u => HH.out u (by omega)); clear HH
      go_upto_region 13 with (go_at_call 18; refine (HH2.out _).mono ?_; rintro e w3 ⟨rfl, h3⟩)
      have HL := Lib.hid (heap_alloc_new w3 (.cells #[.int .u64 (hdN s 7 : Nat), .int .u64 (hdN s 8 : Nat), .int .u64 (hdN s 9 : Nat), .int .u64 (hdN s 10 : Nat), .int .u64 (hdN s 11 : Nat), .int .u64 (hdN s 12 : Nat)] 47))
      have HB4 := Lib.hid (below_more (HB0.out.trans (h3.mono HB0.out.size)) (.cells #[.int .u64 (hdN s 7 : Nat), .int .u64 (hdN s 8 : Nat), .int .u64 (hdN s 9 : Nat), .int .u64 (hdN s 10 : Nat), .int .u64 (hdN s 11 : Nat), .int .u64 (hdN s 12 : Nat)] 47))
      clear h3
      generalize (w3.alloc (.cells #[.int .u64 (hdN s 7 : Nat), .int .u64 (hdN s 8 : Nat), .int .u64 (hdN s 9 : Nat), .int .u64 (hdN s 10 : Nat), .int .u64 (hdN s 11 : Nat), .int .u64 (hdN s 12 : Nat)] 47)) = W4 at *
      generalize w3.heap.size = L at *
      have HV2 := Lib.hid (HV.out (by omega)); clear HV
      have HCH2 := Lib.hid (HCH.out hz); clear HCH
      by_cases hv : hdN s 2 = 1
      · have k2 : (((hdN s 2 : Nat) : Int) != 1) = false := by simp <;> omega
        go_upto_region 15 with (go_at_call 57; refine (HV2.out _).mono ?_; rintro e w5 ⟨rfl, rfl⟩)
        refine wreg15 _ _ _ _ _ _ _ _ _ _ _ _ _ _ _ _ _ _ _ _ _ _ _ _ _ _ _ _ _ _ _ _ _ _ _ _ _ _ _ _ _ _ _ _ _ _ _ _ _ _ _ _ _ _ _ _ _ _ _ _ _ _ _ _ _ _ _ _ _ _ _ _ _ _ _ _ _ _ _ _ _ _ _ _ _ _ _ _ _ _ _ _ _ _ _ _ _ _ _ _ _ _ _ _ _ _ _ _ _ _ _ _ _ _ _ _ _ _ _ _ _ _ _ _ _ _ _ _ _ _ _ _ _ _ _ _ _ _ _ _ _ _ _ _ _ _ _ _ _ _ _ _ _ _ _ _ _ _ _ _ _ _ _ _ _ _ _ _ _ _ _ _ _ _ _ _ _ _ _ _ _ _ _ _ _ _ _ _ _ _ _ _ _ _ _ _ _ _ _ _ _ _ _ _ _ _ _ _ _ _ _ _ _ _ _ _ _ _ _ _ _ _ _ _ _ _ _ _ _ _ _ _ _ _ _ _ _ _ _ L (ehs wide) (phs wide) (shs wide) (hdN s 4) (hdN s 5) (hdN s 7) (hdN s 8) (hdN s 9) (hdN s 10) (hdN s 11) (hdN s 12) W4 HL.out (fun u54 u55 u56 u57 u58 u59 u60 u61 u62 u63 u64 u65 u66 u67 u68 u69 u70 u71 u72 u73 u74 u75 u76 => ?_)
        by_cases hb : hdN s 7 ≠ ehs wide ∨ (hdN s 4 ≠ 0 ∧ hdN s 8 ≠ phs wide) ∨ (hdN s 5 ≠ 0 ∧ hdN s 10 ≠ shs wide)
        · have e8 : chkN s = 8 := by rw [HCK.out, if_neg (fun q => q hv), if_pos hb]
          have e1 : r = 8 := by rw [HCH2.out.1 (by rw [e8]; decide), e8]
          rw [decide_eq_true hb]
          clear e8 hb
          subst e1
          go_wp2
          go_ret
          exact ⟨rfl, HB4.out⟩
        · have e0 : chkN s = 0 := by rw [HCK.out, if_neg (fun q => q hv), if_neg hb]
          have HD0 := Lib.hid (HCH2.out.2 e0)
          rw [decide_eq_false hb]
          clear e0 hb
          go_upto_if 79 with (fail)
          have hn0 : hdN s 5 = 0 → nSec s = 0 := fun h => by rw [HNS.out, if_pos h]
          have hss : shs wide ≤ 64 := by unfold shs; cases wide <;> decide
          have HTH := Lib.hid (fun (x y : Nat) (hx : x < 18446744073709551616) (hy : y < 18446744073709551616) u => there_any s x y u hl hx hy)
          refine wsec _ _ _ _ _ _ _ _ _ _ _ _ _ _ _ _ _ _ _ _ _ _ _ _ _ _ _ _ _ _ _ _ _ _ _ _ _ _ _ _ _ _ _ _ _ _ _ _ _ _ _ _ _ _ _ _ _ _ _ _ _ _ _ _ _ _ _ _ _ _ _ _ _ _ _ _ _ _ _ _ _ _ _ _ _ _ _ _ _ _ _ _ _ _ _ _ _ _ _ _ _ _ _ _ _ _ _ _ _ _ _ _ _ _ _ _ _ _ _ _ _ _ _ _ _ _ _ _ _ _ _ _ _ _ _ _ _ _ _ _ _ _ _ _ _ _ _ _ _ _ _ _ _ _ _ _ _ _ _ _ _ _ _ _ _ _ _ _ _ _ _ _ _ _ _ _ _ _ _ _ _ _ _ _ _ _ _ _ _ _ _ _ _ _ _ _ _ _ _ _ _ _ _ _ _ _ _ _ _ _ _ _ _ _ _ _ _ _ _ _ _ _ _ _ _ _ _ _ _ _ _ _ _ _ s big L (ehs wide) (phs wide) (shs wide) (wLen wide) (hdN s 4) (hdN s 5) (hdN s 7) (hdN s 8) (hdN s 9) (hdN s 10) (hdN s 11) (hdN s 12) (nSec s) (nameS s) s.size (errSec s) (fun k => fSec s 0 k) _ rfl W4 HL.out
            (Lib.hid (fun b hb u => HTH.out (hdN s 5) b (hdN_64 s 5) hb u)) (fun h => Lib.hid (fun k hk u => HF0.out h k hk u)) hss HNS.out HQS.out HES.out ?_ ?_
          · intro hne a' w5 h2 hd hb
            have er : r = errSec s := HRS.out HD0.out hne
            have HB5 := Lib.hid (HB4.out.trans (hb.mono HB4.out.size))
            have H2 := Lib.hid h2; have HDD := Lib.hid hd; clear h2 hd hb
            show bodyPost Try.prog Try.f17 (fun e w' => e = .returned (.int .i64 (r : Nat)) ∧ Below w.heap.size w w') .ret a' w5
            exact bodyPost_ret (v := .int .i64 (errSec s : Nat)) (res17 _ _ _ H2.out) HDD.out ⟨by rw [er], HB5.out⟩
          · intro u2 u14 u80 u81 u82 u83 u84 u85 u86 u87 u88 u89 u90 u91 u92 u93 u94 u95 u96 u97 u98 u99 u100 u101 u102 u103 u104 u105 u106 u107 u108 u109 u110 u111 u112 u113 u114 u115 u116 u117 u118 u119 u120 u121 u122 u123 u124 u125 u126 u127 u128 u129 u130 w5 he0 hb
            have HB5 := Lib.hid (HB4.out.trans (hb.mono HB4.out.size)); have HL5 := Lib.hid (heap_low HL.out hb); have HE0 := Lib.hid he0; clear hb he0
            have hfit : hdN s 5 + nSec s * shs wide ≤ s.size := by
              have h1 := HES.out
              rw [HE0.out] at h1
              by_cases ha : hdN s 5 = 0
              · rw [ha, hn0 ha]; omega
              · rw [if_neg ha] at h1
                by_cases h3 : hdN s 5 + 1 * shs wide ≤ s.size
                · rw [if_neg (fun q => q h3)] at h1
                  by_cases h4 : nSec s = 0 ∨ 4096 < nSec s
                  · rw [if_pos h4] at h1; cases h1
                  · rw [if_neg h4] at h1
                    by_cases h5 : hdN s 5 + nSec s * shs wide ≤ s.size
                    · exact h5
                    · rw [if_pos h5] at h1; cases h1
                · rw [if_pos h3] at h1; cases h1
            have hn4 : nSec s ≤ 4096 := nSec_le HE0.out
            have HFIT := Lib.hid hfit
            obtain ⟨n, hn⟩ : ∃ n, n = nSec s := ⟨_, rfl⟩
            obtain ⟨m, hm⟩ : ∃ m, m = nSeg s := ⟨_, rfl⟩
            have HM0 := Lib.hid (show m = if hdN s 9 = 65535 ∧ 0 < n then fSec s 0 7 else hdN s 9 by rw [hm, hn]; rfl)
            have HES2 := Lib.hid (show errSeg s = if 256 < m ∨ (0 < m ∧ hdN s 4 = 0) then 10 else if 0 < m ∧ ¬ hdN s 4 + m * phs wide ≤ s.size then 9 else 0 by rw [hm, HWD.out]; rfl)
            have HF7 : 0 < n → Hid (∀ u, Calls Try.prog 20 #[.bool big, .int .u64 (wLen wide : Nat), .string s, .int .u64 (hdN s 5 : Nat), .int .i64 7] u fun e w' => e = .returned (.int .u64 (fSec s 0 7 : Nat)) ∧ Below u.heap.size u w') := fun h => Lib.hid (fun u => HF0.out (by
              have h1 : 1 * shs wide ≤ nSec s * shs wide := Nat.mul_le_mul_right _ (by omega)
              omega) 7 (by decide) u)
            have c2 : w5.cell? ⟨L, 2, none⟩ = some (.int .u64 (hdN s 9 : Nat)) := by rw [Lib.cell_of_heap HL5.out]; rfl
            rw [← hn]
            have hn4b : n ≤ 4096 := by omega
            have HNN := Lib.hid hn; have HMM := Lib.hid hm; clear hn hm hfit hn0 hn4
            obtain ⟨x9, hx9⟩ : ∃ x, x = hdN s 9 := ⟨_, rfl⟩
            rw [← hx9] at c2 HM0
            clear hx9
            go_upto_region 40 with (fail)
            refine vreg40 _ _ _ _ _ _ _ _ _ _ _ _ _ _ _ _ _ _ _ _ _ _ _ _ _ _ _ _ _ _ _ _ _ _ _ _ _ _ _ _ _ _ _ _ _ _ _ _ _ _ _ _ _ _ _ _ _ _ _ _ _ _ _ _ _ _ _ _ _ _ _ _ _ _ _ _ _ _ _ _ _ _ _ _ _ _ _ _ _ _ _ _ _ _ _ _ _ _ _ _ _ _ _ _ _ _ _ _ _ _ _ _ _ _ _ _ _ _ _ _ _ _ _ _ _ _ _ _ _ _ _ _ _ _ _ _ _ _ _ _ _ _ _ _ _ _ _ _ _ _ _ _ _ _ _ _ _ _ _ _ _ _ _ _ _ _ _ _ _ _ _ _ _ _ _ _ _ _ _ _ _ _ _ _ _ _ _ _ _ _ _ _ _ _ _ _ _ _ _ _ _ _ _ _ _ _ _ _ _ _ _ _ _ _ _ _ _ _ _ _ _ _ _ _ _ _ _ _ _ _ _ _ _ _ _ _ _ _ _ _ _ _ _ x9 n w5 (fun u133 u134 u135 u136 u137 => ?_)
            have HB5C := Lib.hid c2; clear c2
            go_upto_if 138 with (fail)
            go_cut [15] (fun v wr => v = .int .u64 (m : Nat) ∧ Below w.heap.size w wr)
            case first =>
              by_cases h9 : x9 = 65535 ∧ 0 < n
              · rw [decide_eq_true h9]
                have em : fSec s 0 7 = m := by rw [HM0.out, if_pos h9]
                have H7 := HF7 h9.2
                rw [em] at H7
                clear em h9
                go_wp2_with (go_at_call 20; with_reducible refine (H7.out _).mono ?_; rintro e w6 ⟨rfl, b6⟩)
                go_meet
                case rel => exact ⟨rfl, HB5.out.trans (b6.mono HB5.out.size)⟩
              · rw [decide_eq_false h9]
                have em : m = x9 := by rw [HM0.out, if_neg h9]
                subst em
                clear h9
                go_wp2
                go_meet
                case rel => exact ⟨rfl, HB5.out⟩
            case rest =>
              obtain ⟨rfl, hb6⟩ := hcut
              have HB6 := Lib.hid hb6; clear hb6
              obtain ⟨po, hpo⟩ : ∃ po, po = hdN s 4 := ⟨_, rfl⟩
              have hpo64 : po < 18446744073709551616 := by rw [hpo]; exact hdN_64 s 4
              rw [← hpo] at HES2 ⊢
              have HPO := Lib.hid hpo; clear hpo
              have hse : ∀ K, errSeg s = K → K ≠ 0 → r = K := fun K h1 h2 => by rw [HR.out, pe_seg hl HD0.out HE0.out (by rw [h1]; exact h2), h1]
              have HSE := Lib.hid hse; clear hse
              go_upto_region 42 with (fail)
              rename_i wr6
              refine vreg42 _ _ _ _ _ _ _ _ _ _ _ _ _ _ _ _ _ _ _ _ _ _ _ _ _ _ _ _ _ _ _ _ _ _ _ _ _ _ _ _ _ _ _ _ _ _ _ _ _ _ _ _ _ _ _ _ _ _ _ _ _ _ _ _ _ _ _ _ _ _ _ _ _ _ _ _ _ _ _ _ _ _ _ _ _ _ _ _ _ _ _ _ _ _ _ _ _ _ _ _ _ _ _ _ _ _ _ _ _ _ _ _ _ _ _ _ _ _ _ _ _ _ _ _ _ _ _ _ _ _ _ _ _ _ _ _ _ _ _ _ _ _ _ _ _ _ _ _ _ _ _ _ _ _ _ _ _ _ _ _ _ _ _ _ _ _ _ _ _ _ _ _ _ _ _ _ _ _ _ _ _ _ _ _ _ _ _ _ _ _ _ _ _ _ _ _ _ _ _ _ _ _ _ _ _ _ _ _ _ _ _ _ _ _ _ _ _ _ _ _ _ _ _ _ _ _ _ _ _ _ _ _ _ _ _ _ _ _ _ _ _ _ _ m po _ (fun u144 u145 u146 u147 u148 u149 u150 u151 u152 => ?_)
              go_upto_if 153 with (fail)
              by_cases hbad : 256 < m ∨ (0 < m ∧ po = 0)
              · rw [decide_eq_true hbad]
                have er : r = 10 := HSE.out 10 (by rw [HES2.out, if_pos hbad]) (by decide)
                clear hbad
                subst er
                go_wp2
                go_ret
                exact ⟨rfl, HB6.out⟩
              · rw [decide_eq_false hbad]
                have hm256 : m ≤ 256 := by omega
                have HBAD := Lib.hid hbad; clear hbad
                go_upto_region 44 with (fail)
                refine vreg44 _ _ _ _ _ _ _ _ _ _ _ _ _ _ _ _ _ _ _ _ _ _ _ _ _ _ _ _ _ _ _ _ _ _ _ _ _ _ _ _ _ _ _ _ _ _ _ _ _ _ _ _ _ _ _ _ _ _ _ _ _ _ _ _ _ _ _ _ _ _ _ _ _ _ _ _ _ _ _ _ _ _ _ _ _ _ _ _ _ _ _ _ _ _ _ _ _ _ _ _ _ _ _ _ _ _ _ _ _ _ _ _ _ _ _ _ _ _ _ _ _ _ _ _ _ _ _ _ _ _ _ _ _ _ _ _ _ _ _ _ _ _ _ _ _ _ _ _ _ _ _ _ _ _ _ _ _ _ _ _ _ _ _ _ _ _ _ _ _ _ _ _ _ _ _ _ _ _ _ _ _ _ _ _ _ _ _ _ _ _ _ _ _ _ _ _ _ _ _ _ _ _ _ _ _ _ _ _ _ _ _ _ _ _ _ _ _ _ _ _ _ _ _ _ _ _ _ _ _ _ _ _ _ _ _ _ _ _ _ _ _ s m po (phs wide) s.size _ hm256 (by unfold phs; cases wide <;> decide) (Lib.hid (fun y hy u => HTH.out po y hpo64 hy u)) (fun u154 u155 u156 u157 u158 u159 u160 u161 u162 u163 => ?_)
                go_upto_if 164 with (fail)
                by_cases hbd : 0 < m ∧ ¬ po + m * phs wide ≤ s.size
                · rw [decide_eq_true hbd]
                  have er : r = 9 := HSE.out 9 (by rw [HES2.out, if_neg HBAD.out, if_pos hbd]) (by decide)
                  clear hbd
                  subst er
                  go_wp2
                  go_ret
                  exact ⟨rfl, HB6.out⟩
                · rw [decide_eq_false hbd]
                  have HS0 := Lib.hid (show errSeg s = 0 by rw [HES2.out, if_neg HBAD.out, if_neg hbd])
                  have HFS := Lib.hid (show 0 < m → po + m * phs wide ≤ s.size from fun h => by omega)
                  clear hbd
                  go_upto_block 0 with (fail)
                  refine wblk0 _ _ _ _ _ _ _ _ _ _ _ _ _ _ _ _ _ _ _ _ _ _ _ _ _ _ _ _ _ _ _ _ _ _ _ _ _ _ _ _ _ _ _ _ _ _ _ _ _ _ _ _ _ _ _ _ _ _ _ _ _ _ _ _ _ _ _ _ _ _ _ _ _ _ _ _ _ _ _ _ _ _ _ _ _ _ _ _ _ _ _ _ _ _ _ _ _ _ _ _ _ _ _ _ _ _ _ _ _ _ _ _ _ _ _ _ _ _ _ _ _ _ _ _ _ _ _ _ _ _ _ _ _ _ _ _ _ _ _ _ _ _ _ _ _ _ _ _ _ _ _ _ _ _ _ _ _ _ _ _ _ _ _ _ _ _ _ _ _ _ _ _ _ _ _ _ _ _ _ _ _ _ _ _ _ _ _ _ _ _ _ _ _ _ _ _ _ _ _ _ _ _ _ _ _ _ _ _ _ _ _ _ _ _ _ _ _ _ _ _ _ _ _ _ _ _ _ _ _ _ _ _ _ _ _ _ _ _ s big (shs wide) (wLen wide) (hdN s 5) n s.size (fSec s) (secChk (Pop.popF 64) s.size (fSec s)) _ hl hss (by rw [HNN.out]; exact HFIT.out) hn4b
                    (Lib.hid (fun i hi k hk u => HF.out i k hk (by have h1 : i * shs wide + shs wide ≤ n * shs wide := mul_bound hi; have h2 := HFIT.out; rw [← HNN.out] at h2; omega) u)) (Lib.hid (fSec_64 s)) (Lib.hid (fun i => rfl)) (Lib.hid (fun x y hx hy u => HTH.out x y hx hy u)) ?_ ?_
                  · intro E hne hE a' w8 h2 hd hb
                    have er : r = E := by
                      have h3 : errChk (Pop.popF 64) s = E := by rw [← hE, HNN.out]; rfl
                      rw [HR.out, pe_chk hl HD0.out HE0.out HS0.out (by rw [h3]; exact hne), h3]
                    show bodyPost Try.prog Try.f17 (fun e w' => e = .returned (.int .i64 (r : Nat)) ∧ Below w.heap.size w w') .ret a' w8
                    exact bodyPost_ret (v := .int .i64 (E : Nat)) (res17 _ _ _ h2) hd ⟨by rw [er], HB6.out.trans (hb.mono HB6.out.size)⟩
                  · intro u2 u16 u17 u18 u165 u166 u167 u168 u169 u170 u171 u172 u173 u174 u175 u176 u177 u178 u179 u180 u181 u182 u183 u184 u185 u186 u187 u188 u189 u190 u191 u192 u193 u194 u195 u196 u197 u198 u199 u200 u201 u202 u203 u204 u205 u206 u207 w8 hE hb
                    have HB8 := Lib.hid (HB6.out.trans (hb.mono HB6.out.size)); clear hb
                    have HC0 := Lib.hid (show errChk (Pop.popF 64) s = 0 by rw [← hE, HNN.out]; rfl)
                    clear hE
                    have him : ∀ E : Nat, firstE (segChk s.size (fSeg s)) m = E → r = E := fun E h => by
                      rw [HR.out, pe_img hl HD0.out HE0.out HS0.out HC0.out, ← h, HMM.out]; rfl
                    have HIM := Lib.hid him; clear him
                    go_upto_block 2 with (fail)
                    have HNM := Lib.hid (fun (x m : Nat) (h : x + m ≤ s.size) u => num_any big s x m u hl h)
                    cases wide
                    · refine wblk2f _ _ _ _ _ _ _ _ _ _ _ _ _ _ _ _ _ _ _ _ _ _ _ _ _ _ _ _ _ _ _ _ _ _ _ _ _ _ _ _ _ _ _ _ _ _ _ _ _ _ _ _ _ _ _ _ _ _ _ _ _ _ _ _ _ _ _ _ _ _ _ _ _ _ _ _ _ _ _ _ _ _ _ _ _ _ _ _ _ _ _ _ _ _ _ _ _ _ _ _ _ _ _ _ _ _ _ _ _ _ _ _ _ _ _ _ _ _ _ _ _ _ _ _ _ _ _ _ _ _ _ _ _ _ _ _ _ _ _ _ _ _ _ _ _ _ _ _ _ _ _ _ _ _ _ _ _ _ _ _ _ _ _ _ _ _ _ _ _ _ _ _ _ _ _ _ _ _ _ _ _ _ _ _ _ _ _ _ _ _ _ _ _ _ _ _ _ _ _ _ _ _ _ _ _ _ _ _ _ _ _ _ _ _ _ _ _ _ _ _ _ _ _ _ _ _ _ _ _ _ _ _ _ _ _ _ _ _ s big po m s.size (fSeg s) (segChk s.size (fSeg s)) w8 hl HFS.out (by omega) HNM (Lib.hid (fun i => ?_)) (Lib.hid (fun i => ?_)) (Lib.hid (fSeg_64 s)) (Lib.hid (fun i => rfl)) (Lib.hid (fun x y hx hy u => HTH.out x y hx hy u)) ?_ ?_
                      · have h := segF_off (bigB s) (wideB s) s (hdN s 4) i
                        unfold fSeg
                        rw [← HBG.out, ← HWD.out, ← HPO.out] at h ⊢
                        exact h
                      · have h := segF_size (bigB s) (wideB s) s (hdN s 4) i
                        unfold fSeg
                        rw [← HBG.out, ← HWD.out, ← HPO.out] at h ⊢
                        exact h
                      · intro E hne hE a' w9 h2 hd hb
                        have er := HIM.out E hE
                        show bodyPost Try.prog Try.f17 (fun e w' => e = .returned (.int .i64 (r : Nat)) ∧ Below w.heap.size w w') .ret a' w9
                        exact bodyPost_ret (v := .int .i64 (E : Nat)) (res17 _ _ _ h2) hd ⟨by rw [er], HB8.out.trans (hb.mono HB8.out.size)⟩
                      · intro u2 u19 u20 u21 u22 u208 u209 u210 u211 u212 u213 u214 u215 u216 u217 u218 u219 u220 u221 u222 u223 u224 u225 u226 u227 u228 u229 u230 u231 u232 u233 u234 u235 u236 u237 u238 u239 u240 u241 u242 u243 w9 hE hb
                        have er := HIM.out 0 hE
                        have HB9 := Lib.hid (HB8.out.trans (hb.mono HB8.out.size)); clear hb hE
                        subst er
                        go_wp2
                        go_ret
                        exact ⟨rfl, HB9.out⟩
                    · refine wblk2t _ _ _ _ _ _ _ _ _ _ _ _ _ _ _ _ _ _ _ _ _ _ _ _ _ _ _ _ _ _ _ _ _ _ _ _ _ _ _ _ _ _ _ _ _ _ _ _ _ _ _ _ _ _ _ _ _ _ _ _ _ _ _ _ _ _ _ _ _ _ _ _ _ _ _ _ _ _ _ _ _ _ _ _ _ _ _ _ _ _ _ _ _ _ _ _ _ _ _ _ _ _ _ _ _ _ _ _ _ _ _ _ _ _ _ _ _ _ _ _ _ _ _ _ _ _ _ _ _ _ _ _ _ _ _ _ _ _ _ _ _ _ _ _ _ _ _ _ _ _ _ _ _ _ _ _ _ _ _ _ _ _ _ _ _ _ _ _ _ _ _ _ _ _ _ _ _ _ _ _ _ _ _ _ _ _ _ _ _ _ _ _ _ _ _ _ _ _ _ _ _ _ _ _ _ _ _ _ _ _ _ _ _ _ _ _ _ _ _ _ _ _ _ _ _ _ _ _ _ _ _ _ _ _ _ _ _ _ s big po m s.size (fSeg s) (segChk s.size (fSeg s)) w8 hl HFS.out (by omega) HNM (Lib.hid (fun i => ?_)) (Lib.hid (fun i => ?_)) (Lib.hid (fSeg_64 s)) (Lib.hid (fun i => rfl)) (Lib.hid (fun x y hx hy u => HTH.out x y hx hy u)) ?_ ?_
                      · have h := segF_off (bigB s) (wideB s) s (hdN s 4) i
                        unfold fSeg
                        rw [← HBG.out, ← HWD.out, ← HPO.out] at h ⊢
                        exact h
                      · have h := segF_size (bigB s) (wideB s) s (hdN s 4) i
                        unfold fSeg
                        rw [← HBG.out, ← HWD.out, ← HPO.out] at h ⊢
                        exact h
                      · intro E hne hE a' w9 h2 hd hb
                        have er := HIM.out E hE
                        show bodyPost Try.prog Try.f17 (fun e w' => e = .returned (.int .i64 (r : Nat)) ∧ Below w.heap.size w w') .ret a' w9
                        exact bodyPost_ret (v := .int .i64 (E : Nat)) (res17 _ _ _ h2) hd ⟨by rw [er], HB8.out.trans (hb.mono HB8.out.size)⟩
                      · intro u2 u19 u20 u21 u22 u208 u209 u210 u211 u212 u213 u214 u215 u216 u217 u218 u219 u220 u221 u222 u223 u224 u225 u226 u227 u228 u229 u230 u231 u232 u233 u234 u235 u236 u237 u238 u239 u240 u241 u242 u243 w9 hE hb
                        have er := HIM.out 0 hE
                        have HB9 := Lib.hid (HB8.out.trans (hb.mono HB8.out.size)); clear hb hE
                        subst er
                        go_wp2
                        go_ret
                        exact ⟨rfl, HB9.out⟩
      · have k2 : (((hdN s 2 : Nat) : Int) != 1) = true := by simp <;> omega
        have e7 : chkN s = 7 := by rw [HCK.out, if_pos hv]
        have e1 : r = 7 := by rw [HCH2.out.1 (by rw [e7]; decide), e7]
        clear e7
        subst e1
        go_wp2_with (go_at_call 57; refine (HV2.out _).mono ?_; rintro e w5 ⟨rfl, rfl⟩)
        go_ret
        exact ⟨rfl, HB4.out⟩
theorem idErr_16 {s : ByteArray} (h : idErr s = 0) : 16 ≤ s.size := by
  unfold idErr at h
  split at h
  · cases h
  · omega
theorem refWhy11 (s : ByteArray) (hmax : s.size ≤ 9223372036854775807) (w : World) : Calls Try.prog 17 #[.string s] w (fun e w' => e = .returned (.int .i64 (parseErr (Pop.popF 64) s : Nat)) ∧ Below w.heap.size w w') := by
  by_cases hl : s.size ≤ 1048576
  · by_cases hi : idErr s = 0
    · have h16 : 16 ≤ s.size := idErr_16 hi
      exact why_rest s hl hi h16 w
    · exact why_ident _ s hl hi w
  · exact why_long _ s hmax (by omega) w
end Go.Proofs.Ytedocnidgiglaaa
