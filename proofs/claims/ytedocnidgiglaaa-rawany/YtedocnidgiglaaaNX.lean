/- The contract of raw's Parse, walked. Conditions: those written in each theorem. -/
import Derived.Test.YtedocnidgiglaaaNV
import Derived.Test.YtedocnidgiglaaaNW
namespace Go.Proofs.Ytedocnidgiglaaa
open Go.RowKit
set_option linter.unusedVariables false
set_option maxRecDepth 100000 in
set_option maxHeartbeats 4000000 in
theorem parse_any (ones : Nat → Nat) (HON : Hid (∀ x, x < 18446744073709551616 → ∀ u, Calls Try.prog 96 #[.int .u64 (x : Nat)] u fun e w' => e = .returned (.int .i64 (ones x : Nat)) ∧ u = w')) (s : ByteArray) (hmax : s.size ≤ 9223372036854775807) (w : World) : Calls Try.prog 16 #[.string s] w (ParsePost ones s w) := by
  go_enter Try.func16, Try.ntmps16
  go_upto_region 1 with (fail)
  have hT : ((w.alloc (.cells #[.string s] 9)).alloc (.cells #[.bool false, .bool false, .int .u8 0, .int .u8 0, .string ⟨#[]⟩, .int .u64 0, .int .u64 0, .int .u64 0, .int .u64 0, .int .u64 0, .int .u64 0, .int .u64 0, .int .u64 0, .int .u64 0, .int .u64 0, .int .u64 0, .int .u64 0, .int .u64 0, .slice none 0 0, .slice none 0 0, .int .u64 0] 42)).heap[w.heap.size + 1]? = some (.cells #[.bool false, .bool false, .int .u8 0, .int .u8 0, .string ⟨#[]⟩, .int .u64 0, .int .u64 0, .int .u64 0, .int .u64 0, .int .u64 0, .int .u64 0, .int .u64 0, .int .u64 0, .int .u64 0, .int .u64 0, .int .u64 0, .int .u64 0, .int .u64 0, .slice none 0 0, .slice none 0 0, .int .u64 0] 42 (0, 0)) := by
    have q := heap_alloc_new (w.alloc (.cells #[.string s] 9)) (.cells #[.bool false, .bool false, .int .u8 0, .int .u8 0, .string ⟨#[]⟩, .int .u64 0, .int .u64 0, .int .u64 0, .int .u64 0, .int .u64 0, .int .u64 0, .int .u64 0, .int .u64 0, .int .u64 0, .int .u64 0, .int .u64 0, .int .u64 0, .int .u64 0, .slice none 0 0, .slice none 0 0, .int .u64 0] 42)
    simpa using q
  have hX : ((w.alloc (.cells #[.string s] 9)).alloc (.cells #[.bool false, .bool false, .int .u8 0, .int .u8 0, .string ⟨#[]⟩, .int .u64 0, .int .u64 0, .int .u64 0, .int .u64 0, .int .u64 0, .int .u64 0, .int .u64 0, .int .u64 0, .int .u64 0, .int .u64 0, .int .u64 0, .int .u64 0, .int .u64 0, .slice none 0 0, .slice none 0 0, .int .u64 0] 42)).heap[w.heap.size]? = some (.cells #[.string s] 9 (0, 0)) := heap_up _ (heap_alloc_new w _)
  have hU : Below w.heap.size w ((w.alloc (.cells #[.string s] 9)).alloc (.cells #[.bool false, .bool false, .int .u8 0, .int .u8 0, .string ⟨#[]⟩, .int .u64 0, .int .u64 0, .int .u64 0, .int .u64 0, .int .u64 0, .int .u64 0, .int .u64 0, .int .u64 0, .int .u64 0, .int .u64 0, .int .u64 0, .int .u64 0, .int .u64 0, .slice none 0 0, .slice none 0 0, .int .u64 0] 42)) := below_more (below_more (Below.refl _ _) _) _
  generalize ((w.alloc (.cells #[.string s] 9)).alloc (.cells #[.bool false, .bool false, .int .u8 0, .int .u8 0, .string ⟨#[]⟩, .int .u64 0, .int .u64 0, .int .u64 0, .int .u64 0, .int .u64 0, .int .u64 0, .int .u64 0, .int .u64 0, .int .u64 0, .int .u64 0, .int .u64 0, .int .u64 0, .int .u64 0, .slice none 0 0, .slice none 0 0, .int .u64 0] 42)) = W0 at *
  have hwT : w.heap.size ≤ w.heap.size + 1 := by omega
  generalize hTe : w.heap.size + 1 = T at *
  have hXT : w.heap.size ≠ T := by omega
  clear hTe
  refine qreg1 _ _ _ _ _ _ _ _ _ _ _ _ _ _ _ _ _ _ _ _ _ _ _ _ _ _ _ _ _ _ _ s w.heap.size W0 (by rw [Lib.cell_of_heap hX]; rfl) (fun u9 u10 P w3 hR hPW b3 => ?_)
  have HT3 := Lib.hid (heap_low hT b3); have HX3 := Lib.hid (heap_low hX b3); have HU3 := Lib.hid (hU.trans (b3.mono hU.size)); have HR3 := Lib.hid hR
  have hTP : T ≠ P := by have := heap_lt hT; omega
  have hXP : w.heap.size ≠ P := by have := heap_lt hX; omega
  have hwP : w.heap.size ≤ P := Nat.le_trans hU.size hPW
  clear hT hX hU hR b3 hPW
  go_upto_region 2 with (fail)
  refine qreg2 _ _ _ _ _ _ _ _ _ _ _ _ _ _ _ _ _ _ _ _ _ _ _ _ _ _ _ _ _ _ w.heap.size P w3 (fun u11 u12 u13 u14 u15 u16 u17 F w4 hF hF3 b4 => ?_)
  have HTW := Lib.hid (heap_low HT3.out b4); have HXW := Lib.hid (heap_low HX3.out b4); have HUW := Lib.hid (HU3.out.trans (b4.mono HU3.out.size)); have hRW := heap_low HR3.out b4
  have hPW : P < w4.heap.size := heap_lt hRW
  clear HT3 HX3 HU3 HR3 hF3 b4
  go_upto_region 3 with (fail)
  refine qreg3 _ _ _ _ _ _ _ _ _ _ _ _ _ _ _ _ _ _ _ _ _ _ _ _ _ _ _ _ _ _ _ w.heap.size P F w4 hF (fun w5 hw5 => ?_)
  cases hw5
  clear hF
  go_wp2
  go_loopw [19] (fun i wr => ∃ k : Nat, k ≤ 6 ∧ i = .int .i64 (k : Int) ∧ Stage ones s P w4 k wr) (fun i _ => 6 - (intOf i).toNat)
  case atStart => exact ⟨0, by decide, rfl, stage_start hRW⟩
  case round =>
    obtain ⟨k, hk, rfl, hS⟩ := hrel
    rcases (show k = 0 ∨ k = 1 ∨ k = 2 ∨ k = 3 ∨ k = 4 ∨ k = 5 ∨ k = 6 by omega) with rfl | rfl | rfl | rfl | rfl | rfl | rfl
    · have HST := Lib.hid hS; clear hS
      have hix : ∀ u : World, (Instr.index 140 (.agg #[.func (.func 50) #[] #[.pointer (some ⟨w.heap.size, 0, none⟩)], .func (.func 51) #[.pointer (some ⟨P, 0, none⟩)] #[], .func (.func 52) #[.pointer (some ⟨P, 0, none⟩)] #[], .func (.func 53) #[.pointer (some ⟨P, 0, none⟩)] #[], .func (.func 54) #[.pointer (some ⟨P, 0, none⟩)] #[], .func (.func 55) #[.pointer (some ⟨P, 0, none⟩)] #[]]) (.int .i64 0)).run Try.prog u = .ok (.func (.func 50) #[] #[.pointer (some ⟨w.heap.size, 0, none⟩)]) u := fun _ => rfl
      go_upto_region 6 with (fail)
      go_upto_region 7 with (go_at_call 50; refine (step0 hmax HXW.out hXP HST.out).mono ?_; rintro e w5 (⟨hne, rfl, hO5⟩ | ⟨rfl, hS5⟩))
      · have h1 : ¬ ((parseErr ones s : Nat) : Int) = 0 := by omega
        have HNE := Lib.hid hne; have HO5 := Lib.hid hO5; clear hne hO5 hix
        go_upto_region 8 with (fail)
        have hT5 := stay_at HTW.out HO5.out hTP
        have hB5 := HUW.out.trans (HO5.out.below HUW.out.size hwP)
        refine qreg8 _ _ _ _ _ _ _ _ _ _ _ _ _ _ _ _ _ _ _ _ _ _ _ _ _ _ _ _ _ _ T (parseErr ones s : Nat) w5 hT5 (fun u26 u27 w6 hT6 b6 => ?_)
        have HT6 := Lib.hid hT6; have HB6 := Lib.hid (hB5.trans (b6.mono hwT)); clear hT6 b6 hT5 hB5
        go_wp2
        refine bodyPost_ret (parse_res _ _ T _ _ _ _ _ _ _ _ _ _ _ _ _ _ _ _ _ _ _ _ _ _ rfl rfl HT6.out) rfl ⟨.inl ⟨HNE.out, rfl⟩, HB6.out⟩
      · have HS5 := Lib.hid hS5; clear hS5
        go_wp2
        exact ⟨⟨1, by decide, by first | rfl | go_num, HS5.out⟩, by simp [intOf]⟩
    · have HST := Lib.hid hS; clear hS
      have hix : ∀ u : World, (Instr.index 140 (.agg #[.func (.func 50) #[] #[.pointer (some ⟨w.heap.size, 0, none⟩)], .func (.func 51) #[.pointer (some ⟨P, 0, none⟩)] #[], .func (.func 52) #[.pointer (some ⟨P, 0, none⟩)] #[], .func (.func 53) #[.pointer (some ⟨P, 0, none⟩)] #[], .func (.func 54) #[.pointer (some ⟨P, 0, none⟩)] #[], .func (.func 55) #[.pointer (some ⟨P, 0, none⟩)] #[]]) (.int .i64 1)).run Try.prog u = .ok (.func (.func 51) #[.pointer (some ⟨P, 0, none⟩)] #[]) u := fun _ => rfl
      go_upto_region 6 with (fail)
      go_upto_region 7 with (go_at_call 51; refine (step1 HST.out).mono ?_; rintro e w5 (⟨hne, rfl, hO5⟩ | ⟨rfl, hS5⟩))
      · have h1 : ¬ ((parseErr ones s : Nat) : Int) = 0 := by omega
        have HNE := Lib.hid hne; have HO5 := Lib.hid hO5; clear hne hO5 hix
        go_upto_region 8 with (fail)
        have hT5 := stay_at HTW.out HO5.out hTP
        have hB5 := HUW.out.trans (HO5.out.below HUW.out.size hwP)
        refine qreg8 _ _ _ _ _ _ _ _ _ _ _ _ _ _ _ _ _ _ _ _ _ _ _ _ _ _ _ _ _ _ T (parseErr ones s : Nat) w5 hT5 (fun u26 u27 w6 hT6 b6 => ?_)
        have HT6 := Lib.hid hT6; have HB6 := Lib.hid (hB5.trans (b6.mono hwT)); clear hT6 b6 hT5 hB5
        go_wp2
        refine bodyPost_ret (parse_res _ _ T _ _ _ _ _ _ _ _ _ _ _ _ _ _ _ _ _ _ _ _ _ _ rfl rfl HT6.out) rfl ⟨.inl ⟨HNE.out, rfl⟩, HB6.out⟩
      · have HS5 := Lib.hid hS5; clear hS5
        go_wp2
        exact ⟨⟨2, by decide, by first | rfl | go_num, HS5.out⟩, by simp [intOf]⟩
    · have HST := Lib.hid hS; clear hS
      have hix : ∀ u : World, (Instr.index 140 (.agg #[.func (.func 50) #[] #[.pointer (some ⟨w.heap.size, 0, none⟩)], .func (.func 51) #[.pointer (some ⟨P, 0, none⟩)] #[], .func (.func 52) #[.pointer (some ⟨P, 0, none⟩)] #[], .func (.func 53) #[.pointer (some ⟨P, 0, none⟩)] #[], .func (.func 54) #[.pointer (some ⟨P, 0, none⟩)] #[], .func (.func 55) #[.pointer (some ⟨P, 0, none⟩)] #[]]) (.int .i64 2)).run Try.prog u = .ok (.func (.func 52) #[.pointer (some ⟨P, 0, none⟩)] #[]) u := fun _ => rfl
      go_upto_region 6 with (fail)
      go_upto_region 7 with (go_at_call 52; refine (step2 HST.out).mono ?_; rintro e w5 (⟨hne, rfl, hO5⟩ | ⟨rfl, hS5⟩))
      · have h1 : ¬ ((parseErr ones s : Nat) : Int) = 0 := by omega
        have HNE := Lib.hid hne; have HO5 := Lib.hid hO5; clear hne hO5 hix
        go_upto_region 8 with (fail)
        have hT5 := stay_at HTW.out HO5.out hTP
        have hB5 := HUW.out.trans (HO5.out.below HUW.out.size hwP)
        refine qreg8 _ _ _ _ _ _ _ _ _ _ _ _ _ _ _ _ _ _ _ _ _ _ _ _ _ _ _ _ _ _ T (parseErr ones s : Nat) w5 hT5 (fun u26 u27 w6 hT6 b6 => ?_)
        have HT6 := Lib.hid hT6; have HB6 := Lib.hid (hB5.trans (b6.mono hwT)); clear hT6 b6 hT5 hB5
        go_wp2
        refine bodyPost_ret (parse_res _ _ T _ _ _ _ _ _ _ _ _ _ _ _ _ _ _ _ _ _ _ _ _ _ rfl rfl HT6.out) rfl ⟨.inl ⟨HNE.out, rfl⟩, HB6.out⟩
      · have HS5 := Lib.hid hS5; clear hS5
        go_wp2
        exact ⟨⟨3, by decide, by first | rfl | go_num, HS5.out⟩, by simp [intOf]⟩
    · have HST := Lib.hid hS; clear hS
      have hix : ∀ u : World, (Instr.index 140 (.agg #[.func (.func 50) #[] #[.pointer (some ⟨w.heap.size, 0, none⟩)], .func (.func 51) #[.pointer (some ⟨P, 0, none⟩)] #[], .func (.func 52) #[.pointer (some ⟨P, 0, none⟩)] #[], .func (.func 53) #[.pointer (some ⟨P, 0, none⟩)] #[], .func (.func 54) #[.pointer (some ⟨P, 0, none⟩)] #[], .func (.func 55) #[.pointer (some ⟨P, 0, none⟩)] #[]]) (.int .i64 3)).run Try.prog u = .ok (.func (.func 53) #[.pointer (some ⟨P, 0, none⟩)] #[]) u := fun _ => rfl
      go_upto_region 6 with (fail)
      go_upto_region 7 with (go_at_call 53; refine (step3 hPW HST.out).mono ?_; rintro e w5 (⟨hne, rfl, hO5⟩ | ⟨rfl, hS5⟩))
      · have h1 : ¬ ((parseErr ones s : Nat) : Int) = 0 := by omega
        have HNE := Lib.hid hne; have HO5 := Lib.hid hO5; clear hne hO5 hix
        go_upto_region 8 with (fail)
        have hT5 := stay_at HTW.out HO5.out hTP
        have hB5 := HUW.out.trans (HO5.out.below HUW.out.size hwP)
        refine qreg8 _ _ _ _ _ _ _ _ _ _ _ _ _ _ _ _ _ _ _ _ _ _ _ _ _ _ _ _ _ _ T (parseErr ones s : Nat) w5 hT5 (fun u26 u27 w6 hT6 b6 => ?_)
        have HT6 := Lib.hid hT6; have HB6 := Lib.hid (hB5.trans (b6.mono hwT)); clear hT6 b6 hT5 hB5
        go_wp2
        refine bodyPost_ret (parse_res _ _ T _ _ _ _ _ _ _ _ _ _ _ _ _ _ _ _ _ _ _ _ _ _ rfl rfl HT6.out) rfl ⟨.inl ⟨HNE.out, rfl⟩, HB6.out⟩
      · have HS5 := Lib.hid hS5; clear hS5
        go_wp2
        exact ⟨⟨4, by decide, by first | rfl | go_num, HS5.out⟩, by simp [intOf]⟩
    · have HST := Lib.hid hS; clear hS
      have hix : ∀ u : World, (Instr.index 140 (.agg #[.func (.func 50) #[] #[.pointer (some ⟨w.heap.size, 0, none⟩)], .func (.func 51) #[.pointer (some ⟨P, 0, none⟩)] #[], .func (.func 52) #[.pointer (some ⟨P, 0, none⟩)] #[], .func (.func 53) #[.pointer (some ⟨P, 0, none⟩)] #[], .func (.func 54) #[.pointer (some ⟨P, 0, none⟩)] #[], .func (.func 55) #[.pointer (some ⟨P, 0, none⟩)] #[]]) (.int .i64 4)).run Try.prog u = .ok (.func (.func 54) #[.pointer (some ⟨P, 0, none⟩)] #[]) u := fun _ => rfl
      go_upto_region 6 with (fail)
      go_upto_region 7 with (go_at_call 54; refine (step4 HON HST.out).mono ?_; rintro e w5 (⟨hne, rfl, hO5⟩ | ⟨rfl, hS5⟩))
      · have h1 : ¬ ((parseErr ones s : Nat) : Int) = 0 := by omega
        have HNE := Lib.hid hne; have HO5 := Lib.hid hO5; clear hne hO5 hix
        go_upto_region 8 with (fail)
        have hT5 := stay_at HTW.out HO5.out hTP
        have hB5 := HUW.out.trans (HO5.out.below HUW.out.size hwP)
        refine qreg8 _ _ _ _ _ _ _ _ _ _ _ _ _ _ _ _ _ _ _ _ _ _ _ _ _ _ _ _ _ _ T (parseErr ones s : Nat) w5 hT5 (fun u26 u27 w6 hT6 b6 => ?_)
        have HT6 := Lib.hid hT6; have HB6 := Lib.hid (hB5.trans (b6.mono hwT)); clear hT6 b6 hT5 hB5
        go_wp2
        refine bodyPost_ret (parse_res _ _ T _ _ _ _ _ _ _ _ _ _ _ _ _ _ _ _ _ _ _ _ _ _ rfl rfl HT6.out) rfl ⟨.inl ⟨HNE.out, rfl⟩, HB6.out⟩
      · have HS5 := Lib.hid hS5; clear hS5
        go_wp2
        exact ⟨⟨5, by decide, by first | rfl | go_num, HS5.out⟩, by simp [intOf]⟩
    · have HST := Lib.hid hS; clear hS
      have hix : ∀ u : World, (Instr.index 140 (.agg #[.func (.func 50) #[] #[.pointer (some ⟨w.heap.size, 0, none⟩)], .func (.func 51) #[.pointer (some ⟨P, 0, none⟩)] #[], .func (.func 52) #[.pointer (some ⟨P, 0, none⟩)] #[], .func (.func 53) #[.pointer (some ⟨P, 0, none⟩)] #[], .func (.func 54) #[.pointer (some ⟨P, 0, none⟩)] #[], .func (.func 55) #[.pointer (some ⟨P, 0, none⟩)] #[]]) (.int .i64 5)).run Try.prog u = .ok (.func (.func 55) #[.pointer (some ⟨P, 0, none⟩)] #[]) u := fun _ => rfl
      go_upto_region 6 with (fail)
      go_upto_region 7 with (go_at_call 55; refine (step5 HST.out).mono ?_; rintro e w5 (⟨hne, rfl, hO5⟩ | ⟨rfl, hS5⟩))
      · have h1 : ¬ ((parseErr ones s : Nat) : Int) = 0 := by omega
        have HNE := Lib.hid hne; have HO5 := Lib.hid hO5; clear hne hO5 hix
        go_upto_region 8 with (fail)
        have hT5 := stay_at HTW.out HO5.out hTP
        have hB5 := HUW.out.trans (HO5.out.below HUW.out.size hwP)
        refine qreg8 _ _ _ _ _ _ _ _ _ _ _ _ _ _ _ _ _ _ _ _ _ _ _ _ _ _ _ _ _ _ T (parseErr ones s : Nat) w5 hT5 (fun u26 u27 w6 hT6 b6 => ?_)
        have HT6 := Lib.hid hT6; have HB6 := Lib.hid (hB5.trans (b6.mono hwT)); clear hT6 b6 hT5 hB5
        go_wp2
        refine bodyPost_ret (parse_res _ _ T _ _ _ _ _ _ _ _ _ _ _ _ _ _ _ _ _ _ _ _ _ _ rfl rfl HT6.out) rfl ⟨.inl ⟨HNE.out, rfl⟩, HB6.out⟩
      · have HS5 := Lib.hid hS5; clear hS5
        go_wp2
        exact ⟨⟨6, by decide, by first | rfl | go_num, HS5.out⟩, by simp [intOf]⟩
    · obtain ⟨hO, h1, h2, h3, h4, h5, h6, _, _, hTt⟩ := hS
      have hE := stage_end (ones := ones) (s := s) (P := P) (W := w4) (u := wr) ⟨hO, h1, h2, h3, h4, h5, h6, by assumption, by assumption, hTt⟩
      obtain ⟨A, c, hA, _, hRr⟩ := hTt (by decide)
      obtain ⟨b2, hb2, hw2, hR2⟩ := hRr (by decide)
      have HA := Lib.hid hA; have HW2 := Lib.hid hw2; have HR2 := Lib.hid hR2; have HE := Lib.hid hE; have HO := Lib.hid hO
      clear h1 h2 h3 h4 h5 h6 hTt hRr hA hw2 hR2 hE hO
      go_upto_region 10 with (fail)
      have hT5 := stay_at HTW.out HO.out hTP
      have hB5 := HUW.out.trans (HO.out.below HUW.out.size hwP)
      refine qreg10 _ _ _ _ _ _ _ _ _ _ _ _ _ _ _ _ _ _ _ _ _ _ _ _ _ _ _ _ _ _ T P (bigB s) (wideB s) (byteN s 7) (byteN s 8) (s.extract 9 16) (hdN s 0) (hdN s 1) (hdN s 2) (hdN s 3) (hdN s 4) (hdN s 5) (hdN s 6) (hdN s 7) (hdN s 8) (hdN s 9) (hdN s 10) (hdN s 11) (hdN s 12) A (nSec s) c (some ⟨b2, 0, none⟩) (nSeg s) (nSeg s) (nameS s) s wr hT5 HR2.out (fun u29 u30 w6 hT6 b6 => ?_)
      have HT6 := Lib.hid hT6; have HB6 := Lib.hid (hB5.trans (b6.below hB5.size hwT)); have HOT := Lib.hid b6; clear hT6 hT5 hB5 b6
      go_wp2
      refine bodyPost_ret (parse_res _ _ T _ _ _ _ _ _ _ _ _ _ _ _ _ _ _ _ _ _ _ _ _ _ rfl rfl HT6.out) rfl ⟨.inr ⟨HE.out, A, c, b2, ?_, ?_, ?_, rfl⟩, HB6.out⟩
      · intro h0
        obtain ⟨b, hb, rfl, hw⟩ := HA.out h0
        have hbT : b ≠ T := by have := heap_lt HTW.out; omega
        exact ⟨b, Nat.le_trans HUW.out.size hb, rfl, stay_at hw HOT.out hbT⟩
      · exact Nat.le_trans HUW.out.size hb2
      · have hbT : b2 ≠ T := by have := heap_lt HTW.out; omega
        exact stay_at HW2.out HOT.out hbT
end Go.Proofs.Ytedocnidgiglaaa
