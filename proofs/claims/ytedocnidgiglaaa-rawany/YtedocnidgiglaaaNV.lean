/- The contract of raw's Parse. Conditions: those written in each theorem. -/
import Derived.Test.YtedocnidgiglaaaNM
import Derived.Test.YtedocnidgiglaaaNS
import Derived.Test.YtedocnidgiglaaaNU
import Derived.Test.YtedocnidgiglaaaNW
namespace Go.Proofs.Ytedocnidgiglaaa
open Go.RowKit
set_option linter.unusedVariables false
def fSec (s : ByteArray) : Nat → Nat → Nat := secF (bigB s) (wideB s) s (hdN s 5)
def nSec (s : ByteArray) : Nat := secNum (bigB s) (wideB s) s (hdN s 5) (hdN s 11)
def nameS (s : ByteArray) : Nat := secNam (bigB s) (wideB s) s (hdN s 5) (hdN s 12)
def errSec (s : ByteArray) : Nat := secErr (bigB s) (wideB s) s (hdN s 5) (hdN s 11) (hdN s 12)
def fSeg (s : ByteArray) : Nat → Nat → Nat := segF (bigB s) (wideB s) s (hdN s 4)
def nSeg (s : ByteArray) : Nat := segNum (hdN s 9) (nSec s) (fSec s 0 7)
def errSeg (s : ByteArray) : Nat := segErr (wideB s) s (hdN s 4) (nSeg s)
def errChk (ones : Nat → Nat) (s : ByteArray) : Nat := firstE (secChk ones s.size (fSec s)) (nSec s)
def errImg (s : ByteArray) : Nat := firstE (segChk s.size (fSeg s)) (nSeg s)
/-- Why a text's tables may not be. -/
def parseErr (ones : Nat → Nat) (s : ByteArray) : Nat :=
  if 1048576 < s.size then 2 else if hdErr s ≠ 0 then hdErr s else if errSec s ≠ 0 then errSec s else if errSeg s ≠ 0 then errSeg s else if errChk ones s ≠ 0 then errChk ones s else errImg s
theorem fSec_64 (s : ByteArray) (i j : Nat) : fSec s i j < 18446744073709551616 := by
  unfold fSec secF
  exact numAt_64 _ _ _ _ (by
    have : ∀ w : Bool, ∀ k, (fullL w sSizes 10).getD k 0 ≤ 8 := fun w k => by
      by_cases hk : k < 10
      · exact (full_ok (s_ok w) k hk).2
      · rw [List.getD_eq_getElem?_getD, List.getElem?_eq_none (by rw [fullL_length]; omega)]; decide
    exact this _ _)
theorem fSeg_64 (s : ByteArray) (i j : Nat) : fSeg s i j < 18446744073709551616 := by
  unfold fSeg segF
  exact numAt_64 _ _ _ _ (by
    have : ∀ w : Bool, ∀ k, (fullL w (pSizes w) 8).getD k 0 ≤ 8 := fun w k => by
      by_cases hk : k < 8
      · cases w
        · exact (full_ok pf_ok k hk).2
        · exact (full_ok pt_ok k hk).2
      · rw [List.getD_eq_getElem?_getD, List.getElem?_eq_none (by rw [fullL_length]; omega)]; decide
    exact this _ _)
theorem hdN_64 (s : ByteArray) (k : Nat) : hdN s k < 18446744073709551616 := by
  unfold hdN
  exact numAt_64 _ _ _ _ (by
    by_cases hk : k < 13
    · exact (full_ok (e_ok _) k hk).2
    · rw [List.getD_eq_getElem?_getD, List.getElem?_eq_none (by rw [fullL_length]; omega)]; decide)
/-- How far the parser is. -/
def Stage (ones : Nat → Nat) (s : ByteArray) (P : Nat) (W : World) (k : Nat) (u : World) : Prop := OnlyAt P W u ∧ (1 ≤ k → s.size ≤ 1048576) ∧ (2 ≤ k → hdErr s = 0) ∧ (3 ≤ k → errSec s = 0) ∧ (4 ≤ k → errSeg s = 0) ∧ (5 ≤ k → errChk ones s = 0) ∧ (6 ≤ k → errImg s = 0) ∧
  (k ≤ 1 → u.heap[P]? = some (.cells #[.bool false, .bool false, .int .u8 0, .int .u8 0, .string ⟨#[]⟩, .int .u64 0, .int .u64 0, .int .u64 0, .int .u64 0, .int .u64 0, .int .u64 0, .int .u64 0, .int .u64 0, .int .u64 0, .int .u64 0, .int .u64 0, .int .u64 0, .int .u64 0, .slice none 0 0, .slice none 0 0, .int .u64 0, .string s] 138 (0, 0))) ∧
  (k = 2 → u.heap[P]? = some (.cells #[.bool (bigB s), .bool (wideB s), .int .u8 (byteN s 7 : Nat), .int .u8 (byteN s 8 : Nat), .string (s.extract 9 16), .int .u64 (hdN s 0 : Nat), .int .u64 (hdN s 1 : Nat), .int .u64 (hdN s 2 : Nat), .int .u64 (hdN s 3 : Nat), .int .u64 (hdN s 4 : Nat), .int .u64 (hdN s 5 : Nat), .int .u64 (hdN s 6 : Nat), .int .u64 (hdN s 7 : Nat), .int .u64 (hdN s 8 : Nat), .int .u64 (hdN s 9 : Nat), .int .u64 (hdN s 10 : Nat), .int .u64 (hdN s 11 : Nat), .int .u64 (hdN s 12 : Nat), .slice none 0 0, .slice none 0 0, .int .u64 (0 : Nat), .string s] 138 (0, 0))) ∧
  (3 ≤ k → ∃ A c, (0 < nSec s → ∃ b, W.heap.size ≤ b ∧ A = some ⟨b, 0, none⟩ ∧ u.heap[b]? = some (.cells (rowU64 (flatF 10 (fSec s) (nSec s))) 52 (0, 0))) ∧
    (k = 3 → u.heap[P]? = some (.cells #[.bool (bigB s), .bool (wideB s), .int .u8 (byteN s 7 : Nat), .int .u8 (byteN s 8 : Nat), .string (s.extract 9 16), .int .u64 (hdN s 0 : Nat), .int .u64 (hdN s 1 : Nat), .int .u64 (hdN s 2 : Nat), .int .u64 (hdN s 3 : Nat), .int .u64 (hdN s 4 : Nat), .int .u64 (hdN s 5 : Nat), .int .u64 (hdN s 6 : Nat), .int .u64 (hdN s 7 : Nat), .int .u64 (hdN s 8 : Nat), .int .u64 (hdN s 9 : Nat), .int .u64 (hdN s 10 : Nat), .int .u64 (hdN s 11 : Nat), .int .u64 (hdN s 12 : Nat), .slice A (nSec s) c, .slice none 0 0, .int .u64 (nameS s : Nat), .string s] 138 (0, 0))) ∧
    (4 ≤ k → ∃ b2, W.heap.size ≤ b2 ∧ u.heap[b2]? = some (.cells (rowU64 (flatF 8 (fSeg s) (nSeg s))) 72 (0, 0)) ∧ u.heap[P]? = some (.cells #[.bool (bigB s), .bool (wideB s), .int .u8 (byteN s 7 : Nat), .int .u8 (byteN s 8 : Nat), .string (s.extract 9 16), .int .u64 (hdN s 0 : Nat), .int .u64 (hdN s 1 : Nat), .int .u64 (hdN s 2 : Nat), .int .u64 (hdN s 3 : Nat), .int .u64 (hdN s 4 : Nat), .int .u64 (hdN s 5 : Nat), .int .u64 (hdN s 6 : Nat), .int .u64 (hdN s 7 : Nat), .int .u64 (hdN s 8 : Nat), .int .u64 (hdN s 9 : Nat), .int .u64 (hdN s 10 : Nat), .int .u64 (hdN s 11 : Nat), .int .u64 (hdN s 12 : Nat), .slice A (nSec s) c, .slice (some ⟨b2, 0, none⟩) (nSeg s) (nSeg s), .int .u64 (nameS s : Nat), .string s] 138 (0, 0))))
/-- What Parse answers. -/
def ParsePost (ones : Nat → Nat) (s : ByteArray) (w : World) (e : Ending) (w' : World) : Prop :=
  (parseErr ones s ≠ 0 ∧ e = .returned (.tuple #[.agg #[.bool false, .bool false, .int .u8 0, .int .u8 0, .string ⟨#[]⟩, .int .u64 0, .int .u64 0, .int .u64 0, .int .u64 0, .int .u64 0, .int .u64 0, .int .u64 0, .int .u64 0, .int .u64 0, .int .u64 0, .int .u64 0, .int .u64 0, .int .u64 0, .slice none 0 0, .slice none 0 0, .int .u64 0], .int .i64 (parseErr ones s : Nat)]) ∨
    parseErr ones s = 0 ∧ ∃ A c b2, (0 < nSec s → ∃ b, w.heap.size ≤ b ∧ A = some ⟨b, 0, none⟩ ∧ w'.heap[b]? = some (.cells (rowU64 (flatF 10 (fSec s) (nSec s))) 52 (0, 0))) ∧ w.heap.size ≤ b2 ∧ w'.heap[b2]? = some (.cells (rowU64 (flatF 8 (fSeg s) (nSeg s))) 72 (0, 0)) ∧
      e = .returned (.tuple #[.agg #[.bool (bigB s), .bool (wideB s), .int .u8 (byteN s 7 : Nat), .int .u8 (byteN s 8 : Nat), .string (s.extract 9 16), .int .u64 (hdN s 0 : Nat), .int .u64 (hdN s 1 : Nat), .int .u64 (hdN s 2 : Nat), .int .u64 (hdN s 3 : Nat), .int .u64 (hdN s 4 : Nat), .int .u64 (hdN s 5 : Nat), .int .u64 (hdN s 6 : Nat), .int .u64 (hdN s 7 : Nat), .int .u64 (hdN s 8 : Nat), .int .u64 (hdN s 9 : Nat), .int .u64 (hdN s 10 : Nat), .int .u64 (hdN s 11 : Nat), .int .u64 (hdN s 12 : Nat), .slice A (nSec s) c, .slice (some ⟨b2, 0, none⟩) (nSeg s) (nSeg s), .int .u64 (nameS s : Nat)], .int .i64 0])) ∧ Below w.heap.size w w'
def StepPost (ones : Nat → Nat) (s : ByteArray) (P : Nat) (W : World) (k : Nat) (e : Ending) (u : World) : Prop :=
  (parseErr ones s ≠ 0 ∧ e = .returned (.int .i64 (parseErr ones s : Nat)) ∧ OnlyAt P W u) ∨ (e = .returned (.int .i64 0) ∧ Stage ones s P W (k + 1) u)
set_option maxRecDepth 100000 in
set_option maxHeartbeats 1000000 in
theorem len_any (s : ByteArray) (bx : Nat) (hmax : s.size ≤ 9223372036854775807) (u : World) (hX : u.cell? ⟨bx, 0, none⟩ = some (.string s)) : Calls Try.prog 50 #[.pointer (some ⟨bx, 0, none⟩)] u fun e w' => e = .returned (.int .i64 ((if 1048576 < s.size then 2 else 0 : Nat) : Nat)) ∧ u = w' := by
  have hM : s.size ≤ maxLen := by unfold maxLen; omega
  by_cases h : 1048576 < s.size
  · have h1 : (1048576 : Int) < (s.size : Int) := by omega
    rw [if_pos h]
    go_enter Try.func50, Try.ntmps50
    go_wp2
    go_ret
    exact ⟨rfl, rfl⟩
  · have h1 : ¬ (1048576 : Int) < (s.size : Int) := by omega
    rw [if_neg h]
    go_enter Try.func50, Try.ntmps50
    go_wp2
    go_ret
    exact ⟨rfl, rfl⟩
theorem step0 {ones : Nat → Nat} {s : ByteArray} {P bx : Nat} {W u : World} (hmax : s.size ≤ 9223372036854775807) (hX : W.heap[bx]? = some (.cells #[.string s] 9 (0, 0))) (hne : bx ≠ P) (hS : Stage ones s P W 0 u) : Calls Try.prog 50 #[.pointer (some ⟨bx, 0, none⟩)] u (StepPost ones s P W 0) := by
  obtain ⟨hO, _, _, _, _, _, _, hR, _, _⟩ := hS
  refine (len_any s bx hmax u ?_).mono ?_
  · rw [hO.cell (heap_lt hX) hne, Lib.cell_of_heap hX]; rfl
  · rintro e w' ⟨rfl, rfl⟩
    by_cases h : 1048576 < s.size
    · have e1 : parseErr ones s = 2 := by unfold parseErr; rw [if_pos h]
      exact .inl ⟨by rw [e1]; decide, by rw [e1, if_pos h], hO⟩
    · refine .inr ⟨by rw [if_neg h]; rfl, hO, fun _ => by omega, ?_, ?_, ?_, ?_, ?_, fun _ => hR (by decide), ?_, ?_⟩ <;> (intro hk; omega)
theorem step1 {ones : Nat → Nat} {s : ByteArray} {P : Nat} {W u : World} (hS : Stage ones s P W 1 u) : Calls Try.prog 51 #[.pointer (some ⟨P, 0, none⟩)] u (StepPost ones s P W 1) := by
  obtain ⟨hO, h1, _, _, _, _, _, hR, _, _⟩ := hS
  have hm := h1 (by decide)
  refine (readHeader_any P s u hm (hR (by decide))).mono ?_
  rintro e w' ⟨h, hO'⟩
  have hOO := hO.trans hO'
  rcases h with ⟨h, rfl⟩ | ⟨h, rfl, hR2⟩
  · have e1 : parseErr ones s = hdErr s := by unfold parseErr; rw [if_neg (by omega), if_pos h]
    exact .inl ⟨by rw [e1]; exact h, by rw [e1], hOO⟩
  · refine .inr ⟨rfl, hOO, fun _ => hm, fun _ => h, ?_, ?_, ?_, ?_, ?_, fun _ => hR2, ?_⟩ <;> (intro hk; omega)
theorem step2 {ones : Nat → Nat} {s : ByteArray} {P : Nat} {W u : World} (hS : Stage ones s P W 2 u) : Calls Try.prog 52 #[.pointer (some ⟨P, 0, none⟩)] u (StepPost ones s P W 2) := by
  obtain ⟨hO, h1, h2, _, _, _, _, _, hR, _⟩ := hS
  have hm := h1 (by decide); have hd := h2 (by decide)
  refine (readSections_any P (bigB s) (wideB s) (byteN s 7) (byteN s 8) (s.extract 9 16) (hdN s 0) (hdN s 1) (hdN s 2) (hdN s 3) (hdN s 4) (hdN s 5) (hdN s 6) (hdN s 7) (hdN s 8) (hdN s 9) (hdN s 10) (hdN s 11) (hdN s 12) s u hm (hdN_64 s 5) (hdN_64 s 11) (hR rfl)).mono ?_
  rintro e w' ⟨h, hO'⟩
  have hOO := hO.trans hO'
  rcases h with ⟨h, rfl⟩ | ⟨h, rfl, A, l, c, hI, hR2⟩
  · have e1 : parseErr ones s = errSec s := by unfold parseErr; rw [if_neg (by omega), if_neg (fun q => q hd), if_pos (show errSec s ≠ 0 from h)]
    exact .inl ⟨by rw [e1]; exact h, by rw [e1]; rfl, hOO⟩
  · have hl : l = nSec s ∧ (0 < nSec s → ∃ b, W.heap.size ≤ b ∧ A = some ⟨b, 0, none⟩ ∧ w'.heap[b]? = some (.cells (rowU64 (flatF 10 (fSec s) (nSec s))) 52 (0, 0))) := by
      rcases hI with ⟨hn, hv⟩ | ⟨hn, b, hb, hv, hw⟩
      · simp only [Value.slice.injEq] at hv
        exact ⟨by rw [hv.2.1]; exact hn.symm, fun q => absurd (show nSec s = 0 from hn) (by omega)⟩
      · simp only [Value.slice.injEq] at hv
        exact ⟨hv.2.1, fun _ => ⟨b, Nat.le_trans hO.size hb, hv.1, hw⟩⟩
    obtain ⟨rfl, hA⟩ := hl
    refine .inr ⟨rfl, hOO, fun _ => hm, fun _ => hd, fun _ => h, ?_, ?_, ?_, ?_, ?_, fun _ => ⟨A, c, hA, fun _ => hR2, ?_⟩⟩ <;> (intro hk; omega)
theorem nSec_le {s : ByteArray} (h : errSec s = 0) : nSec s ≤ 4096 := by
  unfold errSec secErr at h
  unfold nSec
  by_cases h0 : hdN s 5 = 0
  · unfold secNum; rw [if_pos h0]; omega
  · rw [if_neg h0] at h
    split at h
    · omega
    · split at h
      · omega
      · omega
theorem nSeg_le {s : ByteArray} (h : errSeg s = 0) : nSeg s ≤ 4096 := by
  unfold errSeg segErr at h
  split at h
  · omega
  · omega
theorem step3 {ones : Nat → Nat} {s : ByteArray} {P : Nat} {W u : World} (hP : P < W.heap.size) (hS : Stage ones s P W 3 u) : Calls Try.prog 53 #[.pointer (some ⟨P, 0, none⟩)] u (StepPost ones s P W 3) := by
  obtain ⟨hO, h1, h2, h3, _, _, _, _, _, hT⟩ := hS
  have hm := h1 (by decide); have hd := h2 (by decide); have he := h3 (by decide)
  obtain ⟨A, c, hA, hR, _⟩ := hT (by decide)
  refine (readSegments_any P (bigB s) (wideB s) (byteN s 7) (byteN s 8) (s.extract 9 16) (hdN s 0) (hdN s 1) (hdN s 2) (hdN s 3) (hdN s 4) (hdN s 5) (hdN s 6) (hdN s 7) (hdN s 8) (hdN s 9) (hdN s 10) (hdN s 11) (hdN s 12) A (nSec s) c (nameS s) (fSec s 0 7) (nSeg s) s u hm (hdN_64 s 4) (hR rfl) (nSec_le he) ?_ rfl).mono ?_
  · intro h0
    obtain ⟨b, _, rfl, hb⟩ := hA h0
    have q := rowU_at (i := 0) (j := 7) hb h0 (by decide)
    exact ⟨b, rfl, by simpa using q⟩
  rintro e w' ⟨h, hO'⟩
  have hOO := hO.trans hO'
  rcases h with ⟨h, rfl⟩ | ⟨h, rfl, b2, hb2, hw2, hR2⟩
  · have e1 : parseErr ones s = errSeg s := by unfold parseErr; rw [if_neg (by omega), if_neg (fun q => q hd), if_neg (fun q => q he), if_pos (show errSeg s ≠ 0 from h)]
    exact .inl ⟨by rw [e1]; exact h, by rw [e1]; rfl, hOO⟩
  · refine .inr ⟨rfl, hOO, fun _ => hm, fun _ => hd, fun _ => he, fun _ => h, ?_, ?_, ?_, ?_, fun _ => ⟨A, c, fun h0 => ?_, ?_, fun _ => ⟨b2, Nat.le_trans hO.size hb2, hw2, hR2⟩⟩⟩
    case refine_5 =>
      obtain ⟨b, hb, rfl, hw⟩ := hA h0
      have hbP : b ≠ P := by omega
      exact ⟨b, hb, rfl, by rw [hO'.block b (heap_lt hw) hbP]; exact hw⟩
    all_goals (intro hk; omega)
theorem step4 {ones : Nat → Nat} (HON : Hid (∀ x, x < 18446744073709551616 → ∀ u, Calls Try.prog 96 #[.int .u64 (x : Nat)] u fun e w' => e = .returned (.int .i64 (ones x : Nat)) ∧ u = w')) {s : ByteArray} {P : Nat} {W u : World} (hS : Stage ones s P W 4 u) : Calls Try.prog 54 #[.pointer (some ⟨P, 0, none⟩)] u (StepPost ones s P W 4) := by
  obtain ⟨hO, h1, h2, h3, h4, _, _, _, _, hT⟩ := hS
  have hm := h1 (by decide); have hd := h2 (by decide); have he := h3 (by decide); have hg := h4 (by decide)
  obtain ⟨A, c, hA, _, hR⟩ := hT (by decide)
  obtain ⟨b2, hb2, hw2, hR2⟩ := hR (by decide)
  refine (checkSections_any ones HON P (bigB s) (wideB s) (byteN s 7) (byteN s 8) (s.extract 9 16) (hdN s 0) (hdN s 1) (hdN s 2) (hdN s 3) (hdN s 4) (hdN s 5) (hdN s 6) (hdN s 7) (hdN s 8) (hdN s 9) (hdN s 10) (hdN s 11) (hdN s 12) A (nSec s) c _ (nameS s) (fSec s) s u hm (nSec_le he) (fSec_64 s) hR2 (fun h0 => ?_)).mono ?_
  · obtain ⟨b, _, rfl, hb⟩ := hA h0
    exact ⟨b, rfl, hb⟩
  rintro e w' ⟨rfl, hB⟩
  have hOO := only_low hO hB
  by_cases h : errChk ones s = 0
  · refine .inr ⟨by rw [show firstE (secChk ones s.size (fSec s)) (nSec s) = 0 from h]; rfl, hOO, fun _ => hm, fun _ => hd, fun _ => he, fun _ => hg, fun _ => h, ?_, ?_, ?_, fun _ => ⟨A, c, fun h0 => ?_, ?_, fun _ => ⟨b2, hb2, heap_low hw2 hB, heap_low hR2 hB⟩⟩⟩
    case refine_4 =>
      obtain ⟨b, hb, rfl, hw⟩ := hA h0
      exact ⟨b, hb, rfl, heap_low hw hB⟩
    all_goals (intro hk; omega)
  · have e1 : parseErr ones s = errChk ones s := by unfold parseErr; rw [if_neg (by omega), if_neg (fun q => q hd), if_neg (fun q => q he), if_neg (fun q => q hg), if_pos h]
    exact .inl ⟨by rw [e1]; exact h, by rw [e1]; rfl, hOO⟩
theorem step5 {ones : Nat → Nat} {s : ByteArray} {P : Nat} {W u : World} (hS : Stage ones s P W 5 u) : Calls Try.prog 55 #[.pointer (some ⟨P, 0, none⟩)] u (StepPost ones s P W 5) := by
  obtain ⟨hO, h1, h2, h3, h4, h5, _, _, _, hT⟩ := hS
  have hm := h1 (by decide); have hd := h2 (by decide); have he := h3 (by decide); have hg := h4 (by decide); have hc := h5 (by decide)
  obtain ⟨A, c, hA, _, hR⟩ := hT (by decide)
  obtain ⟨b2, hb2, hw2, hR2⟩ := hR (by decide)
  refine (checkSegments_any P (bigB s) (wideB s) (byteN s 7) (byteN s 8) (s.extract 9 16) (hdN s 0) (hdN s 1) (hdN s 2) (hdN s 3) (hdN s 4) (hdN s 5) (hdN s 6) (hdN s 7) (hdN s 8) (hdN s 9) (hdN s 10) (hdN s 11) (hdN s 12) _ (some ⟨b2, 0, none⟩) (nSeg s) (nSeg s) (nameS s) (fSeg s) s u hm (nSeg_le hg) (fSeg_64 s) hR2 (fun h0 => ⟨b2, rfl, hw2⟩)).mono ?_
  rintro e w' ⟨rfl, hB⟩
  have hOO := only_low hO hB
  by_cases h : errImg s = 0
  · refine .inr ⟨by rw [show firstE (segChk s.size (fSeg s)) (nSeg s) = 0 from h]; rfl, hOO, fun _ => hm, fun _ => hd, fun _ => he, fun _ => hg, fun _ => hc, fun _ => h, ?_, ?_, fun _ => ⟨A, c, fun h0 => ?_, ?_, fun _ => ⟨b2, hb2, heap_low hw2 hB, heap_low hR2 hB⟩⟩⟩
    case refine_3 =>
      obtain ⟨b, hb, rfl, hw⟩ := hA h0
      exact ⟨b, hb, rfl, heap_low hw hB⟩
    all_goals (intro hk; omega)
  · have e1 : parseErr ones s = errImg s := by unfold parseErr; rw [if_neg (by omega), if_neg (fun q => q hd), if_neg (fun q => q he), if_neg (fun q => q hg), if_neg (fun q => q hc)]
    exact .inl ⟨by rw [e1]; exact h, by rw [e1]; rfl, hOO⟩
theorem stay_at {P b : Nat} {a u : World} {o : Obj} (h : a.heap[b]? = some o) (hO : OnlyAt P a u) (hne : b ≠ P) : u.heap[b]? = some o := by rw [hO.block b (heap_lt h) hne]; exact h
theorem stage_start {ones : Nat → Nat} {s : ByteArray} {P : Nat} {W : World} (hR : W.heap[P]? = some (.cells #[.bool false, .bool false, .int .u8 0, .int .u8 0, .string ⟨#[]⟩, .int .u64 0, .int .u64 0, .int .u64 0, .int .u64 0, .int .u64 0, .int .u64 0, .int .u64 0, .int .u64 0, .int .u64 0, .int .u64 0, .int .u64 0, .int .u64 0, .int .u64 0, .slice none 0 0, .slice none 0 0, .int .u64 0, .string s] 138 (0, 0))) : Stage ones s P W 0 W := by
  refine ⟨OnlyAt.refl _ _, ?_, ?_, ?_, ?_, ?_, ?_, fun _ => hR, ?_, ?_⟩ <;> (intro hk; omega)
theorem stage_end {ones : Nat → Nat} {s : ByteArray} {P : Nat} {W u : World} (hS : Stage ones s P W 6 u) : parseErr ones s = 0 := by
  obtain ⟨_, h1, h2, h3, h4, h5, h6, _⟩ := hS
  have hm := h1 (by decide)
  unfold parseErr
  rw [if_neg (by omega), if_neg (fun q => q (h2 (by decide))), if_neg (fun q => q (h3 (by decide))), if_neg (fun q => q (h4 (by decide))), if_neg (fun q => q (h5 (by decide)))]
  exact h6 (by decide)
end Go.Proofs.Ytedocnidgiglaaa
