/- The contract of raw's readHeader. Conditions: those written in each theorem. -/
import Derived.Test.YtedocnidgiglaaaNL
import Derived.Test.YtedocnidgiglaaaED
import Derived.Test.YtedocnidgiglaaaEE
import Derived.Test.YtedocnidgiglaaaJE
namespace Go.Proofs.Ytedocnidgiglaaa
open Go.RowKit
set_option linter.unusedVariables false
/-- A byte of a text, 0 behind its end. -/
def byteN (s : ByteArray) (i : Nat) : Nat := (s.data.toList.getD i 0).toNat
theorem byteN_at (s : ByteArray) (i : Nat) (h : i < s.size) : s[i].toNat = byteN s i := by
  unfold byteN
  have : s.data.toList.getD i 0 = s[i] := by
    rw [List.getD_eq_getElem?_getD, List.getElem?_eq_getElem (by simpa using h)]
    rfl
  rw [this]
/-- Why the first bytes are no ident. -/
def idErr (s : ByteArray) : Nat := if s.size < 16 then 3 else if isMagic s = false then 4 else if ¬ (byteN s 4 = 1 ∨ byteN s 4 = 2) then 5 else if ¬ (byteN s 5 = 1 ∨ byteN s 5 = 2) then 6 else if byteN s 6 ≠ 1 then 7 else 0
def bigB (s : ByteArray) : Bool := (byteN s 5 : Int) == 2
def wideB (s : ByteArray) : Bool := (byteN s 4 : Int) == 2
theorem cread_any (s : ByteArray) (hm : s.size ≤ 9223372036854775807) (w : World) : Calls Try.prog 88 #[.string s] w fun e w' => (idErr s ≠ 0 ∧ e = .returned (noIdent (idErr s)) ∨ idErr s = 0 ∧ 16 ≤ s.size ∧ e = .returned (okIdent (bigB s) (wideB s) (byteN s 7) (byteN s 8) (s.extract 9 16))) ∧ Below w.heap.size w w' := by
  have hM : s.size ≤ maxLen := by unfold maxLen; omega
  by_cases h : s.size < 16
  · have e1 : idErr s = 3 := by unfold idErr; rw [if_pos h]
    rw [e1]
    exact (read_short s w h).mono fun e w' h => ⟨.inl ⟨by decide, h.1⟩, h.2⟩
  · have h16 : 16 ≤ s.size := by omega
    cases hb : isMagic s
    · have e1 : idErr s = 4 := by unfold idErr; rw [if_neg h, if_pos hb]
      rw [e1]
      exact (read_magic s w h16 hM hb).mono fun e w' h => ⟨.inl ⟨by decide, h.1⟩, h.2⟩
    · have hb' : ¬ isMagic s = false := by rw [hb]; simp
      have b4 := byteN_at s 4 (by omega); have b5 := byteN_at s 5 (by omega); have b6 := byteN_at s 6 (by omega); have b7 := byteN_at s 7 (by omega); have b8 := byteN_at s 8 (by omega)
      by_cases h4 : byteN s 4 = 1 ∨ byteN s 4 = 2
      · by_cases h5 : byteN s 5 = 1 ∨ byteN s 5 = 2
        · by_cases h6 : byteN s 6 = 1
          · have e1 : idErr s = 0 := by unfold idErr; rw [if_neg h, if_neg hb', if_neg (fun hh => hh h4), if_neg (fun hh => hh h5), if_neg (fun hh => hh h6)]
            refine (read_ok s w h16 hM hb (by rw [b4]; exact h4) (by rw [b5]; exact h5) (by rw [b6, h6]; rfl)).mono fun e w' h => ⟨.inr ⟨e1, h16, ?_⟩, h.2⟩
            rw [h.1]
            unfold bigB wideB
            rw [← b4, ← b5, ← b7, ← b8]
          · have e1 : idErr s = 7 := by unfold idErr; rw [if_neg h, if_neg hb', if_neg (fun hh => hh h4), if_neg (fun hh => hh h5), if_pos h6]
            rw [e1]
            exact (read_version s w h16 hM hb (by rw [b4]; exact h4) (by rw [b5]; exact h5) (by rw [b6]; simp; omega)).mono fun e w' h => ⟨.inl ⟨by decide, h.1⟩, h.2⟩
        · have e1 : idErr s = 6 := by unfold idErr; rw [if_neg h, if_neg hb', if_neg (fun hh => hh h4), if_pos h5]
          rw [e1]
          exact (read_data s w h16 hM hb (by rw [b4]; exact h4) (by rw [b5]; simp; omega) (by rw [b5]; simp; omega)).mono fun e w' h => ⟨.inl ⟨by decide, h.1⟩, h.2⟩
      · have e1 : idErr s = 5 := by unfold idErr; rw [if_neg h, if_neg hb', if_pos h4]
        rw [e1]
        exact (read_class s w h16 hM hb (by rw [b4]; simp; omega) (by rw [b4]; simp; omega)).mono fun e w' h => ⟨.inl ⟨by decide, h.1⟩, h.2⟩
/-- The numbers of the header. -/
def hdN (s : ByteArray) (k : Nat) : Nat := numAt (bigB s) (fullL (wideB s) eSizes 13) (s.extract 16 s.size).data.toList k
def chkN (s : ByteArray) : Nat := if hdN s 2 ≠ 1 then 7 else if hdN s 7 ≠ ehs (wideB s) ∨ (hdN s 4 ≠ 0 ∧ hdN s 8 ≠ phs (wideB s)) ∨ (hdN s 5 ≠ 0 ∧ hdN s 10 ≠ shs (wideB s)) then 8 else 0
def hdErr (s : ByteArray) : Nat := if idErr s ≠ 0 then idErr s else if s.size < 16 + eLen (wideB s) then 3 else chkN s
theorem chk_is (s : ByteArray) : chk ((hdN s 2 : Int) != 1) ((hdN s 7 : Int) != (ehs (wideB s) : Nat)) ((hdN s 4 : Int) != 0) ((hdN s 8 : Int) != (phs (wideB s) : Nat)) ((hdN s 5 : Int) != 0) ((hdN s 10 : Int) != (shs (wideB s) : Nat)) = (chkN s : Nat) := by
  have ne : ∀ a b : Nat, ((a : Int) != (b : Int)) = decide (a ≠ b) := fun a b => by
    rw [Bool.eq_iff_iff]; simp; omega
  have ne1 := ne (hdN s 2) 1; have ne0 := ne (hdN s 4) 0; have ne5 := ne (hdN s 5) 0
  have e1 : ((1 : Nat) : Int) = 1 := rfl
  have e0 : ((0 : Nat) : Int) = 0 := rfl
  rw [e1] at ne1; rw [e0] at ne0 ne5
  rw [ne1, ne0, ne5, ne, ne, ne]
  unfold chk chkN
  by_cases h2 : hdN s 2 = 1
  · simp only [h2, ne_eq, not_true_eq_false, decide_false, Bool.false_eq_true, if_false]
    by_cases h : hdN s 7 ≠ ehs (wideB s) ∨ (hdN s 4 ≠ 0 ∧ hdN s 8 ≠ phs (wideB s)) ∨ (hdN s 5 ≠ 0 ∧ hdN s 10 ≠ shs (wideB s))
    · rw [if_pos h, if_pos (by
        rcases h with h | ⟨h, h'⟩ | ⟨h, h'⟩ <;> simp_all)]
      rfl
    · rw [if_neg h, if_neg (by
        simp only [not_or, not_and] at h
        simp only [Bool.or_eq_true, Bool.and_eq_true, decide_eq_true_eq]
        intro hh
        rcases hh with (hh | ⟨h1, h3⟩) | ⟨h1, h3⟩
        · exact h.1 hh
        · exact h.2.1 h1 h3
        · exact h.2.2 h1 h3)]
      rfl
  · rw [if_pos (by simpa using h2), if_pos h2]
    rfl
/-- What readHeader leaves. -/
def HdPost (P : Nat) (text : ByteArray) (W : World) (e : Ending) (w' : World) : Prop := (hdErr text ≠ 0 ∧ e = .returned (.int .i64 (hdErr text : Nat)) ∨ hdErr text = 0 ∧ e = .returned (.int .i64 0) ∧ w'.heap[P]? = some (.cells #[.bool (bigB text), .bool (wideB text), .int .u8 (byteN text 7 : Nat), .int .u8 (byteN text 8 : Nat), .string (text.extract 9 16), .int .u64 (hdN text 0 : Nat), .int .u64 (hdN text 1 : Nat), .int .u64 (hdN text 2 : Nat), .int .u64 (hdN text 3 : Nat), .int .u64 (hdN text 4 : Nat), .int .u64 (hdN text 5 : Nat), .int .u64 (hdN text 6 : Nat), .int .u64 (hdN text 7 : Nat), .int .u64 (hdN text 8 : Nat), .int .u64 (hdN text 9 : Nat), .int .u64 (hdN text 10 : Nat), .int .u64 (hdN text 11 : Nat), .int .u64 (hdN text 12 : Nat), .slice none 0 0, .slice none 0 0, .int .u64 0, .string text] 138 (0, 0))) ∧ OnlyAt P W w'
set_option maxRecDepth 100000 in
set_option maxHeartbeats 1000000 in
theorem rh_bad (P : Nat) (text : ByteArray) (W : World) (hm : text.size ≤ 1048576) (hR : W.heap[P]? = some (.cells #[.bool false, .bool false, .int .u8 0, .int .u8 0, .string ⟨#[]⟩, .int .u64 0, .int .u64 0, .int .u64 0, .int .u64 0, .int .u64 0, .int .u64 0, .int .u64 0, .int .u64 0, .int .u64 0, .int .u64 0, .int .u64 0, .int .u64 0, .int .u64 0, .slice none 0 0, .slice none 0 0, .int .u64 0, .string text] 138 (0, 0))) (hi : idErr text ≠ 0) :
    Calls Try.prog 51 #[.pointer (some ⟨P, 0, none⟩)] W (HdPost P text W) := by
  have e1 : hdErr text = idErr text := by unfold hdErr; rw [if_pos hi]
  have HPO : Hid (∀ w', OnlyAt P W w' → HdPost P text W (.returned (.int .i64 (idErr text : Nat))) w') := Lib.hid (fun w' h => ⟨.inl ⟨by rw [e1]; exact hi, by rw [e1]⟩, h⟩)
  have HC := Lib.hid (fun u => (cread_any text (by omega) u).mono fun e w' h => (⟨by rcases h.1 with ⟨_, h1⟩ | ⟨h1, _⟩; exact h1; exact absurd h1 hi, h.2⟩ : e = .returned (noIdent (idErr text)) ∧ Below u.heap.size u w'))
  have c21 : W.cell? ⟨P, 21, none⟩ = some (.string text) := by rw [Lib.cell_of_heap hR]; rfl
  have hk : (((idErr text : Nat) : Int) != 0) = true := by simp; omega
  clear hR e1 hi
  generalize idErr text = k at *
  unfold noIdent at HC
  go_enter Try.func51, Try.ntmps51
  go_wp2_with fail
  refine (HC.out _).mono ?_
  rintro e w2 ⟨rfl, h2⟩
  have HB := Lib.hid (below_more h2 (.cells #[.bool false, .bool false, .int .u8 0, .int .u8 0, .string ⟨#[]⟩] 36))
  clear h2 c21
  go_wp2
  go_ret
  exact HPO.out _ (OnlyAt.of_below HB.out)
set_option maxRecDepth 100000 in
set_option maxHeartbeats 2000000 in
theorem rh_short (P : Nat) (text : ByteArray) (W : World) (hm : text.size ≤ 1048576) (hR : W.heap[P]? = some (.cells #[.bool false, .bool false, .int .u8 0, .int .u8 0, .string ⟨#[]⟩, .int .u64 0, .int .u64 0, .int .u64 0, .int .u64 0, .int .u64 0, .int .u64 0, .int .u64 0, .int .u64 0, .int .u64 0, .int .u64 0, .int .u64 0, .int .u64 0, .int .u64 0, .slice none 0 0, .slice none 0 0, .int .u64 0, .string text] 138 (0, 0))) (hi : idErr text = 0) (hz : text.size < 16 + eLen (wideB text)) :
    Calls Try.prog 51 #[.pointer (some ⟨P, 0, none⟩)] W (HdPost P text W) := by
  have hid0 : ¬ idErr text ≠ 0 := by rw [hi]; simp
  have e1 : hdErr text = 3 := by unfold hdErr; rw [if_neg hid0, if_pos hz]
  have HPO : Hid (∀ w', OnlyAt P W w' → HdPost P text W (.returned (.int .i64 3)) w') := Lib.hid (fun w' h => ⟨.inl ⟨by rw [e1]; decide, by rw [e1]; rfl⟩, h⟩)
  have h16 : 16 ≤ text.size := by
    rcases Nat.lt_or_ge text.size 16 with h | h
    · unfold idErr at hi; rw [if_pos h] at hi; cases hi
    · exact h
  have hxs : (text.extract 16 text.size).size = text.size - 16 := by simp
  have HC := Lib.hid (fun u => (cread_any text (by omega) u).mono fun e w' h => (⟨by rcases h.1 with ⟨h1, _⟩ | ⟨_, _, h1⟩; exact absurd hi h1; exact h1, h.2⟩ : e = .returned (okIdent (bigB text) (wideB text) (byteN text 7) (byteN text 8) (text.extract 9 16)) ∧ Below u.heap.size u w'))
  have HE := Lib.hid (fun u => eread_no (bigB text) (wideB text) (text.extract 16 text.size) u (by omega) (by omega))
  have c21 : W.cell? ⟨P, 21, none⟩ = some (.string text) := by rw [Lib.cell_of_heap hR]; rfl
  have HR := Lib.hid hR; have hPW := heap_lt hR
  have k0 : (16 : Int) ≤ (text.size : Int) := by omega
  clear hR e1 hi hz hid0 h16 hxs
  unfold okIdent at HC
  go_enter Try.func51, Try.ntmps51
  go_wp2_with fail
  refine (HC.out _).mono ?_
  rintro e w2 ⟨rfl, h2⟩
  have HR2 := Lib.hid (heap_up (.cells #[.bool (bigB text), .bool (wideB text), .int .u8 (byteN text 7 : Nat), .int .u8 (byteN text 8 : Nat), .string (text.extract 9 16)] 36) (heap_low HR.out h2)); have HB2 := Lib.hid (below_more h2 (.cells #[.bool (bigB text), .bool (wideB text), .int .u8 (byteN text 7 : Nat), .int .u8 (byteN text 8 : Nat), .string (text.extract 9 16)] 36))
  have HI2 := Lib.hid (heap_alloc_new w2 (.cells #[.bool (bigB text), .bool (wideB text), .int .u8 (byteN text 7 : Nat), .int .u8 (byteN text 8 : Nat), .string (text.extract 9 16)] 36))
  have hI : W.heap.size ≤ w2.heap.size := h2.size
  clear h2 c21
  go_upto_region 4 with (fail)
  generalize (w2.alloc (.cells #[.bool (bigB text), .bool (wideB text), .int .u8 (byteN text 7 : Nat), .int .u8 (byteN text 8 : Nat), .string (text.extract 9 16)] 36)) = W2 at *
  generalize w2.heap.size = I at *
  refine hreg4 _ _ _ _ _ _ _ _ _ _ _ _ _ _ _ _ _ _ _ _ _ _ _ _ _ _ _ _ _ _ _ _ _ _ _ _ _ _ _ _ _ _ _ _ _ _ _ _ P I (bigB text) (wideB text) false 0 0 0 0 0 0 0 0 0 0 0 0 0 text (text.extract 16 text.size) W2 k0 rfl (Lib.hid (fun u hu => by rw [Lib.cell_of_heap (heap_low HI2.out hu)]; rfl)) (Lib.hid (fun u hu => by rw [Lib.cell_of_heap (heap_low HI2.out hu)]; rfl)) (Lib.hid (fun u hu => by rw [Lib.cell_of_heap (heap_low HR2.out hu)]; rfl)) HE (fun _ _ _ _ _ h => h) (fun u18 u19 u20 u21 u22 u23 u24 u25 u26 u27 u28 b w5 hb5 hWb h5 => ?_)
  have HR5 := Lib.hid (heap_low HR2.out h5); have HB5 := Lib.hid (HB2.out.trans (h5.mono HB2.out.size)); have HI5 := Lib.hid (heap_low HI2.out h5); have HG5 := Lib.hid hb5
  have hIP : I ≠ P := by omega
  have hbP : b ≠ P := by have := HB2.out.size; omega
  clear h5 hb5
  go_wp2
  go_ret
  exact HPO.out _ (OnlyAt.of_below HB5.out)
set_option maxRecDepth 100000 in
set_option maxHeartbeats 2000000 in
theorem rh_ok (P : Nat) (text : ByteArray) (W : World) (hm : text.size ≤ 1048576) (hR : W.heap[P]? = some (.cells #[.bool false, .bool false, .int .u8 0, .int .u8 0, .string ⟨#[]⟩, .int .u64 0, .int .u64 0, .int .u64 0, .int .u64 0, .int .u64 0, .int .u64 0, .int .u64 0, .int .u64 0, .int .u64 0, .int .u64 0, .int .u64 0, .int .u64 0, .int .u64 0, .slice none 0 0, .slice none 0 0, .int .u64 0, .string text] 138 (0, 0))) (hi : idErr text = 0) (hz : ¬ text.size < 16 + eLen (wideB text)) :
    Calls Try.prog 51 #[.pointer (some ⟨P, 0, none⟩)] W (HdPost P text W) := by
  have hid0 : ¬ idErr text ≠ 0 := by rw [hi]; simp
  have e1 : hdErr text = chkN text := by unfold hdErr; rw [if_neg hid0, if_neg hz]
  have HPO : Hid (∀ w', w'.heap[P]? = some (.cells #[.bool (bigB text), .bool (wideB text), .int .u8 (byteN text 7 : Nat), .int .u8 (byteN text 8 : Nat), .string (text.extract 9 16), .int .u64 (hdN text 0 : Nat), .int .u64 (hdN text 1 : Nat), .int .u64 (hdN text 2 : Nat), .int .u64 (hdN text 3 : Nat), .int .u64 (hdN text 4 : Nat), .int .u64 (hdN text 5 : Nat), .int .u64 (hdN text 6 : Nat), .int .u64 (hdN text 7 : Nat), .int .u64 (hdN text 8 : Nat), .int .u64 (hdN text 9 : Nat), .int .u64 (hdN text 10 : Nat), .int .u64 (hdN text 11 : Nat), .int .u64 (hdN text 12 : Nat), .slice none 0 0, .slice none 0 0, .int .u64 0, .string text] 138 (0, 0)) → OnlyAt P W w' → HdPost P text W (.returned (.int .i64 (chkN text : Nat))) w') := Lib.hid (fun w' hr h => by
    by_cases h0 : chkN text = 0
    · exact ⟨.inr ⟨by rw [e1]; exact h0, by rw [h0]; rfl, hr⟩, h⟩
    · exact ⟨.inl ⟨by rw [e1]; exact h0, by rw [e1]⟩, h⟩)
  have h16 : 16 ≤ text.size := by
    rcases Nat.lt_or_ge text.size 16 with h | h
    · unfold idErr at hi; rw [if_pos h] at hi; cases hi
    · exact h
  have hxs : (text.extract 16 text.size).size = text.size - 16 := by simp
  have HC := Lib.hid (fun u => (cread_any text (by omega) u).mono fun e w' h => (⟨by rcases h.1 with ⟨h1, _⟩ | ⟨_, _, h1⟩; exact absurd hi h1; exact h1, h.2⟩ : e = .returned (okIdent (bigB text) (wideB text) (byteN text 7) (byteN text 8) (text.extract 9 16)) ∧ Below u.heap.size u w'))
  have HE := Lib.hid (fun u => eread_yes (bigB text) (wideB text) (text.extract 16 text.size) u (by omega) (by omega))
  have HK := Lib.hid (fun u => echeck (bigB text) (wideB text) (hdN text 0) (hdN text 1) (hdN text 2) (hdN text 3) (hdN text 4) (hdN text 5) (hdN text 6) (hdN text 7) (hdN text 8) (hdN text 9) (hdN text 10) (hdN text 11) (hdN text 12) _ _ _ _ _ _ rfl rfl rfl rfl rfl rfl u)
  rw [chk_is text] at HK
  have c21 : W.cell? ⟨P, 21, none⟩ = some (.string text) := by rw [Lib.cell_of_heap hR]; rfl
  have HR := Lib.hid hR; have hPW := heap_lt hR
  have k0 : (16 : Int) ≤ (text.size : Int) := by omega
  clear hR e1 hi hz hid0 h16 hxs
  unfold okIdent at HC
  go_enter Try.func51, Try.ntmps51
  go_wp2_with fail
  refine (HC.out _).mono ?_
  rintro e w2 ⟨rfl, h2⟩
  have HR2 := Lib.hid (heap_up (.cells #[.bool (bigB text), .bool (wideB text), .int .u8 (byteN text 7 : Nat), .int .u8 (byteN text 8 : Nat), .string (text.extract 9 16)] 36) (heap_low HR.out h2)); have HB2 := Lib.hid (below_more h2 (.cells #[.bool (bigB text), .bool (wideB text), .int .u8 (byteN text 7 : Nat), .int .u8 (byteN text 8 : Nat), .string (text.extract 9 16)] 36))
  have HI2 := Lib.hid (heap_alloc_new w2 (.cells #[.bool (bigB text), .bool (wideB text), .int .u8 (byteN text 7 : Nat), .int .u8 (byteN text 8 : Nat), .string (text.extract 9 16)] 36))
  have hI : W.heap.size ≤ w2.heap.size := h2.size
  clear h2 c21
  go_upto_region 4 with (fail)
  generalize (w2.alloc (.cells #[.bool (bigB text), .bool (wideB text), .int .u8 (byteN text 7 : Nat), .int .u8 (byteN text 8 : Nat), .string (text.extract 9 16)] 36)) = W2 at *
  generalize w2.heap.size = I at *
  refine hreg4 _ _ _ _ _ _ _ _ _ _ _ _ _ _ _ _ _ _ _ _ _ _ _ _ _ _ _ _ _ _ _ _ _ _ _ _ _ _ _ _ _ _ _ _ _ _ _ _ P I (bigB text) (wideB text) true (hdN text 0) (hdN text 1) (hdN text 2) (hdN text 3) (hdN text 4) (hdN text 5) (hdN text 6) (hdN text 7) (hdN text 8) (hdN text 9) (hdN text 10) (hdN text 11) (hdN text 12) text (text.extract 16 text.size) W2 k0 rfl (Lib.hid (fun u hu => by rw [Lib.cell_of_heap (heap_low HI2.out hu)]; rfl)) (Lib.hid (fun u hu => by rw [Lib.cell_of_heap (heap_low HI2.out hu)]; rfl)) (Lib.hid (fun u hu => by rw [Lib.cell_of_heap (heap_low HR2.out hu)]; rfl)) HE (fun _ _ _ _ _ h => h) (fun u18 u19 u20 u21 u22 u23 u24 u25 u26 u27 u28 b w5 hb5 hWb h5 => ?_)
  have HR5 := Lib.hid (heap_low HR2.out h5); have HB5 := Lib.hid (HB2.out.trans (h5.mono HB2.out.size)); have HI5 := Lib.hid (heap_low HI2.out h5); have HG5 := Lib.hid hb5
  have hIP : I ≠ P := by omega
  have hbP : b ≠ P := by have := HB2.out.size; omega
  clear h5 hb5
  go_upto_region 7 with (fail)
  refine hreg7 _ _ _ _ _ _ _ _ _ _ _ _ _ _ _ _ _ _ _ _ _ _ _ _ _ _ _ _ _ _ _ _ _ _ _ _ _ _ _ _ _ _ _ _ _ _ _ P I b (bigB text) (wideB text) (byteN text 7) (byteN text 8) (text.extract 9 16) (hdN text 0) (hdN text 1) (hdN text 2) (hdN text 3) (hdN text 4) (hdN text 5) (hdN text 6) (hdN text 7) (hdN text 8) (hdN text 9) (hdN text 10) (hdN text 11) (hdN text 12) text w5 HI5.out HG5.out HR5.out hIP hbP (fun _ _ _ _ _ h => h) (fun u31 u32 u33 u34 u35 u36 u37 u38 u39 u40 w6 hr6 h6 => ?_)
  have HR6 := Lib.hid hr6; have HG6 := Lib.hid (heap_only HG5.out h6 hbP); have HO6 := Lib.hid ((OnlyAt.of_below (R := P) HB5.out).trans h6)
  clear hr6 h6
  go_upto_region 8 with (fail)
  refine hreg8 _ _ _ _ _ _ _ _ _ _ _ _ _ _ _ _ _ _ _ _ _ _ _ _ _ _ _ _ _ _ _ _ _ _ _ _ _ _ _ _ _ _ _ _ _ _ _ _ P b (bigB text) (wideB text) (chkN text : Nat) (hdN text 0) (hdN text 1) (hdN text 2) (hdN text 3) (hdN text 4) (hdN text 5) (hdN text 6) (hdN text 7) (hdN text 8) (hdN text 9) (hdN text 10) (hdN text 11) (hdN text 12) w6 HG6.out (Lib.hid (fun u hu => by rw [Lib.cell_of_heap (heap_low HR6.out hu)]; rfl)) (Lib.hid (fun u hu => by rw [Lib.cell_of_heap (heap_low HR6.out hu)]; rfl)) HK (fun _ _ _ _ _ h => h) (fun u41 u42 u43 u44 u45 u46 u47 u48 w7 h7 => ?_)
  have HR7 := Lib.hid (heap_low HR6.out h7); have HO7 := Lib.hid (only_low HO6.out h7)
  clear h7
  go_wp2
  go_ret
  exact HPO.out _ HR7.out HO7.out
theorem readHeader_any (P : Nat) (text : ByteArray) (W : World) (hm : text.size ≤ 1048576) (hR : W.heap[P]? = some (.cells #[.bool false, .bool false, .int .u8 0, .int .u8 0, .string ⟨#[]⟩, .int .u64 0, .int .u64 0, .int .u64 0, .int .u64 0, .int .u64 0, .int .u64 0, .int .u64 0, .int .u64 0, .int .u64 0, .int .u64 0, .int .u64 0, .int .u64 0, .int .u64 0, .slice none 0 0, .slice none 0 0, .int .u64 0, .string text] 138 (0, 0))) : Calls Try.prog 51 #[.pointer (some ⟨P, 0, none⟩)] W (HdPost P text W) := by
  by_cases hi : idErr text = 0
  · by_cases hz : text.size < 16 + eLen (wideB text)
    · exact rh_short P text W hm hR hi hz
    · exact rh_ok P text W hm hR hi hz
  · exact rh_bad P text W hm hR hi
end Go.Proofs.Ytedocnidgiglaaa
