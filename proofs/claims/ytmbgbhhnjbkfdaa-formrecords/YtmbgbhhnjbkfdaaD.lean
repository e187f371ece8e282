/- The contract of graverlaw04's speaks, and the walk of FormReads. Conditions: those written in each theorem. -/
import Derived.Test.YtmbgbhhnjbkfdaaB
namespace Go.Proofs.Ytmbgbhhnjbkfdaa
open Go.RowKit
theorem word_any (big wide : Bool) (w : World) :
    Calls Try.prog 26 #[.agg #[.bool big, .bool wide]] w fun e w' => e = .returned (.int .i64 (if wide then 8 else 4)) ∧ w' = w.alloc (.cells #[.bool big, .bool wide] 45) := by
  cases wide
  all_goals
    go_enter Try.func26, Try.ntmps26
    go_wp2
    go_ret
    exact ⟨rfl, rfl⟩
theorem put_1_2 (w : World) : Calls Try.prog 36 #[.agg #[.bool false], .int .u64 1, .int .i64 2] w fun e w' => e = .returned (.string ⟨#[1, 0]⟩) ∧ Below w.heap.size w w' :=
  put_any false 1 2 w (by decide)
def wideIdent : ByteArray := ⟨#[127, 69, 76, 70, 2, 1, 1, 3, 0, 97, 98, 99, 100, 101, 102, 103, 32, 109, 111, 114, 101]⟩
theorem read_wide (w : World) : Calls Try.prog 20 #[.string ⟨#[127, 69, 76, 70, 2, 1, 1, 3, 0, 97, 98, 99, 100, 101, 102, 103, 32, 109, 111, 114, 101]⟩] w fun e w' => e = .returned (.tuple #[.agg #[.bool false, .bool true, .int .u8 3, .int .u8 0, .string ⟨#[97, 98, 99, 100, 101, 102, 103]⟩], .int .i64 0]) ∧ Below w.heap.size w w' :=
  read_ok wideIdent w (by decide) (by decide) (by decide +kernel) (by decide) (by decide) (by decide)
set_option maxRecDepth 100000 in
set_option maxHeartbeats 1000000 in
theorem speaks4 (w : World) : Calls Try.prog 19 #[] w fun e w' => e = .returned (.bool true) ∧ Below w.heap.size w w' := by
  go_enter Try.func19, Try.ntmps19
  go_wp2_with (first
    | (go_at_call 20; refine (read_wide _).mono ?_; rintro e w1 ⟨rfl, h1⟩)
    | (go_at_call 26; refine (word_any false true _).mono ?_; rintro e w2 ⟨rfl, rfl⟩)
    | (go_at_call 36; refine (put_1_2 _).mono ?_; rintro e w3 ⟨rfl, h3⟩))
  go_ret
  exact ⟨rfl, ((h1.alloc h1.size _).alloc (by have := h1.size; simp; omega) _).trans (h3.mono (by have := h1.size; simp; omega))⟩
set_option maxRecDepth 100000 in
set_option maxHeartbeats 1000000 in
theorem formReads_short (s : ByteArray) (w : World) (h : s.size < 16) : Calls Try.prog 7 #[.string s] w fun e w' => e = .returned (.bool true) ∧ Below w.heap.size w w' := by
  have hi : (s.size : Int) < 16 := by omega
  go_enter Try.func7, Try.ntmps7
  go_wp2_with (first
    | (go_at_call 19; refine (speaks4 _).mono ?_; rintro e w1 ⟨rfl, h1⟩)
    | (go_at_call 20; refine (read_short _ _ h).mono ?_; rintro e w2 ⟨rfl, h2⟩; unfold noIdent)
    | (go_at_call 21; refine (why_short _ _ h).mono ?_; rintro e w3 ⟨rfl, rfl⟩))
  go_ret
  have h12 := h1.trans (h2.mono h1.size)
  exact ⟨rfl, h12.alloc h12.size _⟩
set_option maxRecDepth 100000 in
set_option maxHeartbeats 1000000 in
theorem formReads_magic_a (s : ByteArray) (w : World) (hl : s.size ≤ 30) (h : 16 ≤ s.size) (hm : s.size ≤ maxLen) (hb : isMagic s = false) : Calls Try.prog 7 #[.string s] w fun e w' => e = .returned (.bool true) ∧ Below w.heap.size w w' := by
  have hi : (s.size : Int) ≤ 30 := by omega
  go_enter Try.func7, Try.ntmps7
  go_wp2_with fail
  refine (speaks4 _).mono ?_
  rintro e w1 ⟨rfl, h1⟩
  go_wp2_with fail
  refine (read_magic s _ h hm hb).mono ?_
  rintro e w2 ⟨rfl, h2⟩
  unfold noIdent
  go_wp2_with fail
  refine (why_magic s _ h hb).mono ?_
  rintro e w3 ⟨rfl, rfl⟩
  go_wp2
  go_ret
  have h12 := h1.trans (h2.mono h1.size)
  exact ⟨rfl, h12.alloc h12.size _⟩
set_option maxRecDepth 100000 in
set_option maxHeartbeats 1000000 in
theorem formReads_magic_b (s : ByteArray) (w : World) (hl : 30 < s.size) (t : ByteArray) (ht : s.extract 0 30 = t) (h : 16 ≤ t.size) (hm : t.size ≤ maxLen) (hb : isMagic t = false) : Calls Try.prog 7 #[.string s] w fun e w' => e = .returned (.bool true) ∧ Below w.heap.size w w' := by
  have hi : (30 : Int) < (s.size : Int) := by omega
  have HT := Lib.hid ht; clear ht
  go_enter Try.func7, Try.ntmps7
  go_wp2_with fail
  refine (speaks4 _).mono ?_
  rintro e w1 ⟨rfl, h1⟩
  go_wp2_with fail
  rw [HT.out]
  refine (read_magic t _ h hm hb).mono ?_
  rintro e w2 ⟨rfl, h2⟩
  unfold noIdent
  go_wp2_with fail
  refine (why_magic t _ h hb).mono ?_
  rintro e w3 ⟨rfl, rfl⟩
  go_wp2
  go_ret
  have h12 := h1.trans (h2.mono h1.size)
  exact ⟨rfl, h12.alloc h12.size _⟩
set_option maxRecDepth 100000 in
set_option maxHeartbeats 1000000 in
theorem formReads_class_a (s : ByteArray) (w : World) (hl : s.size ≤ 30) (h : 16 ≤ s.size) (hm : s.size ≤ maxLen) (hb : isMagic s = true) (h4 : ((s[4].toNat : Int) != 1) = true) (h4' : ((s[4].toNat : Int) != 2) = true) : Calls Try.prog 7 #[.string s] w fun e w' => e = .returned (.bool true) ∧ Below w.heap.size w w' := by
  have hi : (s.size : Int) ≤ 30 := by omega
  go_enter Try.func7, Try.ntmps7
  go_wp2_with fail
  refine (speaks4 _).mono ?_
  rintro e w1 ⟨rfl, h1⟩
  go_wp2_with fail
  refine (read_class s _ h hm hb h4 h4').mono ?_
  rintro e w2 ⟨rfl, h2⟩
  unfold noIdent
  go_wp2_with fail
  refine (why_class s _ h hb h4 h4').mono ?_
  rintro e w3 ⟨rfl, rfl⟩
  go_wp2
  go_ret
  have h12 := h1.trans (h2.mono h1.size)
  exact ⟨rfl, h12.alloc h12.size _⟩
set_option maxRecDepth 100000 in
set_option maxHeartbeats 1000000 in
theorem formReads_class_b (s : ByteArray) (w : World) (hl : 30 < s.size) (t : ByteArray) (ht : s.extract 0 30 = t) (h : 16 ≤ t.size) (hm : t.size ≤ maxLen) (hb : isMagic t = true) (h4 : ((t[4].toNat : Int) != 1) = true) (h4' : ((t[4].toNat : Int) != 2) = true) : Calls Try.prog 7 #[.string s] w fun e w' => e = .returned (.bool true) ∧ Below w.heap.size w w' := by
  have hi : (30 : Int) < (s.size : Int) := by omega
  have HT := Lib.hid ht; clear ht
  go_enter Try.func7, Try.ntmps7
  go_wp2_with fail
  refine (speaks4 _).mono ?_
  rintro e w1 ⟨rfl, h1⟩
  go_wp2_with fail
  rw [HT.out]
  refine (read_class t _ h hm hb h4 h4').mono ?_
  rintro e w2 ⟨rfl, h2⟩
  unfold noIdent
  go_wp2_with fail
  refine (why_class t _ h hb h4 h4').mono ?_
  rintro e w3 ⟨rfl, rfl⟩
  go_wp2
  go_ret
  have h12 := h1.trans (h2.mono h1.size)
  exact ⟨rfl, h12.alloc h12.size _⟩
set_option maxRecDepth 100000 in
set_option maxHeartbeats 1000000 in
theorem formReads_data_a (s : ByteArray) (w : World) (hl : s.size ≤ 30) (h : 16 ≤ s.size) (hm : s.size ≤ maxLen) (hb : isMagic s = true) (h4 : s[4].toNat = 1 ∨ s[4].toNat = 2) (h5 : ((s[5].toNat : Int) != 1) = true) (h5' : ((s[5].toNat : Int) != 2) = true) : Calls Try.prog 7 #[.string s] w fun e w' => e = .returned (.bool true) ∧ Below w.heap.size w w' := by
  have hi : (s.size : Int) ≤ 30 := by omega
  have H4 := Lib.hid h4; clear h4
  go_enter Try.func7, Try.ntmps7
  go_wp2_with fail
  refine (speaks4 _).mono ?_
  rintro e w1 ⟨rfl, h1⟩
  go_wp2_with fail
  refine (read_data s _ h hm hb H4.out h5 h5').mono ?_
  rintro e w2 ⟨rfl, h2⟩
  unfold noIdent
  go_wp2_with fail
  refine (why_data s _ h hb H4.out h5 h5').mono ?_
  rintro e w3 ⟨rfl, rfl⟩
  go_wp2
  go_ret
  have h12 := h1.trans (h2.mono h1.size)
  exact ⟨rfl, h12.alloc h12.size _⟩
set_option maxRecDepth 100000 in
set_option maxHeartbeats 1000000 in
theorem formReads_data_b (s : ByteArray) (w : World) (hl : 30 < s.size) (t : ByteArray) (ht : s.extract 0 30 = t) (h : 16 ≤ t.size) (hm : t.size ≤ maxLen) (hb : isMagic t = true) (h4 : t[4].toNat = 1 ∨ t[4].toNat = 2) (h5 : ((t[5].toNat : Int) != 1) = true) (h5' : ((t[5].toNat : Int) != 2) = true) : Calls Try.prog 7 #[.string s] w fun e w' => e = .returned (.bool true) ∧ Below w.heap.size w w' := by
  have hi : (30 : Int) < (s.size : Int) := by omega
  have HT := Lib.hid ht; clear ht
  have H4 := Lib.hid h4; clear h4
  go_enter Try.func7, Try.ntmps7
  go_wp2_with fail
  refine (speaks4 _).mono ?_
  rintro e w1 ⟨rfl, h1⟩
  go_wp2_with fail
  rw [HT.out]
  refine (read_data t _ h hm hb H4.out h5 h5').mono ?_
  rintro e w2 ⟨rfl, h2⟩
  unfold noIdent
  go_wp2_with fail
  refine (why_data t _ h hb H4.out h5 h5').mono ?_
  rintro e w3 ⟨rfl, rfl⟩
  go_wp2
  go_ret
  have h12 := h1.trans (h2.mono h1.size)
  exact ⟨rfl, h12.alloc h12.size _⟩
set_option maxRecDepth 100000 in
set_option maxHeartbeats 1000000 in
theorem formReads_version_a (s : ByteArray) (w : World) (hl : s.size ≤ 30) (h : 16 ≤ s.size) (hm : s.size ≤ maxLen) (hb : isMagic s = true) (h4 : s[4].toNat = 1 ∨ s[4].toNat = 2) (h5 : s[5].toNat = 1 ∨ s[5].toNat = 2) (h6 : ((s[6].toNat : Int) != 1) = true) : Calls Try.prog 7 #[.string s] w fun e w' => e = .returned (.bool true) ∧ Below w.heap.size w w' := by
  have hi : (s.size : Int) ≤ 30 := by omega
  have H4 := Lib.hid h4; clear h4
  have H5 := Lib.hid h5; clear h5
  go_enter Try.func7, Try.ntmps7
  go_wp2_with fail
  refine (speaks4 _).mono ?_
  rintro e w1 ⟨rfl, h1⟩
  go_wp2_with fail
  refine (read_version s _ h hm hb H4.out H5.out h6).mono ?_
  rintro e w2 ⟨rfl, h2⟩
  unfold noIdent
  go_wp2_with fail
  refine (why_rest s _ h hb H4.out H5.out true h6).mono ?_
  rintro e w3 ⟨rfl, rfl⟩
  go_wp2
  go_ret
  have h12 := h1.trans (h2.mono h1.size)
  exact ⟨rfl, h12.alloc h12.size _⟩
set_option maxRecDepth 100000 in
set_option maxHeartbeats 1000000 in
theorem formReads_version_b (s : ByteArray) (w : World) (hl : 30 < s.size) (t : ByteArray) (ht : s.extract 0 30 = t) (h : 16 ≤ t.size) (hm : t.size ≤ maxLen) (hb : isMagic t = true) (h4 : t[4].toNat = 1 ∨ t[4].toNat = 2) (h5 : t[5].toNat = 1 ∨ t[5].toNat = 2) (h6 : ((t[6].toNat : Int) != 1) = true) : Calls Try.prog 7 #[.string s] w fun e w' => e = .returned (.bool true) ∧ Below w.heap.size w w' := by
  have hi : (30 : Int) < (s.size : Int) := by omega
  have HT := Lib.hid ht; clear ht
  have H4 := Lib.hid h4; clear h4
  have H5 := Lib.hid h5; clear h5
  go_enter Try.func7, Try.ntmps7
  go_wp2_with fail
  refine (speaks4 _).mono ?_
  rintro e w1 ⟨rfl, h1⟩
  go_wp2_with fail
  rw [HT.out]
  refine (read_version t _ h hm hb H4.out H5.out h6).mono ?_
  rintro e w2 ⟨rfl, h2⟩
  unfold noIdent
  go_wp2_with fail
  refine (why_rest t _ h hb H4.out H5.out true h6).mono ?_
  rintro e w3 ⟨rfl, rfl⟩
  go_wp2
  go_ret
  have h12 := h1.trans (h2.mono h1.size)
  exact ⟨rfl, h12.alloc h12.size _⟩
end Go.Proofs.Ytmbgbhhnjbkfdaa
