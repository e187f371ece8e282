/- What Parse answers, in one form. Conditions: those written in each theorem. -/
import Derived.Test.YtedocnidgiglaaaNX
namespace Go.Proofs.Ytedocnidgiglaaa
open Go.RowKit
set_option linter.unusedVariables false
/-- What Parse answers of a text: the file and the error. -/
def FileIs (ones : Nat → Nat) (s : ByteArray) (w : World) (v : Value) (k : Int) (w' : World) : Prop :=
  (parseErr ones s ≠ 0 ∧ k = (parseErr ones s : Nat) ∧ v = .agg #[.bool false, .bool false, .int .u8 0, .int .u8 0, .string ⟨#[]⟩, .int .u64 0, .int .u64 0, .int .u64 0, .int .u64 0, .int .u64 0, .int .u64 0, .int .u64 0, .int .u64 0, .int .u64 0, .int .u64 0, .int .u64 0, .int .u64 0, .int .u64 0, .slice none 0 0, .slice none 0 0, .int .u64 0]) ∨
  (parseErr ones s = 0 ∧ k = 0 ∧ ∃ A c b2, (0 < nSec s → ∃ b, w.heap.size ≤ b ∧ b < w'.heap.size ∧ A = some ⟨b, 0, none⟩ ∧ w'.heap[b]? = some (.cells (rowU64 (flatF 10 (fSec s) (nSec s))) 52 (0, 0))) ∧ w.heap.size ≤ b2 ∧ b2 < w'.heap.size ∧ w'.heap[b2]? = some (.cells (rowU64 (flatF 8 (fSeg s) (nSeg s))) 72 (0, 0)) ∧
      v = .agg #[.bool (bigB s), .bool (wideB s), .int .u8 (byteN s 7 : Nat), .int .u8 (byteN s 8 : Nat), .string (s.extract 9 16), .int .u64 (hdN s 0 : Nat), .int .u64 (hdN s 1 : Nat), .int .u64 (hdN s 2 : Nat), .int .u64 (hdN s 3 : Nat), .int .u64 (hdN s 4 : Nat), .int .u64 (hdN s 5 : Nat), .int .u64 (hdN s 6 : Nat), .int .u64 (hdN s 7 : Nat), .int .u64 (hdN s 8 : Nat), .int .u64 (hdN s 9 : Nat), .int .u64 (hdN s 10 : Nat), .int .u64 (hdN s 11 : Nat), .int .u64 (hdN s 12 : Nat), .slice A (nSec s) c, .slice (some ⟨b2, 0, none⟩) (nSeg s) (nSeg s), .int .u64 (nameS s : Nat)])
theorem FileIs.form {ones : Nat → Nat} {s : ByteArray} {w w' : World} {v : Value} {k : Int} (h : FileIs ones s w v k w') : ∃ (big wide : Bool) (abi ver : Nat) (pad : ByteArray) (h0 h1 h2 h3 h4 h5 h6 h7 h8 h9 h10 h11 h12 : Nat) (As : Option Addr) (ns cs : Nat) (Ap : Option Addr) (np cp : Nat) (nm : Nat), v = .agg #[.bool big, .bool wide, .int .u8 (abi : Nat), .int .u8 (ver : Nat), .string pad, .int .u64 (h0 : Nat), .int .u64 (h1 : Nat), .int .u64 (h2 : Nat), .int .u64 (h3 : Nat), .int .u64 (h4 : Nat), .int .u64 (h5 : Nat), .int .u64 (h6 : Nat), .int .u64 (h7 : Nat), .int .u64 (h8 : Nat), .int .u64 (h9 : Nat), .int .u64 (h10 : Nat), .int .u64 (h11 : Nat), .int .u64 (h12 : Nat), .slice As ns cs, .slice Ap np cp, .int .u64 (nm : Nat)] := by
  rcases h with ⟨_, _, rfl⟩ | ⟨_, _, A, c, b2, _, _, _, _, rfl⟩
  · exact ⟨false, false, 0, 0, ⟨#[]⟩, 0, 0, 0, 0, 0, 0, 0, 0, 0, 0, 0, 0, 0, none, 0, 0, none, 0, 0, 0, rfl⟩
  · exact ⟨_, _, _, _, _, _, _, _, _, _, _, _, _, _, _, _, _, _, _, _, _, _, _, _, _, rfl⟩
theorem FileIs.stay {ones : Nat → Nat} {s : ByteArray} {w w1 w2 : World} {v : Value} {k : Int} (h : FileIs ones s w v k w1) (hb : ∀ b, w.heap.size ≤ b → b < w1.heap.size → w2.heap[b]? = w1.heap[b]?) : FileIs ones s w v k w2 := by
  rcases h with h | ⟨h0, hk, A, c, b2, hA, h1, h2, h3, hv⟩
  · exact .inl h
  · refine .inr ⟨h0, hk, A, c, b2, fun hp => ?_, h1, ?_, by rw [hb b2 h1 h2]; exact h3, hv⟩
    · obtain ⟨b, e1, e2, e3, e4⟩ := hA hp
      have e5 : w2.heap[b]? = some (.cells (rowU64 (flatF 10 (fSec s) (nSec s))) 52 (0, 0)) := by rw [hb b e1 e2]; exact e4
      exact ⟨b, e1, heap_lt e5, e3, e5⟩
    · exact heap_lt (show w2.heap[b2]? = some _ by rw [hb b2 h1 h2]; exact h3)
theorem FileIs.base {ones : Nat → Nat} {s : ByteArray} {w w0 w1 : World} {v : Value} {k : Int} (h : FileIs ones s w v k w1) (hb : w0.heap.size ≤ w.heap.size) : FileIs ones s w0 v k w1 := by
  rcases h with h | ⟨h0, hk, A, c, b2, hA, h1, h2, h3, hv⟩
  · exact .inl h
  · refine .inr ⟨h0, hk, A, c, b2, fun hp => ?_, Nat.le_trans hb h1, h2, h3, hv⟩
    obtain ⟨b, e1, e2, e3, e4⟩ := hA hp
    exact ⟨b, Nat.le_trans hb e1, e2, e3, e4⟩
theorem parse_is (ones : Nat → Nat) (HON : Hid (∀ x, x < 18446744073709551616 → ∀ u, Calls Try.prog 96 #[.int .u64 (x : Nat)] u fun e w' => e = .returned (.int .i64 (ones x : Nat)) ∧ u = w')) (s : ByteArray) (hmax : s.size ≤ 9223372036854775807) (w : World) :
    Calls Try.prog 16 #[.string s] w fun e w' => (∃ v k, FileIs ones s w v k w' ∧ e = .returned (.tuple #[v, .int .i64 k])) ∧ Below w.heap.size w w' := by
  refine (parse_any ones HON s hmax w).mono ?_
  rintro e w' ⟨h, hB⟩
  refine ⟨?_, hB⟩
  rcases h with ⟨h0, rfl⟩ | ⟨h0, A, c, b2, hA, h1, h3, rfl⟩
  · exact ⟨_, _, .inl ⟨h0, rfl, rfl⟩, rfl⟩
  · refine ⟨_, _, .inr ⟨h0, rfl, A, c, b2, fun hp => ?_, h1, heap_lt h3, h3, rfl⟩, rfl⟩
    obtain ⟨b, e1, e2, e3⟩ := hA hp
    exact ⟨b, e1, heap_lt e3, e2, e3⟩
end Go.Proofs.Ytedocnidgiglaaa
