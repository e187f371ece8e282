/- The contract of raw's readSections. Conditions: those written in each theorem. -/
import Derived.Test.YtedocnidgiglaaaNN
import Derived.Test.YtedocnidgiglaaaNO
import Derived.Test.YtedocnidgiglaaaNK
import Derived.Test.YtedocnidgiglaaaJB
namespace Go.Proofs.Ytedocnidgiglaaa
open Go.RowKit
set_option linter.unusedVariables false
theorem nosec_any (P : Nat) (big wide : Bool) (abi ver : Nat) (pad : ByteArray) (h0 h1 h2 h3 h4 h5 h6 h7 h8 h9 h10 h11 h12 : Nat) (vs vp : Value) (nm : Nat) (text : ByteArray) (w : World) (hR : w.heap[P]? = some (.cells #[.bool big, .bool wide, .int .u8 (abi : Nat), .int .u8 (ver : Nat), .string pad, .int .u64 (h0 : Nat), .int .u64 (h1 : Nat), .int .u64 (h2 : Nat), .int .u64 (h3 : Nat), .int .u64 (h4 : Nat), .int .u64 (h5 : Nat), .int .u64 (h6 : Nat), .int .u64 (h7 : Nat), .int .u64 (h8 : Nat), .int .u64 (h9 : Nat), .int .u64 (h10 : Nat), .int .u64 (h11 : Nat), .int .u64 (h12 : Nat), vs, vp, .int .u64 (nm : Nat), .string text] 138 (0, 0))) :
    Calls Try.prog 91 #[.pointer (some ⟨P, 0, none⟩)] w fun e w' => e = .returned (.int .i64 ((if h11 ≠ 0 then 10 else if h12 ≠ 0 then 11 else 0 : Nat) : Int)) ∧ w = w' := by
  have c16 : w.cell? ⟨P, 16, none⟩ = some (.int .u64 (h11 : Nat)) := by rw [Lib.cell_of_heap hR]; rfl
  have c17 : w.cell? ⟨P, 17, none⟩ = some (.int .u64 (h12 : Nat)) := by rw [Lib.cell_of_heap hR]; rfl
  clear hR
  by_cases h1 : h11 = 0
  · subst h1
    rw [if_neg (by simp)]
    by_cases h2 : h12 = 0
    · subst h2
      rw [if_neg (by simp)]
      go_enter Try.func91, Try.ntmps91
      go_wp2
      go_ret
      exact ⟨rfl, rfl⟩
    · rw [if_pos h2]
      have k : ((h12 : Int) != 0) = true := by simp; omega
      clear h2
      go_enter Try.func91, Try.ntmps91
      go_wp2
      go_ret
      exact ⟨rfl, rfl⟩
  · rw [if_pos h1]
    have k : ((h11 : Int) != 0) = true := by simp; omega
    clear h1
    go_enter Try.func91, Try.ntmps91
    go_wp2
    go_ret
    exact ⟨rfl, rfl⟩
/-- How many sections, which one has the names, and why there are none. -/
def secNum (big wide : Bool) (s : ByteArray) (off num : Nat) : Nat := if off = 0 then 0 else if num = 0 then secF big wide s off 0 5 else num
def secNam (big wide : Bool) (s : ByteArray) (off str : Nat) : Nat := if off = 0 then 0 else if str = 65535 then secF big wide s off 0 6 else str
def secErr (big wide : Bool) (s : ByteArray) (off num str : Nat) : Nat :=
  if off = 0 then (if num ≠ 0 then 10 else if str ≠ 0 then 11 else 0)
  else if ¬ off + 1 * sLen wide ≤ s.size then 9
  else if secNum big wide s off num = 0 ∨ 4096 < secNum big wide s off num then 10
  else if ¬ off + secNum big wide s off num * sLen wide ≤ s.size then 9
  else if secF big wide s off 0 1 ≠ 0 then 27
  else if secNum big wide s off num ≤ secNam big wide s off str then 11 else 0
/-- A row of records that a call has made, or none. -/
def RecsIs (m ety : Nat) (f : Nat → Nat → Nat) (n : Nat) (W : World) (v : Value) (w' : World) : Prop := (n = 0 ∧ v = .slice none 0 0) ∨ (0 < n ∧ ∃ b, W.heap.size ≤ b ∧ v = .slice (some ⟨b, 0, none⟩) n n ∧ w'.heap[b]? = some (.cells (rowU64 (flatF m f n)) ety (0, 0)))
def SecPost (P : Nat) (big wide : Bool) (abi ver : Nat) (pad : ByteArray) (h0 h1 h2 h3 h4 h5 h6 h7 h8 h9 h10 h11 h12 : Nat) (text : ByteArray) (W : World) (e : Ending) (w' : World) : Prop :=
  (secErr big wide text h5 h11 h12 ≠ 0 ∧ e = .returned (.int .i64 (secErr big wide text h5 h11 h12 : Nat)) ∨
    secErr big wide text h5 h11 h12 = 0 ∧ e = .returned (.int .i64 0) ∧ ∃ A l c, RecsIs 10 52 (secF big wide text h5) (secNum big wide text h5 h11) W (.slice A l c) w' ∧
      w'.heap[P]? = some (.cells #[.bool big, .bool wide, .int .u8 (abi : Nat), .int .u8 (ver : Nat), .string pad, .int .u64 (h0 : Nat), .int .u64 (h1 : Nat), .int .u64 (h2 : Nat), .int .u64 (h3 : Nat), .int .u64 (h4 : Nat), .int .u64 (h5 : Nat), .int .u64 (h6 : Nat), .int .u64 (h7 : Nat), .int .u64 (h8 : Nat), .int .u64 (h9 : Nat), .int .u64 (h10 : Nat), .int .u64 (h11 : Nat), .int .u64 (h12 : Nat), .slice A l c, .slice none 0 0, .int .u64 (secNam big wide text h5 h12 : Nat), .string text] 138 (0, 0))) ∧ OnlyAt P W w'
theorem post_err {P : Nat} {big wide : Bool} {abi ver : Nat} {pad : ByteArray} {h0 h1 h2 h3 h4 h5 h6 h7 h8 h9 h10 h11 h12 : Nat} {text : ByteArray} {W w' : World} {k : Nat} (h : secErr big wide text h5 h11 h12 = k) (hk : k ≠ 0) (ho : OnlyAt P W w') : SecPost P big wide abi ver pad h0 h1 h2 h3 h4 h5 h6 h7 h8 h9 h10 h11 h12 text W (.returned (.int .i64 (k : Nat))) w' :=
  ⟨.inl ⟨by rw [h]; exact hk, by rw [h]⟩, ho⟩
theorem rowU_at {w : World} {b m n i j : Nat} {f : Nat → Nat → Nat} {t : TypeId} (h : w.heap[b]? = some (.cells (rowU64 (flatF m f n)) t (0, 0))) (hi : i < n) (hj : j < m) : w.cell? ⟨b, i * m + j, none⟩ = some (.int .u64 (f i j : Nat)) := by
  rw [Lib.cell_of_heap h]
  have := flatF_at m f n i j hi hj
  simp [rowU64, this]
theorem rowU_first {w : World} {b m n : Nat} {f : Nat → Nat → Nat} {t : TypeId} (h : w.heap[b]? = some (.cells (rowU64 (flatF m f n)) t (0, 0))) (j : Nat) (hi : 0 < n) (hj : j < m) : w.cell? ⟨b, j, none⟩ = some (.int .u64 (f 0 j : Nat)) := by
  have := rowU_at h hi hj
  rwa [Nat.zero_mul, Nat.zero_add] at this
set_option maxRecDepth 100000 in
set_option maxHeartbeats 4000000 in
theorem readSections_any (P : Nat) (big wide : Bool) (abi ver : Nat) (pad : ByteArray) (h0 h1 h2 h3 h4 h5 h6 h7 h8 h9 h10 h11 h12 : Nat) (text : ByteArray) (W : World) (hm : text.size ≤ 1048576) (h64 : h5 < 18446744073709551616) (h64' : h11 < 18446744073709551616) (hR : W.heap[P]? = some (.cells #[.bool big, .bool wide, .int .u8 (abi : Nat), .int .u8 (ver : Nat), .string pad, .int .u64 (h0 : Nat), .int .u64 (h1 : Nat), .int .u64 (h2 : Nat), .int .u64 (h3 : Nat), .int .u64 (h4 : Nat), .int .u64 (h5 : Nat), .int .u64 (h6 : Nat), .int .u64 (h7 : Nat), .int .u64 (h8 : Nat), .int .u64 (h9 : Nat), .int .u64 (h10 : Nat), .int .u64 (h11 : Nat), .int .u64 (h12 : Nat), .slice none 0 0, .slice none 0 0, .int .u64 (0 : Nat), .string text] 138 (0, 0))) :
    Calls Try.prog 52 #[.pointer (some ⟨P, 0, none⟩)] W (SecPost P big wide abi ver pad h0 h1 h2 h3 h4 h5 h6 h7 h8 h9 h10 h11 h12 text W) := by
  have c10 : W.cell? ⟨P, 10, none⟩ = some (.int .u64 (h5 : Nat)) := by rw [Lib.cell_of_heap hR]; rfl
  have HR := Lib.hid hR; have hPW := heap_lt hR; clear hR
  by_cases hoff : h5 = 0
  · have k0 : ((h5 : Int) == 0) = true := by simp; omega
    have HN := Lib.hid (nosec_any P big wide abi ver pad h0 h1 h2 h3 h4 h5 h6 h7 h8 h9 h10 h11 h12 (.slice none 0 0) (.slice none 0 0) 0 text W HR.out)
    have e1 : secErr big wide text h5 h11 h12 = (if h11 ≠ 0 then 10 else if h12 ≠ 0 then 11 else 0 : Nat) := by unfold secErr; rw [if_pos hoff]
    have HFIN : Hid (SecPost P big wide abi ver pad h0 h1 h2 h3 h4 h5 h6 h7 h8 h9 h10 h11 h12 text W (.returned (.int .i64 ((if h11 ≠ 0 then 10 else if h12 ≠ 0 then 11 else 0 : Nat) : Int))) W) := Lib.hid (by
      by_cases hz : (if h11 ≠ 0 then 10 else if h12 ≠ 0 then 11 else 0 : Nat) = 0
      · have en : secNam big wide text h5 h12 = 0 := by unfold secNam; rw [if_pos hoff]
        refine ⟨.inr ⟨by rw [e1]; exact hz, by rw [hz]; rfl, none, 0, 0, .inl ⟨by unfold secNum; rw [if_pos hoff], rfl⟩, ?_⟩, OnlyAt.refl _ _⟩
        rw [en]; exact HR.out
      · exact post_err e1 hz (OnlyAt.refl _ _))
    clear e1 hoff
    generalize (if h11 ≠ 0 then 10 else if h12 ≠ 0 then 11 else 0 : Nat) = k at *
    go_enter Try.func52, Try.ntmps52
    go_wp2_with fail
    refine HN.out.mono ?_
    rintro e w2 ⟨rfl, rfl⟩
    go_wp2
    go_ret
    exact HFIN.out
  · have k0 : ((h5 : Int) == 0) = false := by simp; omega
    by_cases hf1 : h5 + 1 * sLen wide ≤ text.size
    case neg =>
      have HC : Hid (∀ u, Calls Try.prog 92 #[.agg #[.bool big, .bool wide], .string text, .agg #[.int .u64 (h5 : Nat), .int .u64 ((1 : Nat) : Int), .int .u64 (sLen wide : Nat)], .func (.func 93) #[] #[]] u fun e w' => (∃ v, e = .returned (.tuple #[v, .bool false]) ∧ True) ∧ Below u.heap.size u w') := Lib.hid (fun u => (srecs_no big wide text h5 1 hm h64 (by decide) (by decide) hf1 u).mono fun e w' h => ⟨⟨_, h.1, trivial⟩, h.2⟩)
      have HE := Lib.hid (show secErr big wide text h5 h11 h12 = 9 by unfold secErr; rw [if_neg hoff, if_pos hf1])
      clear hoff hf1
      go_enter Try.func52, Try.ntmps52
      go_upto_region 3 with (fail)
      refine sreg3 _ _ _ _ _ _ _ _ _ _ _ _ _ _ _ _ _ _ _ _ _ _ _ _ _ _ _ _ _ _ _ _ _ _ _ _ _ _ _ _ _ _ _ _ _ _ _ _ _ _ _ _ _ _ _ _ _ _ _ _ _ _ _ _ _ _ _ _ _ _ _ _ _ _ _ _ _ _ _ _ _ _ _ _ _ _ _ _ _ _ _ _ _ _ _ _ _ _ _ _ _ _ _ _ _ _ _ _ _ _ _ _ _ _ _ _ P big wide abi ver pad h0 h1 h2 h3 h4 h5 h6 h7 h8 h9 h10 h11 h12 (.slice none 0 0) (.slice none 0 0) 0 text false (fun _ _ _ => True) W HR.out HC (fun _ _ _ _ _ => trivial) (fun _ _ _ _ _ h => h) (fun u15 u16 u17 u18 u19 u20 u21 u22 u23 u24 u25 u26 u27 u28 u29 u30 u31 u32 u33 yv w5 _ b5 => ?_)
      have HB5 := Lib.hid b5; clear b5
      go_wp2
      go_ret
      exact post_err HE.out (by decide) (OnlyAt.of_below HB5.out)
    case pos =>
      have HC : Hid (∀ u, Calls Try.prog 92 #[.agg #[.bool big, .bool wide], .string text, .agg #[.int .u64 (h5 : Nat), .int .u64 ((1 : Nat) : Int), .int .u64 (sLen wide : Nat)], .func (.func 93) #[] #[]] u fun e w' => (∃ v, e = .returned (.tuple #[v, .bool true]) ∧ ∃ b, u.heap.size ≤ b ∧ v = .slice (some ⟨b, 0, none⟩) 1 1 ∧ w'.heap[b]? = some (.cells (rowU64 (flatF 10 (secF big wide text h5) 1)) 52 (0, 0))) ∧ Below u.heap.size u w') := Lib.hid (fun u => (srecs_yes big wide text h5 1 hm (by decide) hf1 u).mono fun e w' ⟨b, ⟨q1, q2, q3⟩, q4⟩ => ⟨⟨_, q2, b, q1, rfl, q3⟩, q4⟩)
      have HOFF := Lib.hid hoff; have HF1 := Lib.hid hf1; clear hoff hf1
      go_enter Try.func52, Try.ntmps52
      go_upto_region 3 with (fail)
      refine sreg3 _ _ _ _ _ _ _ _ _ _ _ _ _ _ _ _ _ _ _ _ _ _ _ _ _ _ _ _ _ _ _ _ _ _ _ _ _ _ _ _ _ _ _ _ _ _ _ _ _ _ _ _ _ _ _ _ _ _ _ _ _ _ _ _ _ _ _ _ _ _ _ _ _ _ _ _ _ _ _ _ _ _ _ _ _ _ _ _ _ _ _ _ _ _ _ _ _ _ _ _ _ _ _ _ _ _ _ _ _ _ _ _ _ _ _ _ P big wide abi ver pad h0 h1 h2 h3 h4 h5 h6 h7 h8 h9 h10 h11 h12 (.slice none 0 0) (.slice none 0 0) 0 text true (fun u v w' => ∃ b, u.heap.size ≤ b ∧ v = .slice (some ⟨b, 0, none⟩) 1 1 ∧ w'.heap[b]? = some (.cells (rowU64 (flatF 10 (secF big wide text h5) 1)) 52 (0, 0))) W HR.out HC (fun u v w' hu ⟨b, q1, q2⟩ => ⟨b, Nat.le_trans hu q1, q2⟩) (fun _ _ _ _ _ h => h) (fun u15 u16 u17 u18 u19 u20 u21 u22 u23 u24 u25 u26 u27 u28 u29 u30 u31 u32 u33 yv w5 pv b5 => ?_)
      obtain ⟨b1, hb1, rfl, hrow1⟩ := pv
      have HB5 := Lib.hid b5; have HR5 := Lib.hid (heap_low HR.out b5); have HW1 := Lib.hid hrow1
      have hbP : b1 ≠ P := by omega
      have g5 : w5.cell? ⟨b1, 5, none⟩ = some (.int .u64 (secF big wide text h5 0 5 : Nat)) := rowU_first hrow1 5 (by decide) (by decide)
      have c16 : w5.cell? ⟨P, 16, none⟩ = some (.int .u64 (h11 : Nat)) := by rw [Lib.cell_of_heap HR5.out]; rfl
      clear b5 hrow1 c10
      obtain ⟨n, hn⟩ : ∃ n, n = secNum big wide text h5 h11 := ⟨_, rfl⟩
      have HNN := Lib.hid hn
      go_upto_if 43 with (fail)
      go_cut [5] (fun v wr => v = .int .u64 (n : Nat) ∧ wr = w5)
      case first =>
        by_cases hz : h11 = 0
        · have k1 : ((h11 : Int) == 0) = true := by simp; omega
          have en : secF big wide text h5 0 5 = n := by rw [hn]; unfold secNum; rw [if_neg HOFF.out, if_pos hz]
          clear hn
          rw [en] at g5
          clear en
          go_wp2
          go_meet
          case rel => exact ⟨rfl, rfl⟩
        · have k1 : ((h11 : Int) == 0) = false := by simp; omega
          have en : h11 = n := by rw [hn]; unfold secNum; rw [if_neg HOFF.out, if_neg hz]
          clear hn
          subst en
          go_wp2
          go_meet
          case rel => exact ⟨rfl, rfl⟩
      case rest =>
        obtain ⟨rfl, rfl⟩ := hcut
        clear hn g5 c16
        have n64 : n < 18446744073709551616 := by
          rw [HNN.out]; unfold secNum
          split
          · decide
          · split
            · exact numAt_64 _ _ _ _ (by cases wide <;> decide)
            · exact h64'
        by_cases hn0 : n = 0
        case pos =>
          have HE := Lib.hid (show secErr big wide text h5 h11 h12 = 10 by unfold secErr; rw [if_neg HOFF.out, if_neg (by simpa using HF1.out), ← HNN.out, if_pos (.inl hn0)])
          have k1 : ((n : Int) == 0) = true := by simp; omega
          clear hn0
          go_wp2
          go_ret
          exact post_err HE.out (by decide) (OnlyAt.of_below HB5.out)
        case neg =>
          have k1 : ((n : Int) == 0) = false := by simp; omega
          by_cases hbig : 4096 < n
          case pos =>
            have HE := Lib.hid (show secErr big wide text h5 h11 h12 = 10 by unfold secErr; rw [if_neg HOFF.out, if_neg (by simpa using HF1.out), ← HNN.out, if_pos (.inr hbig)])
            have k2 : (4096 : Int) < (n : Int) := by omega
            clear hn0 hbig
            go_wp2
            go_ret
            exact post_err HE.out (by decide) (OnlyAt.of_below HB5.out)
          case neg =>
            have k2 : ¬ (4096 : Int) < (n : Int) := by omega
            have k3 : decide ((4096 : Int) < (n : Int)) = false := decide_eq_false k2
            have HBIG := Lib.hid (show ¬ (n = 0 ∨ 4096 < n) by omega)
            by_cases hf2 : h5 + n * sLen wide ≤ text.size
            case neg =>
              have HC2 : Hid (∀ u, Calls Try.prog 92 #[.agg #[.bool big, .bool wide], .string text, .agg #[.int .u64 (h5 : Nat), .int .u64 (n : Nat), .int .u64 (sLen wide : Nat)], .func (.func 93) #[] #[]] u fun e w' => (∃ A l1 l2, e = .returned (.tuple #[.slice A l1 l2, .bool false]) ∧ True) ∧ Below u.heap.size u w') := Lib.hid (fun u => (srecs_no big wide text h5 n hm h64 (by omega) (by omega) hf2 u).mono fun e w' h => ⟨⟨_, _, _, h.1, trivial⟩, h.2⟩)
              have HE := Lib.hid (show secErr big wide text h5 h11 h12 = 9 by unfold secErr; rw [if_neg HOFF.out, if_neg (by simpa using HF1.out), ← HNN.out, if_neg HBIG.out, if_pos hf2])
              clear hn0 hbig hf2
              go_upto_region 11 with (fail)
              refine sreg11 _ _ _ _ _ _ _ _ _ _ _ _ _ _ _ _ _ _ _ _ _ _ _ _ _ _ _ _ _ _ _ _ _ _ _ _ _ _ _ _ _ _ _ _ _ _ _ _ _ _ _ _ _ _ _ _ _ _ _ _ _ _ _ _ _ _ _ _ _ _ _ _ _ _ _ _ _ _ _ _ _ _ _ _ _ _ _ _ _ _ _ _ _ _ _ _ _ _ _ _ _ _ _ _ _ _ _ _ _ _ _ _ _ _ _ P n big wide abi ver pad h0 h1 h2 h3 h4 h5 h6 h7 h8 h9 h10 h11 h12 (.slice none 0 0) (.slice none 0 0) 0 text false (fun _ _ _ => True) _ HR5.out HC2 (fun _ _ _ _ _ _ _ => trivial) (fun _ _ _ _ _ h => h) (fun u54 u55 u56 u57 u58 u59 u60 u61 u62 u63 u64 u65 u66 u67 u68 u69 u70 u71 u72 u73 u74 u75 u76 u77 yA y1 y2 w6 _ _ b6 => ?_)
              have HB6 := Lib.hid ((OnlyAt.of_below (R := P) HB5.out).trans b6); clear b6
              go_wp2
              go_ret
              exact post_err HE.out (by decide) HB6.out
            case pos =>
              have HC2 : Hid (∀ u, Calls Try.prog 92 #[.agg #[.bool big, .bool wide], .string text, .agg #[.int .u64 (h5 : Nat), .int .u64 (n : Nat), .int .u64 (sLen wide : Nat)], .func (.func 93) #[] #[]] u fun e w' => (∃ A l1 l2, e = .returned (.tuple #[.slice A l1 l2, .bool true]) ∧ ∃ b, u.heap.size ≤ b ∧ Value.slice A l1 l2 = .slice (some ⟨b, 0, none⟩) n n ∧ w'.heap[b]? = some (.cells (rowU64 (flatF 10 (secF big wide text h5) n)) 52 (0, 0))) ∧ Below u.heap.size u w') := Lib.hid (fun u => (srecs_yes big wide text h5 n hm (by omega) hf2 u).mono fun e w' ⟨b, ⟨q1, q2, q3⟩, q4⟩ => ⟨⟨_, _, _, q2, b, q1, rfl, q3⟩, q4⟩)
              have HF2 := Lib.hid hf2
              have hn1 : 0 < n := by omega
              have hw5 := HB5.out.size
              clear hn0 hbig hf2
              go_upto_region 11 with (fail)
              refine sreg11 _ _ _ _ _ _ _ _ _ _ _ _ _ _ _ _ _ _ _ _ _ _ _ _ _ _ _ _ _ _ _ _ _ _ _ _ _ _ _ _ _ _ _ _ _ _ _ _ _ _ _ _ _ _ _ _ _ _ _ _ _ _ _ _ _ _ _ _ _ _ _ _ _ _ _ _ _ _ _ _ _ _ _ _ _ _ _ _ _ _ _ _ _ _ _ _ _ _ _ _ _ _ _ _ _ _ _ _ _ _ _ _ _ _ _ P n big wide abi ver pad h0 h1 h2 h3 h4 h5 h6 h7 h8 h9 h10 h11 h12 (.slice none 0 0) (.slice none 0 0) 0 text true (fun u v w' => ∃ b, u.heap.size ≤ b ∧ v = .slice (some ⟨b, 0, none⟩) n n ∧ w'.heap[b]? = some (.cells (rowU64 (flatF 10 (secF big wide text h5) n)) 52 (0, 0))) _ HR5.out HC2 (fun u v w' w2 hu ⟨b, q1, q2, q3⟩ ho => ⟨b, Nat.le_trans hu q1, q2, heap_only q3 ho (by omega)⟩) (fun _ _ _ _ _ h => h) (fun u54 u55 u56 u57 u58 u59 u60 u61 u62 u63 u64 u65 u66 u67 u68 u69 u70 u71 u72 u73 u74 u75 u76 u77 yA y1 y2 w6 pv hr6 b6 => ?_)
              obtain ⟨b2, hb2, hyv, hrow2⟩ := pv
              cases hyv
              have HO6 := Lib.hid ((OnlyAt.of_below (R := P) HB5.out).trans b6); have HW2 := Lib.hid hrow2; have HR6 := Lib.hid hr6
              have HW16 := Lib.hid (heap_only HW1.out b6 hbP)
              have hb2P : b2 ≠ P := by omega
              have hb2W : W.heap.size ≤ b2 := by omega
              clear b6 hrow2 hr6
              have g1 : w6.cell? ⟨b1, 1, none⟩ = some (.int .u64 (secF big wide text h5 0 1 : Nat)) := rowU_first HW16.out 1 (by decide) (by decide)
              by_cases ht : secF big wide text h5 0 1 = 0
              case neg =>
                have HE := Lib.hid (show secErr big wide text h5 h11 h12 = 27 by unfold secErr; rw [if_neg HOFF.out, if_neg (by simpa using HF1.out), ← HNN.out, if_neg HBIG.out, if_neg (by simpa using HF2.out), if_pos ht])
                have k4 : ((secF big wide text h5 0 1 : Int) != 0) = true := by simp; omega
                clear ht
                go_wp2
                go_ret
                exact post_err HE.out (by decide) HO6.out
              case pos =>
                have HT := Lib.hid ht
                rw [ht] at g1
                have c17 : w6.cell? ⟨P, 17, none⟩ = some (.int .u64 (h12 : Nat)) := by rw [Lib.cell_of_heap HR6.out]; rfl
                have c20 : w6.cell? ⟨P, 20, none⟩ = some (.int .u64 ((0 : Nat) : Int)) := by rw [Lib.cell_of_heap HR6.out]; rfl
                have f20 : w6.frozen? ⟨P, 20, none⟩ = false := Lib.frozen_of_heap HR6.out 20
                clear ht
                go_upto_region 17 with (fail)
                have hr7 : (w6.setCell ⟨P, 20, none⟩ (.int .u64 (h12 : Nat))).heap[P]? = some (.cells #[.bool big, .bool wide, .int .u8 (abi : Nat), .int .u8 (ver : Nat), .string pad, .int .u64 (h0 : Nat), .int .u64 (h1 : Nat), .int .u64 (h2 : Nat), .int .u64 (h3 : Nat), .int .u64 (h4 : Nat), .int .u64 (h5 : Nat), .int .u64 (h6 : Nat), .int .u64 (h7 : Nat), .int .u64 (h8 : Nat), .int .u64 (h9 : Nat), .int .u64 (h10 : Nat), .int .u64 (h11 : Nat), .int .u64 (h12 : Nat), .slice (some ⟨b2, 0, none⟩) n n, .slice none 0 0, .int .u64 (h12 : Nat), .string text] 138 (0, 0)) := by
                  have q := Lib.heap_setCell_same (i := 20) HR6.out (.int .u64 (h12 : Nat)); simpa using q
                have HO7 := Lib.hid (HO6.out.trans (OnlyAt.setCell P 20 w6 (.int .u64 (h12 : Nat))))
                have HW27 := Lib.hid (heap_only HW2.out (OnlyAt.setCell P 20 w6 (.int .u64 (h12 : Nat))) hb2P)
                have HW17 := Lib.hid (heap_only HW16.out (OnlyAt.setCell P 20 w6 (.int .u64 (h12 : Nat))) hbP)
                clear c17 c20 f20 g1
                generalize w6.setCell ⟨P, 20, none⟩ (.int .u64 (h12 : Nat)) = w7 at *
                have HR7 := Lib.hid hr7
                have c20 : w7.cell? ⟨P, 20, none⟩ = some (.int .u64 (h12 : Nat)) := by rw [Lib.cell_of_heap HR7.out]; rfl
                have f20 : w7.frozen? ⟨P, 20, none⟩ = false := Lib.frozen_of_heap HR7.out 20
                have g6 : w7.cell? ⟨b1, 6, none⟩ = some (.int .u64 (secF big wide text h5 0 6 : Nat)) := rowU_first HW17.out 6 (by decide) (by decide)
                clear hr7
                obtain ⟨q, hq⟩ : ∃ q, q = secNam big wide text h5 h12 := ⟨_, rfl⟩
                have HQN := Lib.hid hq
                go_upto_if 100 with (fail)
                go_cut [] (fun wr => wr.heap[P]? = some (.cells #[.bool big, .bool wide, .int .u8 (abi : Nat), .int .u8 (ver : Nat), .string pad, .int .u64 (h0 : Nat), .int .u64 (h1 : Nat), .int .u64 (h2 : Nat), .int .u64 (h3 : Nat), .int .u64 (h4 : Nat), .int .u64 (h5 : Nat), .int .u64 (h6 : Nat), .int .u64 (h7 : Nat), .int .u64 (h8 : Nat), .int .u64 (h9 : Nat), .int .u64 (h10 : Nat), .int .u64 (h11 : Nat), .int .u64 (h12 : Nat), .slice (some ⟨b2, 0, none⟩) n n, .slice none 0 0, .int .u64 (q : Nat), .string text] 138 (0, 0)) ∧ wr.heap[b2]? = some (.cells (rowU64 (flatF 10 (secF big wide text h5) n)) 52 (0, 0)) ∧ OnlyAt P W wr)
                case first =>
                  by_cases hs : h12 = 65535
                  · have k5 : ((h12 : Int) == 65535) = true := by simp; omega
                    have en : secF big wide text h5 0 6 = q := by rw [hq]; unfold secNam; rw [if_neg HOFF.out, if_pos hs]
                    clear hq
                    rw [en] at g6
                    clear en hs
                    go_wp2
                    go_meet
                    case rel => exact ⟨by have q1 := Lib.heap_setCell_same (i := 20) HR7.out (.int .u64 (q : Nat)); simpa using q1, heap_only HW27.out (OnlyAt.setCell P 20 w7 _) hb2P, HO7.out.trans (OnlyAt.setCell P 20 w7 _)⟩
                  · have k5 : ((h12 : Int) == 65535) = false := by simp; omega
                    have en : h12 = q := by rw [hq]; unfold secNam; rw [if_neg HOFF.out, if_neg hs]
                    clear hq
                    subst en
                    go_wp2
                    go_meet
                    case rel => exact ⟨HR7.out, HW27.out, HO7.out⟩
                case rest =>
                  obtain ⟨hr8, hw8, ho8⟩ := hcut
                  have HR8 := Lib.hid hr8; have HW8 := Lib.hid hw8; have HO8 := Lib.hid ho8
                  have c20 : wc.cell? ⟨P, 20, none⟩ = some (.int .u64 (q : Nat)) := by rw [Lib.cell_of_heap hr8]; rfl
                  clear hr8 hw8 ho8 hq
                  have e1 : secErr big wide text h5 h11 h12 = if n ≤ q then 11 else 0 := by
                    unfold secErr; rw [if_neg HOFF.out, if_neg (by simpa using HF1.out), ← HNN.out, if_neg HBIG.out, if_neg (by simpa using HF2.out), if_neg (by simpa using HT.out), ← HQN.out]
                  have HE1 := Lib.hid e1; clear e1
                  by_cases hge : n ≤ q
                  · have k6 : (n : Int) ≤ (q : Int) := by omega
                    have HG := Lib.hid hge; clear hge
                    go_wp2
                    go_ret
                    exact post_err (by rw [HE1.out, if_pos HG.out]) (by decide) HO8.out
                  · have k6 : ¬ (n : Int) ≤ (q : Int) := by omega
                    have k7 : decide ((n : Int) ≤ (q : Int)) = false := decide_eq_false k6
                    have HG := Lib.hid hge; clear hge
                    go_wp2
                    go_ret
                    refine ⟨.inr ⟨by rw [HE1.out, if_neg HG.out], rfl, some ⟨b2, 0, none⟩, n, n, .inr ⟨by rw [← HNN.out]; exact hn1, b2, hb2W, by rw [← HNN.out], by rw [← HNN.out]; exact HW8.out⟩, ?_⟩, HO8.out⟩
                    rw [← HQN.out]; exact HR8.out
end Go.Proofs.Ytedocnidgiglaaa
