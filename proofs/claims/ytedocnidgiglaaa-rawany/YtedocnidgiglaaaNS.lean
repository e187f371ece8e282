/- The contract of raw's readSegments. Conditions: those written in each theorem. -/
import Derived.Test.YtedocnidgiglaaaNR
import Derived.Test.YtedocnidgiglaaaNP
namespace Go.Proofs.Ytedocnidgiglaaa
open Go.RowKit
set_option linter.unusedVariables false
/-- How many segments, and why they are none. -/
def segNum (num N info : Nat) : Nat := if num = 65535 ∧ 0 < N then info else num
def segErr (wide : Bool) (s : ByteArray) (off n : Nat) : Nat := if 256 < n ∨ (0 < n ∧ off = 0) then 10 else if 0 < n ∧ ¬ off + n * phs wide ≤ s.size then 9 else 0
def SegPost (P : Nat) (big wide : Bool) (abi ver : Nat) (pad : ByteArray) (h0 h1 h2 h3 h4 h5 h6 h7 h8 h9 h10 h11 h12 : Nat) (A : Option Addr) (N cN nm n : Nat) (text : ByteArray) (W : World) (e : Ending) (w' : World) : Prop :=
  (segErr wide text h4 n ≠ 0 ∧ e = .returned (.int .i64 (segErr wide text h4 n : Nat)) ∨
    segErr wide text h4 n = 0 ∧ e = .returned (.int .i64 0) ∧ ∃ b, W.heap.size ≤ b ∧ w'.heap[b]? = some (.cells (rowU64 (flatF 8 (segF big wide text h4) n)) 72 (0, 0)) ∧
      w'.heap[P]? = some (.cells #[.bool big, .bool wide, .int .u8 (abi : Nat), .int .u8 (ver : Nat), .string pad, .int .u64 (h0 : Nat), .int .u64 (h1 : Nat), .int .u64 (h2 : Nat), .int .u64 (h3 : Nat), .int .u64 (h4 : Nat), .int .u64 (h5 : Nat), .int .u64 (h6 : Nat), .int .u64 (h7 : Nat), .int .u64 (h8 : Nat), .int .u64 (h9 : Nat), .int .u64 (h10 : Nat), .int .u64 (h11 : Nat), .int .u64 (h12 : Nat), .slice A N cN, .slice (some ⟨b, 0, none⟩) n n, .int .u64 (nm : Nat), .string text] 138 (0, 0))) ∧ OnlyAt P W w'
theorem seg_err {P : Nat} {big wide : Bool} {abi ver : Nat} {pad : ByteArray} {h0 h1 h2 h3 h4 h5 h6 h7 h8 h9 h10 h11 h12 : Nat} {A : Option Addr} {N cN nm n : Nat} {text : ByteArray} {W w' : World} {k : Nat} (h : segErr wide text h4 n = k) (hk : k ≠ 0) (ho : OnlyAt P W w') : SegPost P big wide abi ver pad h0 h1 h2 h3 h4 h5 h6 h7 h8 h9 h10 h11 h12 A N cN nm n text W (.returned (.int .i64 (k : Nat))) w' :=
  ⟨.inl ⟨by rw [h]; exact hk, by rw [h]⟩, ho⟩
set_option maxRecDepth 100000 in
set_option maxHeartbeats 4000000 in
theorem readSegments_any (P : Nat) (big wide : Bool) (abi ver : Nat) (pad : ByteArray) (h0 h1 h2 h3 h4 h5 h6 h7 h8 h9 h10 h11 h12 : Nat) (A : Option Addr) (N cN nm info n : Nat) (text : ByteArray) (W : World) (hm : text.size ≤ 1048576) (h64 : h4 < 18446744073709551616) (hR : W.heap[P]? = some (.cells #[.bool big, .bool wide, .int .u8 (abi : Nat), .int .u8 (ver : Nat), .string pad, .int .u64 (h0 : Nat), .int .u64 (h1 : Nat), .int .u64 (h2 : Nat), .int .u64 (h3 : Nat), .int .u64 (h4 : Nat), .int .u64 (h5 : Nat), .int .u64 (h6 : Nat), .int .u64 (h7 : Nat), .int .u64 (h8 : Nat), .int .u64 (h9 : Nat), .int .u64 (h10 : Nat), .int .u64 (h11 : Nat), .int .u64 (h12 : Nat), .slice A N cN, .slice none 0 0, .int .u64 (nm : Nat), .string text] 138 (0, 0)))
    (hN : N ≤ 4096) (hS : 0 < N → ∃ b, A = some ⟨b, 0, none⟩ ∧ W.cell? ⟨b, 7, none⟩ = some (.int .u64 (info : Nat))) (hn : segNum h9 N info = n) :
    Calls Try.prog 53 #[.pointer (some ⟨P, 0, none⟩)] W (SegPost P big wide abi ver pad h0 h1 h2 h3 h4 h5 h6 h7 h8 h9 h10 h11 h12 A N cN nm n text W) := by
  have c14 : W.cell? ⟨P, 14, none⟩ = some (.int .u64 (h9 : Nat)) := by rw [Lib.cell_of_heap hR]; rfl
  have c18 : W.cell? ⟨P, 18, none⟩ = some (.slice A N cN) := by rw [Lib.cell_of_heap hR]; rfl
  have HR := Lib.hid hR; have hPW := heap_lt hR; have HS := Lib.hid hS; have HNN := Lib.hid hn; clear hR hS hn
  have hcase : (h9 = 65535 ∧ 0 < N ∧ info = n) ∨ (h9 = 65535 ∧ ¬ 0 < N ∧ h9 = n) ∨ (¬ h9 = 65535 ∧ h9 = n) := by
    have := HNN.out
    unfold segNum at this
    by_cases hf : h9 = 65535
    · by_cases hN0 : 0 < N
      · rw [if_pos ⟨hf, hN0⟩] at this; exact .inl ⟨hf, hN0, this⟩
      · rw [if_neg (fun h => hN0 h.2)] at this; exact .inr (.inl ⟨hf, hN0, this⟩)
    · rw [if_neg (fun h => hf h.1)] at this; exact .inr (.inr ⟨hf, this⟩)
  rcases hcase with ⟨hf, hN0, he⟩ | ⟨hf, hN0, he⟩ | ⟨hf, he⟩
  · obtain ⟨b, rfl, g7⟩ := HS.out hN0
    rw [he] at g7
    have k0 : ((h9 : Int) == 65535) = true := by simp; omega
    have k1 : (0 : Int) < (N : Int) := by omega
    clear hf hN0 he
    go_enter Try.func53, Try.ntmps53
    go_upto_region 4 with (fail)
    clear k0 k1 g7
    clear c14 c18
    have c9 : W.cell? ⟨P, 9, none⟩ = some (.int .u64 (h4 : Nat)) := by rw [Lib.cell_of_heap HR.out]; rfl
    by_cases hbig : 256 < n
    case pos =>
      have HE := Lib.hid (show segErr wide text h4 n = 10 by unfold segErr; rw [if_pos (.inl hbig)])
      have k1 : (256 : Int) < (n : Int) := by omega
      clear hbig
      go_wp2
      go_ret
      exact seg_err HE.out (by decide) (OnlyAt.refl _ _)
    case neg =>
      have k1 : ¬ (256 : Int) < (n : Int) := by omega
      have k2 : decide ((256 : Int) < (n : Int)) = false := decide_eq_false k1
      by_cases hn0 : 0 < n
      · have k3 : (0 : Int) < (n : Int) := by omega
        by_cases ho : h4 = 0
        · have HE := Lib.hid (show segErr wide text h4 n = 10 by unfold segErr; rw [if_pos (.inr ⟨hn0, ho⟩)])
          have k4 : ((h4 : Int) == 0) = true := by simp; omega
          clear hbig ho
          go_wp2
          go_ret
          exact seg_err HE.out (by decide) (OnlyAt.refl _ _)
        · have k4 : ((h4 : Int) == 0) = false := by simp; omega
          have HNB := Lib.hid (show ¬ (256 < n ∨ (0 < n ∧ h4 = 0)) by omega)
          clear ho
          by_cases hfit : h4 + n * phs wide ≤ text.size
          · have HC : Hid (∀ u, Calls Try.prog 94 #[.agg #[.bool big, .bool wide], .string text, .agg #[.int .u64 (h4 : Nat), .int .u64 (n : Nat), .int .u64 (phs wide : Nat)], .func (.func 95) #[] #[]] u fun e w' => (∃ A l1 l2, e = .returned (.tuple #[.slice A l1 l2, .bool true]) ∧ ∃ b, u.heap.size ≤ b ∧ Value.slice A l1 l2 = .slice (some ⟨b, 0, none⟩) n n ∧ w'.heap[b]? = some (.cells (rowU64 (flatF 8 (segF big wide text h4) n)) 72 (0, 0))) ∧ Below u.heap.size u w') := Lib.hid (fun u => (precs_yes big wide text h4 n hm hn0 hfit u).mono fun e w' ⟨b, ⟨q1, q2, q3⟩, q4⟩ => ⟨⟨_, _, _, q2, b, q1, rfl, q3⟩, q4⟩)
            have HE := Lib.hid (show segErr wide text h4 n = 0 by unfold segErr; rw [if_neg HNB.out, if_neg (fun h => h.2 hfit)])
            clear hfit hbig
            go_upto_region 7 with (fail)
            refine greg7 _ _ _ _ _ _ _ _ _ _ _ _ _ _ _ _ _ _ _ _ _ _ _ _ _ _ _ _ _ _ _ _ _ _ _ _ _ _ _ _ _ _ _ _ _ _ _ _ _ _ _ _ _ _ _ _ _ _ _ _ _ _ _ _ _ _ _ _ _ _ P n big wide abi ver pad h0 h1 h2 h3 h4 h5 h6 h7 h8 h9 h10 h11 h12 (_) (.slice none 0 0) nm text true (fun u v w' => ∃ b, u.heap.size ≤ b ∧ v = .slice (some ⟨b, 0, none⟩) n n ∧ w'.heap[b]? = some (.cells (rowU64 (flatF 8 (segF big wide text h4) n)) 72 (0, 0))) _ HR.out HC (fun u v w' w2 hu ⟨b, q1, q2, q3⟩ ho => ⟨b, Nat.le_trans hu q1, q2, heap_only q3 ho (by omega)⟩) (fun _ _ _ _ _ h => h) (fun u45 u46 u47 u48 u49 u50 u51 u52 u53 u54 u55 u56 u57 u58 u59 u60 u61 u62 u63 u64 u65 u66 u67 u68 yA y1 y2 w6 pv hr6 b6 => ?_)
            obtain ⟨b2, hb2, hyv, hrow2⟩ := pv
            cases hyv
            have HO6 := Lib.hid b6; have HW2 := Lib.hid hrow2; have HR6 := Lib.hid hr6
            clear b6 hrow2 hr6
            go_wp2
            go_ret
            exact ⟨.inr ⟨HE.out, rfl, b2, hb2, HW2.out, HR6.out⟩, HO6.out⟩
          · have HC : Hid (∀ u, Calls Try.prog 94 #[.agg #[.bool big, .bool wide], .string text, .agg #[.int .u64 (h4 : Nat), .int .u64 (n : Nat), .int .u64 (phs wide : Nat)], .func (.func 95) #[] #[]] u fun e w' => (∃ A l1 l2, e = .returned (.tuple #[.slice A l1 l2, .bool false]) ∧ True) ∧ Below u.heap.size u w') := Lib.hid (fun u => (precs_no big wide text h4 n hm h64 hn0 (by omega) hfit u).mono fun e w' h => ⟨⟨_, _, _, h.1, trivial⟩, h.2⟩)
            have HE := Lib.hid (show segErr wide text h4 n = 9 by unfold segErr; rw [if_neg HNB.out, if_pos ⟨hn0, hfit⟩])
            clear hfit hbig
            go_upto_region 7 with (fail)
            refine greg7 _ _ _ _ _ _ _ _ _ _ _ _ _ _ _ _ _ _ _ _ _ _ _ _ _ _ _ _ _ _ _ _ _ _ _ _ _ _ _ _ _ _ _ _ _ _ _ _ _ _ _ _ _ _ _ _ _ _ _ _ _ _ _ _ _ _ _ _ _ _ P n big wide abi ver pad h0 h1 h2 h3 h4 h5 h6 h7 h8 h9 h10 h11 h12 (_) (.slice none 0 0) nm text false (fun _ _ _ => True) _ HR.out HC (fun _ _ _ _ _ _ _ => trivial) (fun _ _ _ _ _ h => h) (fun u45 u46 u47 u48 u49 u50 u51 u52 u53 u54 u55 u56 u57 u58 u59 u60 u61 u62 u63 u64 u65 u66 u67 u68 yA y1 y2 w6 _ _ b6 => ?_)
            have HO6 := Lib.hid b6; clear b6
            go_wp2
            go_ret
            exact seg_err HE.out (by decide) HO6.out
      · have hn00 : n = 0 := by omega
        subst hn00
        have HC : Hid (∀ u, Calls Try.prog 94 #[.agg #[.bool big, .bool wide], .string text, .agg #[.int .u64 (h4 : Nat), .int .u64 ((0 : Nat) : Int), .int .u64 (phs wide : Nat)], .func (.func 95) #[] #[]] u fun e w' => (∃ A l1 l2, e = .returned (.tuple #[.slice A l1 l2, .bool true]) ∧ ∃ b, u.heap.size ≤ b ∧ Value.slice A l1 l2 = .slice (some ⟨b, 0, none⟩) 0 0 ∧ w'.heap[b]? = some (.cells (rowU64 (flatF 8 (segF big wide text h4) 0)) 72 (0, 0))) ∧ Below u.heap.size u w') := Lib.hid (fun u => (precs_zero big wide text h4 hm (segF big wide text h4) u).mono fun e w' ⟨b, ⟨q1, q2, q3⟩, q4⟩ => ⟨⟨_, _, _, q2, b, q1, rfl, q3⟩, q4⟩)
        have HE := Lib.hid (show segErr wide text h4 0 = 0 by unfold segErr; rw [if_neg (by omega), if_neg (by omega)])
        clear hbig hn0 k1 k2
        go_upto_region 7 with (fail)
        refine greg7 _ _ _ _ _ _ _ _ _ _ _ _ _ _ _ _ _ _ _ _ _ _ _ _ _ _ _ _ _ _ _ _ _ _ _ _ _ _ _ _ _ _ _ _ _ _ _ _ _ _ _ _ _ _ _ _ _ _ _ _ _ _ _ _ _ _ _ _ _ _ P 0 big wide abi ver pad h0 h1 h2 h3 h4 h5 h6 h7 h8 h9 h10 h11 h12 (_) (.slice none 0 0) nm text true (fun u v w' => ∃ b, u.heap.size ≤ b ∧ v = .slice (some ⟨b, 0, none⟩) 0 0 ∧ w'.heap[b]? = some (.cells (rowU64 (flatF 8 (segF big wide text h4) 0)) 72 (0, 0))) _ HR.out HC (fun u v w' w2 hu ⟨b, q1, q2, q3⟩ ho => ⟨b, Nat.le_trans hu q1, q2, heap_only q3 ho (by omega)⟩) (fun _ _ _ _ _ h => h) (fun u45 u46 u47 u48 u49 u50 u51 u52 u53 u54 u55 u56 u57 u58 u59 u60 u61 u62 u63 u64 u65 u66 u67 u68 yA y1 y2 w6 pv hr6 b6 => ?_)
        obtain ⟨b2, hb2, hyv, hrow2⟩ := pv
        cases hyv
        have HO6 := Lib.hid b6; have HW2 := Lib.hid hrow2; have HR6 := Lib.hid hr6
        clear b6 hrow2 hr6
        go_wp2
        go_ret
        exact ⟨.inr ⟨HE.out, rfl, b2, hb2, HW2.out, HR6.out⟩, HO6.out⟩
  · rw [he] at c14
    have k0 : ((n : Int) == 65535) = true := by rw [← he]; simp; omega
    have k1 : ¬ (0 : Int) < (N : Int) := by omega
    have k2 : decide ((0 : Int) < (N : Int)) = false := decide_eq_false k1
    clear hf hN0 he
    go_enter Try.func53, Try.ntmps53
    go_upto_region 4 with (fail)
    clear k0 k1 k2
    clear c14 c18
    have c9 : W.cell? ⟨P, 9, none⟩ = some (.int .u64 (h4 : Nat)) := by rw [Lib.cell_of_heap HR.out]; rfl
    by_cases hbig : 256 < n
    case pos =>
      have HE := Lib.hid (show segErr wide text h4 n = 10 by unfold segErr; rw [if_pos (.inl hbig)])
      have k1 : (256 : Int) < (n : Int) := by omega
      clear hbig
      go_wp2
      go_ret
      exact seg_err HE.out (by decide) (OnlyAt.refl _ _)
    case neg =>
      have k1 : ¬ (256 : Int) < (n : Int) := by omega
      have k2 : decide ((256 : Int) < (n : Int)) = false := decide_eq_false k1
      by_cases hn0 : 0 < n
      · have k3 : (0 : Int) < (n : Int) := by omega
        by_cases ho : h4 = 0
        · have HE := Lib.hid (show segErr wide text h4 n = 10 by unfold segErr; rw [if_pos (.inr ⟨hn0, ho⟩)])
          have k4 : ((h4 : Int) == 0) = true := by simp; omega
          clear hbig ho
          go_wp2
          go_ret
          exact seg_err HE.out (by decide) (OnlyAt.refl _ _)
        · have k4 : ((h4 : Int) == 0) = false := by simp; omega
          have HNB := Lib.hid (show ¬ (256 < n ∨ (0 < n ∧ h4 = 0)) by omega)
          clear ho
          by_cases hfit : h4 + n * phs wide ≤ text.size
          · have HC : Hid (∀ u, Calls Try.prog 94 #[.agg #[.bool big, .bool wide], .string text, .agg #[.int .u64 (h4 : Nat), .int .u64 (n : Nat), .int .u64 (phs wide : Nat)], .func (.func 95) #[] #[]] u fun e w' => (∃ A l1 l2, e = .returned (.tuple #[.slice A l1 l2, .bool true]) ∧ ∃ b, u.heap.size ≤ b ∧ Value.slice A l1 l2 = .slice (some ⟨b, 0, none⟩) n n ∧ w'.heap[b]? = some (.cells (rowU64 (flatF 8 (segF big wide text h4) n)) 72 (0, 0))) ∧ Below u.heap.size u w') := Lib.hid (fun u => (precs_yes big wide text h4 n hm hn0 hfit u).mono fun e w' ⟨b, ⟨q1, q2, q3⟩, q4⟩ => ⟨⟨_, _, _, q2, b, q1, rfl, q3⟩, q4⟩)
            have HE := Lib.hid (show segErr wide text h4 n = 0 by unfold segErr; rw [if_neg HNB.out, if_neg (fun h => h.2 hfit)])
            clear hfit hbig
            go_upto_region 7 with (fail)
            refine greg7 _ _ _ _ _ _ _ _ _ _ _ _ _ _ _ _ _ _ _ _ _ _ _ _ _ _ _ _ _ _ _ _ _ _ _ _ _ _ _ _ _ _ _ _ _ _ _ _ _ _ _ _ _ _ _ _ _ _ _ _ _ _ _ _ _ _ _ _ _ _ P n big wide abi ver pad h0 h1 h2 h3 h4 h5 h6 h7 h8 h9 h10 h11 h12 (_) (.slice none 0 0) nm text true (fun u v w' => ∃ b, u.heap.size ≤ b ∧ v = .slice (some ⟨b, 0, none⟩) n n ∧ w'.heap[b]? = some (.cells (rowU64 (flatF 8 (segF big wide text h4) n)) 72 (0, 0))) _ HR.out HC (fun u v w' w2 hu ⟨b, q1, q2, q3⟩ ho => ⟨b, Nat.le_trans hu q1, q2, heap_only q3 ho (by omega)⟩) (fun _ _ _ _ _ h => h) (fun u45 u46 u47 u48 u49 u50 u51 u52 u53 u54 u55 u56 u57 u58 u59 u60 u61 u62 u63 u64 u65 u66 u67 u68 yA y1 y2 w6 pv hr6 b6 => ?_)
            obtain ⟨b2, hb2, hyv, hrow2⟩ := pv
            cases hyv
            have HO6 := Lib.hid b6; have HW2 := Lib.hid hrow2; have HR6 := Lib.hid hr6
            clear b6 hrow2 hr6
            go_wp2
            go_ret
            exact ⟨.inr ⟨HE.out, rfl, b2, hb2, HW2.out, HR6.out⟩, HO6.out⟩
          · have HC : Hid (∀ u, Calls Try.prog 94 #[.agg #[.bool big, .bool wide], .string text, .agg #[.int .u64 (h4 : Nat), .int .u64 (n : Nat), .int .u64 (phs wide : Nat)], .func (.func 95) #[] #[]] u fun e w' => (∃ A l1 l2, e = .returned (.tuple #[.slice A l1 l2, .bool false]) ∧ True) ∧ Below u.heap.size u w') := Lib.hid (fun u => (precs_no big wide text h4 n hm h64 hn0 (by omega) hfit u).mono fun e w' h => ⟨⟨_, _, _, h.1, trivial⟩, h.2⟩)
            have HE := Lib.hid (show segErr wide text h4 n = 9 by unfold segErr; rw [if_neg HNB.out, if_pos ⟨hn0, hfit⟩])
            clear hfit hbig
            go_upto_region 7 with (fail)
            refine greg7 _ _ _ _ _ _ _ _ _ _ _ _ _ _ _ _ _ _ _ _ _ _ _ _ _ _ _ _ _ _ _ _ _ _ _ _ _ _ _ _ _ _ _ _ _ _ _ _ _ _ _ _ _ _ _ _ _ _ _ _ _ _ _ _ _ _ _ _ _ _ P n big wide abi ver pad h0 h1 h2 h3 h4 h5 h6 h7 h8 h9 h10 h11 h12 (_) (.slice none 0 0) nm text false (fun _ _ _ => True) _ HR.out HC (fun _ _ _ _ _ _ _ => trivial) (fun _ _ _ _ _ h => h) (fun u45 u46 u47 u48 u49 u50 u51 u52 u53 u54 u55 u56 u57 u58 u59 u60 u61 u62 u63 u64 u65 u66 u67 u68 yA y1 y2 w6 _ _ b6 => ?_)
            have HO6 := Lib.hid b6; clear b6
            go_wp2
            go_ret
            exact seg_err HE.out (by decide) HO6.out
      · have hn00 : n = 0 := by omega
        subst hn00
        have HC : Hid (∀ u, Calls Try.prog 94 #[.agg #[.bool big, .bool wide], .string text, .agg #[.int .u64 (h4 : Nat), .int .u64 ((0 : Nat) : Int), .int .u64 (phs wide : Nat)], .func (.func 95) #[] #[]] u fun e w' => (∃ A l1 l2, e = .returned (.tuple #[.slice A l1 l2, .bool true]) ∧ ∃ b, u.heap.size ≤ b ∧ Value.slice A l1 l2 = .slice (some ⟨b, 0, none⟩) 0 0 ∧ w'.heap[b]? = some (.cells (rowU64 (flatF 8 (segF big wide text h4) 0)) 72 (0, 0))) ∧ Below u.heap.size u w') := Lib.hid (fun u => (precs_zero big wide text h4 hm (segF big wide text h4) u).mono fun e w' ⟨b, ⟨q1, q2, q3⟩, q4⟩ => ⟨⟨_, _, _, q2, b, q1, rfl, q3⟩, q4⟩)
        have HE := Lib.hid (show segErr wide text h4 0 = 0 by unfold segErr; rw [if_neg (by omega), if_neg (by omega)])
        clear hbig hn0 k1 k2
        go_upto_region 7 with (fail)
        refine greg7 _ _ _ _ _ _ _ _ _ _ _ _ _ _ _ _ _ _ _ _ _ _ _ _ _ _ _ _ _ _ _ _ _ _ _ _ _ _ _ _ _ _ _ _ _ _ _ _ _ _ _ _ _ _ _ _ _ _ _ _ _ _ _ _ _ _ _ _ _ _ P 0 big wide abi ver pad h0 h1 h2 h3 h4 h5 h6 h7 h8 h9 h10 h11 h12 (_) (.slice none 0 0) nm text true (fun u v w' => ∃ b, u.heap.size ≤ b ∧ v = .slice (some ⟨b, 0, none⟩) 0 0 ∧ w'.heap[b]? = some (.cells (rowU64 (flatF 8 (segF big wide text h4) 0)) 72 (0, 0))) _ HR.out HC (fun u v w' w2 hu ⟨b, q1, q2, q3⟩ ho => ⟨b, Nat.le_trans hu q1, q2, heap_only q3 ho (by omega)⟩) (fun _ _ _ _ _ h => h) (fun u45 u46 u47 u48 u49 u50 u51 u52 u53 u54 u55 u56 u57 u58 u59 u60 u61 u62 u63 u64 u65 u66 u67 u68 yA y1 y2 w6 pv hr6 b6 => ?_)
        obtain ⟨b2, hb2, hyv, hrow2⟩ := pv
        cases hyv
        have HO6 := Lib.hid b6; have HW2 := Lib.hid hrow2; have HR6 := Lib.hid hr6
        clear b6 hrow2 hr6
        go_wp2
        go_ret
        exact ⟨.inr ⟨HE.out, rfl, b2, hb2, HW2.out, HR6.out⟩, HO6.out⟩
  · rw [he] at c14
    have k0 : ((n : Int) == 65535) = false := by rw [← he]; simp; omega
    clear hf he
    go_enter Try.func53, Try.ntmps53
    go_upto_region 4 with (fail)
    clear k0
    clear c14 c18
    have c9 : W.cell? ⟨P, 9, none⟩ = some (.int .u64 (h4 : Nat)) := by rw [Lib.cell_of_heap HR.out]; rfl
    by_cases hbig : 256 < n
    case pos =>
      have HE := Lib.hid (show segErr wide text h4 n = 10 by unfold segErr; rw [if_pos (.inl hbig)])
      have k1 : (256 : Int) < (n : Int) := by omega
      clear hbig
      go_wp2
      go_ret
      exact seg_err HE.out (by decide) (OnlyAt.refl _ _)
    case neg =>
      have k1 : ¬ (256 : Int) < (n : Int) := by omega
      have k2 : decide ((256 : Int) < (n : Int)) = false := decide_eq_false k1
      by_cases hn0 : 0 < n
      · have k3 : (0 : Int) < (n : Int) := by omega
        by_cases ho : h4 = 0
        · have HE := Lib.hid (show segErr wide text h4 n = 10 by unfold segErr; rw [if_pos (.inr ⟨hn0, ho⟩)])
          have k4 : ((h4 : Int) == 0) = true := by simp; omega
          clear hbig ho
          go_wp2
          go_ret
          exact seg_err HE.out (by decide) (OnlyAt.refl _ _)
        · have k4 : ((h4 : Int) == 0) = false := by simp; omega
          have HNB := Lib.hid (show ¬ (256 < n ∨ (0 < n ∧ h4 = 0)) by omega)
          clear ho
          by_cases hfit : h4 + n * phs wide ≤ text.size
          · have HC : Hid (∀ u, Calls Try.prog 94 #[.agg #[.bool big, .bool wide], .string text, .agg #[.int .u64 (h4 : Nat), .int .u64 (n : Nat), .int .u64 (phs wide : Nat)], .func (.func 95) #[] #[]] u fun e w' => (∃ A l1 l2, e = .returned (.tuple #[.slice A l1 l2, .bool true]) ∧ ∃ b, u.heap.size ≤ b ∧ Value.slice A l1 l2 = .slice (some ⟨b, 0, none⟩) n n ∧ w'.heap[b]? = some (.cells (rowU64 (flatF 8 (segF big wide text h4) n)) 72 (0, 0))) ∧ Below u.heap.size u w') := Lib.hid (fun u => (precs_yes big wide text h4 n hm hn0 hfit u).mono fun e w' ⟨b, ⟨q1, q2, q3⟩, q4⟩ => ⟨⟨_, _, _, q2, b, q1, rfl, q3⟩, q4⟩)
            have HE := Lib.hid (show segErr wide text h4 n = 0 by unfold segErr; rw [if_neg HNB.out, if_neg (fun h => h.2 hfit)])
            clear hfit hbig
            go_upto_region 7 with (fail)
            refine greg7 _ _ _ _ _ _ _ _ _ _ _ _ _ _ _ _ _ _ _ _ _ _ _ _ _ _ _ _ _ _ _ _ _ _ _ _ _ _ _ _ _ _ _ _ _ _ _ _ _ _ _ _ _ _ _ _ _ _ _ _ _ _ _ _ _ _ _ _ _ _ P n big wide abi ver pad h0 h1 h2 h3 h4 h5 h6 h7 h8 h9 h10 h11 h12 (_) (.slice none 0 0) nm text true (fun u v w' => ∃ b, u.heap.size ≤ b ∧ v = .slice (some ⟨b, 0, none⟩) n n ∧ w'.heap[b]? = some (.cells (rowU64 (flatF 8 (segF big wide text h4) n)) 72 (0, 0))) _ HR.out HC (fun u v w' w2 hu ⟨b, q1, q2, q3⟩ ho => ⟨b, Nat.le_trans hu q1, q2, heap_only q3 ho (by omega)⟩) (fun _ _ _ _ _ h => h) (fun u45 u46 u47 u48 u49 u50 u51 u52 u53 u54 u55 u56 u57 u58 u59 u60 u61 u62 u63 u64 u65 u66 u67 u68 yA y1 y2 w6 pv hr6 b6 => ?_)
            obtain ⟨b2, hb2, hyv, hrow2⟩ := pv
            cases hyv
            have HO6 := Lib.hid b6; have HW2 := Lib.hid hrow2; have HR6 := Lib.hid hr6
            clear b6 hrow2 hr6
            go_wp2
            go_ret
            exact ⟨.inr ⟨HE.out, rfl, b2, hb2, HW2.out, HR6.out⟩, HO6.out⟩
          · have HC : Hid (∀ u, Calls Try.prog 94 #[.agg #[.bool big, .bool wide], .string text, .agg #[.int .u64 (h4 : Nat), .int .u64 (n : Nat), .int .u64 (phs wide : Nat)], .func (.func 95) #[] #[]] u fun e w' => (∃ A l1 l2, e = .returned (.tuple #[.slice A l1 l2, .bool false]) ∧ True) ∧ Below u.heap.size u w') := Lib.hid (fun u => (precs_no big wide text h4 n hm h64 hn0 (by omega) hfit u).mono fun e w' h => ⟨⟨_, _, _, h.1, trivial⟩, h.2⟩)
            have HE := Lib.hid (show segErr wide text h4 n = 9 by unfold segErr; rw [if_neg HNB.out, if_pos ⟨hn0, hfit⟩])
            clear hfit hbig
            go_upto_region 7 with (fail)
            refine greg7 _ _ _ _ _ _ _ _ _ _ _ _ _ _ _ _ _ _ _ _ _ _ _ _ _ _ _ _ _ _ _ _ _ _ _ _ _ _ _ _ _ _ _ _ _ _ _ _ _ _ _ _ _ _ _ _ _ _ _ _ _ _ _ _ _ _ _ _ _ _ P n big wide abi ver pad h0 h1 h2 h3 h4 h5 h6 h7 h8 h9 h10 h11 h12 (_) (.slice none 0 0) nm text false (fun _ _ _ => True) _ HR.out HC (fun _ _ _ _ _ _ _ => trivial) (fun _ _ _ _ _ h => h) (fun u45 u46 u47 u48 u49 u50 u51 u52 u53 u54 u55 u56 u57 u58 u59 u60 u61 u62 u63 u64 u65 u66 u67 u68 yA y1 y2 w6 _ _ b6 => ?_)
            have HO6 := Lib.hid b6; clear b6
            go_wp2
            go_ret
            exact seg_err HE.out (by decide) HO6.out
      · have hn00 : n = 0 := by omega
        subst hn00
        have HC : Hid (∀ u, Calls Try.prog 94 #[.agg #[.bool big, .bool wide], .string text, .agg #[.int .u64 (h4 : Nat), .int .u64 ((0 : Nat) : Int), .int .u64 (phs wide : Nat)], .func (.func 95) #[] #[]] u fun e w' => (∃ A l1 l2, e = .returned (.tuple #[.slice A l1 l2, .bool true]) ∧ ∃ b, u.heap.size ≤ b ∧ Value.slice A l1 l2 = .slice (some ⟨b, 0, none⟩) 0 0 ∧ w'.heap[b]? = some (.cells (rowU64 (flatF 8 (segF big wide text h4) 0)) 72 (0, 0))) ∧ Below u.heap.size u w') := Lib.hid (fun u => (precs_zero big wide text h4 hm (segF big wide text h4) u).mono fun e w' ⟨b, ⟨q1, q2, q3⟩, q4⟩ => ⟨⟨_, _, _, q2, b, q1, rfl, q3⟩, q4⟩)
        have HE := Lib.hid (show segErr wide text h4 0 = 0 by unfold segErr; rw [if_neg (by omega), if_neg (by omega)])
        clear hbig hn0 k1 k2
        go_upto_region 7 with (fail)
        refine greg7 _ _ _ _ _ _ _ _ _ _ _ _ _ _ _ _ _ _ _ _ _ _ _ _ _ _ _ _ _ _ _ _ _ _ _ _ _ _ _ _ _ _ _ _ _ _ _ _ _ _ _ _ _ _ _ _ _ _ _ _ _ _ _ _ _ _ _ _ _ _ P 0 big wide abi ver pad h0 h1 h2 h3 h4 h5 h6 h7 h8 h9 h10 h11 h12 (_) (.slice none 0 0) nm text true (fun u v w' => ∃ b, u.heap.size ≤ b ∧ v = .slice (some ⟨b, 0, none⟩) 0 0 ∧ w'.heap[b]? = some (.cells (rowU64 (flatF 8 (segF big wide text h4) 0)) 72 (0, 0))) _ HR.out HC (fun u v w' w2 hu ⟨b, q1, q2, q3⟩ ho => ⟨b, Nat.le_trans hu q1, q2, heap_only q3 ho (by omega)⟩) (fun _ _ _ _ _ h => h) (fun u45 u46 u47 u48 u49 u50 u51 u52 u53 u54 u55 u56 u57 u58 u59 u60 u61 u62 u63 u64 u65 u66 u67 u68 yA y1 y2 w6 pv hr6 b6 => ?_)
        obtain ⟨b2, hb2, hyv, hrow2⟩ := pv
        cases hyv
        have HO6 := Lib.hid b6; have HW2 := Lib.hid hrow2; have HR6 := Lib.hid hr6
        clear b6 hrow2 hr6
        go_wp2
        go_ret
        exact ⟨.inr ⟨HE.out, rfl, b2, hb2, HW2.out, HR6.out⟩, HO6.out⟩
end Go.Proofs.Ytedocnidgiglaaa
