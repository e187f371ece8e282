/- The contract of span.Clash, and of graverlaw02's speaks: it returns true. Conditions: those written in each theorem. -/
import Derived.Test.YtibgcnggimlbcaaZ
namespace Go.Proofs.Ytibgcnggimlbcaa
open Go.RowKit Go.Shelf Go.Sort
/-- Do two neighbours share a byte? -/
def clashL : List (Nat × Nat) → Bool
  | a :: b :: r => decide (b.1 - a.1 < a.2) || clashL (b :: r)
  | _ => false
def ClashPost (w : World) (ds : List (Nat × Nat)) (e : Ending) (w' : World) : Prop :=
  ∃ d, d.Perm (full ds) ∧ Asc d ∧ e = .returned (.bool (clashL d)) ∧ Below w.heap.size w w'
theorem clash_short (d : List (Nat × Nat)) (j : Nat) (h : ¬ j + 1 < d.length) : clashL (d.drop j) = false := by
  have hl : (d.drop j).length ≤ 1 := by rw [List.length_drop]; omega
  match d.drop j, hl with
  | [], _ => rfl
  | [_], _ => rfl
theorem clash_step (d : List (Nat × Nat)) (j : Nat) (h : j + 1 < d.length) :
    clashL (d.drop j) = (decide ((d.getD (j + 1) (0, 0)).1 - (d.getD j (0, 0)).1 < (d.getD j (0, 0)).2) || clashL (d.drop (j + 1))) := by
  rw [drop_getD d j (by omega), drop_getD d (j + 1) h]
  rfl
theorem asc_getD {d : List (Nat × Nat)} (h : Asc d) (j : Nat) (hj : j + 1 < d.length) : (d.getD j (0, 0)).1 ≤ (d.getD (j + 1) (0, 0)).1 := by
  have := h j (j + 1) (by omega) hj (by omega)
  rw [List.getD_eq_getElem?_getD, List.getElem?_eq_getElem (by omega), List.getD_eq_getElem?_getD, List.getElem?_eq_getElem hj]
  exact this
set_option maxRecDepth 100000 in
set_option maxHeartbeats 2000000 in
theorem clash_any (a : Option Addr) (len cap : Nat) (ds : List (Nat × Nat)) (w : World) (hl : ds.length = len) (h12 : len ≤ 12) (hrow : RowS w a len ds) (hsm : Small ds) :
    Calls Try.prog 35 #[.slice a len cap] w (ClashPost w ds) := by
  have hasc := ascending_any a len cap ds w hl h12 hrow
  have hfl : (full ds).length ≤ len := by rw [← hl]; exact List.length_filter_le _ _
  have HA := Lib.hid hasc
  have HSM := Lib.hid hsm
  clear hasc hrow hsm hl
  go_enter Try.func35, Try.ntmps35
  go_wp2_with fail
  refine HA.out.mono ?_
  rintro e w1 ⟨ao, cap1, d, rfl, hperm, hascd, hrd, hb1⟩
  have hdl : d.length ≤ 12 := by rw [hperm.length_eq]; omega
  have HD : Hid (Small d) := Lib.hid (small_of_perm HSM.out hperm)
  have HP := Lib.hid hperm
  have HAS := Lib.hid hascd
  have HR := Lib.hid hrd
  clear hperm hascd hrd HA
  have hws1 := hb1.size
  go_wp2
  go_loopw [4] (fun i wr => ∃ j : Nat, j ≤ 12 ∧ i = .int .i64 ((j : Int) + 1) ∧ clashL (d.drop j) = clashL d ∧ Below w1.heap.size w1 wr) (fun i _ => (13 - intOf i).toNat)
  case atStart => exact ⟨0, by omega, rfl, rfl, Below.refl _ _⟩
  case round =>
    obtain ⟨j, hj, rfl, hinv, hg⟩ := hrel
    have HINV := Lib.hid hinv
    have hws := hg.size
    clear hinv
    by_cases hlt : j + 1 < d.length
    · obtain ⟨b, off, hao, hb, hc1, hc2⟩ := HR.out j (by omega)
      obtain ⟨b', off', hao', hb', hc1', hc2'⟩ := HR.out (j + 1) hlt
      rw [hao] at hao'
      simp only [Option.some.injEq, Addr.mk.injEq, and_true] at hao'
      obtain ⟨rfl, rfl⟩ := hao'
      subst hao
      have hc1w := (hg.cell (p := ⟨b, off + j * 2, none⟩) hb).trans hc1
      have hc2w := (hg.cell (p := ⟨b, off + j * 2 + 1, none⟩) hb).trans hc2
      have hc3w := (hg.cell (p := ⟨b, off + (j + 1) * 2, none⟩) hb).trans hc1'
      clear hc1 hc2 hc1' hc2'
      have hstep := clash_step d j hlt
      have hle := asc_getD HAS.out j hlt
      have hmem : d.getD (j + 1) (0, 0) ∈ d := by rw [List.getD_eq_getElem?_getD, List.getElem?_eq_getElem hlt]; exact List.getElem_mem _
      have hsm := HD.out _ hmem
      generalize (d.getD (j + 1) (0, 0)).1 = x2 at *
      generalize d.getD j (0, 0) = p at *
      obtain ⟨x, y⟩ := p
      simp only at hc1w hc2w hstep hle
      have hsub := u64_sub' x2 x hle hsm.1
      have HST := Lib.hid hstep
      clear hstep hmem hsm
      have hi0 : (0 : Int) ≤ (j : Int) := by omega
      have hi1 : (j : Int) < (d.length : Int) := by omega
      have hi2 : (0 : Int) ≤ (j : Int) + 1 := by omega
      have hi3 : (j : Int) + 1 < (d.length : Int) := by omega
      have hi4 : ((j : Int) + 1).toNat = j + 1 := by omega
      generalize x2 - x = df at *
      by_cases hcl : df < y
      · have hd : decide (df < y) = true := by simpa using hcl
        go_wp2_with fail
        go_quiet (fail)
        have hfin : clashL d = true := by rw [← HINV.out, HST.out]; simp [hcl]
        have HFIN := Lib.hid hfin
        have HG := Lib.hid (hb1.trans ((below_drewN hg nq).mono hws1))
        clear hsub hc1w hc2w hc3w hfin hg
        go_wp2
        go_ret
        exact ⟨d, HP.out, HAS.out, by rw [HFIN.out]; rfl, HG.out⟩
      · have hd : decide (df < y) = false := by simpa using hcl
        go_wp2_with fail
        go_quiet (fail)
        have hfin : clashL (d.drop (j + 1)) = clashL d := by rw [← HINV.out, HST.out]; simp [hcl]
        have HFIN := Lib.hid hfin
        have HG := Lib.hid (below_drewN hg nq)
        clear hsub hc1w hc2w hc3w hfin hg
        go_wp2
        go_roundw
        case rel => exact ⟨j + 1, by omega, by go_num, HFIN.out, HG.out⟩
        case measure => simp [intOf]; omega
    · have hfin : clashL d = false := by rw [← HINV.out]; exact clash_short d j hlt
      have HFIN := Lib.hid hfin
      have hd : decide ((j : Int) + 1 < (d.length : Int)) = false := by simp; omega
      clear hfin
      go_wp2
      go_ret
      exact ⟨d, HP.out, HAS.out, by rw [HFIN.out]; rfl, hb1.trans (hg.mono hws1)⟩
theorem perm_pair {d : List (Nat × Nat)} {a b : Nat × Nat} (h : d.Perm [a, b]) (hs : Asc d) (hab : a.1 < b.1) : d = [a, b] := by
  have hl := h.length_eq
  match d, hl with
  | [p, q], _ =>
    have ha : a ∈ [p, q] := h.mem_iff.2 (by simp)
    have hb : b ∈ [p, q] := h.mem_iff.2 (by simp)
    have h01 := hs 0 1 (by simp) (by simp) (by omega)
    simp at ha hb h01
    rcases ha with rfl | rfl <;> rcases hb with rfl | rfl
    · omega
    · rfl
    · omega
    · omega
theorem row_two (w : World) (b x1 y1 x2 y2 : Nat) (hb : b = w.heap.size) :
    RowS (w.alloc (.cells #[.int .u64 (x1 : Int), .int .u64 (y1 : Int), .int .u64 (x2 : Int), .int .u64 (y2 : Int)] 52)) (some ⟨b, 0, none⟩) 2 [(x1, y1), (x2, y2)] := by
  subst hb
  intro k hk
  refine ⟨w.heap.size, 0, rfl, by simp, ?_⟩
  match k, hk with
  | 0, _ => simp
  | 1, _ => simp
theorem small_two (x1 y1 x2 y2 : Nat) (h1 : x1 < 2 ^ 64) (h2 : y1 < 2 ^ 64) (h3 : x2 < 2 ^ 64) (h4 : y2 < 2 ^ 64) : Small [(x1, y1), (x2, y2)] := by
  intro s hs
  simp at hs
  rcases hs with rfl | rfl
  · exact ⟨h1, h2⟩
  · exact ⟨h3, h4⟩
/-- Gaps at the document's example. -/
theorem gaps_example (b : Nat) (w : World) (hb : b = w.heap.size) :
    Calls Try.prog 32 #[.int .u64 10, .slice (some ⟨b, 0, none⟩) 2 2] (w.alloc (.cells #[.int .u64 2, .int .u64 3, .int .u64 4, .int .u64 2] 52)) fun e w' =>
      ∃ g off cap, e = .returned (.slice (some ⟨g, off, none⟩) 2 cap) ∧ w'.cell? ⟨g, off, none⟩ = some (.int .u64 0) ∧ w'.cell? ⟨g, off + 1, none⟩ = some (.int .u64 2) ∧ w'.cell? ⟨g, off + 2, none⟩ = some (.int .u64 6) ∧ w'.cell? ⟨g, off + 3, none⟩ = some (.int .u64 4) ∧ g < w'.heap.size ∧ Below w.heap.size w w' := by
  have h := gaps_any 10 (some ⟨b, 0, none⟩) 2 2 [(2, 3), (4, 2)] (w.alloc (.cells #[.int .u64 (2 : Nat), .int .u64 (3 : Nat), .int .u64 (4 : Nat), .int .u64 (2 : Nat)] 52)) (by decide) rfl (by decide) (row_two w b 2 3 4 2 hb) (small_two 2 3 4 2 (by decide) (by decide) (by decide) (by decide))
  refine Calls.mono h ?_
  rintro e w' ⟨ao, cap, d, hp, hs, he, hrow, hbel⟩
  have hf : full [(2, 3), (4, 2)] = [(2, 3), (4, 2)] := by decide
  rw [hf] at hp
  have hd := perm_pair hp hs (by decide)
  subst hd
  have hg : gapsGo 10 [(2, 3), (4, 2)] 0 = [(0, 2), (6, 4)] := by decide
  rw [hg] at he hrow
  obtain ⟨g, off, rfl, hgl, h0, h1⟩ := hrow 0 (by decide)
  obtain ⟨g', off', hg', _, h2, h3⟩ := hrow 1 (by decide)
  simp only [Option.some.injEq, Addr.mk.injEq, and_true] at hg'
  obtain ⟨rfl, rfl⟩ := hg'
  exact ⟨g, off, cap, he, h0, h1, h2, h3, hgl, ((Below.refl _ _).alloc (Nat.le_refl _) _).trans (hbel.mono (by simp))⟩
theorem clash_example (b : Nat) (w : World) (hb : b = w.heap.size) :
    Calls Try.prog 35 #[.slice (some ⟨b, 0, none⟩) 2 2] (w.alloc (.cells #[.int .u64 0, .int .u64 2, .int .u64 1, .int .u64 1] 52)) fun e w' => e = .returned (.bool true) ∧ Below w.heap.size w w' := by
  have h := clash_any (some ⟨b, 0, none⟩) 2 2 [(0, 2), (1, 1)] (w.alloc (.cells #[.int .u64 (0 : Nat), .int .u64 (2 : Nat), .int .u64 (1 : Nat), .int .u64 (1 : Nat)] 52)) rfl (by decide) (row_two w b 0 2 1 1 hb) (small_two 0 2 1 1 (by decide) (by decide) (by decide) (by decide))
  refine Calls.mono h ?_
  rintro e w' ⟨d, hp, hs, he, hbel⟩
  have hf : full [(0, 2), (1, 1)] = [(0, 2), (1, 1)] := by decide
  rw [hf] at hp
  have hd := perm_pair hp hs (by decide)
  subst hd
  exact ⟨he, ((Below.refl _ _).alloc (Nat.le_refl _) _).trans (hbel.mono (by simp))⟩
theorem round_example (w : World) : Calls Try.prog 28 #[.int .u64 5, .int .u64 4] w fun e w' => e = .returned (.tuple #[.int .u64 8, .bool true]) ∧ Below w.heap.size w w' :=
  round_any 5 4 w (by decide) (by decide)
set_option maxRecDepth 100000 in
set_option maxHeartbeats 1000000 in
theorem speaks2 (w : World) : Calls Try.prog 24 #[] w fun e w' => e = .returned (.bool true) ∧ Below w.heap.size w w' := by
  go_enter Try.func24, Try.ntmps24
  go_wp2_with fail
  refine (gaps_example _ _ rfl).mono ?_
  rintro e w1 ⟨g, off, cap, rfl, h0, h1, h2, h3, hgl, hb1⟩
  go_wp2_with fail
  refine (round_example _).mono ?_
  rintro e w2 ⟨rfl, hb2⟩
  have k0 := (hb2.cell (p := ⟨g, off, none⟩) hgl).trans h0
  have k1 := (hb2.cell (p := ⟨g, off + 1, none⟩) hgl).trans h1
  have k2 := (hb2.cell (p := ⟨g, off + 2, none⟩) hgl).trans h2
  have k3 := (hb2.cell (p := ⟨g, off + 3, none⟩) hgl).trans h3
  clear h0 h1 h2 h3
  go_wp2_with fail
  refine (clash_example _ _ rfl).mono ?_
  rintro e w3 ⟨rfl, hb3⟩
  go_wp2
  go_ret
  exact ⟨rfl, (hb1.trans (hb2.mono hb1.size)).trans (hb3.mono (Nat.le_trans hb1.size hb2.size))⟩
end Go.Proofs.Ytibgcnggimlbcaa
