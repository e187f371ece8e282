/- Contracts of a header's package, by gen_hdr.py. Conditions: those written in each theorem. -/
import Derived.Laws.CopyOwn
import Derived.Laws.Tables
import Derived.Test.YtmbndepgkglaeaaDoorSA
namespace Go.Proofs.YtmbndepgkglaeaaDoor
open Go.RowKit
namespace Dec
/-- A number's value out of its decimal digits. -/
def val (l : List UInt8) : Nat := l.foldl (fun a c => 10 * a + (c.toNat - 48)) 0
theorem val_snoc (l : List UInt8) (c : UInt8) : val (l ++ [c]) = 10 * val l + (c.toNat - 48) := by simp [val]
theorem dig (d : Nat) (h : d < 10) : (UInt8.ofNat (48 + d)).toNat = 48 + d := by
  have : ∀ d : Fin 10, (UInt8.ofNat (48 + d.1)).toNat = 48 + d.1 := by decide
  exact this ⟨d, h⟩
theorem val_dec (u : Nat) : val (Lib.decDigits u) = u := by
  induction u using Nat.strongRecOn with
  | _ u ih =>
    rw [Lib.decDigits]
    by_cases h : u < 10
    · rw [dif_pos h]
      show 10 * 0 + ((UInt8.ofNat (48 + u)).toNat - 48) = u
      rw [dig u h]; omega
    · rw [dif_neg h, val_snoc, ih (u / 10) (by omega), dig _ (Nat.mod_lt _ (by decide))]
      omega
theorem dec_inj (a b : Nat) (h : Lib.decDigits a = Lib.decDigits b) : a = b := by rw [← val_dec a, ← val_dec b, h]
theorem dec_mem (u : Nat) : ∀ c ∈ Lib.decDigits u, c.toNat < 58 := by
  induction u using Nat.strongRecOn with
  | _ u ih =>
    rw [Lib.decDigits]
    by_cases h : u < 10
    · rw [dif_pos h]
      intro c hc
      rw [List.mem_singleton] at hc
      subst hc
      rw [dig u h]; omega
    · rw [dif_neg h]
      intro c hc
      rcases List.mem_append.1 hc with hc | hc
      · exact ih (u / 10) (by omega) c hc
      · rw [List.mem_singleton] at hc
        subst hc
        rw [dig _ (Nat.mod_lt _ (by decide))]; omega
/-- A number's name: the table's, or its decimal digits. -/
def look (tab : List (Nat × List UInt8)) (n : Nat) : List UInt8 := ((tab.find? fun p => p.1 == n).map (·.2)).getD (Lib.decDigits n)
def tabOk (tab : List (Nat × List UInt8)) : Bool := tab.all fun p => p.2.any (fun c => decide (58 ≤ c.toNat)) && tab.all fun q => p.2 != q.2 || p.1 == q.1
theorem look_some {tab : List (Nat × List UInt8)} {n : Nat} {p : Nat × List UInt8} (h : tab.find? (fun p => p.1 == n) = some p) : look tab n = p.2 := by simp [look, h]
theorem look_none {tab : List (Nat × List UInt8)} {n : Nat} (h : tab.find? (fun p => p.1 == n) = none) : look tab n = Lib.decDigits n := by simp [look, h]
theorem no_word {l : List UInt8} {n : Nat} (hl : l.any (fun c => decide (58 ≤ c.toNat)) = true) (h : Lib.decDigits n = l) : False := by
  rw [← h] at hl
  obtain ⟨c, hc, h58⟩ := List.any_eq_true.1 hl
  have := dec_mem n c hc
  simp at h58
  omega
theorem look_inj (tab : List (Nat × List UInt8)) (ok : tabOk tab = true) (a b : Nat) (h : look tab a = look tab b) : a = b := by
  have hall := List.all_eq_true.1 ok
  cases ea : tab.find? (fun p => p.1 == a) with
  | none =>
    rw [look_none ea] at h
    cases eb : tab.find? (fun p => p.1 == b) with
    | none => rw [look_none eb] at h; exact dec_inj a b h
    | some q =>
      rw [look_some eb] at h
      have hq := hall q (List.mem_of_find?_eq_some eb)
      simp only [Bool.and_eq_true] at hq
      exact (no_word hq.1 h).elim
  | some p =>
    rw [look_some ea] at h
    have hp := hall p (List.mem_of_find?_eq_some ea)
    simp only [Bool.and_eq_true] at hp
    cases eb : tab.find? (fun p => p.1 == b) with
    | none => rw [look_none eb] at h; exact (no_word hp.1 h.symm).elim
    | some q =>
      rw [look_some eb] at h
      have hpa : p.1 = a := by simpa using List.find?_some ea
      have hqb : q.1 = b := by simpa using List.find?_some eb
      have h2 := List.all_eq_true.1 hp.2 q (List.mem_of_find?_eq_some eb)
      rw [h] at h2
      simp at h2
      omega
theorem look_beq (tab : List (Nat × List UInt8)) (ok : tabOk tab = true) (a b : Nat) : (look tab a == look tab b) = ((a : Int) == (b : Int)) := by
  rw [Bool.eq_iff_iff, beq_iff_eq, beq_iff_eq]
  constructor
  · intro h; rw [look_inj tab ok a b h]
  · intro h; rw [show a = b by omega]
end Dec
def bindTab : List (Nat × List UInt8) := [(0, [76, 79, 67, 65, 76]), (1, [71, 76, 79, 66, 65, 76]), (2, [87, 69, 65, 75])]
def kindTab : List (Nat × List UInt8) := [(0, [78, 79, 84, 89, 80, 69]), (1, [79, 66, 74, 69, 67, 84]), (2, [70, 85, 78, 67]), (3, [83, 69, 67, 84, 73, 79, 78]), (4, [70, 73, 76, 69]), (5, [67, 79, 77, 77, 79, 78]), (6, [84, 76, 83])]
def placeTab : List (Nat × List UInt8) := [(0, [85, 78, 68]), (65521, [65, 66, 83]), (65522, [67, 79, 77])]
def bindCells : List Value := [.string ⟨#[76, 79, 67, 65, 76]⟩, .string ⟨#[71, 76, 79, 66, 65, 76]⟩, .string ⟨#[87, 69, 65, 75]⟩]
def kindCells : List Value := [.string ⟨#[78, 79, 84, 89, 80, 69]⟩, .string ⟨#[79, 66, 74, 69, 67, 84]⟩, .string ⟨#[70, 85, 78, 67]⟩, .string ⟨#[83, 69, 67, 84, 73, 79, 78]⟩, .string ⟨#[70, 73, 76, 69]⟩, .string ⟨#[67, 79, 77, 77, 79, 78]⟩, .string ⟨#[84, 76, 83]⟩]
theorem bindTab_ok : Dec.tabOk bindTab = true := by decide
theorem kindTab_ok : Dec.tabOk kindTab = true := by decide
theorem placeTab_ok : Dec.tabOk placeTab = true := by decide
/-- The package variables as they are laid: symrec's tables and the powers of ten. -/
structure TabsY (w : World) : Prop where
  size : 3 < w.heap.size
  pow : Lib.TabIs Tryd.prog w "internal/strconv.uint64pow10" .u64 Lib.pow10Tab
  binds : w.rangeAt 1 0 bindCells
  kinds : w.rangeAt 2 0 kindCells
theorem gPow : Tryd.prog.globalNamed "internal/strconv.uint64pow10" = some 3 := by kernel_rfl
theorem TabsY.kept {w w' : World} (h : TabsY w) (hb : Below w.heap.size w w') : TabsY w' where
  size := Nat.lt_of_lt_of_le h.size hb.size
  pow := by
    have h1 := h.pow
    unfold Lib.TabIs World.var? at h1 ⊢
    rw [gPow] at h1 ⊢
    simp only [Option.bind_some] at h1 ⊢
    rw [hb.block 3 h.size]
    exact h1
  binds := fun j v hv => by rw [hb.cell (by have := h.size; show 1 < _; omega)]; exact h.binds j v hv
  kinds := fun j v hv => by rw [hb.cell (by have := h.size; show 2 < _; omega)]; exact h.kinds j v hv
theorem bind0 (w : World) (h : TabsY w) : Calls Tryd.prog 9 #[.int .u64 0] w fun e w' => e = .returned (.string ⟨#[76, 79, 67, 65, 76]⟩) ∧ Below w.heap.size w w' := by
  have h1 : w.cell? ⟨1, 0, none⟩ = some (.string ⟨#[76, 79, 67, 65, 76]⟩) := h.binds 0 _ rfl
  clear h
  go_enter Tryd.func9, Tryd.ntmps9
  go_wp2
  go_ret
  exact ⟨rfl, Below.refl _ _⟩
theorem bind1 (w : World) (h : TabsY w) : Calls Tryd.prog 9 #[.int .u64 1] w fun e w' => e = .returned (.string ⟨#[71, 76, 79, 66, 65, 76]⟩) ∧ Below w.heap.size w w' := by
  have h1 : w.cell? ⟨1, 1, none⟩ = some (.string ⟨#[71, 76, 79, 66, 65, 76]⟩) := h.binds 1 _ rfl
  clear h
  go_enter Tryd.func9, Tryd.ntmps9
  go_wp2
  go_ret
  exact ⟨rfl, Below.refl _ _⟩
theorem bind2 (w : World) (h : TabsY w) : Calls Tryd.prog 9 #[.int .u64 2] w fun e w' => e = .returned (.string ⟨#[87, 69, 65, 75]⟩) ∧ Below w.heap.size w w' := by
  have h1 : w.cell? ⟨1, 2, none⟩ = some (.string ⟨#[87, 69, 65, 75]⟩) := h.binds 2 _ rfl
  clear h
  go_enter Tryd.func9, Tryd.ntmps9
  go_wp2
  go_ret
  exact ⟨rfl, Below.refl _ _⟩
theorem bind_else (n : Nat) (hn : n < 2 ^ 64) (h8 : 3 ≤ n) (w : World) (h : TabsY w) : Calls Tryd.prog 9 #[.int .u64 n] w fun e w' => e = .returned (.string ⟨(Lib.decDigits n).toArray⟩) ∧ Below w.heap.size w w' := by
  have HT := Lib.hid h; clear h
  have HN := Lib.hid hn; clear hn
  have hd : decide ((n : Int) < 3) = false := by simp; omega
  have hd2 : ¬ (n : Int) < 3 := by omega
  go_enter Tryd.func9, Tryd.ntmps9
  go_wp2_with fail
  refine (decimal_any n HN.out _ HT.out.pow).mono ?_
  rintro e w1 ⟨rfl, h1⟩
  go_wp2
  go_ret
  exact ⟨rfl, h1⟩
theorem bindName (n : Nat) (hn : n < 2 ^ 64) (w : World) (h : TabsY w) : Calls Tryd.prog 9 #[.int .u64 n] w fun e w' => e = .returned (.string ⟨(Dec.look bindTab n).toArray⟩) ∧ Below w.heap.size w w' := by
  match n with
  | 0 => exact bind0 w h
  | 1 => exact bind1 w h
  | 2 => exact bind2 w h
  | n + 3 =>
    have e : Dec.look bindTab (n + 3) = Lib.decDigits (n + 3) := Dec.look_none (by simp [bindTab])
    rw [e]
    exact bind_else (n + 3) hn (by omega) w h
theorem kind0 (w : World) (h : TabsY w) : Calls Tryd.prog 10 #[.int .u64 0] w fun e w' => e = .returned (.string ⟨#[78, 79, 84, 89, 80, 69]⟩) ∧ Below w.heap.size w w' := by
  have h1 : w.cell? ⟨2, 0, none⟩ = some (.string ⟨#[78, 79, 84, 89, 80, 69]⟩) := h.kinds 0 _ rfl
  clear h
  go_enter Tryd.func10, Tryd.ntmps10
  go_wp2
  go_ret
  exact ⟨rfl, Below.refl _ _⟩
theorem kind1 (w : World) (h : TabsY w) : Calls Tryd.prog 10 #[.int .u64 1] w fun e w' => e = .returned (.string ⟨#[79, 66, 74, 69, 67, 84]⟩) ∧ Below w.heap.size w w' := by
  have h1 : w.cell? ⟨2, 1, none⟩ = some (.string ⟨#[79, 66, 74, 69, 67, 84]⟩) := h.kinds 1 _ rfl
  clear h
  go_enter Tryd.func10, Tryd.ntmps10
  go_wp2
  go_ret
  exact ⟨rfl, Below.refl _ _⟩
theorem kind2 (w : World) (h : TabsY w) : Calls Tryd.prog 10 #[.int .u64 2] w fun e w' => e = .returned (.string ⟨#[70, 85, 78, 67]⟩) ∧ Below w.heap.size w w' := by
  have h1 : w.cell? ⟨2, 2, none⟩ = some (.string ⟨#[70, 85, 78, 67]⟩) := h.kinds 2 _ rfl
  clear h
  go_enter Tryd.func10, Tryd.ntmps10
  go_wp2
  go_ret
  exact ⟨rfl, Below.refl _ _⟩
theorem kind3 (w : World) (h : TabsY w) : Calls Tryd.prog 10 #[.int .u64 3] w fun e w' => e = .returned (.string ⟨#[83, 69, 67, 84, 73, 79, 78]⟩) ∧ Below w.heap.size w w' := by
  have h1 : w.cell? ⟨2, 3, none⟩ = some (.string ⟨#[83, 69, 67, 84, 73, 79, 78]⟩) := h.kinds 3 _ rfl
  clear h
  go_enter Tryd.func10, Tryd.ntmps10
  go_wp2
  go_ret
  exact ⟨rfl, Below.refl _ _⟩
theorem kind4 (w : World) (h : TabsY w) : Calls Tryd.prog 10 #[.int .u64 4] w fun e w' => e = .returned (.string ⟨#[70, 73, 76, 69]⟩) ∧ Below w.heap.size w w' := by
  have h1 : w.cell? ⟨2, 4, none⟩ = some (.string ⟨#[70, 73, 76, 69]⟩) := h.kinds 4 _ rfl
  clear h
  go_enter Tryd.func10, Tryd.ntmps10
  go_wp2
  go_ret
  exact ⟨rfl, Below.refl _ _⟩
theorem kind5 (w : World) (h : TabsY w) : Calls Tryd.prog 10 #[.int .u64 5] w fun e w' => e = .returned (.string ⟨#[67, 79, 77, 77, 79, 78]⟩) ∧ Below w.heap.size w w' := by
  have h1 : w.cell? ⟨2, 5, none⟩ = some (.string ⟨#[67, 79, 77, 77, 79, 78]⟩) := h.kinds 5 _ rfl
  clear h
  go_enter Tryd.func10, Tryd.ntmps10
  go_wp2
  go_ret
  exact ⟨rfl, Below.refl _ _⟩
theorem kind6 (w : World) (h : TabsY w) : Calls Tryd.prog 10 #[.int .u64 6] w fun e w' => e = .returned (.string ⟨#[84, 76, 83]⟩) ∧ Below w.heap.size w w' := by
  have h1 : w.cell? ⟨2, 6, none⟩ = some (.string ⟨#[84, 76, 83]⟩) := h.kinds 6 _ rfl
  clear h
  go_enter Tryd.func10, Tryd.ntmps10
  go_wp2
  go_ret
  exact ⟨rfl, Below.refl _ _⟩
theorem kind_else (n : Nat) (hn : n < 2 ^ 64) (h8 : 7 ≤ n) (w : World) (h : TabsY w) : Calls Tryd.prog 10 #[.int .u64 n] w fun e w' => e = .returned (.string ⟨(Lib.decDigits n).toArray⟩) ∧ Below w.heap.size w w' := by
  have HT := Lib.hid h; clear h
  have HN := Lib.hid hn; clear hn
  have hd : decide ((n : Int) < 7) = false := by simp; omega
  have hd2 : ¬ (n : Int) < 7 := by omega
  go_enter Tryd.func10, Tryd.ntmps10
  go_wp2_with fail
  refine (decimal_any n HN.out _ HT.out.pow).mono ?_
  rintro e w1 ⟨rfl, h1⟩
  go_wp2
  go_ret
  exact ⟨rfl, h1⟩
theorem kindName (n : Nat) (hn : n < 2 ^ 64) (w : World) (h : TabsY w) : Calls Tryd.prog 10 #[.int .u64 n] w fun e w' => e = .returned (.string ⟨(Dec.look kindTab n).toArray⟩) ∧ Below w.heap.size w w' := by
  match n with
  | 0 => exact kind0 w h
  | 1 => exact kind1 w h
  | 2 => exact kind2 w h
  | 3 => exact kind3 w h
  | 4 => exact kind4 w h
  | 5 => exact kind5 w h
  | 6 => exact kind6 w h
  | n + 7 =>
    have e : Dec.look kindTab (n + 7) = Lib.decDigits (n + 7) := Dec.look_none (by simp [kindTab])
    rw [e]
    exact kind_else (n + 7) hn (by omega) w h
theorem place0 (w : World) : Calls Tryd.prog 11 #[.int .u64 0] w fun e w' => e = .returned (.string ⟨#[85, 78, 68]⟩) ∧ Below w.heap.size w w' := by
  go_enter Tryd.func11, Tryd.ntmps11
  go_wp2
  go_ret
  exact ⟨rfl, Below.refl _ _⟩
theorem place65521 (w : World) : Calls Tryd.prog 11 #[.int .u64 65521] w fun e w' => e = .returned (.string ⟨#[65, 66, 83]⟩) ∧ Below w.heap.size w w' := by
  go_enter Tryd.func11, Tryd.ntmps11
  go_wp2
  go_ret
  exact ⟨rfl, Below.refl _ _⟩
theorem place65522 (w : World) : Calls Tryd.prog 11 #[.int .u64 65522] w fun e w' => e = .returned (.string ⟨#[67, 79, 77]⟩) ∧ Below w.heap.size w w' := by
  go_enter Tryd.func11, Tryd.ntmps11
  go_wp2
  go_ret
  exact ⟨rfl, Below.refl _ _⟩
theorem place_else (n : Nat) (hn : n < 2 ^ 64) (h0 : n ≠ 0) (h1 : n ≠ 65521) (h2 : n ≠ 65522) (w : World) (h : TabsY w) : Calls Tryd.prog 11 #[.int .u64 n] w fun e w' => e = .returned (.string ⟨(Lib.decDigits n).toArray⟩) ∧ Below w.heap.size w w' := by
  have HT := Lib.hid h; clear h
  have HN := Lib.hid hn; clear hn
  have e0 : ((n : Int) == 0) = false := by simp; omega
  have e1 : ((n : Int) == 65521) = false := by simp; omega
  have e2 : ((n : Int) == 65522) = false := by simp; omega
  clear h0 h1 h2
  go_enter Tryd.func11, Tryd.ntmps11
  go_wp2_with fail
  refine (decimal_any n HN.out _ HT.out.pow).mono ?_
  rintro e w1 ⟨rfl, h1⟩
  go_wp2
  go_ret
  exact ⟨rfl, h1⟩
theorem placeName (n : Nat) (hn : n < 2 ^ 64) (w : World) (h : TabsY w) : Calls Tryd.prog 11 #[.int .u64 n] w fun e w' => e = .returned (.string ⟨(Dec.look placeTab n).toArray⟩) ∧ Below w.heap.size w w' := by
  by_cases h0 : n = 0
  · subst h0; exact place0 w
  by_cases h1 : n = 65521
  · subst h1; exact place65521 w
  by_cases h2 : n = 65522
  · subst h2; exact place65522 w
  have e : Dec.look placeTab n = Lib.decDigits n := Dec.look_none (by simp [placeTab]; omega)
  rw [e]
  exact place_else n hn h0 h1 h2 w h
end Go.Proofs.YtmbndepgkglaeaaDoor
