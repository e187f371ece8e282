/- Contracts of strings.HasSuffix and of strtab's Find. Conditions: those written in each theorem. -/
import Derived.Test.YtddlflabdlgnbaaT
import Derived.Test.YtddlflabdlgnbaaTC
import Derived.Maps.AppendAt
namespace Go.Proofs.Ytddlflabdlgnbaa
open Go.RowKit Go.Shelf
attribute [local go_sem] Oper.semAt_some
/-- Whether s ends with p. -/
def ends (s p : ByteArray) : Bool := decide (p.size ≤ s.size) && ((s.extract (s.size - p.size) s.size).toList == p.toList)
theorem hs0_any (s p : ByteArray) (w : World) (hm : s.size ≤ maxLen) : Calls Try.prog 83 #[.string s, .string p] w fun e w' => e = .returned (.bool (ends s p)) ∧ w = w' := by
  unfold maxLen at hm
  by_cases h : p.size ≤ s.size
  · have hd : decide (p.size ≤ s.size) = true := by simp [h]
    have hw : IntKind.i64.wrap ((s.size : Int) - (p.size : Int)) = ((s.size - p.size : Nat) : Int) := by rw [IntWalk.i64_in _ (by omega)]; omega
    have hi0 : (0 : Int) ≤ ((s.size - p.size : Nat) : Int) := by omega
    have hi1 : ((s.size - p.size : Nat) : Int) ≤ (s.size : Int) := by omega
    have he : ends s p = ((s.extract (s.size - p.size) s.size).toList == p.toList) := by simp [ends, h]
    rw [he]
    generalize s.size - p.size = k at *
    go_enter Try.func83, Try.ntmps83
    go_wp2
    go_ret
    exact ⟨rfl, rfl⟩
  · have hd : decide (p.size ≤ s.size) = false := by simp [h]
    have he : ends s p = false := by simp [ends, h]
    rw [he]
    go_enter Try.func83, Try.ntmps83
    go_wp2
    go_ret
    exact ⟨rfl, rfl⟩
theorem hs_any (s p : ByteArray) (w : World) (hm : s.size ≤ maxLen) : Calls Try.prog 56 #[.string s, .string p] w fun e w' => e = .returned (.bool (ends s p)) ∧ w = w' := by
  have HC := Lib.hid (hs0_any s p w hm)
  generalize ends s p = b at *
  go_enter Try.func56, Try.ntmps56
  go_wp2_with fail
  refine HC.out.mono ?_
  rintro e w1 ⟨rfl, rfl⟩
  go_wp2
  go_ret
  exact ⟨rfl, rfl⟩
/-- What Find answers: the place in the first text that ends with the name. -/
def findOf (t name : ByteArray) : Value :=
  match (partsOf t).find? (fun x => ends x.2 name) with
  | some x => .tuple #[.int .u64 ((x.1 + x.2.size - name.size : Nat) : Int), .bool true]
  | none => .tuple #[.int .u64 0, .bool false]
theorem find_first {α : Type} (f : α → Bool) (a b : List α) (x : α) (ha : ∀ y ∈ a, f y = false) (hx : f x = true) : (a ++ ([x] ++ b)).find? f = some x := by
  have : a.find? f = none := by
    rw [List.find?_eq_none]
    intro y hy
    rw [ha y hy]
    decide
  rw [List.find?_append, this]
  simp [hx]
set_option maxRecDepth 100000 in
set_option maxHeartbeats 2000000 in
theorem find_any (n : Nat) (hn : 3 ≤ n) (t name : ByteArray) (hm : t.size ≤ maxLen) (w : World) :
    CallsIn Fence.wide n Try.prog 19 #[.string t, .string name] w fun e W' => e = .returned (findOf t name) ∧ Below w.heap.size w W' := by
  have h1 : 1 ≤ n := by omega
  refine callsIn_of_wp_marks Try.func19 rfl trivial ?_ rfl
  simp only [Try.ntmps19, List.size_toArray, List.length_cons, List.length_nil, Nat.reduceAdd, Nat.reduceSub, Array.replicate_succ, Array.replicate_zero, List.push_toArray, List.append_toArray, List.nil_append, List.cons_append]
  gi_wp2
  refine ⟨trivial, (texts_in t _ _).mono ?_⟩
  rintro e w' ⟨rfl, rfl⟩
  gi_wp2
  have bA := Boxed.new w 9 (.string name)
  have bB := Boxed.new (w.alloc (.cells #[.string name] 9)) 32 (.int .u64 0)
  have bC := Boxed.new ((w.alloc (.cells #[.string name] 9)).alloc (.cells #[.int .u64 0] 32)) 4 (.bool false)
  have bD := Boxed.new (((w.alloc (.cells #[.string name] 9)).alloc (.cells #[.int .u64 0] 32)).alloc (.cells #[.bool false] 4)) 9 (.string t)
  simp only [World.size_alloc] at bB bC bD
  have hB0 : Below w.heap.size w ((((w.alloc (.cells #[.string name] 9)).alloc (.cells #[.int .u64 0] 32)).alloc (.cells #[.bool false] 4)).alloc (.cells #[.string t] 9)) := ((((Below.refl _ w).alloc (Nat.le_refl _) _).alloc (by simp) _).alloc (by simp; omega) _).alloc (by simp; omega) _
  refine wpIn_rangeFunc_ownG rfl h1 (gf := 82) (lb := #[.pointer (some ⟨w.heap.size + 1 + 1 + 1, 0, none⟩)]) rfl trivial (enters_of Try.func82 (by kernel_rfl) rfl)
    (texts_stops (n - 1) (w.heap.size + 1 + 1 + 1) (by omega) t hm _ (by simp) bD.cell) Holds.t (fun W l o o' _ e hc _ => Holds.b W l o o' e hc) (Below.refl _ _) (fun _ => rfl)
    (fun pre W => ((∀ x ∈ pre, ends x.1.2 name = false) ∧ Boxed W w.heap.size 9 (.string name) ∧ Boxed W (w.heap.size + 1) 32 (.int .u64 0) ∧ Boxed W (w.heap.size + 1 + 1) 4 (.bool false) ∧ Boxed W (w.heap.size + 1 + 1 + 1) 9 (.string t)) ∧ Below w.heap.size w W)
    (fun c pre W => (c = .ret ∧ ∃ ini last, pre = ini ++ [last] ∧ (∀ x ∈ ini, ends x.1.2 name = false) ∧ ends last.1.2 name = true ∧ Boxed W (w.heap.size + 1) 32 (.int .u64 ((last.1.1 : Int) + (last.1.2.size : Int) - (name.size : Int))) ∧ Boxed W (w.heap.size + 1 + 1) 4 (.bool true)) ∧ Below w.heap.size w W)
    (OwnFrom.and (OwnFrom.and (fun _ _ _ _ hs _ _ => hs) (OwnFrom.and (Own.from (boxed_own _ _ _) _) (OwnFrom.and (Own.from (boxed_own _ _ _) _) (OwnFrom.and (Own.from (boxed_own _ _ _) _) (Own.from (boxed_own _ _ _) _))))) (ownFrom_below (Nat.le_refl _) (by simp; omega)))
    (fun c => OwnFrom.and (Own.from (fun s A B row hs hg hr => by
      obtain ⟨hc, ini, last, e1, e2, e3, e4, e5⟩ := hs
      exact ⟨hc, ini, last, e1, e2, e3, boxed_own _ _ (fun _ : Unit => _) () A B row e4 hg hr, boxed_own _ _ (fun _ : Unit => _) () A B row e5 hg hr⟩) _) (ownFrom_below (Nat.le_refl _) (by simp; omega)))
    ⟨⟨by simp, ((bA.alloc _).alloc _).alloc _, (bB.alloc _).alloc _, bC.alloc _, bD⟩, hB0⟩
    (fun x => { tmps := #[.string t, .string name, undef, .pointer (some ⟨w.heap.size, 0, none⟩), .pointer (some ⟨w.heap.size + 1, 0, none⟩), .pointer (some ⟨w.heap.size + 1 + 1, 0, none⟩), .int .i64 (x.1.1 : Int), .string x.1.2, .string t, .func (.func 82) #[] #[.pointer (some ⟨w.heap.size + 1 + 1 + 1, 0, none⟩)], .int .i64 (x.1.1 : Int), .string x.1.2, undef, undef, undef, undef, undef, undef, undef, undef, undef, undef, undef], defers := [] }) ?assign ?body ?done ?stop
  case assign =>
    intro l x W K hK
    gi_wp2
    exact hK
  case body =>
    rintro l pre x W ⟨⟨hp, b1, b2, b3, b4⟩, hB⟩ _
    have hx := parts_fit t _ _ _ x.2
    unfold maxLen at hm
    have hc1 := b1.cell
    have hc2 := b2.cell
    have hf2 := b2.frozen
    have hc3 := b3.cell
    have hf3 := b3.frozen
    have hs := fun w => hs_any x.1.2 name w (by unfold maxLen; omega)
    have HS := Lib.hid hs; clear hs
    cases hb : ends x.1.2 name
    · rw [hb] at HS
      gi_wp2
      refine ⟨trivial, fun h => absurd h (by decide), (CallsIn.inRound l (callsIn_wide.2 (HS.out _))).mono ?_⟩
      rintro e w1 ⟨rfl, rfl⟩
      gi_wp2
      exact ⟨KeepsFrom.refl _ _, fun h => h, ⟨fun p hp' => (List.mem_append.1 hp').elim (hp p) (fun e => by simp at e; subst e; exact hb), b1, b2, b3, b4⟩, hB⟩
    · rw [hb] at HS
      have hle : name.size ≤ x.1.2.size := by
        unfold ends at hb
        simp at hb
        exact hb.1
      have hw1 : IntKind.i64.wrap ((x.1.1 : Int) + (x.1.2.size : Int)) = ((x.1.1 + x.1.2.size : Nat) : Int) := by rw [IntWalk.i64_in _ (by omega)]; omega
      have hw2 : IntKind.i64.wrap (((x.1.1 + x.1.2.size : Nat) : Int) - (name.size : Int)) = ((x.1.1 + x.1.2.size - name.size : Nat) : Int) := by rw [IntWalk.i64_in _ (by omega)]; omega
      have hw3 : IntKind.u64.wrap ((x.1.1 + x.1.2.size - name.size : Nat) : Int) = ((x.1.1 + x.1.2.size - name.size : Nat) : Int) := by rw [IntKind.wrap_u64]; omega
      gi_wp2
      refine ⟨trivial, fun h => absurd h (by decide), (CallsIn.inRound l (callsIn_wide.2 (HS.out _))).mono ?_⟩
      rintro e w1 ⟨rfl, rfl⟩
      gi_wp2
      have d2 := (b2.set (.int .u64 ((x.1.1 : Int) + (x.1.2.size : Int) - (name.size : Int)))).other (B' := w.heap.size + 1 + 1) (by omega) (.bool true)
      have d3 := (b3.other (B' := w.heap.size + 1) (by omega) (.int .u64 ((x.1.1 : Int) + (x.1.2.size : Int) - (name.size : Int)))).set (.bool true)
      exact ⟨((KeepsOthers.setCell _ _ _).trans (KeepsOthers.setCell _ _ _)).from _, ⟨rfl, pre, x, rfl, hp, hb, d2, d3⟩, (hB.setCell (p := ⟨w.heap.size + 1, 0, none⟩) (by simp) _).setCell (p := ⟨w.heap.size + 1 + 1, 0, none⟩) (by simp; omega) _⟩
  case done =>
    rintro D ys W hD hys ⟨⟨hp, b1, b2, b3, b4⟩, hB⟩ hK
    have hc2 := b2.cell
    have hf2 := b2.frozen
    have hc3 := b3.cell
    have hf3 := b3.frozen
    have hfo : findOf t name = .tuple #[.int .u64 0, .bool false] := by
      have : (partsOf t).find? (fun x => ends x.2 name) = none := by
        rw [List.find?_eq_none]
        intro x hx
        have hx' := hx
        rw [← hys] at hx'
        obtain ⟨y, hy, rfl⟩ := List.mem_map.1 hx'
        rw [hp y hy]
        decide
      unfold findOf
      rw [this]
    gi_wp2
    have d2 := (b2.set (.int .u64 0)).other (B' := w.heap.size + 1 + 1) (by omega) (.bool false)
    have d3 := (b3.other (B' := w.heap.size + 1) (by omega) (.int .u64 0)).set (.bool false)
    have hK' := ((KeepsOthers.setCell W ⟨w.heap.size + 1, 0, none⟩ (.int .u64 0)).trans (KeepsOthers.setCell _ ⟨w.heap.size + 1 + 1, 0, none⟩ (.bool false))).same D _ hK rfl
    refine ⟨by simp, .inl ⟨_, _, rfl, run_takeDeferred hK', ?_⟩⟩
    have hc5 := cell_kept d2.cell (grownBy_putObj' _ D (.deferred none)) (fun r e => by cases e; exact ⟨_, hK', rfl⟩)
    have hc6 := cell_kept d3.cell (grownBy_putObj' _ D (.deferred none)) (fun r e => by cases e; exact ⟨_, hK', rfl⟩)
    refine ⟨.tuple #[.int .u64 0, .bool false], ?_, by rw [hfo], ((hB.setCell (p := ⟨w.heap.size + 1, 0, none⟩) (by simp) _).setCell (p := ⟨w.heap.size + 1 + 1, 0, none⟩) (by simp; omega) _).trans (belowK_b (w := w) (Nat.le_refl _) _ D _ _ (by simp at hD; omega) hK' rfl rfl)⟩
    simp [results, Try.f19, go_sem, hc5, hc6]
  case stop =>
    rintro D c pre W hD hpre ⟨⟨rfl, ini, last, e1, e2, e3, b2, b3⟩, hB⟩ hK
    have hx := parts_fit t _ _ _ last.2
    have hle : name.size ≤ last.1.2.size := by
      unfold ends at e3
      simp at e3
      exact e3.1
    have hfo : findOf t name = .tuple #[.int .u64 ((last.1.1 : Int) + (last.1.2.size : Int) - (name.size : Int)), .bool true] := by
      have : (partsOf t).find? (fun x => ends x.2 name) = some last.1 := by
        obtain ⟨r, hr⟩ := hpre
        have hr2 : ini.map Subtype.val ++ ([last.1] ++ r) = partsOf t := by
          have h3 := (congrArg (fun l => l.map Subtype.val ++ r) e1).symm.trans hr
          rw [← List.append_assoc]
          simpa using h3
        have h4 := find_first (fun x : Nat × ByteArray => ends x.2 name) (ini.map Subtype.val) r last.1 (fun y hy => by obtain ⟨z, hz, rfl⟩ := List.mem_map.1 hy; exact e2 z hz) e3
        exact (congrArg _ hr2).symm.trans h4
      unfold findOf
      rw [this]
      have : ((last.1.1 + last.1.2.size - name.size : Nat) : Int) = (last.1.1 : Int) + (last.1.2.size : Int) - (name.size : Int) := by omega
      simp only [this]
    gi_wp2
    refine ⟨by simp, .inl ⟨_, _, rfl, run_takeDeferred hK, ?_⟩⟩
    have hc5 := cell_kept b2.cell (grownBy_putObj' _ D (.deferred none)) (fun r e => by cases e; exact ⟨_, hK, rfl⟩)
    have hc6 := cell_kept b3.cell (grownBy_putObj' _ D (.deferred none)) (fun r e => by cases e; exact ⟨_, hK, rfl⟩)
    refine ⟨.tuple #[.int .u64 ((last.1.1 : Int) + (last.1.2.size : Int) - (name.size : Int)), .bool true], ?_, by rw [hfo], hB.trans (belowK_b (w := w) (Nat.le_refl _) W D _ _ (by simp at hD; omega) hK rfl rfl)⟩
    simp [results, Try.f19, go_sem, hc5, hc6]
end Go.Proofs.Ytddlflabdlgnbaa
