/- A region that draws its order, with two conditions: one till a first store has come up, another one throughout. Conditions: those written in each theorem. -/
import Derived.Deep.RegionHeld3
import Derived.Test.YtedocnidgiglaaaJA
namespace Go.Proofs.Ytedocnidgiglaaa
section
variable {P : Program} {ops : Array Oper} {Q : Exit → Act → World → Prop} {md : Region.Mode} {k : Nat} {S1 S2 : World → Prop}
/-- Till number k has come up S1 holds, and S2 always. -/
def HeldL (k : Nat) (S1 S2 : World → Prop) (l : Array Bool) (w : World) : Prop := (l.getD k true = false → S1 w) ∧ S2 w
def wpAnyL (P : Program) (md : Region.Mode) (ops : Array Oper) (Q : Exit → Act → World → Prop) (k : Nat) (S1 S2 : World → Prop) : Nat → Array Bool → Act → World → Prop
  | 0, listed, a, w => Region.ready md ops listed = [] ∧ Q .normal a w
  | fuel + 1, listed, a, w =>
    (Region.ready md ops listed = [] → Q .normal a w) ∧
    ∀ i ∈ Region.ready md ops listed, wpOp P ops Q i (fun a' w' => HeldL k S1 S2 (listed.setIfInBounds i true) w' ∧ wpAnyL P md ops Q k S1 S2 fuel (listed.setIfInBounds i true) a' w') a w
theorem wpAny_of_heldL : ∀ (fuel : Nat) (listed : Array Bool) (a : Act) (w : World), wpAnyL P md ops Q k S1 S2 fuel listed a w → wpAny P md ops Q fuel listed a w
  | 0, _, _, _, h => h
  | fuel + 1, _, _, _, h => ⟨h.1, fun i hi => wpOp_mono (fun a' w' h' => wpAny_of_heldL fuel _ a' w' h'.2) (h.2 i hi)⟩
/-- Number k waits for number i. -/
def waitsB (md : Region.Mode) (ops : Array Oper) (k i : Nat) : Bool := match ops[k]? with
  | some o => o.after.toList.any fun e => Region.binds md e && e.on == i
  | none => false
theorem getD_set_ne' {l : Array Bool} {i j : Nat} (h : i ≠ j) (b : Bool) : (l.setIfInBounds i true).getD j b = l.getD j b := by
  exact getD_set_ne b h
theorem not_ready {i : Nat} {l : Array Bool} (hw : waitsB md ops k i = true) (hr : i ∈ Region.ready md ops l) : ¬ k ∈ Region.ready md ops l := fun hk => by
  obtain ⟨_, ok, hok, hall⟩ := mem_ready.1 hk
  unfold waitsB at hw
  rw [hok] at hw
  obtain ⟨e, he, hb⟩ := List.any_eq_true.1 hw
  rw [Bool.and_eq_true] at hb
  have h1 := hall e (by simpa using he) hb.1
  have h0 := (mem_ready.1 hr).1
  have heq : e.on = i := by simpa using hb.2
  rw [heq] at h1
  rcases Nat.lt_or_ge i l.size with h' | h'
  · simp [h'] at h0 h1; rw [h0] at h1; cases h1
  · simp [Array.getElem?_eq_none h'] at h1
theorem wpAnyL_first {T : World → Prop} {i : Nat} {oi : Oper} {v : Value} (hi : ops[i]? = some oi) (hik : i ≠ k) (hsel : ∀ (j : Nat) (o : Oper) cs b, ops[j]? = some o → o.op ≠ .select cs b)
    (hQ : ∀ c a w, Q (.panic c) (a.put oi.dst v) w → Q (.panic c) a w)
    (hT : (∀ w, S2 w → T w) ∨ (waitsB md ops k i = true ∧ ∀ w, S1 w → T w)) :
    ∀ (fuel : Nat) (listed : Array Bool) (a : Act) (w : World),
      ((∀ w, S2 w → T w) ∨ listed.getD k true = false) →
      (∀ j oj, ops[j]? = some oj → j ≠ i → listed.getD j true = false → (∀ e ∈ oj.after, Region.binds md e = true → e.on ≠ i) → oi.apart ops oj = true) →
      i ∈ Region.ready md ops listed → YieldsIf P ops T oi v a → HeldL k S1 S2 listed w →
      wpAnyL P md ops Q k S1 S2 fuel (listed.setIfInBounds i true) (a.put oi.dst v) w → wpAnyL P md ops Q k S1 S2 (fuel + 1) listed a w := by
  have toT : ∀ (l : Array Bool) w, ((∀ w, S2 w → T w) ∨ l.getD k true = false) → HeldL k S1 S2 l w → T w := fun l w h hh => by
    rcases h with h | h
    · exact h w hh.2
    · rcases hT with h2 | ⟨_, h2⟩
      · exact h2 w hh.2
      · exact h2 w (hh.1 h)
  intro fuel
  induction fuel with
  | zero =>
    intro listed a w hl _ hr hy hS H
    refine ⟨fun h => (by rw [h] at hr; cases hr), fun j hj => ?_⟩
    by_cases hji : j = i
    · subst hji; exact hy.wpOp hi (toT _ _ hl hS) ⟨⟨fun h => hS.1 (by rw [getD_set_ne' hik] at h; exact h), hS.2⟩, H⟩
    · have := ready_mono hj hji
      rw [H.1] at this
      cases this
  | succ fuel ih =>
    intro listed a w hl hfree hr hy hS H
    refine ⟨fun h => (by rw [h] at hr; cases hr), fun j hj => ?_⟩
    by_cases hji : j = i
    · subst hji; exact hy.wpOp hi (toT _ _ hl hS) ⟨⟨fun h => hS.1 (by rw [getD_set_ne' hik] at h; exact h), hS.2⟩, H⟩
    · have h1 := H.2 j (ready_mono hj hji)
      obtain ⟨hjun, oj, hoj, hall⟩ := mem_ready.1 hj
      have hnot : ∀ e ∈ oj.after, Region.binds md e = true → e.on ≠ i := fun e he hb heq => by
        have h1 := hall e he hb
        have h0 := (mem_ready.1 hr).1
        rw [heq] at h1
        rcases Nat.lt_or_ge i listed.size with h' | h'
        · simp [h'] at h0 h1; rw [h0] at h1; cases h1
        · simp [Array.getElem?_eq_none h'] at h1
      have h2 := wpOp_putIf hoj (hfree j oj hoj hji hjun hnot) (fun cs b => hsel i oi cs b hi) (fun cs b => hsel j oj cs b hoj) hQ hy h1
      have hfree' : ∀ m om, ops[m]? = some om → m ≠ i → (listed.setIfInBounds j true).getD m true = false →
          (∀ e ∈ om.after, Region.binds md e = true → e.on ≠ i) → oi.apart ops om = true := fun m om hm hmi hun hno => by
        refine hfree m om hm hmi ?_ hno
        by_cases hjm : j = m
        · subst hjm; exact hjun
        · rw [getD_set_ne' hjm] at hun; exact hun
      have hl' : (∀ w, S2 w → T w) ∨ (listed.setIfInBounds j true).getD k true = false := by
        rcases hl with h | h
        · exact .inl h
        · rcases hT with h2 | ⟨hw, _⟩
          · exact .inl h2
          · refine .inr ?_
            have hjk : j ≠ k := fun e => by subst e; exact not_ready hw hr hj
            rw [getD_set_ne' hjk]; exact h
      refine wpOp_mono (fun a' w' h3 => ?_) h2
      have hh : HeldL k S1 S2 (listed.setIfInBounds j true) w' := ⟨fun h => h3.2.1.1 (by rw [Array.setIfInBounds_comm _ _ (Ne.symm hji), getD_set_ne' hik]; exact h), h3.2.1.2⟩
      refine ⟨hh, ih (listed.setIfInBounds j true) a' w' hl' hfree' (ready_mono hr (Ne.symm hji)) h3.1 hh ?_⟩
      rw [Array.setIfInBounds_comm _ _ hji]
      exact h3.2.2
/-- Taken first, ahead of the store number k, which waits for it. -/
theorem wpAnyL_take1 {i : Nat} {oi : Oper} {v : Value} {fuel : Nat} {listed : Array Bool} {a : Act} {w : World} (hi : ops[i]? = some oi)
    (hs : Region.noSelect ops = true) (hf : Region.free md ops listed i = true) (hr : (Region.ready md ops listed).contains i = true) (hik : (i != k) = true) (hw : waitsB md ops k i = true) (hl : listed.getD k true = false)
    (hQ : ∀ c a w, Q (.panic c) (a.put oi.dst v) w → Q (.panic c) a w) (hy : YieldsIf P ops S1 oi v a) (h1 : S1 w) (h2 : S2 w)
    (h : wpAnyL P md ops Q k S1 S2 fuel (listed.setIfInBounds i true) (a.put oi.dst v) w) : wpAnyL P md ops Q k S1 S2 (fuel + 1) listed a w :=
  wpAnyL_first (T := S1) hi (by simpa using hik) (Region.noSelect_spec hs) hQ (.inr ⟨hw, fun _ h => h⟩) fuel listed a w (.inr hl) (Region.free_spec hi hf) (by simpa using hr) hy ⟨fun _ => h1, h2⟩ h
/-- Taken first, whenever it comes up, ahead of the store. -/
theorem wpAnyL_take2 {i : Nat} {oi : Oper} {v : Value} {fuel : Nat} {listed : Array Bool} {a : Act} {w : World} (hi : ops[i]? = some oi)
    (hs : Region.noSelect ops = true) (hf : Region.free md ops listed i = true) (hr : (Region.ready md ops listed).contains i = true) (hik : (i != k) = true)
    (hQ : ∀ c a w, Q (.panic c) (a.put oi.dst v) w → Q (.panic c) a w) (hy : YieldsIf P ops S2 oi v a) (h1 : S1 w) (h2 : S2 w)
    (h : wpAnyL P md ops Q k S1 S2 fuel (listed.setIfInBounds i true) (a.put oi.dst v) w) : wpAnyL P md ops Q k S1 S2 (fuel + 1) listed a w :=
  wpAnyL_first (T := S2) hi (by simpa using hik) (Region.noSelect_spec hs) hQ (.inl fun _ h => h) fuel listed a w (.inl fun _ h => h) (Region.free_spec hi hf) (by simpa using hr) hy ⟨fun _ => h1, h2⟩ h
/-- Taken first behind the store. -/
theorem wpAnyL_take3 {i : Nat} {oi : Oper} {v : Value} {fuel : Nat} {listed : Array Bool} {a : Act} {w : World} (hi : ops[i]? = some oi)
    (hs : Region.noSelect ops = true) (hf : Region.free md ops listed i = true) (hr : (Region.ready md ops listed).contains i = true) (hik : (i != k) = true) (hl : listed.getD k true = true)
    (hQ : ∀ c a w, Q (.panic c) (a.put oi.dst v) w → Q (.panic c) a w) (hy : YieldsIf P ops S2 oi v a) (h2 : S2 w)
    (h : wpAnyL P md ops Q k S1 S2 fuel (listed.setIfInBounds i true) (a.put oi.dst v) w) : wpAnyL P md ops Q k S1 S2 (fuel + 1) listed a w :=
  wpAnyL_first (T := S2) hi (by simpa using hik) (Region.noSelect_spec hs) hQ (.inl fun _ h => h) fuel listed a w (.inl fun _ h => h) (Region.free_spec hi hf) (by simpa using hr) hy ⟨fun h => (by rw [hl] at h; cases h), h2⟩ h
def AllReadyL (P : Program) (md : Region.Mode) (ops : Array Oper) (Q : Exit → Act → World → Prop) (k : Nat) (S1 S2 : World → Prop) (fuel : Nat) (listed : Array Bool) (a : Act) (w : World) (rs : List Nat) : Prop :=
  ∀ i ∈ rs, wpOp P ops Q i (fun a' w' => HeldL k S1 S2 (listed.setIfInBounds i true) w' ∧ wpAnyL P md ops Q k S1 S2 fuel (listed.setIfInBounds i true) a' w') a w
theorem AllReadyL.nil {fuel : Nat} {listed : Array Bool} {a : Act} {w : World} : AllReadyL P md ops Q k S1 S2 fuel listed a w [] := fun _ h => by cases h
/-- One that comes up ahead of the store. -/
theorem AllReadyL.consA {fuel : Nat} {listed : Array Bool} {a : Act} {w : World} {i : Nat} {o : Oper} {rs : List Nat} (ho : ops[i]? = some o)
    (h : ∀ K' : Act → World → Prop, Shut (∀ a w, S1 w → S2 w → wpAnyL P md ops Q k S1 S2 fuel (listed.setIfInBounds i true) a w → K' a w) → if Region.wanted o (yielded ops a.tmps) = true then Oper.wp P o a w K' Q else K' (a.put o.dst undef) w)
    (hs : AllReadyL P md ops Q k S1 S2 fuel listed a w rs) : AllReadyL P md ops Q k S1 S2 fuel listed a w (i :: rs) := fun j hj => by
  rcases List.mem_cons.1 hj with rfl | hj
  · exact wpOp_step ho (fun K' hK => h K' (fun a w h1 h2 hW => hK a w ⟨⟨fun _ => h1, h2⟩, hW⟩))
  · exact hs j hj
/-- The store, or one that comes up behind it. -/
theorem AllReadyL.consB {fuel : Nat} {listed : Array Bool} {a : Act} {w : World} {i : Nat} {o : Oper} {rs : List Nat} (ho : ops[i]? = some o) (hl : (listed.setIfInBounds i true).getD k true = true)
    (h : ∀ K' : Act → World → Prop, Shut (∀ a w, S2 w → wpAnyL P md ops Q k S1 S2 fuel (listed.setIfInBounds i true) a w → K' a w) → if Region.wanted o (yielded ops a.tmps) = true then Oper.wp P o a w K' Q else K' (a.put o.dst undef) w)
    (hs : AllReadyL P md ops Q k S1 S2 fuel listed a w rs) : AllReadyL P md ops Q k S1 S2 fuel listed a w (i :: rs) := fun j hj => by
  rcases List.mem_cons.1 hj with rfl | hj
  · exact wpOp_step ho (fun K' hK => h K' (fun a w h2 hW => hK a w ⟨⟨fun h => (by rw [hl] at h; cases h), h2⟩, hW⟩))
  · exact hs j hj
theorem wpAnyL_ready {rs : List Nat} {fuel : Nat} {listed : Array Bool} {a : Act} {w : World} (hr : Region.ready md ops listed = rs) (hne : rs ≠ [])
    (h : AllReadyL P md ops Q k S1 S2 fuel listed a w rs) : wpAnyL P md ops Q k S1 S2 (fuel + 1) listed a w :=
  ⟨fun h0 => absurd (hr ▸ h0) hne, hr ▸ h⟩
theorem wpAnyL_done {listed : Array Bool} {a : Act} {w : World} (hr : Region.ready md ops listed = []) (h : Q .normal a w) :
    ∀ fuel, wpAnyL P md ops Q k S1 S2 fuel listed a w
  | 0 => ⟨hr, h⟩
  | _ + 1 => ⟨fun _ => h, by rw [hr]; simp⟩
theorem wp_region_heldL_drew {id : Nat} {a : Act} {w : World} (hm : P.follows .mixedOrders = true) (h : wpAnyL P .any ops Q k S1 S2 ops.size (Array.replicate ops.size false) a w.drew) : (Code.region id ops true).wp P Q a w :=
  wp_region_any hm (wpAny_of_heldL _ _ _ _ h)
end
end Go.Proofs.Ytedocnidgiglaaa
