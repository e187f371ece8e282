/- Contracts of the closure of dynrec's Notes. Conditions: those written in each theorem. -/
import Derived.Laws.CopyOwn
import Derived.Laws.Tables
import Derived.OwnWalk
import Derived.Deep.CutBlock
import Derived.Deep.DeepCutAuto
import Derived.Test.YtnmklmaclmjfbaaDoorDE
import Derived.Test.YtnmklmaclmjfbaaDoorDD
namespace Go.Proofs.YtnmklmaclmjfbaaDoor
open Go.RowKit
/-- Of the blocks that there were, R and z alone may have changed. -/
structure Only2 (R z : Nat) (w w' : World) : Prop where
  os : w'.os = w.os
  tape : w'.tape = w.tape
  output : w'.output = w.output
  size : w.heap.size ≤ w'.heap.size
  block : ∀ k, k < w.heap.size → k ≠ R → k ≠ z → w'.heap[k]? = w.heap[k]?
theorem Only2.refl (R z : Nat) (w : World) : Only2 R z w w := ⟨rfl, rfl, rfl, Nat.le_refl _, fun _ _ _ _ => rfl⟩
theorem Only2.trans {R z : Nat} {a b c : World} (h : Only2 R z a b) (k : Only2 R z b c) : Only2 R z a c :=
  ⟨k.os.trans h.os, k.tape.trans h.tape, k.output.trans h.output, Nat.le_trans h.size k.size, fun i hi h1 h2 => (k.block i (Nat.lt_of_lt_of_le hi h.size) h1 h2).trans (h.block i hi h1 h2)⟩
theorem Only2.of_only {R z : Nat} {a b : World} (h : OnlyAt R a b) : Only2 R z a b := ⟨h.os, h.tape, h.output, h.size, fun k hk h1 _ => h.block k hk h1⟩
theorem Only2.of_below {R z : Nat} {a b : World} (h : Below a.heap.size a b) : Only2 R z a b := ⟨h.os, h.tape, h.output, h.size, fun k hk _ _ => h.block k hk⟩
theorem Only2.below {R z B : Nat} {a b : World} (h : Only2 R z a b) (hB : B ≤ a.heap.size) (hR : B ≤ R) (hz : B ≤ z) : Below B a b :=
  ⟨h.os, h.tape, h.output, h.size, fun k hk => h.block k (by omega) (by omega) (by omega)⟩
theorem Only2.drew {R z : Nat} {w w' : World} (h : Only2 R z w w') : Only2 R z w w'.drew := ⟨h.os, h.tape, h.output, h.size, h.block⟩
theorem Only2.setz {R z : Nat} {a w : World} (h : Only2 R z a w) (v : Value) : Only2 R z a (w.setCell ⟨z, 0, none⟩ v) :=
  ⟨h.os, h.tape, h.output, by simpa using h.size, fun k hk h1 h2 => (heap_setCell_other w _ k v h2).trans (h.block k hk h1 h2)⟩
theorem IsRd.only2 {w w' : World} {R z : Nat} {big : Bool} {s : ByteArray} {p : Nat} {e : Int} (h : IsRd w R big s p e) (v : Value) (hz : R ≠ z) (hw : w' = w.setCell ⟨z, 0, none⟩ v) : IsRd w' R big s p e := by
  subst hw
  unfold IsRd at h ⊢
  rw [heap_setCell_other w _ R v hz]
  exact h
theorem trim_yes (s : ByteArray) (h : isZ s = true) (w : World) (hs : s.size ≤ 9223372036854775807) :
    Calls Tryd.prog 33 #[.string s, .string ⟨#[0]⟩] w fun e w' => e = .returned (.string ⟨#[]⟩) ∧ Below w.heap.size w w' := by
  have := trim_any s w hs
  rwa [show trimZ s = ⟨#[]⟩ from ba_ext ((trimZ_all s).2 h)] at this
theorem trim_no (s : ByteArray) (h : isZ s = false) : ∃ t : ByteArray, (t.toList = [] → False) ∧ t.toList.isEmpty = false ∧ ∀ w, s.size ≤ 9223372036854775807 →
    Calls Tryd.prog 33 #[.string s, .string ⟨#[0]⟩] w fun e w' => e = .returned (.string t) ∧ Below w.heap.size w w' := by
  have hne : ¬ (trimZ s).data.toList = [] := fun hq => by rw [(trimZ_all s).1 hq] at h; cases h
  have ht : (trimZ s).toList = (trimZ s).data.toList := ByteArray.toList_eq _
  refine ⟨trimZ s, fun hq => hne (by rw [← ht]; exact hq), ?_, fun w hs => trim_any s w hs⟩
  rw [ht]
  cases hq : (trimZ s).data.toList with
  | nil => exact absurd hq hne
  | cons a t => rfl
theorem byV_size (s : ByteArray) (p m : Nat) (b : Bool) : (byV s p m b).size ≤ s.size := by
  unfold byV
  split
  · simp; omega
  · exact Nat.zero_le _
/-- A variable's block. -/
def Var1 (w : World) (b : Nat) (v : Value) (t : TypeId) : Prop := w.heap[b]? = some (.cells #[v] t (0, 0))
theorem Var1.cell {w : World} {b : Nat} {v : Value} {t : TypeId} (h : Var1 w b v t) : w.cell? ⟨b, 0, none⟩ = some v := by unfold Var1 at h; rw [Lib.cell_of_heap h]; rfl
theorem Var1.lt {w : World} {b : Nat} {v : Value} {t : TypeId} (h : Var1 w b v t) : b < w.heap.size := (Array.getElem?_eq_some_iff.1 h).1
theorem Var1.free {w : World} {b : Nat} {v : Value} {t : TypeId} (h : Var1 w b v t) : w.frozen? ⟨b, 0, none⟩ = false := by unfold Var1 at h; exact Lib.frozen_of_heap h 0
theorem Var1.kept {w w' : World} {b R z : Nat} {v : Value} {t : TypeId} (h : Var1 w b v t) (ho : Only2 R z w w') (hR : b ≠ R) (hz : b ≠ z) : Var1 w' b v t := (ho.block b h.lt hR hz).trans h
theorem Var1.only {w w' : World} {b R : Nat} {v : Value} {t : TypeId} (h : Var1 w b v t) (ho : OnlyAt R w w') (hR : b ≠ R) : Var1 w' b v t := (ho.block b h.lt hR).trans h
theorem Var1.low {w w' : World} {b : Nat} {v : Value} {t : TypeId} (h : Var1 w b v t) (ho : Below w.heap.size w w') : Var1 w' b v t := (ho.block b h.lt).trans h
theorem Var1.set {w : World} {b : Nat} {v : Value} {t : TypeId} (h : Var1 w b v t) (u : Value) : Var1 (w.setCell ⟨b, 0, none⟩ u) b u t := by
  unfold Var1 at h ⊢
  rw [heap_setCell_same w b 0 _ t _ h]
  rfl
set_option maxRecDepth 100000 in
set_option maxHeartbeats 2000000 in
theorem padded_yes (R br bz : Nat) (big : Bool) (s : ByteArray) (p a : Nat) (b z : Bool) (w : World) (h : IsRd w R big s p (errI b)) (hr : Var1 w br (.pointer (some ⟨R, 0, none⟩)) 75) (hz : Var1 w bz (.bool z) 4) (hRz : R ≠ bz) (hrR : br ≠ R) (hrz : br ≠ bz) (hs : s.size ≤ 1048576) (ha : a < 18446744073709551616)
    (hq : isZ (byV s (nxP s p a b) (pad4 a) (nxB s p a b)) = true) :
    Calls Tryd.prog 31 #[.int .u64 (a : Nat), .pointer (some ⟨br, 0, none⟩), .pointer (some ⟨bz, 0, none⟩)] w fun e w' => e = .returned (.string (byV s p a b)) ∧ IsRd w' R big s (nxP s (nxP s p a b) (pad4 a) (nxB s p a b)) (errI (nxB s (nxP s p a b) (pad4 a) (nxB s p a b))) ∧ Var1 w' bz (.bool z) 4 ∧ Only2 R bz w w' := by
  have HI := Lib.hid h; have HR := Lib.hid hr; have HZ := Lib.hid hz; have HRZ := Lib.hid (Ne.symm hRz); have HRZ2 := Lib.hid hRz; have HRR := Lib.hid hrR; have HRB := Lib.hid hrz; clear h hr hz hRz hrR hrz
  have HQ := Lib.hid hq; clear hq
  have HSZ : Hid ((byV s (nxP s p a b) (pad4 a) (nxB s p a b)).size ≤ 9223372036854775807) := Lib.hid (by have := byV_size s (nxP s p a b) (pad4 a) (nxB s p a b); omega)
  have r0 := HR.out.cell
  go_enter Tryd.func31, Tryd.ntmps31
  go_wp2_with fail
  refine (bytes_fn R big s p a b _ HI.out hs).mono ?_
  rintro e w2 ⟨rfl, hI2, hO2⟩
  have HI2 := Lib.hid hI2; have HO2 := Lib.hid hO2; have HR2 := Lib.hid (HR.out.only hO2 HRR.out); have HZ2 := Lib.hid (HZ.out.only hO2 HRZ.out)
  clear hI2 hO2 r0
  have GR : Hid (∀ u, Only2 R bz w2 u → u.cell? ⟨br, 0, none⟩ = some (.pointer (some ⟨R, 0, none⟩))) := Lib.hid (fun u hu => (HR2.out.kept hu HRR.out HRB.out).cell)
  have HI2d : Hid (IsRd w2.drew R big s (nxP s p a b) (errI (nxB s p a b))) := Lib.hid (HI2.out.only (Below.refl _ _).drew)
  have HZ2d : Hid (Var1 w2.drew bz (.bool z) 4) := Lib.hid (HZ2.out.low (Below.refl _ _).drew)
  go_upto_region 2 with (fail)
  refine wp_region_held_drew (S := fun w' => Only2 R bz w2 w') (by kernel_rfl) ?_ (fun hHeld => ?_)
  · exact (Only2.refl _ _ _).drew
  refine wpAnyH_take (i := 0) (oi := { dst := some 9, op := Go.Op.load 75 (Go.Operand.tmp 1), type := 75, pos := "notes.go:27", after := #[], guard := none }) (v := ?_) rfl (by kernel_rfl) (by kernel_rfl) (by kernel_rfl) (fun _ _ _ h => h) (Or.inl ⟨by rfl, ?_⟩) (by assumption) ?_
  rotate_left
  · (intro w hSw; have q0 := GR.out w hSw; (try dsimp only at hSw); go_simp <;> with_reducible rfl)
  try simp only [Act.put, List.setIfInBounds_toArray, List.set_cons_zero, List.set_cons_succ]
  refine wpAnyH_take (i := 1) (oi := { dst := some 10, op := Go.Op.move (Go.Operand.tmp 0), type := 31, pos := "notes.go:27", after := #[], guard := none }) (v := ?_) rfl (by kernel_rfl) (by kernel_rfl) (by kernel_rfl) (fun _ _ _ h => h) (Or.inl ⟨by rfl, ?_⟩) (by assumption) ?_
  rotate_left
  · (intro w hSw; (try dsimp only at hSw); go_simp <;> with_reducible rfl)
  try simp only [Act.put, List.setIfInBounds_toArray, List.set_cons_zero, List.set_cons_succ]
  refine wpAnyH_ready (rs := [2]) (by kernel_rfl) (by simp) ?_
  refine AllReadyH.cons (o := { dst := some 11, op := Go.Op.call { callee := Go.Callee.value (Go.Operand.func 28), args := #[Go.Operand.tmp 10], argTypes := #[31] }, type := 31, pos := "notes.go:27", after := #[{ on := 1, ground := Go.Ground.data }], guard := none }) rfl (fun K hK => ?_) AllReadyH.nil
  (first | go_at_call 28 | (go_simp; go_at_call 28))
  refine (padding_any a ha _).mono ?_
  rintro e w3 ⟨rfl, rfl⟩
  try go_wp2_with fail
  refine hK.out _ _ ?_ (fun hHeld2 => ?_)
  · exact hHeld
  clear hK K
  try simp only [Act.put, List.setIfInBounds_toArray, List.set_cons_zero, List.set_cons_succ]
  refine wpAnyH_ready (rs := [3]) (by kernel_rfl) (by simp) ?_
  refine AllReadyH.cons (o := { dst := some 12, op := Go.Op.call { callee := Go.Callee.value (Go.Operand.func 32), args := #[Go.Operand.tmp 9, Go.Operand.tmp 11], argTypes := #[75, 31] }, type := 9, pos := "notes.go:27", after := #[{ on := 0, ground := Go.Ground.data }, { on := 2, ground := Go.Ground.data }, { on := 2, ground := Go.Ground.chain }], guard := none }) rfl (fun K hK => ?_) AllReadyH.nil
  (first | go_at_call 32 | (go_simp; go_at_call 32))
  refine (bytes_fn R big s (nxP s p a b) (pad4 a) (nxB s p a b) _ HI2d.out hs).mono ?_
  rintro e w4 ⟨rfl, hI4, hO4⟩
  have HI4 := Lib.hid hI4; clear hI4
  have HZ4 := Lib.hid (HZ2d.out.only hO4 HRZ.out)
  try go_wp2_with fail
  refine hK.out _ _ ?_ (fun hHeld3 => ?_)
  · exact hHeld2.trans (Only2.of_only hO4)
  clear hK K
  try simp only [Act.put, List.setIfInBounds_toArray, List.set_cons_zero, List.set_cons_succ]
  refine wpAnyH_ready (rs := [4]) (by kernel_rfl) (by simp) ?_
  refine AllReadyH.cons (o := { dst := some 13, op := Go.Op.call { callee := Go.Callee.value (Go.Operand.func 33), args := #[Go.Operand.tmp 12, Go.Operand.const (Go.Value.string { data := #[0] })], argTypes := #[9, 9] }, type := 9, pos := "notes.go:27", after := #[{ on := 3, ground := Go.Ground.data }, { on := 3, ground := Go.Ground.chain }], guard := none }) rfl (fun K hK => ?_) AllReadyH.nil
  (first | go_at_call 33 | (go_simp; go_at_call 33))
  refine (trim_yes _ HQ.out _ HSZ.out).mono ?_
  rintro e w5 ⟨rfl, h5⟩
  have HI5 := Lib.hid (HI4.out.only h5)
  have HZ5 := Lib.hid (HZ4.out.low h5)
  try go_wp2_with fail
  refine hK.out _ _ ?_ (fun hHeld4 => ?_)
  · exact hHeld3.trans (Only2.of_below h5)
  clear hK K
  try simp only [Act.put, List.setIfInBounds_toArray, List.set_cons_zero, List.set_cons_succ]
  refine wpAnyH_take (i := 5) (oi := { dst := some 14, op := Go.Op.binOp Go.BinOp.neq 9 (Go.Operand.tmp 13) (Go.Operand.const (Go.Value.string { data := #[] })) 9, type := 4, pos := "notes.go:27", after := #[{ on := 4, ground := Go.Ground.data }], guard := none }) (v := ?_) rfl (by kernel_rfl) (by kernel_rfl) (by kernel_rfl) (fun _ _ _ h => h) (Or.inl ⟨by rfl, ?_⟩) (by assumption) ?_
  rotate_left
  · (intro w hSw; (try dsimp only at hSw); go_simp <;> with_reducible rfl)
  try simp only [Act.put, List.setIfInBounds_toArray, List.set_cons_zero, List.set_cons_succ]
  refine wpAnyH_done (by kernel_rfl) ?_ _
  have HF := Lib.hid (Only2.of_only (z := bz) HO2.out |>.trans hHeld4)
  clear hHeld hHeld2 hHeld3 hHeld4
  go_wp2
  go_ret
  exact ⟨rfl, HI5.out, HZ5.out, HF.out⟩
set_option maxRecDepth 100000 in
set_option maxHeartbeats 2000000 in
theorem padded_no (R br bz : Nat) (big : Bool) (s : ByteArray) (p a : Nat) (b z : Bool) (w : World) (h : IsRd w R big s p (errI b)) (hr : Var1 w br (.pointer (some ⟨R, 0, none⟩)) 75) (hz : Var1 w bz (.bool z) 4) (hRz : R ≠ bz) (hrR : br ≠ R) (hrz : br ≠ bz) (hs : s.size ≤ 1048576) (ha : a < 18446744073709551616)
    (hq : isZ (byV s (nxP s p a b) (pad4 a) (nxB s p a b)) = false) :
    Calls Tryd.prog 31 #[.int .u64 (a : Nat), .pointer (some ⟨br, 0, none⟩), .pointer (some ⟨bz, 0, none⟩)] w fun e w' => e = .returned (.string (byV s p a b)) ∧ IsRd w' R big s (nxP s (nxP s p a b) (pad4 a) (nxB s p a b)) (errI (nxB s (nxP s p a b) (pad4 a) (nxB s p a b))) ∧ Var1 w' bz (.bool false) 4 ∧ Only2 R bz w w' := by
  have HI := Lib.hid h; have HR := Lib.hid hr; have HZ := Lib.hid hz; have HRZ := Lib.hid (Ne.symm hRz); have HRZ2 := Lib.hid hRz; have HRR := Lib.hid hrR; have HRB := Lib.hid hrz; clear h hr hz hRz hrR hrz
  have HQ := Lib.hid hq; clear hq
  have HSZ : Hid ((byV s (nxP s p a b) (pad4 a) (nxB s p a b)).size ≤ 9223372036854775807) := Lib.hid (by have := byV_size s (nxP s p a b) (pad4 a) (nxB s p a b); omega)
  obtain ⟨t, ht1, ht2, htr⟩ := trim_no _ HQ.out
  have HTR := Lib.hid htr; clear htr
  have ht3 : ¬ t.toList = [] := ht1
  clear ht1
  have r0 := HR.out.cell
  go_enter Tryd.func31, Tryd.ntmps31
  go_wp2_with fail
  refine (bytes_fn R big s p a b _ HI.out hs).mono ?_
  rintro e w2 ⟨rfl, hI2, hO2⟩
  have HI2 := Lib.hid hI2; have HO2 := Lib.hid hO2; have HR2 := Lib.hid (HR.out.only hO2 HRR.out); have HZ2 := Lib.hid (HZ.out.only hO2 HRZ.out)
  clear hI2 hO2 r0
  have GR : Hid (∀ u, Only2 R bz w2 u → u.cell? ⟨br, 0, none⟩ = some (.pointer (some ⟨R, 0, none⟩))) := Lib.hid (fun u hu => (HR2.out.kept hu HRR.out HRB.out).cell)
  have HI2d : Hid (IsRd w2.drew R big s (nxP s p a b) (errI (nxB s p a b))) := Lib.hid (HI2.out.only (Below.refl _ _).drew)
  have HZ2d : Hid (Var1 w2.drew bz (.bool z) 4) := Lib.hid (HZ2.out.low (Below.refl _ _).drew)
  go_upto_region 2 with (fail)
  refine wp_region_held_drew (S := fun w' => Only2 R bz w2 w') (by kernel_rfl) ?_ (fun hHeld => ?_)
  · exact (Only2.refl _ _ _).drew
  refine wpAnyH_take (i := 0) (oi := { dst := some 9, op := Go.Op.load 75 (Go.Operand.tmp 1), type := 75, pos := "notes.go:27", after := #[], guard := none }) (v := ?_) rfl (by kernel_rfl) (by kernel_rfl) (by kernel_rfl) (fun _ _ _ h => h) (Or.inl ⟨by rfl, ?_⟩) (by assumption) ?_
  rotate_left
  · (intro w hSw; have q0 := GR.out w hSw; (try dsimp only at hSw); go_simp <;> with_reducible rfl)
  try simp only [Act.put, List.setIfInBounds_toArray, List.set_cons_zero, List.set_cons_succ]
  refine wpAnyH_take (i := 1) (oi := { dst := some 10, op := Go.Op.move (Go.Operand.tmp 0), type := 31, pos := "notes.go:27", after := #[], guard := none }) (v := ?_) rfl (by kernel_rfl) (by kernel_rfl) (by kernel_rfl) (fun _ _ _ h => h) (Or.inl ⟨by rfl, ?_⟩) (by assumption) ?_
  rotate_left
  · (intro w hSw; (try dsimp only at hSw); go_simp <;> with_reducible rfl)
  try simp only [Act.put, List.setIfInBounds_toArray, List.set_cons_zero, List.set_cons_succ]
  refine wpAnyH_ready (rs := [2]) (by kernel_rfl) (by simp) ?_
  refine AllReadyH.cons (o := { dst := some 11, op := Go.Op.call { callee := Go.Callee.value (Go.Operand.func 28), args := #[Go.Operand.tmp 10], argTypes := #[31] }, type := 31, pos := "notes.go:27", after := #[{ on := 1, ground := Go.Ground.data }], guard := none }) rfl (fun K hK => ?_) AllReadyH.nil
  (first | go_at_call 28 | (go_simp; go_at_call 28))
  refine (padding_any a ha _).mono ?_
  rintro e w3 ⟨rfl, rfl⟩
  try go_wp2_with fail
  refine hK.out _ _ ?_ (fun hHeld2 => ?_)
  · exact hHeld
  clear hK K
  try simp only [Act.put, List.setIfInBounds_toArray, List.set_cons_zero, List.set_cons_succ]
  refine wpAnyH_ready (rs := [3]) (by kernel_rfl) (by simp) ?_
  refine AllReadyH.cons (o := { dst := some 12, op := Go.Op.call { callee := Go.Callee.value (Go.Operand.func 32), args := #[Go.Operand.tmp 9, Go.Operand.tmp 11], argTypes := #[75, 31] }, type := 9, pos := "notes.go:27", after := #[{ on := 0, ground := Go.Ground.data }, { on := 2, ground := Go.Ground.data }, { on := 2, ground := Go.Ground.chain }], guard := none }) rfl (fun K hK => ?_) AllReadyH.nil
  (first | go_at_call 32 | (go_simp; go_at_call 32))
  refine (bytes_fn R big s (nxP s p a b) (pad4 a) (nxB s p a b) _ HI2d.out hs).mono ?_
  rintro e w4 ⟨rfl, hI4, hO4⟩
  have HI4 := Lib.hid hI4; clear hI4
  have HZ4 := Lib.hid (HZ2d.out.only hO4 HRZ.out)
  try go_wp2_with fail
  refine hK.out _ _ ?_ (fun hHeld3 => ?_)
  · exact hHeld2.trans (Only2.of_only hO4)
  clear hK K
  try simp only [Act.put, List.setIfInBounds_toArray, List.set_cons_zero, List.set_cons_succ]
  refine wpAnyH_ready (rs := [4]) (by kernel_rfl) (by simp) ?_
  refine AllReadyH.cons (o := { dst := some 13, op := Go.Op.call { callee := Go.Callee.value (Go.Operand.func 33), args := #[Go.Operand.tmp 12, Go.Operand.const (Go.Value.string { data := #[0] })], argTypes := #[9, 9] }, type := 9, pos := "notes.go:27", after := #[{ on := 3, ground := Go.Ground.data }, { on := 3, ground := Go.Ground.chain }], guard := none }) rfl (fun K hK => ?_) AllReadyH.nil
  (first | go_at_call 33 | (go_simp; go_at_call 33))
  refine (HTR.out _ HSZ.out).mono ?_
  rintro e w5 ⟨rfl, h5⟩
  have HI5 := Lib.hid (HI4.out.only h5)
  have HZ5 := Lib.hid (HZ4.out.low h5)
  try go_wp2_with fail
  refine hK.out _ _ ?_ (fun hHeld4 => ?_)
  · exact hHeld3.trans (Only2.of_below h5)
  clear hK K
  try simp only [Act.put, List.setIfInBounds_toArray, List.set_cons_zero, List.set_cons_succ]
  refine wpAnyH_take (i := 5) (oi := { dst := some 14, op := Go.Op.binOp Go.BinOp.neq 9 (Go.Operand.tmp 13) (Go.Operand.const (Go.Value.string { data := #[] })) 9, type := 4, pos := "notes.go:27", after := #[{ on := 4, ground := Go.Ground.data }], guard := none }) (v := ?_) rfl (by kernel_rfl) (by kernel_rfl) (by kernel_rfl) (fun _ _ _ h => h) (Or.inl ⟨by rfl, ?_⟩) (by assumption) ?_
  rotate_left
  · (intro w hSw; (try dsimp only at hSw); go_simp <;> with_reducible rfl)
  try simp only [Act.put, List.setIfInBounds_toArray, List.set_cons_zero, List.set_cons_succ]
  refine wpAnyH_done (by kernel_rfl) ?_ _
  have HF := Lib.hid (Only2.of_only (z := bz) HO2.out |>.trans hHeld4)
  clear hHeld hHeld2 hHeld3 hHeld4
  have z5 := HZ5.out.cell
  have y5 := HZ5.out.free
  go_wp2
  go_ret
  exact ⟨rfl, HI5.out.only2 _ HRZ2.out rfl, HZ5.out.set _, HF.out.setz _⟩
/-- What a text with its zeros makes of a reader, and of what was told of zeros. -/
theorem padded_any (R br bz : Nat) (big : Bool) (s : ByteArray) (p a : Nat) (b z : Bool) (w : World) (h : IsRd w R big s p (errI b)) (hr : Var1 w br (.pointer (some ⟨R, 0, none⟩)) 75) (hz : Var1 w bz (.bool z) 4) (hRz : R ≠ bz) (hrR : br ≠ R) (hrz : br ≠ bz) (hs : s.size ≤ 1048576) (ha : a < 18446744073709551616) :
    Calls Tryd.prog 31 #[.int .u64 (a : Nat), .pointer (some ⟨br, 0, none⟩), .pointer (some ⟨bz, 0, none⟩)] w fun e w' => e = .returned (.string (byV s p a b)) ∧ IsRd w' R big s (nxP s (nxP s p a b) (pad4 a) (nxB s p a b)) (errI (nxB s (nxP s p a b) (pad4 a) (nxB s p a b))) ∧ Var1 w' bz (.bool (z && isZ (byV s (nxP s p a b) (pad4 a) (nxB s p a b)))) 4 ∧ Only2 R bz w w' := by
  cases hq : isZ (byV s (nxP s p a b) (pad4 a) (nxB s p a b))
  · rw [Bool.and_false]; exact padded_no R br bz big s p a b z w h hr hz hRz hrR hrz hs ha hq
  · rw [Bool.and_true]; exact padded_yes R br bz big s p a b z w h hr hz hRz hrR hrz hs ha hq
end Go.Proofs.YtnmklmaclmjfbaaDoor
