/- Contracts of layer 9, relocations. Conditions: those written in each theorem. -/
import Derived.Laws.CopyOwn
import Derived.Laws.Tables
import Derived.Test.YtddlflabdlgnbaaXK
import Derived.Test.YtddlflabdlgnbaaRC
namespace Go.Proofs.Ytddlflabdlgnbaa
open Go.RowKit
theorem putIs_read {big wide a : Bool} {off sym ty add : Nat} {S : ByteArray} (h : PutIs big wide a off sym ty add S true) (M : ByteArray) :
    S.size = rLen wide a ∧ rOff big wide a (S ++ M).data.toList = off ∧ rSym big wide a (S ++ M).data.toList = sym ∧ rTy big wide a (S ++ M).data.toList = ty ∧ rAdd big wide a (S ++ M).data.toList = add := by
  rcases h with ⟨_, _, h⟩ | ⟨h1, h2, h3, h4⟩
  · cases h
  · obtain ⟨e, hk⟩ := recIs_read h4 (rZ_ok wide a) M
    rw [r_off] at e
    have hp : 0 < rP wide := by cases wide <;> decide
    have k0 : rNum big wide a (S ++ M).data.toList 0 = off := by
      have := hk 0 (by cases a <;> decide)
      rw [show (rNs a off (sym * rP wide + ty) add).getD 0 0 = off by cases a <;> rfl] at this
      exact this
    have k1 : rNum big wide a (S ++ M).data.toList 1 = sym * rP wide + ty := by
      have := hk 1 (by cases a <;> decide)
      rw [show (rNs a off (sym * rP wide + ty) add).getD 1 0 = sym * rP wide + ty by cases a <;> rfl] at this
      exact this
    refine ⟨e, k0, ?_, ?_, ?_⟩
    · unfold rSym
      rw [k1, Nat.mul_comm, Nat.mul_add_div hp, Nat.div_eq_of_lt h1, Nat.add_zero]
    · unfold rTy
      rw [k1, Nat.mul_comm, Nat.mul_add_mod, Nat.mod_eq_of_lt h1]
    · cases a
      · exact (h3 rfl).symm
      · exact hk 2 (by decide)
/-- What Read answers of bytes. -/
def readV (big wide a : Bool) (s : ByteArray) : Value :=
  if rLen wide a ≤ s.size then .tuple #[.agg #[.int .u64 (rOff big wide a s.data.toList : Nat), .int .u64 (rSym big wide a s.data.toList : Nat), .int .u64 (rTy big wide a s.data.toList : Nat), .int .u64 (rAdd big wide a s.data.toList : Nat)], .bool true]
  else .tuple #[.agg #[.int .u64 0, .int .u64 0, .int .u64 0, .int .u64 0], .bool false]
theorem readV_form (big wide a : Bool) (s : ByteArray) : ∃ (v0 v1 v2 v3 : Nat) (b : Bool), readV big wide a s = .tuple #[.agg #[.int .u64 (v0 : Nat), .int .u64 (v1 : Nat), .int .u64 (v2 : Nat), .int .u64 (v3 : Nat)], .bool b] := by
  unfold readV
  split
  · exact ⟨_, _, _, _, _, rfl⟩
  · exact ⟨0, 0, 0, 0, _, rfl⟩
theorem rread_any (big wide a : Bool) (s : ByteArray) (hs : s.size ≤ 1000) (w : World) : Calls Try.prog 26 #[.agg #[.bool big, .bool wide], .bool a, .string s] w fun e w' => e = .returned (readV big wide a s) ∧ Below w.heap.size w w' := by
  unfold readV
  split
  · rename_i h; exact rread_is big wide a s hs h w
  · rename_i h; exact rread_none big wide a s hs (by omega) w
set_option maxRecDepth 100000 in
set_option maxHeartbeats 2000000 in
theorem rputs_true (fl : Int) (off sym ty add : Nat) (hn : off < 2 ^ 64 ∧ add < 2 ^ 64) (more : ByteArray) (m : Nat) (hm : (more.size ≤ 9 ∧ m = more.size) ∨ (9 < more.size ∧ m = 9)) (big wide a : Bool) (hb : (bits BinOp.and IntKind.i64 fl 1 == 1) = big) (hw : (bits BinOp.and IntKind.i64 fl 2 == 2) = wide) (ha : (bits BinOp.and IntKind.i64 fl 4 == 4) = a)
    (S : ByteArray) (hp : PutIs big wide a off sym ty add S true) (w : World) :
    Calls Try.prog 6 #[.int .i64 fl, .agg #[.int .u64 (off : Nat), .int .u64 (sym : Nat), .int .u64 (ty : Nat), .int .u64 (add : Nat)], .string more] w fun e w' => e = .returned (.bool true) ∧ Below w.heap.size w w' := by
  have HP := Lib.hid hp; clear hp
  have HN := Lib.hid hn; clear hn
  have HB := Lib.hid hb; have HW := Lib.hid hw; have HA := Lib.hid ha; clear hb hw ha
  have HM := Lib.hid hm; clear hm
  go_enter Try.func6, Try.ntmps6
  go_wp2_with fail
  refine (rspeaks _).mono ?_
  rintro e w1 ⟨rfl, h1⟩
  have b1 : Below w.heap.size w w1 := (below_more (Below.refl _ _) (.cells #[.int .u64 (off : Nat), .int .u64 (sym : Nat), .int .u64 (ty : Nat), .int .u64 (add : Nat)] 42)).trans (h1.mono (by simp))
  have z1 : w.heap.size < w1.heap.size := by have := h1.size; simp only [World.size_alloc] at this; omega
  have x0 : w1.cell? ⟨w.heap.size, 0, none⟩ = some (.int .u64 (off : Nat)) := by rw [h1.cell (by simp)]; simp
  have x1 : w1.cell? ⟨w.heap.size, 1, none⟩ = some (.int .u64 (sym : Nat)) := by rw [h1.cell (by simp)]; simp
  have x2 : w1.cell? ⟨w.heap.size, 2, none⟩ = some (.int .u64 (ty : Nat)) := by rw [h1.cell (by simp)]; simp
  have x3 : w1.cell? ⟨w.heap.size, 3, none⟩ = some (.int .u64 (add : Nat)) := by rw [h1.cell (by simp)]; simp
  clear h1
  go_wp2_with fail
  refine (rform fl big wide HB.out HW.out _).mono ?_
  rintro e w2 ⟨rfl, h2⟩
  have b2 : Below w.heap.size w w2 := b1.trans (h2.mono b1.size)
  have z2 : w.heap.size < w2.heap.size := by have := h2.size; omega
  replace x0 : w2.cell? ⟨w.heap.size, 0, none⟩ = some (.int .u64 (off : Nat)) := by rw [h2.cell (by show w.heap.size < _; omega)]; exact x0
  replace x1 : w2.cell? ⟨w.heap.size, 1, none⟩ = some (.int .u64 (sym : Nat)) := by rw [h2.cell (by show w.heap.size < _; omega)]; exact x1
  replace x2 : w2.cell? ⟨w.heap.size, 2, none⟩ = some (.int .u64 (ty : Nat)) := by rw [h2.cell (by show w.heap.size < _; omega)]; exact x2
  replace x3 : w2.cell? ⟨w.heap.size, 3, none⟩ = some (.int .u64 (add : Nat)) := by rw [h2.cell (by show w.heap.size < _; omega)]; exact x3
  clear h2
  have ha := HA.out
  go_wp2_with fail
  refine (rput_is HP.out HN.out _).mono ?_
  rintro e w3 ⟨rfl, h3⟩
  have b3 : Below w.heap.size w w3 := (below_more b2 _).trans (h3.mono (below_more b2 _).size)
  have z3 : w2.heap.size < w3.heap.size := by have := h3.size; simp only [World.size_alloc] at this; omega
  have f0 : w3.cell? ⟨w2.heap.size, 0, none⟩ = some (.bool big) := by rw [h3.cell (by simp)]; simp
  have f1 : w3.cell? ⟨w2.heap.size, 1, none⟩ = some (.bool wide) := by rw [h3.cell (by simp)]; simp
  replace x0 : w3.cell? ⟨w.heap.size, 0, none⟩ = some (.int .u64 (off : Nat)) := by rw [h3.cell (by show w.heap.size < _; simp; omega), cell_alloc_old z2]; exact x0
  replace x1 : w3.cell? ⟨w.heap.size, 1, none⟩ = some (.int .u64 (sym : Nat)) := by rw [h3.cell (by show w.heap.size < _; simp; omega), cell_alloc_old z2]; exact x1
  replace x2 : w3.cell? ⟨w.heap.size, 2, none⟩ = some (.int .u64 (ty : Nat)) := by rw [h3.cell (by show w.heap.size < _; simp; omega), cell_alloc_old z2]; exact x2
  replace x3 : w3.cell? ⟨w.heap.size, 3, none⟩ = some (.int .u64 (add : Nat)) := by rw [h3.cell (by show w.heap.size < _; simp; omega), cell_alloc_old z2]; exact x3
  clear h3
  go_wp2_with fail
  refine (rref_is HP.out HN.out _).mono ?_
  rintro e w4 ⟨rfl, h4⟩
  have b4 : Below w.heap.size w w4 := b3.trans (h4.mono b3.size)
  have z4 : w2.heap.size < w4.heap.size := by have := h4.size; omega
  replace f0 : w4.cell? ⟨w2.heap.size, 0, none⟩ = some (.bool big) := by rw [h4.cell (by show w2.heap.size < _; omega)]; exact f0
  replace f1 : w4.cell? ⟨w2.heap.size, 1, none⟩ = some (.bool wide) := by rw [h4.cell (by show w2.heap.size < _; omega)]; exact f1
  replace x0 : w4.cell? ⟨w.heap.size, 0, none⟩ = some (.int .u64 (off : Nat)) := by rw [h4.cell (by show w.heap.size < _; omega)]; exact x0
  replace x1 : w4.cell? ⟨w.heap.size, 1, none⟩ = some (.int .u64 (sym : Nat)) := by rw [h4.cell (by show w.heap.size < _; omega)]; exact x1
  replace x2 : w4.cell? ⟨w.heap.size, 2, none⟩ = some (.int .u64 (ty : Nat)) := by rw [h4.cell (by show w.heap.size < _; omega)]; exact x2
  replace x3 : w4.cell? ⟨w.heap.size, 3, none⟩ = some (.int .u64 (add : Nat)) := by rw [h4.cell (by show w.heap.size < _; omega)]; exact x3
  clear h4
  go_wp2_with fail
  refine (rgood_is HP.out HN.out _).mono ?_
  rintro e w5 ⟨rfl, h5⟩
  have b5 : Below w.heap.size w w5 := b4.trans (h5.mono b4.size)
  have z5 : w2.heap.size < w5.heap.size := by have := h5.size; omega
  replace f0 : w5.cell? ⟨w2.heap.size, 0, none⟩ = some (.bool big) := by rw [h5.cell (by show w2.heap.size < _; omega)]; exact f0
  replace f1 : w5.cell? ⟨w2.heap.size, 1, none⟩ = some (.bool wide) := by rw [h5.cell (by show w2.heap.size < _; omega)]; exact f1
  replace x0 : w5.cell? ⟨w.heap.size, 0, none⟩ = some (.int .u64 (off : Nat)) := by rw [h5.cell (by show w.heap.size < _; omega)]; exact x0
  replace x1 : w5.cell? ⟨w.heap.size, 1, none⟩ = some (.int .u64 (sym : Nat)) := by rw [h5.cell (by show w.heap.size < _; omega)]; exact x1
  replace x2 : w5.cell? ⟨w.heap.size, 2, none⟩ = some (.int .u64 (ty : Nat)) := by rw [h5.cell (by show w.heap.size < _; omega)]; exact x2
  replace x3 : w5.cell? ⟨w.heap.size, 3, none⟩ = some (.int .u64 (add : Nat)) := by rw [h5.cell (by show w.heap.size < _; omega)]; exact x3
  clear h5
  clear ha
  have q20 : (m : Int) ≤ 9 := by have := HM.out; omega
  have q0 : (0 : Int) ≤ (m : Int) := by omega
  have qs : (m : Int) ≤ (more.size : Int) := by have := HM.out; omega
  have mn1 : (if (more.size : Int) ≤ 9 then (more.size : Int) else 9) = (m : Int) := by have := HM.out; split <;> omega
  have mn3 : min (more.size : Int) 9 = (m : Int) := by have := HM.out; omega
  obtain ⟨M, hM⟩ : ∃ M, more.extract 0 m = M := ⟨_, rfl⟩
  have hMs : M.size ≤ 9 := by rw [← hM]; simp; omega
  have hMt : more.extract 0 (m : Int).toNat = M := by rw [Int.toNat_natCast]; exact hM
  obtain ⟨T, hT⟩ : ∃ T, S ++ M = T := ⟨_, rfl⟩
  have hsz := ByteArray.size_append (a := S) (b := M)
  rw [hT] at hsz
  obtain ⟨hSs, hr0, hr1, hr2, hr3⟩ := putIs_read HP.out M
  have hl1 : rLen wide a ≤ 24 := by cases wide <;> cases a <;> decide
  rw [hT] at hr0 hr1 hr2 hr3
  have hrd : ∀ W : World, Calls Try.prog 26 #[.agg #[.bool big, .bool wide], .bool a, .string T] W fun e w' => e = .returned (.tuple #[.agg #[.int .u64 (off : Nat), .int .u64 (sym : Nat), .int .u64 (ty : Nat), .int .u64 (add : Nat)], .bool true]) ∧ Below W.heap.size W w' := fun W => by
    have h := rread_is big wide a T (by omega) (by omega) W
    rw [hr0, hr1, hr2, hr3] at h
    exact h
  clear hr0 hr1 hr2 hr3
  have hSe : ((S.size : Int) == (rLen wide a : Int)) = true := by rw [hSs]; simp
  have hSe2 : (S.size == rLen wide a) = true := by rw [hSs]; simp
  have hadd := add_str S M (by omega)
  rw [hT] at hadd
  have HT := Lib.hid hT; clear hT
  have HRD := Lib.hid hrd; clear hrd hsz
  have HSE := Lib.hid hSe; have HSE2 := Lib.hid hSe2; have HSS := Lib.hid hSs; clear hSe hSe2 hSs
  have HG0 : Hid (∀ w', Below w5.heap.size w5 w' → w'.cell? ⟨w2.heap.size, 0, none⟩ = some (.bool big)) := Lib.hid (fun w' h => by rw [h.cell (by show w2.heap.size < _; omega)]; exact f0)
  have HG1 : Hid (∀ w', Below w5.heap.size w5 w' → w'.cell? ⟨w2.heap.size, 1, none⟩ = some (.bool wide)) := Lib.hid (fun w' h => by rw [h.cell (by show w2.heap.size < _; omega)]; exact f1)
  have HX0 : Hid (∀ w', Below w5.heap.size w5 w' → w'.cell? ⟨w.heap.size, 0, none⟩ = some (.int .u64 (off : Nat))) := Lib.hid (fun w' h => by rw [h.cell (by show w.heap.size < _; omega)]; exact x0)
  have HX1 : Hid (∀ w', Below w5.heap.size w5 w' → w'.cell? ⟨w.heap.size, 1, none⟩ = some (.int .u64 (sym : Nat))) := Lib.hid (fun w' h => by rw [h.cell (by show w.heap.size < _; omega)]; exact x1)
  have HX2 : Hid (∀ w', Below w5.heap.size w5 w' → w'.cell? ⟨w.heap.size, 2, none⟩ = some (.int .u64 (ty : Nat))) := Lib.hid (fun w' h => by rw [h.cell (by show w.heap.size < _; omega)]; exact x2)
  have HX3 : Hid (∀ w', Below w5.heap.size w5 w' → w'.cell? ⟨w.heap.size, 3, none⟩ = some (.int .u64 (add : Nat))) := Lib.hid (fun w' h => by rw [h.cell (by show w.heap.size < _; omega)]; exact x3)
  clear x0 x1 x2 x3 f0 f1
  go_wp2_with fail
  refine wp_region_held_drew (S := fun w' => Below w5.heap.size w5 w') (by kernel_rfl) ?_ (fun hHeld => ?_)
  · exact (Below.refl _ _).drew
  refine wpAnyH_take (i := 0) (oi := { dst := some 57, op := Go.Op.load 46 (Go.Operand.tmp 7), type := 46, pos := "law.go:36", after := #[], guard := none }) (v := ?_) rfl (by kernel_rfl) (by kernel_rfl) (by kernel_rfl) (fun _ _ _ h => h) (Or.inl ⟨by rfl, ?_⟩) (by assumption) ?_
  rotate_left
  · (intro w hSw; have q0 := HG0.out w hSw; have q1 := HG1.out w hSw; (try dsimp only at hSw); go_simp <;> with_reducible rfl)
  try simp only [Act.put, List.setIfInBounds_toArray, List.set_cons_zero, List.set_cons_succ]
  refine wpAnyH_take (i := 1) (oi := { dst := some 58, op := Go.Op.move (Go.Operand.tmp 8), type := 4, pos := "law.go:36", after := #[], guard := none }) (v := ?_) rfl (by kernel_rfl) (by kernel_rfl) (by kernel_rfl) (fun _ _ _ h => h) (Or.inl ⟨by rfl, ?_⟩) (by assumption) ?_
  rotate_left
  · (intro w hSw; (try dsimp only at hSw); go_simp <;> with_reducible rfl)
  try simp only [Act.put, List.setIfInBounds_toArray, List.set_cons_zero, List.set_cons_succ]
  refine wpAnyH_take (i := 2) (oi := { dst := some 59, op := Go.Op.move (Go.Operand.tmp 9), type := 9, pos := "law.go:36", after := #[], guard := none }) (v := ?_) rfl (by kernel_rfl) (by kernel_rfl) (by kernel_rfl) (fun _ _ _ h => h) (Or.inl ⟨by rfl, ?_⟩) (by assumption) ?_
  rotate_left
  · (intro w hSw; (try dsimp only at hSw); go_simp <;> with_reducible rfl)
  try simp only [Act.put, List.setIfInBounds_toArray, List.set_cons_zero, List.set_cons_succ]
  refine wpAnyH_take (i := 3) (oi := { dst := some 60, op := Go.Op.move (Go.Operand.tmp 2), type := 9, pos := "law.go:36", after := #[], guard := none }) (v := ?_) rfl (by kernel_rfl) (by kernel_rfl) (by kernel_rfl) (fun _ _ _ h => h) (Or.inl ⟨by rfl, ?_⟩) (by assumption) ?_
  rotate_left
  · (intro w hSw; (try dsimp only at hSw); go_simp <;> with_reducible rfl)
  try simp only [Act.put, List.setIfInBounds_toArray, List.set_cons_zero, List.set_cons_succ]
  refine wpAnyH_take (i := 4) (oi := { dst := some 61, op := Go.Op.move (Go.Operand.tmp 2), type := 9, pos := "law.go:36", after := #[], guard := none }) (v := ?_) rfl (by kernel_rfl) (by kernel_rfl) (by kernel_rfl) (fun _ _ _ h => h) (Or.inl ⟨by rfl, ?_⟩) (by assumption) ?_
  rotate_left
  · (intro w hSw; (try dsimp only at hSw); go_simp <;> with_reducible rfl)
  try simp only [Act.put, List.setIfInBounds_toArray, List.set_cons_zero, List.set_cons_succ]
  refine wpAnyH_take (i := 5) (oi := { dst := some 62, op := Go.Op.call { callee := Go.Callee.builtin Go.Builtin.len, args := #[Go.Operand.tmp 61], argTypes := #[9] }, type := 3, pos := "law.go:36", after := #[{ on := 4, ground := Go.Ground.data }], guard := none }) (v := ?_) rfl (by kernel_rfl) (by kernel_rfl) (by kernel_rfl) (fun _ _ _ h => h) (Or.inl ⟨by rfl, ?_⟩) (by assumption) ?_
  rotate_left
  · (intro w hSw; (try dsimp only at hSw); go_simp <;> with_reducible rfl)
  try simp only [Act.put, List.setIfInBounds_toArray, List.set_cons_zero, List.set_cons_succ]
  refine wpAnyH_take (i := 6) (oi := { dst := some 63, op := Go.Op.call { callee := Go.Callee.builtin Go.Builtin.min, args := #[Go.Operand.tmp 62, Go.Operand.const (Go.Value.int Go.IntKind.i64 9)], argTypes := #[3, 3] }, type := 3, pos := "law.go:36", after := #[{ on := 5, ground := Go.Ground.data }], guard := none }) (v := ?_) rfl (by kernel_rfl) (by kernel_rfl) (by kernel_rfl) (fun _ _ _ h => h) (Or.inl ⟨by rfl, ?_⟩) (by assumption) ?_
  rotate_left
  · (intro w hSw; (try dsimp only at hSw); go_simp <;> with_reducible rfl)
  try simp only [Act.put, List.setIfInBounds_toArray, List.set_cons_zero, List.set_cons_succ]
  refine wpAnyH_take (i := 7) (oi := { dst := some 64, op := Go.Op.slice 9 (Go.Operand.tmp 60) none (some (Go.Operand.tmp 63)) none, type := 9, pos := "law.go:36", after := #[{ on := 3, ground := Go.Ground.data }, { on := 6, ground := Go.Ground.data }], guard := none }) (v := ?_) rfl (by kernel_rfl) (by kernel_rfl) (by kernel_rfl) (fun _ _ _ h => h) (Or.inl ⟨by rfl, ?_⟩) (by assumption) ?_
  rotate_left
  · (intro w hSw; (try dsimp only at hSw); go_simp <;> with_reducible rfl)
  try simp only [Act.put, List.setIfInBounds_toArray, List.set_cons_zero, List.set_cons_succ]
  refine wpAnyH_take (i := 8) (oi := { dst := some 65, op := Go.Op.binOp Go.BinOp.add 9 (Go.Operand.tmp 59) (Go.Operand.tmp 64) 9, type := 9, pos := "law.go:36", after := #[{ on := 2, ground := Go.Ground.data }, { on := 7, ground := Go.Ground.data }], guard := none }) (v := ?_) rfl (by kernel_rfl) (by kernel_rfl) (by kernel_rfl) (fun _ _ _ h => h) (Or.inl ⟨by rfl, ?_⟩) (by assumption) ?_
  rotate_left
  · (intro w hSw; (try dsimp only at hSw); go_simp <;> with_reducible rfl)
  try simp only [Act.put, List.setIfInBounds_toArray, List.set_cons_zero, List.set_cons_succ]
  refine wpAnyH_ready (rs := [9, 13]) (by kernel_rfl) (by simp) ?_
  refine (AllReadyH.cons (o := { dst := some 66, op := Go.Op.call { callee := Go.Callee.value (Go.Operand.func 26), args := #[Go.Operand.tmp 57, Go.Operand.tmp 58, Go.Operand.tmp 65], argTypes := #[46, 4, 9] }, type := 53, pos := "law.go:36", after := #[{ on := 0, ground := Go.Ground.data }, { on := 1, ground := Go.Ground.data }, { on := 8, ground := Go.Ground.data }], guard := none }) rfl (fun K hK => ?_) (AllReadyH.cons (o := { dst := some 13, op := Go.Op.alloc 49, type := 0, pos := "law.go:36", after := #[], guard := none }) rfl (fun K hK => ?_) AllReadyH.nil))
  · (first | go_at_call 26 | (go_simp; go_at_call 26))
    refine (HRD.out _).mono ?_
    rintro e w6 ⟨rfl, h6⟩
    try go_wp2_with fail
    refine hK.out _ _ ?_ (fun hHeld2 => ?_)
    · exact hHeld.trans (h6.mono hHeld.size)
    clear hK K
    try simp only [Act.put, List.setIfInBounds_toArray, List.set_cons_zero, List.set_cons_succ]
    refine wpAnyH_take (i := 10) (oi := { dst := some 56, op := Go.Op.move (Go.Operand.tmp 66), type := 53, pos := "law.go:36", after := #[{ on := 9, ground := Go.Ground.data }], guard := none }) (v := ?_) rfl (by kernel_rfl) (by kernel_rfl) (by kernel_rfl) (fun _ _ _ h => h) (Or.inl ⟨by rfl, ?_⟩) (by assumption) ?_
    rotate_left
    · (intro w hSw; (try dsimp only at hSw); go_simp <;> with_reducible rfl)
    try simp only [Act.put, List.setIfInBounds_toArray, List.set_cons_zero, List.set_cons_succ]
    refine wpAnyH_take (i := 11) (oi := { dst := some 67, op := Go.Op.extract (Go.Operand.tmp 56) 0, type := 49, pos := "law.go:36", after := #[{ on := 10, ground := Go.Ground.data }], guard := none }) (v := ?_) rfl (by kernel_rfl) (by kernel_rfl) (by kernel_rfl) (fun _ _ _ h => h) (Or.inl ⟨by rfl, ?_⟩) (by assumption) ?_
    rotate_left
    · (intro w hSw; (try dsimp only at hSw); go_simp <;> with_reducible rfl)
    try simp only [Act.put, List.setIfInBounds_toArray, List.set_cons_zero, List.set_cons_succ]
    refine wpAnyH_take (i := 12) (oi := { dst := some 68, op := Go.Op.extract (Go.Operand.tmp 56) 1, type := 4, pos := "law.go:36", after := #[{ on := 10, ground := Go.Ground.data }, { on := 14, ground := Go.Ground.gcOnly Go.Departure.lateStores }], guard := none }) (v := ?_) rfl (by kernel_rfl) (by kernel_rfl) (by kernel_rfl) (fun _ _ _ h => h) (Or.inl ⟨by rfl, ?_⟩) (by assumption) ?_
    rotate_left
    · (intro w hSw; (try dsimp only at hSw); go_simp <;> with_reducible rfl)
    try simp only [Act.put, List.setIfInBounds_toArray, List.set_cons_zero, List.set_cons_succ]
    refine wpAnyH_ready (rs := [13]) (by kernel_rfl) (by simp) ?_
    refine AllReadyH.cons (o := { dst := some 13, op := Go.Op.alloc 49, type := 0, pos := "law.go:36", after := #[], guard := none }) rfl (fun K hK => ?_) AllReadyH.nil
    go_simp
    refine hK.out _ _ ?_ (fun hHeld3_9 => ?_)
    · exact hHeld2.alloc hHeld2.size _
    clear hK K
    try simp only [Act.put, List.setIfInBounds_toArray, List.set_cons_zero, List.set_cons_succ]
    refine wpAnyH_ready (rs := [14]) (by kernel_rfl) (by simp) ?_
    refine AllReadyH.cons (o := { dst := none, op := Go.Op.store 49 (Go.Operand.tmp 13) (Go.Operand.tmp 67), type := 0, pos := "law.go:36", after := #[{ on := 13, ground := Go.Ground.data }, { on := 11, ground := Go.Ground.data }, { on := 9, ground := Go.Ground.chain }, { on := 0, ground := Go.Ground.phase }, { on := 1, ground := Go.Ground.phase }, { on := 2, ground := Go.Ground.phase }, { on := 3, ground := Go.Ground.phase }, { on := 4, ground := Go.Ground.phase }, { on := 5, ground := Go.Ground.phase }, { on := 6, ground := Go.Ground.phase }, { on := 7, ground := Go.Ground.phase }, { on := 8, ground := Go.Ground.phase }, { on := 9, ground := Go.Ground.phase }, { on := 10, ground := Go.Ground.phase }, { on := 11, ground := Go.Ground.phase }, { on := 12, ground := Go.Ground.textOnly Go.Departure.lateStores }, { on := 13, ground := Go.Ground.phase }], guard := none }) rfl (fun K hK => ?_) AllReadyH.nil
    refine wp_store_row 49 _ _ rfl w6.heap.size #[.int .u64 (off : Nat), .int .u64 (sym : Nat), .int .u64 (ty : Nat), .int .u64 (add : Nat)] (by rfl) (by rfl) 49 #[.int .u64 0, .int .u64 0, .int .u64 0, .int .u64 0] (heap_alloc_new _ _) (by kernel_rfl) rfl (by simp [Value.oneCell']) ?_
    refine hK.out _ _ ?_ (fun hHeld4_9_13 => ?_)
    · exact below_setRow hHeld3_9 (by have := hHeld3_9.size; have := hHeld2.size; omega) _
    clear hK K
    try simp only [Act.put]
    refine wpAnyH_take (i := 15) (oi := { dst := some 14, op := Go.Op.assign (Go.Operand.tmp 68), type := 4, pos := "law.go:36", after := #[{ on := 12, ground := Go.Ground.data }, { on := 14, ground := Go.Ground.chain }, { on := 0, ground := Go.Ground.phase }, { on := 1, ground := Go.Ground.phase }, { on := 2, ground := Go.Ground.phase }, { on := 3, ground := Go.Ground.phase }, { on := 4, ground := Go.Ground.phase }, { on := 5, ground := Go.Ground.phase }, { on := 6, ground := Go.Ground.phase }, { on := 7, ground := Go.Ground.phase }, { on := 8, ground := Go.Ground.phase }, { on := 9, ground := Go.Ground.phase }, { on := 10, ground := Go.Ground.phase }, { on := 11, ground := Go.Ground.phase }, { on := 12, ground := Go.Ground.phase }, { on := 13, ground := Go.Ground.phase }, { on := 14, ground := Go.Ground.phase }], guard := none }) (v := ?_) rfl (by kernel_rfl) (by kernel_rfl) (by kernel_rfl) (fun _ _ _ h => h) (Or.inl ⟨by rfl, ?_⟩) (by assumption) ?_
    rotate_left
    · (intro w hSw; (try dsimp only at hSw); go_simp <;> with_reducible rfl)
    try simp only [Act.put, List.setIfInBounds_toArray, List.set_cons_zero, List.set_cons_succ]
    refine wpAnyH_done (by kernel_rfl) ?_ _
    have hHx := hHeld4_9_13
    have hrow : ((w6.alloc (.cells #[.int .u64 0, .int .u64 0, .int .u64 0, .int .u64 0] 49)).setRow w6.heap.size #[.int .u64 (off : Nat), .int .u64 (sym : Nat), .int .u64 (ty : Nat), .int .u64 (add : Nat)]).heap[w6.heap.size]? = some (.cells #[.int .u64 (off : Nat), .int .u64 (sym : Nat), .int .u64 (ty : Nat), .int .u64 (add : Nat)] 49 (0, 0)) := setRow_heap _ _ #[.int .u64 0, .int .u64 0, .int .u64 0, .int .u64 0] _ _ _ (heap_alloc_new _ _)
    generalize ((w6.alloc (.cells #[.int .u64 0, .int .u64 0, .int .u64 0, .int .u64 0] 49)).setRow w6.heap.size #[.int .u64 (off : Nat), .int .u64 (sym : Nat), .int .u64 (ty : Nat), .int .u64 (add : Nat)]) = w7 at *
    have hB7 : Below w.heap.size w w7 := b5.trans (hHx.mono b5.size)
    have f0 := HG0.out _ hHx
    have f1 := HG1.out _ hHx
    have x0 := HX0.out _ hHx
    have y0 : w7.cell? ⟨w6.heap.size, 0, none⟩ = some (.int .u64 (off : Nat)) := by simp [World.cell?, hrow]
    have x1 := HX1.out _ hHx
    have y1 : w7.cell? ⟨w6.heap.size, 1, none⟩ = some (.int .u64 (sym : Nat)) := by simp [World.cell?, hrow]
    have x2 := HX2.out _ hHx
    have y2 : w7.cell? ⟨w6.heap.size, 2, none⟩ = some (.int .u64 (ty : Nat)) := by simp [World.cell?, hrow]
    have x3 := HX3.out _ hHx
    have y3 : w7.cell? ⟨w6.heap.size, 3, none⟩ = some (.int .u64 (add : Nat)) := by simp [World.cell?, hrow]
    clear hrow hHx HG0 HG1 HX0 HX1 HX2 HX3
    go_wp2_with fail
    refine (rsize_any big wide a _).mono ?_
    rintro e w8 ⟨rfl, h8⟩
    have hSe := HSE.out; have hSe2 := HSE2.out
    go_wp2
    go_ret
    exact ⟨by first | rfl | simp, hB7.trans (h8.mono hB7.size)⟩
  · go_simp
    refine hK.out _ _ ?_ (fun hHeld2 => ?_)
    · exact hHeld.alloc hHeld.size _
    clear hK K
    try simp only [Act.put, List.setIfInBounds_toArray, List.set_cons_zero, List.set_cons_succ]
    refine wpAnyH_ready (rs := [9]) (by kernel_rfl) (by simp) ?_
    refine AllReadyH.cons (o := { dst := some 66, op := Go.Op.call { callee := Go.Callee.value (Go.Operand.func 26), args := #[Go.Operand.tmp 57, Go.Operand.tmp 58, Go.Operand.tmp 65], argTypes := #[46, 4, 9] }, type := 53, pos := "law.go:36", after := #[{ on := 0, ground := Go.Ground.data }, { on := 1, ground := Go.Ground.data }, { on := 8, ground := Go.Ground.data }], guard := none }) rfl (fun K hK => ?_) AllReadyH.nil
    (first | go_at_call 26 | (go_simp; go_at_call 26))
    refine (HRD.out _).mono ?_
    rintro e w6 ⟨rfl, h6⟩
    try go_wp2_with fail
    refine hK.out _ _ ?_ (fun hHeld3_13 => ?_)
    · exact hHeld2.trans (h6.mono hHeld2.size)
    clear hK K
    try simp only [Act.put, List.setIfInBounds_toArray, List.set_cons_zero, List.set_cons_succ]
    refine wpAnyH_take (i := 10) (oi := { dst := some 56, op := Go.Op.move (Go.Operand.tmp 66), type := 53, pos := "law.go:36", after := #[{ on := 9, ground := Go.Ground.data }], guard := none }) (v := ?_) rfl (by kernel_rfl) (by kernel_rfl) (by kernel_rfl) (fun _ _ _ h => h) (Or.inl ⟨by rfl, ?_⟩) (by assumption) ?_
    rotate_left
    · (intro w hSw; (try dsimp only at hSw); go_simp <;> with_reducible rfl)
    try simp only [Act.put, List.setIfInBounds_toArray, List.set_cons_zero, List.set_cons_succ]
    refine wpAnyH_take (i := 11) (oi := { dst := some 67, op := Go.Op.extract (Go.Operand.tmp 56) 0, type := 49, pos := "law.go:36", after := #[{ on := 10, ground := Go.Ground.data }], guard := none }) (v := ?_) rfl (by kernel_rfl) (by kernel_rfl) (by kernel_rfl) (fun _ _ _ h => h) (Or.inl ⟨by rfl, ?_⟩) (by assumption) ?_
    rotate_left
    · (intro w hSw; (try dsimp only at hSw); go_simp <;> with_reducible rfl)
    try simp only [Act.put, List.setIfInBounds_toArray, List.set_cons_zero, List.set_cons_succ]
    refine wpAnyH_take (i := 12) (oi := { dst := some 68, op := Go.Op.extract (Go.Operand.tmp 56) 1, type := 4, pos := "law.go:36", after := #[{ on := 10, ground := Go.Ground.data }, { on := 14, ground := Go.Ground.gcOnly Go.Departure.lateStores }], guard := none }) (v := ?_) rfl (by kernel_rfl) (by kernel_rfl) (by kernel_rfl) (fun _ _ _ h => h) (Or.inl ⟨by rfl, ?_⟩) (by assumption) ?_
    rotate_left
    · (intro w hSw; (try dsimp only at hSw); go_simp <;> with_reducible rfl)
    try simp only [Act.put, List.setIfInBounds_toArray, List.set_cons_zero, List.set_cons_succ]
    refine wpAnyH_ready (rs := [14]) (by kernel_rfl) (by simp) ?_
    refine AllReadyH.cons (o := { dst := none, op := Go.Op.store 49 (Go.Operand.tmp 13) (Go.Operand.tmp 67), type := 0, pos := "law.go:36", after := #[{ on := 13, ground := Go.Ground.data }, { on := 11, ground := Go.Ground.data }, { on := 9, ground := Go.Ground.chain }, { on := 0, ground := Go.Ground.phase }, { on := 1, ground := Go.Ground.phase }, { on := 2, ground := Go.Ground.phase }, { on := 3, ground := Go.Ground.phase }, { on := 4, ground := Go.Ground.phase }, { on := 5, ground := Go.Ground.phase }, { on := 6, ground := Go.Ground.phase }, { on := 7, ground := Go.Ground.phase }, { on := 8, ground := Go.Ground.phase }, { on := 9, ground := Go.Ground.phase }, { on := 10, ground := Go.Ground.phase }, { on := 11, ground := Go.Ground.phase }, { on := 12, ground := Go.Ground.textOnly Go.Departure.lateStores }, { on := 13, ground := Go.Ground.phase }], guard := none }) rfl (fun K hK => ?_) AllReadyH.nil
    have hZ : w6.heap[w5.heap.size]? = some (.cells #[.int .u64 0, .int .u64 0, .int .u64 0, .int .u64 0] 49 (0, 0)) := by rw [h6.block _ (by show w5.heap.size < (w5.alloc _).heap.size; simp)]; exact heap_alloc_new w5 _
    refine wp_store_row 49 _ _ rfl w5.heap.size #[.int .u64 (off : Nat), .int .u64 (sym : Nat), .int .u64 (ty : Nat), .int .u64 (add : Nat)] (by rfl) (by rfl) 49 #[.int .u64 0, .int .u64 0, .int .u64 0, .int .u64 0] hZ (by kernel_rfl) rfl (by simp [Value.oneCell']) ?_
    refine hK.out _ _ ?_ (fun hHeld4_13_9 => ?_)
    · exact below_setRow hHeld3_13 (Nat.le_refl _) _
    clear hK K
    try simp only [Act.put]
    refine wpAnyH_take (i := 15) (oi := { dst := some 14, op := Go.Op.assign (Go.Operand.tmp 68), type := 4, pos := "law.go:36", after := #[{ on := 12, ground := Go.Ground.data }, { on := 14, ground := Go.Ground.chain }, { on := 0, ground := Go.Ground.phase }, { on := 1, ground := Go.Ground.phase }, { on := 2, ground := Go.Ground.phase }, { on := 3, ground := Go.Ground.phase }, { on := 4, ground := Go.Ground.phase }, { on := 5, ground := Go.Ground.phase }, { on := 6, ground := Go.Ground.phase }, { on := 7, ground := Go.Ground.phase }, { on := 8, ground := Go.Ground.phase }, { on := 9, ground := Go.Ground.phase }, { on := 10, ground := Go.Ground.phase }, { on := 11, ground := Go.Ground.phase }, { on := 12, ground := Go.Ground.phase }, { on := 13, ground := Go.Ground.phase }, { on := 14, ground := Go.Ground.phase }], guard := none }) (v := ?_) rfl (by kernel_rfl) (by kernel_rfl) (by kernel_rfl) (fun _ _ _ h => h) (Or.inl ⟨by rfl, ?_⟩) (by assumption) ?_
    rotate_left
    · (intro w hSw; (try dsimp only at hSw); go_simp <;> with_reducible rfl)
    try simp only [Act.put, List.setIfInBounds_toArray, List.set_cons_zero, List.set_cons_succ]
    refine wpAnyH_done (by kernel_rfl) ?_ _
    have hHx := hHeld4_13_9
    have hrow : (w6.setRow w5.heap.size #[.int .u64 (off : Nat), .int .u64 (sym : Nat), .int .u64 (ty : Nat), .int .u64 (add : Nat)]).heap[w5.heap.size]? = some (.cells #[.int .u64 (off : Nat), .int .u64 (sym : Nat), .int .u64 (ty : Nat), .int .u64 (add : Nat)] 49 (0, 0)) := setRow_heap _ _ #[.int .u64 0, .int .u64 0, .int .u64 0, .int .u64 0] _ _ _ (hZ)
    generalize (w6.setRow w5.heap.size #[.int .u64 (off : Nat), .int .u64 (sym : Nat), .int .u64 (ty : Nat), .int .u64 (add : Nat)]) = w7 at *
    have hB7 : Below w.heap.size w w7 := b5.trans (hHx.mono b5.size)
    have f0 := HG0.out _ hHx
    have f1 := HG1.out _ hHx
    have x0 := HX0.out _ hHx
    have y0 : w7.cell? ⟨w5.heap.size, 0, none⟩ = some (.int .u64 (off : Nat)) := by simp [World.cell?, hrow]
    have x1 := HX1.out _ hHx
    have y1 : w7.cell? ⟨w5.heap.size, 1, none⟩ = some (.int .u64 (sym : Nat)) := by simp [World.cell?, hrow]
    have x2 := HX2.out _ hHx
    have y2 : w7.cell? ⟨w5.heap.size, 2, none⟩ = some (.int .u64 (ty : Nat)) := by simp [World.cell?, hrow]
    have x3 := HX3.out _ hHx
    have y3 : w7.cell? ⟨w5.heap.size, 3, none⟩ = some (.int .u64 (add : Nat)) := by simp [World.cell?, hrow]
    clear hrow hHx HG0 HG1 HX0 HX1 HX2 HX3
    go_wp2_with fail
    refine (rsize_any big wide a _).mono ?_
    rintro e w8 ⟨rfl, h8⟩
    have hSe := HSE.out; have hSe2 := HSE2.out
    go_wp2
    go_ret
    exact ⟨by first | rfl | simp, hB7.trans (h8.mono hB7.size)⟩
end Go.Proofs.Ytddlflabdlgnbaa
