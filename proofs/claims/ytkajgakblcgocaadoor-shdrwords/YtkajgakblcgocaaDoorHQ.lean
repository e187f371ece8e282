/- Contracts of a header's package, by gen_hdr.py. Conditions: those written in each theorem. -/
import Derived.Laws.CopyOwn
import Derived.Laws.Tables
import Derived.Test.YtkajgakblcgocaaDoorHP
namespace Go.Proofs.YtkajgakblcgocaaDoor
open Go.RowKit
set_option maxRecDepth 100000 in
set_option maxHeartbeats 20000000 in
theorem swords_lt (a b : Nat) (ha : a < 2 ^ 64) (hb : b < 2 ^ 64) (h5 : a < 19) (w : World) (hT : TabsS w) :
    Calls Tryd.prog 4 #[.int .u64 a, .int .u64 b] w fun e w' => e = .returned (.bool true) ∧ Below w.heap.size w w' := by
  have HA := Lib.hid ha; clear ha
  have HBB := Lib.hid hb; clear hb
  have HT := Lib.hid hT; clear hT
  go_enter Tryd.func4, Tryd.ntmps4
  go_wp2_with fail
  refine (sspeaks _).mono ?_
  rintro e w1 ⟨rfl, h1⟩
  have HT1 := Lib.hid (HT.out.kept h1)
  have hW : Below w.heap.size w (w1.alloc (.cells #[.string ⟨#[78, 85, 76, 76]⟩, .string ⟨#[80, 82, 79, 71, 66, 73, 84, 83]⟩, .string ⟨#[83, 89, 77, 84, 65, 66]⟩, .string ⟨#[83, 84, 82, 84, 65, 66]⟩, .string ⟨#[82, 69, 76, 65]⟩, .string ⟨#[72, 65, 83, 72]⟩, .string ⟨#[68, 89, 78, 65, 77, 73, 67]⟩, .string ⟨#[78, 79, 84, 69]⟩, .string ⟨#[78, 79, 66, 73, 84, 83]⟩, .string ⟨#[82, 69, 76]⟩, .string ⟨#[83, 72, 76, 73, 66]⟩, .string ⟨#[68, 89, 78, 83, 89, 77]⟩, .string ⟨#[48, 120, 99]⟩, .string ⟨#[48, 120, 100]⟩, .string ⟨#[73, 78, 73, 84, 95, 65, 82, 82, 65, 89]⟩, .string ⟨#[70, 73, 78, 73, 95, 65, 82, 82, 65, 89]⟩, .string ⟨#[80, 82, 69, 73, 78, 73, 84, 95, 65, 82, 82, 65, 89]⟩, .string ⟨#[71, 82, 79, 85, 80]⟩, .string ⟨#[83, 89, 77, 84, 65, 66, 95, 83, 72, 78, 68, 88]⟩] 9)) := h1.alloc h1.size _
  have hTW : TabsS (w1.alloc (.cells #[.string ⟨#[78, 85, 76, 76]⟩, .string ⟨#[80, 82, 79, 71, 66, 73, 84, 83]⟩, .string ⟨#[83, 89, 77, 84, 65, 66]⟩, .string ⟨#[83, 84, 82, 84, 65, 66]⟩, .string ⟨#[82, 69, 76, 65]⟩, .string ⟨#[72, 65, 83, 72]⟩, .string ⟨#[68, 89, 78, 65, 77, 73, 67]⟩, .string ⟨#[78, 79, 84, 69]⟩, .string ⟨#[78, 79, 66, 73, 84, 83]⟩, .string ⟨#[82, 69, 76]⟩, .string ⟨#[83, 72, 76, 73, 66]⟩, .string ⟨#[68, 89, 78, 83, 89, 77]⟩, .string ⟨#[48, 120, 99]⟩, .string ⟨#[48, 120, 100]⟩, .string ⟨#[73, 78, 73, 84, 95, 65, 82, 82, 65, 89]⟩, .string ⟨#[70, 73, 78, 73, 95, 65, 82, 82, 65, 89]⟩, .string ⟨#[80, 82, 69, 73, 78, 73, 84, 95, 65, 82, 82, 65, 89]⟩, .string ⟨#[71, 82, 79, 85, 80]⟩, .string ⟨#[83, 89, 77, 84, 65, 66, 95, 83, 72, 78, 68, 88]⟩] 9)) := HT1.out.kept ((Below.refl _ _).alloc (Nat.le_refl _) _)
  have HTW := Lib.hid hTW; clear hTW
  have zW : w1.heap.size < (w1.alloc (.cells #[.string ⟨#[78, 85, 76, 76]⟩, .string ⟨#[80, 82, 79, 71, 66, 73, 84, 83]⟩, .string ⟨#[83, 89, 77, 84, 65, 66]⟩, .string ⟨#[83, 84, 82, 84, 65, 66]⟩, .string ⟨#[82, 69, 76, 65]⟩, .string ⟨#[72, 65, 83, 72]⟩, .string ⟨#[68, 89, 78, 65, 77, 73, 67]⟩, .string ⟨#[78, 79, 84, 69]⟩, .string ⟨#[78, 79, 66, 73, 84, 83]⟩, .string ⟨#[82, 69, 76]⟩, .string ⟨#[83, 72, 76, 73, 66]⟩, .string ⟨#[68, 89, 78, 83, 89, 77]⟩, .string ⟨#[48, 120, 99]⟩, .string ⟨#[48, 120, 100]⟩, .string ⟨#[73, 78, 73, 84, 95, 65, 82, 82, 65, 89]⟩, .string ⟨#[70, 73, 78, 73, 95, 65, 82, 82, 65, 89]⟩, .string ⟨#[80, 82, 69, 73, 78, 73, 84, 95, 65, 82, 82, 65, 89]⟩, .string ⟨#[71, 82, 79, 85, 80]⟩, .string ⟨#[83, 89, 77, 84, 65, 66, 95, 83, 72, 78, 68, 88]⟩] 9)).heap.size := by simp
  have tcell := words_cell a h5 w1
  go_wp2_with fail
  generalize (w1.alloc (.cells #[.string ⟨#[78, 85, 76, 76]⟩, .string ⟨#[80, 82, 79, 71, 66, 73, 84, 83]⟩, .string ⟨#[83, 89, 77, 84, 65, 66]⟩, .string ⟨#[83, 84, 82, 84, 65, 66]⟩, .string ⟨#[82, 69, 76, 65]⟩, .string ⟨#[72, 65, 83, 72]⟩, .string ⟨#[68, 89, 78, 65, 77, 73, 67]⟩, .string ⟨#[78, 79, 84, 69]⟩, .string ⟨#[78, 79, 66, 73, 84, 83]⟩, .string ⟨#[82, 69, 76]⟩, .string ⟨#[83, 72, 76, 73, 66]⟩, .string ⟨#[68, 89, 78, 83, 89, 77]⟩, .string ⟨#[48, 120, 99]⟩, .string ⟨#[48, 120, 100]⟩, .string ⟨#[73, 78, 73, 84, 95, 65, 82, 82, 65, 89]⟩, .string ⟨#[70, 73, 78, 73, 95, 65, 82, 82, 65, 89]⟩, .string ⟨#[80, 82, 69, 73, 78, 73, 84, 95, 65, 82, 82, 65, 89]⟩, .string ⟨#[71, 82, 79, 85, 80]⟩, .string ⟨#[83, 89, 77, 84, 65, 66, 95, 83, 72, 78, 68, 88]⟩] 9)) = W at *
  have HGX : Hid (∀ w', Below W.heap.size W w' → w'.cell? ⟨w1.heap.size, a, none⟩ = some (.string ⟨(Hex.look secTab a).toArray⟩)) := Lib.hid (fun w' h => by rw [h.cell (by exact zW)]; exact tcell)
  clear tcell
  generalize hSA : (⟨(Hex.look secTab a).toArray⟩ : ByteArray) = SA at *
  have HSA := Lib.hid hSA; clear hSA
  have hd : decide ((a : Int) < 19) = true := by simp; omega
  have hd2 : decide ((19 : Int) ≤ (a : Int)) = false := by simp; omega
  have hi0 : (0 : Int) ≤ (a : Int) := by omega
  have hi1 : (a : Int) < 19 := by omega
  refine wp_region_held_drew (S := fun w' => Below W.heap.size W w') (by kernel_rfl) ?_ (fun hHeld => ?_)
  · exact (Below.refl _ _).drew
  refine wpAnyH_take (i := 0) (oi := { dst := some 13, op := Go.Op.move (Go.Operand.tmp 0), type := 22, pos := "law.go:64", after := #[], guard := none }) (v := ?_) rfl (by kernel_rfl) (by kernel_rfl) (by kernel_rfl) (fun _ _ _ h => h) (Or.inl ⟨by rfl, ?_⟩) (by assumption) ?_
  rotate_left
  · (intro w hSw; (try dsimp only at hSw); go_simp <;> with_reducible rfl)
  try simp only [Act.put, List.setIfInBounds_toArray, List.set_cons_zero, List.set_cons_succ]
  refine wpAnyH_take (i := 1) (oi := { dst := some 14, op := Go.Op.binOp Go.BinOp.lss 22 (Go.Operand.tmp 13) (Go.Operand.const (Go.Value.int Go.IntKind.u64 19)) 22, type := 4, pos := "law.go:64", after := #[{ on := 0, ground := Go.Ground.data }], guard := none }) (v := ?_) rfl (by kernel_rfl) (by kernel_rfl) (by kernel_rfl) (fun _ _ _ h => h) (Or.inl ⟨by rfl, ?_⟩) (by assumption) ?_
  rotate_left
  · (intro w hSw; (try dsimp only at hSw); go_simp <;> with_reducible rfl)
  try simp only [Act.put, List.setIfInBounds_toArray, List.set_cons_zero, List.set_cons_succ]
  refine wpAnyH_take (i := 2) (oi := { dst := some 15, op := Go.Op.move (Go.Operand.tmp 14), type := 4, pos := "law.go:64", after := #[{ on := 1, ground := Go.Ground.data }], guard := none }) (v := ?_) rfl (by kernel_rfl) (by kernel_rfl) (by kernel_rfl) (fun _ _ _ h => h) (Or.inl ⟨by rfl, ?_⟩) (by assumption) ?_
  rotate_left
  · (intro w hSw; (try dsimp only at hSw); go_simp <;> with_reducible rfl)
  try simp only [Act.put, List.setIfInBounds_toArray, List.set_cons_zero, List.set_cons_succ]
  refine wpAnyH_take (i := 3) (oi := { dst := some 16, op := Go.Op.move (Go.Operand.tmp 0), type := 22, pos := "law.go:64", after := #[{ on := 2, ground := Go.Ground.guard }], guard := some (2, true) }) (v := ?_) rfl (by kernel_rfl) (by kernel_rfl) (by kernel_rfl) (fun _ _ _ h => h) (Or.inl ⟨by rfl, ?_⟩) (by assumption) ?_
  rotate_left
  · (intro w hSw; (try dsimp only at hSw); go_simp <;> with_reducible rfl)
  try simp only [Act.put, List.setIfInBounds_toArray, List.set_cons_zero, List.set_cons_succ]
  refine wpAnyH_take (i := 5) (oi := { dst := some 18, op := Go.Op.move (Go.Operand.tmp 5), type := 24, pos := "law.go:64", after := #[{ on := 2, ground := Go.Ground.guard }], guard := some (2, true) }) (v := ?_) rfl (by kernel_rfl) (by kernel_rfl) (by kernel_rfl) (fun _ _ _ h => h) (Or.inl ⟨by rfl, ?_⟩) (by assumption) ?_
  rotate_left
  · (intro w hSw; (try dsimp only at hSw); go_simp <;> with_reducible rfl)
  try simp only [Act.put, List.setIfInBounds_toArray, List.set_cons_zero, List.set_cons_succ]
  refine wpAnyH_take (i := 6) (oi := { dst := some 19, op := Go.Op.move (Go.Operand.tmp 0), type := 22, pos := "law.go:64", after := #[{ on := 2, ground := Go.Ground.guard }], guard := some (2, true) }) (v := ?_) rfl (by kernel_rfl) (by kernel_rfl) (by kernel_rfl) (fun _ _ _ h => h) (Or.inl ⟨by rfl, ?_⟩) (by assumption) ?_
  rotate_left
  · (intro w hSw; (try dsimp only at hSw); go_simp <;> with_reducible rfl)
  try simp only [Act.put, List.setIfInBounds_toArray, List.set_cons_zero, List.set_cons_succ]
  refine wpAnyH_take (i := 7) (oi := { dst := some 20, op := Go.Op.indexAddr 24 (Go.Operand.tmp 18) (Go.Operand.tmp 19), type := 0, pos := "law.go:64", after := #[{ on := 5, ground := Go.Ground.data }, { on := 6, ground := Go.Ground.data }, { on := 2, ground := Go.Ground.guard }], guard := some (2, true) }) (v := ?_) rfl (by kernel_rfl) (by kernel_rfl) (by kernel_rfl) (fun _ _ _ h => h) (Or.inl ⟨by rfl, ?_⟩) (by assumption) ?_
  rotate_left
  · (intro w hSw; (try dsimp only at hSw); go_simp <;> with_reducible rfl)
  try simp only [Act.put, List.setIfInBounds_toArray, List.set_cons_zero, List.set_cons_succ]
  refine wpAnyH_take (i := 8) (oi := { dst := some 21, op := Go.Op.load 9 (Go.Operand.tmp 20), type := 9, pos := "law.go:64", after := #[{ on := 7, ground := Go.Ground.data }, { on := 2, ground := Go.Ground.guard }], guard := some (2, true) }) (v := ?_) rfl (by kernel_rfl) (by kernel_rfl) (by kernel_rfl) (fun _ _ _ h => h) (Or.inl ⟨by rfl, ?_⟩) (by assumption) ?_
  rotate_left
  · (intro w hSw; have q0 := HGX.out w hSw; (try dsimp only at hSw); go_simp <;> with_reducible rfl)
  try simp only [Act.put, List.setIfInBounds_toArray, List.set_cons_zero, List.set_cons_succ]
  refine wpAnyH_ready (rs := [4]) (by kernel_rfl) (by simp) ?_
  refine AllReadyH.cons (o := { dst := some 17, op := Go.Op.call { callee := Go.Callee.value (Go.Operand.func 9), args := #[Go.Operand.tmp 16], argTypes := #[22] }, type := 9, pos := "law.go:64", after := #[{ on := 3, ground := Go.Ground.data }, { on := 2, ground := Go.Ground.chain }, { on := 2, ground := Go.Ground.guard }], guard := some (2, true) }) rfl (fun K hK => ?_) AllReadyH.nil
  (first | go_at_call 9 | (go_simp; go_at_call 9))
  (with_reducible refine (secName a HA.out _ (HTW.out.kept hHeld)).mono ?_)
  rintro e w2 ⟨rfl, h2⟩
  rw [HSA.out]
  try go_wp2_with fail
  refine hK.out _ _ ?_ (fun hHeld2 => ?_)
  · exact hHeld.trans (h2.mono hHeld.size)
  clear hK K
  try simp only [Act.put, List.setIfInBounds_toArray, List.set_cons_zero, List.set_cons_succ]
  refine wpAnyH_take (i := 9) (oi := { dst := some 22, op := Go.Op.binOp Go.BinOp.neq 9 (Go.Operand.tmp 17) (Go.Operand.tmp 21) 9, type := 4, pos := "law.go:64", after := #[{ on := 4, ground := Go.Ground.data }, { on := 8, ground := Go.Ground.data }, { on := 2, ground := Go.Ground.guard }], guard := some (2, true) }) (v := ?_) rfl (by kernel_rfl) (by kernel_rfl) (by kernel_rfl) (fun _ _ _ h => h) (Or.inl ⟨by rfl, ?_⟩) (by assumption) ?_
  rotate_left
  · (intro w hSw; (try dsimp only at hSw); go_simp <;> with_reducible rfl)
  try simp only [Act.put, List.setIfInBounds_toArray, List.set_cons_zero, List.set_cons_succ]
  refine wpAnyH_take (i := 10) (oi := { dst := some 23, op := Go.Op.pick (Go.Operand.tmp 15) (Go.Operand.tmp 22) (Go.Operand.const (Go.Value.bool false)), type := 4, pos := "law.go:64", after := #[{ on := 2, ground := Go.Ground.data }, { on := 9, ground := Go.Ground.data }], guard := none }) (v := ?_) rfl (by kernel_rfl) (by kernel_rfl) (by kernel_rfl) (fun _ _ _ h => h) (Or.inl ⟨by rfl, ?_⟩) (by assumption) ?_
  rotate_left
  · (intro w hSw; (try dsimp only at hSw); go_simp <;> with_reducible rfl)
  try simp only [Act.put, List.setIfInBounds_toArray, List.set_cons_zero, List.set_cons_succ]
  refine wpAnyH_take (i := 11) (oi := { dst := some 24, op := Go.Op.move (Go.Operand.tmp 23), type := 4, pos := "law.go:64", after := #[{ on := 10, ground := Go.Ground.data }, { on := 4, ground := Go.Ground.chain }], guard := none }) (v := ?_) rfl (by kernel_rfl) (by kernel_rfl) (by kernel_rfl) (fun _ _ _ h => h) (Or.inl ⟨by rfl, ?_⟩) (by assumption) ?_
  rotate_left
  · (intro w hSw; (try dsimp only at hSw); go_simp <;> with_reducible rfl)
  try simp only [Act.put, List.setIfInBounds_toArray, List.set_cons_zero, List.set_cons_succ]
  refine wpAnyH_take (i := 12) (oi := { dst := some 25, op := Go.Op.move (Go.Operand.tmp 0), type := 22, pos := "law.go:64", after := #[{ on := 11, ground := Go.Ground.guard }], guard := some (11, false) }) (v := ?_) rfl (by kernel_rfl) (by kernel_rfl) (by kernel_rfl) (fun _ _ _ h => h) (Or.inl ⟨by rfl, ?_⟩) (by assumption) ?_
  rotate_left
  · (intro w hSw; (try dsimp only at hSw); go_simp <;> with_reducible rfl)
  try simp only [Act.put, List.setIfInBounds_toArray, List.set_cons_zero, List.set_cons_succ]
  refine wpAnyH_take (i := 13) (oi := { dst := some 26, op := Go.Op.binOp Go.BinOp.geq 22 (Go.Operand.tmp 25) (Go.Operand.const (Go.Value.int Go.IntKind.u64 19)) 22, type := 4, pos := "law.go:64", after := #[{ on := 12, ground := Go.Ground.data }, { on := 11, ground := Go.Ground.guard }], guard := some (11, false) }) (v := ?_) rfl (by kernel_rfl) (by kernel_rfl) (by kernel_rfl) (fun _ _ _ h => h) (Or.inl ⟨by rfl, ?_⟩) (by assumption) ?_
  rotate_left
  · (intro w hSw; (try dsimp only at hSw); go_simp <;> with_reducible rfl)
  try simp only [Act.put, List.setIfInBounds_toArray, List.set_cons_zero, List.set_cons_succ]
  refine wpAnyH_take (i := 14) (oi := { dst := some 27, op := Go.Op.move (Go.Operand.tmp 26), type := 4, pos := "law.go:64", after := #[{ on := 13, ground := Go.Ground.data }, { on := 11, ground := Go.Ground.chain }, { on := 11, ground := Go.Ground.guard }], guard := some (11, false) }) (v := ?_) rfl (by kernel_rfl) (by kernel_rfl) (by kernel_rfl) (fun _ _ _ h => h) (Or.inl ⟨by rfl, ?_⟩) (by assumption) ?_
  rotate_left
  · (intro w hSw; (try dsimp only at hSw); go_simp <;> with_reducible rfl)
  try simp only [Act.put, List.setIfInBounds_toArray, List.set_cons_zero, List.set_cons_succ]
  refine wpAnyH_take (i := 15) (oi := { dst := some 28, op := Go.Op.move (Go.Operand.tmp 0), type := 22, pos := "law.go:64", after := #[{ on := 14, ground := Go.Ground.guard }], guard := some (14, true) }) (v := undef) rfl (by kernel_rfl) (by kernel_rfl) (by kernel_rfl) (fun _ _ _ h => h) (Or.inr ⟨by rfl, rfl⟩) (by assumption) ?_
  try simp only [Act.put, List.setIfInBounds_toArray, List.set_cons_zero, List.set_cons_succ]
  refine wpAnyH_take (i := 16) (oi := { dst := some 29, op := Go.Op.call { callee := Go.Callee.value (Go.Operand.func 9), args := #[Go.Operand.tmp 28], argTypes := #[22] }, type := 9, pos := "law.go:64", after := #[{ on := 15, ground := Go.Ground.data }, { on := 14, ground := Go.Ground.chain }, { on := 14, ground := Go.Ground.guard }], guard := some (14, true) }) (v := undef) rfl (by kernel_rfl) (by kernel_rfl) (by kernel_rfl) (fun _ _ _ h => h) (Or.inr ⟨by rfl, rfl⟩) (by assumption) ?_
  try simp only [Act.put, List.setIfInBounds_toArray, List.set_cons_zero, List.set_cons_succ]
  refine wpAnyH_take (i := 17) (oi := { dst := some 30, op := Go.Op.slice 9 (Go.Operand.tmp 29) none (some (Go.Operand.const (Go.Value.int Go.IntKind.i64 2))) none, type := 9, pos := "law.go:64", after := #[{ on := 16, ground := Go.Ground.data }, { on := 14, ground := Go.Ground.guard }], guard := some (14, true) }) (v := undef) rfl (by kernel_rfl) (by kernel_rfl) (by kernel_rfl) (fun _ _ _ h => h) (Or.inr ⟨by rfl, rfl⟩) (by assumption) ?_
  try simp only [Act.put, List.setIfInBounds_toArray, List.set_cons_zero, List.set_cons_succ]
  refine wpAnyH_take (i := 18) (oi := { dst := some 31, op := Go.Op.binOp Go.BinOp.neq 9 (Go.Operand.tmp 30) (Go.Operand.const (Go.Value.string { data := #[48, 120] })) 9, type := 4, pos := "law.go:64", after := #[{ on := 17, ground := Go.Ground.data }, { on := 14, ground := Go.Ground.guard }], guard := some (14, true) }) (v := undef) rfl (by kernel_rfl) (by kernel_rfl) (by kernel_rfl) (fun _ _ _ h => h) (Or.inr ⟨by rfl, rfl⟩) (by assumption) ?_
  try simp only [Act.put, List.setIfInBounds_toArray, List.set_cons_zero, List.set_cons_succ]
  refine wpAnyH_take (i := 19) (oi := { dst := some 32, op := Go.Op.pick (Go.Operand.tmp 27) (Go.Operand.tmp 31) (Go.Operand.const (Go.Value.bool false)), type := 4, pos := "law.go:64", after := #[{ on := 14, ground := Go.Ground.data }, { on := 18, ground := Go.Ground.data }, { on := 11, ground := Go.Ground.guard }], guard := some (11, false) }) (v := ?_) rfl (by kernel_rfl) (by kernel_rfl) (by kernel_rfl) (fun _ _ _ h => h) (Or.inl ⟨by rfl, ?_⟩) (by assumption) ?_
  rotate_left
  · (intro w hSw; (try dsimp only at hSw); go_simp <;> with_reducible rfl)
  try simp only [Act.put, List.setIfInBounds_toArray, List.set_cons_zero, List.set_cons_succ]
  refine wpAnyH_take (i := 20) (oi := { dst := some 33, op := Go.Op.pick (Go.Operand.tmp 24) (Go.Operand.const (Go.Value.bool true)) (Go.Operand.tmp 32), type := 4, pos := "law.go:64", after := #[{ on := 11, ground := Go.Ground.data }, { on := 19, ground := Go.Ground.data }], guard := none }) (v := ?_) rfl (by kernel_rfl) (by kernel_rfl) (by kernel_rfl) (fun _ _ _ h => h) (Or.inl ⟨by rfl, ?_⟩) (by assumption) ?_
  rotate_left
  · (intro w hSw; (try dsimp only at hSw); go_simp <;> with_reducible rfl)
  try simp only [Act.put, List.setIfInBounds_toArray, List.set_cons_zero, List.set_cons_succ]
  refine wpAnyH_done (by kernel_rfl) ?_ _
  have b2 : Below w.heap.size w w2 := hW.trans (hHeld2.mono hW.size)
  clear hHeld hHeld2 h2 HTW HT1 h1 hW zW hd hd2 HGX hi0 hi1
  have HT2 := Lib.hid (HT.out.kept b2)
  go_wp2
  go_loop [7, 8] (fun s i => ∃ k : Nat, k ≤ 12 ∧ i = .int .i64 k ∧ s = .string ⟨(Flag.letL a k).toArray⟩) (fun _ i => 12 - (intOf i).toNat)
  case atStart => exact ⟨0, Nat.zero_le _, rfl, rfl⟩
  case round =>
    obtain ⟨k, hk, rfl, rfl⟩ := hrel
    by_cases hlt : k < 12
    · have hb := shr_bit a k HA.out
      have hls := Flag.letL_succ a k
      have hll := Flag.letL_len a k
      by_cases hc : Flag.cond a k = true
      · have hc2 : a.testBit k = true ∧ k ≠ 3 := by unfold Flag.cond at hc; simpa using hc
        rw [hc2.1] at hb
        rw [if_pos hc] at hls
        have hcut := let_cut k hlt hc2.2
        have h3 : ((k : Int) != 3) = true := by simp; omega
        have hz : (ByteArray.mk (Flag.letL a k).toArray).size = (Flag.letL a k).length := by simp [ByteArray.size]
        have hap : (ByteArray.mk (Flag.letL a k).toArray) ++ (ByteArray.mk #[Flag.ch k]) = ⟨(Flag.letL a (k + 1)).toArray⟩ := by rw [hls]; apply ByteArray.ext; simp
        have hadd : ∀ W, (Op.stringOp .add (ByteArray.mk (Flag.letL a k).toArray) (ByteArray.mk #[Flag.ch k])).run Tryd.prog W = .ok (.string ⟨(Flag.letL a (k + 1)).toArray⟩) W := fun W => by
          rw [← hap]; exact run_string_add_sum W _ _ (by rw [hz]; show _ + 1 ≤ _; omega)
        clear hap hz hls hll hc hc2
        generalize (ByteArray.mk (Flag.letL a k).toArray) = X at *
        generalize hY : (ByteArray.mk (Flag.letL a (k + 1)).toArray) = Y at *
        have HY := Lib.hid hY; clear hY
        generalize (ByteArray.mk #[Flag.ch k]) = C at *
        have hk0 : (0 : Int) ≤ (k : Int) := by omega
        have hk1 : (k : Int) ≤ (k : Int) + 1 := by omega
        have hk2 : (k : Int) + 1 ≤ 12 := by omega
        go_wp2
        go_round
        case rel => exact ⟨k + 1, by omega, by go_num, by rw [HY.out]⟩
        case measure => simp [intOf]; omega
      · have hcf : Flag.cond a k = false := by simpa using hc
        rw [if_neg hc, List.append_nil] at hls
        have HLS := Lib.hid hls; clear hls
        have hway : (bits BinOp.and IntKind.u64 ((a : Int) / 2 ^ k) 1 == 1) = false ∨ ((bits BinOp.and IntKind.u64 ((a : Int) / 2 ^ k) 1 == 1) = true ∧ ((k : Int) != 3) = false) := by
          rw [hb]
          unfold Flag.cond at hcf
          cases hh : a.testBit k
          · exact Or.inl rfl
          · rw [hh] at hcf; right; refine ⟨rfl, ?_⟩; simp at hcf ⊢; omega
        clear hb hc hcf hll
        rcases hway with h1 | ⟨h1, h2⟩
        all_goals
          go_wp2
          go_round
          case rel => exact ⟨k + 1, by omega, by go_num, by rw [HLS.out]⟩
          case measure => simp [intOf]; omega
    · obtain rfl : k = 12 := by omega
      have hFa : ∀ W : World, TabsS W → Calls Tryd.prog 10 #[.int .u64 a] W fun e w' => e = .returned (.string ⟨(Flag.text a).toArray⟩) ∧ Below W.heap.size W w' := fun W h => flags_any a HA.out W h
      have hFb : ∀ W : World, TabsS W → Calls Tryd.prog 10 #[.int .u64 b] W fun e w' => e = .returned (.string ⟨(Flag.text b).toArray⟩) ∧ Below W.heap.size W w' := fun W h => flags_any b HBB.out W h
      have hTa : ∀ W : World, TabsS W → Calls Tryd.prog 9 #[.int .u64 a] W fun e w' => e = .returned (.string SA) ∧ Below W.heap.size W w' := fun W h => by have := secName a HA.out W h; rwa [HSA.out] at this
      have hTb : ∀ W : World, TabsS W → Calls Tryd.prog 9 #[.int .u64 b] W fun e w' => e = .returned (.string ⟨(Hex.look secTab b).toArray⟩) ∧ Below W.heap.size W w' := fun W h => secName b HBB.out W h
      have hcmt := Hex.look_beq secTab secTab_ok a b HA.out HBB.out
      have hcmf := Flag.text_beq a b HA.out HBB.out
      rw [← toList_mkS (Hex.look secTab a), ← toList_mkS (Hex.look secTab b), HSA.out] at hcmt
      rw [← toList_mkS (Flag.text a), ← toList_mkS (Flag.text b)] at hcmf
      have hz1 : (ByteArray.mk (Flag.letL a 12).toArray).size = (Flag.letL a 12).length := by simp [ByteArray.size]
      have hz2 : (ByteArray.mk (Flag.text a).toArray).size = (Flag.letL a 12).length + (restL (Flag.rem a 12)).length := by simp [ByteArray.size, Flag.text]
      have hx : (ByteArray.mk (Flag.text a).toArray).extract 0 (ByteArray.mk (Flag.letL a 12).toArray).size = ⟨(Flag.letL a 12).toArray⟩ := by rw [hz1]; apply ByteArray.ext; apply Array.toList_inj.1; simp [Flag.text]
      have hrz := Flag.rem_zero a HA.out
      have hr0 : (restL (Flag.rem a 12)).length = 0 ↔ Flag.rem a 12 = 0 := by unfold restL; by_cases h0 : Flag.rem a 12 = 0 <;> simp [h0]
      have hb3 := shr_bit a 3 HA.out
      rw [Flag.bit3] at hb3
      have hb3' : (bits BinOp.and IntKind.u64 ((a : Int) / 8) 1 == 1) = decide (a / 8 % 2 = 1) := hb3
      clear hb3
      have hways : (decide ((0 : Int) < (a : Int) / 4096) = true ∧ decide ((ByteArray.mk (Flag.letL a 12).toArray).size < (ByteArray.mk (Flag.text a).toArray).size) = true) ∨
          (decide ((0 : Int) < (a : Int) / 4096) = false ∧ (bits BinOp.and IntKind.u64 ((a : Int) / 8) 1 == 1) = true ∧ decide ((ByteArray.mk (Flag.letL a 12).toArray).size < (ByteArray.mk (Flag.text a).toArray).size) = true) ∨
          (decide ((0 : Int) < (a : Int) / 4096) = false ∧ (bits BinOp.and IntKind.u64 ((a : Int) / 8) 1 == 1) = false ∧ decide ((ByteArray.mk (Flag.letL a 12).toArray).size < (ByteArray.mk (Flag.text a).toArray).size) = false) := by
        rw [hb3', hz1, hz2]
        by_cases h1 : a / 4096 = 0
        · right
          by_cases h2 : a / 8 % 2 = 1
          · left
            refine ⟨by simp; omega, by simpa using h2, ?_⟩
            have : ¬ (restL (Flag.rem a 12)).length = 0 := fun h => by have := hrz.1 (hr0.1 h); omega
            simp; omega
          · right
            refine ⟨by simp; omega, by simpa using h2, ?_⟩
            have : (restL (Flag.rem a 12)).length = 0 := hr0.2 (hrz.2 ⟨h1, by omega⟩)
            rw [this]; simp
        · left
          have : ¬ (restL (Flag.rem a 12)).length = 0 := fun h => h1 (hrz.1 (hr0.1 h)).1
          refine ⟨by simp; omega, by simp; omega⟩
      have hsle : (ByteArray.mk (Flag.letL a 12).toArray).size ≤ (ByteArray.mk (Flag.text a).toArray).size := by rw [hz1, hz2]; omega
      clear hz1 hz2 hrz hr0 hb3'
      generalize (ByteArray.mk (Flag.letL a 12).toArray) = X at *
      generalize (ByteArray.mk (Flag.text a).toArray) = G at *
      generalize (ByteArray.mk (Flag.text b).toArray) = GB at *
      generalize (ByteArray.mk (Hex.look secTab b).toArray) = SB at *
      have HFA := Lib.hid hFa; clear hFa
      have HFB := Lib.hid hFb; clear hFb
      have HTA := Lib.hid hTa; clear hTa
      have HTB := Lib.hid hTb; clear hTb
      have HCT := Lib.hid hcmt; clear hcmt
      have HCF := Lib.hid hcmf; clear hcmf
      have HX := Lib.hid hx; clear hx
      have HWY := Lib.hid hways; clear hways
      have HSL := Lib.hid hsle; clear hsle
      go_wp2_with fail
      refine (HFA.out _ HT2.out).mono ?_
      rintro e w3 ⟨rfl, h3⟩
      have b3 : Below w.heap.size w w3 := b2.trans (h3.mono b2.size)
      have HT3 := Lib.hid (HT.out.kept b3)
      have hx := HX.out
      have hsl := HSL.out
      have hsn : decide (G.size < X.size) = false := by simp; omega
      have hsi : (X.size : Int) ≤ (G.size : Int) := by omega
      rcases HWY.out with ⟨g1, g2⟩ | ⟨g1, g3, g2⟩ | ⟨g1, g3, g2⟩
      all_goals
        go_wp2_with fail
        refine (HTA.out _ HT3.out).mono ?_
        rintro e w4 ⟨rfl, h4⟩
        have b4 : Below w.heap.size w w4 := b3.trans (h4.mono b3.size)
        have HT4 := Lib.hid (HT.out.kept b4)
        clear hx hsl hsn hsi g1 g2
        try clear g3
        go_wp2_with fail
        refine (HTB.out _ HT4.out).mono ?_
        rintro e w5 ⟨rfl, h5'⟩
        have b5 : Below w.heap.size w w5 := b4.trans (h5'.mono b4.size)
        have HT5 := Lib.hid (HT.out.kept b5)
        obtain ⟨c, hc⟩ : ∃ c, ((a : Int) == (b : Int)) = c := ⟨_, rfl⟩
        have hcn : (a == b) = c := by rw [← hc, Bool.eq_iff_iff, beq_iff_eq, beq_iff_eq]; omega
        have hct : (SA.toList == SB.toList) = c := HCT.out.trans hc
        have hcf : (G.toList == GB.toList) = c := HCF.out.trans hc
        cases c
        all_goals
          go_wp2_with fail
          refine (HFB.out _ HT5.out).mono ?_
          rintro e w6 ⟨rfl, h6⟩
          have b6 : Below w.heap.size w w6 := b5.trans (h6.mono b5.size)
          go_wp2
          go_ret
          exact ⟨rfl, b6⟩
end Go.Proofs.YtkajgakblcgocaaDoor
