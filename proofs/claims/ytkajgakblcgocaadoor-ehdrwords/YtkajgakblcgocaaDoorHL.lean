/- Contracts of a header's package, by gen_hdr.py. Conditions: those written in each theorem. -/
import Derived.Laws.CopyOwn
import Derived.Laws.Tables
import Derived.Test.YtkajgakblcgocaaDoorHM
import Derived.Test.YtkajgakblcgocaaDoorEF
namespace Go.Proofs.YtkajgakblcgocaaDoor
open Go.RowKit
open Go.Maps in
theorem known_look (W : World) (B a : Nat) (ha : a < 2 ^ 64) (hown : W.ownsMap Tryd.prog 22 (plainElem Tryd.prog 9) B 11 knownD11) :
    (Instr.lookup 26 (.map (some B)) (.int .u64 (a : Int)) true).run Tryd.prog W = .ok (.tuple #[.string ⟨(Hex.look machTab a).toArray⟩, .bool true]) W ∨
    (Hex.look machTab a = 48 :: 120 :: Hex.hexL a ∧ ∃ s, (Instr.lookup 26 (.map (some B)) (.int .u64 (a : Int)) true).run Tryd.prog W = .ok (.tuple #[.string s, .bool false]) W) := by
  have hwf : (Lit.int .u64 (a : Int)).wf = true := by
    have h : (2 : Nat) ^ 64 = 18446744073709551616 := by decide
    simp [Lit.wf, IntKind.min, IntKind.max, IntKind.signed, IntKind.bits]; omega
  obtain ⟨v, ps, hrun, hv⟩ := hown.look_ok law22 Tryd.underlying26 (zero9 W) (plainElem_string Tryd.underlying9 (s := ⟨#[]⟩) (by decide)) (keyOf_int_mk Tryd.underlying22 hwf)
  obtain ⟨s, rfl, hs⟩ := plainElem_string_inv Tryd.underlying9 hv
  simp only [Prod.mk.injEq] at hs
  rcases first_fail (fun j => numM j ≠ a) 11 with h | ⟨k, hk, hne, he⟩
  · right
    refine ⟨look_out machTab a h, s, ?_⟩
    rw [known_out a h] at hrun
    exact hrun
  · left
    have he : numM k = a := Classical.byContradiction he
    have hl := look_at machTab a k hk hne he
    obtain ⟨h1, h2⟩ := known_in k hk
    rw [he] at h1 h2
    rw [h1] at hrun
    rw [h2] at hs
    have hs1 : (machTab.getD k (0, [])).2 = s.data.toList := by
      have := hs.1.1
      simpa using this
    have e : s = ⟨(Hex.look machTab a).toArray⟩ := by
      rw [hl, hs1]
    rw [← e]
    exact hrun
theorem toList_mk (l : List UInt8) : (ByteArray.mk l.toArray).toList = l := by rw [toList_data]
theorem types_cell (a : Nat) (h : a < 5) (w : World) : (w.alloc (.cells #[.string ⟨#[78, 79, 78, 69]⟩, .string ⟨#[82, 69, 76]⟩, .string ⟨#[69, 88, 69, 67]⟩, .string ⟨#[68, 89, 78]⟩, .string ⟨#[67, 79, 82, 69]⟩] 9)).cell? ⟨w.heap.size, a, none⟩ = some (.string ⟨(Hex.look typeTab a).toArray⟩) := by
  match a, h with
  | 0, _ => simp; rfl
  | 1, _ => simp; rfl
  | 2, _ => simp; rfl
  | 3, _ => simp; rfl
  | 4, _ => simp; rfl
set_option maxRecDepth 100000 in
set_option maxHeartbeats 20000000 in
theorem words_lt (a b : Nat) (ha : a < 2 ^ 64) (hb : b < 2 ^ 64) (h5 : a < 5) (w : World) (hT : Tabs w) :
    Calls Tryd.prog 3 #[.int .u64 a, .int .u64 b] w fun e w' => e = .returned (.bool true) ∧ Below w.heap.size w w' := by
  have HA := Lib.hid ha; clear ha
  have HBB := Lib.hid hb; clear hb
  have HT := Lib.hid hT; clear hT
  go_enter Tryd.func3, Tryd.ntmps3
  go_wp2_with fail
  refine (espeaks _).mono ?_
  rintro e w1 ⟨rfl, h1⟩
  have HT1 := Lib.hid (HT.out.kept h1)
  have hW : Below w.heap.size w (w1.alloc (.cells #[.string ⟨#[78, 79, 78, 69]⟩, .string ⟨#[82, 69, 76]⟩, .string ⟨#[69, 88, 69, 67]⟩, .string ⟨#[68, 89, 78]⟩, .string ⟨#[67, 79, 82, 69]⟩] 9)) := h1.alloc h1.size _
  have hTW : Tabs (w1.alloc (.cells #[.string ⟨#[78, 79, 78, 69]⟩, .string ⟨#[82, 69, 76]⟩, .string ⟨#[69, 88, 69, 67]⟩, .string ⟨#[68, 89, 78]⟩, .string ⟨#[67, 79, 82, 69]⟩] 9)) := HT1.out.kept ((Below.refl _ _).alloc (Nat.le_refl _) _)
  have HTW := Lib.hid hTW; clear hTW
  have zW : w1.heap.size < (w1.alloc (.cells #[.string ⟨#[78, 79, 78, 69]⟩, .string ⟨#[82, 69, 76]⟩, .string ⟨#[69, 88, 69, 67]⟩, .string ⟨#[68, 89, 78]⟩, .string ⟨#[67, 79, 82, 69]⟩] 9)).heap.size := by simp
  have tcell := types_cell a h5 w1
  go_wp2_with fail
  generalize (w1.alloc (.cells #[.string ⟨#[78, 79, 78, 69]⟩, .string ⟨#[82, 69, 76]⟩, .string ⟨#[69, 88, 69, 67]⟩, .string ⟨#[68, 89, 78]⟩, .string ⟨#[67, 79, 82, 69]⟩] 9)) = W at *
  have HGX : Hid (∀ w', Below W.heap.size W w' → w'.cell? ⟨w1.heap.size, a, none⟩ = some (.string ⟨(Hex.look typeTab a).toArray⟩)) := Lib.hid (fun w' h => by rw [h.cell (by exact zW)]; exact tcell)
  clear tcell
  generalize hSA : (⟨(Hex.look typeTab a).toArray⟩ : ByteArray) = SA at *
  have HSA := Lib.hid hSA; clear hSA
  have hd : decide ((a : Int) < 5) = true := by simp; omega
  have hd2 : decide ((5 : Int) ≤ (a : Int)) = false := by simp; omega
  have hi0 : (0 : Int) ≤ (a : Int) := by omega
  have hi1 : (a : Int) < 5 := by omega
  refine wp_region_held_drew (S := fun w' => Below W.heap.size W w') (by kernel_rfl) ?_ (fun hHeld => ?_)
  · exact (Below.refl _ _).drew
  refine wpAnyH_take (i := 0) (oi := { dst := some 13, op := Go.Op.move (Go.Operand.tmp 0), type := 22, pos := "law.go:86", after := #[], guard := none }) (v := ?_) rfl (by kernel_rfl) (by kernel_rfl) (by kernel_rfl) (fun _ _ _ h => h) (Or.inl ⟨by rfl, ?_⟩) (by assumption) ?_
  rotate_left
  · (intro w hSw; (try dsimp only at hSw); go_simp <;> with_reducible rfl)
  try simp only [Act.put, List.setIfInBounds_toArray, List.set_cons_zero, List.set_cons_succ]
  refine wpAnyH_take (i := 1) (oi := { dst := some 14, op := Go.Op.binOp Go.BinOp.lss 22 (Go.Operand.tmp 13) (Go.Operand.const (Go.Value.int Go.IntKind.u64 5)) 22, type := 4, pos := "law.go:86", after := #[{ on := 0, ground := Go.Ground.data }], guard := none }) (v := ?_) rfl (by kernel_rfl) (by kernel_rfl) (by kernel_rfl) (fun _ _ _ h => h) (Or.inl ⟨by rfl, ?_⟩) (by assumption) ?_
  rotate_left
  · (intro w hSw; (try dsimp only at hSw); go_simp <;> with_reducible rfl)
  try simp only [Act.put, List.setIfInBounds_toArray, List.set_cons_zero, List.set_cons_succ]
  refine wpAnyH_take (i := 2) (oi := { dst := some 15, op := Go.Op.move (Go.Operand.tmp 14), type := 4, pos := "law.go:86", after := #[{ on := 1, ground := Go.Ground.data }], guard := none }) (v := ?_) rfl (by kernel_rfl) (by kernel_rfl) (by kernel_rfl) (fun _ _ _ h => h) (Or.inl ⟨by rfl, ?_⟩) (by assumption) ?_
  rotate_left
  · (intro w hSw; (try dsimp only at hSw); go_simp <;> with_reducible rfl)
  try simp only [Act.put, List.setIfInBounds_toArray, List.set_cons_zero, List.set_cons_succ]
  refine wpAnyH_take (i := 3) (oi := { dst := some 16, op := Go.Op.move (Go.Operand.tmp 0), type := 22, pos := "law.go:86", after := #[{ on := 2, ground := Go.Ground.guard }], guard := some (2, true) }) (v := ?_) rfl (by kernel_rfl) (by kernel_rfl) (by kernel_rfl) (fun _ _ _ h => h) (Or.inl ⟨by rfl, ?_⟩) (by assumption) ?_
  rotate_left
  · (intro w hSw; (try dsimp only at hSw); go_simp <;> with_reducible rfl)
  try simp only [Act.put, List.setIfInBounds_toArray, List.set_cons_zero, List.set_cons_succ]
  refine wpAnyH_take (i := 5) (oi := { dst := some 18, op := Go.Op.move (Go.Operand.tmp 5), type := 24, pos := "law.go:86", after := #[{ on := 2, ground := Go.Ground.guard }], guard := some (2, true) }) (v := ?_) rfl (by kernel_rfl) (by kernel_rfl) (by kernel_rfl) (fun _ _ _ h => h) (Or.inl ⟨by rfl, ?_⟩) (by assumption) ?_
  rotate_left
  · (intro w hSw; (try dsimp only at hSw); go_simp <;> with_reducible rfl)
  try simp only [Act.put, List.setIfInBounds_toArray, List.set_cons_zero, List.set_cons_succ]
  refine wpAnyH_take (i := 6) (oi := { dst := some 19, op := Go.Op.move (Go.Operand.tmp 0), type := 22, pos := "law.go:86", after := #[{ on := 2, ground := Go.Ground.guard }], guard := some (2, true) }) (v := ?_) rfl (by kernel_rfl) (by kernel_rfl) (by kernel_rfl) (fun _ _ _ h => h) (Or.inl ⟨by rfl, ?_⟩) (by assumption) ?_
  rotate_left
  · (intro w hSw; (try dsimp only at hSw); go_simp <;> with_reducible rfl)
  try simp only [Act.put, List.setIfInBounds_toArray, List.set_cons_zero, List.set_cons_succ]
  refine wpAnyH_take (i := 7) (oi := { dst := some 20, op := Go.Op.indexAddr 24 (Go.Operand.tmp 18) (Go.Operand.tmp 19), type := 0, pos := "law.go:86", after := #[{ on := 5, ground := Go.Ground.data }, { on := 6, ground := Go.Ground.data }, { on := 2, ground := Go.Ground.guard }], guard := some (2, true) }) (v := ?_) rfl (by kernel_rfl) (by kernel_rfl) (by kernel_rfl) (fun _ _ _ h => h) (Or.inl ⟨by rfl, ?_⟩) (by assumption) ?_
  rotate_left
  · (intro w hSw; (try dsimp only at hSw); go_simp <;> with_reducible rfl)
  try simp only [Act.put, List.setIfInBounds_toArray, List.set_cons_zero, List.set_cons_succ]
  refine wpAnyH_take (i := 8) (oi := { dst := some 21, op := Go.Op.load 9 (Go.Operand.tmp 20), type := 9, pos := "law.go:86", after := #[{ on := 7, ground := Go.Ground.data }, { on := 2, ground := Go.Ground.guard }], guard := some (2, true) }) (v := ?_) rfl (by kernel_rfl) (by kernel_rfl) (by kernel_rfl) (fun _ _ _ h => h) (Or.inl ⟨by rfl, ?_⟩) (by assumption) ?_
  rotate_left
  · (intro w hSw; have q0 := HGX.out w hSw; (try dsimp only at hSw); go_simp <;> with_reducible rfl)
  try simp only [Act.put, List.setIfInBounds_toArray, List.set_cons_zero, List.set_cons_succ]
  refine wpAnyH_ready (rs := [4]) (by kernel_rfl) (by simp) ?_
  refine AllReadyH.cons (o := { dst := some 17, op := Go.Op.call { callee := Go.Callee.value (Go.Operand.func 6), args := #[Go.Operand.tmp 16], argTypes := #[22] }, type := 9, pos := "law.go:86", after := #[{ on := 3, ground := Go.Ground.data }, { on := 2, ground := Go.Ground.chain }, { on := 2, ground := Go.Ground.guard }], guard := some (2, true) }) rfl (fun K hK => ?_) AllReadyH.nil
  (first | go_at_call 6 | (go_simp; go_at_call 6))
  (with_reducible refine (typeName a HA.out _ (HTW.out.kept hHeld)).mono ?_)
  rintro e w2 ⟨rfl, h2⟩
  rw [HSA.out]
  try go_wp2_with fail
  refine hK.out _ _ ?_ (fun hHeld2 => ?_)
  · exact hHeld.trans (h2.mono hHeld.size)
  clear hK K
  try simp only [Act.put, List.setIfInBounds_toArray, List.set_cons_zero, List.set_cons_succ]
  refine wpAnyH_take (i := 9) (oi := { dst := some 22, op := Go.Op.binOp Go.BinOp.neq 9 (Go.Operand.tmp 17) (Go.Operand.tmp 21) 9, type := 4, pos := "law.go:86", after := #[{ on := 4, ground := Go.Ground.data }, { on := 8, ground := Go.Ground.data }, { on := 2, ground := Go.Ground.guard }], guard := some (2, true) }) (v := ?_) rfl (by kernel_rfl) (by kernel_rfl) (by kernel_rfl) (fun _ _ _ h => h) (Or.inl ⟨by rfl, ?_⟩) (by assumption) ?_
  rotate_left
  · (intro w hSw; (try dsimp only at hSw); go_simp <;> with_reducible rfl)
  try simp only [Act.put, List.setIfInBounds_toArray, List.set_cons_zero, List.set_cons_succ]
  refine wpAnyH_take (i := 10) (oi := { dst := some 23, op := Go.Op.pick (Go.Operand.tmp 15) (Go.Operand.tmp 22) (Go.Operand.const (Go.Value.bool false)), type := 4, pos := "law.go:86", after := #[{ on := 2, ground := Go.Ground.data }, { on := 9, ground := Go.Ground.data }], guard := none }) (v := ?_) rfl (by kernel_rfl) (by kernel_rfl) (by kernel_rfl) (fun _ _ _ h => h) (Or.inl ⟨by rfl, ?_⟩) (by assumption) ?_
  rotate_left
  · (intro w hSw; (try dsimp only at hSw); go_simp <;> with_reducible rfl)
  try simp only [Act.put, List.setIfInBounds_toArray, List.set_cons_zero, List.set_cons_succ]
  refine wpAnyH_take (i := 11) (oi := { dst := some 24, op := Go.Op.move (Go.Operand.tmp 23), type := 4, pos := "law.go:86", after := #[{ on := 10, ground := Go.Ground.data }, { on := 4, ground := Go.Ground.chain }], guard := none }) (v := ?_) rfl (by kernel_rfl) (by kernel_rfl) (by kernel_rfl) (fun _ _ _ h => h) (Or.inl ⟨by rfl, ?_⟩) (by assumption) ?_
  rotate_left
  · (intro w hSw; (try dsimp only at hSw); go_simp <;> with_reducible rfl)
  try simp only [Act.put, List.setIfInBounds_toArray, List.set_cons_zero, List.set_cons_succ]
  refine wpAnyH_take (i := 12) (oi := { dst := some 25, op := Go.Op.move (Go.Operand.tmp 0), type := 22, pos := "law.go:86", after := #[{ on := 11, ground := Go.Ground.guard }], guard := some (11, false) }) (v := ?_) rfl (by kernel_rfl) (by kernel_rfl) (by kernel_rfl) (fun _ _ _ h => h) (Or.inl ⟨by rfl, ?_⟩) (by assumption) ?_
  rotate_left
  · (intro w hSw; (try dsimp only at hSw); go_simp <;> with_reducible rfl)
  try simp only [Act.put, List.setIfInBounds_toArray, List.set_cons_zero, List.set_cons_succ]
  refine wpAnyH_take (i := 13) (oi := { dst := some 26, op := Go.Op.binOp Go.BinOp.geq 22 (Go.Operand.tmp 25) (Go.Operand.const (Go.Value.int Go.IntKind.u64 5)) 22, type := 4, pos := "law.go:86", after := #[{ on := 12, ground := Go.Ground.data }, { on := 11, ground := Go.Ground.guard }], guard := some (11, false) }) (v := ?_) rfl (by kernel_rfl) (by kernel_rfl) (by kernel_rfl) (fun _ _ _ h => h) (Or.inl ⟨by rfl, ?_⟩) (by assumption) ?_
  rotate_left
  · (intro w hSw; (try dsimp only at hSw); go_simp <;> with_reducible rfl)
  try simp only [Act.put, List.setIfInBounds_toArray, List.set_cons_zero, List.set_cons_succ]
  refine wpAnyH_take (i := 14) (oi := { dst := some 27, op := Go.Op.move (Go.Operand.tmp 26), type := 4, pos := "law.go:86", after := #[{ on := 13, ground := Go.Ground.data }, { on := 11, ground := Go.Ground.chain }, { on := 11, ground := Go.Ground.guard }], guard := some (11, false) }) (v := ?_) rfl (by kernel_rfl) (by kernel_rfl) (by kernel_rfl) (fun _ _ _ h => h) (Or.inl ⟨by rfl, ?_⟩) (by assumption) ?_
  rotate_left
  · (intro w hSw; (try dsimp only at hSw); go_simp <;> with_reducible rfl)
  try simp only [Act.put, List.setIfInBounds_toArray, List.set_cons_zero, List.set_cons_succ]
  refine wpAnyH_take (i := 15) (oi := { dst := some 28, op := Go.Op.move (Go.Operand.tmp 0), type := 22, pos := "law.go:86", after := #[{ on := 14, ground := Go.Ground.guard }], guard := some (14, true) }) (v := undef) rfl (by kernel_rfl) (by kernel_rfl) (by kernel_rfl) (fun _ _ _ h => h) (Or.inr ⟨by rfl, rfl⟩) (by assumption) ?_
  try simp only [Act.put, List.setIfInBounds_toArray, List.set_cons_zero, List.set_cons_succ]
  refine wpAnyH_take (i := 16) (oi := { dst := some 29, op := Go.Op.call { callee := Go.Callee.value (Go.Operand.func 6), args := #[Go.Operand.tmp 28], argTypes := #[22] }, type := 9, pos := "law.go:86", after := #[{ on := 15, ground := Go.Ground.data }, { on := 14, ground := Go.Ground.chain }, { on := 14, ground := Go.Ground.guard }], guard := some (14, true) }) (v := undef) rfl (by kernel_rfl) (by kernel_rfl) (by kernel_rfl) (fun _ _ _ h => h) (Or.inr ⟨by rfl, rfl⟩) (by assumption) ?_
  try simp only [Act.put, List.setIfInBounds_toArray, List.set_cons_zero, List.set_cons_succ]
  refine wpAnyH_take (i := 17) (oi := { dst := some 30, op := Go.Op.slice 9 (Go.Operand.tmp 29) none (some (Go.Operand.const (Go.Value.int Go.IntKind.i64 2))) none, type := 9, pos := "law.go:86", after := #[{ on := 16, ground := Go.Ground.data }, { on := 14, ground := Go.Ground.guard }], guard := some (14, true) }) (v := undef) rfl (by kernel_rfl) (by kernel_rfl) (by kernel_rfl) (fun _ _ _ h => h) (Or.inr ⟨by rfl, rfl⟩) (by assumption) ?_
  try simp only [Act.put, List.setIfInBounds_toArray, List.set_cons_zero, List.set_cons_succ]
  refine wpAnyH_take (i := 18) (oi := { dst := some 31, op := Go.Op.binOp Go.BinOp.neq 9 (Go.Operand.tmp 30) (Go.Operand.const (Go.Value.string { data := #[48, 120] })) 9, type := 4, pos := "law.go:86", after := #[{ on := 17, ground := Go.Ground.data }, { on := 14, ground := Go.Ground.guard }], guard := some (14, true) }) (v := undef) rfl (by kernel_rfl) (by kernel_rfl) (by kernel_rfl) (fun _ _ _ h => h) (Or.inr ⟨by rfl, rfl⟩) (by assumption) ?_
  try simp only [Act.put, List.setIfInBounds_toArray, List.set_cons_zero, List.set_cons_succ]
  refine wpAnyH_take (i := 19) (oi := { dst := some 32, op := Go.Op.pick (Go.Operand.tmp 27) (Go.Operand.tmp 31) (Go.Operand.const (Go.Value.bool false)), type := 4, pos := "law.go:86", after := #[{ on := 14, ground := Go.Ground.data }, { on := 18, ground := Go.Ground.data }, { on := 11, ground := Go.Ground.guard }], guard := some (11, false) }) (v := ?_) rfl (by kernel_rfl) (by kernel_rfl) (by kernel_rfl) (fun _ _ _ h => h) (Or.inl ⟨by rfl, ?_⟩) (by assumption) ?_
  rotate_left
  · (intro w hSw; (try dsimp only at hSw); go_simp <;> with_reducible rfl)
  try simp only [Act.put, List.setIfInBounds_toArray, List.set_cons_zero, List.set_cons_succ]
  refine wpAnyH_take (i := 20) (oi := { dst := some 33, op := Go.Op.pick (Go.Operand.tmp 24) (Go.Operand.const (Go.Value.bool true)) (Go.Operand.tmp 32), type := 4, pos := "law.go:86", after := #[{ on := 11, ground := Go.Ground.data }, { on := 19, ground := Go.Ground.data }], guard := none }) (v := ?_) rfl (by kernel_rfl) (by kernel_rfl) (by kernel_rfl) (fun _ _ _ h => h) (Or.inl ⟨by rfl, ?_⟩) (by assumption) ?_
  rotate_left
  · (intro w hSw; (try dsimp only at hSw); go_simp <;> with_reducible rfl)
  try simp only [Act.put, List.setIfInBounds_toArray, List.set_cons_zero, List.set_cons_succ]
  refine wpAnyH_done (by kernel_rfl) ?_ _
  have b2 : Below w.heap.size w w2 := hW.trans (hHeld2.mono hW.size)
  clear hHeld hHeld2 h2 HTW HT1 h1 hW zW hd hd2 HGX hi0 hi1
  have HT2 := Lib.hid (HT.out.kept b2)
  have hmm : (Instr.makeMap 26 none).run Tryd.prog w2 = .ok (.map (some w2.heap.size)) (w2.alloc (.map #[] 0)) := run_makeMap 26 w2
  obtain ⟨u1, u2, u3, u4, u5, u6, u7, u8, u9, u10, u11, r1, r2, r3, r4, r5, r6, r7, r8, r9, r10, r11, hown, bu⟩ := known w2
  have b3 : Below w.heap.size w u11 := b2.trans (bu.mono b2.size)
  have HT3 := Lib.hid (HT.out.kept b3)
  have hlk := known_look u11 w2.heap.size a HA.out hown
  have hcmp := Hex.look_beq machTab machTab_ok a b HA.out HBB.out
  have hcmt := Hex.look_beq typeTab typeTab_ok a b HA.out HBB.out
  rw [← toList_mk (Hex.look machTab a), ← toList_mk (Hex.look machTab b)] at hcmp
  rw [← toList_mk (Hex.look typeTab a), ← toList_mk (Hex.look typeTab b), HSA.out] at hcmt
  have hMa : ∀ W : World, Tabs W → Calls Tryd.prog 7 #[.int .u64 a] W fun e w' => e = .returned (.string ⟨(Hex.look machTab a).toArray⟩) ∧ Below W.heap.size W w' := fun W h => machName a HA.out W h
  have hMb : ∀ W : World, Tabs W → Calls Tryd.prog 7 #[.int .u64 b] W fun e w' => e = .returned (.string ⟨(Hex.look machTab b).toArray⟩) ∧ Below W.heap.size W w' := fun W h => machName b HBB.out W h
  have hTa : ∀ W : World, Tabs W → Calls Tryd.prog 6 #[.int .u64 a] W fun e w' => e = .returned (.string SA) ∧ Below W.heap.size W w' := fun W h => by have := typeName a HA.out W h; rwa [HSA.out] at this
  have hTb : ∀ W : World, Tabs W → Calls Tryd.prog 6 #[.int .u64 b] W fun e w' => e = .returned (.string ⟨(Hex.look typeTab b).toArray⟩) ∧ Below W.heap.size W w' := fun W h => typeName b HBB.out W h
  have hpre : Hex.look machTab a = 48 :: 120 :: Hex.hexL a → (⟨(Hex.look machTab a).toArray⟩ : ByteArray).extract 0 2 = ⟨#[48, 120]⟩ ∧ 2 ≤ (⟨(Hex.look machTab a).toArray⟩ : ByteArray).size := fun h => by rw [h]; exact ⟨by apply ByteArray.ext; simp, by show 2 ≤ (48 :: 120 :: Hex.hexL a).toArray.size; simp⟩
  have hlk2 : (Instr.lookup 26 (.map (some w2.heap.size)) (.int .u64 (a : Int)) true).run Tryd.prog u11 = .ok (.tuple #[.string ⟨(Hex.look machTab a).toArray⟩, .bool true]) u11 ∨ (((⟨(Hex.look machTab a).toArray⟩ : ByteArray).extract 0 2 = ⟨#[48, 120]⟩ ∧ 2 ≤ (⟨(Hex.look machTab a).toArray⟩ : ByteArray).size) ∧ ∃ s, (Instr.lookup 26 (.map (some w2.heap.size)) (.int .u64 (a : Int)) true).run Tryd.prog u11 = .ok (.tuple #[.string s, .bool false]) u11) := hlk.imp id (fun h => ⟨hpre h.1, h.2⟩)
  clear hlk hpre hown
  generalize (⟨(Hex.look machTab a).toArray⟩ : ByteArray) = MA at *
  generalize (⟨(Hex.look machTab b).toArray⟩ : ByteArray) = MB at *
  generalize (⟨(Hex.look typeTab b).toArray⟩ : ByteArray) = SB at *
  have HCM := Lib.hid hcmp; clear hcmp
  have HCT := Lib.hid hcmt; clear hcmt
  have HMA := Lib.hid hMa; clear hMa
  have HMB := Lib.hid hMb; clear hMb
  have HTA := Lib.hid hTa; clear hTa
  have HTB := Lib.hid hTb; clear hTb
  rcases hlk2 with hlk | ⟨⟨hx, hxs⟩, s, hlk⟩
  · go_wp2_with fail
    refine (HMA.out _ HT3.out).mono ?_
    rintro e w4 ⟨rfl, h4⟩
    have b4 : Below w.heap.size w w4 := b3.trans (h4.mono b3.size)
    have HT4 := Lib.hid (HT.out.kept b4)
    clear r1 r2 r3 r4 r5 r6 r7 r8 r9 r10 r11 hlk hmm
    go_wp2_with fail
    refine (HMB.out _ HT4.out).mono ?_
    rintro e w5 ⟨rfl, h5'⟩
    have b5 : Below w.heap.size w w5 := b4.trans (h5'.mono b4.size)
    have HT5 := Lib.hid (HT.out.kept b5)
    obtain ⟨c, hc⟩ : ∃ c, ((a : Int) == (b : Int)) = c := ⟨_, rfl⟩
    have hcn : (a == b) = c := by rw [← hc, Bool.eq_iff_iff, beq_iff_eq, beq_iff_eq]; omega
    have hcm : (MA.toList == MB.toList) = c := HCM.out.trans hc
    have hct : (SA.toList == SB.toList) = c := HCT.out.trans hc
    cases c
    all_goals
      go_wp2_with fail
      refine (HTA.out _ HT5.out).mono ?_
      rintro e w6 ⟨rfl, h6⟩
      have b6 : Below w.heap.size w w6 := b5.trans (h6.mono b5.size)
      have HT6 := Lib.hid (HT.out.kept b6)
      go_wp2_with fail
      refine (HTB.out _ HT6.out).mono ?_
      rintro e w7 ⟨rfl, h7⟩
      have b7 : Below w.heap.size w w7 := b6.trans (h7.mono b6.size)
      go_wp2
      go_ret
      exact ⟨rfl, b7⟩
  · have hxi : (2 : Int) ≤ (MA.size : Int) := by omega
    go_wp2_with fail
    refine (HMA.out _ HT3.out).mono ?_
    rintro e w4 ⟨rfl, h4⟩
    have b4 : Below w.heap.size w w4 := b3.trans (h4.mono b3.size)
    have HT4 := Lib.hid (HT.out.kept b4)
    clear r1 r2 r3 r4 r5 r6 r7 r8 r9 r10 r11 hlk hmm
    go_wp2_with fail
    refine (HMB.out _ HT4.out).mono ?_
    rintro e w5 ⟨rfl, h5'⟩
    have b5 : Below w.heap.size w w5 := b4.trans (h5'.mono b4.size)
    have HT5 := Lib.hid (HT.out.kept b5)
    obtain ⟨c, hc⟩ : ∃ c, ((a : Int) == (b : Int)) = c := ⟨_, rfl⟩
    have hcn : (a == b) = c := by rw [← hc, Bool.eq_iff_iff, beq_iff_eq, beq_iff_eq]; omega
    have hcm : (MA.toList == MB.toList) = c := HCM.out.trans hc
    have hct : (SA.toList == SB.toList) = c := HCT.out.trans hc
    cases c
    all_goals
      go_wp2_with fail
      refine (HTA.out _ HT5.out).mono ?_
      rintro e w6 ⟨rfl, h6⟩
      have b6 : Below w.heap.size w w6 := b5.trans (h6.mono b5.size)
      have HT6 := Lib.hid (HT.out.kept b6)
      go_wp2_with fail
      refine (HTB.out _ HT6.out).mono ?_
      rintro e w7 ⟨rfl, h7⟩
      have b7 : Below w.heap.size w w7 := b6.trans (h7.mono b6.size)
      go_wp2
      go_ret
      exact ⟨rfl, b7⟩
end Go.Proofs.YtkajgakblcgocaaDoor
