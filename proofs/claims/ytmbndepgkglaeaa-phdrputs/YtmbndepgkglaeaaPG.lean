/- Contracts of a header's package, by gen_hdr.py. Conditions: those written in each theorem. -/
import Derived.Laws.CopyOwn
import Derived.Laws.Tables
import Derived.Test.YtmbndepgkglaeaaPF
namespace Go.Proofs.Ytmbndepgkglaeaa
open Go.RowKit
set_option maxRecDepth 100000 in
set_option maxHeartbeats 2000000 in
theorem pputs_true (fl : Int) (n0 n1 n2 n3 n4 n5 n6 n7 : Nat) (hn : ∀ n ∈ [n0, n1, n2, n3, n4, n5, n6, n7], n < 2 ^ 64) (more : ByteArray) (m : Nat) (hm : (more.size ≤ 20 ∧ m = more.size) ∨ (20 < more.size ∧ m = 20)) (big wide : Bool) (hb : (bits BinOp.and IntKind.i64 fl 1 == 1) = big) (hw : (bits BinOp.and IntKind.i64 fl 2 == 2) = wide)
    (S : ByteArray) (hrec : RecIs big wide (pSizes wide) (pNs wide n0 n1 n2 n3 n4 n5 n6 n7) 8 8 S true) (w : World) :
    Calls Try.prog 3 #[.int .i64 fl, .agg #[.int .u64 (n0 : Nat), .int .u64 (n1 : Nat), .int .u64 (n2 : Nat), .int .u64 (n3 : Nat), .int .u64 (n4 : Nat), .int .u64 (n5 : Nat), .int .u64 (n6 : Nat), .int .u64 (n7 : Nat)], .string more] w fun e w' => e = .returned (.bool true) ∧ Below w.heap.size w w' := by
  have HN := Lib.hid hn; clear hn
  have HREC := Lib.hid hrec; clear hrec
  have HB := Lib.hid hb; clear hb
  have HW := Lib.hid hw; clear hw
  have HM := Lib.hid hm; clear hm
  go_enter Try.func3, Try.ntmps3
  go_wp2_with fail
  refine (pspeaks _).mono ?_
  rintro e w1 ⟨rfl, h1⟩
  have h1 := h1
  have z1 := h1.size
  simp only [World.size_alloc] at z1
  have b1 : Below w.heap.size w w1 := ((Below.refl _ _).alloc (Nat.le_refl _) _).trans (h1.mono (by simp))
  have x0 : w1.cell? ⟨w.heap.size, 0, none⟩ = some (.int .u64 (n0 : Nat)) := by rw [h1.cell (by simp)]; simp
  have x1 : w1.cell? ⟨w.heap.size, 1, none⟩ = some (.int .u64 (n1 : Nat)) := by rw [h1.cell (by simp)]; simp
  have x2 : w1.cell? ⟨w.heap.size, 2, none⟩ = some (.int .u64 (n2 : Nat)) := by rw [h1.cell (by simp)]; simp
  have x3 : w1.cell? ⟨w.heap.size, 3, none⟩ = some (.int .u64 (n3 : Nat)) := by rw [h1.cell (by simp)]; simp
  have x4 : w1.cell? ⟨w.heap.size, 4, none⟩ = some (.int .u64 (n4 : Nat)) := by rw [h1.cell (by simp)]; simp
  have x5 : w1.cell? ⟨w.heap.size, 5, none⟩ = some (.int .u64 (n5 : Nat)) := by rw [h1.cell (by simp)]; simp
  have x6 : w1.cell? ⟨w.heap.size, 6, none⟩ = some (.int .u64 (n6 : Nat)) := by rw [h1.cell (by simp)]; simp
  have x7 : w1.cell? ⟨w.heap.size, 7, none⟩ = some (.int .u64 (n7 : Nat)) := by rw [h1.cell (by simp)]; simp
  clear h1
  go_wp2_with fail
  refine (pform fl big wide HB.out HW.out _).mono ?_
  rintro e w2 ⟨rfl, h2⟩
  have z2 := h2.size
  have b2 : Below w.heap.size w w2 := b1.trans (h2.mono b1.size)
  have y0 : w2.cell? ⟨w.heap.size, 0, none⟩ = some (.int .u64 (n0 : Nat)) := by rw [h2.cell (by show w.heap.size < _; omega)]; exact x0
  have y1 : w2.cell? ⟨w.heap.size, 1, none⟩ = some (.int .u64 (n1 : Nat)) := by rw [h2.cell (by show w.heap.size < _; omega)]; exact x1
  have y2 : w2.cell? ⟨w.heap.size, 2, none⟩ = some (.int .u64 (n2 : Nat)) := by rw [h2.cell (by show w.heap.size < _; omega)]; exact x2
  have y3 : w2.cell? ⟨w.heap.size, 3, none⟩ = some (.int .u64 (n3 : Nat)) := by rw [h2.cell (by show w.heap.size < _; omega)]; exact x3
  have y4 : w2.cell? ⟨w.heap.size, 4, none⟩ = some (.int .u64 (n4 : Nat)) := by rw [h2.cell (by show w.heap.size < _; omega)]; exact x4
  have y5 : w2.cell? ⟨w.heap.size, 5, none⟩ = some (.int .u64 (n5 : Nat)) := by rw [h2.cell (by show w.heap.size < _; omega)]; exact x5
  have y6 : w2.cell? ⟨w.heap.size, 6, none⟩ = some (.int .u64 (n6 : Nat)) := by rw [h2.cell (by show w.heap.size < _; omega)]; exact x6
  have y7 : w2.cell? ⟨w.heap.size, 7, none⟩ = some (.int .u64 (n7 : Nat)) := by rw [h2.cell (by show w.heap.size < _; omega)]; exact x7
  clear h2 x0 x1 x2 x3 x4 x5 x6 x7
  have hlt2 : w.heap.size < w2.heap.size := by omega
  go_wp2_with fail
  refine (pput big wide n0 n1 n2 n3 n4 n5 n6 n7 HN.out S true HREC.out _).mono ?_
  rintro e w3 ⟨rfl, h3⟩
  have z3 := h3.size
  simp only [World.size_alloc] at z3
  have b3 : Below w.heap.size w w3 := (b2.alloc b2.size _).trans (h3.mono (by have := b2.size; simp; omega))
  have f0 : w3.cell? ⟨w2.heap.size, 0, none⟩ = some (.bool big) := by rw [h3.cell (by simp)]; simp
  have f1 : w3.cell? ⟨w2.heap.size, 1, none⟩ = some (.bool wide) := by rw [h3.cell (by simp)]; simp
  have x0 : w3.cell? ⟨w.heap.size, 0, none⟩ = some (.int .u64 (n0 : Nat)) := by rw [h3.cell (by show w.heap.size < _; simp; omega), cell_alloc_old (by omega)]; exact y0
  have x1 : w3.cell? ⟨w.heap.size, 1, none⟩ = some (.int .u64 (n1 : Nat)) := by rw [h3.cell (by show w.heap.size < _; simp; omega), cell_alloc_old (by omega)]; exact y1
  have x2 : w3.cell? ⟨w.heap.size, 2, none⟩ = some (.int .u64 (n2 : Nat)) := by rw [h3.cell (by show w.heap.size < _; simp; omega), cell_alloc_old (by omega)]; exact y2
  have x3 : w3.cell? ⟨w.heap.size, 3, none⟩ = some (.int .u64 (n3 : Nat)) := by rw [h3.cell (by show w.heap.size < _; simp; omega), cell_alloc_old (by omega)]; exact y3
  have x4 : w3.cell? ⟨w.heap.size, 4, none⟩ = some (.int .u64 (n4 : Nat)) := by rw [h3.cell (by show w.heap.size < _; simp; omega), cell_alloc_old (by omega)]; exact y4
  have x5 : w3.cell? ⟨w.heap.size, 5, none⟩ = some (.int .u64 (n5 : Nat)) := by rw [h3.cell (by show w.heap.size < _; simp; omega), cell_alloc_old (by omega)]; exact y5
  have x6 : w3.cell? ⟨w.heap.size, 6, none⟩ = some (.int .u64 (n6 : Nat)) := by rw [h3.cell (by show w.heap.size < _; simp; omega), cell_alloc_old (by omega)]; exact y6
  have x7 : w3.cell? ⟨w.heap.size, 7, none⟩ = some (.int .u64 (n7 : Nat)) := by rw [h3.cell (by show w.heap.size < _; simp; omega), cell_alloc_old (by omega)]; exact y7
  clear h3 y0 y1 y2 y3 y4 y5 y6 y7
  go_wp2_with fail
  refine (pref big wide n0 n1 n2 n3 n4 n5 n6 n7 HN.out S true HREC.out _).mono ?_
  rintro e w4 ⟨rfl, h4⟩
  have z4 := h4.size
  have b4 : Below w.heap.size w w4 := b3.trans (h4.mono b3.size)
  have g0 : w4.cell? ⟨w2.heap.size, 0, none⟩ = some (.bool big) := by rw [h4.cell (by show w2.heap.size < _; omega)]; exact f0
  have g1 : w4.cell? ⟨w2.heap.size, 1, none⟩ = some (.bool wide) := by rw [h4.cell (by show w2.heap.size < _; omega)]; exact f1
  have y0 : w4.cell? ⟨w.heap.size, 0, none⟩ = some (.int .u64 (n0 : Nat)) := by rw [h4.cell (by show w.heap.size < _; omega)]; exact x0
  have y1 : w4.cell? ⟨w.heap.size, 1, none⟩ = some (.int .u64 (n1 : Nat)) := by rw [h4.cell (by show w.heap.size < _; omega)]; exact x1
  have y2 : w4.cell? ⟨w.heap.size, 2, none⟩ = some (.int .u64 (n2 : Nat)) := by rw [h4.cell (by show w.heap.size < _; omega)]; exact x2
  have y3 : w4.cell? ⟨w.heap.size, 3, none⟩ = some (.int .u64 (n3 : Nat)) := by rw [h4.cell (by show w.heap.size < _; omega)]; exact x3
  have y4 : w4.cell? ⟨w.heap.size, 4, none⟩ = some (.int .u64 (n4 : Nat)) := by rw [h4.cell (by show w.heap.size < _; omega)]; exact x4
  have y5 : w4.cell? ⟨w.heap.size, 5, none⟩ = some (.int .u64 (n5 : Nat)) := by rw [h4.cell (by show w.heap.size < _; omega)]; exact x5
  have y6 : w4.cell? ⟨w.heap.size, 6, none⟩ = some (.int .u64 (n6 : Nat)) := by rw [h4.cell (by show w.heap.size < _; omega)]; exact x6
  have y7 : w4.cell? ⟨w.heap.size, 7, none⟩ = some (.int .u64 (n7 : Nat)) := by rw [h4.cell (by show w.heap.size < _; omega)]; exact x7
  clear h4 f0 f1 x0 x1 x2 x3 x4 x5 x6 x7
  go_wp2_with fail
  have q20 : (m : Int) ≤ 20 := by have := HM.out; omega
  have q0 : (0 : Int) ≤ (m : Int) := by omega
  have qs : (m : Int) ≤ (more.size : Int) := by have := HM.out; omega
  have mn1 : (if (more.size : Int) ≤ 20 then (more.size : Int) else 20) = (m : Int) := by have := HM.out; split <;> omega
  have mn3 : min (more.size : Int) 20 = (m : Int) := by have := HM.out; omega
  obtain ⟨M, hM⟩ : ∃ M, more.extract 0 m = M := ⟨_, rfl⟩
  have hMs : M.size ≤ 20 := by rw [← hM]; simp; omega
  have hMt : more.extract 0 (m : Int).toNat = M := by rw [Int.toNat_natCast]; exact hM
  obtain ⟨T, hT⟩ : ∃ T, S ++ M = T := ⟨_, rfl⟩
  have hsz := ByteArray.size_append (a := S) (b := M)
  rw [hT] at hsz
  obtain ⟨hSs, hnums⟩ := recIs_read HREC.out (p_ok wide) M
  rw [p_off] at hSs
  have hl1 : pLen wide ≤ 64 := by cases wide <;> decide
  rw [hT] at hnums
  have hnums : ∀ j, j < 8 → numAt big (fullL wide (pSizes wide) 8) T.data.toList (pPos wide j) = ([n0, n1, n2, n3, n4, n5, n6, n7] : List Nat).getD j 0 := fun j hj => (hnums _ (pPos_lt wide j hj)).trans (pNs_pos wide n0 n1 n2 n3 n4 n5 n6 n7 j hj)
  have hadd := add_str S M (by omega)
  rw [hT] at hadd
  have HT := Lib.hid hT; clear hT
  have hrd : ∀ W : World, Calls Try.prog 12 #[.agg #[.bool big, .bool wide], .string T] W fun e w' => e = .returned (.tuple #[.agg #[.int .u64 (n0 : Nat), .int .u64 (n1 : Nat), .int .u64 (n2 : Nat), .int .u64 (n3 : Nat), .int .u64 (n4 : Nat), .int .u64 (n5 : Nat), .int .u64 (n6 : Nat), .int .u64 (n7 : Nat)], .bool true]) ∧ Below W.heap.size W w' := fun W => by
    refine (pread_yes big wide T W (by omega) (by omega)).mono fun e w' ⟨he, hb⟩ => ⟨?_, hb⟩
    rw [he, hnums 0 (by decide), hnums 1 (by decide), hnums 2 (by decide), hnums 3 (by decide), hnums 4 (by decide), hnums 5 (by decide), hnums 6 (by decide), hnums 7 (by decide)]
    rfl
  have HRD := Lib.hid hrd; clear hrd hsz hSs hl1 hnums
  have HG0 : Hid (∀ w', Below w4.heap.size w4 w' → w'.cell? ⟨w2.heap.size, 0, none⟩ = some (.bool big)) := Lib.hid (fun w' h => by rw [h.cell (by show w2.heap.size < _; omega)]; exact g0)
  have HG1 : Hid (∀ w', Below w4.heap.size w4 w' → w'.cell? ⟨w2.heap.size, 1, none⟩ = some (.bool wide)) := Lib.hid (fun w' h => by rw [h.cell (by show w2.heap.size < _; omega)]; exact g1)
  clear g0 g1
  refine wp_region_held_drew (S := fun w' => Below w4.heap.size w4 w') (by kernel_rfl) ?_ (fun hHeld => ?_)
  · exact (Below.refl _ _).drew
  refine wpAnyH_take (i := 0) (oi := { dst := some 43, op := Go.Op.load 29 (Go.Operand.tmp 7), type := 29, pos := "law.go:39", after := #[], guard := none }) (v := ?_) rfl (by kernel_rfl) (by kernel_rfl) (by kernel_rfl) (fun _ _ _ h => h) (Or.inl ⟨by rfl, ?_⟩) (by assumption) ?_
  rotate_left
  · (intro w hSw; have q0 := HG0.out w hSw; have q1 := HG1.out w hSw; (try dsimp only at hSw); go_simp <;> with_reducible rfl)
  try simp only [Act.put, List.setIfInBounds_toArray, List.set_cons_zero, List.set_cons_succ]
  refine wpAnyH_take (i := 1) (oi := { dst := some 44, op := Go.Op.move (Go.Operand.tmp 8), type := 9, pos := "law.go:39", after := #[], guard := none }) (v := ?_) rfl (by kernel_rfl) (by kernel_rfl) (by kernel_rfl) (fun _ _ _ h => h) (Or.inl ⟨by rfl, ?_⟩) (by assumption) ?_
  rotate_left
  · (intro w hSw; (try dsimp only at hSw); go_simp <;> with_reducible rfl)
  try simp only [Act.put, List.setIfInBounds_toArray, List.set_cons_zero, List.set_cons_succ]
  refine wpAnyH_take (i := 2) (oi := { dst := some 45, op := Go.Op.move (Go.Operand.tmp 2), type := 9, pos := "law.go:39", after := #[], guard := none }) (v := ?_) rfl (by kernel_rfl) (by kernel_rfl) (by kernel_rfl) (fun _ _ _ h => h) (Or.inl ⟨by rfl, ?_⟩) (by assumption) ?_
  rotate_left
  · (intro w hSw; (try dsimp only at hSw); go_simp <;> with_reducible rfl)
  try simp only [Act.put, List.setIfInBounds_toArray, List.set_cons_zero, List.set_cons_succ]
  refine wpAnyH_take (i := 3) (oi := { dst := some 46, op := Go.Op.move (Go.Operand.tmp 2), type := 9, pos := "law.go:39", after := #[], guard := none }) (v := ?_) rfl (by kernel_rfl) (by kernel_rfl) (by kernel_rfl) (fun _ _ _ h => h) (Or.inl ⟨by rfl, ?_⟩) (by assumption) ?_
  rotate_left
  · (intro w hSw; (try dsimp only at hSw); go_simp <;> with_reducible rfl)
  try simp only [Act.put, List.setIfInBounds_toArray, List.set_cons_zero, List.set_cons_succ]
  refine wpAnyH_take (i := 4) (oi := { dst := some 47, op := Go.Op.call { callee := Go.Callee.builtin Go.Builtin.len, args := #[Go.Operand.tmp 46], argTypes := #[9] }, type := 3, pos := "law.go:39", after := #[{ on := 3, ground := Go.Ground.data }], guard := none }) (v := ?_) rfl (by kernel_rfl) (by kernel_rfl) (by kernel_rfl) (fun _ _ _ h => h) (Or.inl ⟨by rfl, ?_⟩) (by assumption) ?_
  rotate_left
  · (intro w hSw; (try dsimp only at hSw); go_simp <;> with_reducible rfl)
  try simp only [Act.put, List.setIfInBounds_toArray, List.set_cons_zero, List.set_cons_succ]
  refine wpAnyH_take (i := 5) (oi := { dst := some 48, op := Go.Op.call { callee := Go.Callee.builtin Go.Builtin.min, args := #[Go.Operand.tmp 47, Go.Operand.const (Go.Value.int Go.IntKind.i64 20)], argTypes := #[3, 3] }, type := 3, pos := "law.go:39", after := #[{ on := 4, ground := Go.Ground.data }], guard := none }) (v := ?_) rfl (by kernel_rfl) (by kernel_rfl) (by kernel_rfl) (fun _ _ _ h => h) (Or.inl ⟨by rfl, ?_⟩) (by assumption) ?_
  rotate_left
  · (intro w hSw; (try dsimp only at hSw); go_simp <;> with_reducible rfl)
  try simp only [Act.put, List.setIfInBounds_toArray, List.set_cons_zero, List.set_cons_succ]
  refine wpAnyH_take (i := 6) (oi := { dst := some 49, op := Go.Op.slice 9 (Go.Operand.tmp 45) none (some (Go.Operand.tmp 48)) none, type := 9, pos := "law.go:39", after := #[{ on := 2, ground := Go.Ground.data }, { on := 5, ground := Go.Ground.data }], guard := none }) (v := ?_) rfl (by kernel_rfl) (by kernel_rfl) (by kernel_rfl) (fun _ _ _ h => h) (Or.inl ⟨by rfl, ?_⟩) (by assumption) ?_
  rotate_left
  · (intro w hSw; (try dsimp only at hSw); go_simp <;> with_reducible rfl)
  try simp only [Act.put, List.setIfInBounds_toArray, List.set_cons_zero, List.set_cons_succ]
  refine wpAnyH_take (i := 7) (oi := { dst := some 50, op := Go.Op.binOp Go.BinOp.add 9 (Go.Operand.tmp 44) (Go.Operand.tmp 49) 9, type := 9, pos := "law.go:39", after := #[{ on := 1, ground := Go.Ground.data }, { on := 6, ground := Go.Ground.data }], guard := none }) (v := ?_) rfl (by kernel_rfl) (by kernel_rfl) (by kernel_rfl) (fun _ _ _ h => h) (Or.inl ⟨by rfl, ?_⟩) (by assumption) ?_
  rotate_left
  · (intro w hSw; (try dsimp only at hSw); go_simp <;> with_reducible rfl)
  try simp only [Act.put, List.setIfInBounds_toArray, List.set_cons_zero, List.set_cons_succ]
  clear mn1 mn3 hMt hadd hM
  refine wpAnyH_ready (rs := [8, 12]) (by kernel_rfl) (by simp) ?_
  refine AllReadyH.cons (o := { dst := some 51, op := Go.Op.call { callee := Go.Callee.value (Go.Operand.func 12), args := #[Go.Operand.tmp 43, Go.Operand.tmp 50], argTypes := #[29, 9] }, type := 36, pos := "law.go:39", after := #[{ on := 0, ground := Go.Ground.data }, { on := 7, ground := Go.Ground.data }], guard := none }) rfl (fun K hK => ?_) (AllReadyH.cons (o := { dst := some 12, op := Go.Op.alloc 33, type := 0, pos := "law.go:39", after := #[], guard := none }) rfl (fun K hK => ?_) AllReadyH.nil)
  · (first | go_at_call 12 | (go_simp; go_at_call 12))
    (with_reducible refine (HRD.out _).mono ?_)
    rintro e w5 ⟨rfl, h5⟩
    try go_wp2_with fail
    refine hK.out _ _ ?_ (fun hHeld2 => ?_)
    · exact hHeld.trans (h5.mono hHeld.size)
    clear hK K
    try simp only [Act.put, List.setIfInBounds_toArray, List.set_cons_zero, List.set_cons_succ]
    refine wpAnyH_take (i := 9) (oi := { dst := some 42, op := Go.Op.move (Go.Operand.tmp 51), type := 36, pos := "law.go:39", after := #[{ on := 8, ground := Go.Ground.data }], guard := none }) (v := ?_) rfl (by kernel_rfl) (by kernel_rfl) (by kernel_rfl) (fun _ _ _ h => h) (Or.inl ⟨by rfl, ?_⟩) (by assumption) ?_
    rotate_left
    · (intro w hSw; (try dsimp only at hSw); go_simp <;> with_reducible rfl)
    try simp only [Act.put, List.setIfInBounds_toArray, List.set_cons_zero, List.set_cons_succ]
    refine wpAnyH_take (i := 10) (oi := { dst := some 52, op := Go.Op.extract (Go.Operand.tmp 42) 0, type := 33, pos := "law.go:39", after := #[{ on := 9, ground := Go.Ground.data }], guard := none }) (v := ?_) rfl (by kernel_rfl) (by kernel_rfl) (by kernel_rfl) (fun _ _ _ h => h) (Or.inl ⟨by rfl, ?_⟩) (by assumption) ?_
    rotate_left
    · (intro w hSw; (try dsimp only at hSw); go_simp <;> with_reducible rfl)
    try simp only [Act.put, List.setIfInBounds_toArray, List.set_cons_zero, List.set_cons_succ]
    refine wpAnyH_take (i := 11) (oi := { dst := some 53, op := Go.Op.extract (Go.Operand.tmp 42) 1, type := 4, pos := "law.go:39", after := #[{ on := 9, ground := Go.Ground.data }, { on := 13, ground := Go.Ground.gcOnly Go.Departure.lateStores }], guard := none }) (v := ?_) rfl (by kernel_rfl) (by kernel_rfl) (by kernel_rfl) (fun _ _ _ h => h) (Or.inl ⟨by rfl, ?_⟩) (by assumption) ?_
    rotate_left
    · (intro w hSw; (try dsimp only at hSw); go_simp <;> with_reducible rfl)
    try simp only [Act.put, List.setIfInBounds_toArray, List.set_cons_zero, List.set_cons_succ]
    refine wpAnyH_ready (rs := [12]) (by kernel_rfl) (by simp) ?_
    refine AllReadyH.cons (o := { dst := some 12, op := Go.Op.alloc 33, type := 0, pos := "law.go:39", after := #[], guard := none }) rfl (fun K hK => ?_) AllReadyH.nil
    go_simp
    refine hK.out _ _ ?_ (fun hHeld3 => ?_)
    · exact hHeld2.alloc hHeld2.size _
    clear hK K
    try simp only [Act.put, List.setIfInBounds_toArray, List.set_cons_zero, List.set_cons_succ]
    have hZ : (w5.alloc (.cells #[.int .u64 0, .int .u64 0, .int .u64 0, .int .u64 0, .int .u64 0, .int .u64 0, .int .u64 0, .int .u64 0] 33)).heap[w5.heap.size]? = some (.cells #[.int .u64 0, .int .u64 0, .int .u64 0, .int .u64 0, .int .u64 0, .int .u64 0, .int .u64 0, .int .u64 0] 33 (0, 0)) := heap_alloc_new _ _
    refine wpAnyH_ready (rs := [13]) (by kernel_rfl) (by simp) ?_
    refine AllReadyH.cons (o := { dst := none, op := Go.Op.store 33 (Go.Operand.tmp 12) (Go.Operand.tmp 52), type := 0, pos := "law.go:39", after := #[{ on := 12, ground := Go.Ground.data }, { on := 10, ground := Go.Ground.data }, { on := 8, ground := Go.Ground.chain }, { on := 0, ground := Go.Ground.phase }, { on := 1, ground := Go.Ground.phase }, { on := 2, ground := Go.Ground.phase }, { on := 3, ground := Go.Ground.phase }, { on := 4, ground := Go.Ground.phase }, { on := 5, ground := Go.Ground.phase }, { on := 6, ground := Go.Ground.phase }, { on := 7, ground := Go.Ground.phase }, { on := 8, ground := Go.Ground.phase }, { on := 9, ground := Go.Ground.phase }, { on := 10, ground := Go.Ground.phase }, { on := 11, ground := Go.Ground.textOnly Go.Departure.lateStores }, { on := 12, ground := Go.Ground.phase }], guard := none }) rfl (fun K hK => ?_) AllReadyH.nil
    refine wp_store_row 33 _ _ rfl w5.heap.size #[.int .u64 (n0 : Nat), .int .u64 (n1 : Nat), .int .u64 (n2 : Nat), .int .u64 (n3 : Nat), .int .u64 (n4 : Nat), .int .u64 (n5 : Nat), .int .u64 (n6 : Nat), .int .u64 (n7 : Nat)] (by rfl) (by rfl) 33 #[.int .u64 0, .int .u64 0, .int .u64 0, .int .u64 0, .int .u64 0, .int .u64 0, .int .u64 0, .int .u64 0] hZ (by kernel_rfl) rfl (by simp [Value.oneCell']) ?_
    refine hK.out _ _ ?_ (fun hHeldZ => ?_)
    · exact below_setRow hHeld3 (by have := hHeld2.size; omega) _
    clear hK K
    try simp only [Act.put]
    refine wpAnyH_take (i := 14) (oi := { dst := some 13, op := Go.Op.assign (Go.Operand.tmp 53), type := 4, pos := "law.go:39", after := #[{ on := 11, ground := Go.Ground.data }, { on := 13, ground := Go.Ground.chain }, { on := 0, ground := Go.Ground.phase }, { on := 1, ground := Go.Ground.phase }, { on := 2, ground := Go.Ground.phase }, { on := 3, ground := Go.Ground.phase }, { on := 4, ground := Go.Ground.phase }, { on := 5, ground := Go.Ground.phase }, { on := 6, ground := Go.Ground.phase }, { on := 7, ground := Go.Ground.phase }, { on := 8, ground := Go.Ground.phase }, { on := 9, ground := Go.Ground.phase }, { on := 10, ground := Go.Ground.phase }, { on := 11, ground := Go.Ground.phase }, { on := 12, ground := Go.Ground.phase }, { on := 13, ground := Go.Ground.phase }], guard := none }) (v := ?_) rfl (by kernel_rfl) (by kernel_rfl) (by kernel_rfl) (fun _ _ _ h => h) (Or.inl ⟨by rfl, ?_⟩) (by assumption) ?_
    rotate_left
    · (intro w hSw; (try dsimp only at hSw); go_simp <;> with_reducible rfl)
    try simp only [Act.put, List.setIfInBounds_toArray, List.set_cons_zero, List.set_cons_succ]
    refine wpAnyH_done (by kernel_rfl) ?_ _
    have hW6 : Below w.heap.size w ((w5.alloc (.cells #[.int .u64 0, .int .u64 0, .int .u64 0, .int .u64 0, .int .u64 0, .int .u64 0, .int .u64 0, .int .u64 0] 33)).setRow w5.heap.size #[.int .u64 (n0 : Nat), .int .u64 (n1 : Nat), .int .u64 (n2 : Nat), .int .u64 (n3 : Nat), .int .u64 (n4 : Nat), .int .u64 (n5 : Nat), .int .u64 (n6 : Nat), .int .u64 (n7 : Nat)]) := b4.trans (hHeldZ.mono b4.size)
    have y0 : ((w5.alloc (.cells #[.int .u64 0, .int .u64 0, .int .u64 0, .int .u64 0, .int .u64 0, .int .u64 0, .int .u64 0, .int .u64 0] 33)).setRow w5.heap.size #[.int .u64 (n0 : Nat), .int .u64 (n1 : Nat), .int .u64 (n2 : Nat), .int .u64 (n3 : Nat), .int .u64 (n4 : Nat), .int .u64 (n5 : Nat), .int .u64 (n6 : Nat), .int .u64 (n7 : Nat)]).cell? ⟨w.heap.size, 0, none⟩ = some (.int .u64 (n0 : Nat)) := by rw [hHeldZ.cell (by show w.heap.size < _; omega)]; exact y0
    have y1 : ((w5.alloc (.cells #[.int .u64 0, .int .u64 0, .int .u64 0, .int .u64 0, .int .u64 0, .int .u64 0, .int .u64 0, .int .u64 0] 33)).setRow w5.heap.size #[.int .u64 (n0 : Nat), .int .u64 (n1 : Nat), .int .u64 (n2 : Nat), .int .u64 (n3 : Nat), .int .u64 (n4 : Nat), .int .u64 (n5 : Nat), .int .u64 (n6 : Nat), .int .u64 (n7 : Nat)]).cell? ⟨w.heap.size, 1, none⟩ = some (.int .u64 (n1 : Nat)) := by rw [hHeldZ.cell (by show w.heap.size < _; omega)]; exact y1
    have y2 : ((w5.alloc (.cells #[.int .u64 0, .int .u64 0, .int .u64 0, .int .u64 0, .int .u64 0, .int .u64 0, .int .u64 0, .int .u64 0] 33)).setRow w5.heap.size #[.int .u64 (n0 : Nat), .int .u64 (n1 : Nat), .int .u64 (n2 : Nat), .int .u64 (n3 : Nat), .int .u64 (n4 : Nat), .int .u64 (n5 : Nat), .int .u64 (n6 : Nat), .int .u64 (n7 : Nat)]).cell? ⟨w.heap.size, 2, none⟩ = some (.int .u64 (n2 : Nat)) := by rw [hHeldZ.cell (by show w.heap.size < _; omega)]; exact y2
    have y3 : ((w5.alloc (.cells #[.int .u64 0, .int .u64 0, .int .u64 0, .int .u64 0, .int .u64 0, .int .u64 0, .int .u64 0, .int .u64 0] 33)).setRow w5.heap.size #[.int .u64 (n0 : Nat), .int .u64 (n1 : Nat), .int .u64 (n2 : Nat), .int .u64 (n3 : Nat), .int .u64 (n4 : Nat), .int .u64 (n5 : Nat), .int .u64 (n6 : Nat), .int .u64 (n7 : Nat)]).cell? ⟨w.heap.size, 3, none⟩ = some (.int .u64 (n3 : Nat)) := by rw [hHeldZ.cell (by show w.heap.size < _; omega)]; exact y3
    have y4 : ((w5.alloc (.cells #[.int .u64 0, .int .u64 0, .int .u64 0, .int .u64 0, .int .u64 0, .int .u64 0, .int .u64 0, .int .u64 0] 33)).setRow w5.heap.size #[.int .u64 (n0 : Nat), .int .u64 (n1 : Nat), .int .u64 (n2 : Nat), .int .u64 (n3 : Nat), .int .u64 (n4 : Nat), .int .u64 (n5 : Nat), .int .u64 (n6 : Nat), .int .u64 (n7 : Nat)]).cell? ⟨w.heap.size, 4, none⟩ = some (.int .u64 (n4 : Nat)) := by rw [hHeldZ.cell (by show w.heap.size < _; omega)]; exact y4
    have y5 : ((w5.alloc (.cells #[.int .u64 0, .int .u64 0, .int .u64 0, .int .u64 0, .int .u64 0, .int .u64 0, .int .u64 0, .int .u64 0] 33)).setRow w5.heap.size #[.int .u64 (n0 : Nat), .int .u64 (n1 : Nat), .int .u64 (n2 : Nat), .int .u64 (n3 : Nat), .int .u64 (n4 : Nat), .int .u64 (n5 : Nat), .int .u64 (n6 : Nat), .int .u64 (n7 : Nat)]).cell? ⟨w.heap.size, 5, none⟩ = some (.int .u64 (n5 : Nat)) := by rw [hHeldZ.cell (by show w.heap.size < _; omega)]; exact y5
    have y6 : ((w5.alloc (.cells #[.int .u64 0, .int .u64 0, .int .u64 0, .int .u64 0, .int .u64 0, .int .u64 0, .int .u64 0, .int .u64 0] 33)).setRow w5.heap.size #[.int .u64 (n0 : Nat), .int .u64 (n1 : Nat), .int .u64 (n2 : Nat), .int .u64 (n3 : Nat), .int .u64 (n4 : Nat), .int .u64 (n5 : Nat), .int .u64 (n6 : Nat), .int .u64 (n7 : Nat)]).cell? ⟨w.heap.size, 6, none⟩ = some (.int .u64 (n6 : Nat)) := by rw [hHeldZ.cell (by show w.heap.size < _; omega)]; exact y6
    have y7 : ((w5.alloc (.cells #[.int .u64 0, .int .u64 0, .int .u64 0, .int .u64 0, .int .u64 0, .int .u64 0, .int .u64 0, .int .u64 0] 33)).setRow w5.heap.size #[.int .u64 (n0 : Nat), .int .u64 (n1 : Nat), .int .u64 (n2 : Nat), .int .u64 (n3 : Nat), .int .u64 (n4 : Nat), .int .u64 (n5 : Nat), .int .u64 (n6 : Nat), .int .u64 (n7 : Nat)]).cell? ⟨w.heap.size, 7, none⟩ = some (.int .u64 (n7 : Nat)) := by rw [hHeldZ.cell (by show w.heap.size < _; omega)]; exact y7
    have c0 : ((w5.alloc (.cells #[.int .u64 0, .int .u64 0, .int .u64 0, .int .u64 0, .int .u64 0, .int .u64 0, .int .u64 0, .int .u64 0] 33)).setRow w5.heap.size #[.int .u64 (n0 : Nat), .int .u64 (n1 : Nat), .int .u64 (n2 : Nat), .int .u64 (n3 : Nat), .int .u64 (n4 : Nat), .int .u64 (n5 : Nat), .int .u64 (n6 : Nat), .int .u64 (n7 : Nat)]).cell? ⟨w5.heap.size, 0, none⟩ = some (.int .u64 (n0 : Nat)) := by rw [cell_setRow_same _ _ 0 #[.int .u64 0, .int .u64 0, .int .u64 0, .int .u64 0, .int .u64 0, .int .u64 0, .int .u64 0, .int .u64 0] _ 33 (0, 0) hZ]; rfl
    have c1 : ((w5.alloc (.cells #[.int .u64 0, .int .u64 0, .int .u64 0, .int .u64 0, .int .u64 0, .int .u64 0, .int .u64 0, .int .u64 0] 33)).setRow w5.heap.size #[.int .u64 (n0 : Nat), .int .u64 (n1 : Nat), .int .u64 (n2 : Nat), .int .u64 (n3 : Nat), .int .u64 (n4 : Nat), .int .u64 (n5 : Nat), .int .u64 (n6 : Nat), .int .u64 (n7 : Nat)]).cell? ⟨w5.heap.size, 1, none⟩ = some (.int .u64 (n1 : Nat)) := by rw [cell_setRow_same _ _ 1 #[.int .u64 0, .int .u64 0, .int .u64 0, .int .u64 0, .int .u64 0, .int .u64 0, .int .u64 0, .int .u64 0] _ 33 (0, 0) hZ]; rfl
    have c2 : ((w5.alloc (.cells #[.int .u64 0, .int .u64 0, .int .u64 0, .int .u64 0, .int .u64 0, .int .u64 0, .int .u64 0, .int .u64 0] 33)).setRow w5.heap.size #[.int .u64 (n0 : Nat), .int .u64 (n1 : Nat), .int .u64 (n2 : Nat), .int .u64 (n3 : Nat), .int .u64 (n4 : Nat), .int .u64 (n5 : Nat), .int .u64 (n6 : Nat), .int .u64 (n7 : Nat)]).cell? ⟨w5.heap.size, 2, none⟩ = some (.int .u64 (n2 : Nat)) := by rw [cell_setRow_same _ _ 2 #[.int .u64 0, .int .u64 0, .int .u64 0, .int .u64 0, .int .u64 0, .int .u64 0, .int .u64 0, .int .u64 0] _ 33 (0, 0) hZ]; rfl
    have c3 : ((w5.alloc (.cells #[.int .u64 0, .int .u64 0, .int .u64 0, .int .u64 0, .int .u64 0, .int .u64 0, .int .u64 0, .int .u64 0] 33)).setRow w5.heap.size #[.int .u64 (n0 : Nat), .int .u64 (n1 : Nat), .int .u64 (n2 : Nat), .int .u64 (n3 : Nat), .int .u64 (n4 : Nat), .int .u64 (n5 : Nat), .int .u64 (n6 : Nat), .int .u64 (n7 : Nat)]).cell? ⟨w5.heap.size, 3, none⟩ = some (.int .u64 (n3 : Nat)) := by rw [cell_setRow_same _ _ 3 #[.int .u64 0, .int .u64 0, .int .u64 0, .int .u64 0, .int .u64 0, .int .u64 0, .int .u64 0, .int .u64 0] _ 33 (0, 0) hZ]; rfl
    have c4 : ((w5.alloc (.cells #[.int .u64 0, .int .u64 0, .int .u64 0, .int .u64 0, .int .u64 0, .int .u64 0, .int .u64 0, .int .u64 0] 33)).setRow w5.heap.size #[.int .u64 (n0 : Nat), .int .u64 (n1 : Nat), .int .u64 (n2 : Nat), .int .u64 (n3 : Nat), .int .u64 (n4 : Nat), .int .u64 (n5 : Nat), .int .u64 (n6 : Nat), .int .u64 (n7 : Nat)]).cell? ⟨w5.heap.size, 4, none⟩ = some (.int .u64 (n4 : Nat)) := by rw [cell_setRow_same _ _ 4 #[.int .u64 0, .int .u64 0, .int .u64 0, .int .u64 0, .int .u64 0, .int .u64 0, .int .u64 0, .int .u64 0] _ 33 (0, 0) hZ]; rfl
    have c5 : ((w5.alloc (.cells #[.int .u64 0, .int .u64 0, .int .u64 0, .int .u64 0, .int .u64 0, .int .u64 0, .int .u64 0, .int .u64 0] 33)).setRow w5.heap.size #[.int .u64 (n0 : Nat), .int .u64 (n1 : Nat), .int .u64 (n2 : Nat), .int .u64 (n3 : Nat), .int .u64 (n4 : Nat), .int .u64 (n5 : Nat), .int .u64 (n6 : Nat), .int .u64 (n7 : Nat)]).cell? ⟨w5.heap.size, 5, none⟩ = some (.int .u64 (n5 : Nat)) := by rw [cell_setRow_same _ _ 5 #[.int .u64 0, .int .u64 0, .int .u64 0, .int .u64 0, .int .u64 0, .int .u64 0, .int .u64 0, .int .u64 0] _ 33 (0, 0) hZ]; rfl
    have c6 : ((w5.alloc (.cells #[.int .u64 0, .int .u64 0, .int .u64 0, .int .u64 0, .int .u64 0, .int .u64 0, .int .u64 0, .int .u64 0] 33)).setRow w5.heap.size #[.int .u64 (n0 : Nat), .int .u64 (n1 : Nat), .int .u64 (n2 : Nat), .int .u64 (n3 : Nat), .int .u64 (n4 : Nat), .int .u64 (n5 : Nat), .int .u64 (n6 : Nat), .int .u64 (n7 : Nat)]).cell? ⟨w5.heap.size, 6, none⟩ = some (.int .u64 (n6 : Nat)) := by rw [cell_setRow_same _ _ 6 #[.int .u64 0, .int .u64 0, .int .u64 0, .int .u64 0, .int .u64 0, .int .u64 0, .int .u64 0, .int .u64 0] _ 33 (0, 0) hZ]; rfl
    have c7 : ((w5.alloc (.cells #[.int .u64 0, .int .u64 0, .int .u64 0, .int .u64 0, .int .u64 0, .int .u64 0, .int .u64 0, .int .u64 0] 33)).setRow w5.heap.size #[.int .u64 (n0 : Nat), .int .u64 (n1 : Nat), .int .u64 (n2 : Nat), .int .u64 (n3 : Nat), .int .u64 (n4 : Nat), .int .u64 (n5 : Nat), .int .u64 (n6 : Nat), .int .u64 (n7 : Nat)]).cell? ⟨w5.heap.size, 7, none⟩ = some (.int .u64 (n7 : Nat)) := by rw [cell_setRow_same _ _ 7 #[.int .u64 0, .int .u64 0, .int .u64 0, .int .u64 0, .int .u64 0, .int .u64 0, .int .u64 0, .int .u64 0] _ 33 (0, 0) hZ]; rfl
    generalize ((w5.alloc (.cells #[.int .u64 0, .int .u64 0, .int .u64 0, .int .u64 0, .int .u64 0, .int .u64 0, .int .u64 0, .int .u64 0] 33)).setRow w5.heap.size #[.int .u64 (n0 : Nat), .int .u64 (n1 : Nat), .int .u64 (n2 : Nat), .int .u64 (n3 : Nat), .int .u64 (n4 : Nat), .int .u64 (n5 : Nat), .int .u64 (n6 : Nat), .int .u64 (n7 : Nat)]) = W6 at *
    clear hHeldZ hZ
    go_wp2
    go_ret
    exact ⟨by first | rfl | simp, hW6⟩
  · go_simp
    refine hK.out _ _ ?_ (fun hHeld2 => ?_)
    · exact hHeld.alloc hHeld.size _
    clear hK K
    try simp only [Act.put, List.setIfInBounds_toArray, List.set_cons_zero, List.set_cons_succ]
    refine wpAnyH_ready (rs := [8]) (by kernel_rfl) (by simp) ?_
    refine AllReadyH.cons (o := { dst := some 51, op := Go.Op.call { callee := Go.Callee.value (Go.Operand.func 12), args := #[Go.Operand.tmp 43, Go.Operand.tmp 50], argTypes := #[29, 9] }, type := 36, pos := "law.go:39", after := #[{ on := 0, ground := Go.Ground.data }, { on := 7, ground := Go.Ground.data }], guard := none }) rfl (fun K hK => ?_) AllReadyH.nil
    (first | go_at_call 12 | (go_simp; go_at_call 12))
    (with_reducible refine (HRD.out _).mono ?_)
    rintro e w5 ⟨rfl, h5⟩
    try go_wp2_with fail
    refine hK.out _ _ ?_ (fun hHeld3 => ?_)
    · exact hHeld2.trans (h5.mono hHeld2.size)
    clear hK K
    try simp only [Act.put, List.setIfInBounds_toArray, List.set_cons_zero, List.set_cons_succ]
    refine wpAnyH_take (i := 9) (oi := { dst := some 42, op := Go.Op.move (Go.Operand.tmp 51), type := 36, pos := "law.go:39", after := #[{ on := 8, ground := Go.Ground.data }], guard := none }) (v := ?_) rfl (by kernel_rfl) (by kernel_rfl) (by kernel_rfl) (fun _ _ _ h => h) (Or.inl ⟨by rfl, ?_⟩) (by assumption) ?_
    rotate_left
    · (intro w hSw; (try dsimp only at hSw); go_simp <;> with_reducible rfl)
    try simp only [Act.put, List.setIfInBounds_toArray, List.set_cons_zero, List.set_cons_succ]
    refine wpAnyH_take (i := 10) (oi := { dst := some 52, op := Go.Op.extract (Go.Operand.tmp 42) 0, type := 33, pos := "law.go:39", after := #[{ on := 9, ground := Go.Ground.data }], guard := none }) (v := ?_) rfl (by kernel_rfl) (by kernel_rfl) (by kernel_rfl) (fun _ _ _ h => h) (Or.inl ⟨by rfl, ?_⟩) (by assumption) ?_
    rotate_left
    · (intro w hSw; (try dsimp only at hSw); go_simp <;> with_reducible rfl)
    try simp only [Act.put, List.setIfInBounds_toArray, List.set_cons_zero, List.set_cons_succ]
    refine wpAnyH_take (i := 11) (oi := { dst := some 53, op := Go.Op.extract (Go.Operand.tmp 42) 1, type := 4, pos := "law.go:39", after := #[{ on := 9, ground := Go.Ground.data }, { on := 13, ground := Go.Ground.gcOnly Go.Departure.lateStores }], guard := none }) (v := ?_) rfl (by kernel_rfl) (by kernel_rfl) (by kernel_rfl) (fun _ _ _ h => h) (Or.inl ⟨by rfl, ?_⟩) (by assumption) ?_
    rotate_left
    · (intro w hSw; (try dsimp only at hSw); go_simp <;> with_reducible rfl)
    try simp only [Act.put, List.setIfInBounds_toArray, List.set_cons_zero, List.set_cons_succ]
    have hZ : w5.heap[w4.heap.size]? = some (.cells #[.int .u64 0, .int .u64 0, .int .u64 0, .int .u64 0, .int .u64 0, .int .u64 0, .int .u64 0, .int .u64 0] 33 (0, 0)) := by rw [h5.block _ (by show w4.heap.size < (w4.alloc _).heap.size; simp)]; exact heap_alloc_new w4 _
    refine wpAnyH_ready (rs := [13]) (by kernel_rfl) (by simp) ?_
    refine AllReadyH.cons (o := { dst := none, op := Go.Op.store 33 (Go.Operand.tmp 12) (Go.Operand.tmp 52), type := 0, pos := "law.go:39", after := #[{ on := 12, ground := Go.Ground.data }, { on := 10, ground := Go.Ground.data }, { on := 8, ground := Go.Ground.chain }, { on := 0, ground := Go.Ground.phase }, { on := 1, ground := Go.Ground.phase }, { on := 2, ground := Go.Ground.phase }, { on := 3, ground := Go.Ground.phase }, { on := 4, ground := Go.Ground.phase }, { on := 5, ground := Go.Ground.phase }, { on := 6, ground := Go.Ground.phase }, { on := 7, ground := Go.Ground.phase }, { on := 8, ground := Go.Ground.phase }, { on := 9, ground := Go.Ground.phase }, { on := 10, ground := Go.Ground.phase }, { on := 11, ground := Go.Ground.textOnly Go.Departure.lateStores }, { on := 12, ground := Go.Ground.phase }], guard := none }) rfl (fun K hK => ?_) AllReadyH.nil
    refine wp_store_row 33 _ _ rfl w4.heap.size #[.int .u64 (n0 : Nat), .int .u64 (n1 : Nat), .int .u64 (n2 : Nat), .int .u64 (n3 : Nat), .int .u64 (n4 : Nat), .int .u64 (n5 : Nat), .int .u64 (n6 : Nat), .int .u64 (n7 : Nat)] (by rfl) (by rfl) 33 #[.int .u64 0, .int .u64 0, .int .u64 0, .int .u64 0, .int .u64 0, .int .u64 0, .int .u64 0, .int .u64 0] hZ (by kernel_rfl) rfl (by simp [Value.oneCell']) ?_
    refine hK.out _ _ ?_ (fun hHeldZ => ?_)
    · exact below_setRow hHeld3 (Nat.le_refl _) _
    clear hK K
    try simp only [Act.put]
    refine wpAnyH_take (i := 14) (oi := { dst := some 13, op := Go.Op.assign (Go.Operand.tmp 53), type := 4, pos := "law.go:39", after := #[{ on := 11, ground := Go.Ground.data }, { on := 13, ground := Go.Ground.chain }, { on := 0, ground := Go.Ground.phase }, { on := 1, ground := Go.Ground.phase }, { on := 2, ground := Go.Ground.phase }, { on := 3, ground := Go.Ground.phase }, { on := 4, ground := Go.Ground.phase }, { on := 5, ground := Go.Ground.phase }, { on := 6, ground := Go.Ground.phase }, { on := 7, ground := Go.Ground.phase }, { on := 8, ground := Go.Ground.phase }, { on := 9, ground := Go.Ground.phase }, { on := 10, ground := Go.Ground.phase }, { on := 11, ground := Go.Ground.phase }, { on := 12, ground := Go.Ground.phase }, { on := 13, ground := Go.Ground.phase }], guard := none }) (v := ?_) rfl (by kernel_rfl) (by kernel_rfl) (by kernel_rfl) (fun _ _ _ h => h) (Or.inl ⟨by rfl, ?_⟩) (by assumption) ?_
    rotate_left
    · (intro w hSw; (try dsimp only at hSw); go_simp <;> with_reducible rfl)
    try simp only [Act.put, List.setIfInBounds_toArray, List.set_cons_zero, List.set_cons_succ]
    refine wpAnyH_done (by kernel_rfl) ?_ _
    have hW6 : Below w.heap.size w (w5.setRow w4.heap.size #[.int .u64 (n0 : Nat), .int .u64 (n1 : Nat), .int .u64 (n2 : Nat), .int .u64 (n3 : Nat), .int .u64 (n4 : Nat), .int .u64 (n5 : Nat), .int .u64 (n6 : Nat), .int .u64 (n7 : Nat)]) := b4.trans (hHeldZ.mono b4.size)
    have y0 : (w5.setRow w4.heap.size #[.int .u64 (n0 : Nat), .int .u64 (n1 : Nat), .int .u64 (n2 : Nat), .int .u64 (n3 : Nat), .int .u64 (n4 : Nat), .int .u64 (n5 : Nat), .int .u64 (n6 : Nat), .int .u64 (n7 : Nat)]).cell? ⟨w.heap.size, 0, none⟩ = some (.int .u64 (n0 : Nat)) := by rw [hHeldZ.cell (by show w.heap.size < _; omega)]; exact y0
    have y1 : (w5.setRow w4.heap.size #[.int .u64 (n0 : Nat), .int .u64 (n1 : Nat), .int .u64 (n2 : Nat), .int .u64 (n3 : Nat), .int .u64 (n4 : Nat), .int .u64 (n5 : Nat), .int .u64 (n6 : Nat), .int .u64 (n7 : Nat)]).cell? ⟨w.heap.size, 1, none⟩ = some (.int .u64 (n1 : Nat)) := by rw [hHeldZ.cell (by show w.heap.size < _; omega)]; exact y1
    have y2 : (w5.setRow w4.heap.size #[.int .u64 (n0 : Nat), .int .u64 (n1 : Nat), .int .u64 (n2 : Nat), .int .u64 (n3 : Nat), .int .u64 (n4 : Nat), .int .u64 (n5 : Nat), .int .u64 (n6 : Nat), .int .u64 (n7 : Nat)]).cell? ⟨w.heap.size, 2, none⟩ = some (.int .u64 (n2 : Nat)) := by rw [hHeldZ.cell (by show w.heap.size < _; omega)]; exact y2
    have y3 : (w5.setRow w4.heap.size #[.int .u64 (n0 : Nat), .int .u64 (n1 : Nat), .int .u64 (n2 : Nat), .int .u64 (n3 : Nat), .int .u64 (n4 : Nat), .int .u64 (n5 : Nat), .int .u64 (n6 : Nat), .int .u64 (n7 : Nat)]).cell? ⟨w.heap.size, 3, none⟩ = some (.int .u64 (n3 : Nat)) := by rw [hHeldZ.cell (by show w.heap.size < _; omega)]; exact y3
    have y4 : (w5.setRow w4.heap.size #[.int .u64 (n0 : Nat), .int .u64 (n1 : Nat), .int .u64 (n2 : Nat), .int .u64 (n3 : Nat), .int .u64 (n4 : Nat), .int .u64 (n5 : Nat), .int .u64 (n6 : Nat), .int .u64 (n7 : Nat)]).cell? ⟨w.heap.size, 4, none⟩ = some (.int .u64 (n4 : Nat)) := by rw [hHeldZ.cell (by show w.heap.size < _; omega)]; exact y4
    have y5 : (w5.setRow w4.heap.size #[.int .u64 (n0 : Nat), .int .u64 (n1 : Nat), .int .u64 (n2 : Nat), .int .u64 (n3 : Nat), .int .u64 (n4 : Nat), .int .u64 (n5 : Nat), .int .u64 (n6 : Nat), .int .u64 (n7 : Nat)]).cell? ⟨w.heap.size, 5, none⟩ = some (.int .u64 (n5 : Nat)) := by rw [hHeldZ.cell (by show w.heap.size < _; omega)]; exact y5
    have y6 : (w5.setRow w4.heap.size #[.int .u64 (n0 : Nat), .int .u64 (n1 : Nat), .int .u64 (n2 : Nat), .int .u64 (n3 : Nat), .int .u64 (n4 : Nat), .int .u64 (n5 : Nat), .int .u64 (n6 : Nat), .int .u64 (n7 : Nat)]).cell? ⟨w.heap.size, 6, none⟩ = some (.int .u64 (n6 : Nat)) := by rw [hHeldZ.cell (by show w.heap.size < _; omega)]; exact y6
    have y7 : (w5.setRow w4.heap.size #[.int .u64 (n0 : Nat), .int .u64 (n1 : Nat), .int .u64 (n2 : Nat), .int .u64 (n3 : Nat), .int .u64 (n4 : Nat), .int .u64 (n5 : Nat), .int .u64 (n6 : Nat), .int .u64 (n7 : Nat)]).cell? ⟨w.heap.size, 7, none⟩ = some (.int .u64 (n7 : Nat)) := by rw [hHeldZ.cell (by show w.heap.size < _; omega)]; exact y7
    have c0 : (w5.setRow w4.heap.size #[.int .u64 (n0 : Nat), .int .u64 (n1 : Nat), .int .u64 (n2 : Nat), .int .u64 (n3 : Nat), .int .u64 (n4 : Nat), .int .u64 (n5 : Nat), .int .u64 (n6 : Nat), .int .u64 (n7 : Nat)]).cell? ⟨w4.heap.size, 0, none⟩ = some (.int .u64 (n0 : Nat)) := by rw [cell_setRow_same _ _ 0 #[.int .u64 0, .int .u64 0, .int .u64 0, .int .u64 0, .int .u64 0, .int .u64 0, .int .u64 0, .int .u64 0] _ 33 (0, 0) hZ]; rfl
    have c1 : (w5.setRow w4.heap.size #[.int .u64 (n0 : Nat), .int .u64 (n1 : Nat), .int .u64 (n2 : Nat), .int .u64 (n3 : Nat), .int .u64 (n4 : Nat), .int .u64 (n5 : Nat), .int .u64 (n6 : Nat), .int .u64 (n7 : Nat)]).cell? ⟨w4.heap.size, 1, none⟩ = some (.int .u64 (n1 : Nat)) := by rw [cell_setRow_same _ _ 1 #[.int .u64 0, .int .u64 0, .int .u64 0, .int .u64 0, .int .u64 0, .int .u64 0, .int .u64 0, .int .u64 0] _ 33 (0, 0) hZ]; rfl
    have c2 : (w5.setRow w4.heap.size #[.int .u64 (n0 : Nat), .int .u64 (n1 : Nat), .int .u64 (n2 : Nat), .int .u64 (n3 : Nat), .int .u64 (n4 : Nat), .int .u64 (n5 : Nat), .int .u64 (n6 : Nat), .int .u64 (n7 : Nat)]).cell? ⟨w4.heap.size, 2, none⟩ = some (.int .u64 (n2 : Nat)) := by rw [cell_setRow_same _ _ 2 #[.int .u64 0, .int .u64 0, .int .u64 0, .int .u64 0, .int .u64 0, .int .u64 0, .int .u64 0, .int .u64 0] _ 33 (0, 0) hZ]; rfl
    have c3 : (w5.setRow w4.heap.size #[.int .u64 (n0 : Nat), .int .u64 (n1 : Nat), .int .u64 (n2 : Nat), .int .u64 (n3 : Nat), .int .u64 (n4 : Nat), .int .u64 (n5 : Nat), .int .u64 (n6 : Nat), .int .u64 (n7 : Nat)]).cell? ⟨w4.heap.size, 3, none⟩ = some (.int .u64 (n3 : Nat)) := by rw [cell_setRow_same _ _ 3 #[.int .u64 0, .int .u64 0, .int .u64 0, .int .u64 0, .int .u64 0, .int .u64 0, .int .u64 0, .int .u64 0] _ 33 (0, 0) hZ]; rfl
    have c4 : (w5.setRow w4.heap.size #[.int .u64 (n0 : Nat), .int .u64 (n1 : Nat), .int .u64 (n2 : Nat), .int .u64 (n3 : Nat), .int .u64 (n4 : Nat), .int .u64 (n5 : Nat), .int .u64 (n6 : Nat), .int .u64 (n7 : Nat)]).cell? ⟨w4.heap.size, 4, none⟩ = some (.int .u64 (n4 : Nat)) := by rw [cell_setRow_same _ _ 4 #[.int .u64 0, .int .u64 0, .int .u64 0, .int .u64 0, .int .u64 0, .int .u64 0, .int .u64 0, .int .u64 0] _ 33 (0, 0) hZ]; rfl
    have c5 : (w5.setRow w4.heap.size #[.int .u64 (n0 : Nat), .int .u64 (n1 : Nat), .int .u64 (n2 : Nat), .int .u64 (n3 : Nat), .int .u64 (n4 : Nat), .int .u64 (n5 : Nat), .int .u64 (n6 : Nat), .int .u64 (n7 : Nat)]).cell? ⟨w4.heap.size, 5, none⟩ = some (.int .u64 (n5 : Nat)) := by rw [cell_setRow_same _ _ 5 #[.int .u64 0, .int .u64 0, .int .u64 0, .int .u64 0, .int .u64 0, .int .u64 0, .int .u64 0, .int .u64 0] _ 33 (0, 0) hZ]; rfl
    have c6 : (w5.setRow w4.heap.size #[.int .u64 (n0 : Nat), .int .u64 (n1 : Nat), .int .u64 (n2 : Nat), .int .u64 (n3 : Nat), .int .u64 (n4 : Nat), .int .u64 (n5 : Nat), .int .u64 (n6 : Nat), .int .u64 (n7 : Nat)]).cell? ⟨w4.heap.size, 6, none⟩ = some (.int .u64 (n6 : Nat)) := by rw [cell_setRow_same _ _ 6 #[.int .u64 0, .int .u64 0, .int .u64 0, .int .u64 0, .int .u64 0, .int .u64 0, .int .u64 0, .int .u64 0] _ 33 (0, 0) hZ]; rfl
    have c7 : (w5.setRow w4.heap.size #[.int .u64 (n0 : Nat), .int .u64 (n1 : Nat), .int .u64 (n2 : Nat), .int .u64 (n3 : Nat), .int .u64 (n4 : Nat), .int .u64 (n5 : Nat), .int .u64 (n6 : Nat), .int .u64 (n7 : Nat)]).cell? ⟨w4.heap.size, 7, none⟩ = some (.int .u64 (n7 : Nat)) := by rw [cell_setRow_same _ _ 7 #[.int .u64 0, .int .u64 0, .int .u64 0, .int .u64 0, .int .u64 0, .int .u64 0, .int .u64 0, .int .u64 0] _ 33 (0, 0) hZ]; rfl
    generalize (w5.setRow w4.heap.size #[.int .u64 (n0 : Nat), .int .u64 (n1 : Nat), .int .u64 (n2 : Nat), .int .u64 (n3 : Nat), .int .u64 (n4 : Nat), .int .u64 (n5 : Nat), .int .u64 (n6 : Nat), .int .u64 (n7 : Nat)]) = W6 at *
    clear hHeldZ hZ
    go_wp2
    go_ret
    exact ⟨by first | rfl | simp, hW6⟩
end Go.Proofs.Ytmbndepgkglaeaa
