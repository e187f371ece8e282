/- Contracts of raw's sectionTable and segmentTable. Conditions: those written in each theorem. -/
import Derived.Test.YtedocnidgiglaaaNF
import Derived.Test.YtedocnidgiglaaaSA
import Derived.Test.YtedocnidgiglaaaPA
namespace Go.Proofs.Ytedocnidgiglaaa
open Go.RowKit
set_option linter.unusedVariables false
set_option maxRecDepth 100000 in
set_option maxHeartbeats 1000000 in
theorem stable_any (big wide : Bool) (abi ver : Nat) (pad : ByteArray) (h0 h1 h2 h3 h4 h5 h6 h7 h8 h9 h10 h11 h12 : Nat) (vs vp : Value) (nm : Nat) (n : Nat) (w : World) : Calls Try.prog 63 #[.agg #[.bool big, .bool wide, .int .u8 (abi : Nat), .int .u8 (ver : Nat), .string pad, .int .u64 (h0 : Nat), .int .u64 (h1 : Nat), .int .u64 (h2 : Nat), .int .u64 (h3 : Nat), .int .u64 (h4 : Nat), .int .u64 (h5 : Nat), .int .u64 (h6 : Nat), .int .u64 (h7 : Nat), .int .u64 (h8 : Nat), .int .u64 (h9 : Nat), .int .u64 (h10 : Nat), .int .u64 (h11 : Nat), .int .u64 (h12 : Nat), vs, vp, .int .u64 (nm : Nat)], .int .u64 (n : Nat)] w fun e w' => e = .returned (.agg #[.int .u64 (h5 : Nat), .int .u64 (n : Nat), .int .u64 (sLen wide : Nat)]) ∧ Below w.heap.size w w' := by
  have k0 : IntKind.u64.wrap ((sLen wide : Nat) : Int) = ((sLen wide : Nat) : Int) := by rw [IntKind.wrap_u64]; cases wide <;> rfl
  go_enter Try.func63, Try.ntmps63
  go_upto_region 1 with (fail)
  have hbx : ((w.alloc (.cells #[.bool big, .bool wide, .int .u8 (abi : Nat), .int .u8 (ver : Nat), .string pad, .int .u64 (h0 : Nat), .int .u64 (h1 : Nat), .int .u64 (h2 : Nat), .int .u64 (h3 : Nat), .int .u64 (h4 : Nat), .int .u64 (h5 : Nat), .int .u64 (h6 : Nat), .int .u64 (h7 : Nat), .int .u64 (h8 : Nat), .int .u64 (h9 : Nat), .int .u64 (h10 : Nat), .int .u64 (h11 : Nat), .int .u64 (h12 : Nat), vs, vp, .int .u64 (nm : Nat)] 42)).alloc (.cells #[.int .u64 0, .int .u64 0, .int .u64 0] 148)).heap[w.heap.size]? = some (.cells #[.bool big, .bool wide, .int .u8 (abi : Nat), .int .u8 (ver : Nat), .string pad, .int .u64 (h0 : Nat), .int .u64 (h1 : Nat), .int .u64 (h2 : Nat), .int .u64 (h3 : Nat), .int .u64 (h4 : Nat), .int .u64 (h5 : Nat), .int .u64 (h6 : Nat), .int .u64 (h7 : Nat), .int .u64 (h8 : Nat), .int .u64 (h9 : Nat), .int .u64 (h10 : Nat), .int .u64 (h11 : Nat), .int .u64 (h12 : Nat), vs, vp, .int .u64 (nm : Nat)] 42 (0, 0)) := heap_up _ (heap_alloc_new w _)
  have hrb : ((w.alloc (.cells #[.bool big, .bool wide, .int .u8 (abi : Nat), .int .u8 (ver : Nat), .string pad, .int .u64 (h0 : Nat), .int .u64 (h1 : Nat), .int .u64 (h2 : Nat), .int .u64 (h3 : Nat), .int .u64 (h4 : Nat), .int .u64 (h5 : Nat), .int .u64 (h6 : Nat), .int .u64 (h7 : Nat), .int .u64 (h8 : Nat), .int .u64 (h9 : Nat), .int .u64 (h10 : Nat), .int .u64 (h11 : Nat), .int .u64 (h12 : Nat), vs, vp, .int .u64 (nm : Nat)] 42)).alloc (.cells #[.int .u64 0, .int .u64 0, .int .u64 0] 148)).heap[w.heap.size + 1]? = some (.cells #[.int .u64 0, .int .u64 0, .int .u64 0] 148 (0, 0)) := by
    have q := heap_alloc_new (w.alloc (.cells #[.bool big, .bool wide, .int .u8 (abi : Nat), .int .u8 (ver : Nat), .string pad, .int .u64 (h0 : Nat), .int .u64 (h1 : Nat), .int .u64 (h2 : Nat), .int .u64 (h3 : Nat), .int .u64 (h4 : Nat), .int .u64 (h5 : Nat), .int .u64 (h6 : Nat), .int .u64 (h7 : Nat), .int .u64 (h8 : Nat), .int .u64 (h9 : Nat), .int .u64 (h10 : Nat), .int .u64 (h11 : Nat), .int .u64 (h12 : Nat), vs, vp, .int .u64 (nm : Nat)] 42)) (.cells #[.int .u64 0, .int .u64 0, .int .u64 0] 148)
    simpa using q
  have hup : Below w.heap.size w ((w.alloc (.cells #[.bool big, .bool wide, .int .u8 (abi : Nat), .int .u8 (ver : Nat), .string pad, .int .u64 (h0 : Nat), .int .u64 (h1 : Nat), .int .u64 (h2 : Nat), .int .u64 (h3 : Nat), .int .u64 (h4 : Nat), .int .u64 (h5 : Nat), .int .u64 (h6 : Nat), .int .u64 (h7 : Nat), .int .u64 (h8 : Nat), .int .u64 (h9 : Nat), .int .u64 (h10 : Nat), .int .u64 (h11 : Nat), .int .u64 (h12 : Nat), vs, vp, .int .u64 (nm : Nat)] 42)).alloc (.cells #[.int .u64 0, .int .u64 0, .int .u64 0] 148)) := below_more (below_more (Below.refl _ _) _) _
  have hsz : ((w.alloc (.cells #[.bool big, .bool wide, .int .u8 (abi : Nat), .int .u8 (ver : Nat), .string pad, .int .u64 (h0 : Nat), .int .u64 (h1 : Nat), .int .u64 (h2 : Nat), .int .u64 (h3 : Nat), .int .u64 (h4 : Nat), .int .u64 (h5 : Nat), .int .u64 (h6 : Nat), .int .u64 (h7 : Nat), .int .u64 (h8 : Nat), .int .u64 (h9 : Nat), .int .u64 (h10 : Nat), .int .u64 (h11 : Nat), .int .u64 (h12 : Nat), vs, vp, .int .u64 (nm : Nat)] 42)).alloc (.cells #[.int .u64 0, .int .u64 0, .int .u64 0] 148)).heap.size = w.heap.size + 2 := by simp
  generalize ((w.alloc (.cells #[.bool big, .bool wide, .int .u8 (abi : Nat), .int .u8 (ver : Nat), .string pad, .int .u64 (h0 : Nat), .int .u64 (h1 : Nat), .int .u64 (h2 : Nat), .int .u64 (h3 : Nat), .int .u64 (h4 : Nat), .int .u64 (h5 : Nat), .int .u64 (h6 : Nat), .int .u64 (h7 : Nat), .int .u64 (h8 : Nat), .int .u64 (h9 : Nat), .int .u64 (h10 : Nat), .int .u64 (h11 : Nat), .int .u64 (h12 : Nat), vs, vp, .int .u64 (nm : Nat)] 42)).alloc (.cells #[.int .u64 0, .int .u64 0, .int .u64 0] 148)) = W at *
  have HRB := Lib.hid hrb
  have HUP : Hid (∀ u, Below (w.heap.size + 1) W u → Below w.heap.size w u) := Lib.hid (fun u h => hup.trans (h.mono (by omega)))
  have hbl : w.heap.size < w.heap.size + 1 := by omega
  have X0 : Hid (∀ u, Below (w.heap.size + 1) W u → u.cell? ⟨w.heap.size, 10, none⟩ = some (.int .u64 (h5 : Nat))) := Lib.hid (fun u hu => by rw [Lib.cell_of_heap (heap_low' hbx hu hbl)]; rfl)
  have X1 : Hid (∀ u, Below (w.heap.size + 1) W u → u.cell? ⟨w.heap.size, 0, none⟩ = some (.bool big)) := Lib.hid (fun u hu => by rw [Lib.cell_of_heap (heap_low' hbx hu hbl)]; rfl)
  have X2 : Hid (∀ u, Below (w.heap.size + 1) W u → u.cell? ⟨w.heap.size, 1, none⟩ = some (.bool wide)) := Lib.hid (fun u hu => by rw [Lib.cell_of_heap (heap_low' hbx hu hbl)]; rfl)
  have hBW : w.heap.size + 1 ≤ W.heap.size := by omega
  clear hrb hup hbx hsz
  have hBB : w.heap.size + 1 ≤ w.heap.size + 1 := Nat.le_refl _
  generalize hBe : w.heap.size + 1 = B at *
  clear hBe
  refine wp_region_held_drew (S := fun w' => Below B W w') (by kernel_rfl) ?_ (fun hHeld => ?_)
  · exact (Below.refl _ _).drew
  have HRB0 : Hid (W.drew.heap[B]? = some (.cells #[.int .u64 0, .int .u64 0, .int .u64 0] 148 (0, 0))) := HRB
  generalize W.drew = W0 at *
  refine wpAnyH_take (i := 0) (oi := ⟨some 5, .fieldAddr 42 (.tmp 2) 1, 0, "table.go:14", #[], none⟩) (v := ?_) rfl (by kernel_rfl) (by kernel_rfl) (by kernel_rfl) (fun _ _ _ h => h) (Or.inl ⟨by rfl, ?_⟩) (by assumption) ?_
  rotate_left
  · (intro w hSw; (try dsimp only at hSw); go_simp <;> with_reducible rfl)
  try simp only [Act.put, List.setIfInBounds_toArray, List.set_cons_zero, List.set_cons_succ]
  refine wpAnyH_take (i := 3) (oi := ⟨some 8, .move (.tmp 1), 29, "table.go:14", #[], none⟩) (v := ?_) rfl (by kernel_rfl) (by kernel_rfl) (by kernel_rfl) (fun _ _ _ h => h) (Or.inl ⟨by rfl, ?_⟩) (by assumption) ?_
  rotate_left
  · (intro w hSw; (try dsimp only at hSw); go_simp <;> with_reducible rfl)
  try simp only [Act.put, List.setIfInBounds_toArray, List.set_cons_zero, List.set_cons_succ]
  refine wpAnyH_take (i := 4) (oi := ⟨some 9, .fieldAddr 42 (.tmp 2) 0, 0, "table.go:14", #[], none⟩) (v := ?_) rfl (by kernel_rfl) (by kernel_rfl) (by kernel_rfl) (fun _ _ _ h => h) (Or.inl ⟨by rfl, ?_⟩) (by assumption) ?_
  rotate_left
  · (intro w hSw; (try dsimp only at hSw); go_simp <;> with_reducible rfl)
  try simp only [Act.put, List.setIfInBounds_toArray, List.set_cons_zero, List.set_cons_succ]
  refine wpAnyH_take (i := 1) (oi := ⟨some 6, .fieldAddr 38 (.tmp 5) 5, 0, "table.go:14", #[⟨0, .data⟩], none⟩) (v := ?_) rfl (by kernel_rfl) (by kernel_rfl) (by kernel_rfl) (fun _ _ _ h => h) (Or.inl ⟨by rfl, ?_⟩) (by assumption) ?_
  rotate_left
  · (intro w hSw; (try dsimp only at hSw); go_simp <;> with_reducible rfl)
  try simp only [Act.put, List.setIfInBounds_toArray, List.set_cons_zero, List.set_cons_succ]
  refine wpAnyH_take (i := 5) (oi := ⟨some 10, .fieldAddr 36 (.tmp 9) 0, 0, "table.go:14", #[⟨4, .data⟩], none⟩) (v := ?_) rfl (by kernel_rfl) (by kernel_rfl) (by kernel_rfl) (fun _ _ _ h => h) (Or.inl ⟨by rfl, ?_⟩) (by assumption) ?_
  rotate_left
  · (intro w hSw; (try dsimp only at hSw); go_simp <;> with_reducible rfl)
  try simp only [Act.put, List.setIfInBounds_toArray, List.set_cons_zero, List.set_cons_succ]
  refine wpAnyH_take (i := 2) (oi := ⟨some 7, .load 29 (.tmp 6), 29, "table.go:14", #[⟨1, .data⟩], none⟩) (v := ?_) rfl (by kernel_rfl) (by kernel_rfl) (by kernel_rfl) (fun _ _ _ h => h) (Or.inl ⟨by rfl, ?_⟩) (by assumption) ?_
  rotate_left
  · (intro w hSw; have q0 := X0.out w hSw; (try dsimp only at hSw); go_simp <;> with_reducible rfl)
  try simp only [Act.put, List.setIfInBounds_toArray, List.set_cons_zero, List.set_cons_succ]
  refine wpAnyH_take (i := 6) (oi := ⟨some 11, .load 34 (.tmp 10), 34, "table.go:14", #[⟨5, .data⟩], none⟩) (v := ?_) rfl (by kernel_rfl) (by kernel_rfl) (by kernel_rfl) (fun _ _ _ h => h) (Or.inl ⟨by rfl, ?_⟩) (by assumption) ?_
  rotate_left
  · (intro w hSw; have q0 := X1.out w hSw; have q1 := X2.out w hSw; (try dsimp only at hSw); go_simp <;> with_reducible rfl)
  try simp only [Act.put, List.setIfInBounds_toArray, List.set_cons_zero, List.set_cons_succ]
  refine wpAnyH_ready (rs := [7]) (by kernel_rfl) (by simp) ?_
  refine AllReadyH.cons (o := ⟨some 12, .call { callee := .value (.func 99), args := #[.tmp 11], argTypes := #[34] }, 3, "table.go:14", #[⟨6, .data⟩], none⟩) rfl (fun K hK => ?_) AllReadyH.nil
  (first | go_at_call 99 | (go_simp; go_at_call 99))
  refine (ssize big wide _).mono ?_
  rintro e w3 ⟨rfl, h3⟩
  try go_wp2_with fail
  refine hK.out _ _ ?_ (fun hHeld2 => ?_)
  · exact hHeld.trans (h3.mono (Nat.le_trans hBW hHeld.size))
  clear hK K
  try simp only [Act.put, List.setIfInBounds_toArray, List.set_cons_zero, List.set_cons_succ]
  refine wpAnyH_take (i := 8) (oi := ⟨some 13, .convert 3 29 (.tmp 12), 29, "table.go:14", #[⟨7, .data⟩], none⟩) (v := ?_) rfl (by kernel_rfl) (by kernel_rfl) (by kernel_rfl) (fun _ _ _ h => h) (Or.inl ⟨by rfl, ?_⟩) (by assumption) ?_
  rotate_left
  · (intro w hSw; (try dsimp only at hSw); go_simp <;> with_reducible rfl)
  try simp only [Act.put, List.setIfInBounds_toArray, List.set_cons_zero, List.set_cons_succ]
  refine wpAnyH_take (i := 9) (oi := ⟨some 14, .build 148 #[(0, .tmp 7), (1, .tmp 8), (2, .tmp 13)], 148, "table.go:14", #[⟨2, .data⟩, ⟨3, .data⟩, ⟨8, .data⟩], none⟩) (v := ?_) rfl (by kernel_rfl) (by kernel_rfl) (by kernel_rfl) (fun _ _ _ h => h) (Or.inl ⟨by rfl, ?_⟩) (by assumption) ?_
  rotate_left
  · (intro w hSw; (try dsimp only at hSw); go_simp <;> with_reducible rfl)
  try simp only [Act.put, List.setIfInBounds_toArray, List.set_cons_zero, List.set_cons_succ]
  refine wpAnyH_ready (rs := [10]) (by kernel_rfl) (by simp) ?_
  refine AllReadyH.cons (o := ⟨none, .store 148 (.tmp 4) (.tmp 14), 0, "table.go:14", #[⟨9, .data⟩, ⟨7, .chain⟩, ⟨0, .phase⟩, ⟨1, .phase⟩, ⟨2, .phase⟩, ⟨3, .phase⟩, ⟨4, .phase⟩, ⟨5, .phase⟩, ⟨6, .phase⟩, ⟨7, .phase⟩, ⟨8, .phase⟩, ⟨9, .phase⟩], none⟩) rfl (fun K hK => ?_) AllReadyH.nil
  have HR3 : Hid (w3.heap[B]? = some (.cells #[.int .u64 0, .int .u64 0, .int .u64 0] 148 (0, 0))) := Lib.hid (heap_low HRB0.out h3)
  refine wp_store_row 148 _ _ rfl B #[.int .u64 (h5 : Nat), .int .u64 (n : Nat), .int .u64 (sLen wide : Nat)] (by rfl) (by rfl) 148 #[.int .u64 0, .int .u64 0, .int .u64 0] HR3.out (by kernel_rfl) rfl (by simp [Value.oneCell']) ?_
  refine hK.out _ _ ?_ (fun hHeld3_7 => ?_)
  · exact setRow_below hHeld2 hBB _
  clear hK K
  try simp only [Act.put]
  refine wpAnyH_done (by kernel_rfl) ?_ _
  have hz := setRow_heap' w3 B _ #[.int .u64 (h5 : Nat), .int .u64 (n : Nat), .int .u64 (sLen wide : Nat)] 148 (0, 0) HR3.out
  have hb := HUP.out _ hHeld3_7
  clear hHeld3_7
  generalize w3.setRow B #[.int .u64 (h5 : Nat), .int .u64 (n : Nat), .int .u64 (sLen wide : Nat)] = w5 at *
  have c0 : w5.cell? ⟨B, 0, none⟩ = some (.int .u64 (h5 : Nat)) := by rw [Lib.cell_of_heap hz]; rfl
  have c1 : w5.cell? ⟨B, 1, none⟩ = some (.int .u64 (n : Nat)) := by rw [Lib.cell_of_heap hz]; rfl
  have c2 : w5.cell? ⟨B, 2, none⟩ = some (.int .u64 (sLen wide : Nat)) := by rw [Lib.cell_of_heap hz]; rfl
  go_wp2
  exact bodyPost_ret (v := .agg #[.int .u64 (h5 : Nat), .int .u64 (n : Nat), .int .u64 (sLen wide : Nat)]) (by simp [results, Try.results63, go_sem, c0, c1, c2]) rfl ⟨rfl, hb⟩
theorem psize_any (big wide : Bool) (w : World) : Calls Try.prog 100 #[.agg #[.bool big, .bool wide]] w fun e w' => e = .returned (.int .i64 (phs wide : Int)) ∧ Below w.heap.size w w' := by
  cases wide
  · exact pfsize big w
  · exact ptsize big w
set_option maxRecDepth 100000 in
set_option maxHeartbeats 1000000 in
theorem ptable_any (big wide : Bool) (abi ver : Nat) (pad : ByteArray) (h0 h1 h2 h3 h4 h5 h6 h7 h8 h9 h10 h11 h12 : Nat) (vs vp : Value) (nm : Nat) (n : Nat) (w : World) : Calls Try.prog 65 #[.agg #[.bool big, .bool wide, .int .u8 (abi : Nat), .int .u8 (ver : Nat), .string pad, .int .u64 (h0 : Nat), .int .u64 (h1 : Nat), .int .u64 (h2 : Nat), .int .u64 (h3 : Nat), .int .u64 (h4 : Nat), .int .u64 (h5 : Nat), .int .u64 (h6 : Nat), .int .u64 (h7 : Nat), .int .u64 (h8 : Nat), .int .u64 (h9 : Nat), .int .u64 (h10 : Nat), .int .u64 (h11 : Nat), .int .u64 (h12 : Nat), vs, vp, .int .u64 (nm : Nat)], .int .u64 (n : Nat)] w fun e w' => e = .returned (.agg #[.int .u64 (h4 : Nat), .int .u64 (n : Nat), .int .u64 (phs wide : Nat)]) ∧ Below w.heap.size w w' := by
  have k0 : IntKind.u64.wrap ((phs wide : Nat) : Int) = ((phs wide : Nat) : Int) := by rw [IntKind.wrap_u64]; cases wide <;> rfl
  go_enter Try.func65, Try.ntmps65
  go_upto_region 1 with (fail)
  have hbx : ((w.alloc (.cells #[.bool big, .bool wide, .int .u8 (abi : Nat), .int .u8 (ver : Nat), .string pad, .int .u64 (h0 : Nat), .int .u64 (h1 : Nat), .int .u64 (h2 : Nat), .int .u64 (h3 : Nat), .int .u64 (h4 : Nat), .int .u64 (h5 : Nat), .int .u64 (h6 : Nat), .int .u64 (h7 : Nat), .int .u64 (h8 : Nat), .int .u64 (h9 : Nat), .int .u64 (h10 : Nat), .int .u64 (h11 : Nat), .int .u64 (h12 : Nat), vs, vp, .int .u64 (nm : Nat)] 42)).alloc (.cells #[.int .u64 0, .int .u64 0, .int .u64 0] 148)).heap[w.heap.size]? = some (.cells #[.bool big, .bool wide, .int .u8 (abi : Nat), .int .u8 (ver : Nat), .string pad, .int .u64 (h0 : Nat), .int .u64 (h1 : Nat), .int .u64 (h2 : Nat), .int .u64 (h3 : Nat), .int .u64 (h4 : Nat), .int .u64 (h5 : Nat), .int .u64 (h6 : Nat), .int .u64 (h7 : Nat), .int .u64 (h8 : Nat), .int .u64 (h9 : Nat), .int .u64 (h10 : Nat), .int .u64 (h11 : Nat), .int .u64 (h12 : Nat), vs, vp, .int .u64 (nm : Nat)] 42 (0, 0)) := heap_up _ (heap_alloc_new w _)
  have hrb : ((w.alloc (.cells #[.bool big, .bool wide, .int .u8 (abi : Nat), .int .u8 (ver : Nat), .string pad, .int .u64 (h0 : Nat), .int .u64 (h1 : Nat), .int .u64 (h2 : Nat), .int .u64 (h3 : Nat), .int .u64 (h4 : Nat), .int .u64 (h5 : Nat), .int .u64 (h6 : Nat), .int .u64 (h7 : Nat), .int .u64 (h8 : Nat), .int .u64 (h9 : Nat), .int .u64 (h10 : Nat), .int .u64 (h11 : Nat), .int .u64 (h12 : Nat), vs, vp, .int .u64 (nm : Nat)] 42)).alloc (.cells #[.int .u64 0, .int .u64 0, .int .u64 0] 148)).heap[w.heap.size + 1]? = some (.cells #[.int .u64 0, .int .u64 0, .int .u64 0] 148 (0, 0)) := by
    have q := heap_alloc_new (w.alloc (.cells #[.bool big, .bool wide, .int .u8 (abi : Nat), .int .u8 (ver : Nat), .string pad, .int .u64 (h0 : Nat), .int .u64 (h1 : Nat), .int .u64 (h2 : Nat), .int .u64 (h3 : Nat), .int .u64 (h4 : Nat), .int .u64 (h5 : Nat), .int .u64 (h6 : Nat), .int .u64 (h7 : Nat), .int .u64 (h8 : Nat), .int .u64 (h9 : Nat), .int .u64 (h10 : Nat), .int .u64 (h11 : Nat), .int .u64 (h12 : Nat), vs, vp, .int .u64 (nm : Nat)] 42)) (.cells #[.int .u64 0, .int .u64 0, .int .u64 0] 148)
    simpa using q
  have hup : Below w.heap.size w ((w.alloc (.cells #[.bool big, .bool wide, .int .u8 (abi : Nat), .int .u8 (ver : Nat), .string pad, .int .u64 (h0 : Nat), .int .u64 (h1 : Nat), .int .u64 (h2 : Nat), .int .u64 (h3 : Nat), .int .u64 (h4 : Nat), .int .u64 (h5 : Nat), .int .u64 (h6 : Nat), .int .u64 (h7 : Nat), .int .u64 (h8 : Nat), .int .u64 (h9 : Nat), .int .u64 (h10 : Nat), .int .u64 (h11 : Nat), .int .u64 (h12 : Nat), vs, vp, .int .u64 (nm : Nat)] 42)).alloc (.cells #[.int .u64 0, .int .u64 0, .int .u64 0] 148)) := below_more (below_more (Below.refl _ _) _) _
  have hsz : ((w.alloc (.cells #[.bool big, .bool wide, .int .u8 (abi : Nat), .int .u8 (ver : Nat), .string pad, .int .u64 (h0 : Nat), .int .u64 (h1 : Nat), .int .u64 (h2 : Nat), .int .u64 (h3 : Nat), .int .u64 (h4 : Nat), .int .u64 (h5 : Nat), .int .u64 (h6 : Nat), .int .u64 (h7 : Nat), .int .u64 (h8 : Nat), .int .u64 (h9 : Nat), .int .u64 (h10 : Nat), .int .u64 (h11 : Nat), .int .u64 (h12 : Nat), vs, vp, .int .u64 (nm : Nat)] 42)).alloc (.cells #[.int .u64 0, .int .u64 0, .int .u64 0] 148)).heap.size = w.heap.size + 2 := by simp
  generalize ((w.alloc (.cells #[.bool big, .bool wide, .int .u8 (abi : Nat), .int .u8 (ver : Nat), .string pad, .int .u64 (h0 : Nat), .int .u64 (h1 : Nat), .int .u64 (h2 : Nat), .int .u64 (h3 : Nat), .int .u64 (h4 : Nat), .int .u64 (h5 : Nat), .int .u64 (h6 : Nat), .int .u64 (h7 : Nat), .int .u64 (h8 : Nat), .int .u64 (h9 : Nat), .int .u64 (h10 : Nat), .int .u64 (h11 : Nat), .int .u64 (h12 : Nat), vs, vp, .int .u64 (nm : Nat)] 42)).alloc (.cells #[.int .u64 0, .int .u64 0, .int .u64 0] 148)) = W at *
  have HRB := Lib.hid hrb
  have HUP : Hid (∀ u, Below (w.heap.size + 1) W u → Below w.heap.size w u) := Lib.hid (fun u h => hup.trans (h.mono (by omega)))
  have hbl : w.heap.size < w.heap.size + 1 := by omega
  have X0 : Hid (∀ u, Below (w.heap.size + 1) W u → u.cell? ⟨w.heap.size, 9, none⟩ = some (.int .u64 (h4 : Nat))) := Lib.hid (fun u hu => by rw [Lib.cell_of_heap (heap_low' hbx hu hbl)]; rfl)
  have X1 : Hid (∀ u, Below (w.heap.size + 1) W u → u.cell? ⟨w.heap.size, 0, none⟩ = some (.bool big)) := Lib.hid (fun u hu => by rw [Lib.cell_of_heap (heap_low' hbx hu hbl)]; rfl)
  have X2 : Hid (∀ u, Below (w.heap.size + 1) W u → u.cell? ⟨w.heap.size, 1, none⟩ = some (.bool wide)) := Lib.hid (fun u hu => by rw [Lib.cell_of_heap (heap_low' hbx hu hbl)]; rfl)
  have hBW : w.heap.size + 1 ≤ W.heap.size := by omega
  clear hrb hup hbx hsz
  have hBB : w.heap.size + 1 ≤ w.heap.size + 1 := Nat.le_refl _
  generalize hBe : w.heap.size + 1 = B at *
  clear hBe
  refine wp_region_held_drew (S := fun w' => Below B W w') (by kernel_rfl) ?_ (fun hHeld => ?_)
  · exact (Below.refl _ _).drew
  have HRB0 : Hid (W.drew.heap[B]? = some (.cells #[.int .u64 0, .int .u64 0, .int .u64 0] 148 (0, 0))) := HRB
  generalize W.drew = W0 at *
  refine wpAnyH_take (i := 0) (oi := ⟨some 5, .fieldAddr 42 (.tmp 2) 1, 0, "table.go:18", #[], none⟩) (v := ?_) rfl (by kernel_rfl) (by kernel_rfl) (by kernel_rfl) (fun _ _ _ h => h) (Or.inl ⟨by rfl, ?_⟩) (by assumption) ?_
  rotate_left
  · (intro w hSw; (try dsimp only at hSw); go_simp <;> with_reducible rfl)
  try simp only [Act.put, List.setIfInBounds_toArray, List.set_cons_zero, List.set_cons_succ]
  refine wpAnyH_take (i := 3) (oi := ⟨some 8, .move (.tmp 1), 29, "table.go:18", #[], none⟩) (v := ?_) rfl (by kernel_rfl) (by kernel_rfl) (by kernel_rfl) (fun _ _ _ h => h) (Or.inl ⟨by rfl, ?_⟩) (by assumption) ?_
  rotate_left
  · (intro w hSw; (try dsimp only at hSw); go_simp <;> with_reducible rfl)
  try simp only [Act.put, List.setIfInBounds_toArray, List.set_cons_zero, List.set_cons_succ]
  refine wpAnyH_take (i := 4) (oi := ⟨some 9, .fieldAddr 42 (.tmp 2) 0, 0, "table.go:18", #[], none⟩) (v := ?_) rfl (by kernel_rfl) (by kernel_rfl) (by kernel_rfl) (fun _ _ _ h => h) (Or.inl ⟨by rfl, ?_⟩) (by assumption) ?_
  rotate_left
  · (intro w hSw; (try dsimp only at hSw); go_simp <;> with_reducible rfl)
  try simp only [Act.put, List.setIfInBounds_toArray, List.set_cons_zero, List.set_cons_succ]
  refine wpAnyH_take (i := 1) (oi := ⟨some 6, .fieldAddr 38 (.tmp 5) 4, 0, "table.go:18", #[⟨0, .data⟩], none⟩) (v := ?_) rfl (by kernel_rfl) (by kernel_rfl) (by kernel_rfl) (fun _ _ _ h => h) (Or.inl ⟨by rfl, ?_⟩) (by assumption) ?_
  rotate_left
  · (intro w hSw; (try dsimp only at hSw); go_simp <;> with_reducible rfl)
  try simp only [Act.put, List.setIfInBounds_toArray, List.set_cons_zero, List.set_cons_succ]
  refine wpAnyH_take (i := 5) (oi := ⟨some 10, .fieldAddr 36 (.tmp 9) 0, 0, "table.go:18", #[⟨4, .data⟩], none⟩) (v := ?_) rfl (by kernel_rfl) (by kernel_rfl) (by kernel_rfl) (fun _ _ _ h => h) (Or.inl ⟨by rfl, ?_⟩) (by assumption) ?_
  rotate_left
  · (intro w hSw; (try dsimp only at hSw); go_simp <;> with_reducible rfl)
  try simp only [Act.put, List.setIfInBounds_toArray, List.set_cons_zero, List.set_cons_succ]
  refine wpAnyH_take (i := 2) (oi := ⟨some 7, .load 29 (.tmp 6), 29, "table.go:18", #[⟨1, .data⟩], none⟩) (v := ?_) rfl (by kernel_rfl) (by kernel_rfl) (by kernel_rfl) (fun _ _ _ h => h) (Or.inl ⟨by rfl, ?_⟩) (by assumption) ?_
  rotate_left
  · (intro w hSw; have q0 := X0.out w hSw; (try dsimp only at hSw); go_simp <;> with_reducible rfl)
  try simp only [Act.put, List.setIfInBounds_toArray, List.set_cons_zero, List.set_cons_succ]
  refine wpAnyH_take (i := 6) (oi := ⟨some 11, .load 34 (.tmp 10), 34, "table.go:18", #[⟨5, .data⟩], none⟩) (v := ?_) rfl (by kernel_rfl) (by kernel_rfl) (by kernel_rfl) (fun _ _ _ h => h) (Or.inl ⟨by rfl, ?_⟩) (by assumption) ?_
  rotate_left
  · (intro w hSw; have q0 := X1.out w hSw; have q1 := X2.out w hSw; (try dsimp only at hSw); go_simp <;> with_reducible rfl)
  try simp only [Act.put, List.setIfInBounds_toArray, List.set_cons_zero, List.set_cons_succ]
  refine wpAnyH_ready (rs := [7]) (by kernel_rfl) (by simp) ?_
  refine AllReadyH.cons (o := ⟨some 12, .call { callee := .value (.func 100), args := #[.tmp 11], argTypes := #[34] }, 3, "table.go:18", #[⟨6, .data⟩], none⟩) rfl (fun K hK => ?_) AllReadyH.nil
  (first | go_at_call 100 | (go_simp; go_at_call 100))
  refine (psize_any big wide _).mono ?_
  rintro e w3 ⟨rfl, h3⟩
  try go_wp2_with fail
  refine hK.out _ _ ?_ (fun hHeld2 => ?_)
  · exact hHeld.trans (h3.mono (Nat.le_trans hBW hHeld.size))
  clear hK K
  try simp only [Act.put, List.setIfInBounds_toArray, List.set_cons_zero, List.set_cons_succ]
  refine wpAnyH_take (i := 8) (oi := ⟨some 13, .convert 3 29 (.tmp 12), 29, "table.go:18", #[⟨7, .data⟩], none⟩) (v := ?_) rfl (by kernel_rfl) (by kernel_rfl) (by kernel_rfl) (fun _ _ _ h => h) (Or.inl ⟨by rfl, ?_⟩) (by assumption) ?_
  rotate_left
  · (intro w hSw; (try dsimp only at hSw); go_simp <;> with_reducible rfl)
  try simp only [Act.put, List.setIfInBounds_toArray, List.set_cons_zero, List.set_cons_succ]
  refine wpAnyH_take (i := 9) (oi := ⟨some 14, .build 148 #[(0, .tmp 7), (1, .tmp 8), (2, .tmp 13)], 148, "table.go:18", #[⟨2, .data⟩, ⟨3, .data⟩, ⟨8, .data⟩], none⟩) (v := ?_) rfl (by kernel_rfl) (by kernel_rfl) (by kernel_rfl) (fun _ _ _ h => h) (Or.inl ⟨by rfl, ?_⟩) (by assumption) ?_
  rotate_left
  · (intro w hSw; (try dsimp only at hSw); go_simp <;> with_reducible rfl)
  try simp only [Act.put, List.setIfInBounds_toArray, List.set_cons_zero, List.set_cons_succ]
  refine wpAnyH_ready (rs := [10]) (by kernel_rfl) (by simp) ?_
  refine AllReadyH.cons (o := ⟨none, .store 148 (.tmp 4) (.tmp 14), 0, "table.go:18", #[⟨9, .data⟩, ⟨7, .chain⟩, ⟨0, .phase⟩, ⟨1, .phase⟩, ⟨2, .phase⟩, ⟨3, .phase⟩, ⟨4, .phase⟩, ⟨5, .phase⟩, ⟨6, .phase⟩, ⟨7, .phase⟩, ⟨8, .phase⟩, ⟨9, .phase⟩], none⟩) rfl (fun K hK => ?_) AllReadyH.nil
  have HR3 : Hid (w3.heap[B]? = some (.cells #[.int .u64 0, .int .u64 0, .int .u64 0] 148 (0, 0))) := Lib.hid (heap_low HRB0.out h3)
  refine wp_store_row 148 _ _ rfl B #[.int .u64 (h4 : Nat), .int .u64 (n : Nat), .int .u64 (phs wide : Nat)] (by rfl) (by rfl) 148 #[.int .u64 0, .int .u64 0, .int .u64 0] HR3.out (by kernel_rfl) rfl (by simp [Value.oneCell']) ?_
  refine hK.out _ _ ?_ (fun hHeld3_7 => ?_)
  · exact setRow_below hHeld2 hBB _
  clear hK K
  try simp only [Act.put]
  refine wpAnyH_done (by kernel_rfl) ?_ _
  have hz := setRow_heap' w3 B _ #[.int .u64 (h4 : Nat), .int .u64 (n : Nat), .int .u64 (phs wide : Nat)] 148 (0, 0) HR3.out
  have hb := HUP.out _ hHeld3_7
  clear hHeld3_7
  generalize w3.setRow B #[.int .u64 (h4 : Nat), .int .u64 (n : Nat), .int .u64 (phs wide : Nat)] = w5 at *
  have c0 : w5.cell? ⟨B, 0, none⟩ = some (.int .u64 (h4 : Nat)) := by rw [Lib.cell_of_heap hz]; rfl
  have c1 : w5.cell? ⟨B, 1, none⟩ = some (.int .u64 (n : Nat)) := by rw [Lib.cell_of_heap hz]; rfl
  have c2 : w5.cell? ⟨B, 2, none⟩ = some (.int .u64 (phs wide : Nat)) := by rw [Lib.cell_of_heap hz]; rfl
  go_wp2
  exact bodyPost_ret (v := .agg #[.int .u64 (h4 : Nat), .int .u64 (n : Nat), .int .u64 (phs wide : Nat)]) (by simp [results, Try.results65, go_sem, c0, c1, c2]) rfl ⟨rfl, hb⟩
end Go.Proofs.Ytedocnidgiglaaa
