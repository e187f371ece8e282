/- The contract of names' Sections. Conditions: those written in each theorem. -/
import Derived.Test.YtedocnidgiglaaaTH
import Derived.Test.YtedocnidgiglaaaJD
namespace Go.Proofs.Ytedocnidgiglaaa
open Go.RowKit
set_option linter.unusedVariables false
set_option maxRecDepth 1000000 in
set_option maxHeartbeats 2000000 in
theorem ireg3 (Q : Exit → Act → World → Prop) (c0 c3 c4 c5 c6 c7 c8 c9 c10 c11 c12 c13 c14 c15 c16 c17 c18 c19 c20 c21 c22 c23 c24 c25 c26 c27 c28 c29 c30 c31 c32 c33 c34 c35 c36 c37 c38 c39 c40 c41 c42 c43 c44 c45 c46 : Value) (big wide : Bool) (abi ver : Nat) (pad : ByteArray) (h0 h1 h2 h3 h4 h5 h6 h7 h8 h9 h10 h11 h12 : Nat) (As : Option Addr) (ns cs : Nat) (Ap : Option Addr) (np cp : Nat) (nm : Nat) (B : Nat) (s D : ByteArray) (E : Nat) (W : World) (hB : W.heap[B]? = some (.cells #[.bool big, .bool wide, .int .u8 (abi : Nat), .int .u8 (ver : Nat), .string pad, .int .u64 (h0 : Nat), .int .u64 (h1 : Nat), .int .u64 (h2 : Nat), .int .u64 (h3 : Nat), .int .u64 (h4 : Nat), .int .u64 (h5 : Nat), .int .u64 (h6 : Nat), .int .u64 (h7 : Nat), .int .u64 (h8 : Nat), .int .u64 (h9 : Nat), .int .u64 (h10 : Nat), .int .u64 (h11 : Nat), .int .u64 (h12 : Nat), .slice As ns cs, .slice Ap np cp, .int .u64 (nm : Nat)] 42 (0, 0))) (cn : W.cell? ⟨B, 20, none⟩ = some (.int .u64 (nm : Nat)))
    (HC : Hid (∀ u, Below W.heap.size W u → Calls Try.prog 32 #[.agg #[.bool big, .bool wide, .int .u8 (abi : Nat), .int .u8 (ver : Nat), .string pad, .int .u64 (h0 : Nat), .int .u64 (h1 : Nat), .int .u64 (h2 : Nat), .int .u64 (h3 : Nat), .int .u64 (h4 : Nat), .int .u64 (h5 : Nat), .int .u64 (h6 : Nat), .int .u64 (h7 : Nat), .int .u64 (h8 : Nat), .int .u64 (h9 : Nat), .int .u64 (h10 : Nat), .int .u64 (h11 : Nat), .int .u64 (h12 : Nat), .slice As ns cs, .slice Ap np cp, .int .u64 (nm : Nat)], .string s, .int .u64 (nm : Nat)] u fun e w' => e = .returned (.tuple #[.string D, .int .i64 (E : Nat)]) ∧ Below u.heap.size u w'))
    (hQ : ∀ (u14 u15 u16 u17 u18 u19 u20 u21 : Value) (w' : World), Below W.heap.size W w' → Q .normal ⟨#[c0, .string s, .pointer (some ⟨B, 0, none⟩), c3, c4, c5, .string D, .int .i64 (E : Nat), c8, c9, c10, c11, c12, c13, u14, u15, u16, u17, u18, u19, u20, u21, c22, c23, c24, c25, c26, c27, c28, c29, c30, c31, c32, c33, c34, c35, c36, c37, c38, c39, c40, c41, c42, c43, c44, c45, c46], []⟩ w') :
    (Code.region 3 #[{ dst := some 15, op := Go.Op.load 42 (Go.Operand.tmp 2), type := 42, pos := "names.go:30", after := #[], guard := none }, { dst := some 16, op := Go.Op.move (Go.Operand.tmp 1), type := 9, pos := "names.go:30", after := #[], guard := none }, { dst := some 17, op := Go.Op.fieldAddr 42 (Go.Operand.tmp 2) 4, type := 0, pos := "names.go:30", after := #[], guard := none }, { dst := some 18, op := Go.Op.load 29 (Go.Operand.tmp 17), type := 29, pos := "names.go:30", after := #[{ on := 2, ground := Go.Ground.data }], guard := none }, { dst := some 19, op := Go.Op.call { callee := Go.Callee.value (Go.Operand.func 32), args := #[Go.Operand.tmp 15, Go.Operand.tmp 16, Go.Operand.tmp 18], argTypes := #[42, 9, 29] }, type := 82, pos := "names.go:30", after := #[{ on := 0, ground := Go.Ground.data }, { on := 1, ground := Go.Ground.data }, { on := 3, ground := Go.Ground.data }], guard := none }, { dst := some 14, op := Go.Op.move (Go.Operand.tmp 19), type := 82, pos := "names.go:30", after := #[{ on := 4, ground := Go.Ground.data }], guard := none }, { dst := some 20, op := Go.Op.extract (Go.Operand.tmp 14) 0, type := 9, pos := "names.go:30", after := #[{ on := 5, ground := Go.Ground.data }], guard := none }, { dst := some 21, op := Go.Op.extract (Go.Operand.tmp 14) 1, type := 43, pos := "names.go:30", after := #[{ on := 5, ground := Go.Ground.data }, { on := 8, ground := Go.Ground.gcOnly Go.Departure.lateStores }], guard := none }, { dst := some 6, op := Go.Op.assign (Go.Operand.tmp 20), type := 9, pos := "names.go:30", after := #[{ on := 6, ground := Go.Ground.data }, { on := 4, ground := Go.Ground.chain }, { on := 0, ground := Go.Ground.phase }, { on := 1, ground := Go.Ground.phase }, { on := 2, ground := Go.Ground.phase }, { on := 3, ground := Go.Ground.phase }, { on := 4, ground := Go.Ground.phase }, { on := 5, ground := Go.Ground.phase }, { on := 6, ground := Go.Ground.phase }, { on := 7, ground := Go.Ground.textOnly Go.Departure.lateStores }], guard := none }, { dst := some 7, op := Go.Op.assign (Go.Operand.tmp 21), type := 43, pos := "names.go:30", after := #[{ on := 7, ground := Go.Ground.data }, { on := 8, ground := Go.Ground.chain }, { on := 0, ground := Go.Ground.phase }, { on := 1, ground := Go.Ground.phase }, { on := 2, ground := Go.Ground.phase }, { on := 3, ground := Go.Ground.phase }, { on := 4, ground := Go.Ground.phase }, { on := 5, ground := Go.Ground.phase }, { on := 6, ground := Go.Ground.phase }, { on := 7, ground := Go.Ground.phase }, { on := 8, ground := Go.Ground.phase }], guard := none }] false).wp Try.prog Q ⟨#[c0, .string s, .pointer (some ⟨B, 0, none⟩), c3, c4, c5, c6, c7, c8, c9, c10, c11, c12, c13, c14, c15, c16, c17, c18, c19, c20, c21, c22, c23, c24, c25, c26, c27, c28, c29, c30, c31, c32, c33, c34, c35, c36, c37, c38, c39, c40, c41, c42, c43, c44, c45, c46], []⟩ W := by
  try dsimp only at hQ ⊢
  have HQ := Lib.hid hQ; clear hQ
  refine wp_region_lit (l := [{ dst := some 15, op := Go.Op.load 42 (Go.Operand.tmp 2), type := 42, pos := "names.go:30", after := #[], guard := none }, { dst := some 16, op := Go.Op.move (Go.Operand.tmp 1), type := 9, pos := "names.go:30", after := #[], guard := none }, { dst := some 17, op := Go.Op.fieldAddr 42 (Go.Operand.tmp 2) 4, type := 0, pos := "names.go:30", after := #[], guard := none }, { dst := some 18, op := Go.Op.load 29 (Go.Operand.tmp 17), type := 29, pos := "names.go:30", after := #[{ on := 2, ground := Go.Ground.data }], guard := none }, { dst := some 19, op := Go.Op.call { callee := Go.Callee.value (Go.Operand.func 32), args := #[Go.Operand.tmp 15, Go.Operand.tmp 16, Go.Operand.tmp 18], argTypes := #[42, 9, 29] }, type := 82, pos := "names.go:30", after := #[{ on := 0, ground := Go.Ground.data }, { on := 1, ground := Go.Ground.data }, { on := 3, ground := Go.Ground.data }], guard := none }, { dst := some 14, op := Go.Op.move (Go.Operand.tmp 19), type := 82, pos := "names.go:30", after := #[{ on := 4, ground := Go.Ground.data }], guard := none }, { dst := some 20, op := Go.Op.extract (Go.Operand.tmp 14) 0, type := 9, pos := "names.go:30", after := #[{ on := 5, ground := Go.Ground.data }], guard := none }, { dst := some 21, op := Go.Op.extract (Go.Operand.tmp 14) 1, type := 43, pos := "names.go:30", after := #[{ on := 5, ground := Go.Ground.data }, { on := 8, ground := Go.Ground.gcOnly Go.Departure.lateStores }], guard := none }, { dst := some 6, op := Go.Op.assign (Go.Operand.tmp 20), type := 9, pos := "names.go:30", after := #[{ on := 6, ground := Go.Ground.data }, { on := 4, ground := Go.Ground.chain }, { on := 0, ground := Go.Ground.phase }, { on := 1, ground := Go.Ground.phase }, { on := 2, ground := Go.Ground.phase }, { on := 3, ground := Go.Ground.phase }, { on := 4, ground := Go.Ground.phase }, { on := 5, ground := Go.Ground.phase }, { on := 6, ground := Go.Ground.phase }, { on := 7, ground := Go.Ground.textOnly Go.Departure.lateStores }], guard := none }, { dst := some 7, op := Go.Op.assign (Go.Operand.tmp 21), type := 43, pos := "names.go:30", after := #[{ on := 7, ground := Go.Ground.data }, { on := 8, ground := Go.Ground.chain }, { on := 0, ground := Go.Ground.phase }, { on := 1, ground := Go.Ground.phase }, { on := 2, ground := Go.Ground.phase }, { on := 3, ground := Go.Ground.phase }, { on := 4, ground := Go.Ground.phase }, { on := 5, ground := Go.Ground.phase }, { on := 6, ground := Go.Ground.phase }, { on := 7, ground := Go.Ground.phase }, { on := 8, ground := Go.Ground.phase }], guard := none }]) ?_
  refine wpList_load_mid rfl 42 _ rfl B 0 (by rfl) [.bool big, .bool wide, .int .u8 (abi : Nat), .int .u8 (ver : Nat), .string pad, .int .u64 (h0 : Nat), .int .u64 (h1 : Nat), .int .u64 (h2 : Nat), .int .u64 (h3 : Nat), .int .u64 (h4 : Nat), .int .u64 (h5 : Nat), .int .u64 (h6 : Nat), .int .u64 (h7 : Nat), .int .u64 (h8 : Nat), .int .u64 (h9 : Nat), .int .u64 (h10 : Nat), .int .u64 (h11 : Nat), .int .u64 (h12 : Nat), .slice As ns cs, .slice Ap np cp, .int .u64 (nm : Nat)] _ (range_of hB (by rfl)) Try.underlying42 (by rfl) (by kernel_rfl) ?_
  try simp only [Act.put, List.setIfInBounds_toArray, List.set_cons_zero, List.set_cons_succ]
  refine wpList_step (fun K hK => ?_)
  go_simp
  refine hK _ _ ?_
  clear hK K
  try simp only [Act.put, List.setIfInBounds_toArray, List.set_cons_zero, List.set_cons_succ]
  refine wpList_step (fun K hK => ?_)
  go_simp
  refine hK _ _ ?_
  clear hK K
  try simp only [Act.put, List.setIfInBounds_toArray, List.set_cons_zero, List.set_cons_succ]
  refine wpList_step (fun K hK => ?_)
  go_simp
  refine hK _ _ ?_
  clear hK K
  try simp only [Act.put, List.setIfInBounds_toArray, List.set_cons_zero, List.set_cons_succ]
  refine wpList_step (fun K hK => ?_)
  (first | go_at_call 32 | (go_simp; go_at_call 32))
  refine (HC.out _ (Below.refl _ _)).mono ?_
  rintro e w4 ⟨rfl, b4⟩
  try go_simp
  refine hK _ _ ?_
  clear hK K
  try simp only [Act.put, List.setIfInBounds_toArray, List.set_cons_zero, List.set_cons_succ]
  refine wpList_step (fun K hK => ?_)
  go_simp
  refine hK _ _ ?_
  clear hK K
  try simp only [Act.put, List.setIfInBounds_toArray, List.set_cons_zero, List.set_cons_succ]
  refine wpList_step (fun K hK => ?_)
  go_simp
  refine hK _ _ ?_
  clear hK K
  try simp only [Act.put, List.setIfInBounds_toArray, List.set_cons_zero, List.set_cons_succ]
  refine wpList_step (fun K hK => ?_)
  go_simp
  refine hK _ _ ?_
  clear hK K
  try simp only [Act.put, List.setIfInBounds_toArray, List.set_cons_zero, List.set_cons_succ]
  refine wpList_step (fun K hK => ?_)
  go_simp
  refine hK _ _ ?_
  clear hK K
  try simp only [Act.put, List.setIfInBounds_toArray, List.set_cons_zero, List.set_cons_succ]
  refine wpList_step (fun K hK => ?_)
  go_simp
  refine hK _ _ ?_
  clear hK K
  try simp only [Act.put, List.setIfInBounds_toArray, List.set_cons_zero, List.set_cons_succ]
  refine wpList_nil ?_
  exact HQ.out _ _ _ _ _ _ _ _ _ b4
/-- The table of names of a file. -/
def tabN (f : Nat → Nat → Nat) (n : Nat) (s : ByteArray) (nm : Nat) : ByteArray := if nm = 0 then ⟨#[0]⟩ else tabS f n s nm
def nmOk (f : Nat → Nat → Nat) (n : Nat) (nm : Nat) : Prop := nm = 0 ∨ tabE f n nm = 0
def NSecPost (f : Nat → Nat → Nat) (n : Nat) (s : ByteArray) (nm : Nat) (w : World) (e : Ending) (w' : World) : Prop :=
  Below w.heap.size w w' ∧ ((nmOk f n nm ∧ allB (tabN f n s nm) (fun i => f i 0) n = true ∧ ∃ b, w.heap.size ≤ b ∧ e = .returned (.tuple #[.slice (some ⟨b, 0, none⟩) n n, .int .i64 0]) ∧ w'.heap[b]? = some (.cells (rowT (fun i => strAt (tabN f n s nm) (f i 0)) n n) 9 (0, 0))) ∨
    ((¬ nmOk f n nm ∨ allB (tabN f n s nm) (fun i => f i 0) n = false) ∧ e = .returned (.tuple #[.slice none 0 0, .int .i64 12])))
theorem dataS_le (f : Nat → Nat → Nat) (n : Nat) (s : ByteArray) (i : Nat) : (dataS f n s i).size ≤ s.size := by
  unfold dataS
  split
  · simp; omega
  · exact Nat.zero_le _
theorem tabS_le (f : Nat → Nat → Nat) (n : Nat) (s : ByteArray) (i : Nat) : (tabS f n s i).size ≤ s.size := by
  unfold tabS
  split
  · exact dataS_le _ _ _ _
  · exact Nat.zero_le _
set_option maxRecDepth 1000000 in
set_option maxHeartbeats 8000000 in
theorem sections_any (big wide : Bool) (abi ver : Nat) (pad : ByteArray) (h0 h1 h2 h3 h4 h5 h6 h7 h8 h9 h10 h11 h12 : Nat) (As : Option Addr) (ns cs : Nat) (Ap : Option Addr) (np cp : Nat) (nm : Nat) (f : Nat → Nat → Nat) (s : ByteArray) (w : World) (hS : 0 < ns → ∃ b, As = some ⟨b, 0, none⟩ ∧ w.heap[b]? = some (.cells (rowU64 (flatF 10 f ns)) 52 (0, 0))) (hf : ∀ i j, f i j < 18446744073709551616) (hs : s.size ≤ 1048576) (hnm : nm < 18446744073709551616) (hns : ns ≤ 100000) :
    Calls Try.prog 31 #[.agg #[.bool big, .bool wide, .int .u8 (abi : Nat), .int .u8 (ver : Nat), .string pad, .int .u64 (h0 : Nat), .int .u64 (h1 : Nat), .int .u64 (h2 : Nat), .int .u64 (h3 : Nat), .int .u64 (h4 : Nat), .int .u64 (h5 : Nat), .int .u64 (h6 : Nat), .int .u64 (h7 : Nat), .int .u64 (h8 : Nat), .int .u64 (h9 : Nat), .int .u64 (h10 : Nat), .int .u64 (h11 : Nat), .int .u64 (h12 : Nat), .slice As ns cs, .slice Ap np cp, .int .u64 (nm : Nat)], .string s] w (NSecPost f ns s nm w) := by
  have HC := Lib.hid (fun u (hu : Below w.heap.size w u) => table_any big wide abi ver pad h0 h1 h2 h3 h4 h5 h6 h7 h8 h9 h10 h11 h12 As ns cs Ap np cp nm f s nm u (fun h => by obtain ⟨b, e1, e2⟩ := hS h; exact ⟨b, e1, heap_low e2 hu⟩) hf hs hnm hns)
  have HS := Lib.hid hS; clear hS
  go_enter Try.func31, Try.ntmps31
  go_upto_region 2 with (fail)
  have c20 : (w.alloc (.cells #[.bool big, .bool wide, .int .u8 (abi : Nat), .int .u8 (ver : Nat), .string pad, .int .u64 (h0 : Nat), .int .u64 (h1 : Nat), .int .u64 (h2 : Nat), .int .u64 (h3 : Nat), .int .u64 (h4 : Nat), .int .u64 (h5 : Nat), .int .u64 (h6 : Nat), .int .u64 (h7 : Nat), .int .u64 (h8 : Nat), .int .u64 (h9 : Nat), .int .u64 (h10 : Nat), .int .u64 (h11 : Nat), .int .u64 (h12 : Nat), .slice As ns cs, .slice Ap np cp, .int .u64 (nm : Nat)] 42)).cell? ⟨w.heap.size, 20, none⟩ = some (.int .u64 (nm : Nat)) := by rw [Lib.cell_of_heap (heap_alloc_new w (.cells #[.bool big, .bool wide, .int .u8 (abi : Nat), .int .u8 (ver : Nat), .string pad, .int .u64 (h0 : Nat), .int .u64 (h1 : Nat), .int .u64 (h2 : Nat), .int .u64 (h3 : Nat), .int .u64 (h4 : Nat), .int .u64 (h5 : Nat), .int .u64 (h6 : Nat), .int .u64 (h7 : Nat), .int .u64 (h8 : Nat), .int .u64 (h9 : Nat), .int .u64 (h10 : Nat), .int .u64 (h11 : Nat), .int .u64 (h12 : Nat), .slice As ns cs, .slice Ap np cp, .int .u64 (nm : Nat)] 42))]; rfl
  have HW := Lib.hid (below_more (Below.refl w.heap.size w) (.cells #[.bool big, .bool wide, .int .u8 (abi : Nat), .int .u8 (ver : Nat), .string pad, .int .u64 (h0 : Nat), .int .u64 (h1 : Nat), .int .u64 (h2 : Nat), .int .u64 (h3 : Nat), .int .u64 (h4 : Nat), .int .u64 (h5 : Nat), .int .u64 (h6 : Nat), .int .u64 (h7 : Nat), .int .u64 (h8 : Nat), .int .u64 (h9 : Nat), .int .u64 (h10 : Nat), .int .u64 (h11 : Nat), .int .u64 (h12 : Nat), .slice As ns cs, .slice Ap np cp, .int .u64 (nm : Nat)] 42))
  have HN := Lib.hid (heap_alloc_new w (.cells #[.bool big, .bool wide, .int .u8 (abi : Nat), .int .u8 (ver : Nat), .string pad, .int .u64 (h0 : Nat), .int .u64 (h1 : Nat), .int .u64 (h2 : Nat), .int .u64 (h3 : Nat), .int .u64 (h4 : Nat), .int .u64 (h5 : Nat), .int .u64 (h6 : Nat), .int .u64 (h7 : Nat), .int .u64 (h8 : Nat), .int .u64 (h9 : Nat), .int .u64 (h10 : Nat), .int .u64 (h11 : Nat), .int .u64 (h12 : Nat), .slice As ns cs, .slice Ap np cp, .int .u64 (nm : Nat)] 42))
  generalize w.alloc (.cells #[.bool big, .bool wide, .int .u8 (abi : Nat), .int .u8 (ver : Nat), .string pad, .int .u64 (h0 : Nat), .int .u64 (h1 : Nat), .int .u64 (h2 : Nat), .int .u64 (h3 : Nat), .int .u64 (h4 : Nat), .int .u64 (h5 : Nat), .int .u64 (h6 : Nat), .int .u64 (h7 : Nat), .int .u64 (h8 : Nat), .int .u64 (h9 : Nat), .int .u64 (h10 : Nat), .int .u64 (h11 : Nat), .int .u64 (h12 : Nat), .slice As ns cs, .slice Ap np cp, .int .u64 (nm : Nat)] 42) = W2 at *
  by_cases hz0 : nm = 0
  · have y : ((nm : Int) != 0) = false := by simp <;> omega
    have HOK : Hid (nmOk f ns nm) := Lib.hid (.inl hz0)
    obtain ⟨TB, hTBe⟩ : ∃ TB : ByteArray, TB = ⟨#[0]⟩ := ⟨_, rfl⟩
    have HTB : Hid (TB = tabN f ns s nm) := Lib.hid (by rw [hTBe]; unfold tabN; rw [if_pos hz0])
    have hTB : TB.size ≤ maxLen := by rw [hTBe]; unfold maxLen; decide
    have HN2 := HN; have HW2 := HW
    clear hz0 HC HN HW
    go_upto_region 4 with (fail)
    rw [← hTBe]
    clear hTBe y
    · have HDUM : True := trivial
      have c18 : W2.cell? ⟨w.heap.size, 18, none⟩ = some (.slice As ns cs) := by rw [Lib.cell_of_heap HN2.out]; rfl
      have hmk := mkU (fun i => f i 0) ns hns W2
      go_upto_region 7 with (fail)
      clear hmk c18
      obtain ⟨b, hb⟩ : ∃ b, b = W2.heap.size := ⟨_, rfl⟩
      have hr0 := heap_alloc_new W2 (.cells (rowV (fun i => f i 0) ns 0) 29)
      have c18 : (W2.alloc (.cells (rowV (fun i => f i 0) ns 0) 29)).cell? ⟨w.heap.size, 18, none⟩ = some (.slice As ns cs) := by rw [Lib.cell_of_heap (heap_up _ HN2.out)]; rfl
      have HW3 := Lib.hid (HW2.out.alloc HW2.out.size (.cells (rowV (fun i => f i 0) ns 0) 29))
      have hwb : w.heap.size ≤ b := by rw [hb]; exact HW2.out.size
      rw [← hb] at hr0 ⊢
      generalize W2.alloc (.cells (rowV (fun i => f i 0) ns 0) 29) = W3 at *
      have HR0 := Lib.hid hr0; clear hr0 hb
      go_wp2
      clear c18
      go_loopw [31] (fun i wr => ∃ k : Nat, k ≤ ns ∧ i = .int .i64 (k : Int) ∧ wr.heap[b]? = some (.cells (rowV (fun i => f i 0) ns k) 29 (0, 0)) ∧ Below w.heap.size w wr) (fun i _ => ns - (intOf i).toNat)
      case atStart => exact ⟨0, Nat.zero_le _, rfl, HR0.out, HW3.out⟩
      case round =>
        obtain ⟨k, hk, rfl, hrow, hB⟩ := hrel
        have HROW := Lib.hid hrow; have HB := Lib.hid hB; clear hrow hB
        by_cases hlt : k < ns
        · obtain ⟨bs, rfl, hrs⟩ := HS.out (by omega)
          have HRS := Lib.hid (heap_low hrs HB.out); clear hrs
          have k0 : (0 : Int) ≤ (k : Int) := by omega
          have k1 : (k : Int) < (ns : Int) := by omega
          have k2 : k + 1 ≤ 1048576 := by omega
          have hst : Hid (rowV (fun i => f i 0) ns (k + 1) = (rowV (fun i => f i 0) ns k).setIfInBounds k (.int .u64 (f k 0 : Nat))) := Lib.hid (rowV_set (fun i => f i 0) ns k hlt).symm
          have g0 : (wr).cell? ⟨bs, k * 10, none⟩ = some (.int .u64 (f k 0 : Nat)) := rowU_at (j := 0) (HRS.out) hlt (by decide)
          have g1 : (wr).cell? ⟨bs, k * 10 + 1, none⟩ = some (.int .u64 (f k 1 : Nat)) := rowU_at (j := 1) (HRS.out) hlt (by decide)
          have g2 : (wr).cell? ⟨bs, k * 10 + 2, none⟩ = some (.int .u64 (f k 2 : Nat)) := rowU_at (j := 2) (HRS.out) hlt (by decide)
          have g3 : (wr).cell? ⟨bs, k * 10 + 3, none⟩ = some (.int .u64 (f k 3 : Nat)) := rowU_at (j := 3) (HRS.out) hlt (by decide)
          have g4 : (wr).cell? ⟨bs, k * 10 + 4, none⟩ = some (.int .u64 (f k 4 : Nat)) := rowU_at (j := 4) (HRS.out) hlt (by decide)
          have g5 : (wr).cell? ⟨bs, k * 10 + 5, none⟩ = some (.int .u64 (f k 5 : Nat)) := rowU_at (j := 5) (HRS.out) hlt (by decide)
          have g6 : (wr).cell? ⟨bs, k * 10 + 6, none⟩ = some (.int .u64 (f k 6 : Nat)) := rowU_at (j := 6) (HRS.out) hlt (by decide)
          have g7 : (wr).cell? ⟨bs, k * 10 + 7, none⟩ = some (.int .u64 (f k 7 : Nat)) := rowU_at (j := 7) (HRS.out) hlt (by decide)
          have g8 : (wr).cell? ⟨bs, k * 10 + 8, none⟩ = some (.int .u64 (f k 8 : Nat)) := rowU_at (j := 8) (HRS.out) hlt (by decide)
          have g9 : (wr).cell? ⟨bs, k * 10 + 9, none⟩ = some (.int .u64 (f k 9 : Nat)) := rowU_at (j := 9) (HRS.out) hlt (by decide)
          go_upto_region 10 with (fail)
          clear g0 g1 g2 g3 g4 g5 g6 g7 g8 g9
          have HN6 := Lib.hid (heap_alloc_new wr (.cells #[.int .u64 (f k 0 : Nat), .int .u64 (f k 1 : Nat), .int .u64 (f k 2 : Nat), .int .u64 (f k 3 : Nat), .int .u64 (f k 4 : Nat), .int .u64 (f k 5 : Nat), .int .u64 (f k 6 : Nat), .int .u64 (f k 7 : Nat), .int .u64 (f k 8 : Nat), .int .u64 (f k 9 : Nat)] 52))
          have hrow6 := heap_up (.cells #[.int .u64 (f k 0 : Nat), .int .u64 (f k 1 : Nat), .int .u64 (f k 2 : Nat), .int .u64 (f k 3 : Nat), .int .u64 (f k 4 : Nat), .int .u64 (f k 5 : Nat), .int .u64 (f k 6 : Nat), .int .u64 (f k 7 : Nat), .int .u64 (f k 8 : Nat), .int .u64 (f k 9 : Nat)] 52) HROW.out
          have HB6 := Lib.hid (HB.out.alloc HB.out.size (.cells #[.int .u64 (f k 0 : Nat), .int .u64 (f k 1 : Nat), .int .u64 (f k 2 : Nat), .int .u64 (f k 3 : Nat), .int .u64 (f k 4 : Nat), .int .u64 (f k 5 : Nat), .int .u64 (f k 6 : Nat), .int .u64 (f k 7 : Nat), .int .u64 (f k 8 : Nat), .int .u64 (f k 9 : Nat)] 52))
          generalize wr.alloc (.cells #[.int .u64 (f k 0 : Nat), .int .u64 (f k 1 : Nat), .int .u64 (f k 2 : Nat), .int .u64 (f k 3 : Nat), .int .u64 (f k 4 : Nat), .int .u64 (f k 5 : Nat), .int .u64 (f k 6 : Nat), .int .u64 (f k 7 : Nat), .int .u64 (f k 8 : Nat), .int .u64 (f k 9 : Nat)] 52) = w6 at *
          generalize wr.heap.size = X at *
          have cX : w6.cell? ⟨X, 0, none⟩ = some (.int .u64 (f k 0 : Nat)) := by rw [Lib.cell_of_heap HN6.out]; rfl
          have cb : w6.cell? ⟨b, k, none⟩ = some (.int .u64 0) := by rw [Lib.cell_of_heap hrow6]; show (rowV _ ns k)[k]? = _; rw [rowV_at, if_pos hlt, if_neg (by omega)]; rfl
          have fb : w6.frozen? ⟨b, k, none⟩ = false := Lib.frozen_of_heap hrow6 _
          have HT6 := Lib.hid (Lib.heap_setCell_same (i := k) hrow6 (.int .u64 (f k 0 : Nat)))
          clear hrow6
          go_wp2
          refine ⟨⟨k + 1, by omega, by go_num, by rw [hst.out]; exact HT6.out, HB6.out.setCell (p := ⟨b, k, none⟩) hwb _⟩, by simp [intOf]; omega⟩
        · obtain rfl : k = ns := by omega
          have HA := Lib.hid (all_any TB (some ⟨b, 0, none⟩) k k (fun i => f i 0) hns hTB wr (rowU_of_block HROW.out))
          clear HROW
          go_wp2_with fail
          refine HA.out.mono ?_
          rintro e w5 ⟨b5, ⟨ha, b2, hb2, rfl, hr2⟩ | ⟨ha, rfl⟩⟩
          · have HB5 := Lib.hid (HB.out.trans (b5.mono HB.out.size)); have HA2 : Hid (allB (tabN f k s nm) (fun i => f i 0) k = true) := Lib.hid (by rw [← HTB.out]; exact ha); have HR2 : Hid (w5.heap[b2]? = some (.cells (rowT (fun i => strAt (tabN f k s nm) (f i 0)) k k) 9 (0, 0))) := Lib.hid (by rw [← HTB.out]; exact hr2); have hb3 := Nat.le_trans HB.out.size hb2; clear b5 ha hr2 hb2
            go_wp2
            exact bodyPost_ret (v := .tuple #[.slice (some ⟨b2, 0, none⟩) k k, .int .i64 0]) (by simp [results, Try.results31, go_sem]) rfl ⟨HB5.out, .inl ⟨HOK.out, HA2.out, b2, hb3, rfl, HR2.out⟩⟩
          · have HB5 := Lib.hid (HB.out.trans (b5.mono HB.out.size)); have HA2 : Hid (allB (tabN f k s nm) (fun i => f i 0) k = false) := Lib.hid (by rw [← HTB.out]; exact ha); clear b5 ha
            go_wp2
            exact bodyPost_ret (v := .tuple #[.slice none 0 0, .int .i64 12]) (by simp [results, Try.results31, go_sem]) rfl ⟨HB5.out, .inr ⟨.inr HA2.out, rfl⟩⟩
  · have y : ((nm : Int) != 0) = true := by simp <;> omega
    go_upto_region 3 with (fail)
    refine ireg3 _ _ _ _ _ _ _ _ _ _ _ _ _ _ _ _ _ _ _ _ _ _ _ _ _ _ _ _ _ _ _ _ _ _ _ _ _ _ _ _ _ _ _ _ _ _ big wide abi ver pad h0 h1 h2 h3 h4 h5 h6 h7 h8 h9 h10 h11 h12 _ _ _ _ _ _ nm w.heap.size s (tabS f ns s nm) (tabE f ns nm) W2 HN.out c20 (Lib.hid (fun u hu => HC.out u (HW.out.trans (hu.mono HW.out.size)))) (fun u14 u15 u16 u17 u18 u19 u20 u21 w7 h7 => ?_)
    have HN2 := Lib.hid (heap_low HN.out h7); have HW2 := Lib.hid (HW.out.trans (h7.mono HW.out.size)); clear h7 HN HW c20 y HC
    by_cases hE : tabE f ns nm = 0
    · have HOK : Hid (nmOk f ns nm) := Lib.hid (.inr hE)
      obtain ⟨TB, hTBe⟩ : ∃ TB : ByteArray, TB = tabS f ns s nm := ⟨_, rfl⟩
      have HTB : Hid (TB = tabN f ns s nm) := Lib.hid (by rw [hTBe]; unfold tabN; rw [if_neg hz0])
      have hTB : TB.size ≤ maxLen := by rw [hTBe]; have := tabS_le f ns s nm; unfold maxLen; omega
      rw [← hTBe, hE]
      clear hTBe hz0 hE
      generalize w7 = W2 at *
      have c18 : W2.cell? ⟨w.heap.size, 18, none⟩ = some (.slice As ns cs) := by rw [Lib.cell_of_heap HN2.out]; rfl
      have hmk := mkU (fun i => f i 0) ns hns W2
      go_upto_region 7 with (fail)
      clear hmk c18
      obtain ⟨b, hb⟩ : ∃ b, b = W2.heap.size := ⟨_, rfl⟩
      have hr0 := heap_alloc_new W2 (.cells (rowV (fun i => f i 0) ns 0) 29)
      have c18 : (W2.alloc (.cells (rowV (fun i => f i 0) ns 0) 29)).cell? ⟨w.heap.size, 18, none⟩ = some (.slice As ns cs) := by rw [Lib.cell_of_heap (heap_up _ HN2.out)]; rfl
      have HW3 := Lib.hid (HW2.out.alloc HW2.out.size (.cells (rowV (fun i => f i 0) ns 0) 29))
      have hwb : w.heap.size ≤ b := by rw [hb]; exact HW2.out.size
      rw [← hb] at hr0 ⊢
      generalize W2.alloc (.cells (rowV (fun i => f i 0) ns 0) 29) = W3 at *
      have HR0 := Lib.hid hr0; clear hr0 hb
      go_wp2
      clear c18
      go_loopw [31] (fun i wr => ∃ k : Nat, k ≤ ns ∧ i = .int .i64 (k : Int) ∧ wr.heap[b]? = some (.cells (rowV (fun i => f i 0) ns k) 29 (0, 0)) ∧ Below w.heap.size w wr) (fun i _ => ns - (intOf i).toNat)
      case atStart => exact ⟨0, Nat.zero_le _, rfl, HR0.out, HW3.out⟩
      case round =>
        obtain ⟨k, hk, rfl, hrow, hB⟩ := hrel
        have HROW := Lib.hid hrow; have HB := Lib.hid hB; clear hrow hB
        by_cases hlt : k < ns
        · obtain ⟨bs, rfl, hrs⟩ := HS.out (by omega)
          have HRS := Lib.hid (heap_low hrs HB.out); clear hrs
          have k0 : (0 : Int) ≤ (k : Int) := by omega
          have k1 : (k : Int) < (ns : Int) := by omega
          have k2 : k + 1 ≤ 1048576 := by omega
          have hst : Hid (rowV (fun i => f i 0) ns (k + 1) = (rowV (fun i => f i 0) ns k).setIfInBounds k (.int .u64 (f k 0 : Nat))) := Lib.hid (rowV_set (fun i => f i 0) ns k hlt).symm
          have g0 : (wr).cell? ⟨bs, k * 10, none⟩ = some (.int .u64 (f k 0 : Nat)) := rowU_at (j := 0) (HRS.out) hlt (by decide)
          have g1 : (wr).cell? ⟨bs, k * 10 + 1, none⟩ = some (.int .u64 (f k 1 : Nat)) := rowU_at (j := 1) (HRS.out) hlt (by decide)
          have g2 : (wr).cell? ⟨bs, k * 10 + 2, none⟩ = some (.int .u64 (f k 2 : Nat)) := rowU_at (j := 2) (HRS.out) hlt (by decide)
          have g3 : (wr).cell? ⟨bs, k * 10 + 3, none⟩ = some (.int .u64 (f k 3 : Nat)) := rowU_at (j := 3) (HRS.out) hlt (by decide)
          have g4 : (wr).cell? ⟨bs, k * 10 + 4, none⟩ = some (.int .u64 (f k 4 : Nat)) := rowU_at (j := 4) (HRS.out) hlt (by decide)
          have g5 : (wr).cell? ⟨bs, k * 10 + 5, none⟩ = some (.int .u64 (f k 5 : Nat)) := rowU_at (j := 5) (HRS.out) hlt (by decide)
          have g6 : (wr).cell? ⟨bs, k * 10 + 6, none⟩ = some (.int .u64 (f k 6 : Nat)) := rowU_at (j := 6) (HRS.out) hlt (by decide)
          have g7 : (wr).cell? ⟨bs, k * 10 + 7, none⟩ = some (.int .u64 (f k 7 : Nat)) := rowU_at (j := 7) (HRS.out) hlt (by decide)
          have g8 : (wr).cell? ⟨bs, k * 10 + 8, none⟩ = some (.int .u64 (f k 8 : Nat)) := rowU_at (j := 8) (HRS.out) hlt (by decide)
          have g9 : (wr).cell? ⟨bs, k * 10 + 9, none⟩ = some (.int .u64 (f k 9 : Nat)) := rowU_at (j := 9) (HRS.out) hlt (by decide)
          go_upto_region 10 with (fail)
          clear g0 g1 g2 g3 g4 g5 g6 g7 g8 g9
          have HN6 := Lib.hid (heap_alloc_new wr (.cells #[.int .u64 (f k 0 : Nat), .int .u64 (f k 1 : Nat), .int .u64 (f k 2 : Nat), .int .u64 (f k 3 : Nat), .int .u64 (f k 4 : Nat), .int .u64 (f k 5 : Nat), .int .u64 (f k 6 : Nat), .int .u64 (f k 7 : Nat), .int .u64 (f k 8 : Nat), .int .u64 (f k 9 : Nat)] 52))
          have hrow6 := heap_up (.cells #[.int .u64 (f k 0 : Nat), .int .u64 (f k 1 : Nat), .int .u64 (f k 2 : Nat), .int .u64 (f k 3 : Nat), .int .u64 (f k 4 : Nat), .int .u64 (f k 5 : Nat), .int .u64 (f k 6 : Nat), .int .u64 (f k 7 : Nat), .int .u64 (f k 8 : Nat), .int .u64 (f k 9 : Nat)] 52) HROW.out
          have HB6 := Lib.hid (HB.out.alloc HB.out.size (.cells #[.int .u64 (f k 0 : Nat), .int .u64 (f k 1 : Nat), .int .u64 (f k 2 : Nat), .int .u64 (f k 3 : Nat), .int .u64 (f k 4 : Nat), .int .u64 (f k 5 : Nat), .int .u64 (f k 6 : Nat), .int .u64 (f k 7 : Nat), .int .u64 (f k 8 : Nat), .int .u64 (f k 9 : Nat)] 52))
          generalize wr.alloc (.cells #[.int .u64 (f k 0 : Nat), .int .u64 (f k 1 : Nat), .int .u64 (f k 2 : Nat), .int .u64 (f k 3 : Nat), .int .u64 (f k 4 : Nat), .int .u64 (f k 5 : Nat), .int .u64 (f k 6 : Nat), .int .u64 (f k 7 : Nat), .int .u64 (f k 8 : Nat), .int .u64 (f k 9 : Nat)] 52) = w6 at *
          generalize wr.heap.size = X at *
          have cX : w6.cell? ⟨X, 0, none⟩ = some (.int .u64 (f k 0 : Nat)) := by rw [Lib.cell_of_heap HN6.out]; rfl
          have cb : w6.cell? ⟨b, k, none⟩ = some (.int .u64 0) := by rw [Lib.cell_of_heap hrow6]; show (rowV _ ns k)[k]? = _; rw [rowV_at, if_pos hlt, if_neg (by omega)]; rfl
          have fb : w6.frozen? ⟨b, k, none⟩ = false := Lib.frozen_of_heap hrow6 _
          have HT6 := Lib.hid (Lib.heap_setCell_same (i := k) hrow6 (.int .u64 (f k 0 : Nat)))
          clear hrow6
          go_wp2
          refine ⟨⟨k + 1, by omega, by go_num, by rw [hst.out]; exact HT6.out, HB6.out.setCell (p := ⟨b, k, none⟩) hwb _⟩, by simp [intOf]; omega⟩
        · obtain rfl : k = ns := by omega
          have HA := Lib.hid (all_any TB (some ⟨b, 0, none⟩) k k (fun i => f i 0) hns hTB wr (rowU_of_block HROW.out))
          clear HROW
          go_wp2_with fail
          refine HA.out.mono ?_
          rintro e w5 ⟨b5, ⟨ha, b2, hb2, rfl, hr2⟩ | ⟨ha, rfl⟩⟩
          · have HB5 := Lib.hid (HB.out.trans (b5.mono HB.out.size)); have HA2 : Hid (allB (tabN f k s nm) (fun i => f i 0) k = true) := Lib.hid (by rw [← HTB.out]; exact ha); have HR2 : Hid (w5.heap[b2]? = some (.cells (rowT (fun i => strAt (tabN f k s nm) (f i 0)) k k) 9 (0, 0))) := Lib.hid (by rw [← HTB.out]; exact hr2); have hb3 := Nat.le_trans HB.out.size hb2; clear b5 ha hr2 hb2
            go_wp2
            exact bodyPost_ret (v := .tuple #[.slice (some ⟨b2, 0, none⟩) k k, .int .i64 0]) (by simp [results, Try.results31, go_sem]) rfl ⟨HB5.out, .inl ⟨HOK.out, HA2.out, b2, hb3, rfl, HR2.out⟩⟩
          · have HB5 := Lib.hid (HB.out.trans (b5.mono HB.out.size)); have HA2 : Hid (allB (tabN f k s nm) (fun i => f i 0) k = false) := Lib.hid (by rw [← HTB.out]; exact ha); clear b5 ha
            go_wp2
            exact bodyPost_ret (v := .tuple #[.slice none 0 0, .int .i64 12]) (by simp [results, Try.results31, go_sem]) rfl ⟨HB5.out, .inr ⟨.inr HA2.out, rfl⟩⟩
    · have HNO : Hid (¬ nmOk f ns nm) := Lib.hid (fun h => h.elim hz0 hE)
      have y : ((tabE f ns nm : Int) != 0) = true := by simp <;> omega
      clear hE hz0
      generalize tabE f ns nm = E at *
      generalize tabS f ns s nm = D at *
      go_wp2
      exact bodyPost_ret (v := .tuple #[.slice none 0 0, .int .i64 12]) (by simp [results, Try.results31, go_sem]) rfl ⟨HW2.out, .inr ⟨.inl HNO.out, rfl⟩⟩
end Go.Proofs.Ytedocnidgiglaaa
