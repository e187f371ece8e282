/- The contract of names' Table. Conditions: those written in each theorem. -/
import Derived.Test.YtedocnidgiglaaaTG
import Derived.Test.YtedocnidgiglaaaNW
namespace Go.Proofs.Ytedocnidgiglaaa
open Go.RowKit
set_option linter.unusedVariables false
set_option maxRecDepth 1000000 in
set_option maxHeartbeats 2000000 in
theorem treg3 (Q : Exit → Act → World → Prop) (c0 c4 c5 c6 c7 c8 c9 c10 c11 c12 c13 c14 c15 c16 c17 c18 c19 c20 c21 c22 c23 c24 c25 c26 c27 : Value) (big wide : Bool) (abi ver : Nat) (pad : ByteArray) (h0 h1 h2 h3 h4 h5 h6 h7 h8 h9 h10 h11 h12 : Nat) (As : Option Addr) (ns cs : Nat) (Ap : Option Addr) (np cp : Nat) (nm : Nat) (B i : Nat) (s D : ByteArray) (W : World) (hB : W.heap[B]? = some (.cells #[.bool big, .bool wide, .int .u8 (abi : Nat), .int .u8 (ver : Nat), .string pad, .int .u64 (h0 : Nat), .int .u64 (h1 : Nat), .int .u64 (h2 : Nat), .int .u64 (h3 : Nat), .int .u64 (h4 : Nat), .int .u64 (h5 : Nat), .int .u64 (h6 : Nat), .int .u64 (h7 : Nat), .int .u64 (h8 : Nat), .int .u64 (h9 : Nat), .int .u64 (h10 : Nat), .int .u64 (h11 : Nat), .int .u64 (h12 : Nat), .slice As ns cs, .slice Ap np cp, .int .u64 (nm : Nat)] 42 (0, 0))) (hiw : IntKind.i64.wrap (i : Int) = (i : Int))
    (HC : Hid (∀ u, Below W.heap.size W u → Calls Try.prog 21 #[.agg #[.bool big, .bool wide, .int .u8 (abi : Nat), .int .u8 (ver : Nat), .string pad, .int .u64 (h0 : Nat), .int .u64 (h1 : Nat), .int .u64 (h2 : Nat), .int .u64 (h3 : Nat), .int .u64 (h4 : Nat), .int .u64 (h5 : Nat), .int .u64 (h6 : Nat), .int .u64 (h7 : Nat), .int .u64 (h8 : Nat), .int .u64 (h9 : Nat), .int .u64 (h10 : Nat), .int .u64 (h11 : Nat), .int .u64 (h12 : Nat), .slice As ns cs, .slice Ap np cp, .int .u64 (nm : Nat)], .string s, .int .i64 (i : Nat)] u fun e w' => e = .returned (.string D) ∧ Below u.heap.size u w'))
    (hQ : ∀ (u23 u24 u25 u26 u27 : Value) (w' : World), Below W.heap.size W w' → Q .normal ⟨#[c0, .string s, .int .u64 (i : Nat), .pointer (some ⟨B, 0, none⟩), c4, c5, .string D, .int .i64 0, c8, c9, c10, c11, c12, c13, c14, c15, c16, c17, c18, c19, c20, c21, c22, u23, u24, u25, u26, u27], []⟩ w') :
    (Code.region 3 #[{ dst := some 23, op := Go.Op.load 42 (Go.Operand.tmp 3), type := 42, pos := "names.go:20", after := #[], guard := none }, { dst := some 24, op := Go.Op.move (Go.Operand.tmp 1), type := 9, pos := "names.go:20", after := #[], guard := none }, { dst := some 25, op := Go.Op.move (Go.Operand.tmp 2), type := 29, pos := "names.go:20", after := #[], guard := none }, { dst := some 26, op := Go.Op.convert 29 3 (Go.Operand.tmp 25), type := 3, pos := "names.go:20", after := #[{ on := 2, ground := Go.Ground.data }], guard := none }, { dst := some 27, op := Go.Op.call { callee := Go.Callee.value (Go.Operand.func 21), args := #[Go.Operand.tmp 23, Go.Operand.tmp 24, Go.Operand.tmp 26], argTypes := #[42, 9, 3] }, type := 9, pos := "names.go:20", after := #[{ on := 0, ground := Go.Ground.data }, { on := 1, ground := Go.Ground.data }, { on := 3, ground := Go.Ground.data }], guard := none }, { dst := some 6, op := Go.Op.assign (Go.Operand.tmp 27), type := 9, pos := "names.go:20", after := #[{ on := 4, ground := Go.Ground.data }, { on := 4, ground := Go.Ground.chain }, { on := 0, ground := Go.Ground.phase }, { on := 1, ground := Go.Ground.phase }, { on := 2, ground := Go.Ground.phase }, { on := 3, ground := Go.Ground.phase }, { on := 4, ground := Go.Ground.phase }], guard := none }, { dst := some 7, op := Go.Op.assign (Go.Operand.const (Go.Value.int Go.IntKind.i64 0)), type := 43, pos := "names.go:20", after := #[{ on := 5, ground := Go.Ground.chain }, { on := 0, ground := Go.Ground.phase }, { on := 1, ground := Go.Ground.phase }, { on := 2, ground := Go.Ground.phase }, { on := 3, ground := Go.Ground.phase }, { on := 4, ground := Go.Ground.phase }, { on := 5, ground := Go.Ground.phase }], guard := none }] false).wp Try.prog Q ⟨#[c0, .string s, .int .u64 (i : Nat), .pointer (some ⟨B, 0, none⟩), c4, c5, c6, c7, c8, c9, c10, c11, c12, c13, c14, c15, c16, c17, c18, c19, c20, c21, c22, c23, c24, c25, c26, c27], []⟩ W := by
  try dsimp only at hQ ⊢
  have HQ := Lib.hid hQ; clear hQ
  refine wp_region_lit (l := [{ dst := some 23, op := Go.Op.load 42 (Go.Operand.tmp 3), type := 42, pos := "names.go:20", after := #[], guard := none }, { dst := some 24, op := Go.Op.move (Go.Operand.tmp 1), type := 9, pos := "names.go:20", after := #[], guard := none }, { dst := some 25, op := Go.Op.move (Go.Operand.tmp 2), type := 29, pos := "names.go:20", after := #[], guard := none }, { dst := some 26, op := Go.Op.convert 29 3 (Go.Operand.tmp 25), type := 3, pos := "names.go:20", after := #[{ on := 2, ground := Go.Ground.data }], guard := none }, { dst := some 27, op := Go.Op.call { callee := Go.Callee.value (Go.Operand.func 21), args := #[Go.Operand.tmp 23, Go.Operand.tmp 24, Go.Operand.tmp 26], argTypes := #[42, 9, 3] }, type := 9, pos := "names.go:20", after := #[{ on := 0, ground := Go.Ground.data }, { on := 1, ground := Go.Ground.data }, { on := 3, ground := Go.Ground.data }], guard := none }, { dst := some 6, op := Go.Op.assign (Go.Operand.tmp 27), type := 9, pos := "names.go:20", after := #[{ on := 4, ground := Go.Ground.data }, { on := 4, ground := Go.Ground.chain }, { on := 0, ground := Go.Ground.phase }, { on := 1, ground := Go.Ground.phase }, { on := 2, ground := Go.Ground.phase }, { on := 3, ground := Go.Ground.phase }, { on := 4, ground := Go.Ground.phase }], guard := none }, { dst := some 7, op := Go.Op.assign (Go.Operand.const (Go.Value.int Go.IntKind.i64 0)), type := 43, pos := "names.go:20", after := #[{ on := 5, ground := Go.Ground.chain }, { on := 0, ground := Go.Ground.phase }, { on := 1, ground := Go.Ground.phase }, { on := 2, ground := Go.Ground.phase }, { on := 3, ground := Go.Ground.phase }, { on := 4, ground := Go.Ground.phase }, { on := 5, ground := Go.Ground.phase }], guard := none }]) ?_
  refine wpList_load_mid rfl 42 _ rfl B 0 (by rfl) [.bool big, .bool wide, .int .u8 (abi : Nat), .int .u8 (ver : Nat), .string pad, .int .u64 (h0 : Nat), .int .u64 (h1 : Nat), .int .u64 (h2 : Nat), .int .u64 (h3 : Nat), .int .u64 (h4 : Nat), .int .u64 (h5 : Nat), .int .u64 (h6 : Nat), .int .u64 (h7 : Nat), .int .u64 (h8 : Nat), .int .u64 (h9 : Nat), .int .u64 (h10 : Nat), .int .u64 (h11 : Nat), .int .u64 (h12 : Nat), .slice As ns cs, .slice Ap np cp, .int .u64 (nm : Nat)] _ (range_of hB (by rfl)) Try.underlying42 (by rfl) (by kernel_rfl) ?_
  try simp only [Act.put, List.setIfInBounds_toArray, List.set_cons_zero, List.set_cons_succ]
  refine wpList_step (fun K hK => ?_)
  go_simp
  refine hK _ _ ?_
  clear hK K
  try simp only [Act.put, List.setIfInBounds_toArray, List.set_cons_zero, List.set_cons_succ]
  refine wpList_step (fun K hK => ?_)
  go_simp
  refine hK _ _ ?_
  clear hK K
  try simp only [Act.put, List.setIfInBounds_toArray, List.set_cons_zero, List.set_cons_succ]
  refine wpList_step (fun K hK => ?_)
  go_simp
  refine hK _ _ ?_
  clear hK K
  try simp only [Act.put, List.setIfInBounds_toArray, List.set_cons_zero, List.set_cons_succ]
  refine wpList_step (fun K hK => ?_)
  (first | go_at_call 21 | (go_simp; go_at_call 21))
  refine (HC.out _ (Below.refl _ _)).mono ?_
  rintro e w4 ⟨rfl, b4⟩
  try go_simp
  refine hK _ _ ?_
  clear hK K
  try simp only [Act.put, List.setIfInBounds_toArray, List.set_cons_zero, List.set_cons_succ]
  refine wpList_step (fun K hK => ?_)
  go_simp
  refine hK _ _ ?_
  clear hK K
  try simp only [Act.put, List.setIfInBounds_toArray, List.set_cons_zero, List.set_cons_succ]
  refine wpList_step (fun K hK => ?_)
  go_simp
  refine hK _ _ ?_
  clear hK K
  try simp only [Act.put, List.setIfInBounds_toArray, List.set_cons_zero, List.set_cons_succ]
  refine wpList_nil ?_
  exact HQ.out _ _ _ _ _ _ b4
def tabS (f : Nat → Nat → Nat) (n : Nat) (s : ByteArray) (i : Nat) : ByteArray := if i < n ∧ f i 1 = 3 then dataS f n s i else ⟨#[]⟩
def tabE (f : Nat → Nat → Nat) (n : Nat) (i : Nat) : Nat := if i < n ∧ f i 1 = 3 then 0 else 14
set_option maxRecDepth 1000000 in
set_option maxHeartbeats 4000000 in
theorem table_any (big wide : Bool) (abi ver : Nat) (pad : ByteArray) (h0 h1 h2 h3 h4 h5 h6 h7 h8 h9 h10 h11 h12 : Nat) (As : Option Addr) (ns cs : Nat) (Ap : Option Addr) (np cp : Nat) (nm : Nat) (f : Nat → Nat → Nat) (s : ByteArray) (i : Nat) (w : World) (hS : 0 < ns → ∃ b, As = some ⟨b, 0, none⟩ ∧ w.heap[b]? = some (.cells (rowU64 (flatF 10 f ns)) 52 (0, 0))) (hf : ∀ i j, f i j < 18446744073709551616) (hs : s.size ≤ 1048576) (hi : i < 18446744073709551616) (hns : ns ≤ 100000) :
    Calls Try.prog 32 #[.agg #[.bool big, .bool wide, .int .u8 (abi : Nat), .int .u8 (ver : Nat), .string pad, .int .u64 (h0 : Nat), .int .u64 (h1 : Nat), .int .u64 (h2 : Nat), .int .u64 (h3 : Nat), .int .u64 (h4 : Nat), .int .u64 (h5 : Nat), .int .u64 (h6 : Nat), .int .u64 (h7 : Nat), .int .u64 (h8 : Nat), .int .u64 (h9 : Nat), .int .u64 (h10 : Nat), .int .u64 (h11 : Nat), .int .u64 (h12 : Nat), .slice As ns cs, .slice Ap np cp, .int .u64 (nm : Nat)], .string s, .int .u64 (i : Nat)] w fun e w' => e = .returned (.tuple #[.string (tabS f ns s i), .int .i64 (tabE f ns i : Nat)]) ∧ Below w.heap.size w w' := by
  obtain ⟨D, hD⟩ : ∃ D, D = tabS f ns s i := ⟨_, rfl⟩
  obtain ⟨E, hE⟩ : ∃ E, E = tabE f ns i := ⟨_, rfl⟩
  rw [← hD, ← hE]
  have HD := Lib.hid hD; have HE := Lib.hid hE; clear hD hE
  have HC := Lib.hid (fun u (hu : Below w.heap.size w u) (hi2 : i < ns) => fdata_any big wide abi ver pad h0 h1 h2 h3 h4 h5 h6 h7 h8 h9 h10 h11 h12 As ns cs Ap np cp nm f s i u (fun h => by obtain ⟨b, e1, e2⟩ := hS h; exact ⟨b, e1, heap_low e2 hu⟩) hf hs (by omega) hns)
  have HS := Lib.hid hS; clear hS
  have nw : IntKind.u64.wrap (ns : Int) = (ns : Int) := by rw [IntKind.wrap_u64]; omega
  go_enter Try.func32, Try.ntmps32
  go_upto_region 1 with (fail)
  have c18 : (w.alloc (.cells #[.bool big, .bool wide, .int .u8 (abi : Nat), .int .u8 (ver : Nat), .string pad, .int .u64 (h0 : Nat), .int .u64 (h1 : Nat), .int .u64 (h2 : Nat), .int .u64 (h3 : Nat), .int .u64 (h4 : Nat), .int .u64 (h5 : Nat), .int .u64 (h6 : Nat), .int .u64 (h7 : Nat), .int .u64 (h8 : Nat), .int .u64 (h9 : Nat), .int .u64 (h10 : Nat), .int .u64 (h11 : Nat), .int .u64 (h12 : Nat), .slice As ns cs, .slice Ap np cp, .int .u64 (nm : Nat)] 42)).cell? ⟨w.heap.size, 18, none⟩ = some (.slice As ns cs) := by rw [Lib.cell_of_heap (heap_alloc_new w (.cells #[.bool big, .bool wide, .int .u8 (abi : Nat), .int .u8 (ver : Nat), .string pad, .int .u64 (h0 : Nat), .int .u64 (h1 : Nat), .int .u64 (h2 : Nat), .int .u64 (h3 : Nat), .int .u64 (h4 : Nat), .int .u64 (h5 : Nat), .int .u64 (h6 : Nat), .int .u64 (h7 : Nat), .int .u64 (h8 : Nat), .int .u64 (h9 : Nat), .int .u64 (h10 : Nat), .int .u64 (h11 : Nat), .int .u64 (h12 : Nat), .slice As ns cs, .slice Ap np cp, .int .u64 (nm : Nat)] 42))]; rfl
  have HB := Lib.hid (below_more (Below.refl w.heap.size w) (.cells #[.bool big, .bool wide, .int .u8 (abi : Nat), .int .u8 (ver : Nat), .string pad, .int .u64 (h0 : Nat), .int .u64 (h1 : Nat), .int .u64 (h2 : Nat), .int .u64 (h3 : Nat), .int .u64 (h4 : Nat), .int .u64 (h5 : Nat), .int .u64 (h6 : Nat), .int .u64 (h7 : Nat), .int .u64 (h8 : Nat), .int .u64 (h9 : Nat), .int .u64 (h10 : Nat), .int .u64 (h11 : Nat), .int .u64 (h12 : Nat), .slice As ns cs, .slice Ap np cp, .int .u64 (nm : Nat)] 42))
  have HN := Lib.hid (heap_alloc_new w (.cells #[.bool big, .bool wide, .int .u8 (abi : Nat), .int .u8 (ver : Nat), .string pad, .int .u64 (h0 : Nat), .int .u64 (h1 : Nat), .int .u64 (h2 : Nat), .int .u64 (h3 : Nat), .int .u64 (h4 : Nat), .int .u64 (h5 : Nat), .int .u64 (h6 : Nat), .int .u64 (h7 : Nat), .int .u64 (h8 : Nat), .int .u64 (h9 : Nat), .int .u64 (h10 : Nat), .int .u64 (h11 : Nat), .int .u64 (h12 : Nat), .slice As ns cs, .slice Ap np cp, .int .u64 (nm : Nat)] 42))
  generalize w.alloc (.cells #[.bool big, .bool wide, .int .u8 (abi : Nat), .int .u8 (ver : Nat), .string pad, .int .u64 (h0 : Nat), .int .u64 (h1 : Nat), .int .u64 (h2 : Nat), .int .u64 (h3 : Nat), .int .u64 (h4 : Nat), .int .u64 (h5 : Nat), .int .u64 (h6 : Nat), .int .u64 (h7 : Nat), .int .u64 (h8 : Nat), .int .u64 (h9 : Nat), .int .u64 (h10 : Nat), .int .u64 (h11 : Nat), .int .u64 (h12 : Nat), .slice As ns cs, .slice Ap np cp, .int .u64 (nm : Nat)] 42) = W at *
  by_cases hlt : i < ns
  · obtain ⟨b, rfl, hrow⟩ := HS.out (by omega)
    have hrow2 := heap_low hrow HB.out; clear hrow HS
    have k0 : (0 : Int) ≤ (i : Int) := by omega
    have k1 : (i : Int) < (ns : Int) := by omega
    have g1 : W.cell? ⟨b, i * 10 + 1, none⟩ = some (.int .u64 (f i 1 : Nat)) := rowU_at (j := 1) hrow2 hlt (by decide)
    clear hrow2
    by_cases hd : f i 1 = 3
    · have y : ((f i 1 : Int) != 3) = false := by simp <;> omega
      have HC2 := Lib.hid (fun u hu => HC.out u hu hlt)
      have e1 : D = dataS f ns s i := by rw [HD.out]; unfold tabS; rw [if_pos ⟨hlt, hd⟩]
      have e2 : E = 0 := by rw [HE.out]; unfold tabE; rw [if_pos ⟨hlt, hd⟩]
      rw [← e1] at HC2
      subst e2
      clear e1 hd HD HE HC
      go_upto_region 3 with (fail)
      refine treg3 _ _ _ _ _ _ _ _ _ _ _ _ _ _ _ _ _ _ _ _ _ _ _ _ _ _ big wide abi ver pad h0 h1 h2 h3 h4 h5 h6 h7 h8 h9 h10 h11 h12 _ _ _ _ _ _ nm w.heap.size i s D W HN.out (IntWalk.i64_in _ (by omega)) (Lib.hid (fun u hu => HC2.out u (HB.out.trans (hu.mono HB.out.size)))) (fun u23 u24 u25 u26 u27 w7 h7 => ?_)
      have HB7 := Lib.hid (HB.out.trans (h7.mono HB.out.size)); clear h7
      go_wp2
      go_ret2
      exact ⟨rfl, HB7.out⟩
    · have y : ((f i 1 : Int) != 3) = true := by simp <;> omega
      have e1 : (⟨#[]⟩ : ByteArray) = D := by rw [HD.out]; unfold tabS; rw [if_neg (fun h => hd h.2)]
      have e2 : 14 = E := by rw [HE.out]; unfold tabE; rw [if_neg (fun h => hd h.2)]
      subst e1 e2
      clear hd HD HE HC
      go_wp2
      go_ret2
      exact ⟨rfl, HB.out⟩
  · have e1 : (⟨#[]⟩ : ByteArray) = D := by rw [HD.out]; unfold tabS; rw [if_neg (fun h => hlt h.1)]
    have e2 : 14 = E := by rw [HE.out]; unfold tabE; rw [if_neg (fun h => hlt h.1)]
    subst e1 e2
    have k1 : ¬ (i : Int) < (ns : Int) := by omega
    have k2 : (ns : Int) ≤ (i : Int) := by omega
    clear HD HE HC HS
    go_wp2
    go_ret2
    exact ⟨rfl, HB.out⟩
end Go.Proofs.Ytedocnidgiglaaa
