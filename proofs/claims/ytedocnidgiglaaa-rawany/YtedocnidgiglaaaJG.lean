/- What layer 11's speaks looks at: its file. Conditions: those written in each theorem. The contract of layer 11's speaks. Conditions: those written in each theorem. The contract of layer 11's speaks. Conditions: those written in each theorem. -/
import Derived.Test.YtedocnidgiglaaaJF
import Derived.Test.YtedocnidgiglaaaTG
import Derived.Test.YtedocnidgiglaaaPB
import Derived.Test.YtedocnidgiglaaaJC
import Derived.Deep.MidRow
namespace Go.Proofs.Ytedocnidgiglaaa
open Go.RowKit
set_option linter.unusedVariables false
def yS (l : List Nat) : ByteArray := ⟨(fieldsL false (fullL true sSizes 10) l 10).toArray⟩
def yE : ByteArray := ⟨(fieldsL false (fullL true eSizes 13) [0, 0, 1, 0, 195, 67, 0, ehs true, phs true, 1, shs true, 2, 0] 13).toArray⟩
def yP : ByteArray := ⟨(fieldsL false (fullL true ptSizes 8) [1, 0, 0, 0, 0, 0, 0, 0] 8).toArray⟩
def yI : ByteArray := ⟨(identL false true 0 0 []).toArray⟩
def yD (_ : Nat) : ByteArray := ⟨#[97, 98, 99]⟩
def yG (_ j : Nat) : Nat := if j = 1 then 1 else 0
def yX (i j : Nat) : Nat := fX yG yD 64 0 i j
def ySR (k : Nat) : ByteArray := if k = 0 then yS [0, 0, 0, 0, 0, 0, 0, 0, 0, 0] else yS [0, 1, 0, 0, 64, 3, 0, 0, 0, 0]
def yV : ByteArray := ((yI ++ yE) ++ bodyS yG yD 1) ++ tabU (tabU ⟨#[]⟩ ySR 2) (fun _ => yP) 1
theorem yV_err : parseErr (Pop.popF 64) yV = 0 := by kernel_rfl
theorem yV_n : nSec yV = 2 := by kernel_rfl
theorem yV_sg : nSeg yV = 1 := by kernel_rfl
theorem yV_wide : wideB yV = true := by kernel_rfl
theorem yV_size : yV.size = 251 := by kernel_rfl
theorem yV_data : dataS (fSec yV) 2 yV 1 = ⟨#[97, 98, 99]⟩ := by kernel_rfl
theorem yput0 (u : World) : Calls Try.prog 47 #[.agg #[.bool false, .bool true], .agg #[.int .u64 (yX 0 0 : Nat), .int .u64 (yX 0 1 : Nat), .int .u64 (yX 0 2 : Nat), .int .u64 (yX 0 3 : Nat), .int .u64 (yX 0 4 : Nat), .int .u64 (yX 0 5 : Nat), .int .u64 (yX 0 6 : Nat), .int .u64 (yX 0 7 : Nat), .int .u64 (yX 0 8 : Nat), .int .u64 (yX 0 9 : Nat)]] u fun e w' => e = .returned (.tuple #[.string (ySR 0), .bool true]) ∧ Below u.heap.size u w' :=
  sput false true (yX 0 0) (yX 0 1) (yX 0 2) (yX 0 3) (yX 0 4) (yX 0 5) (yX 0 6) (yX 0 7) (yX 0 8) (yX 0 9) (by decide +kernel) (ySR 0) true (by
    right; left
    refine ⟨rfl, ?_, by kernel_rfl, rfl⟩
    intro k hk
    have : ∀ k : Fin 10, 0 ≤ fullZ true (sSizes.getD k.1 0) ∧ fullZ true (sSizes.getD k.1 0) ≤ 8 ∧ ([yX 0 0, yX 0 1, yX 0 2, yX 0 3, yX 0 4, yX 0 5, yX 0 6, yX 0 7, yX 0 8, yX 0 9] : List Nat).getD k.1 0 < 256 ^ (fullZ true (sSizes.getD k.1 0)).toNat := by decide +kernel
    exact this ⟨k, hk⟩) u
theorem yput1 (u : World) : Calls Try.prog 47 #[.agg #[.bool false, .bool true], .agg #[.int .u64 (yX 1 0 : Nat), .int .u64 (yX 1 1 : Nat), .int .u64 (yX 1 2 : Nat), .int .u64 (yX 1 3 : Nat), .int .u64 (yX 1 4 : Nat), .int .u64 (yX 1 5 : Nat), .int .u64 (yX 1 6 : Nat), .int .u64 (yX 1 7 : Nat), .int .u64 (yX 1 8 : Nat), .int .u64 (yX 1 9 : Nat)]] u fun e w' => e = .returned (.tuple #[.string (ySR 1), .bool true]) ∧ Below u.heap.size u w' :=
  sput false true (yX 1 0) (yX 1 1) (yX 1 2) (yX 1 3) (yX 1 4) (yX 1 5) (yX 1 6) (yX 1 7) (yX 1 8) (yX 1 9) (by decide +kernel) (ySR 1) true (by
    right; left
    refine ⟨rfl, ?_, by kernel_rfl, rfl⟩
    intro k hk
    have : ∀ k : Fin 10, 0 ≤ fullZ true (sSizes.getD k.1 0) ∧ fullZ true (sSizes.getD k.1 0) ≤ 8 ∧ ([yX 1 0, yX 1 1, yX 1 2, yX 1 3, yX 1 4, yX 1 5, yX 1 6, yX 1 7, yX 1 8, yX 1 9] : List Nat).getD k.1 0 < 256 ^ (fullZ true (sSizes.getD k.1 0)).toNat := by decide +kernel
    exact this ⟨k, hk⟩) u
theorem yputP (u : World) : Calls Try.prog 48 #[.agg #[.bool false, .bool true], .agg #[.int .u64 1, .int .u64 0, .int .u64 (yX 0 4 : Nat), .int .u64 0, .int .u64 0, .int .u64 (segZ yX 1 0 : Nat), .int .u64 (segZ yX 1 0 : Nat), .int .u64 0]] u fun e w' => e = .returned (.tuple #[.string yP, .bool true]) ∧ Below u.heap.size u w' :=
  ptput false 1 0 (yX 0 4) 0 0 (segZ yX 1 0) (segZ yX 1 0) 0 (by decide +kernel) yP true (by
    right; left
    refine ⟨rfl, ?_, by kernel_rfl, rfl⟩
    intro k hk
    have : ∀ k : Fin 8, 0 ≤ fullZ true (ptSizes.getD k.1 0) ∧ fullZ true (ptSizes.getD k.1 0) ≤ 8 ∧ ([1, 0, yX 0 4, 0, 0, segZ yX 1 0, segZ yX 1 0, 0] : List Nat).getD k.1 0 < 256 ^ (fullZ true (ptSizes.getD k.1 0)).toNat := by decide +kernel
    exact this ⟨k, hk⟩) u
theorem yputE (u : World) : Calls Try.prog 49 #[.agg #[.bool false, .bool true], .agg #[.int .u64 0, .int .u64 0, .int .u64 1, .int .u64 0, .int .u64 195, .int .u64 67, .int .u64 0, .int .u64 (ehs true : Nat), .int .u64 (phs true : Nat), .int .u64 1, .int .u64 (shs true : Nat), .int .u64 2, .int .u64 0]] u fun e w' => e = .returned (.tuple #[.string yE, .bool true]) ∧ Below u.heap.size u w' :=
  eput false true 0 0 1 0 195 67 0 (ehs true) (phs true) 1 (shs true) 2 0 (by decide +kernel) yE true (by
    right; left
    refine ⟨rfl, ?_, by kernel_rfl, rfl⟩
    intro k hk
    have : ∀ k : Fin 13, 0 ≤ fullZ true (eSizes.getD k.1 0) ∧ fullZ true (eSizes.getD k.1 0) ≤ 8 ∧ ([0, 0, 1, 0, 195, 67, 0, ehs true, phs true, 1, shs true, 2, 0] : List Nat).getD k.1 0 < 256 ^ (fullZ true (eSizes.getD k.1 0)).toNat := by decide +kernel
    exact this ⟨k, hk⟩) u
theorem ybytes (u : World) : Calls Try.prog 25 #[.agg #[.bool false, .bool true, .int .u8 0, .int .u8 0, .string ⟨#[]⟩]] u fun e w' => e = .returned (.string yI) ∧ Below u.heap.size u w' := bytes_any false true 0 0 ⟨#[]⟩ u
theorem yfile (b : Nat) (u : World) (hb : u.heap[b]? = some (.cells #[.int .u64 0, .int .u64 1, .int .u64 0, .int .u64 0, .int .u64 0, .int .u64 0, .int .u64 0, .string ⟨#[97, 98, 99]⟩] 57 (0, 0))) :
    Calls Try.prog 14 #[.int .i64 2, .slice (some ⟨b, 0, none⟩) 1 1, .int .i64 1, .int .u64 0] u fun e w' => e = .returned (.string yV) ∧ Below u.heap.size u w' :=
  file_any 2 false true false (by decide) (by decide) (by decide) (some ⟨b, 0, none⟩) 1 1 1 0 64 67 2 0 195 yG yD yX ySR (fun _ => yP) (fun _ => true) (fun _ => true) yE yI true
    (by decide) (by decide) (fun _ => (by decide : (3 : Nat) ≤ 60)) (by decide) (by decide +kernel) (by decide) (by decide) rfl (by decide +kernel)
    (fun i => by
      unfold ySR
      split <;> decide +kernel) (fun _ => by decide +kernel) (by decide +kernel) (by decide +kernel)
    (Lib.hid (fun k hk => by
      match k, hk with
      | 0, _ => exact yput0
      | 1, _ => exact yput1)) (Lib.hid (fun j hj => by
      match j, hj with
      | 0, _ => exact yputP)) (Lib.hid yputE) (Lib.hid ybytes) u (fun i hi => by
      match i, hi with
      | 0, _ =>
        refine ⟨b, 0, rfl, heap_lt hb, fun j hj => ?_, ?_⟩
        · rw [Lib.cell_of_heap hb]
          match j, hj with
          | 0, _ => rfl
          | 1, _ => rfl
          | 2, _ => rfl
          | 3, _ => rfl
          | 4, _ => rfl
          | 5, _ => rfl
          | 6, _ => rfl
        · rw [Lib.cell_of_heap hb]; rfl)
end Go.Proofs.Ytedocnidgiglaaa
namespace Go.Proofs.Ytedocnidgiglaaa
open Go.RowKit
set_option linter.unusedVariables false
set_option linter.unusedSimpArgs false
theorem word_true (b : Bool) (w : World) : Calls Try.prog 19 #[.agg #[.bool b, .bool true]] w fun e w' => e = .returned (.int .i64 8) ∧ Below w.heap.size w w' := by
  go_enter Try.func19, Try.ntmps19
  go_upto_region 1 with (fail)
  have c1 : (w.alloc (.cells #[.bool b, .bool true] 34)).cell? ⟨w.heap.size, 1, none⟩ = some (.bool true) := by rw [Lib.cell_of_heap (heap_alloc_new w _)]; rfl
  have HB := Lib.hid (below_more (Below.refl w.heap.size w) (.cells #[.bool b, .bool true] 34))
  generalize w.alloc (.cells #[.bool b, .bool true] 34) = W at *
  go_wp2
  go_ret
  exact ⟨rfl, HB.out⟩
set_option maxRecDepth 1000000 in
set_option maxHeartbeats 2000000 in
theorem ureg1 (Q : Exit → Act → World → Prop) (c0 c1 c2 c3 c4 c5 c6 c7 c8 c9 c10 c11 c12 c13 c14 c15 c16 c17 c18 c19 c20 c21 c22 c23 c24 c25 c26 c27 c28 c29 c30 c31 c32 c33 c34 c35 c36 c37 c38 c39 c40 c41 c42 c43 c44 : Value) (V : ByteArray) (W : World)
    (HC : Hid (∀ u b, u.heap[b]? = some (.cells #[.int .u64 0, .int .u64 1, .int .u64 0, .int .u64 0, .int .u64 0, .int .u64 0, .int .u64 0, .string ⟨#[97, 98, 99]⟩] 57 (0, 0)) → Calls Try.prog 14 #[.int .i64 2, .slice (some ⟨b, 0, none⟩) 1 1, .int .i64 1, .int .u64 0] u fun e w' => e = .returned (.string V) ∧ Below u.heap.size u w'))
    (hQ : ∀ (u4 u5 u6 : Value) (w' : World), Below W.heap.size W w' → Q .normal ⟨#[c0, .string V, c2, c3, u4, u5, u6, c7, c8, c9, c10, c11, c12, c13, c14, c15, c16, c17, c18, c19, c20, c21, c22, c23, c24, c25, c26, c27, c28, c29, c30, c31, c32, c33, c34, c35, c36, c37, c38, c39, c40, c41, c42, c43, c44], []⟩ w') :
    (Code.region 1 #[⟨some 4, .build 57 #[(1, .const (.int .u64 1)), (7, .const (.string { data := #[97, 98, 99] }))], 57, "law.go:71", #[], none⟩, ⟨some 5, .buildSlice 22 1 #[(0, .tmp 4)], 22, "law.go:71", #[⟨0, .data⟩], none⟩, ⟨some 6, .call { callee := .value (.func 14), args := #[.const (.int .i64 2), .tmp 5, .const (.int .i64 1), .const (.int .u64 0)], argTypes := #[3, 22, 3, 29] }, 9, "law.go:71", #[⟨1, .data⟩], none⟩, ⟨some 1, .assign (.tmp 6), 9, "law.go:71", #[⟨2, .data⟩, ⟨2, .chain⟩, ⟨0, .phase⟩, ⟨1, .phase⟩, ⟨2, .phase⟩], none⟩] false).wp Try.prog Q ⟨#[c0, c1, c2, c3, c4, c5, c6, c7, c8, c9, c10, c11, c12, c13, c14, c15, c16, c17, c18, c19, c20, c21, c22, c23, c24, c25, c26, c27, c28, c29, c30, c31, c32, c33, c34, c35, c36, c37, c38, c39, c40, c41, c42, c43, c44], []⟩ W := by
  try dsimp only at hQ ⊢
  have HQ := Lib.hid hQ; clear hQ
  refine wp_region_lit (l := _) ?_
  refine wpList_buildTo rfl 57 _ rfl _ rfl #[.int .u64 0, .int .u64 1, .int .u64 0, .int .u64 0, .int .u64 0, .int .u64 0, .int .u64 0, .string ⟨#[97, 98, 99]⟩] (by kernel_rfl) ?_
  try simp only [Act.put, List.setIfInBounds_toArray, List.set_cons_zero, List.set_cons_succ]
  refine wpList_step (fun K hK => ?_)
  go_simp
  refine hK _ _ ?_
  clear hK K
  try simp only [Act.put, List.setIfInBounds_toArray, List.set_cons_zero, List.set_cons_succ]
  have hA := heap_alloc_new W (.cells #[.int .u64 0, .int .u64 1, .int .u64 0, .int .u64 0, .int .u64 0, .int .u64 0, .int .u64 0, .string ⟨#[97, 98, 99]⟩] 57)
  have hB1 := below_more (Below.refl W.heap.size W) (.cells #[.int .u64 0, .int .u64 1, .int .u64 0, .int .u64 0, .int .u64 0, .int .u64 0, .int .u64 0, .string ⟨#[97, 98, 99]⟩] 57)
  refine wpList_step (fun K hK => ?_)
  (first | go_at_call 14 | (go_simp; go_at_call 14))
  refine (HC.out _ _ hA).mono ?_
  rintro e w4 ⟨rfl, b4⟩
  try go_simp
  refine hK _ _ ?_
  clear hK K
  try simp only [Act.put, List.setIfInBounds_toArray, List.set_cons_zero, List.set_cons_succ]
  refine wpList_step (fun K hK => ?_)
  go_simp
  refine hK _ _ ?_
  clear hK K
  try simp only [Act.put, List.setIfInBounds_toArray, List.set_cons_zero, List.set_cons_succ]
  refine wpList_nil ?_
  exact HQ.out _ _ _ _ (hB1.trans (b4.mono hB1.size))
set_option maxRecDepth 1000000 in
set_option maxHeartbeats 2000000 in
theorem ureg2 (Q : Exit → Act → World → Prop) (c0 c2 c3 c4 c5 c6 c7 c8 c9 c10 c11 c12 c13 c14 c15 c16 c17 c18 c19 c20 c21 c22 c23 c24 c25 c26 c27 c28 c29 c30 c31 c32 c33 c34 c35 c36 c37 c38 c39 c40 c41 c42 c43 c44 : Value) (ones : Nat → Nat) (V : ByteArray) (W : World)
    (HC : Hid (∀ u, Calls Try.prog 16 #[.string V] u fun e w' => (∃ v k, FileIs ones V u v k w' ∧ e = .returned (.tuple #[v, .int .i64 k])) ∧ Below u.heap.size u w'))
    (hQ : ∀ (u7 u8 u9 u10 u11 : Value) (G : Nat) (big wide : Bool) (abi ver : Nat) (pad : ByteArray) (h0 h1 h2 h3 h4 h5 h6 h7 h8 h9 h10 h11 h12 : Nat) (As : Option Addr) (ns cs : Nat) (Ap : Option Addr) (np cp : Nat) (nm : Nat) (k : Int) (u w' : World), FileIs ones V u (.agg #[.bool big, .bool wide, .int .u8 (abi : Nat), .int .u8 (ver : Nat), .string pad, .int .u64 (h0 : Nat), .int .u64 (h1 : Nat), .int .u64 (h2 : Nat), .int .u64 (h3 : Nat), .int .u64 (h4 : Nat), .int .u64 (h5 : Nat), .int .u64 (h6 : Nat), .int .u64 (h7 : Nat), .int .u64 (h8 : Nat), .int .u64 (h9 : Nat), .int .u64 (h10 : Nat), .int .u64 (h11 : Nat), .int .u64 (h12 : Nat), .slice As ns cs, .slice Ap np cp, .int .u64 (nm : Nat)]) k w' → W = u → w'.heap[G]? = some (.cells #[.bool big, .bool wide, .int .u8 (abi : Nat), .int .u8 (ver : Nat), .string pad, .int .u64 (h0 : Nat), .int .u64 (h1 : Nat), .int .u64 (h2 : Nat), .int .u64 (h3 : Nat), .int .u64 (h4 : Nat), .int .u64 (h5 : Nat), .int .u64 (h6 : Nat), .int .u64 (h7 : Nat), .int .u64 (h8 : Nat), .int .u64 (h9 : Nat), .int .u64 (h10 : Nat), .int .u64 (h11 : Nat), .int .u64 (h12 : Nat), .slice As ns cs, .slice Ap np cp, .int .u64 (nm : Nat)] 42 (0, 0)) → W.heap.size ≤ G → Below W.heap.size W w' → Q .normal ⟨#[c0, .string V, .pointer (some ⟨G, 0, none⟩), .int .i64 k, c4, c5, c6, u7, u8, u9, u10, u11, c12, c13, c14, c15, c16, c17, c18, c19, c20, c21, c22, c23, c24, c25, c26, c27, c28, c29, c30, c31, c32, c33, c34, c35, c36, c37, c38, c39, c40, c41, c42, c43, c44], []⟩ w') :
    (Code.region 2 #[⟨some 8, .move (.tmp 1), 9, "law.go:72", #[], none⟩, ⟨some 9, .call { callee := .value (.func 16), args := #[.tmp 8], argTypes := #[9] }, 44, "law.go:72", #[⟨0, .data⟩], none⟩, ⟨some 7, .move (.tmp 9), 44, "law.go:72", #[⟨1, .data⟩], none⟩, ⟨some 10, .extract (.tmp 7) 0, 42, "law.go:72", #[⟨2, .data⟩], none⟩, ⟨some 11, .extract (.tmp 7) 1, 43, "law.go:72", #[⟨2, .data⟩, ⟨6, .gcOnly .lateStores⟩], none⟩, ⟨some 2, .alloc 42, 0, "law.go:72", #[], none⟩, ⟨none, .store 42 (.tmp 2) (.tmp 10), 0, "law.go:72", #[⟨5, .data⟩, ⟨3, .data⟩, ⟨1, .chain⟩, ⟨0, .phase⟩, ⟨1, .phase⟩, ⟨2, .phase⟩, ⟨3, .phase⟩, ⟨4, .textOnly .lateStores⟩, ⟨5, .phase⟩], none⟩, ⟨some 3, .assign (.tmp 11), 43, "law.go:72", #[⟨4, .data⟩, ⟨6, .chain⟩, ⟨0, .phase⟩, ⟨1, .phase⟩, ⟨2, .phase⟩, ⟨3, .phase⟩, ⟨4, .phase⟩, ⟨5, .phase⟩, ⟨6, .phase⟩], none⟩] false).wp Try.prog Q ⟨#[c0, .string V, c2, c3, c4, c5, c6, c7, c8, c9, c10, c11, c12, c13, c14, c15, c16, c17, c18, c19, c20, c21, c22, c23, c24, c25, c26, c27, c28, c29, c30, c31, c32, c33, c34, c35, c36, c37, c38, c39, c40, c41, c42, c43, c44], []⟩ W := by
  try dsimp only at hQ ⊢
  have HQ := Lib.hid hQ; clear hQ
  refine wp_region_lit (l := _) ?_
  refine wpList_step (fun K hK => ?_)
  go_simp
  refine hK _ _ ?_
  clear hK K
  try simp only [Act.put, List.setIfInBounds_toArray, List.set_cons_zero, List.set_cons_succ]
  refine wpList_step (fun K hK => ?_)
  (first | go_at_call 16 | (go_simp; go_at_call 16))
  refine (HC.out _).mono ?_
  rintro e w4 ⟨⟨v, k, hfi, rfl⟩, b4⟩
  obtain ⟨big, wide, abi, ver, pad, h0, h1, h2, h3, h4, h5, h6, h7, h8, h9, h10, h11, h12, As, ns, cs, Ap, np, cp, nm, rfl⟩ := hfi.form
  have HFI := Lib.hid hfi; clear hfi
  try go_simp
  refine hK _ _ ?_
  clear hK K
  try simp only [Act.put, List.setIfInBounds_toArray, List.set_cons_zero, List.set_cons_succ]
  refine wpList_step (fun K hK => ?_)
  go_simp
  refine hK _ _ ?_
  clear hK K
  try simp only [Act.put, List.setIfInBounds_toArray, List.set_cons_zero, List.set_cons_succ]
  refine wpList_step (fun K hK => ?_)
  go_simp
  refine hK _ _ ?_
  clear hK K
  try simp only [Act.put, List.setIfInBounds_toArray, List.set_cons_zero, List.set_cons_succ]
  refine wpList_step (fun K hK => ?_)
  go_simp
  refine hK _ _ ?_
  clear hK K
  try simp only [Act.put, List.setIfInBounds_toArray, List.set_cons_zero, List.set_cons_succ]
  refine wpList_step (fun K hK => ?_)
  go_simp
  refine hK _ _ ?_
  clear hK K
  try simp only [Act.put, List.setIfInBounds_toArray, List.set_cons_zero, List.set_cons_succ]
  have hT := heap_alloc_new w4 (.cells #[.bool false, .bool false, .int .u8 0, .int .u8 0, .string ⟨#[]⟩, .int .u64 0, .int .u64 0, .int .u64 0, .int .u64 0, .int .u64 0, .int .u64 0, .int .u64 0, .int .u64 0, .int .u64 0, .int .u64 0, .int .u64 0, .int .u64 0, .int .u64 0, .slice none 0 0, .slice none 0 0, .int .u64 0] 42)
  refine wpList_store_rowTo rfl 42 _ _ rfl rfl w4.heap.size #[.bool big, .bool wide, .int .u8 (abi : Nat), .int .u8 (ver : Nat), .string pad, .int .u64 (h0 : Nat), .int .u64 (h1 : Nat), .int .u64 (h2 : Nat), .int .u64 (h3 : Nat), .int .u64 (h4 : Nat), .int .u64 (h5 : Nat), .int .u64 (h6 : Nat), .int .u64 (h7 : Nat), .int .u64 (h8 : Nat), .int .u64 (h9 : Nat), .int .u64 (h10 : Nat), .int .u64 (h11 : Nat), .int .u64 (h12 : Nat), .slice As ns cs, .slice Ap np cp, .int .u64 (nm : Nat)] (by rfl) (by rfl) 42 #[.bool false, .bool false, .int .u8 0, .int .u8 0, .string ⟨#[]⟩, .int .u64 0, .int .u64 0, .int .u64 0, .int .u64 0, .int .u64 0, .int .u64 0, .int .u64 0, .int .u64 0, .int .u64 0, .int .u64 0, .int .u64 0, .int .u64 0, .int .u64 0, .slice none 0 0, .slice none 0 0, .int .u64 0] hT (by kernel_rfl) rfl (by simp [Value.oneCell']) ?_
  try simp only [Act.put, List.setIfInBounds_toArray, List.set_cons_zero, List.set_cons_succ]
  refine wpList_step (fun K hK => ?_)
  go_simp
  refine hK _ _ ?_
  clear hK K
  try simp only [Act.put, List.setIfInBounds_toArray, List.set_cons_zero, List.set_cons_succ]
  refine wpList_nil ?_
  exact HQ.out _ _ _ _ _ _ _ _ _ _ _ _ _ _ _ _ _ _ _ _ _ _ _ _ _ _ _ _ _ _ _ _ _ _ (HFI.out.stay (fun b _ hb => (setRow_below (((Below.refl w4.heap.size w4).alloc (Nat.le_refl _) _)) (Nat.le_refl _) _).block b hb)) rfl (setRow_heap' _ _ _ _ _ _ hT) b4.size (setRow_below (b4.alloc b4.size _) b4.size _)
set_option maxRecDepth 1000000 in
set_option maxHeartbeats 2000000 in
theorem ureg3 (Q : Exit → Act → World → Prop) (c0 c4 c5 c6 c7 c8 c9 c10 c11 c12 c13 c14 c15 c16 c17 c18 c19 c20 c21 c22 c23 c24 c25 c26 c27 c28 c29 c30 c31 c32 c33 c34 c35 c36 c37 c38 c39 c40 c41 c42 c43 c44 : Value) (big : Bool) (abi ver : Nat) (pad : ByteArray) (h0 h1 h2 h3 h4 h5 h6 h7 h8 h9 h10 h11 h12 : Nat) (As : Option Addr) (cs : Nat) (Ap : Option Addr) (cp : Nat) (nm : Nat) (G : Nat) (V D : ByteArray) (W : World) (hG : W.heap[G]? = some (.cells #[.bool big, .bool true, .int .u8 (abi : Nat), .int .u8 (ver : Nat), .string pad, .int .u64 (h0 : Nat), .int .u64 (h1 : Nat), .int .u64 (h2 : Nat), .int .u64 (h3 : Nat), .int .u64 (h4 : Nat), .int .u64 (h5 : Nat), .int .u64 (h6 : Nat), .int .u64 (h7 : Nat), .int .u64 (h8 : Nat), .int .u64 (h9 : Nat), .int .u64 (h10 : Nat), .int .u64 (h11 : Nat), .int .u64 (h12 : Nat), .slice As 2 cs, .slice Ap 1 cp, .int .u64 (nm : Nat)] 42 (0, 0))) (hD : ⟨#[97, 98, 99]⟩ = D)
    (HC : Hid (Calls Try.prog 21 #[.agg #[.bool big, .bool true, .int .u8 (abi : Nat), .int .u8 (ver : Nat), .string pad, .int .u64 (h0 : Nat), .int .u64 (h1 : Nat), .int .u64 (h2 : Nat), .int .u64 (h3 : Nat), .int .u64 (h4 : Nat), .int .u64 (h5 : Nat), .int .u64 (h6 : Nat), .int .u64 (h7 : Nat), .int .u64 (h8 : Nat), .int .u64 (h9 : Nat), .int .u64 (h10 : Nat), .int .u64 (h11 : Nat), .int .u64 (h12 : Nat), .slice As 2 cs, .slice Ap 1 cp, .int .u64 (nm : Nat)], .string V, .int .i64 1] W fun e w' => e = .returned (.string D) ∧ Below W.heap.size W w'))
    (HW : Hid (∀ u b, Calls Try.prog 19 #[.agg #[.bool b, .bool true]] u fun e w' => e = .returned (.int .i64 8) ∧ Below u.heap.size u w'))
    (x18 : W.cell? ⟨G, 18, none⟩ = some (.slice As 2 cs)) (x19 : W.cell? ⟨G, 19, none⟩ = some (.slice Ap 1 cp)) (x1 : W.cell? ⟨G, 1, none⟩ = some (.bool true)) (x0 : W.cell? ⟨G, 0, none⟩ = some (.bool big))
    (hQ : ∀ (u12 u13 u14 u15 u16 u17 u18 u19 u20 u21 u22 u23 u24 u25 u26 u27 u28 u29 u30 u31 u32 u33 u34 u35 u36 u37 u38 u39 u40 u41 u42 u43 u44 : Value) (w' : World), Below W.heap.size W w' → Q .normal ⟨#[.bool true, .string V, .pointer (some ⟨G, 0, none⟩), .int .i64 0, c4, c5, c6, c7, c8, c9, c10, c11, u12, u13, u14, u15, u16, u17, u18, u19, u20, u21, u22, u23, u24, u25, u26, u27, u28, u29, u30, u31, u32, u33, u34, u35, u36, u37, u38, u39, u40, u41, u42, u43, u44], []⟩ w') :
    (Code.region 3 #[⟨some 12, .move (.tmp 3), 43, "law.go:73", #[], none⟩, ⟨some 13, .binOp .eql 43 (.tmp 12) (.const (.int .i64 0)) 43, 4, "law.go:73", #[⟨0, .data⟩], none⟩, ⟨some 14, .move (.tmp 13), 4, "law.go:73", #[⟨1, .data⟩], none⟩, ⟨some 15, .fieldAddr 42 (.tmp 2) 2, 0, "law.go:73", #[⟨2, .guard⟩], some (2, true)⟩, ⟨some 16, .load 39 (.tmp 15), 39, "law.go:73", #[⟨3, .data⟩, ⟨2, .guard⟩], some (2, true)⟩, ⟨some 17, .call { callee := .builtin .len, args := #[.tmp 16], argTypes := #[39] }, 3, "law.go:73", #[⟨4, .data⟩, ⟨2, .guard⟩], some (2, true)⟩, ⟨some 18, .binOp .eql 3 (.tmp 17) (.const (.int .i64 2)) 3, 4, "law.go:73", #[⟨5, .data⟩, ⟨2, .guard⟩], some (2, true)⟩, ⟨some 19, .pick (.tmp 14) (.tmp 18) (.const (.bool false)), 4, "law.go:73", #[⟨2, .data⟩, ⟨6, .data⟩], none⟩, ⟨some 20, .move (.tmp 19), 4, "law.go:73", #[⟨7, .data⟩, ⟨2, .chain⟩], none⟩, ⟨some 21, .fieldAddr 42 (.tmp 2) 3, 0, "law.go:73", #[⟨8, .guard⟩], some (8, true)⟩, ⟨some 22, .load 40 (.tmp 21), 40, "law.go:73", #[⟨9, .data⟩, ⟨8, .guard⟩], some (8, true)⟩, ⟨some 23, .call { callee := .builtin .len, args := #[.tmp 22], argTypes := #[40] }, 3, "law.go:73", #[⟨10, .data⟩, ⟨8, .guard⟩], some (8, true)⟩, ⟨some 24, .binOp .eql 3 (.tmp 23) (.const (.int .i64 1)) 3, 4, "law.go:73", #[⟨11, .data⟩, ⟨8, .guard⟩], some (8, true)⟩, ⟨some 25, .pick (.tmp 20) (.tmp 24) (.const (.bool false)), 4, "law.go:73", #[⟨8, .data⟩, ⟨12, .data⟩], none⟩, ⟨some 26, .move (.tmp 25), 4, "law.go:73", #[⟨13, .data⟩, ⟨8, .chain⟩], none⟩, ⟨some 27, .fieldAddr 42 (.tmp 2) 0, 0, "law.go:73", #[⟨14, .guard⟩], some (14, true)⟩, ⟨some 28, .fieldAddr 36 (.tmp 27) 0, 0, "law.go:73", #[⟨15, .data⟩, ⟨14, .guard⟩], some (14, true)⟩, ⟨some 29, .fieldAddr 34 (.tmp 28) 1, 0, "law.go:73", #[⟨16, .data⟩, ⟨14, .guard⟩], some (14, true)⟩, ⟨some 30, .load 4 (.tmp 29), 4, "law.go:73", #[⟨17, .data⟩, ⟨14, .guard⟩], some (14, true)⟩, ⟨some 31, .pick (.tmp 26) (.tmp 30) (.const (.bool false)), 4, "law.go:73", #[⟨14, .data⟩, ⟨18, .data⟩], none⟩, ⟨some 32, .move (.tmp 31), 4, "law.go:73", #[⟨19, .data⟩, ⟨14, .chain⟩], none⟩, ⟨some 33, .load 42 (.tmp 2), 42, "law.go:73", #[⟨20, .guard⟩], some (20, true)⟩, ⟨some 34, .move (.tmp 1), 9, "law.go:73", #[⟨20, .guard⟩], some (20, true)⟩, ⟨some 35, .call { callee := .value (.func 21), args := #[.tmp 33, .tmp 34, .const (.int .i64 1)], argTypes := #[42, 9, 3] }, 9, "law.go:73", #[⟨21, .data⟩, ⟨22, .data⟩, ⟨20, .chain⟩, ⟨20, .guard⟩], some (20, true)⟩, ⟨some 36, .binOp .eql 9 (.tmp 35) (.const (.string { data := #[97, 98, 99] })) 9, 4, "law.go:73", #[⟨23, .data⟩, ⟨20, .guard⟩], some (20, true)⟩, ⟨some 37, .pick (.tmp 32) (.tmp 36) (.const (.bool false)), 4, "law.go:73", #[⟨20, .data⟩, ⟨24, .data⟩], none⟩, ⟨some 38, .move (.tmp 37), 4, "law.go:73", #[⟨25, .data⟩, ⟨23, .chain⟩], none⟩, ⟨some 39, .fieldAddr 42 (.tmp 2) 0, 0, "law.go:73", #[⟨26, .guard⟩], some (26, true)⟩, ⟨some 40, .fieldAddr 36 (.tmp 39) 0, 0, "law.go:73", #[⟨27, .data⟩, ⟨26, .guard⟩], some (26, true)⟩, ⟨some 41, .load 34 (.tmp 40), 34, "law.go:73", #[⟨28, .data⟩, ⟨26, .guard⟩], some (26, true)⟩, ⟨some 42, .call { callee := .value (.func 19), args := #[.tmp 41], argTypes := #[34] }, 3, "law.go:73", #[⟨29, .data⟩, ⟨26, .chain⟩, ⟨26, .guard⟩], some (26, true)⟩, ⟨some 43, .binOp .eql 3 (.tmp 42) (.const (.int .i64 8)) 3, 4, "law.go:73", #[⟨30, .data⟩, ⟨26, .guard⟩], some (26, true)⟩, ⟨some 44, .pick (.tmp 38) (.tmp 43) (.const (.bool false)), 4, "law.go:73", #[⟨26, .data⟩, ⟨31, .data⟩], none⟩, ⟨some 0, .assign (.tmp 44), 4, "law.go:73", #[⟨32, .data⟩, ⟨30, .chain⟩, ⟨0, .phase⟩, ⟨1, .phase⟩, ⟨2, .phase⟩, ⟨3, .phase⟩, ⟨4, .phase⟩, ⟨5, .phase⟩, ⟨6, .phase⟩, ⟨7, .phase⟩, ⟨8, .phase⟩, ⟨9, .phase⟩, ⟨10, .phase⟩, ⟨11, .phase⟩, ⟨12, .phase⟩, ⟨13, .phase⟩, ⟨14, .phase⟩, ⟨15, .phase⟩, ⟨16, .phase⟩, ⟨17, .phase⟩, ⟨18, .phase⟩, ⟨19, .phase⟩, ⟨20, .phase⟩, ⟨21, .phase⟩, ⟨22, .phase⟩, ⟨23, .phase⟩, ⟨24, .phase⟩, ⟨25, .phase⟩, ⟨26, .phase⟩, ⟨27, .phase⟩, ⟨28, .phase⟩, ⟨29, .phase⟩, ⟨30, .phase⟩, ⟨31, .phase⟩, ⟨32, .phase⟩], none⟩] false).wp Try.prog Q ⟨#[c0, .string V, .pointer (some ⟨G, 0, none⟩), .int .i64 0, c4, c5, c6, c7, c8, c9, c10, c11, c12, c13, c14, c15, c16, c17, c18, c19, c20, c21, c22, c23, c24, c25, c26, c27, c28, c29, c30, c31, c32, c33, c34, c35, c36, c37, c38, c39, c40, c41, c42, c43, c44], []⟩ W := by
  try dsimp only at hQ ⊢
  have HQ := Lib.hid hQ; clear hQ
  refine wp_region_lit (l := _) ?_
  refine wpList_step (fun K hK => ?_)
  go_simp
  refine hK _ _ ?_
  clear hK K
  try simp only [Act.put, List.setIfInBounds_toArray, List.set_cons_zero, List.set_cons_succ]
  refine wpList_step (fun K hK => ?_)
  go_simp
  refine hK _ _ ?_
  clear hK K
  try simp only [Act.put, List.setIfInBounds_toArray, List.set_cons_zero, List.set_cons_succ]
  refine wpList_step (fun K hK => ?_)
  go_simp
  refine hK _ _ ?_
  clear hK K
  try simp only [Act.put, List.setIfInBounds_toArray, List.set_cons_zero, List.set_cons_succ]
  refine wpList_step (fun K hK => ?_)
  go_simp
  refine hK _ _ ?_
  clear hK K
  try simp only [Act.put, List.setIfInBounds_toArray, List.set_cons_zero, List.set_cons_succ]
  refine wpList_step (fun K hK => ?_)
  go_simp
  refine hK _ _ ?_
  clear hK K
  try simp only [Act.put, List.setIfInBounds_toArray, List.set_cons_zero, List.set_cons_succ]
  refine wpList_step (fun K hK => ?_)
  go_simp
  refine hK _ _ ?_
  clear hK K
  try simp only [Act.put, List.setIfInBounds_toArray, List.set_cons_zero, List.set_cons_succ]
  refine wpList_step (fun K hK => ?_)
  go_simp
  refine hK _ _ ?_
  clear hK K
  try simp only [Act.put, List.setIfInBounds_toArray, List.set_cons_zero, List.set_cons_succ]
  refine wpList_step (fun K hK => ?_)
  go_simp
  refine hK _ _ ?_
  clear hK K
  try simp only [Act.put, List.setIfInBounds_toArray, List.set_cons_zero, List.set_cons_succ]
  refine wpList_step (fun K hK => ?_)
  go_simp
  refine hK _ _ ?_
  clear hK K
  try simp only [Act.put, List.setIfInBounds_toArray, List.set_cons_zero, List.set_cons_succ]
  refine wpList_step (fun K hK => ?_)
  go_simp
  refine hK _ _ ?_
  clear hK K
  try simp only [Act.put, List.setIfInBounds_toArray, List.set_cons_zero, List.set_cons_succ]
  refine wpList_step (fun K hK => ?_)
  go_simp
  refine hK _ _ ?_
  clear hK K
  try simp only [Act.put, List.setIfInBounds_toArray, List.set_cons_zero, List.set_cons_succ]
  refine wpList_step (fun K hK => ?_)
  go_simp
  refine hK _ _ ?_
  clear hK K
  try simp only [Act.put, List.setIfInBounds_toArray, List.set_cons_zero, List.set_cons_succ]
  refine wpList_step (fun K hK => ?_)
  go_simp
  refine hK _ _ ?_
  clear hK K
  try simp only [Act.put, List.setIfInBounds_toArray, List.set_cons_zero, List.set_cons_succ]
  refine wpList_step (fun K hK => ?_)
  go_simp
  refine hK _ _ ?_
  clear hK K
  try simp only [Act.put, List.setIfInBounds_toArray, List.set_cons_zero, List.set_cons_succ]
  refine wpList_step (fun K hK => ?_)
  go_simp
  refine hK _ _ ?_
  clear hK K
  try simp only [Act.put, List.setIfInBounds_toArray, List.set_cons_zero, List.set_cons_succ]
  refine wpList_step (fun K hK => ?_)
  go_simp
  refine hK _ _ ?_
  clear hK K
  try simp only [Act.put, List.setIfInBounds_toArray, List.set_cons_zero, List.set_cons_succ]
  refine wpList_step (fun K hK => ?_)
  go_simp
  refine hK _ _ ?_
  clear hK K
  try simp only [Act.put, List.setIfInBounds_toArray, List.set_cons_zero, List.set_cons_succ]
  refine wpList_step (fun K hK => ?_)
  go_simp
  refine hK _ _ ?_
  clear hK K
  try simp only [Act.put, List.setIfInBounds_toArray, List.set_cons_zero, List.set_cons_succ]
  refine wpList_step (fun K hK => ?_)
  go_simp
  refine hK _ _ ?_
  clear hK K
  try simp only [Act.put, List.setIfInBounds_toArray, List.set_cons_zero, List.set_cons_succ]
  refine wpList_step (fun K hK => ?_)
  go_simp
  refine hK _ _ ?_
  clear hK K
  try simp only [Act.put, List.setIfInBounds_toArray, List.set_cons_zero, List.set_cons_succ]
  refine wpList_step (fun K hK => ?_)
  go_simp
  refine hK _ _ ?_
  clear hK K
  try simp only [Act.put, List.setIfInBounds_toArray, List.set_cons_zero, List.set_cons_succ]
  refine wpList_step (fun K hK => ?_)
  simp only [Region.wanted, yielded, go_sem]
  refine wp_load_mid 42 _ rfl G 0 (by rfl) [.bool big, .bool true, .int .u8 (abi : Nat), .int .u8 (ver : Nat), .string pad, .int .u64 (h0 : Nat), .int .u64 (h1 : Nat), .int .u64 (h2 : Nat), .int .u64 (h3 : Nat), .int .u64 (h4 : Nat), .int .u64 (h5 : Nat), .int .u64 (h6 : Nat), .int .u64 (h7 : Nat), .int .u64 (h8 : Nat), .int .u64 (h9 : Nat), .int .u64 (h10 : Nat), .int .u64 (h11 : Nat), .int .u64 (h12 : Nat), .slice As 2 cs, .slice Ap 1 cp, .int .u64 (nm : Nat)] _ (range_of hG (by rfl)) Try.underlying42 (by rfl) (by kernel_rfl) ?_
  refine hK _ _ ?_
  clear hK K
  try simp only [Act.put, List.setIfInBounds_toArray, List.set_cons_zero, List.set_cons_succ]
  refine wpList_step (fun K hK => ?_)
  go_simp
  refine hK _ _ ?_
  clear hK K
  try simp only [Act.put, List.setIfInBounds_toArray, List.set_cons_zero, List.set_cons_succ]
  refine wpList_step (fun K hK => ?_)
  (first | go_at_call 21 | (go_simp; go_at_call 21))
  refine (HC.out).mono ?_
  rintro e w4 ⟨rfl, b4⟩
  try go_simp
  refine hK _ _ ?_
  clear hK K
  try simp only [Act.put, List.setIfInBounds_toArray, List.set_cons_zero, List.set_cons_succ]
  have d0 := (b4.cell (p := ⟨G, 0, none⟩) (heap_lt hG)).trans x0
  have d1 := (b4.cell (p := ⟨G, 1, none⟩) (heap_lt hG)).trans x1
  subst hD
  refine wpList_step (fun K hK => ?_)
  go_simp
  refine hK _ _ ?_
  clear hK K
  try simp only [Act.put, List.setIfInBounds_toArray, List.set_cons_zero, List.set_cons_succ]
  refine wpList_step (fun K hK => ?_)
  go_simp
  refine hK _ _ ?_
  clear hK K
  try simp only [Act.put, List.setIfInBounds_toArray, List.set_cons_zero, List.set_cons_succ]
  refine wpList_step (fun K hK => ?_)
  go_simp
  refine hK _ _ ?_
  clear hK K
  try simp only [Act.put, List.setIfInBounds_toArray, List.set_cons_zero, List.set_cons_succ]
  refine wpList_step (fun K hK => ?_)
  go_simp
  refine hK _ _ ?_
  clear hK K
  try simp only [Act.put, List.setIfInBounds_toArray, List.set_cons_zero, List.set_cons_succ]
  refine wpList_step (fun K hK => ?_)
  go_simp
  refine hK _ _ ?_
  clear hK K
  try simp only [Act.put, List.setIfInBounds_toArray, List.set_cons_zero, List.set_cons_succ]
  refine wpList_step (fun K hK => ?_)
  go_simp
  refine hK _ _ ?_
  clear hK K
  try simp only [Act.put, List.setIfInBounds_toArray, List.set_cons_zero, List.set_cons_succ]
  refine wpList_step (fun K hK => ?_)
  (first | go_at_call 19 | (go_simp; go_at_call 19))
  refine (HW.out _ _).mono ?_
  rintro e w5 ⟨rfl, b5⟩
  try go_simp
  refine hK _ _ ?_
  clear hK K
  try simp only [Act.put, List.setIfInBounds_toArray, List.set_cons_zero, List.set_cons_succ]
  refine wpList_step (fun K hK => ?_)
  go_simp
  refine hK _ _ ?_
  clear hK K
  try simp only [Act.put, List.setIfInBounds_toArray, List.set_cons_zero, List.set_cons_succ]
  refine wpList_step (fun K hK => ?_)
  go_simp
  refine hK _ _ ?_
  clear hK K
  try simp only [Act.put, List.setIfInBounds_toArray, List.set_cons_zero, List.set_cons_succ]
  refine wpList_step (fun K hK => ?_)
  go_simp
  refine hK _ _ ?_
  clear hK K
  try simp only [Act.put, List.setIfInBounds_toArray, List.set_cons_zero, List.set_cons_succ]
  refine wpList_nil ?_
  exact HQ.out _ _ _ _ _ _ _ _ _ _ _ _ _ _ _ _ _ _ _ _ _ _ _ _ _ _ _ _ _ _ _ _ _ _ (b4.trans (b5.mono b4.size))
end Go.Proofs.Ytedocnidgiglaaa
namespace Go.Proofs.Ytedocnidgiglaaa
open Go.RowKit
set_option linter.unusedVariables false
set_option linter.unusedSimpArgs false
set_option maxRecDepth 1000000 in
set_option maxHeartbeats 4000000 in
theorem speaks11 (w : World) : Calls Try.prog 13 #[] w fun e w' => e = .returned (.bool true) ∧ Below w.heap.size w w' := by
  have HP := Lib.hid (fun u => parse_is (Pop.popF 64) (Lib.hid (fun x hx u => ones_any x u hx)) yV (by rw [yV_size]; decide) u)
  have HF := Lib.hid (fun u b hb => yfile b u hb)
  have HV := Lib.hid (And.intro yV_err (And.intro yV_n (And.intro yV_sg (And.intro yV_wide (And.intro yV_size yV_data)))))
  have H64 := Lib.hid (fSec_64 yV)
  generalize yV = V at *
  go_enter Try.func13, Try.ntmps13
  go_upto_region 1 with (fail)
  refine ureg1 _ _ _ _ _ _ _ _ _ _ _ _ _ _ _ _ _ _ _ _ _ _ _ _ _ _ _ _ _ _ _ _ _ _ _ _ _ _ _ _ _ _ _ _ _ _ V w HF (fun u4 u5 u6 w1 b1 => ?_)
  have HB1 := Lib.hid b1; clear b1
  go_upto_region 2 with (fail)
  refine ureg2 _ _ _ _ _ _ _ _ _ _ _ _ _ _ _ _ _ _ _ _ _ _ _ _ _ _ _ _ _ _ _ _ _ _ _ _ _ _ _ _ _ _ _ _ _ (Pop.popF 64) V w1 HP (fun u7 u8 u9 u10 u11 G big wide abi ver pad h0 h1 h2 h3 h4 h5 h6 h7 h8 h9 h10 h11 h12 As ns cs Ap np cp nm k u w2 hfi hu hG hg b2 => ?_)
  subst hu
  have HB2 := Lib.hid (HB1.out.trans (b2.mono HB1.out.size)); clear b2 HB1
  obtain ⟨e0, e1, e2, e3, e4, e5⟩ := HV.out
  rcases hfi with ⟨h, _⟩ | ⟨_, rfl, A, c, b3, hA, _, _, _, hv⟩
  · exact absurd e0 h
  have HC := Lib.hid (fun h => fdata_any (bigB V) true (byteN V 7) (byteN V 8) (V.extract 9 16) (hdN V 0) (hdN V 1) (hdN V 2) (hdN V 3) (hdN V 4) (hdN V 5) (hdN V 6) (hdN V 7) (hdN V 8) (hdN V 9) (hdN V 10) (hdN V 11) (hdN V 12) A 2 c (some ⟨b3, 0, none⟩) 1 1 (nameS V) (fSec V) V 1 w2 h H64.out (by rw [e4]; decide) (by decide) (by decide))
  injection hv with hv
  injection hv with hv
  simp only [List.cons.injEq, Value.bool.injEq, Value.int.injEq, Value.string.injEq, Value.slice.injEq, true_and, and_true, Int.natCast_inj] at hv
  obtain ⟨rfl, rfl, rfl, rfl, rfl, rfl, rfl, rfl, rfl, rfl, rfl, rfl, rfl, rfl, rfl, rfl, rfl, rfl, ⟨rfl, rfl, rfl⟩, ⟨rfl, rfl, rfl⟩, rfl⟩ := hv
  have hA2 : 0 < 2 → ∃ b, As = some ⟨b, 0, none⟩ ∧ w2.heap[b]? = some (.cells (rowU64 (flatF 10 (fSec V) 2)) 52 (0, 0)) := fun _ => by
    obtain ⟨b, _, _, q, q2⟩ := hA (by rw [e1]; decide)
    rw [e1] at q2
    exact ⟨b, q, q2⟩
  have HCC := Lib.hid (HC.out hA2)
  rw [e5] at HCC
  rw [e1, e2, e3] at hG
  clear HC hA2 hA HV e0 e1 e2 e3 e4 e5 HP HF H64
  go_upto_region 3 with (fail)
  refine ureg3 _ _ _ _ _ _ _ _ _ _ _ _ _ _ _ _ _ _ _ _ _ _ _ _ _ _ _ _ _ _ _ _ _ _ _ _ _ _ _ _ _ _ _ (bigB V) (byteN V 7) (byteN V 8) (V.extract 9 16) (hdN V 0) (hdN V 1) (hdN V 2) (hdN V 3) (hdN V 4) (hdN V 5) (hdN V 6) (hdN V 7) (hdN V 8) (hdN V 9) (hdN V 10) (hdN V 11) (hdN V 12) As cs (some ⟨b3, 0, none⟩) 1 (nameS V) G V _ w2 hG rfl HCC (Lib.hid (fun u b => word_true b u)) (by rw [Lib.cell_of_heap hG]; rfl) (by rw [Lib.cell_of_heap hG]; rfl) (by rw [Lib.cell_of_heap hG]; rfl) (by rw [Lib.cell_of_heap hG]; rfl) (fun u12 u13 u14 u15 u16 u17 u18 u19 u20 u21 u22 u23 u24 u25 u26 u27 u28 u29 u30 u31 u32 u33 u34 u35 u36 u37 u38 u39 u40 u41 u42 u43 u44 w3 b3 => ?_)
  have HB3 := Lib.hid (HB2.out.trans (b3.mono HB2.out.size)); clear b3
  go_wp2
  go_ret
  exact ⟨rfl, HB3.out⟩
end Go.Proofs.Ytedocnidgiglaaa
