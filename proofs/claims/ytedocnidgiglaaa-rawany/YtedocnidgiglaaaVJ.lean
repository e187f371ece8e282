/- The section part of the reference's Why. Conditions: those written in each theorem. -/
import Derived.Test.YtedocnidgiglaaaJC
namespace Go.Proofs.Ytedocnidgiglaaa
open Go.RowKit
set_option linter.unusedVariables false
set_option maxRecDepth 1000000 in
set_option maxHeartbeats 1000000 in
theorem wsec (Q : Exit → Act → World → Prop) (c1 c2 c3 c5 c14 c15 c16 c17 c18 c19 c20 c21 c22 c23 c24 c25 c26 c27 c28 c29 c30 c31 c32 c33 c34 c35 c36 c37 c38 c39 c40 c41 c42 c43 c44 c45 c46 c47 c48 c49 c50 c51 c52 c53 c54 c55 c56 c57 c58 c59 c60 c61 c62 c63 c64 c65 c66 c67 c68 c69 c70 c71 c72 c73 c74 c75 c76 c77 c78 c80 c81 c82 c83 c84 c85 c86 c87 c88 c89 c90 c91 c92 c93 c94 c95 c96 c97 c98 c99 c100 c101 c102 c103 c104 c105 c106 c107 c108 c109 c110 c111 c112 c113 c114 c115 c116 c117 c118 c119 c120 c121 c122 c123 c124 c125 c126 c127 c128 c129 c130 c131 c132 c133 c134 c135 c136 c137 c138 c139 c140 c141 c142 c143 c144 c145 c146 c147 c148 c149 c150 c151 c152 c153 c154 c155 c156 c157 c158 c159 c160 c161 c162 c163 c164 c165 c166 c167 c168 c169 c170 c171 c172 c173 c174 c175 c176 c177 c178 c179 c180 c181 c182 c183 c184 c185 c186 c187 c188 c189 c190 c191 c192 c193 c194 c195 c196 c197 c198 c199 c200 c201 c202 c203 c204 c205 c206 c207 c208 c209 c210 c211 c212 c213 c214 c215 c216 c217 c218 c219 c220 c221 c222 c223 c224 c225 c226 c227 c228 c229 c230 c231 c232 c233 c234 c235 c236 c237 c238 c239 c240 c241 c242 c243 : Value) (s : ByteArray) (big : Bool) (L eh ph sh wl h4 a h7 h8 h9 h10 h11 h12 n q z E : Nat) (f : Nat → Nat) (b0 : Bool) (hb0 : b0 = ((a : Int) == 0)) (W : World) (hL : W.heap[L]? = some (.cells #[.int .u64 (h7 : Nat), .int .u64 (h8 : Nat), .int .u64 (h9 : Nat), .int .u64 (h10 : Nat), .int .u64 (h11 : Nat), .int .u64 (h12 : Nat)] 47 (0, 0)))
    (HT : Hid (∀ b, b < 18446744073709551616 → ∀ u, Calls Try.prog 58 #[.string s, .int .u64 (a : Nat), .int .u64 (b : Nat)] u fun e w' => e = .returned (.bool (decide (a + b ≤ z))) ∧ u = w'))
    (HF : a + sh ≤ z → Hid (∀ k, k < 10 → ∀ u, Calls Try.prog 20 #[.bool big, .int .u64 (wl : Nat), .string s, .int .u64 (a : Nat), .int .i64 (k : Nat)] u fun e w' => e = .returned (.int .u64 (f k : Nat)) ∧ Below u.heap.size u w'))
    (hsh : sh ≤ 64) (hn : n = if a = 0 then 0 else if h11 = 0 then f 5 else h11) (hm : q = if a = 0 then 0 else if h12 = 65535 then f 6 else h12)
    (hE : E = if a = 0 then (if h11 ≠ 0 then 10 else if h12 ≠ 0 then 11 else 0) else if ¬ a + 1 * sh ≤ z then 9 else if n = 0 ∨ 4096 < n then 10 else if ¬ a + n * sh ≤ z then 9 else if f 1 ≠ 0 then 27 else if n ≤ q then 11 else 0)
    (hR : E ≠ 0 → ∀ (a' : Act) (w' : World), a'.tmps.getD 2 undef = .int .i64 (E : Nat) → a'.defers = [] → Below W.heap.size W w' → Q .ret a' w')
    (hQ : ∀ (u2 u14 u80 u81 u82 u83 u84 u85 u86 u87 u88 u89 u90 u91 u92 u93 u94 u95 u96 u97 u98 u99 u100 u101 u102 u103 u104 u105 u106 u107 u108 u109 u110 u111 u112 u113 u114 u115 u116 u117 u118 u119 u120 u121 u122 u123 u124 u125 u126 u127 u128 u129 u130 : Value) (w' : World), E = 0 → Below W.heap.size W w' → Q .normal ⟨#[.string s, c1, u2, c3, .bool big, c5, .int .u64 (eh : Nat), .int .u64 (ph : Nat), .int .u64 (sh : Nat), .int .u64 (wl : Nat), .int .u64 (h4 : Nat), .int .u64 (a : Nat), .pointer (some ⟨L, 0, none⟩), .int .u64 (n : Nat), u14, c15, c16, c17, c18, c19, c20, c21, c22, c23, c24, c25, c26, c27, c28, c29, c30, c31, c32, c33, c34, c35, c36, c37, c38, c39, c40, c41, c42, c43, c44, c45, c46, c47, c48, c49, c50, c51, c52, c53, c54, c55, c56, c57, c58, c59, c60, c61, c62, c63, c64, c65, c66, c67, c68, c69, c70, c71, c72, c73, c74, c75, c76, c77, c78, .bool b0, u80, u81, u82, u83, u84, u85, u86, u87, u88, u89, u90, u91, u92, u93, u94, u95, u96, u97, u98, u99, u100, u101, u102, u103, u104, u105, u106, u107, u108, u109, u110, u111, u112, u113, u114, u115, u116, u117, u118, u119, u120, u121, u122, u123, u124, u125, u126, u127, u128, u129, u130, c131, c132, c133, c134, c135, c136, c137, c138, c139, c140, c141, c142, c143, c144, c145, c146, c147, c148, c149, c150, c151, c152, c153, c154, c155, c156, c157, c158, c159, c160, c161, c162, c163, c164, c165, c166, c167, c168, c169, c170, c171, c172, c173, c174, c175, c176, c177, c178, c179, c180, c181, c182, c183, c184, c185, c186, c187, c188, c189, c190, c191, c192, c193, c194, c195, c196, c197, c198, c199, c200, c201, c202, c203, c204, c205, c206, c207, c208, c209, c210, c211, c212, c213, c214, c215, c216, c217, c218, c219, c220, c221, c222, c223, c224, c225, c226, c227, c228, c229, c230, c231, c232, c233, c234, c235, c236, c237, c238, c239, c240, c241, c242, c243], []⟩ w') :
    (Code.cond (Go.Operand.tmp 79) (Go.Code.seq (Go.Code.seq (Go.Code.region 19 #[⟨some 80, .indexAddr 47 (.tmp 12) (.const (.int .i64 4)), 0, "ref.go:75", #[], none⟩, ⟨some 81, .load 29 (.tmp 80), 29, "ref.go:75", #[⟨0, .data⟩], none⟩, ⟨some 82, .binOp .neq 29 (.tmp 81) (.const (.int .u64 0)) 29, 4, "ref.go:75", #[⟨1, .data⟩], none⟩] false) (Go.Code.cond (Go.Operand.tmp 82) (Go.Code.seq (Go.Code.region 20 #[⟨some 2, .assign (.const (.int .i64 10)), 3, "ref.go:76", #[], none⟩] false) Go.Code.ret) Go.Code.skip)) (Go.Code.seq (Go.Code.region 21 #[⟨some 83, .indexAddr 47 (.tmp 12) (.const (.int .i64 5)), 0, "ref.go:78", #[], none⟩, ⟨some 84, .load 29 (.tmp 83), 29, "ref.go:78", #[⟨0, .data⟩], none⟩, ⟨some 85, .binOp .neq 29 (.tmp 84) (.const (.int .u64 0)) 29, 4, "ref.go:78", #[⟨1, .data⟩], none⟩] false) (Go.Code.cond (Go.Operand.tmp 85) (Go.Code.seq (Go.Code.region 22 #[⟨some 2, .assign (.const (.int .i64 11)), 3, "ref.go:79", #[], none⟩] false) Go.Code.ret) Go.Code.skip))) (Go.Code.seq (Go.Code.seq (Go.Code.region 23 #[⟨some 86, .move (.tmp 0), 9, "ref.go:82", #[], none⟩, ⟨some 87, .move (.tmp 11), 29, "ref.go:82", #[], none⟩, ⟨some 88, .move (.tmp 8), 29, "ref.go:82", #[], none⟩, ⟨some 89, .call { callee := .value (.func 58), args := #[.tmp 86, .tmp 87, .tmp 88], argTypes := #[9, 29, 29] }, 4, "ref.go:82", #[⟨0, .data⟩, ⟨1, .data⟩, ⟨2, .data⟩], none⟩, ⟨some 90, .unOp .not 4 (.tmp 89), 4, "ref.go:82", #[⟨3, .data⟩], none⟩] false) (Go.Code.cond (Go.Operand.tmp 90) (Go.Code.seq (Go.Code.region 24 #[⟨some 2, .assign (.const (.int .i64 9)), 3, "ref.go:83", #[], none⟩] false) Go.Code.ret) Go.Code.skip)) (Go.Code.seq (Go.Code.region 25 #[⟨some 91, .indexAddr 47 (.tmp 12) (.const (.int .i64 4)), 0, "ref.go:85", #[], none⟩, ⟨some 92, .load 29 (.tmp 91), 29, "ref.go:85", #[⟨0, .data⟩], none⟩, ⟨some 13, .assign (.tmp 92), 29, "ref.go:85", #[⟨1, .data⟩, ⟨0, .phase⟩, ⟨1, .phase⟩], none⟩] false) (Go.Code.seq (Go.Code.seq (Go.Code.region 26 #[⟨some 93, .move (.tmp 13), 29, "ref.go:86", #[], none⟩, ⟨some 94, .binOp .eql 29 (.tmp 93) (.const (.int .u64 0)) 29, 4, "ref.go:86", #[⟨0, .data⟩], none⟩] false) (Go.Code.cond (Go.Operand.tmp 94) (Go.Code.region 27 #[⟨some 95, .move (.tmp 4), 4, "ref.go:87", #[], none⟩, ⟨some 96, .move (.tmp 9), 29, "ref.go:87", #[], none⟩, ⟨some 97, .move (.tmp 0), 9, "ref.go:87", #[], none⟩, ⟨some 98, .move (.tmp 11), 29, "ref.go:87", #[], none⟩, ⟨some 99, .call { callee := .value (.func 20), args := #[.tmp 95, .tmp 96, .tmp 97, .tmp 98, .const (.int .i64 5)], argTypes := #[4, 29, 9, 29, 3] }, 29, "ref.go:87", #[⟨0, .data⟩, ⟨1, .data⟩, ⟨2, .data⟩, ⟨3, .data⟩], none⟩, ⟨some 13, .assign (.tmp 99), 29, "ref.go:87", #[⟨4, .data⟩, ⟨4, .chain⟩, ⟨0, .phase⟩, ⟨1, .phase⟩, ⟨2, .phase⟩, ⟨3, .phase⟩, ⟨4, .phase⟩], none⟩] false) Go.Code.skip)) (Go.Code.seq (Go.Code.seq (Go.Code.region 28 #[⟨some 100, .move (.tmp 13), 29, "ref.go:89", #[], none⟩, ⟨some 101, .binOp .eql 29 (.tmp 100) (.const (.int .u64 0)) 29, 4, "ref.go:89", #[⟨0, .data⟩], none⟩, ⟨some 102, .move (.tmp 101), 4, "ref.go:89", #[⟨1, .data⟩], none⟩, ⟨some 103, .move (.tmp 13), 29, "ref.go:89", #[⟨2, .guard⟩], some (2, false)⟩, ⟨some 104, .binOp .gtr 29 (.tmp 103) (.const (.int .u64 4096)) 29, 4, "ref.go:89", #[⟨3, .data⟩, ⟨2, .guard⟩], some (2, false)⟩, ⟨some 105, .pick (.tmp 102) (.const (.bool true)) (.tmp 104), 4, "ref.go:89", #[⟨2, .data⟩, ⟨4, .data⟩], none⟩] false) (Go.Code.cond (Go.Operand.tmp 105) (Go.Code.seq (Go.Code.region 29 #[⟨some 2, .assign (.const (.int .i64 10)), 3, "ref.go:90", #[], none⟩] false) Go.Code.ret) Go.Code.skip)) (Go.Code.seq (Go.Code.seq (Go.Code.region 30 #[⟨some 106, .move (.tmp 0), 9, "ref.go:92", #[], none⟩, ⟨some 107, .move (.tmp 11), 29, "ref.go:92", #[], none⟩, ⟨some 108, .move (.tmp 13), 29, "ref.go:92", #[], none⟩, ⟨some 109, .move (.tmp 8), 29, "ref.go:92", #[], none⟩, ⟨some 110, .binOp .mul 29 (.tmp 108) (.tmp 109) 29, 29, "ref.go:92", #[⟨2, .data⟩, ⟨3, .data⟩], none⟩, ⟨some 111, .call { callee := .value (.func 58), args := #[.tmp 106, .tmp 107, .tmp 110], argTypes := #[9, 29, 29] }, 4, "ref.go:92", #[⟨0, .data⟩, ⟨1, .data⟩, ⟨4, .data⟩], none⟩, ⟨some 112, .unOp .not 4 (.tmp 111), 4, "ref.go:92", #[⟨5, .data⟩], none⟩] false) (Go.Code.cond (Go.Operand.tmp 112) (Go.Code.seq (Go.Code.region 31 #[⟨some 2, .assign (.const (.int .i64 9)), 3, "ref.go:93", #[], none⟩] false) Go.Code.ret) Go.Code.skip)) (Go.Code.seq (Go.Code.seq (Go.Code.region 32 #[⟨some 113, .move (.tmp 4), 4, "ref.go:95", #[], none⟩, ⟨some 114, .move (.tmp 9), 29, "ref.go:95", #[], none⟩, ⟨some 115, .move (.tmp 0), 9, "ref.go:95", #[], none⟩, ⟨some 116, .move (.tmp 11), 29, "ref.go:95", #[], none⟩, ⟨some 117, .call { callee := .value (.func 20), args := #[.tmp 113, .tmp 114, .tmp 115, .tmp 116, .const (.int .i64 1)], argTypes := #[4, 29, 9, 29, 3] }, 29, "ref.go:95", #[⟨0, .data⟩, ⟨1, .data⟩, ⟨2, .data⟩, ⟨3, .data⟩], none⟩, ⟨some 118, .binOp .neq 29 (.tmp 117) (.const (.int .u64 0)) 29, 4, "ref.go:95", #[⟨4, .data⟩], none⟩] false) (Go.Code.cond (Go.Operand.tmp 118) (Go.Code.seq (Go.Code.region 33 #[⟨some 2, .assign (.const (.int .i64 27)), 3, "ref.go:96", #[], none⟩] false) Go.Code.ret) Go.Code.skip)) (Go.Code.seq (Go.Code.region 34 #[⟨some 119, .indexAddr 47 (.tmp 12) (.const (.int .i64 5)), 0, "ref.go:98", #[], none⟩, ⟨some 120, .load 29 (.tmp 119), 29, "ref.go:98", #[⟨0, .data⟩], none⟩, ⟨some 14, .assign (.tmp 120), 29, "ref.go:98", #[⟨1, .data⟩, ⟨0, .phase⟩, ⟨1, .phase⟩], none⟩] false) (Go.Code.seq (Go.Code.seq (Go.Code.region 35 #[⟨some 121, .move (.tmp 14), 29, "ref.go:99", #[], none⟩, ⟨some 122, .binOp .eql 29 (.tmp 121) (.const (.int .u64 65535)) 29, 4, "ref.go:99", #[⟨0, .data⟩], none⟩] false) (Go.Code.cond (Go.Operand.tmp 122) (Go.Code.region 36 #[⟨some 123, .move (.tmp 4), 4, "ref.go:100", #[], none⟩, ⟨some 124, .move (.tmp 9), 29, "ref.go:100", #[], none⟩, ⟨some 125, .move (.tmp 0), 9, "ref.go:100", #[], none⟩, ⟨some 126, .move (.tmp 11), 29, "ref.go:100", #[], none⟩, ⟨some 127, .call { callee := .value (.func 20), args := #[.tmp 123, .tmp 124, .tmp 125, .tmp 126, .const (.int .i64 6)], argTypes := #[4, 29, 9, 29, 3] }, 29, "ref.go:100", #[⟨0, .data⟩, ⟨1, .data⟩, ⟨2, .data⟩, ⟨3, .data⟩], none⟩, ⟨some 14, .assign (.tmp 127), 29, "ref.go:100", #[⟨4, .data⟩, ⟨4, .chain⟩, ⟨0, .phase⟩, ⟨1, .phase⟩, ⟨2, .phase⟩, ⟨3, .phase⟩, ⟨4, .phase⟩], none⟩] false) Go.Code.skip)) (Go.Code.seq (Go.Code.region 37 #[⟨some 128, .move (.tmp 14), 29, "ref.go:102", #[], none⟩, ⟨some 129, .move (.tmp 13), 29, "ref.go:102", #[], none⟩, ⟨some 130, .binOp .geq 29 (.tmp 128) (.tmp 129) 29, 4, "ref.go:102", #[⟨0, .data⟩, ⟨1, .data⟩], none⟩] false) (Go.Code.cond (Go.Operand.tmp 130) (Go.Code.seq (Go.Code.region 38 #[⟨some 2, .assign (.const (.int .i64 11)), 3, "ref.go:103", #[], none⟩] false) Go.Code.ret) Go.Code.skip))))))))))).wp Try.prog Q ⟨#[.string s, c1, c2, c3, .bool big, c5, .int .u64 (eh : Nat), .int .u64 (ph : Nat), .int .u64 (sh : Nat), .int .u64 (wl : Nat), .int .u64 (h4 : Nat), .int .u64 (a : Nat), .pointer (some ⟨L, 0, none⟩), .int .u64 0, c14, c15, c16, c17, c18, c19, c20, c21, c22, c23, c24, c25, c26, c27, c28, c29, c30, c31, c32, c33, c34, c35, c36, c37, c38, c39, c40, c41, c42, c43, c44, c45, c46, c47, c48, c49, c50, c51, c52, c53, c54, c55, c56, c57, c58, c59, c60, c61, c62, c63, c64, c65, c66, c67, c68, c69, c70, c71, c72, c73, c74, c75, c76, c77, c78, .bool b0, c80, c81, c82, c83, c84, c85, c86, c87, c88, c89, c90, c91, c92, c93, c94, c95, c96, c97, c98, c99, c100, c101, c102, c103, c104, c105, c106, c107, c108, c109, c110, c111, c112, c113, c114, c115, c116, c117, c118, c119, c120, c121, c122, c123, c124, c125, c126, c127, c128, c129, c130, c131, c132, c133, c134, c135, c136, c137, c138, c139, c140, c141, c142, c143, c144, c145, c146, c147, c148, c149, c150, c151, c152, c153, c154, c155, c156, c157, c158, c159, c160, c161, c162, c163, c164, c165, c166, c167, c168, c169, c170, c171, c172, c173, c174, c175, c176, c177, c178, c179, c180, c181, c182, c183, c184, c185, c186, c187, c188, c189, c190, c191, c192, c193, c194, c195, c196, c197, c198, c199, c200, c201, c202, c203, c204, c205, c206, c207, c208, c209, c210, c211, c212, c213, c214, c215, c216, c217, c218, c219, c220, c221, c222, c223, c224, c225, c226, c227, c228, c229, c230, c231, c232, c233, c234, c235, c236, c237, c238, c239, c240, c241, c242, c243], []⟩ W := by
  try dsimp only at hQ ⊢
  have HQ := Lib.hid hQ; have HR := Lib.hid hR; have HE := Lib.hid hE; have HN := Lib.hid hn; have HM := Lib.hid hm; clear hQ hR hE hn hm
  have c4 : W.cell? ⟨L, 4, none⟩ = some (.int .u64 (h11 : Nat)) := by rw [Lib.cell_of_heap hL]; rfl
  have c5 : W.cell? ⟨L, 5, none⟩ = some (.int .u64 (h12 : Nat)) := by rw [Lib.cell_of_heap hL]; rfl
  have HL := Lib.hid hL; clear hL
  have X5 := Lib.hid (fun (u' : World) (hu : Below W.heap.size W u') => show u'.cell? ⟨L, 5, none⟩ = some (.int .u64 (h12 : Nat)) by rw [Lib.cell_of_heap (heap_low HL.out hu)]; rfl)
  by_cases ha : a = 0
  · obtain rfl : b0 = true := by rw [hb0]; simp <;> omega
    clear hb0
    by_cases hn : h11 = 0
    · have y11 : ((h11 : Int) != 0) = false := by simp <;> omega
      by_cases hq : h12 = 0
      · have y12 : ((h12 : Int) != 0) = false := by simp <;> omega
        have e : E = 0 := by rw [HE.out, if_pos ha, if_neg (fun q => q hn), if_neg (fun q => q hq)]
        have en : n = 0 := by rw [HN.out, if_pos ha]
        subst en
        have HQ2 := Lib.hid e; clear e HE HN HM
        go_wp2_with (first | (go_at_call 58; with_reducible refine (HT1.out _).mono ?_; rintro e w5 ⟨rfl, rfl⟩) | (go_at_call 58; with_reducible refine (HT2.out _).mono ?_; rintro e w5 ⟨rfl, rfl⟩) | (go_at_call 20; with_reducible refine (HF5.out _).mono ?_; rintro e w6 ⟨rfl, b6⟩; have HB6 := Lib.hid b6; clear b6) | (go_at_call 20; with_reducible refine (HF1.out _).mono ?_; rintro e w7 ⟨rfl, b7⟩; have HB7 := Lib.hid b7; clear b7; have c57 := X5.out _ (HB7.out)) | (go_at_call 20; with_reducible refine (HF6.out _).mono ?_; rintro e w8 ⟨rfl, b8⟩; have HB8 := Lib.hid b8; clear b8))
        exact HQ.out _ _ _ _ _ _ _ _ _ _ _ _ _ _ _ _ _ _ _ _ _ _ _ _ _ _ _ _ _ _ _ _ _ _ _ _ _ _ _ _ _ _ _ _ _ _ _ _ _ _ _ _ _ _ HQ2.out (Below.refl _ _)
      · have y12 : ((h12 : Int) != 0) = true := by simp <;> omega
        have e : E = 11 := by rw [HE.out, if_pos ha, if_neg (fun q => q hn), if_pos hq]
        have HR2 := Lib.hid (HR.out (by rw [e]; decide))
        rw [e] at HR2
        clear e HE
        go_wp2_with (first | (go_at_call 58; with_reducible refine (HT1.out _).mono ?_; rintro e w5 ⟨rfl, rfl⟩) | (go_at_call 58; with_reducible refine (HT2.out _).mono ?_; rintro e w5 ⟨rfl, rfl⟩) | (go_at_call 20; with_reducible refine (HF5.out _).mono ?_; rintro e w6 ⟨rfl, b6⟩; have HB6 := Lib.hid b6; clear b6) | (go_at_call 20; with_reducible refine (HF1.out _).mono ?_; rintro e w7 ⟨rfl, b7⟩; have HB7 := Lib.hid b7; clear b7; have c57 := X5.out _ (HB7.out)) | (go_at_call 20; with_reducible refine (HF6.out _).mono ?_; rintro e w8 ⟨rfl, b8⟩; have HB8 := Lib.hid b8; clear b8))
        exact HR2.out _ _ rfl rfl (Below.refl _ _)
    · have y11 : ((h11 : Int) != 0) = true := by simp <;> omega
      have e : E = 10 := by rw [HE.out, if_pos ha, if_pos hn]
      have HR2 := Lib.hid (HR.out (by rw [e]; decide))
      rw [e] at HR2
      clear e HE
      go_wp2_with (first | (go_at_call 58; with_reducible refine (HT1.out _).mono ?_; rintro e w5 ⟨rfl, rfl⟩) | (go_at_call 58; with_reducible refine (HT2.out _).mono ?_; rintro e w5 ⟨rfl, rfl⟩) | (go_at_call 20; with_reducible refine (HF5.out _).mono ?_; rintro e w6 ⟨rfl, b6⟩; have HB6 := Lib.hid b6; clear b6) | (go_at_call 20; with_reducible refine (HF1.out _).mono ?_; rintro e w7 ⟨rfl, b7⟩; have HB7 := Lib.hid b7; clear b7; have c57 := X5.out _ (HB7.out)) | (go_at_call 20; with_reducible refine (HF6.out _).mono ?_; rintro e w8 ⟨rfl, b8⟩; have HB8 := Lib.hid b8; clear b8))
      exact HR2.out _ _ rfl rfl (Below.refl _ _)
  · obtain rfl : b0 = false := by rw [hb0]; simp <;> omega
    clear hb0
    by_cases ht : a + sh ≤ z
    · have HT1 := Lib.hid (HT.out sh (by omega)); rw [decide_eq_true ht] at HT1
      have HFF := HF ht
      have h1s : a + 1 * sh ≤ z := by rw [Nat.one_mul]; exact ht
      have HF1 := Lib.hid (show ∀ u, Calls Try.prog 20 #[.bool big, .int .u64 (wl : Nat), .string s, .int .u64 (a : Nat), .int .i64 1] u fun e w' => e = .returned (.int .u64 (f 1 : Nat)) ∧ Below u.heap.size u w' from HFF.out 1 (by decide))
      by_cases hz : h11 = 0
      · have yz : ((h11 : Int) == 0) = true := by simp <;> omega
        have en : f 5 = n := by rw [HN.out, if_neg ha, if_pos hz]
        have HF5 := Lib.hid (show ∀ u, Calls Try.prog 20 #[.bool big, .int .u64 (wl : Nat), .string s, .int .u64 (a : Nat), .int .i64 5] u fun e w' => e = .returned (.int .u64 (f 5 : Nat)) ∧ Below u.heap.size u w' from HFF.out 5 (by decide)); rw [en] at HF5
        clear en
        by_cases hnb : n = 0 ∨ 4096 < n
        · have yn : ((n : Int) == 0) = true ∨ ((n : Int) == 0) = false ∧ (4096 : Int) < (n : Int) := by simp <;> omega
          rcases yn with yn | ⟨yn, yn2⟩
          · have e : E = 10 := by rw [HE.out, if_neg ha, if_neg (fun q => q h1s), if_pos hnb]
            have HR2 := Lib.hid (HR.out (by rw [e]; decide))
            rw [e] at HR2
            clear e HE
            go_wp2_with (first | (go_at_call 58; with_reducible refine (HT1.out _).mono ?_; rintro e w5 ⟨rfl, rfl⟩) | (go_at_call 58; with_reducible refine (HT2.out _).mono ?_; rintro e w5 ⟨rfl, rfl⟩) | (go_at_call 20; with_reducible refine (HF5.out _).mono ?_; rintro e w6 ⟨rfl, b6⟩; have HB6 := Lib.hid b6; clear b6) | (go_at_call 20; with_reducible refine (HF1.out _).mono ?_; rintro e w7 ⟨rfl, b7⟩; have HB7 := Lib.hid b7; clear b7; have c57 := X5.out _ (HB6.out.trans (HB7.out.mono HB6.out.size))) | (go_at_call 20; with_reducible refine (HF6.out _).mono ?_; rintro e w8 ⟨rfl, b8⟩; have HB8 := Lib.hid b8; clear b8))
            exact HR2.out _ _ rfl rfl (HB6.out)
          · have e : E = 10 := by rw [HE.out, if_neg ha, if_neg (fun q => q h1s), if_pos hnb]
            have HR2 := Lib.hid (HR.out (by rw [e]; decide))
            rw [e] at HR2
            clear e HE
            go_wp2_with (first | (go_at_call 58; with_reducible refine (HT1.out _).mono ?_; rintro e w5 ⟨rfl, rfl⟩) | (go_at_call 58; with_reducible refine (HT2.out _).mono ?_; rintro e w5 ⟨rfl, rfl⟩) | (go_at_call 20; with_reducible refine (HF5.out _).mono ?_; rintro e w6 ⟨rfl, b6⟩; have HB6 := Lib.hid b6; clear b6) | (go_at_call 20; with_reducible refine (HF1.out _).mono ?_; rintro e w7 ⟨rfl, b7⟩; have HB7 := Lib.hid b7; clear b7; have c57 := X5.out _ (HB6.out.trans (HB7.out.mono HB6.out.size))) | (go_at_call 20; with_reducible refine (HF6.out _).mono ?_; rintro e w8 ⟨rfl, b8⟩; have HB8 := Lib.hid b8; clear b8))
            exact HR2.out _ _ rfl rfl (HB6.out)
        · have yn : ((n : Int) == 0) = false := by simp <;> omega
          have yn2 : ¬ (4096 : Int) < (n : Int) := by omega
          have hns : n * sh ≤ 4096 * 64 := Nat.mul_le_mul (by omega) hsh
          have zm : IntKind.u64.wrap ((n : Int) * (sh : Int)) = ((n * sh : Nat) : Int) := by rw [← Int.natCast_mul, IntKind.wrap_u64]; omega
          obtain ⟨m, hmm⟩ : ∃ m, m = n * sh := ⟨_, rfl⟩
          rw [← hmm] at zm hns HE
          have HT2 := Lib.hid (HT.out m (by omega))
          clear hmm hns
          by_cases ht2 : a + m ≤ z
          · rw [decide_eq_true ht2] at HT2
            by_cases hf1 : f 1 = 0
            · have yf : ((f 1 : Int) != 0) = false := by simp <;> omega
              by_cases hq : h12 = 65535
              · have yq : ((h12 : Int) == 65535) = true := by simp <;> omega
                have eq : f 6 = q := by rw [HM.out, if_neg ha, if_pos hq]
                have HF6 := Lib.hid (show ∀ u, Calls Try.prog 20 #[.bool big, .int .u64 (wl : Nat), .string s, .int .u64 (a : Nat), .int .i64 6] u fun e w' => e = .returned (.int .u64 (f 6 : Nat)) ∧ Below u.heap.size u w' from HFF.out 6 (by decide)); rw [eq] at HF6
                clear eq
                by_cases hnq : n ≤ q
                · have yg : (n : Int) ≤ (q : Int) := by omega
                  have e : E = 11 := by rw [HE.out, if_neg ha, if_neg (fun q => q h1s), if_neg hnb, if_neg (fun q => q ht2), if_neg (fun q => q hf1), if_pos hnq]
                  have HR2 := Lib.hid (HR.out (by rw [e]; decide))
                  rw [e] at HR2
                  clear e HE
                  go_wp2_with (first | (go_at_call 58; with_reducible refine (HT1.out _).mono ?_; rintro e w5 ⟨rfl, rfl⟩) | (go_at_call 58; with_reducible refine (HT2.out _).mono ?_; rintro e w5 ⟨rfl, rfl⟩) | (go_at_call 20; with_reducible refine (HF5.out _).mono ?_; rintro e w6 ⟨rfl, b6⟩; have HB6 := Lib.hid b6; clear b6) | (go_at_call 20; with_reducible refine (HF1.out _).mono ?_; rintro e w7 ⟨rfl, b7⟩; have HB7 := Lib.hid b7; clear b7; have c57 := X5.out _ (HB6.out.trans (HB7.out.mono HB6.out.size))) | (go_at_call 20; with_reducible refine (HF6.out _).mono ?_; rintro e w8 ⟨rfl, b8⟩; have HB8 := Lib.hid b8; clear b8))
                  exact HR2.out _ _ rfl rfl ((HB6.out.trans (HB7.out.mono HB6.out.size)).trans (HB8.out.mono (HB6.out.trans (HB7.out.mono HB6.out.size)).size))
                · have yg : ¬ (n : Int) ≤ (q : Int) := by omega
                  have e : E = 0 := by rw [HE.out, if_neg ha, if_neg (fun q => q h1s), if_neg hnb, if_neg (fun q => q ht2), if_neg (fun q => q hf1), if_neg hnq]
                  have HQ2 := Lib.hid e; clear e HE
                  go_wp2_with (first | (go_at_call 58; with_reducible refine (HT1.out _).mono ?_; rintro e w5 ⟨rfl, rfl⟩) | (go_at_call 58; with_reducible refine (HT2.out _).mono ?_; rintro e w5 ⟨rfl, rfl⟩) | (go_at_call 20; with_reducible refine (HF5.out _).mono ?_; rintro e w6 ⟨rfl, b6⟩; have HB6 := Lib.hid b6; clear b6) | (go_at_call 20; with_reducible refine (HF1.out _).mono ?_; rintro e w7 ⟨rfl, b7⟩; have HB7 := Lib.hid b7; clear b7; have c57 := X5.out _ (HB6.out.trans (HB7.out.mono HB6.out.size))) | (go_at_call 20; with_reducible refine (HF6.out _).mono ?_; rintro e w8 ⟨rfl, b8⟩; have HB8 := Lib.hid b8; clear b8))
                  exact HQ.out _ _ _ _ _ _ _ _ _ _ _ _ _ _ _ _ _ _ _ _ _ _ _ _ _ _ _ _ _ _ _ _ _ _ _ _ _ _ _ _ _ _ _ _ _ _ _ _ _ _ _ _ _ _ HQ2.out ((HB6.out.trans (HB7.out.mono HB6.out.size)).trans (HB8.out.mono (HB6.out.trans (HB7.out.mono HB6.out.size)).size))
              · have yq : ((h12 : Int) == 65535) = false := by simp <;> omega
                have eq : h12 = q := by rw [HM.out, if_neg ha, if_neg hq]
                have HF6 := Lib.hid (show ∀ u, Calls Try.prog 20 #[.bool big, .int .u64 (wl : Nat), .string s, .int .u64 (a : Nat), .int .i64 6] u fun e w' => e = .returned (.int .u64 (f 6 : Nat)) ∧ Below u.heap.size u w' from HFF.out 6 (by decide))
                rw [eq] at c5 yq X5
                clear eq
                by_cases hnq : n ≤ q
                · have yg : (n : Int) ≤ (q : Int) := by omega
                  have e : E = 11 := by rw [HE.out, if_neg ha, if_neg (fun q => q h1s), if_neg hnb, if_neg (fun q => q ht2), if_neg (fun q => q hf1), if_pos hnq]
                  have HR2 := Lib.hid (HR.out (by rw [e]; decide))
                  rw [e] at HR2
                  clear e HE
                  go_wp2_with (first | (go_at_call 58; with_reducible refine (HT1.out _).mono ?_; rintro e w5 ⟨rfl, rfl⟩) | (go_at_call 58; with_reducible refine (HT2.out _).mono ?_; rintro e w5 ⟨rfl, rfl⟩) | (go_at_call 20; with_reducible refine (HF5.out _).mono ?_; rintro e w6 ⟨rfl, b6⟩; have HB6 := Lib.hid b6; clear b6) | (go_at_call 20; with_reducible refine (HF1.out _).mono ?_; rintro e w7 ⟨rfl, b7⟩; have HB7 := Lib.hid b7; clear b7; have c57 := X5.out _ (HB6.out.trans (HB7.out.mono HB6.out.size))) | (go_at_call 20; with_reducible refine (HF6.out _).mono ?_; rintro e w8 ⟨rfl, b8⟩; have HB8 := Lib.hid b8; clear b8))
                  exact HR2.out _ _ rfl rfl (HB6.out.trans (HB7.out.mono HB6.out.size))
                · have yg : ¬ (n : Int) ≤ (q : Int) := by omega
                  have e : E = 0 := by rw [HE.out, if_neg ha, if_neg (fun q => q h1s), if_neg hnb, if_neg (fun q => q ht2), if_neg (fun q => q hf1), if_neg hnq]
                  have HQ2 := Lib.hid e; clear e HE
                  go_wp2_with (first | (go_at_call 58; with_reducible refine (HT1.out _).mono ?_; rintro e w5 ⟨rfl, rfl⟩) | (go_at_call 58; with_reducible refine (HT2.out _).mono ?_; rintro e w5 ⟨rfl, rfl⟩) | (go_at_call 20; with_reducible refine (HF5.out _).mono ?_; rintro e w6 ⟨rfl, b6⟩; have HB6 := Lib.hid b6; clear b6) | (go_at_call 20; with_reducible refine (HF1.out _).mono ?_; rintro e w7 ⟨rfl, b7⟩; have HB7 := Lib.hid b7; clear b7; have c57 := X5.out _ (HB6.out.trans (HB7.out.mono HB6.out.size))) | (go_at_call 20; with_reducible refine (HF6.out _).mono ?_; rintro e w8 ⟨rfl, b8⟩; have HB8 := Lib.hid b8; clear b8))
                  exact HQ.out _ _ _ _ _ _ _ _ _ _ _ _ _ _ _ _ _ _ _ _ _ _ _ _ _ _ _ _ _ _ _ _ _ _ _ _ _ _ _ _ _ _ _ _ _ _ _ _ _ _ _ _ _ _ HQ2.out (HB6.out.trans (HB7.out.mono HB6.out.size))
            · have yf : ((f 1 : Int) != 0) = true := by simp <;> omega
              have e : E = 27 := by rw [HE.out, if_neg ha, if_neg (fun q => q h1s), if_neg hnb, if_neg (fun q => q ht2), if_pos hf1]
              have HR2 := Lib.hid (HR.out (by rw [e]; decide))
              rw [e] at HR2
              clear e HE
              go_wp2_with (first | (go_at_call 58; with_reducible refine (HT1.out _).mono ?_; rintro e w5 ⟨rfl, rfl⟩) | (go_at_call 58; with_reducible refine (HT2.out _).mono ?_; rintro e w5 ⟨rfl, rfl⟩) | (go_at_call 20; with_reducible refine (HF5.out _).mono ?_; rintro e w6 ⟨rfl, b6⟩; have HB6 := Lib.hid b6; clear b6) | (go_at_call 20; with_reducible refine (HF1.out _).mono ?_; rintro e w7 ⟨rfl, b7⟩; have HB7 := Lib.hid b7; clear b7; have c57 := X5.out _ (HB6.out.trans (HB7.out.mono HB6.out.size))) | (go_at_call 20; with_reducible refine (HF6.out _).mono ?_; rintro e w8 ⟨rfl, b8⟩; have HB8 := Lib.hid b8; clear b8))
              exact HR2.out _ _ rfl rfl (HB6.out.trans (HB7.out.mono HB6.out.size))
          · rw [decide_eq_false ht2] at HT2
            have e : E = 9 := by rw [HE.out, if_neg ha, if_neg (fun q => q h1s), if_neg hnb, if_pos ht2]
            have HR2 := Lib.hid (HR.out (by rw [e]; decide))
            rw [e] at HR2
            clear e HE
            go_wp2_with (first | (go_at_call 58; with_reducible refine (HT1.out _).mono ?_; rintro e w5 ⟨rfl, rfl⟩) | (go_at_call 58; with_reducible refine (HT2.out _).mono ?_; rintro e w5 ⟨rfl, rfl⟩) | (go_at_call 20; with_reducible refine (HF5.out _).mono ?_; rintro e w6 ⟨rfl, b6⟩; have HB6 := Lib.hid b6; clear b6) | (go_at_call 20; with_reducible refine (HF1.out _).mono ?_; rintro e w7 ⟨rfl, b7⟩; have HB7 := Lib.hid b7; clear b7; have c57 := X5.out _ (HB6.out.trans (HB7.out.mono HB6.out.size))) | (go_at_call 20; with_reducible refine (HF6.out _).mono ?_; rintro e w8 ⟨rfl, b8⟩; have HB8 := Lib.hid b8; clear b8))
            exact HR2.out _ _ rfl rfl (HB6.out)
      · have yz : ((h11 : Int) == 0) = false := by simp <;> omega
        have en : h11 = n := by rw [HN.out, if_neg ha, if_neg hz]
        have HF5 := Lib.hid (show ∀ u, Calls Try.prog 20 #[.bool big, .int .u64 (wl : Nat), .string s, .int .u64 (a : Nat), .int .i64 5] u fun e w' => e = .returned (.int .u64 (f 5 : Nat)) ∧ Below u.heap.size u w' from HFF.out 5 (by decide))
        rw [en] at c4 yz
        clear en
        by_cases hnb : n = 0 ∨ 4096 < n
        · have yn : ((n : Int) == 0) = true ∨ ((n : Int) == 0) = false ∧ (4096 : Int) < (n : Int) := by simp <;> omega
          rcases yn with yn | ⟨yn, yn2⟩
          · rw [yz] at yn; cases yn
          · have e : E = 10 := by rw [HE.out, if_neg ha, if_neg (fun q => q h1s), if_pos hnb]
            have HR2 := Lib.hid (HR.out (by rw [e]; decide))
            rw [e] at HR2
            clear e HE
            go_wp2_with (first | (go_at_call 58; with_reducible refine (HT1.out _).mono ?_; rintro e w5 ⟨rfl, rfl⟩) | (go_at_call 58; with_reducible refine (HT2.out _).mono ?_; rintro e w5 ⟨rfl, rfl⟩) | (go_at_call 20; with_reducible refine (HF5.out _).mono ?_; rintro e w6 ⟨rfl, b6⟩; have HB6 := Lib.hid b6; clear b6) | (go_at_call 20; with_reducible refine (HF1.out _).mono ?_; rintro e w7 ⟨rfl, b7⟩; have HB7 := Lib.hid b7; clear b7; have c57 := X5.out _ (HB7.out)) | (go_at_call 20; with_reducible refine (HF6.out _).mono ?_; rintro e w8 ⟨rfl, b8⟩; have HB8 := Lib.hid b8; clear b8))
            exact HR2.out _ _ rfl rfl (Below.refl _ _)
        · have yn : ((n : Int) == 0) = false := by simp <;> omega
          have yn2 : ¬ (4096 : Int) < (n : Int) := by omega
          have hns : n * sh ≤ 4096 * 64 := Nat.mul_le_mul (by omega) hsh
          have zm : IntKind.u64.wrap ((n : Int) * (sh : Int)) = ((n * sh : Nat) : Int) := by rw [← Int.natCast_mul, IntKind.wrap_u64]; omega
          obtain ⟨m, hmm⟩ : ∃ m, m = n * sh := ⟨_, rfl⟩
          rw [← hmm] at zm hns HE
          have HT2 := Lib.hid (HT.out m (by omega))
          clear hmm hns
          by_cases ht2 : a + m ≤ z
          · rw [decide_eq_true ht2] at HT2
            by_cases hf1 : f 1 = 0
            · have yf : ((f 1 : Int) != 0) = false := by simp <;> omega
              by_cases hq : h12 = 65535
              · have yq : ((h12 : Int) == 65535) = true := by simp <;> omega
                have eq : f 6 = q := by rw [HM.out, if_neg ha, if_pos hq]
                have HF6 := Lib.hid (show ∀ u, Calls Try.prog 20 #[.bool big, .int .u64 (wl : Nat), .string s, .int .u64 (a : Nat), .int .i64 6] u fun e w' => e = .returned (.int .u64 (f 6 : Nat)) ∧ Below u.heap.size u w' from HFF.out 6 (by decide)); rw [eq] at HF6
                clear eq
                by_cases hnq : n ≤ q
                · have yg : (n : Int) ≤ (q : Int) := by omega
                  have e : E = 11 := by rw [HE.out, if_neg ha, if_neg (fun q => q h1s), if_neg hnb, if_neg (fun q => q ht2), if_neg (fun q => q hf1), if_pos hnq]
                  have HR2 := Lib.hid (HR.out (by rw [e]; decide))
                  rw [e] at HR2
                  clear e HE
                  go_wp2_with (first | (go_at_call 58; with_reducible refine (HT1.out _).mono ?_; rintro e w5 ⟨rfl, rfl⟩) | (go_at_call 58; with_reducible refine (HT2.out _).mono ?_; rintro e w5 ⟨rfl, rfl⟩) | (go_at_call 20; with_reducible refine (HF5.out _).mono ?_; rintro e w6 ⟨rfl, b6⟩; have HB6 := Lib.hid b6; clear b6) | (go_at_call 20; with_reducible refine (HF1.out _).mono ?_; rintro e w7 ⟨rfl, b7⟩; have HB7 := Lib.hid b7; clear b7; have c57 := X5.out _ (HB7.out)) | (go_at_call 20; with_reducible refine (HF6.out _).mono ?_; rintro e w8 ⟨rfl, b8⟩; have HB8 := Lib.hid b8; clear b8))
                  exact HR2.out _ _ rfl rfl ((HB7.out).trans (HB8.out.mono (HB7.out).size))
                · have yg : ¬ (n : Int) ≤ (q : Int) := by omega
                  have e : E = 0 := by rw [HE.out, if_neg ha, if_neg (fun q => q h1s), if_neg hnb, if_neg (fun q => q ht2), if_neg (fun q => q hf1), if_neg hnq]
                  have HQ2 := Lib.hid e; clear e HE
                  go_wp2_with (first | (go_at_call 58; with_reducible refine (HT1.out _).mono ?_; rintro e w5 ⟨rfl, rfl⟩) | (go_at_call 58; with_reducible refine (HT2.out _).mono ?_; rintro e w5 ⟨rfl, rfl⟩) | (go_at_call 20; with_reducible refine (HF5.out _).mono ?_; rintro e w6 ⟨rfl, b6⟩; have HB6 := Lib.hid b6; clear b6) | (go_at_call 20; with_reducible refine (HF1.out _).mono ?_; rintro e w7 ⟨rfl, b7⟩; have HB7 := Lib.hid b7; clear b7; have c57 := X5.out _ (HB7.out)) | (go_at_call 20; with_reducible refine (HF6.out _).mono ?_; rintro e w8 ⟨rfl, b8⟩; have HB8 := Lib.hid b8; clear b8))
                  exact HQ.out _ _ _ _ _ _ _ _ _ _ _ _ _ _ _ _ _ _ _ _ _ _ _ _ _ _ _ _ _ _ _ _ _ _ _ _ _ _ _ _ _ _ _ _ _ _ _ _ _ _ _ _ _ _ HQ2.out ((HB7.out).trans (HB8.out.mono (HB7.out).size))
              · have yq : ((h12 : Int) == 65535) = false := by simp <;> omega
                have eq : h12 = q := by rw [HM.out, if_neg ha, if_neg hq]
                have HF6 := Lib.hid (show ∀ u, Calls Try.prog 20 #[.bool big, .int .u64 (wl : Nat), .string s, .int .u64 (a : Nat), .int .i64 6] u fun e w' => e = .returned (.int .u64 (f 6 : Nat)) ∧ Below u.heap.size u w' from HFF.out 6 (by decide))
                rw [eq] at c5 yq X5
                clear eq
                by_cases hnq : n ≤ q
                · have yg : (n : Int) ≤ (q : Int) := by omega
                  have e : E = 11 := by rw [HE.out, if_neg ha, if_neg (fun q => q h1s), if_neg hnb, if_neg (fun q => q ht2), if_neg (fun q => q hf1), if_pos hnq]
                  have HR2 := Lib.hid (HR.out (by rw [e]; decide))
                  rw [e] at HR2
                  clear e HE
                  go_wp2_with (first | (go_at_call 58; with_reducible refine (HT1.out _).mono ?_; rintro e w5 ⟨rfl, rfl⟩) | (go_at_call 58; with_reducible refine (HT2.out _).mono ?_; rintro e w5 ⟨rfl, rfl⟩) | (go_at_call 20; with_reducible refine (HF5.out _).mono ?_; rintro e w6 ⟨rfl, b6⟩; have HB6 := Lib.hid b6; clear b6) | (go_at_call 20; with_reducible refine (HF1.out _).mono ?_; rintro e w7 ⟨rfl, b7⟩; have HB7 := Lib.hid b7; clear b7; have c57 := X5.out _ (HB7.out)) | (go_at_call 20; with_reducible refine (HF6.out _).mono ?_; rintro e w8 ⟨rfl, b8⟩; have HB8 := Lib.hid b8; clear b8))
                  exact HR2.out _ _ rfl rfl (HB7.out)
                · have yg : ¬ (n : Int) ≤ (q : Int) := by omega
                  have e : E = 0 := by rw [HE.out, if_neg ha, if_neg (fun q => q h1s), if_neg hnb, if_neg (fun q => q ht2), if_neg (fun q => q hf1), if_neg hnq]
                  have HQ2 := Lib.hid e; clear e HE
                  go_wp2_with (first | (go_at_call 58; with_reducible refine (HT1.out _).mono ?_; rintro e w5 ⟨rfl, rfl⟩) | (go_at_call 58; with_reducible refine (HT2.out _).mono ?_; rintro e w5 ⟨rfl, rfl⟩) | (go_at_call 20; with_reducible refine (HF5.out _).mono ?_; rintro e w6 ⟨rfl, b6⟩; have HB6 := Lib.hid b6; clear b6) | (go_at_call 20; with_reducible refine (HF1.out _).mono ?_; rintro e w7 ⟨rfl, b7⟩; have HB7 := Lib.hid b7; clear b7; have c57 := X5.out _ (HB7.out)) | (go_at_call 20; with_reducible refine (HF6.out _).mono ?_; rintro e w8 ⟨rfl, b8⟩; have HB8 := Lib.hid b8; clear b8))
                  exact HQ.out _ _ _ _ _ _ _ _ _ _ _ _ _ _ _ _ _ _ _ _ _ _ _ _ _ _ _ _ _ _ _ _ _ _ _ _ _ _ _ _ _ _ _ _ _ _ _ _ _ _ _ _ _ _ HQ2.out (HB7.out)
            · have yf : ((f 1 : Int) != 0) = true := by simp <;> omega
              have e : E = 27 := by rw [HE.out, if_neg ha, if_neg (fun q => q h1s), if_neg hnb, if_neg (fun q => q ht2), if_pos hf1]
              have HR2 := Lib.hid (HR.out (by rw [e]; decide))
              rw [e] at HR2
              clear e HE
              go_wp2_with (first | (go_at_call 58; with_reducible refine (HT1.out _).mono ?_; rintro e w5 ⟨rfl, rfl⟩) | (go_at_call 58; with_reducible refine (HT2.out _).mono ?_; rintro e w5 ⟨rfl, rfl⟩) | (go_at_call 20; with_reducible refine (HF5.out _).mono ?_; rintro e w6 ⟨rfl, b6⟩; have HB6 := Lib.hid b6; clear b6) | (go_at_call 20; with_reducible refine (HF1.out _).mono ?_; rintro e w7 ⟨rfl, b7⟩; have HB7 := Lib.hid b7; clear b7; have c57 := X5.out _ (HB7.out)) | (go_at_call 20; with_reducible refine (HF6.out _).mono ?_; rintro e w8 ⟨rfl, b8⟩; have HB8 := Lib.hid b8; clear b8))
              exact HR2.out _ _ rfl rfl (HB7.out)
          · rw [decide_eq_false ht2] at HT2
            have e : E = 9 := by rw [HE.out, if_neg ha, if_neg (fun q => q h1s), if_neg hnb, if_pos ht2]
            have HR2 := Lib.hid (HR.out (by rw [e]; decide))
            rw [e] at HR2
            clear e HE
            go_wp2_with (first | (go_at_call 58; with_reducible refine (HT1.out _).mono ?_; rintro e w5 ⟨rfl, rfl⟩) | (go_at_call 58; with_reducible refine (HT2.out _).mono ?_; rintro e w5 ⟨rfl, rfl⟩) | (go_at_call 20; with_reducible refine (HF5.out _).mono ?_; rintro e w6 ⟨rfl, b6⟩; have HB6 := Lib.hid b6; clear b6) | (go_at_call 20; with_reducible refine (HF1.out _).mono ?_; rintro e w7 ⟨rfl, b7⟩; have HB7 := Lib.hid b7; clear b7; have c57 := X5.out _ (HB7.out)) | (go_at_call 20; with_reducible refine (HF6.out _).mono ?_; rintro e w8 ⟨rfl, b8⟩; have HB8 := Lib.hid b8; clear b8))
            exact HR2.out _ _ rfl rfl (Below.refl _ _)
    · have HT1 := Lib.hid (HT.out sh (by omega)); rw [decide_eq_false ht] at HT1
      have e : E = 9 := by rw [HE.out, if_neg ha, if_pos (by rw [Nat.one_mul]; exact ht)]
      have HR2 := Lib.hid (HR.out (by rw [e]; decide))
      rw [e] at HR2
      clear e HE
      go_wp2_with (first | (go_at_call 58; with_reducible refine (HT1.out _).mono ?_; rintro e w5 ⟨rfl, rfl⟩) | (go_at_call 58; with_reducible refine (HT2.out _).mono ?_; rintro e w5 ⟨rfl, rfl⟩) | (go_at_call 20; with_reducible refine (HF5.out _).mono ?_; rintro e w6 ⟨rfl, b6⟩; have HB6 := Lib.hid b6; clear b6) | (go_at_call 20; with_reducible refine (HF1.out _).mono ?_; rintro e w7 ⟨rfl, b7⟩; have HB7 := Lib.hid b7; clear b7; have c57 := X5.out _ (HB7.out)) | (go_at_call 20; with_reducible refine (HF6.out _).mono ?_; rintro e w8 ⟨rfl, b8⟩; have HB8 := Lib.hid b8; clear b8))
      exact HR2.out _ _ rfl rfl (Below.refl _ _)
end Go.Proofs.Ytedocnidgiglaaa
