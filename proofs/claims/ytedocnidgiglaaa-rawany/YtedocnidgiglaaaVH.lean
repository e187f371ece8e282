/- A region of the reference's Why. Conditions: those written in each theorem. -/
import Derived.Test.YtedocnidgiglaaaJC
namespace Go.Proofs.Ytedocnidgiglaaa
open Go.RowKit
set_option linter.unusedVariables false
set_option maxRecDepth 1000000 in
set_option maxHeartbeats 4000000 in
theorem wreg15 (Q : Exit → Act → World → Prop) (c0 c1 c2 c3 c4 c5 c9 c13 c14 c15 c16 c17 c18 c19 c20 c21 c22 c23 c24 c25 c26 c27 c28 c29 c30 c31 c32 c33 c34 c35 c36 c37 c38 c39 c40 c41 c42 c43 c44 c45 c46 c47 c48 c49 c50 c51 c52 c53 c54 c55 c56 c57 c58 c59 c60 c61 c62 c63 c64 c65 c66 c67 c68 c69 c70 c71 c72 c73 c74 c75 c76 c77 c78 c79 c80 c81 c82 c83 c84 c85 c86 c87 c88 c89 c90 c91 c92 c93 c94 c95 c96 c97 c98 c99 c100 c101 c102 c103 c104 c105 c106 c107 c108 c109 c110 c111 c112 c113 c114 c115 c116 c117 c118 c119 c120 c121 c122 c123 c124 c125 c126 c127 c128 c129 c130 c131 c132 c133 c134 c135 c136 c137 c138 c139 c140 c141 c142 c143 c144 c145 c146 c147 c148 c149 c150 c151 c152 c153 c154 c155 c156 c157 c158 c159 c160 c161 c162 c163 c164 c165 c166 c167 c168 c169 c170 c171 c172 c173 c174 c175 c176 c177 c178 c179 c180 c181 c182 c183 c184 c185 c186 c187 c188 c189 c190 c191 c192 c193 c194 c195 c196 c197 c198 c199 c200 c201 c202 c203 c204 c205 c206 c207 c208 c209 c210 c211 c212 c213 c214 c215 c216 c217 c218 c219 c220 c221 c222 c223 c224 c225 c226 c227 c228 c229 c230 c231 c232 c233 c234 c235 c236 c237 c238 c239 c240 c241 c242 c243 : Value) (L eh ph sh h4 h5 h7 h8 h9 h10 h11 h12 : Nat) (W : World) (hL : W.heap[L]? = some (.cells #[.int .u64 (h7 : Nat), .int .u64 (h8 : Nat), .int .u64 (h9 : Nat), .int .u64 (h10 : Nat), .int .u64 (h11 : Nat), .int .u64 (h12 : Nat)] 47 (0, 0)))
    (hQ : ∀ (u54 u55 u56 u57 u58 u59 u60 u61 u62 u63 u64 u65 u66 u67 u68 u69 u70 u71 u72 u73 u74 u75 u76 : Value), Q .normal ⟨#[c0, c1, c2, c3, c4, c5, .int .u64 (eh : Nat), .int .u64 (ph : Nat), .int .u64 (sh : Nat), c9, .int .u64 (h4 : Nat), .int .u64 (h5 : Nat), .pointer (some ⟨L, 0, none⟩), c13, c14, c15, c16, c17, c18, c19, c20, c21, c22, c23, c24, c25, c26, c27, c28, c29, c30, c31, c32, c33, c34, c35, c36, c37, c38, c39, c40, c41, c42, c43, c44, c45, c46, c47, c48, c49, c50, c51, c52, c53, u54, u55, u56, u57, u58, u59, u60, u61, u62, u63, u64, u65, u66, u67, u68, u69, u70, u71, u72, u73, u74, u75, u76, .bool (decide (h7 ≠ eh ∨ (h4 ≠ 0 ∧ h8 ≠ ph) ∨ (h5 ≠ 0 ∧ h10 ≠ sh))), c78, c79, c80, c81, c82, c83, c84, c85, c86, c87, c88, c89, c90, c91, c92, c93, c94, c95, c96, c97, c98, c99, c100, c101, c102, c103, c104, c105, c106, c107, c108, c109, c110, c111, c112, c113, c114, c115, c116, c117, c118, c119, c120, c121, c122, c123, c124, c125, c126, c127, c128, c129, c130, c131, c132, c133, c134, c135, c136, c137, c138, c139, c140, c141, c142, c143, c144, c145, c146, c147, c148, c149, c150, c151, c152, c153, c154, c155, c156, c157, c158, c159, c160, c161, c162, c163, c164, c165, c166, c167, c168, c169, c170, c171, c172, c173, c174, c175, c176, c177, c178, c179, c180, c181, c182, c183, c184, c185, c186, c187, c188, c189, c190, c191, c192, c193, c194, c195, c196, c197, c198, c199, c200, c201, c202, c203, c204, c205, c206, c207, c208, c209, c210, c211, c212, c213, c214, c215, c216, c217, c218, c219, c220, c221, c222, c223, c224, c225, c226, c227, c228, c229, c230, c231, c232, c233, c234, c235, c236, c237, c238, c239, c240, c241, c242, c243], []⟩ W) :
    (Code.region 15 #[⟨some 54, .indexAddr 47 (.tmp 12) (.const (.int .i64 0)), 0, "ref.go:70", #[], none⟩, ⟨some 55, .load 29 (.tmp 54), 29, "ref.go:70", #[⟨0, .data⟩], none⟩, ⟨some 56, .move (.tmp 6), 29, "ref.go:70", #[], none⟩, ⟨some 57, .binOp .neq 29 (.tmp 55) (.tmp 56) 29, 4, "ref.go:70", #[⟨1, .data⟩, ⟨2, .data⟩], none⟩, ⟨some 58, .move (.tmp 57), 4, "ref.go:70", #[⟨3, .data⟩], none⟩, ⟨some 59, .move (.tmp 10), 29, "ref.go:70", #[⟨4, .guard⟩], some (4, false)⟩, ⟨some 60, .binOp .neq 29 (.tmp 59) (.const (.int .u64 0)) 29, 4, "ref.go:70", #[⟨5, .data⟩, ⟨4, .guard⟩], some (4, false)⟩, ⟨some 61, .move (.tmp 60), 4, "ref.go:70", #[⟨6, .data⟩, ⟨4, .chain⟩, ⟨4, .guard⟩], some (4, false)⟩, ⟨some 62, .indexAddr 47 (.tmp 12) (.const (.int .i64 1)), 0, "ref.go:70", #[⟨7, .guard⟩], some (7, true)⟩, ⟨some 63, .load 29 (.tmp 62), 29, "ref.go:70", #[⟨8, .data⟩, ⟨7, .guard⟩], some (7, true)⟩, ⟨some 64, .move (.tmp 7), 29, "ref.go:70", #[⟨7, .guard⟩], some (7, true)⟩, ⟨some 65, .binOp .neq 29 (.tmp 63) (.tmp 64) 29, 4, "ref.go:70", #[⟨9, .data⟩, ⟨10, .data⟩, ⟨7, .guard⟩], some (7, true)⟩, ⟨some 66, .pick (.tmp 61) (.tmp 65) (.const (.bool false)), 4, "ref.go:70", #[⟨7, .data⟩, ⟨11, .data⟩, ⟨4, .guard⟩], some (4, false)⟩, ⟨some 67, .pick (.tmp 58) (.const (.bool true)) (.tmp 66), 4, "ref.go:70", #[⟨4, .data⟩, ⟨12, .data⟩], none⟩, ⟨some 68, .move (.tmp 67), 4, "ref.go:70", #[⟨13, .data⟩, ⟨7, .chain⟩], none⟩, ⟨some 69, .move (.tmp 11), 29, "ref.go:70", #[⟨14, .guard⟩], some (14, false)⟩, ⟨some 70, .binOp .neq 29 (.tmp 69) (.const (.int .u64 0)) 29, 4, "ref.go:70", #[⟨15, .data⟩, ⟨14, .guard⟩], some (14, false)⟩, ⟨some 71, .move (.tmp 70), 4, "ref.go:70", #[⟨16, .data⟩, ⟨14, .chain⟩, ⟨14, .guard⟩], some (14, false)⟩, ⟨some 72, .indexAddr 47 (.tmp 12) (.const (.int .i64 3)), 0, "ref.go:70", #[⟨17, .guard⟩], some (17, true)⟩, ⟨some 73, .load 29 (.tmp 72), 29, "ref.go:70", #[⟨18, .data⟩, ⟨17, .guard⟩], some (17, true)⟩, ⟨some 74, .move (.tmp 8), 29, "ref.go:70", #[⟨17, .guard⟩], some (17, true)⟩, ⟨some 75, .binOp .neq 29 (.tmp 73) (.tmp 74) 29, 4, "ref.go:70", #[⟨19, .data⟩, ⟨20, .data⟩, ⟨17, .guard⟩], some (17, true)⟩, ⟨some 76, .pick (.tmp 71) (.tmp 75) (.const (.bool false)), 4, "ref.go:70", #[⟨17, .data⟩, ⟨21, .data⟩, ⟨14, .guard⟩], some (14, false)⟩, ⟨some 77, .pick (.tmp 68) (.const (.bool true)) (.tmp 76), 4, "ref.go:70", #[⟨14, .data⟩, ⟨22, .data⟩], none⟩] false).wp Try.prog Q ⟨#[c0, c1, c2, c3, c4, c5, .int .u64 (eh : Nat), .int .u64 (ph : Nat), .int .u64 (sh : Nat), c9, .int .u64 (h4 : Nat), .int .u64 (h5 : Nat), .pointer (some ⟨L, 0, none⟩), c13, c14, c15, c16, c17, c18, c19, c20, c21, c22, c23, c24, c25, c26, c27, c28, c29, c30, c31, c32, c33, c34, c35, c36, c37, c38, c39, c40, c41, c42, c43, c44, c45, c46, c47, c48, c49, c50, c51, c52, c53, c54, c55, c56, c57, c58, c59, c60, c61, c62, c63, c64, c65, c66, c67, c68, c69, c70, c71, c72, c73, c74, c75, c76, c77, c78, c79, c80, c81, c82, c83, c84, c85, c86, c87, c88, c89, c90, c91, c92, c93, c94, c95, c96, c97, c98, c99, c100, c101, c102, c103, c104, c105, c106, c107, c108, c109, c110, c111, c112, c113, c114, c115, c116, c117, c118, c119, c120, c121, c122, c123, c124, c125, c126, c127, c128, c129, c130, c131, c132, c133, c134, c135, c136, c137, c138, c139, c140, c141, c142, c143, c144, c145, c146, c147, c148, c149, c150, c151, c152, c153, c154, c155, c156, c157, c158, c159, c160, c161, c162, c163, c164, c165, c166, c167, c168, c169, c170, c171, c172, c173, c174, c175, c176, c177, c178, c179, c180, c181, c182, c183, c184, c185, c186, c187, c188, c189, c190, c191, c192, c193, c194, c195, c196, c197, c198, c199, c200, c201, c202, c203, c204, c205, c206, c207, c208, c209, c210, c211, c212, c213, c214, c215, c216, c217, c218, c219, c220, c221, c222, c223, c224, c225, c226, c227, c228, c229, c230, c231, c232, c233, c234, c235, c236, c237, c238, c239, c240, c241, c242, c243], []⟩ W := by
  try dsimp only at hQ ⊢
  have HQ := Lib.hid hQ; clear hQ
  have c7 : W.cell? ⟨L, 0, none⟩ = some (.int .u64 (h7 : Nat)) := by rw [Lib.cell_of_heap hL]; rfl
  have c8 : W.cell? ⟨L, 1, none⟩ = some (.int .u64 (h8 : Nat)) := by rw [Lib.cell_of_heap hL]; rfl
  have c10 : W.cell? ⟨L, 3, none⟩ = some (.int .u64 (h10 : Nat)) := by rw [Lib.cell_of_heap hL]; rfl
  clear hL
  by_cases x7 : h7 = eh
  · by_cases x4 : h4 = 0
    · by_cases x5 : h5 = 0
      · have y7 : (((h7 : Nat) : Int) != (eh : Nat)) = false := by simp <;> omega
        have y4 : (((h4 : Nat) : Int) != 0) = false := by simp <;> omega
        have y5 : (((h5 : Nat) : Int) != 0) = false := by simp <;> omega
        have e : decide (h7 ≠ eh ∨ (h4 ≠ 0 ∧ h8 ≠ ph) ∨ (h5 ≠ 0 ∧ h10 ≠ sh)) = false := decide_eq_false (show ¬ (h7 ≠ eh ∨ (h4 ≠ 0 ∧ h8 ≠ ph) ∨ (h5 ≠ 0 ∧ h10 ≠ sh)) from by omega)
        rw [e] at HQ
        clear e
        go_wp2
        exact HQ.out _ _ _ _ _ _ _ _ _ _ _ _ _ _ _ _ _ _ _ _ _ _ _
      · by_cases x10 : h10 = sh
        · have y7 : (((h7 : Nat) : Int) != (eh : Nat)) = false := by simp <;> omega
          have y4 : (((h4 : Nat) : Int) != 0) = false := by simp <;> omega
          have y5 : (((h5 : Nat) : Int) != 0) = true := by simp <;> omega
          have y10 : (((h10 : Nat) : Int) != (sh : Nat)) = false := by simp <;> omega
          have e : decide (h7 ≠ eh ∨ (h4 ≠ 0 ∧ h8 ≠ ph) ∨ (h5 ≠ 0 ∧ h10 ≠ sh)) = false := decide_eq_false (show ¬ (h7 ≠ eh ∨ (h4 ≠ 0 ∧ h8 ≠ ph) ∨ (h5 ≠ 0 ∧ h10 ≠ sh)) from by omega)
          rw [e] at HQ
          clear e
          go_wp2
          exact HQ.out _ _ _ _ _ _ _ _ _ _ _ _ _ _ _ _ _ _ _ _ _ _ _
        · have y7 : (((h7 : Nat) : Int) != (eh : Nat)) = false := by simp <;> omega
          have y4 : (((h4 : Nat) : Int) != 0) = false := by simp <;> omega
          have y5 : (((h5 : Nat) : Int) != 0) = true := by simp <;> omega
          have y10 : (((h10 : Nat) : Int) != (sh : Nat)) = true := by simp <;> omega
          have e : decide (h7 ≠ eh ∨ (h4 ≠ 0 ∧ h8 ≠ ph) ∨ (h5 ≠ 0 ∧ h10 ≠ sh)) = true := decide_eq_true (show h7 ≠ eh ∨ (h4 ≠ 0 ∧ h8 ≠ ph) ∨ (h5 ≠ 0 ∧ h10 ≠ sh) from by omega)
          rw [e] at HQ
          clear e
          go_wp2
          exact HQ.out _ _ _ _ _ _ _ _ _ _ _ _ _ _ _ _ _ _ _ _ _ _ _
    · by_cases x8 : h8 = ph
      · by_cases x5 : h5 = 0
        · have y7 : (((h7 : Nat) : Int) != (eh : Nat)) = false := by simp <;> omega
          have y4 : (((h4 : Nat) : Int) != 0) = true := by simp <;> omega
          have y8 : (((h8 : Nat) : Int) != (ph : Nat)) = false := by simp <;> omega
          have y5 : (((h5 : Nat) : Int) != 0) = false := by simp <;> omega
          have e : decide (h7 ≠ eh ∨ (h4 ≠ 0 ∧ h8 ≠ ph) ∨ (h5 ≠ 0 ∧ h10 ≠ sh)) = false := decide_eq_false (show ¬ (h7 ≠ eh ∨ (h4 ≠ 0 ∧ h8 ≠ ph) ∨ (h5 ≠ 0 ∧ h10 ≠ sh)) from by omega)
          rw [e] at HQ
          clear e
          go_wp2
          exact HQ.out _ _ _ _ _ _ _ _ _ _ _ _ _ _ _ _ _ _ _ _ _ _ _
        · by_cases x10 : h10 = sh
          · have y7 : (((h7 : Nat) : Int) != (eh : Nat)) = false := by simp <;> omega
            have y4 : (((h4 : Nat) : Int) != 0) = true := by simp <;> omega
            have y8 : (((h8 : Nat) : Int) != (ph : Nat)) = false := by simp <;> omega
            have y5 : (((h5 : Nat) : Int) != 0) = true := by simp <;> omega
            have y10 : (((h10 : Nat) : Int) != (sh : Nat)) = false := by simp <;> omega
            have e : decide (h7 ≠ eh ∨ (h4 ≠ 0 ∧ h8 ≠ ph) ∨ (h5 ≠ 0 ∧ h10 ≠ sh)) = false := decide_eq_false (show ¬ (h7 ≠ eh ∨ (h4 ≠ 0 ∧ h8 ≠ ph) ∨ (h5 ≠ 0 ∧ h10 ≠ sh)) from by omega)
            rw [e] at HQ
            clear e
            go_wp2
            exact HQ.out _ _ _ _ _ _ _ _ _ _ _ _ _ _ _ _ _ _ _ _ _ _ _
          · have y7 : (((h7 : Nat) : Int) != (eh : Nat)) = false := by simp <;> omega
            have y4 : (((h4 : Nat) : Int) != 0) = true := by simp <;> omega
            have y8 : (((h8 : Nat) : Int) != (ph : Nat)) = false := by simp <;> omega
            have y5 : (((h5 : Nat) : Int) != 0) = true := by simp <;> omega
            have y10 : (((h10 : Nat) : Int) != (sh : Nat)) = true := by simp <;> omega
            have e : decide (h7 ≠ eh ∨ (h4 ≠ 0 ∧ h8 ≠ ph) ∨ (h5 ≠ 0 ∧ h10 ≠ sh)) = true := decide_eq_true (show h7 ≠ eh ∨ (h4 ≠ 0 ∧ h8 ≠ ph) ∨ (h5 ≠ 0 ∧ h10 ≠ sh) from by omega)
            rw [e] at HQ
            clear e
            go_wp2
            exact HQ.out _ _ _ _ _ _ _ _ _ _ _ _ _ _ _ _ _ _ _ _ _ _ _
      · have y7 : (((h7 : Nat) : Int) != (eh : Nat)) = false := by simp <;> omega
        have y4 : (((h4 : Nat) : Int) != 0) = true := by simp <;> omega
        have y8 : (((h8 : Nat) : Int) != (ph : Nat)) = true := by simp <;> omega
        have e : decide (h7 ≠ eh ∨ (h4 ≠ 0 ∧ h8 ≠ ph) ∨ (h5 ≠ 0 ∧ h10 ≠ sh)) = true := decide_eq_true (show h7 ≠ eh ∨ (h4 ≠ 0 ∧ h8 ≠ ph) ∨ (h5 ≠ 0 ∧ h10 ≠ sh) from by omega)
        rw [e] at HQ
        clear e
        go_wp2
        exact HQ.out _ _ _ _ _ _ _ _ _ _ _ _ _ _ _ _ _ _ _ _ _ _ _
  · have y7 : (((h7 : Nat) : Int) != (eh : Nat)) = true := by simp <;> omega
    have e : decide (h7 ≠ eh ∨ (h4 ≠ 0 ∧ h8 ≠ ph) ∨ (h5 ≠ 0 ∧ h10 ≠ sh)) = true := decide_eq_true (show h7 ≠ eh ∨ (h4 ≠ 0 ∧ h8 ≠ ph) ∨ (h5 ≠ 0 ∧ h10 ≠ sh) from by omega)
    rw [e] at HQ
    clear e
    go_wp2
    exact HQ.out _ _ _ _ _ _ _ _ _ _ _ _ _ _ _ _ _ _ _ _ _ _ _
end Go.Proofs.Ytedocnidgiglaaa
