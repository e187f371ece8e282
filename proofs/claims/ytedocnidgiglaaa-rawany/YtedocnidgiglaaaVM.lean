/- Regions of the reference's Why. Conditions: those written in each theorem. -/
import Derived.Test.YtedocnidgiglaaaVA
import Derived.Test.YtedocnidgiglaaaNU
namespace Go.Proofs.Ytedocnidgiglaaa
open Go.RowKit
set_option linter.unusedVariables false
set_option maxRecDepth 1000000 in
set_option maxHeartbeats 1000000 in
theorem vreg40 (Q : Exit → Act → World → Prop) (c0 c1 c2 c3 c4 c5 c6 c7 c8 c9 c10 c11 c12 c14 c16 c17 c18 c19 c20 c21 c22 c23 c24 c25 c26 c27 c28 c29 c30 c31 c32 c33 c34 c35 c36 c37 c38 c39 c40 c41 c42 c43 c44 c45 c46 c47 c48 c49 c50 c51 c52 c53 c54 c55 c56 c57 c58 c59 c60 c61 c62 c63 c64 c65 c66 c67 c68 c69 c70 c71 c72 c73 c74 c75 c76 c77 c78 c79 c80 c81 c82 c83 c84 c85 c86 c87 c88 c89 c90 c91 c92 c93 c94 c95 c96 c97 c98 c99 c100 c101 c102 c103 c104 c105 c106 c107 c108 c109 c110 c111 c112 c113 c114 c115 c116 c117 c118 c119 c120 c121 c122 c123 c124 c125 c126 c127 c128 c129 c130 c131 c132 c133 c134 c135 c136 c137 c138 c139 c140 c141 c142 c143 c144 c145 c146 c147 c148 c149 c150 c151 c152 c153 c154 c155 c156 c157 c158 c159 c160 c161 c162 c163 c164 c165 c166 c167 c168 c169 c170 c171 c172 c173 c174 c175 c176 c177 c178 c179 c180 c181 c182 c183 c184 c185 c186 c187 c188 c189 c190 c191 c192 c193 c194 c195 c196 c197 c198 c199 c200 c201 c202 c203 c204 c205 c206 c207 c208 c209 c210 c211 c212 c213 c214 c215 c216 c217 c218 c219 c220 c221 c222 c223 c224 c225 c226 c227 c228 c229 c230 c231 c232 c233 c234 c235 c236 c237 c238 c239 c240 c241 c242 c243 : Value) (x n : Nat) (W : World)
    (hQ : ∀ (u133 u134 u135 u136 u137 : Value), Q .normal ⟨#[c0, c1, c2, c3, c4, c5, c6, c7, c8, c9, c10, c11, c12, .int .u64 (n : Nat), c14, .int .u64 (x : Nat), c16, c17, c18, c19, c20, c21, c22, c23, c24, c25, c26, c27, c28, c29, c30, c31, c32, c33, c34, c35, c36, c37, c38, c39, c40, c41, c42, c43, c44, c45, c46, c47, c48, c49, c50, c51, c52, c53, c54, c55, c56, c57, c58, c59, c60, c61, c62, c63, c64, c65, c66, c67, c68, c69, c70, c71, c72, c73, c74, c75, c76, c77, c78, c79, c80, c81, c82, c83, c84, c85, c86, c87, c88, c89, c90, c91, c92, c93, c94, c95, c96, c97, c98, c99, c100, c101, c102, c103, c104, c105, c106, c107, c108, c109, c110, c111, c112, c113, c114, c115, c116, c117, c118, c119, c120, c121, c122, c123, c124, c125, c126, c127, c128, c129, c130, c131, c132, u133, u134, u135, u136, u137, .bool (decide (x = 65535 ∧ 0 < n)), c139, c140, c141, c142, c143, c144, c145, c146, c147, c148, c149, c150, c151, c152, c153, c154, c155, c156, c157, c158, c159, c160, c161, c162, c163, c164, c165, c166, c167, c168, c169, c170, c171, c172, c173, c174, c175, c176, c177, c178, c179, c180, c181, c182, c183, c184, c185, c186, c187, c188, c189, c190, c191, c192, c193, c194, c195, c196, c197, c198, c199, c200, c201, c202, c203, c204, c205, c206, c207, c208, c209, c210, c211, c212, c213, c214, c215, c216, c217, c218, c219, c220, c221, c222, c223, c224, c225, c226, c227, c228, c229, c230, c231, c232, c233, c234, c235, c236, c237, c238, c239, c240, c241, c242, c243], []⟩ W) :
    (Code.region 40 #[⟨some 133, .move (.tmp 15), 29, "ref.go:107", #[], none⟩, ⟨some 134, .binOp .eql 29 (.tmp 133) (.const (.int .u64 65535)) 29, 4, "ref.go:107", #[⟨0, .data⟩], none⟩, ⟨some 135, .move (.tmp 134), 4, "ref.go:107", #[⟨1, .data⟩], none⟩, ⟨some 136, .move (.tmp 13), 29, "ref.go:107", #[⟨2, .guard⟩], some (2, true)⟩, ⟨some 137, .binOp .gtr 29 (.tmp 136) (.const (.int .u64 0)) 29, 4, "ref.go:107", #[⟨3, .data⟩, ⟨2, .guard⟩], some (2, true)⟩, ⟨some 138, .pick (.tmp 135) (.tmp 137) (.const (.bool false)), 4, "ref.go:107", #[⟨2, .data⟩, ⟨4, .data⟩], none⟩] false).wp Try.prog Q ⟨#[c0, c1, c2, c3, c4, c5, c6, c7, c8, c9, c10, c11, c12, .int .u64 (n : Nat), c14, .int .u64 (x : Nat), c16, c17, c18, c19, c20, c21, c22, c23, c24, c25, c26, c27, c28, c29, c30, c31, c32, c33, c34, c35, c36, c37, c38, c39, c40, c41, c42, c43, c44, c45, c46, c47, c48, c49, c50, c51, c52, c53, c54, c55, c56, c57, c58, c59, c60, c61, c62, c63, c64, c65, c66, c67, c68, c69, c70, c71, c72, c73, c74, c75, c76, c77, c78, c79, c80, c81, c82, c83, c84, c85, c86, c87, c88, c89, c90, c91, c92, c93, c94, c95, c96, c97, c98, c99, c100, c101, c102, c103, c104, c105, c106, c107, c108, c109, c110, c111, c112, c113, c114, c115, c116, c117, c118, c119, c120, c121, c122, c123, c124, c125, c126, c127, c128, c129, c130, c131, c132, c133, c134, c135, c136, c137, c138, c139, c140, c141, c142, c143, c144, c145, c146, c147, c148, c149, c150, c151, c152, c153, c154, c155, c156, c157, c158, c159, c160, c161, c162, c163, c164, c165, c166, c167, c168, c169, c170, c171, c172, c173, c174, c175, c176, c177, c178, c179, c180, c181, c182, c183, c184, c185, c186, c187, c188, c189, c190, c191, c192, c193, c194, c195, c196, c197, c198, c199, c200, c201, c202, c203, c204, c205, c206, c207, c208, c209, c210, c211, c212, c213, c214, c215, c216, c217, c218, c219, c220, c221, c222, c223, c224, c225, c226, c227, c228, c229, c230, c231, c232, c233, c234, c235, c236, c237, c238, c239, c240, c241, c242, c243], []⟩ W := by
  try dsimp only at hQ ⊢
  have HQ := Lib.hid hQ; clear hQ
  by_cases h : x = 65535 ∧ 0 < n
  · rw [decide_eq_true h] at HQ
    obtain ⟨rfl, h2⟩ := h
    have y2 : decide (0 < n) = true := decide_eq_true (by omega)
    clear h2
    go_wp2
    exact HQ.out _ _ _ _ _
  · rw [decide_eq_false h] at HQ
    by_cases h1 : x = 65535
    · subst h1
      have y2 : decide (0 < n) = false := decide_eq_false (by omega)
      clear h
      go_wp2
      exact HQ.out _ _ _ _ _
    · have y1 : ((x : Int) == 65535) = false := by simp <;> omega
      clear h h1
      go_wp2
      exact HQ.out _ _ _ _ _
set_option maxRecDepth 1000000 in
set_option maxHeartbeats 1000000 in
theorem vreg42 (Q : Exit → Act → World → Prop) (c0 c1 c2 c3 c4 c5 c6 c7 c8 c9 c11 c12 c13 c14 c16 c17 c18 c19 c20 c21 c22 c23 c24 c25 c26 c27 c28 c29 c30 c31 c32 c33 c34 c35 c36 c37 c38 c39 c40 c41 c42 c43 c44 c45 c46 c47 c48 c49 c50 c51 c52 c53 c54 c55 c56 c57 c58 c59 c60 c61 c62 c63 c64 c65 c66 c67 c68 c69 c70 c71 c72 c73 c74 c75 c76 c77 c78 c79 c80 c81 c82 c83 c84 c85 c86 c87 c88 c89 c90 c91 c92 c93 c94 c95 c96 c97 c98 c99 c100 c101 c102 c103 c104 c105 c106 c107 c108 c109 c110 c111 c112 c113 c114 c115 c116 c117 c118 c119 c120 c121 c122 c123 c124 c125 c126 c127 c128 c129 c130 c131 c132 c133 c134 c135 c136 c137 c138 c139 c140 c141 c142 c143 c144 c145 c146 c147 c148 c149 c150 c151 c152 c153 c154 c155 c156 c157 c158 c159 c160 c161 c162 c163 c164 c165 c166 c167 c168 c169 c170 c171 c172 c173 c174 c175 c176 c177 c178 c179 c180 c181 c182 c183 c184 c185 c186 c187 c188 c189 c190 c191 c192 c193 c194 c195 c196 c197 c198 c199 c200 c201 c202 c203 c204 c205 c206 c207 c208 c209 c210 c211 c212 c213 c214 c215 c216 c217 c218 c219 c220 c221 c222 c223 c224 c225 c226 c227 c228 c229 c230 c231 c232 c233 c234 c235 c236 c237 c238 c239 c240 c241 c242 c243 : Value) (m po : Nat) (W : World)
    (hQ : ∀ (u144 u145 u146 u147 u148 u149 u150 u151 u152 : Value), Q .normal ⟨#[c0, c1, c2, c3, c4, c5, c6, c7, c8, c9, .int .u64 (po : Nat), c11, c12, c13, c14, .int .u64 (m : Nat), c16, c17, c18, c19, c20, c21, c22, c23, c24, c25, c26, c27, c28, c29, c30, c31, c32, c33, c34, c35, c36, c37, c38, c39, c40, c41, c42, c43, c44, c45, c46, c47, c48, c49, c50, c51, c52, c53, c54, c55, c56, c57, c58, c59, c60, c61, c62, c63, c64, c65, c66, c67, c68, c69, c70, c71, c72, c73, c74, c75, c76, c77, c78, c79, c80, c81, c82, c83, c84, c85, c86, c87, c88, c89, c90, c91, c92, c93, c94, c95, c96, c97, c98, c99, c100, c101, c102, c103, c104, c105, c106, c107, c108, c109, c110, c111, c112, c113, c114, c115, c116, c117, c118, c119, c120, c121, c122, c123, c124, c125, c126, c127, c128, c129, c130, c131, c132, c133, c134, c135, c136, c137, c138, c139, c140, c141, c142, c143, u144, u145, u146, u147, u148, u149, u150, u151, u152, .bool (decide (256 < m ∨ (0 < m ∧ po = 0))), c154, c155, c156, c157, c158, c159, c160, c161, c162, c163, c164, c165, c166, c167, c168, c169, c170, c171, c172, c173, c174, c175, c176, c177, c178, c179, c180, c181, c182, c183, c184, c185, c186, c187, c188, c189, c190, c191, c192, c193, c194, c195, c196, c197, c198, c199, c200, c201, c202, c203, c204, c205, c206, c207, c208, c209, c210, c211, c212, c213, c214, c215, c216, c217, c218, c219, c220, c221, c222, c223, c224, c225, c226, c227, c228, c229, c230, c231, c232, c233, c234, c235, c236, c237, c238, c239, c240, c241, c242, c243], []⟩ W) :
    (Code.region 42 #[⟨some 144, .move (.tmp 15), 29, "ref.go:110", #[], none⟩, ⟨some 145, .binOp .gtr 29 (.tmp 144) (.const (.int .u64 256)) 29, 4, "ref.go:110", #[⟨0, .data⟩], none⟩, ⟨some 146, .move (.tmp 145), 4, "ref.go:110", #[⟨1, .data⟩], none⟩, ⟨some 147, .move (.tmp 15), 29, "ref.go:110", #[⟨2, .guard⟩], some (2, false)⟩, ⟨some 148, .binOp .gtr 29 (.tmp 147) (.const (.int .u64 0)) 29, 4, "ref.go:110", #[⟨3, .data⟩, ⟨2, .guard⟩], some (2, false)⟩, ⟨some 149, .move (.tmp 148), 4, "ref.go:110", #[⟨4, .data⟩, ⟨2, .chain⟩, ⟨2, .guard⟩], some (2, false)⟩, ⟨some 150, .move (.tmp 10), 29, "ref.go:110", #[⟨5, .guard⟩], some (5, true)⟩, ⟨some 151, .binOp .eql 29 (.tmp 150) (.const (.int .u64 0)) 29, 4, "ref.go:110", #[⟨6, .data⟩, ⟨5, .guard⟩], some (5, true)⟩, ⟨some 152, .pick (.tmp 149) (.tmp 151) (.const (.bool false)), 4, "ref.go:110", #[⟨5, .data⟩, ⟨7, .data⟩, ⟨2, .guard⟩], some (2, false)⟩, ⟨some 153, .pick (.tmp 146) (.const (.bool true)) (.tmp 152), 4, "ref.go:110", #[⟨2, .data⟩, ⟨8, .data⟩], none⟩] false).wp Try.prog Q ⟨#[c0, c1, c2, c3, c4, c5, c6, c7, c8, c9, .int .u64 (po : Nat), c11, c12, c13, c14, .int .u64 (m : Nat), c16, c17, c18, c19, c20, c21, c22, c23, c24, c25, c26, c27, c28, c29, c30, c31, c32, c33, c34, c35, c36, c37, c38, c39, c40, c41, c42, c43, c44, c45, c46, c47, c48, c49, c50, c51, c52, c53, c54, c55, c56, c57, c58, c59, c60, c61, c62, c63, c64, c65, c66, c67, c68, c69, c70, c71, c72, c73, c74, c75, c76, c77, c78, c79, c80, c81, c82, c83, c84, c85, c86, c87, c88, c89, c90, c91, c92, c93, c94, c95, c96, c97, c98, c99, c100, c101, c102, c103, c104, c105, c106, c107, c108, c109, c110, c111, c112, c113, c114, c115, c116, c117, c118, c119, c120, c121, c122, c123, c124, c125, c126, c127, c128, c129, c130, c131, c132, c133, c134, c135, c136, c137, c138, c139, c140, c141, c142, c143, c144, c145, c146, c147, c148, c149, c150, c151, c152, c153, c154, c155, c156, c157, c158, c159, c160, c161, c162, c163, c164, c165, c166, c167, c168, c169, c170, c171, c172, c173, c174, c175, c176, c177, c178, c179, c180, c181, c182, c183, c184, c185, c186, c187, c188, c189, c190, c191, c192, c193, c194, c195, c196, c197, c198, c199, c200, c201, c202, c203, c204, c205, c206, c207, c208, c209, c210, c211, c212, c213, c214, c215, c216, c217, c218, c219, c220, c221, c222, c223, c224, c225, c226, c227, c228, c229, c230, c231, c232, c233, c234, c235, c236, c237, c238, c239, c240, c241, c242, c243], []⟩ W := by
  try dsimp only at hQ ⊢
  have HQ := Lib.hid hQ; clear hQ
  by_cases h1 : 256 < m
  · rw [decide_eq_true (.inl h1)] at HQ
    have y1 : decide ((256 : Int) < (m : Int)) = true := decide_eq_true (by omega)
    clear h1
    go_wp2
    exact HQ.out _ _ _ _ _ _ _ _ _
  · have y1 : decide ((256 : Int) < (m : Int)) = false := decide_eq_false (by omega)
    by_cases h2 : 0 < m
    · have y2 : decide (0 < m) = true := decide_eq_true (by omega)
      by_cases h3 : po = 0
      · rw [decide_eq_true (.inr ⟨h2, h3⟩)] at HQ
        have y3 : ((po : Int) == 0) = true := by simp <;> omega
        clear h1 h2 h3
        go_wp2
        exact HQ.out _ _ _ _ _ _ _ _ _
      · rw [decide_eq_false (fun q => q.elim h1 (fun q => h3 q.2))] at HQ
        have y3 : ((po : Int) == 0) = false := by simp <;> omega
        clear h1 h2 h3
        go_wp2
        exact HQ.out _ _ _ _ _ _ _ _ _
    · rw [decide_eq_false (fun q => q.elim h1 (fun q => h2 q.1))] at HQ
      have y2 : decide (0 < m) = false := decide_eq_false (by omega)
      clear h1 h2
      go_wp2
      exact HQ.out _ _ _ _ _ _ _ _ _
set_option maxRecDepth 1000000 in
set_option maxHeartbeats 1000000 in
theorem vreg44 (Q : Exit → Act → World → Prop) (c1 c2 c3 c4 c5 c6 c8 c9 c11 c12 c13 c14 c16 c17 c18 c19 c20 c21 c22 c23 c24 c25 c26 c27 c28 c29 c30 c31 c32 c33 c34 c35 c36 c37 c38 c39 c40 c41 c42 c43 c44 c45 c46 c47 c48 c49 c50 c51 c52 c53 c54 c55 c56 c57 c58 c59 c60 c61 c62 c63 c64 c65 c66 c67 c68 c69 c70 c71 c72 c73 c74 c75 c76 c77 c78 c79 c80 c81 c82 c83 c84 c85 c86 c87 c88 c89 c90 c91 c92 c93 c94 c95 c96 c97 c98 c99 c100 c101 c102 c103 c104 c105 c106 c107 c108 c109 c110 c111 c112 c113 c114 c115 c116 c117 c118 c119 c120 c121 c122 c123 c124 c125 c126 c127 c128 c129 c130 c131 c132 c133 c134 c135 c136 c137 c138 c139 c140 c141 c142 c143 c144 c145 c146 c147 c148 c149 c150 c151 c152 c153 c154 c155 c156 c157 c158 c159 c160 c161 c162 c163 c164 c165 c166 c167 c168 c169 c170 c171 c172 c173 c174 c175 c176 c177 c178 c179 c180 c181 c182 c183 c184 c185 c186 c187 c188 c189 c190 c191 c192 c193 c194 c195 c196 c197 c198 c199 c200 c201 c202 c203 c204 c205 c206 c207 c208 c209 c210 c211 c212 c213 c214 c215 c216 c217 c218 c219 c220 c221 c222 c223 c224 c225 c226 c227 c228 c229 c230 c231 c232 c233 c234 c235 c236 c237 c238 c239 c240 c241 c242 c243 : Value) (s : ByteArray) (m po ph z : Nat) (W : World) (hm : m ≤ 256) (hph : ph ≤ 64) (HT : Hid (∀ y, y < 18446744073709551616 → ∀ u, Calls Try.prog 58 #[.string s, .int .u64 (po : Nat), .int .u64 (y : Nat)] u fun e w' => e = .returned (.bool (decide (po + y ≤ z))) ∧ u = w'))
    (hQ : ∀ (u154 u155 u156 u157 u158 u159 u160 u161 u162 u163 : Value), Q .normal ⟨#[.string s, c1, c2, c3, c4, c5, c6, .int .u64 (ph : Nat), c8, c9, .int .u64 (po : Nat), c11, c12, c13, c14, .int .u64 (m : Nat), c16, c17, c18, c19, c20, c21, c22, c23, c24, c25, c26, c27, c28, c29, c30, c31, c32, c33, c34, c35, c36, c37, c38, c39, c40, c41, c42, c43, c44, c45, c46, c47, c48, c49, c50, c51, c52, c53, c54, c55, c56, c57, c58, c59, c60, c61, c62, c63, c64, c65, c66, c67, c68, c69, c70, c71, c72, c73, c74, c75, c76, c77, c78, c79, c80, c81, c82, c83, c84, c85, c86, c87, c88, c89, c90, c91, c92, c93, c94, c95, c96, c97, c98, c99, c100, c101, c102, c103, c104, c105, c106, c107, c108, c109, c110, c111, c112, c113, c114, c115, c116, c117, c118, c119, c120, c121, c122, c123, c124, c125, c126, c127, c128, c129, c130, c131, c132, c133, c134, c135, c136, c137, c138, c139, c140, c141, c142, c143, c144, c145, c146, c147, c148, c149, c150, c151, c152, c153, u154, u155, u156, u157, u158, u159, u160, u161, u162, u163, .bool (decide (0 < m ∧ ¬ po + m * ph ≤ z)), c165, c166, c167, c168, c169, c170, c171, c172, c173, c174, c175, c176, c177, c178, c179, c180, c181, c182, c183, c184, c185, c186, c187, c188, c189, c190, c191, c192, c193, c194, c195, c196, c197, c198, c199, c200, c201, c202, c203, c204, c205, c206, c207, c208, c209, c210, c211, c212, c213, c214, c215, c216, c217, c218, c219, c220, c221, c222, c223, c224, c225, c226, c227, c228, c229, c230, c231, c232, c233, c234, c235, c236, c237, c238, c239, c240, c241, c242, c243], []⟩ W) :
    (Code.region 44 #[⟨some 154, .move (.tmp 15), 29, "ref.go:113", #[], none⟩, ⟨some 155, .binOp .gtr 29 (.tmp 154) (.const (.int .u64 0)) 29, 4, "ref.go:113", #[⟨0, .data⟩], none⟩, ⟨some 156, .move (.tmp 155), 4, "ref.go:113", #[⟨1, .data⟩], none⟩, ⟨some 157, .move (.tmp 0), 9, "ref.go:113", #[⟨2, .guard⟩], some (2, true)⟩, ⟨some 158, .move (.tmp 10), 29, "ref.go:113", #[⟨2, .guard⟩], some (2, true)⟩, ⟨some 159, .move (.tmp 15), 29, "ref.go:113", #[⟨2, .guard⟩], some (2, true)⟩, ⟨some 160, .move (.tmp 7), 29, "ref.go:113", #[⟨2, .guard⟩], some (2, true)⟩, ⟨some 161, .binOp .mul 29 (.tmp 159) (.tmp 160) 29, 29, "ref.go:113", #[⟨5, .data⟩, ⟨6, .data⟩, ⟨2, .guard⟩], some (2, true)⟩, ⟨some 162, .call { callee := .value (.func 58), args := #[.tmp 157, .tmp 158, .tmp 161], argTypes := #[9, 29, 29] }, 4, "ref.go:113", #[⟨3, .data⟩, ⟨4, .data⟩, ⟨7, .data⟩, ⟨2, .chain⟩, ⟨2, .guard⟩], some (2, true)⟩, ⟨some 163, .unOp .not 4 (.tmp 162), 4, "ref.go:113", #[⟨8, .data⟩, ⟨2, .guard⟩], some (2, true)⟩, ⟨some 164, .pick (.tmp 156) (.tmp 163) (.const (.bool false)), 4, "ref.go:113", #[⟨2, .data⟩, ⟨9, .data⟩], none⟩] false).wp Try.prog Q ⟨#[.string s, c1, c2, c3, c4, c5, c6, .int .u64 (ph : Nat), c8, c9, .int .u64 (po : Nat), c11, c12, c13, c14, .int .u64 (m : Nat), c16, c17, c18, c19, c20, c21, c22, c23, c24, c25, c26, c27, c28, c29, c30, c31, c32, c33, c34, c35, c36, c37, c38, c39, c40, c41, c42, c43, c44, c45, c46, c47, c48, c49, c50, c51, c52, c53, c54, c55, c56, c57, c58, c59, c60, c61, c62, c63, c64, c65, c66, c67, c68, c69, c70, c71, c72, c73, c74, c75, c76, c77, c78, c79, c80, c81, c82, c83, c84, c85, c86, c87, c88, c89, c90, c91, c92, c93, c94, c95, c96, c97, c98, c99, c100, c101, c102, c103, c104, c105, c106, c107, c108, c109, c110, c111, c112, c113, c114, c115, c116, c117, c118, c119, c120, c121, c122, c123, c124, c125, c126, c127, c128, c129, c130, c131, c132, c133, c134, c135, c136, c137, c138, c139, c140, c141, c142, c143, c144, c145, c146, c147, c148, c149, c150, c151, c152, c153, c154, c155, c156, c157, c158, c159, c160, c161, c162, c163, c164, c165, c166, c167, c168, c169, c170, c171, c172, c173, c174, c175, c176, c177, c178, c179, c180, c181, c182, c183, c184, c185, c186, c187, c188, c189, c190, c191, c192, c193, c194, c195, c196, c197, c198, c199, c200, c201, c202, c203, c204, c205, c206, c207, c208, c209, c210, c211, c212, c213, c214, c215, c216, c217, c218, c219, c220, c221, c222, c223, c224, c225, c226, c227, c228, c229, c230, c231, c232, c233, c234, c235, c236, c237, c238, c239, c240, c241, c242, c243], []⟩ W := by
  try dsimp only at hQ ⊢
  have HQ := Lib.hid hQ; clear hQ
  obtain ⟨p, hp⟩ : ∃ p, p = m * ph := ⟨_, rfl⟩
  have hpl : m * ph ≤ 256 * 64 := Nat.mul_le_mul hm hph
  rw [← hp] at HQ hpl
  have e1 : IntKind.u64.wrap ((m : Int) * (ph : Int)) = (p : Int) := by rw [IntKind.wrap_u64, ← Int.natCast_mul, ← hp]; omega
  have HT2 := Lib.hid (HT.out p (by omega))
  clear hp hpl
  by_cases h2 : 0 < m
  · have y2 : decide (0 < m) = true := decide_eq_true (by omega)
    by_cases h3 : po + p ≤ z
    · rw [decide_eq_false (fun q => q.2 h3)] at HQ
      rw [decide_eq_true h3] at HT2
      clear h2 h3
      go_wp2_with (go_at_call 58; with_reducible refine (HT2.out _).mono ?_; rintro e w5 ⟨rfl, rfl⟩)
      exact HQ.out _ _ _ _ _ _ _ _ _ _
    · rw [decide_eq_true ⟨h2, h3⟩] at HQ
      rw [decide_eq_false h3] at HT2
      clear h2 h3
      go_wp2_with (go_at_call 58; with_reducible refine (HT2.out _).mono ?_; rintro e w5 ⟨rfl, rfl⟩)
      exact HQ.out _ _ _ _ _ _ _ _ _ _
  · have y2 : decide (0 < m) = false := decide_eq_false (by omega)
    rw [decide_eq_false (fun q => h2 q.1)] at HQ
    clear h2
    go_wp2
    exact HQ.out _ _ _ _ _ _ _ _ _ _
end Go.Proofs.Ytedocnidgiglaaa
