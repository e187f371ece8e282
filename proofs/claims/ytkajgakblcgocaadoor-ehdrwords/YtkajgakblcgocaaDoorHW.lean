/- Contracts of ehdr's TypeName and MachineName. Conditions: those written in each theorem (the listed variables lie as laid). -/
import Derived.Test.YtkajgakblcgocaaDoorHB
import Derived.Deep.MidRow
namespace Go.Proofs.YtkajgakblcgocaaDoor
open Go.RowKit
def typeTab : List (Nat × List UInt8) := [(0, [78, 79, 78, 69]), (1, [82, 69, 76]), (2, [69, 88, 69, 67]), (3, [68, 89, 78]), (4, [67, 79, 82, 69])]
def machTab : List (Nat × List UInt8) := [(0, [110, 111, 110, 101]), (3, [51, 56, 54]), (8, [77, 73, 80, 83]), (20, [80, 111, 119, 101, 114, 80, 67]), (21, [80, 111, 119, 101, 114, 80, 67, 54, 52]), (22, [83, 51, 57, 48]), (40, [65, 82, 77]), (62, [88, 56, 54, 45, 54, 52]), (183, [65, 65, 114, 99, 104, 54, 52]), (243, [82, 73, 83, 67, 45, 86]), (258, [76, 111, 111, 110, 103, 65, 114, 99, 104])]
theorem typeTab_ok : Hex.tabOk typeTab = true := by decide
theorem machTab_ok : Hex.tabOk machTab = true := by decide
def machCells : List Value := [.int .u64 0, .string ⟨#[110, 111, 110, 101]⟩, .int .u64 3, .string ⟨#[51, 56, 54]⟩, .int .u64 8, .string ⟨#[77, 73, 80, 83]⟩, .int .u64 20, .string ⟨#[80, 111, 119, 101, 114, 80, 67]⟩, .int .u64 21, .string ⟨#[80, 111, 119, 101, 114, 80, 67, 54, 52]⟩, .int .u64 22, .string ⟨#[83, 51, 57, 48]⟩, .int .u64 40, .string ⟨#[65, 82, 77]⟩, .int .u64 62, .string ⟨#[88, 56, 54, 45, 54, 52]⟩, .int .u64 183, .string ⟨#[65, 65, 114, 99, 104, 54, 52]⟩, .int .u64 243, .string ⟨#[82, 73, 83, 67, 45, 86]⟩, .int .u64 258, .string ⟨#[76, 111, 111, 110, 103, 65, 114, 99, 104]⟩]
/-- The package variables as they are laid: ehdr's two tables and the one of math/bits. -/
structure Tabs (w : World) : Prop where
  size : 5 < w.heap.size
  db : w.cell? ⟨5, 15, none⟩ = some (.int .u8 4)
  t0 : w.cell? ⟨0, 0, none⟩ = some (.string ⟨#[78, 79, 78, 69]⟩)
  t1 : w.cell? ⟨0, 1, none⟩ = some (.string ⟨#[82, 69, 76]⟩)
  t2 : w.cell? ⟨0, 2, none⟩ = some (.string ⟨#[69, 88, 69, 67]⟩)
  t3 : w.cell? ⟨0, 3, none⟩ = some (.string ⟨#[68, 89, 78]⟩)
  t4 : w.cell? ⟨0, 4, none⟩ = some (.string ⟨#[67, 79, 82, 69]⟩)
  mach : w.rangeAt 1 0 machCells
theorem Tabs.kept {w w' : World} (h : Tabs w) (hb : Below w.heap.size w w') : Tabs w' where
  size := Nat.lt_of_lt_of_le h.size hb.size
  db := by rw [hb.cell (by exact h.size)]; exact h.db
  t0 := by rw [hb.cell (by have := h.size; show 0 < _; omega)]; exact h.t0
  t1 := by rw [hb.cell (by have := h.size; show 0 < _; omega)]; exact h.t1
  t2 := by rw [hb.cell (by have := h.size; show 0 < _; omega)]; exact h.t2
  t3 := by rw [hb.cell (by have := h.size; show 0 < _; omega)]; exact h.t3
  t4 := by rw [hb.cell (by have := h.size; show 0 < _; omega)]; exact h.t4
  mach := fun j v hv => by rw [hb.cell (by have := h.size; show 1 < _; omega)]; exact h.mach j v hv
theorem type0 (w : World) (h : Tabs w) : Calls Tryd.prog 6 #[.int .u64 0] w fun e w' => e = .returned (.string ⟨#[78, 79, 78, 69]⟩) ∧ Below w.heap.size w w' := by
  have h1 := h.t0
  clear h
  go_enter Tryd.func6, Tryd.ntmps6
  go_wp2
  go_ret
  exact ⟨rfl, Below.refl _ _⟩
theorem type1 (w : World) (h : Tabs w) : Calls Tryd.prog 6 #[.int .u64 1] w fun e w' => e = .returned (.string ⟨#[82, 69, 76]⟩) ∧ Below w.heap.size w w' := by
  have h1 := h.t1
  clear h
  go_enter Tryd.func6, Tryd.ntmps6
  go_wp2
  go_ret
  exact ⟨rfl, Below.refl _ _⟩
theorem type2 (w : World) (h : Tabs w) : Calls Tryd.prog 6 #[.int .u64 2] w fun e w' => e = .returned (.string ⟨#[69, 88, 69, 67]⟩) ∧ Below w.heap.size w w' := by
  have h1 := h.t2
  clear h
  go_enter Tryd.func6, Tryd.ntmps6
  go_wp2
  go_ret
  exact ⟨rfl, Below.refl _ _⟩
theorem type3 (w : World) (h : Tabs w) : Calls Tryd.prog 6 #[.int .u64 3] w fun e w' => e = .returned (.string ⟨#[68, 89, 78]⟩) ∧ Below w.heap.size w w' := by
  have h1 := h.t3
  clear h
  go_enter Tryd.func6, Tryd.ntmps6
  go_wp2
  go_ret
  exact ⟨rfl, Below.refl _ _⟩
theorem type4 (w : World) (h : Tabs w) : Calls Tryd.prog 6 #[.int .u64 4] w fun e w' => e = .returned (.string ⟨#[67, 79, 82, 69]⟩) ∧ Below w.heap.size w w' := by
  have h1 := h.t4
  clear h
  go_enter Tryd.func6, Tryd.ntmps6
  go_wp2
  go_ret
  exact ⟨rfl, Below.refl _ _⟩
theorem type_else (n : Nat) (hn : n < 2 ^ 64) (h5 : 5 ≤ n) (w : World) (h : Tabs w) : Calls Tryd.prog 6 #[.int .u64 n] w fun e w' => e = .returned (.string (hexS n)) ∧ Below w.heap.size w w' := by
  have HT := Lib.hid h; clear h
  have HN := Lib.hid hn; clear hn
  have hd : decide ((n : Int) < 5) = false := by simp; omega
  have hd2 : ¬ (n : Int) < 5 := by omega
  go_enter Tryd.func6, Tryd.ntmps6
  go_wp2_with fail
  refine (hex_any n _ HN.out HT.out.db HT.out.size).mono ?_
  rintro e w1 ⟨rfl, h1⟩
  go_wp2
  go_ret
  exact ⟨rfl, h1⟩
theorem typeName (n : Nat) (hn : n < 2 ^ 64) (w : World) (h : Tabs w) : Calls Tryd.prog 6 #[.int .u64 n] w fun e w' => e = .returned (.string ⟨(Hex.look typeTab n).toArray⟩) ∧ Below w.heap.size w w' := by
  match n with
  | 0 => exact type0 w h
  | 1 => exact type1 w h
  | 2 => exact type2 w h
  | 3 => exact type3 w h
  | 4 => exact type4 w h
  | n + 5 =>
    have e : Hex.look typeTab (n + 5) = 48 :: 120 :: Hex.hexL (n + 5) := Hex.look_none (by simp [typeTab])
    rw [e]
    exact type_else (n + 5) hn (by omega) w h
theorem idx_any (cs : Array Value) (i : Nat) (hi : i < 11) (w : World) : (Instr.index 43 (.agg cs) (.int .i64 (i : Int))).run Tryd.prog w = .ok (.agg (cs.extract (i * 2) (i * 2 + 2))) w := by
  have h11 : (i : Int) < 11 := by omega
  have hs := Tryd.sizeOf42
  have ha := Tryd.isAgg42
  simp [Instr.index, go_sem, part, hi, hs, ha]
def numM (k : Nat) : Nat := (machTab.getD k (0, [])).1
def nameM (k : Nat) : ByteArray := ⟨(machTab.getD k (0, [])).2.toArray⟩
theorem idxM (k : Nat) (hk : k < 11) (w : World) : (Instr.index 43 (.agg machCells.toArray) (.int .i64 (k : Int))).run Tryd.prog w = .ok (.agg #[.int .u64 (numM k : Nat), .string (nameM k)]) w := by
  rw [idx_any _ k hk]
  match k, hk with
  | 0, _ => rfl
  | 1, _ => rfl
  | 2, _ => rfl
  | 3, _ => rfl
  | 4, _ => rfl
  | 5, _ => rfl
  | 6, _ => rfl
  | 7, _ => rfl
  | 8, _ => rfl
  | 9, _ => rfl
  | 10, _ => rfl
theorem look_at {d : Nat × List UInt8} : ∀ (tab : List (Nat × List UInt8)) (n k : Nat), k < tab.length → (∀ j, j < k → (tab.getD j d).1 ≠ n) → (tab.getD k d).1 = n → Hex.look tab n = (tab.getD k d).2
  | [], n, k, hk, _, _ => by simp at hk
  | p :: tab, n, 0, _, _, he => by
    have : p.1 = n := by simpa using he
    simp [Hex.look, this]
  | p :: tab, n, k + 1, hk, hne, he => by
    have hp : (p.1 == n) = false := by have := hne 0 (by omega); simpa using this
    have ih := look_at (d := d) tab n k (by simpa using hk) (fun j hj => by have := hne (j + 1) (by omega); simpa using this) (by simpa using he)
    have e : Hex.look (p :: tab) n = Hex.look tab n := by simp [Hex.look, hp]
    rw [e, ih]
    simp
theorem look_out {d : Nat × List UInt8} : ∀ (tab : List (Nat × List UInt8)) (n : Nat), (∀ j, j < tab.length → (tab.getD j d).1 ≠ n) → Hex.look tab n = 48 :: 120 :: Hex.hexL n
  | [], n, _ => rfl
  | p :: tab, n, hne => by
    have hp : (p.1 == n) = false := by have := hne 0 (by simp); simpa using this
    have ih := look_out (d := d) tab n (fun j hj => by have := hne (j + 1) (by simpa using hj); simpa using this)
    have e : Hex.look (p :: tab) n = Hex.look tab n := by simp [Hex.look, hp]
    rw [e, ih]
set_option maxRecDepth 100000 in
set_option maxHeartbeats 2000000 in
theorem machName (n : Nat) (hn : n < 2 ^ 64) (w : World) (h : Tabs w) : Calls Tryd.prog 7 #[.int .u64 n] w fun e w' => e = .returned (.string ⟨(Hex.look machTab n).toArray⟩) ∧ Below w.heap.size w w' := by
  have HT := Lib.hid h; clear h
  have HN := Lib.hid hn; clear hn
  go_enter Tryd.func7, Tryd.ntmps7
  go_wp2_with (refine wpList_load_mid rfl 43 (.global 1) rfl 1 0 rfl machCells _ HT.out.mach Tryd.underlying43 rfl (by kernel_rfl) ?_)
  go_loopw [4, 6] (fun _ i wr => ∃ k : Nat, k ≤ 11 ∧ i = .int .i64 k ∧ (∀ j, j < k → numM j ≠ n) ∧ Below w.heap.size w wr) (fun _ i _ => 11 - (intOf i).toNat)
  case atStart => exact ⟨0, by omega, rfl, fun j hj => by omega, Below.refl _ _⟩
  case round =>
    obtain ⟨k, hk, rfl, hne, hg⟩ := hrel
    have HNE := Lib.hid hne; clear hne
    by_cases hlt : k < 11
    · have hix := idxM k hlt
      by_cases he : numM k = n
      · have hlook := look_at machTab n k hlt HNE.out he
        have HL := Lib.hid hlook; clear hlook
        have hb : ((numM k : Int) == (n : Int)) = true := by simp; omega
        have hb2 : (numM k == n) = true := by simp; omega
        have hlook2 : nameM k = ⟨(Hex.look machTab n).toArray⟩ := by rw [HL.out]; rfl
        rw [hlook2] at hix
        generalize hS : (⟨(Hex.look machTab n).toArray⟩ : ByteArray) = S at *
        have HS := Lib.hid hS; clear hS
        have HE := Lib.hid he; clear he hlook2 HL
        go_wp2
        go_ret
        exact ⟨by rw [HS.out]; rfl, hg.alloc hg.size _⟩
      · have hb : ((numM k : Int) == (n : Int)) = false := by simp; omega
        have hb2 : (numM k == n) = false := by simp; omega
        have hne' : ∀ j, j < k + 1 → numM j ≠ n := fun j hj => by
          by_cases hj2 : j = k
          · subst hj2; exact he
          · exact HNE.out j (by omega)
        have HNE' := Lib.hid hne'; clear hne'
        have HE := Lib.hid he; clear he
        go_wp2
        go_roundw
        case rel => exact ⟨k + 1, by omega, by go_num, HNE'.out, hg.alloc hg.size _⟩
        case measure => simp [intOf]; omega
    · obtain rfl : k = 11 := by omega
      have hout : Hex.look machTab n = 48 :: 120 :: Hex.hexL n := look_out machTab n HNE.out
      have HO := Lib.hid hout; clear hout
      have hT := HT.out.kept hg
      have HT2 := Lib.hid hT; clear hT
      go_wp2_with fail
      refine (hex_any n _ HN.out HT2.out.db HT2.out.size).mono ?_
      rintro e w1 ⟨rfl, h1⟩
      go_wp2
      go_ret
      exact ⟨by rw [HO.out]; rfl, hg.trans (h1.mono hg.size)⟩
end Go.Proofs.YtkajgakblcgocaaDoor
