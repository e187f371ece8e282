/- Plain laws of a copy of a text's bytes into a row that a call has made. Conditions: those written in each theorem. The contract of class's Ident.Bytes. Conditions: those written in each theorem. Contracts of class.Read. Conditions: those written in each theorem. -/
import Derived.Test.YtedocnidgiglaaaJA
import Derived.Lib.BufferWrite
import Derived.Test.YtedocnidgiglaaaProg
import Derived.WalkKit
import Derived.WalkLawsBesides
import Derived.WalkSpells
import Derived.Outline
import Derived.Lib.Hide
import Derived.BigQuiet
import Derived.RegionTactic
import Derived.ChangeAlike
import Derived.Deep.QuietTactic
import Derived.Deep.RegionHeld3
namespace Go.Proofs.Ytedocnidgiglaaa
open Go.RowKit
theorem make_z16 (w : World) : (Instr.makeSlice 25 (.int .i64 16) (.int .i64 16)).run Try.prog w = .ok (.slice (some ⟨w.heap.size, 0, none⟩) 16 16) (w.alloc (.cells #[.int .u8 0, .int .u8 0, .int .u8 0, .int .u8 0, .int .u8 0, .int .u8 0, .int .u8 0, .int .u8 0, .int .u8 0, .int .u8 0, .int .u8 0, .int .u8 0, .int .u8 0, .int .u8 0, .int .u8 0, .int .u8 0] 5)) := by
  obtain ⟨i0, hi, hz0, hz1, hz2⟩ := info_parts info5
  have := run_make w 25 5 i0 (.int .u8 0) Try.underlying25 hi hz0 .i64 .i64 16 16 (by omega) (by omega) (by rw [hz2]; omega) (by omega)
  rw [this, hz1, show Int.toNat 16 = 16 from rfl, Nat.mul_one, madeCells_zero]
  rfl
theorem setRow_alloc (w : World) (cur : Array Value) (t : TypeId) (cs : Array Value) : (w.alloc (.cells cur t)).setRow w.heap.size cs = w.alloc (.cells cs t) := by
  have key : ((w.alloc (.cells cur t)).setRow w.heap.size cs).heap = w.heap.push (.cells cs t) := by
    apply Array.ext_getElem?
    intro i
    by_cases hi : i = w.heap.size
    · subst hi
      rw [setRow_heap _ _ _ _ t _ (heap_alloc_new w (.cells cur t))]
      simp
    · rw [setRow_other _ _ _ _ hi]
      by_cases hlt : i < w.heap.size
      · rw [Below.heap_alloc w _ i hlt, Array.getElem?_push_lt hlt, Array.getElem?_eq_getElem hlt]
      · rw [Array.getElem?_eq_none (by simp; omega), Array.getElem?_eq_none (by simp; omega)]
  rw [← World.alloc_eq w (.cells cur t), ← World.alloc_eq w (.cells cs t)] at *
  exact congrArg (fun h => ({ w with heap := h } : World)) key
/-- copy(dst, s): as many of s's bytes as there is room for. -/
theorem run_copy_str {P : Program} (w : World) (dT sT ty elem : TypeId) (g o dLen dCap : Nat) (s : ByteArray) (cur : Array Value) (t : TypeId)
    (hu : P.underlying dT = some (.slice elem)) (hs : (P.info? elem).map (·.size) = some 1) (hg : w.heap[g]? = some (.cells cur t (0, 0))) (hfit : o + dLen ≤ cur.size) :
    (Builtin.copy_ #[dT, sT] ty #[.slice (some ⟨g, o, none⟩) dLen dCap, .string s]).run P w =
      .ok (goInt (Nat.min s.size dLen)) (w.setRow g (cur.toList.take o ++ Lib.byteCells (s.data.toList.take dLen) ++ cur.toList.drop (o + Nat.min s.size dLen)).toArray) := by
  have hlen : (Lib.byteCells (s.data.toList.take dLen)).length = Nat.min s.size dLen := by
    rw [Lib.byteCells_length, List.length_take, ← Lib.size_eq]; exact Nat.min_comm _ _
  have hm : Nat.min s.size dLen ≤ dLen := Nat.min_le_right _ _
  have hst := run_storeCells_at P g o t (Lib.byteCells (s.data.toList.take dLen)) 0 cur w hg (by rw [hlen]; omega) (Lib.byteCells_one _)
  have htk : List.take (Nat.min s.size dLen) (List.map (fun b : UInt8 => Value.int IntKind.u8 (b.toNat : Int)) s.data.toList) = Lib.byteCells (s.data.toList.take dLen) := by
    unfold Lib.byteCells
    rw [List.map_take]
    by_cases h : s.size ≤ dLen
    · have e : Nat.min s.size dLen = s.size := Nat.min_eq_left h
      rw [e, List.take_of_length_le (by rw [List.length_map, ← Lib.size_eq]; exact Nat.le_refl _), List.take_of_length_le (by rw [List.length_map, ← Lib.size_eq]; exact h)]
    · have e : Nat.min s.size dLen = dLen := Nat.min_eq_right (by omega)
      rw [e]
  rw [hlen] at hst
  simp only [Nat.add_zero] at hst
  cases hq : P.info? elem with
  | none => simp [hq] at hs
  | some i =>
    simp [Builtin.copy_, run_underlying hu, Builtin.lenOf, Builtin.firstCells, sizeOf, typeInfo, hq]
    rw [htk, hst]
    simp [Result.andThen]
theorem magic_copy (w : World) :
    (Builtin.copy_ #[25, 9] 3 #[.slice (some ⟨w.heap.size, 0, none⟩) 16 16, .string ⟨#[127, 69, 76, 70]⟩]).run Try.prog (w.alloc (.cells #[.int .u8 0, .int .u8 0, .int .u8 0, .int .u8 0, .int .u8 0, .int .u8 0, .int .u8 0, .int .u8 0, .int .u8 0, .int .u8 0, .int .u8 0, .int .u8 0, .int .u8 0, .int .u8 0, .int .u8 0, .int .u8 0] 5)) =
      .ok (goInt 4) (w.alloc (.cells #[.int .u8 127, .int .u8 69, .int .u8 76, .int .u8 70, .int .u8 0, .int .u8 0, .int .u8 0, .int .u8 0, .int .u8 0, .int .u8 0, .int .u8 0, .int .u8 0, .int .u8 0, .int .u8 0, .int .u8 0, .int .u8 0] 5)) := by
  have h := run_copy_str (P := Try.prog) (w.alloc (.cells #[.int .u8 0, .int .u8 0, .int .u8 0, .int .u8 0, .int .u8 0, .int .u8 0, .int .u8 0, .int .u8 0, .int .u8 0, .int .u8 0, .int .u8 0, .int .u8 0, .int .u8 0, .int .u8 0, .int .u8 0, .int .u8 0] 5)) 25 9 3 5 w.heap.size 0 16 16 ⟨#[127, 69, 76, 70]⟩ _ 5 Try.underlying25 (by kernel_rfl) (heap_alloc_new _ _) (by decide)
  rw [h, setRow_alloc]
  rfl
/-- The sixteen bytes of an ident. -/
def identL (big wide : Bool) (abi ver : UInt8) (pad : List UInt8) : List UInt8 :=
  [127, 69, 76, 70, if wide then 2 else 1, if big then 2 else 1, 1, abi, ver] ++ (pad.take 7 ++ List.replicate (7 - (pad.take 7).length) 0)
theorem identL_length (big wide : Bool) (abi ver : UInt8) (pad : List UInt8) : (identL big wide abi ver pad).length = 16 := by
  simp [identL]; omega
theorem setRow_drew (w : World) (g : Nat) (cs : Array Value) : w.drew.setRow g cs = (w.setRow g cs).drew := rfl
theorem byteCells_row (l : List UInt8) : (Lib.byteCells l).toArray = rowU8 l := rfl
theorem pad_copy (big wide : Bool) (abi ver : UInt8) (pad : ByteArray) (w : World) :
    (Builtin.copy_ #[25, 9] 3 #[.slice (some ⟨w.heap.size, 9, none⟩) 7 7, .string pad]).run Try.prog (w.alloc (.cells #[.int .u8 127, .int .u8 69, .int .u8 76, .int .u8 70, .int .u8 (if wide then 2 else 1), .int .u8 (if big then 2 else 1), .int .u8 1, .int .u8 abi.toNat, .int .u8 ver.toNat, .int .u8 0, .int .u8 0, .int .u8 0, .int .u8 0, .int .u8 0, .int .u8 0, .int .u8 0] 5)).drew.drew =
      .ok (goInt (Nat.min pad.size 7)) (w.alloc (.cells (rowU8 (identL big wide abi ver pad.data.toList)) 5)).drew.drew := by
  have h := run_copy_str (P := Try.prog) (w.alloc (.cells #[.int .u8 127, .int .u8 69, .int .u8 76, .int .u8 70, .int .u8 (if wide then 2 else 1), .int .u8 (if big then 2 else 1), .int .u8 1, .int .u8 abi.toNat, .int .u8 ver.toNat, .int .u8 0, .int .u8 0, .int .u8 0, .int .u8 0, .int .u8 0, .int .u8 0, .int .u8 0] 5)).drew.drew 25 9 3 5 w.heap.size 9 7 7 pad _ 5 Try.underlying25 (by kernel_rfl) (heap_alloc_new _ _) (by simp)
  rw [h, setRow_drew, setRow_drew, setRow_alloc]
  have hs : pad.size = pad.data.toList.length := by simp
  generalize pad.data.toList = l at *
  have e : (List.take 9 [Value.int .u8 127, .int .u8 69, .int .u8 76, .int .u8 70, .int .u8 (if wide then 2 else 1), .int .u8 (if big then 2 else 1), .int .u8 1, .int .u8 abi.toNat, .int .u8 ver.toNat, .int .u8 0, .int .u8 0, .int .u8 0, .int .u8 0, .int .u8 0, .int .u8 0, .int .u8 0] ++ Lib.byteCells (l.take 7) ++ List.drop (9 + Nat.min pad.size 7) [Value.int .u8 127, .int .u8 69, .int .u8 76, .int .u8 70, .int .u8 (if wide then 2 else 1), .int .u8 (if big then 2 else 1), .int .u8 1, .int .u8 abi.toNat, .int .u8 ver.toNat, .int .u8 0, .int .u8 0, .int .u8 0, .int .u8 0, .int .u8 0, .int .u8 0, .int .u8 0]) = (identL big wide abi ver l).map fun b => Value.int .u8 b.toNat := by
    have hd : List.drop (9 + Nat.min pad.size 7) [Value.int .u8 127, .int .u8 69, .int .u8 76, .int .u8 70, .int .u8 (if wide then 2 else 1), .int .u8 (if big then 2 else 1), .int .u8 1, .int .u8 abi.toNat, .int .u8 ver.toNat, .int .u8 0, .int .u8 0, .int .u8 0, .int .u8 0, .int .u8 0, .int .u8 0, .int .u8 0] = (List.replicate (7 - (l.take 7).length) (0 : UInt8)).map fun b => Value.int .u8 b.toNat := by
      rw [List.map_replicate, List.length_take, Nat.min_comm, ← hs, ← List.drop_drop]
      show List.drop (Nat.min pad.size 7) (List.replicate 7 (Value.int .u8 0)) = _
      rw [List.drop_replicate]
      rfl
    rw [hd]
    unfold identL Lib.byteCells
    cases wide <;> cases big <;> simp
  show Result.ok _ ((w.alloc (.cells (List.toArray _) 5)).drew.drew) = _
  rw [e]
  rfl
end Go.Proofs.Ytedocnidgiglaaa
namespace Go.Proofs.Ytedocnidgiglaaa
open Go.RowKit
set_option maxHeartbeats 1000000 in
set_option maxRecDepth 100000 in
theorem bytes_any (big wide : Bool) (abi ver : UInt8) (pad : ByteArray) (w : World) :
    Calls Try.prog 25 #[.agg #[.bool big, .bool wide, .int .u8 abi.toNat, .int .u8 ver.toNat, .string pad]] w fun e w' => e = .returned (.string ⟨(identL big wide abi ver pad.data.toList).toArray⟩) ∧ Below w.heap.size w w' := by
  have hmk := make_z16
  have hmc := magic_copy (w.alloc (.cells #[.bool big, .bool wide, .int .u8 abi.toNat, .int .u8 ver.toNat, .string pad] 36))
  rw [World.size_alloc] at hmc
  have hpc := pad_copy big wide abi ver pad (w.alloc (.cells #[.bool big, .bool wide, .int .u8 abi.toNat, .int .u8 ver.toNat, .string pad] 36))
  rw [World.size_alloc] at hpc
  have hcv := conv_row ((w.alloc (.cells #[.bool big, .bool wide, .int .u8 abi.toNat, .int .u8 ver.toNat, .string pad] 36)).alloc (.cells (rowU8 (identL big wide abi ver pad.data.toList)) 5)).drew.drew (w.heap.size + 1) 16 _ (identL_length big wide abi ver pad.data.toList) (two_new w _ _)
  cases big <;> cases wide
  all_goals
    simp only [Bool.false_eq_true, if_true, if_false] at hpc
    generalize hI : identL _ _ abi ver pad.data.toList = I at *
    clear hI
    go_enter Try.func25, Try.ntmps25
    go_wp2
    go_region
    clear hmk hmc
    go_wp2
    go_region
    go_wp2
    go_ret
    exact ⟨rfl, (((Below.refl _ _).alloc (Nat.le_refl _) _).alloc (by simp) _).drew.drew⟩
end Go.Proofs.Ytedocnidgiglaaa
namespace Go.Proofs.Ytedocnidgiglaaa
open Go.RowKit
/-- Whether the four bytes with which a file begins are the right ones. -/
def isMagic (s : ByteArray) : Bool := (s.extract 0 4).toList == [127, 69, 76, 70]
theorem hp_any (s : ByteArray) (w : World) (h : 16 ≤ s.size) (hm : s.size ≤ maxLen) :
    Calls Try.prog 124 #[.string s, .string ⟨#[127, 69, 76, 70]⟩] w fun e w' => e = .returned (.bool (isMagic s)) ∧ w = w' := by
  unfold maxLen at hm
  have hi : (16 : Int) ≤ s.size := by omega
  go_enter Try.func124, Try.ntmps124
  go_wp2
  go_ret
  exact ⟨rfl, rfl⟩
theorem hp_is (b : Bool) (s : ByteArray) (w : World) (h : 16 ≤ s.size) (hm : s.size ≤ maxLen) (hb : isMagic s = b) :
    Calls Try.prog 124 #[.string s, .string ⟨#[127, 69, 76, 70]⟩] w fun e w' => e = .returned (.bool b) ∧ w = w' := by
  have := hp_any s w h hm
  rwa [hb] at this
/-- What Read answers with an error. -/
def noIdent (n : Int) : Value := .tuple #[.agg #[.bool false, .bool false, .int .u8 0, .int .u8 0, .string ⟨#[]⟩], .int .i64 n]
theorem read_short (s : ByteArray) (w : World) (h : s.size < 16) :
    Calls Try.prog 88 #[.string s] w fun e w' => e = .returned (noIdent 3) ∧ Below w.heap.size w w' := by
  have hi : (s.size : Int) < 16 := by omega
  go_enter Try.func88, Try.ntmps88
  go_wp2
  exact bodyPost_ret (v := noIdent 3) (by simp [results, Try.results88, go_sem, noIdent]) rfl ⟨rfl, by
    exact (Below.refl _ _).alloc (Nat.le_refl _) _⟩
theorem read_magic (s : ByteArray) (w : World) (h : 16 ≤ s.size) (hm : s.size ≤ maxLen) (hb : isMagic s = false) :
    Calls Try.prog 88 #[.string s] w fun e w' => e = .returned (noIdent 4) ∧ Below w.heap.size w w' := by
  have hi : ¬ (s.size : Int) < 16 := by omega
  go_enter Try.func88, Try.ntmps88
  go_wp2_with (go_at_call 124; refine (hp_is false _ _ h hm hb).mono ?_; rintro e w' ⟨rfl, rfl⟩)
  exact bodyPost_ret (v := noIdent 4) (by simp [results, Try.results88, go_sem, noIdent]) rfl ⟨rfl, (Below.refl _ _).alloc (Nat.le_refl _) _⟩
theorem read_class (s : ByteArray) (w : World) (h : 16 ≤ s.size) (hm : s.size ≤ maxLen) (hb : isMagic s = true)
    (h4 : ((s[4].toNat : Int) != 1) = true) (h4' : ((s[4].toNat : Int) != 2) = true) :
    Calls Try.prog 88 #[.string s] w fun e w' => e = .returned (noIdent 5) ∧ Below w.heap.size w w' := by
  have hi : ¬ (s.size : Int) < 16 := by omega
  have hi4 : (4 : Int) < s.size := by omega
  go_enter Try.func88, Try.ntmps88
  go_wp2_with (go_at_call 124; refine (hp_is true _ _ h hm hb).mono ?_; rintro e w' ⟨rfl, rfl⟩)
  exact bodyPost_ret (v := noIdent 5) (by simp [results, Try.results88, go_sem, noIdent]) rfl ⟨rfl, (Below.refl _ _).alloc (Nat.le_refl _) _⟩
theorem read_data (s : ByteArray) (w : World) (h : 16 ≤ s.size) (hm : s.size ≤ maxLen) (hb : isMagic s = true)
    (h4 : s[4].toNat = 1 ∨ s[4].toNat = 2)
    (h5 : ((s[5].toNat : Int) != 1) = true) (h5' : ((s[5].toNat : Int) != 2) = true) :
    Calls Try.prog 88 #[.string s] w fun e w' => e = .returned (noIdent 6) ∧ Below w.heap.size w w' := by
  have hi : ¬ (s.size : Int) < 16 := by omega
  have hi4 : (4 : Int) < s.size := by omega
  have hi4 : (5 : Int) < s.size := by omega
  have hq : ((s[4].toNat : Int) != 1) = false ∨ ((s[4].toNat : Int) != 1) = true ∧ ((s[4].toNat : Int) != 2) = false := by simp; omega
  clear h4
  rcases hq with hq | ⟨hq, hq2⟩
  all_goals
    go_enter Try.func88, Try.ntmps88
    go_wp2_with (go_at_call 124; refine (hp_is true _ _ h hm hb).mono ?_; rintro e w' ⟨rfl, rfl⟩)
    exact bodyPost_ret (v := noIdent 6) (by simp [results, Try.results88, go_sem, noIdent]) rfl ⟨rfl, (Below.refl _ _).alloc (Nat.le_refl _) _⟩
theorem read_version (s : ByteArray) (w : World) (h : 16 ≤ s.size) (hm : s.size ≤ maxLen) (hb : isMagic s = true)
    (h4 : s[4].toNat = 1 ∨ s[4].toNat = 2) (h5 : s[5].toNat = 1 ∨ s[5].toNat = 2) (h6 : ((s[6].toNat : Int) != 1) = true) :
    Calls Try.prog 88 #[.string s] w fun e w' => e = .returned (noIdent 7) ∧ Below w.heap.size w w' := by
  have hi : ¬ (s.size : Int) < 16 := by omega
  have hi4 : (4 : Int) < s.size := by omega
  have hi4 : (5 : Int) < s.size := by omega
  have hi4 : (6 : Int) < s.size := by omega
  have hq : ((s[4].toNat : Int) != 1) = false ∨ ((s[4].toNat : Int) != 1) = true ∧ ((s[4].toNat : Int) != 2) = false := by simp; omega
  have hr : ((s[5].toNat : Int) != 1) = false ∨ ((s[5].toNat : Int) != 1) = true ∧ ((s[5].toNat : Int) != 2) = false := by simp; omega
  clear h4 h5
  rcases hq with hq | ⟨hq, hq2⟩ <;> rcases hr with hr | ⟨hr, hr2⟩
  all_goals
    go_enter Try.func88, Try.ntmps88
    go_wp2_with (go_at_call 124; refine (hp_is true _ _ h hm hb).mono ?_; rintro e w' ⟨rfl, rfl⟩)
    exact bodyPost_ret (v := noIdent 7) (by simp [results, Try.results88, go_sem, noIdent]) rfl ⟨rfl, (Below.refl _ _).alloc (Nat.le_refl _) _⟩
/-- What Read answers without an error. -/
def okIdent (big wide : Bool) (abi ver : Nat) (pad : ByteArray) : Value := .tuple #[.agg #[.bool big, .bool wide, .int .u8 abi, .int .u8 ver, .string pad], .int .i64 0]
set_option maxHeartbeats 1000000 in
theorem read_ok (s : ByteArray) (w : World) (h : 16 ≤ s.size) (hm : s.size ≤ maxLen) (hb : isMagic s = true)
    (h4 : s[4].toNat = 1 ∨ s[4].toNat = 2) (h5 : s[5].toNat = 1 ∨ s[5].toNat = 2) (h6 : ((s[6].toNat : Int) != 1) = false) :
    Calls Try.prog 88 #[.string s] w fun e w' => e = .returned (okIdent ((s[5].toNat : Int) == 2) ((s[4].toNat : Int) == 2) s[7].toNat s[8].toNat (s.extract 9 16)) ∧ Below w.heap.size w w' := by
  have hi : ¬ (s.size : Int) < 16 := by omega
  have hi4 : (4 : Int) < s.size := by omega
  have hi5 : (5 : Int) < s.size := by omega
  have hi6 : (6 : Int) < s.size := by omega
  have hi7 : (7 : Int) < s.size := by omega
  have hi8 : (8 : Int) < s.size := by omega
  have hi9 : (16 : Int) ≤ s.size := by omega
  have hq : ((s[4].toNat : Int) != 1) = false ∧ ((s[4].toNat : Int) == 2) = false ∨ ((s[4].toNat : Int) != 1) = true ∧ ((s[4].toNat : Int) != 2) = false ∧ ((s[4].toNat : Int) == 2) = true := by simp; omega
  have hr : ((s[5].toNat : Int) != 1) = false ∧ ((s[5].toNat : Int) == 2) = false ∨ ((s[5].toNat : Int) != 1) = true ∧ ((s[5].toNat : Int) != 2) = false ∧ ((s[5].toNat : Int) == 2) = true := by simp; omega
  clear h4 h5
  rcases hq with ⟨hq, hqe⟩ | ⟨hq, hq2, hqe⟩ <;> rcases hr with ⟨hr, hre⟩ | ⟨hr, hr2, hre⟩
  all_goals
    rw [hqe, hre]
    go_enter Try.func88, Try.ntmps88
    go_wp2_with (go_at_call 124; refine (hp_is true _ _ h hm hb).mono ?_; rintro e w' ⟨rfl, rfl⟩)
    go_region
    go_wp2
    go_region
    go_wp2
    first
      | exact bodyPost_ret (v := okIdent false false s[7].toNat s[8].toNat (s.extract 9 16)) (by simp [results, Try.results88, go_sem, okIdent]) rfl ⟨rfl, (((Below.refl _ _).alloc (Nat.le_refl _) _).alloc (by simp) _).drew.drew⟩
      | exact bodyPost_ret (v := okIdent false true s[7].toNat s[8].toNat (s.extract 9 16)) (by simp [results, Try.results88, go_sem, okIdent]) rfl ⟨rfl, (((Below.refl _ _).alloc (Nat.le_refl _) _).alloc (by simp) _).drew.drew⟩
      | exact bodyPost_ret (v := okIdent true false s[7].toNat s[8].toNat (s.extract 9 16)) (by simp [results, Try.results88, go_sem, okIdent]) rfl ⟨rfl, (((Below.refl _ _).alloc (Nat.le_refl _) _).alloc (by simp) _).drew.drew⟩
      | exact bodyPost_ret (v := okIdent true true s[7].toNat s[8].toNat (s.extract 9 16)) (by simp [results, Try.results88, go_sem, okIdent]) rfl ⟨rfl, (((Below.refl _ _).alloc (Nat.le_refl _) _).alloc (by simp) _).drew.drew⟩
end Go.Proofs.Ytedocnidgiglaaa
