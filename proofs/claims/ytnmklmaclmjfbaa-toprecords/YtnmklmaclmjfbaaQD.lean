/- Plain laws of a copy of a text's bytes into a row that a call has made. Conditions: those written in each theorem. -/
import Derived.Test.YtnmklmaclmjfbaaQC
import Derived.Test.YtnmklmaclmjfbaaOE
import Derived.Lib.BufferWrite
namespace Go.Proofs.Ytnmklmaclmjfbaa
open Go.RowKit
theorem make_z16 (w : World) : (Instr.makeSlice 25 (.int .i64 16) (.int .i64 16)).run Try.prog w = .ok (.slice (some ⟨w.heap.size, 0, none⟩) 16 16) (w.alloc (.cells #[.int .u8 0, .int .u8 0, .int .u8 0, .int .u8 0, .int .u8 0, .int .u8 0, .int .u8 0, .int .u8 0, .int .u8 0, .int .u8 0, .int .u8 0, .int .u8 0, .int .u8 0, .int .u8 0, .int .u8 0, .int .u8 0] 5)) := by
  obtain ⟨i0, hi, hz0, hz1, hz2⟩ := info_parts info5
  have := run_make w 25 5 i0 (.int .u8 0) Try.underlying25 hi hz0 .i64 .i64 16 16 (by omega) (by omega) (by rw [hz2]; omega) (by omega)
  rw [this, hz1, show Int.toNat 16 = 16 from rfl, Nat.mul_one, madeCells_zero]
  rfl
theorem setRow_alloc (w : World) (cur : Array Value) (t : TypeId) (cs : Array Value) : (w.alloc (.cells cur t)).setRow w.heap.size cs = w.alloc (.cells cs t) := by
  have key : ((w.alloc (.cells cur t)).setRow w.heap.size cs).heap = w.heap.push (.cells cs t) := by
    apply Array.ext_getElem?
    intro i
    by_cases hi : i = w.heap.size
    · subst hi
      rw [setRow_heap _ _ _ _ t _ (heap_alloc_new w (.cells cur t))]
      simp
    · rw [setRow_other _ _ _ _ hi]
      by_cases hlt : i < w.heap.size
      · rw [Below.heap_alloc w _ i hlt, Array.getElem?_push_lt hlt, Array.getElem?_eq_getElem hlt]
      · rw [Array.getElem?_eq_none (by simp; omega), Array.getElem?_eq_none (by simp; omega)]
  rw [← World.alloc_eq w (.cells cur t), ← World.alloc_eq w (.cells cs t)] at *
  exact congrArg (fun h => ({ w with heap := h } : World)) key
/-- copy(dst, s): as many of s's bytes as there is room for. -/
theorem run_copy_str {P : Program} (w : World) (dT sT ty elem : TypeId) (g o dLen dCap : Nat) (s : ByteArray) (cur : Array Value) (t : TypeId)
    (hu : P.underlying dT = some (.slice elem)) (hs : (P.info? elem).map (·.size) = some 1) (hg : w.heap[g]? = some (.cells cur t (0, 0))) (hfit : o + dLen ≤ cur.size) :
    (Builtin.copy_ #[dT, sT] ty #[.slice (some ⟨g, o, none⟩) dLen dCap, .string s]).run P w =
      .ok (goInt (Nat.min s.size dLen)) (w.setRow g (cur.toList.take o ++ Lib.byteCells (s.data.toList.take dLen) ++ cur.toList.drop (o + Nat.min s.size dLen)).toArray) := by
  have hlen : (Lib.byteCells (s.data.toList.take dLen)).length = Nat.min s.size dLen := by
    rw [Lib.byteCells_length, List.length_take, ← Lib.size_eq]; exact Nat.min_comm _ _
  have hm : Nat.min s.size dLen ≤ dLen := Nat.min_le_right _ _
  have hst := run_storeCells_at P g o t (Lib.byteCells (s.data.toList.take dLen)) 0 cur w hg (by rw [hlen]; omega) (Lib.byteCells_one _)
  have htk : List.take (Nat.min s.size dLen) (List.map (fun b : UInt8 => Value.int IntKind.u8 (b.toNat : Int)) s.data.toList) = Lib.byteCells (s.data.toList.take dLen) := by
    unfold Lib.byteCells
    rw [List.map_take]
    by_cases h : s.size ≤ dLen
    · have e : Nat.min s.size dLen = s.size := Nat.min_eq_left h
      rw [e, List.take_of_length_le (by rw [List.length_map, ← Lib.size_eq]; exact Nat.le_refl _), List.take_of_length_le (by rw [List.length_map, ← Lib.size_eq]; exact h)]
    · have e : Nat.min s.size dLen = dLen := Nat.min_eq_right (by omega)
      rw [e]
  rw [hlen] at hst
  simp only [Nat.add_zero] at hst
  cases hq : P.info? elem with
  | none => simp [hq] at hs
  | some i =>
    simp [Builtin.copy_, run_underlying hu, Builtin.lenOf, Builtin.firstCells, sizeOf, typeInfo, hq]
    rw [htk, hst]
    simp [Result.andThen]
theorem magic_copy (w : World) :
    (Builtin.copy_ #[25, 9] 3 #[.slice (some ⟨w.heap.size, 0, none⟩) 16 16, .string ⟨#[127, 69, 76, 70]⟩]).run Try.prog (w.alloc (.cells #[.int .u8 0, .int .u8 0, .int .u8 0, .int .u8 0, .int .u8 0, .int .u8 0, .int .u8 0, .int .u8 0, .int .u8 0, .int .u8 0, .int .u8 0, .int .u8 0, .int .u8 0, .int .u8 0, .int .u8 0, .int .u8 0] 5)) =
      .ok (goInt 4) (w.alloc (.cells #[.int .u8 127, .int .u8 69, .int .u8 76, .int .u8 70, .int .u8 0, .int .u8 0, .int .u8 0, .int .u8 0, .int .u8 0, .int .u8 0, .int .u8 0, .int .u8 0, .int .u8 0, .int .u8 0, .int .u8 0, .int .u8 0] 5)) := by
  have h := run_copy_str (P := Try.prog) (w.alloc (.cells #[.int .u8 0, .int .u8 0, .int .u8 0, .int .u8 0, .int .u8 0, .int .u8 0, .int .u8 0, .int .u8 0, .int .u8 0, .int .u8 0, .int .u8 0, .int .u8 0, .int .u8 0, .int .u8 0, .int .u8 0, .int .u8 0] 5)) 25 9 3 5 w.heap.size 0 16 16 ⟨#[127, 69, 76, 70]⟩ _ 5 Try.underlying25 (by kernel_rfl) (heap_alloc_new _ _) (by decide)
  rw [h, setRow_alloc]
  rfl
/-- The sixteen bytes of an ident. -/
def identL (big wide : Bool) (abi ver : UInt8) (pad : List UInt8) : List UInt8 :=
  [127, 69, 76, 70, if wide then 2 else 1, if big then 2 else 1, 1, abi, ver] ++ (pad.take 7 ++ List.replicate (7 - (pad.take 7).length) 0)
theorem identL_length (big wide : Bool) (abi ver : UInt8) (pad : List UInt8) : (identL big wide abi ver pad).length = 16 := by
  simp [identL]; omega
theorem setRow_drew (w : World) (g : Nat) (cs : Array Value) : w.drew.setRow g cs = (w.setRow g cs).drew := rfl
theorem byteCells_row (l : List UInt8) : (Lib.byteCells l).toArray = rowU8 l := rfl
theorem pad_copy (big wide : Bool) (abi ver : UInt8) (pad : ByteArray) (w : World) :
    (Builtin.copy_ #[25, 9] 3 #[.slice (some ⟨w.heap.size, 9, none⟩) 7 7, .string pad]).run Try.prog (w.alloc (.cells #[.int .u8 127, .int .u8 69, .int .u8 76, .int .u8 70, .int .u8 (if wide then 2 else 1), .int .u8 (if big then 2 else 1), .int .u8 1, .int .u8 abi.toNat, .int .u8 ver.toNat, .int .u8 0, .int .u8 0, .int .u8 0, .int .u8 0, .int .u8 0, .int .u8 0, .int .u8 0] 5)).drew.drew =
      .ok (goInt (Nat.min pad.size 7)) (w.alloc (.cells (rowU8 (identL big wide abi ver pad.data.toList)) 5)).drew.drew := by
  have h := run_copy_str (P := Try.prog) (w.alloc (.cells #[.int .u8 127, .int .u8 69, .int .u8 76, .int .u8 70, .int .u8 (if wide then 2 else 1), .int .u8 (if big then 2 else 1), .int .u8 1, .int .u8 abi.toNat, .int .u8 ver.toNat, .int .u8 0, .int .u8 0, .int .u8 0, .int .u8 0, .int .u8 0, .int .u8 0, .int .u8 0] 5)).drew.drew 25 9 3 5 w.heap.size 9 7 7 pad _ 5 Try.underlying25 (by kernel_rfl) (heap_alloc_new _ _) (by simp)
  rw [h, setRow_drew, setRow_drew, setRow_alloc]
  have hs : pad.size = pad.data.toList.length := by simp
  generalize pad.data.toList = l at *
  have e : (List.take 9 [Value.int .u8 127, .int .u8 69, .int .u8 76, .int .u8 70, .int .u8 (if wide then 2 else 1), .int .u8 (if big then 2 else 1), .int .u8 1, .int .u8 abi.toNat, .int .u8 ver.toNat, .int .u8 0, .int .u8 0, .int .u8 0, .int .u8 0, .int .u8 0, .int .u8 0, .int .u8 0] ++ Lib.byteCells (l.take 7) ++ List.drop (9 + Nat.min pad.size 7) [Value.int .u8 127, .int .u8 69, .int .u8 76, .int .u8 70, .int .u8 (if wide then 2 else 1), .int .u8 (if big then 2 else 1), .int .u8 1, .int .u8 abi.toNat, .int .u8 ver.toNat, .int .u8 0, .int .u8 0, .int .u8 0, .int .u8 0, .int .u8 0, .int .u8 0, .int .u8 0]) = (identL big wide abi ver l).map fun b => Value.int .u8 b.toNat := by
    have hd : List.drop (9 + Nat.min pad.size 7) [Value.int .u8 127, .int .u8 69, .int .u8 76, .int .u8 70, .int .u8 (if wide then 2 else 1), .int .u8 (if big then 2 else 1), .int .u8 1, .int .u8 abi.toNat, .int .u8 ver.toNat, .int .u8 0, .int .u8 0, .int .u8 0, .int .u8 0, .int .u8 0, .int .u8 0, .int .u8 0] = (List.replicate (7 - (l.take 7).length) (0 : UInt8)).map fun b => Value.int .u8 b.toNat := by
      rw [List.map_replicate, List.length_take, Nat.min_comm, ← hs, ← List.drop_drop]
      show List.drop (Nat.min pad.size 7) (List.replicate 7 (Value.int .u8 0)) = _
      rw [List.drop_replicate]
      rfl
    rw [hd]
    unfold identL Lib.byteCells
    cases wide <;> cases big <;> simp
  show Result.ok _ ((w.alloc (.cells (List.toArray _) 5)).drew.drew) = _
  rw [e]
  rfl
end Go.Proofs.Ytnmklmaclmjfbaa
