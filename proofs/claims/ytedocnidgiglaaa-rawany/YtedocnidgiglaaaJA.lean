/- Plain mathematics for layer 1: bytes and numbers. No Go here. Contracts of the library, proved over any program, at this program's numbers: strings.Builder's String. Conditions: those written in each theorem. Contracts of strings.Builder's copyCheck, WriteString and String at this program's numbers. Conditions: those written in each theorem. Contracts of order's isSize and index: what each call returns, for sizes of 1 to 8 bytes (index) and for all (isSize). Conditions: those written in each theorem. Contracts of the reference's Get: the number of a text's bytes, highest or lowest first; 0 for more than eight. Conditions: those written in each theorem. Contracts of the reference's Put and Get, at every argument. Conditions: those written in each theorem. Contracts of order's Put, at every number and size. Conditions: those written in each theorem. The contract of order.Fields. Conditions: those written in each theorem. -/
import Derived.Shelf.Strings.Builder1
import Derived.Shelf.Strings.BuilderF
import Derived.Shelf.Strings.BuilderK
import Derived.Test.YtedocnidgiglaaaProg
import Derived.WalkKit
import Derived.WalkSpells
import Derived.Lib.Hide
import Derived.WalkLawsBesides
import Derived.Outline
import Derived.BigQuiet
import Derived.Deep.QuietTactic
import Derived.Deep.RegionHeld3
import Derived.PlainAid
import Derived.Laws.IdiomStrings
import Derived.Laws.Concat
import Derived.Laws.MakeOwn
import Derived.Laws.Rows
namespace Go.Proofs.Ytedocnidgiglaaa
namespace Num

theorem snoc_ind {α : Type} {P : List α → Prop} (h0 : P []) (h1 : ∀ l b, P l → P (l ++ [b])) (l : List α) : P l := by
  have h : ∀ r : List α, P r.reverse := by
    intro r
    induction r with
    | nil => exact h0
    | cons b r ih => rw [List.reverse_cons]; exact h1 _ _ ih
  have := h l.reverse
  rwa [List.reverse_reverse] at this

/-- The number of bytes, highest first. -/
def horner (l : List UInt8) : Nat := l.foldl (fun a b => 256 * a + b.toNat) 0
theorem horner_nil : horner [] = 0 := rfl
theorem horner_snoc (l : List UInt8) (b : UInt8) : horner (l ++ [b]) = 256 * horner l + b.toNat := by simp [horner]
theorem horner_lt (l : List UInt8) : horner l < 256 ^ l.length := by
  refine snoc_ind (P := fun l => horner l < 256 ^ l.length) (by simp [horner]) ?_ l
  intro l b ih
  rw [horner_snoc, List.length_append, List.length_singleton, Nat.pow_succ]
  have := b.toNat_lt
  omega
theorem horner_cons (b : UInt8) (l : List UInt8) : horner (b :: l) = b.toNat * 256 ^ l.length + horner l := by
  refine snoc_ind (P := fun l => horner (b :: l) = b.toNat * 256 ^ l.length + horner l) (by simp [horner]) ?_ l
  intro l c ih
  rw [← List.cons_append, horner_snoc, horner_snoc, ih, List.length_append, List.length_singleton, Nat.pow_succ]
  rw [Nat.mul_add, Nat.add_assoc, ← Nat.mul_assoc, ← Nat.mul_assoc, Nat.mul_comm 256 b.toNat, Nat.mul_assoc b.toNat 256, Nat.mul_assoc b.toNat, Nat.mul_comm 256 (256 ^ l.length)]

/-- The k lowest bytes of n, lowest first. -/
def leB (n : Nat) : Nat → List UInt8
  | 0 => []
  | k + 1 => leB n k ++ [UInt8.ofNat (n / 256 ^ k)]
theorem leB_length (n k : Nat) : (leB n k).length = k := by
  induction k with
  | zero => rfl
  | succ k ih => simp [leB, ih]
theorem leB_cons (n k : Nat) : leB n (k + 1) = UInt8.ofNat n :: leB (n / 256) k := by
  induction k with
  | zero => simp [leB]
  | succ k ih =>
    rw [leB, ih, List.cons_append, leB, Nat.pow_succ, Nat.div_div_eq_div_mul, Nat.mul_comm]
theorem ofNat_add_mul (b : UInt8) (m : Nat) : UInt8.ofNat (256 * m + b.toNat) = b := by
  apply UInt8.toNat_inj.1
  rw [UInt8.toNat_ofNat']
  have := b.toNat_lt
  omega
theorem leB_horner (l : List UInt8) : leB (horner l) l.length = l.reverse := by
  refine snoc_ind (P := fun l => leB (horner l) l.length = l.reverse) rfl ?_ l
  intro l b ih
  rw [List.length_append, List.length_singleton, leB_cons, horner_snoc, ofNat_add_mul, List.reverse_append]
  have : (256 * horner l + b.toNat) / 256 = horner l := by have := b.toNat_lt; omega
  rw [this, ih]
  rfl

/-- The bytes of n in size of them, highest first if big; none if that size may not be. -/
def putL (big : Bool) (n : Nat) (size : Int) : List UInt8 :=
  if 1 ≤ size ∧ size ≤ 8 then (if big then (leB n size.toNat).reverse else leB n size.toNat) else []
/-- The number of bytes; 0 for more than eight. -/
def getN (big : Bool) (l : List UInt8) : Nat :=
  if l.length ≤ 8 then (if big then horner l else horner l.reverse) else 0
end Num
end Go.Proofs.Ytedocnidgiglaaa
namespace Go.Proofs
open Go.Shelf
def Try.lays169_ren : Go.Shelf.Ren := ⟨fun | 169 => 140 | n => n, fun | 70 => 250 | 9 => 9 | 0 => 0 | 72 => 252 | 37 => 25 | 127 => 270 | 3 => 3 | 5 => 5 | n => n, fun | n => n⟩
theorem Try.lays169 : Go.Proofs.Lays.n169 Try.prog Try.lays169_ren := {
  mixed := by kernel_rfl
  f169 := Try.func140.trans (congrArg some (by kernel_rfl))
  t0 := Try.underlying0
  a0 := Try.isAgg0
  z0 := Try.sizeOf0
  v0 := Try.zeroValue0
  t3 := Try.underlying3
  a3 := Try.isAgg3
  z3 := Try.sizeOf3
  v3 := Try.zeroValue3
  t9 := Try.underlying9
  a9 := Try.isAgg9
  z9 := Try.sizeOf9
  v9 := Try.zeroValue9
  t37 := Try.underlying25
  a37 := Try.isAgg25
  z37 := Try.sizeOf25
  v37 := Try.zeroValue25
  t70 := Try.underlying250
  a70 := Try.isAgg250
  z70 := Try.sizeOf250
  v70 := Try.zeroValue250
  t72 := Try.underlying252
  a72 := Try.isAgg252
  z72 := Try.sizeOf252
  v72 := Try.zeroValue252
  t127 := Try.underlying270
  a127 := Try.isAgg270
  z127 := Try.sizeOf270
  v127 := Try.zeroValue270 }
theorem Try.Builder_Extra_169 : Builder.Extra Try.prog Try.lays169_ren := {
  sizeBuilder := by kernel_rfl
  liesBuilder := by kernel_rfl
  t5 := Try.underlying5
  a5 := Try.isAgg5
  z5 := Try.sizeOf5
  v5 := Try.zeroValue5
  infoByte := by kernel_rfl
  cellsByte := by kernel_rfl
  sizeByte := by kernel_rfl
  neB5 := by decide }
open Go.RowKit in
theorem Try.Builder_String_any (B b : Nat) (l : List UInt8) (w : World) (h : Lib.IsBuilder 252 5 B b (Lib.byteCells l) w) (hBw : B ≤ w.heap.size) :
    Calls Try.prog 140 #[.pointer (some ⟨b, 0, none⟩)] w fun e w' => e = .returned (.string ⟨l.toArray⟩) ∧ Below B w w' := Any.Builder_String_any Try.lays169 Try.Builder_Extra_169 B b l w h hBw
end Go.Proofs
namespace Go.Proofs.Ytedocnidgiglaaa
open Go.Shelf Go.RowKit
theorem sizeBuilder : (Try.prog.info? 252).map (·.size) = some 2 := by kernel_rfl
theorem liesBuilder : liesAt Try.prog Try.prog.depth 252 (2 / Try.prog.cellsOf 252) 0 252 1 = true := by kernel_rfl
theorem infoByte : (Try.prog.info? 5).map (fun i => (i.zero, i.size, i.bytes)) = some (some (.int .u8 0), 1, 1) := by kernel_rfl
set_option maxHeartbeats 1000000 in
set_option maxRecDepth 100000 in
theorem copyCheck_used (b : Nat) (w : World) (h0 : w.cell? ⟨b, 0, none⟩ = some (.pointer (some ⟨b, 0, none⟩))) :
    Calls Try.prog 157 #[.pointer (some ⟨b, 0, none⟩)] w fun e w' => e = .returned (.tuple #[]) ∧ w' = w := by
  obtain ⟨j, hj, _⟩ := Option.map_eq_some_iff.1 sizeBuilder
  go_enter Try.func157, Try.ntmps157
  go_wp2
  rw [Lib.run_neq_ptr_same w _ Try.underlying250 hj]
  go_wp2
  go_end0
  exact ⟨rfl, rfl⟩
set_option maxHeartbeats 1000000 in
set_option maxRecDepth 100000 in
theorem copyCheck_fresh (b : Nat) (w : World) (h0 : w.cell? ⟨b, 0, none⟩ = some (.pointer none)) (hsh : w.shape? b = some (252, 2)) (hfz : w.frozen? ⟨b, 0, none⟩ = false) :
    Calls Try.prog 157 #[.pointer (some ⟨b, 0, none⟩)] w fun e w' => e = .returned (.tuple #[]) ∧ w' = w.setCell ⟨b, 0, none⟩ (.pointer (some ⟨b, 0, none⟩)) := by
  obtain ⟨j, hj, hjs⟩ := Option.map_eq_some_iff.1 sizeBuilder
  go_enter Try.func157, Try.ntmps157
  go_wp2
  rw [Lib.run_to_unsafe w ⟨b, 0, none⟩ Try.underlying250 Try.underlying287 hj (by rw [hjs]; decide) hsh (Nat.zero_lt_succ 1)]
  simp only [Result.andThen]
  rw [Oper.upon_value]
  go_wp2
  rw [run_callFunc_extern Try.func174 (by kernel_rfl) (by kernel_rfl) (by kernel_rfl) (e := Extern.AbiNoEscape.same) (by kernel_rfl)]
  rw [Lib.run_noEscape]
  simp only [Result.andThen]
  rw [Oper.upon_value]
  go_wp2
  rw [Lib.run_from_unsafe w ⟨b, 0, none⟩ Try.underlying287 Try.underlying250 hj hsh liesBuilder]
  simp only [Result.andThen]
  rw [Oper.upon_value]
  go_wp2
  go_end0
  exact ⟨rfl, rfl⟩
theorem copyCheck_any (B b : Nat) (bs : List Value) (w : World) (h : Lib.IsBuilder 252 5 B b bs w) :
    Calls Try.prog 157 #[.pointer (some ⟨b, 0, none⟩)] w fun e w' => e = .returned (.tuple #[]) ∧ (Lib.BuilderAt 252 5 B b (.pointer (some ⟨b, 0, none⟩)) bs w' ∧ Below B w w') := by
  rcases h with h | h
  · refine (copyCheck_fresh b w h.cell0 h.shape h.frozen0).mono ?_
    rintro e w' ⟨rfl, rfl⟩
    exact ⟨rfl, h.used _, (Below.refl B w).setCell (p := ⟨b, 0, none⟩) h.1 _⟩
  · refine (copyCheck_used b w h.cell0).mono ?_
    rintro e w' ⟨rfl, rfl⟩
    exact ⟨rfl, h, Below.refl B _⟩
set_option maxHeartbeats 2000000 in
set_option maxRecDepth 100000 in
theorem writeString_any (B b : Nat) (bs : List Value) (s : ByteArray) (w : World) (h : Lib.IsBuilder 252 5 B b bs w) (hlen : bs.length + s.size ≤ 140737488355328) (hBw : B ≤ w.heap.size) :
    Calls Try.prog 138 #[.pointer (some ⟨b, 0, none⟩), .string s] w fun e w' => e = .returned (.tuple #[.int .i64 s.size, .nilIface]) ∧ (Lib.BuilderAt 252 5 B b (.pointer (some ⟨b, 0, none⟩)) (bs ++ Lib.strCells s) w' ∧ Below B w w') := by
  obtain ⟨i0, hi, hz0, hz1, hz2⟩ := info_parts infoByte
  go_enter Try.func138, Try.ntmps138
  go_wp2_with (go_at_call 157; refine (copyCheck_any B b bs _ h).mono ?_)
  rintro e w1 ⟨rfl, h1, hb1⟩
  obtain ⟨hB, v, hbk, hown, hne⟩ := h1
  have c0 : w1.cell? ⟨b, 0, none⟩ = some (.pointer (some ⟨b, 0, none⟩)) := by rw [Lib.cell_of_heap hbk]; rfl
  have c1 : w1.cell? ⟨b, 1, none⟩ = some v := by rw [Lib.cell_of_heap hbk]; rfl
  go_wp2_with (at_builtin; refine Lib.wpList_append_own_string _ rfl _ _ 25 9 rfl B 5 i0 Try.underlying25 Try.underlying9 hi hz0 hz1 hz2 _ _ _ rfl hown s rfl ?c3 ?c4 ?c5 ?_)
  case c3 => unfold maxLen; omega
  case c4 => omega
  case c5 => have := hb1.size; omega
  intro v' w2 hown' hgrow _
  have hlt : b < w1.heap.size := by
    rcases Nat.lt_or_ge b w1.heap.size with h' | h'
    · exact h'
    · simp [Array.getElem?_eq_none h'] at hbk
  have hb2 : w2.heap[b]? = some (.cells #[.pointer (some ⟨b, 0, none⟩), v] 252 (0, 0)) := by
    rw [hgrow.block b hlt (fun e => hne e.symm)]
    exact hbk
  have d0 : w2.cell? ⟨b, 0, none⟩ = some (.pointer (some ⟨b, 0, none⟩)) := by rw [Lib.cell_of_heap hb2]; rfl
  have d1 : w2.cell? ⟨b, 1, none⟩ = some v := by rw [Lib.cell_of_heap hb2]; rfl
  have f1 : w2.frozen? ⟨b, 1, none⟩ = false := Lib.frozen_of_heap hb2 1
  obtain ⟨ao, n', cap, rfl⟩ : ∃ ao n' cap, v' = .slice ao n' cap := by
    rcases hown'.2 with ⟨hv, _⟩ | ⟨g, cap, cur, hv, _⟩
    · exact ⟨_, _, _, hv⟩
    · exact ⟨_, _, _, hv⟩
  go_wp2
  go_ret2
  refine ⟨rfl, ?_, ?_⟩
  · exact Lib.BuilderAt.put (T := 252) (e := 5) hB hb2 (bs' := bs ++ Lib.strCells s) (by simpa [Lib.strCells_length] using hown') (by decide)
  · exact (hb1.grown hgrow (by have := hb1.size; omega) (fun k hk => (hown.lt k hk).1)).setCell (p := ⟨b, 1, none⟩) hB _
end Go.Proofs.Ytedocnidgiglaaa
namespace Go.Proofs.Ytedocnidgiglaaa
open Go.RowKit

theorem isSize_yes (s : Int) (w : World) (h1 : 1 ≤ s) (h2 : s ≤ 8) :
    Calls Try.prog 158 #[.int .i64 s] w fun e w' => e = .returned (.bool true) ∧ w = w' := by
  go_enter Try.func158, Try.ntmps158
  go_wp2
  go_ret
  exact ⟨rfl, rfl⟩
theorem isSize_no (s : Int) (w : World) (h : s < 1 ∨ 8 < s) :
    Calls Try.prog 158 #[.int .i64 s] w fun e w' => e = .returned (.bool false) ∧ w = w' := by
  rcases h with h | h
  · have h' : decide (1 ≤ s) = false := by simp; omega
    go_enter Try.func158, Try.ntmps158
    go_wp2
    go_ret
    exact ⟨rfl, rfl⟩
  · have h' : decide (1 ≤ s) = true := by simp; omega
    have h' : decide (s ≤ 8) = false := by simp; omega
    go_enter Try.func158, Try.ntmps158
    go_wp2
    go_ret
    exact ⟨rfl, rfl⟩
theorem index_big (i n : Int) (w : World) (h0 : 0 ≤ i) (h1 : i < n) (h2 : n ≤ 8) :
    Calls Try.prog 159 #[.agg #[.bool true], .int .i64 i, .int .i64 n] w fun e w' => e = .returned (.int .i64 (n - 1 - i)) ∧ w' = w.alloc (.cells #[.bool true] 32) := by
  go_enter Try.func159, Try.ntmps159
  go_wp2
  go_ret
  exact ⟨rfl, rfl⟩
theorem index_little (i n : Int) (w : World) :
    Calls Try.prog 159 #[.agg #[.bool false], .int .i64 i, .int .i64 n] w fun e w' => e = .returned (.int .i64 i) ∧ w' = w.alloc (.cells #[.bool false] 32) := by
  go_enter Try.func159, Try.ntmps159
  go_wp2
  go_ret
  exact ⟨rfl, rfl⟩
end Go.Proofs.Ytedocnidgiglaaa
namespace Go.Proofs.Ytedocnidgiglaaa
open Go.RowKit

theorem ret_int {k : IntKind} {a b : Int} (h : a = b) : Ending.returned (.int k a) = .returned (.int k b) := by rw [h]
theorem int_eq {k : IntKind} {a b : Int} (h : a = b) : Value.int k a = .int k b := by rw [h]
theorem pow_le_8 {k : Nat} (h : k < 8) : 256 ^ (k + 1) ≤ 18446744073709551616 := by
  have : 256 ^ (k + 1) ≤ 256 ^ 8 := Nat.pow_le_pow_right (by omega) (by omega)
  simpa using this
theorem take_snoc {α : Type} (l : List α) (k : Nat) (h : k < l.length) : l.take (k + 1) = l.take k ++ [l[k]] := by
  rw [List.take_succ_eq_append_getElem h]
theorem get_step (l : List UInt8) (k : Nat) (hk : k < l.length) (h8 : l.length ≤ 8) (x : Nat) (hx : Num.horner (l.take k) = x) (b : UInt8) (hb : l[k] = b) :
    IntKind.u64.wrap (IntKind.u64.wrap (256 * (x : Int)) + IntKind.u64.wrap (b.toNat : Int)) = ((Num.horner (l.take (k + 1)) : Nat) : Int) := by
  subst hx hb
  have h1 := Num.horner_lt (l.take (k + 1))
  rw [List.length_take, Nat.min_eq_left (by omega)] at h1
  have h2 := pow_le_8 (show k < 8 by omega)
  rw [take_snoc l k hk, Num.horner_snoc] at h1 ⊢
  have := l[k].toNat_lt
  rw [IntKind.wrap_u64, IntKind.wrap_u64, IntKind.wrap_u64]
  omega
set_option maxHeartbeats 400000 in
theorem refGet_big (s : ByteArray) (w : World) (hs : s.size ≤ 8) :
    Calls Try.prog 98 #[.bool true, .string s] w fun e w' => e = .returned (.int .u64 (Num.horner s.data.toList : Nat)) ∧ w = w' := by
  go_enter Try.func98, Try.ntmps98
  go_wp2
  go_loop [5, 6] (fun n i => ∃ k : Nat, k ≤ s.size ∧ i = .int .i64 k ∧ n = .int .u64 (Num.horner (s.data.toList.take k) : Nat)) (fun _ i => s.size - (intOf i).toNat)
  case atStart => exact ⟨0, Nat.zero_le _, rfl, rfl⟩
  case round =>
    obtain ⟨k, hk, rfl, rfl⟩ := hrel
    by_cases hlt : k < s.size
    · generalize hx : Num.horner (s.data.toList.take k) = x
      have HX := Lib.hid hx; clear hx
      go_wp2
      go_round
      case rel => exact ⟨k + 1, by omega, by go_num, int_eq (get_step s.data.toList k (by simpa using hlt) (by simpa using hs) x HX.out _ rfl)⟩
      case measure => simp [intOf]; omega
    · go_wp2
      go_ret
      exact ⟨ret_int (by rw [List.take_of_length_le (by simp; omega)]), rfl⟩
set_option maxHeartbeats 400000 in
theorem refGet_little (s : ByteArray) (w : World) (hs : s.size ≤ 8) :
    Calls Try.prog 98 #[.bool false, .string s] w fun e w' => e = .returned (.int .u64 (Num.horner s.data.toList.reverse : Nat)) ∧ w = w' := by
  go_enter Try.func98, Try.ntmps98
  go_wp2
  go_loop [5, 6] (fun n i => ∃ k : Nat, k ≤ s.size ∧ i = .int .i64 k ∧ n = .int .u64 (Num.horner (s.data.toList.reverse.take k) : Nat)) (fun _ i => s.size - (intOf i).toNat)
  case atStart => exact ⟨0, Nat.zero_le _, rfl, rfl⟩
  case round =>
    obtain ⟨k, hk, rfl, rfl⟩ := hrel
    by_cases hlt : k < s.size
    · generalize hx : Num.horner (s.data.toList.reverse.take k) = x
      have HX := Lib.hid hx; clear hx
      go_wp2
      go_round
      case rel => exact ⟨k + 1, by omega, by go_num, int_eq (get_step s.data.toList.reverse k (by simpa using hlt) (by simpa using hs) x HX.out _ (by rw [List.getElem_reverse]; rfl))⟩
      case measure => simp [intOf]; omega
    · go_wp2
      go_ret
      exact ⟨ret_int (by rw [List.take_of_length_le (by simp; omega)]), rfl⟩
theorem refGet_long (big : Bool) (s : ByteArray) (w : World) (hs : 8 < s.size) :
    Calls Try.prog 98 #[.bool big, .string s] w fun e w' => e = .returned (.int .u64 0) ∧ w = w' := by
  have h1 : decide ((0 : Int) < (s.size : Int)) = true := by simp; omega
  have h2 : decide ((s.size : Int) ≤ 8) = false := by simp; omega
  go_enter Try.func98, Try.ntmps98
  go_wp2
  refine wp_loop_rounds 1 ?_
  rw [rounds_succ]
  go_wp2
  go_ret
  exact ⟨rfl, rfl⟩
end Go.Proofs.Ytedocnidgiglaaa
namespace Go.Proofs.Ytedocnidgiglaaa
open Go.RowKit
theorem conv_one (wr : World) (x : Int) : (convert 25 9 (.slice (some ⟨wr.heap.size, 0, none⟩) 1 1)).run Try.prog (wr.alloc (.cells #[.int .u8 x] 5)) = .ok (.string ⟨#[UInt8.ofNat x.toNat]⟩) (wr.alloc (.cells #[.int .u8 x] 5)) := by
  rw [run_convert_bytes_string _ 25 9 5 _ 1 1 Try.underlying25 Try.underlying5 Try.underlying9]
  rw [run_bytesToString (ns := [x])]
  · rfl
  · exact run_loadCells_list (P := Try.prog) _ ⟨wr.heap.size, 0, none⟩ [.int .u8 x] (fun j v hj => by
      match j, hj with
      | 0, hj => simp at hj; subst hj; simp [Addr.add])
theorem div_step (n k x : Nat) (hn : n < 2 ^ 64) (hx : n / 256 ^ k = x) : IntKind.u64.wrap ((x : Int) / 256) = ((n / 256 ^ (k + 1) : Nat) : Int) := by
  subst hx
  rw [Nat.pow_succ, ← Nat.div_div_eq_div_mul]
  have : n / 256 ^ k ≤ n := Nat.div_le_self _ _
  generalize n / 256 ^ k = y at *
  rw [IntKind.wrap_u64]
  omega
theorem ofNat_mod (x : Nat) : UInt8.ofNat (x % 256) = UInt8.ofNat x := by
  apply UInt8.toNat_inj.1
  rw [UInt8.toNat_ofNat', UInt8.toNat_ofNat']
  omega
theorem little_step (n k x : Nat) (s : ByteArray) (hx : n / 256 ^ k = x) (hs : (⟨(Num.leB n k).toArray⟩ : ByteArray) = s) :
    s ++ (⟨#[UInt8.ofNat (x % 256)]⟩ : ByteArray) = ⟨(Num.leB n (k + 1)).toArray⟩ := by
  subst hx hs
  rw [ofNat_mod]
  exact ByteArray.mk_append_mk _ [_]
theorem big_step (n k x : Nat) (s : ByteArray) (hx : n / 256 ^ k = x) (hs : (⟨(Num.leB n k).reverse.toArray⟩ : ByteArray) = s) :
    (⟨#[UInt8.ofNat (x % 256)]⟩ : ByteArray) ++ s = ⟨(Num.leB n (k + 1)).reverse.toArray⟩ := by
  subst hx hs
  rw [ofNat_mod, Num.leB, List.reverse_append]
  exact ByteArray.mk_append_mk [_] _
theorem str_eq {a b : ByteArray} (h : a = b) : Value.string a = .string b := by rw [h]
/-- The reference's Get, at every argument. -/
theorem refGet_any (big : Bool) (s : ByteArray) (w : World) :
    Calls Try.prog 98 #[.bool big, .string s] w fun e w' => e = .returned (.int .u64 (Num.getN big s.data.toList : Nat)) ∧ w = w' := by
  by_cases h : s.size ≤ 8
  · have h' : s.data.toList.length ≤ 8 := by simpa using h
    simp only [Num.getN, if_pos h']
    cases big
    · exact refGet_little s w h
    · exact refGet_big s w h
  · have h' : ¬ s.data.toList.length ≤ 8 := by simpa using h
    simp only [Num.getN, if_neg h']
    exact refGet_long big s w (by omega)
end Go.Proofs.Ytedocnidgiglaaa
namespace Go.Proofs.Ytedocnidgiglaaa
open Go.RowKit
def rowU8 (l : List UInt8) : Array Value := (l.map fun b => Value.int .u8 b.toNat).toArray
theorem info5 : (Try.prog.info? 5).map (fun i => (i.zero, i.size, i.bytes)) = some (some (.int .u8 0), 1, 1) := by kernel_rfl
theorem madeCells_zero (n : Nat) : madeCells (Value.int .u8 0).cells n = rowU8 (List.replicate n 0) := by
  apply Array.ext
  · simp [madeCells, rowU8]
  · intro i h1 h2
    simp [madeCells, rowU8, Value.cells, Nat.mod_one]
theorem make_u8 (n : Nat) (h : n ≤ 8) (w : World) : (Instr.makeSlice 25 (.int .i64 (n : Int)) (.int .i64 (n : Int))).run Try.prog w = .ok (.slice (some ⟨w.heap.size, 0, none⟩) n n) (w.alloc (.cells (rowU8 (List.replicate n 0)) 5)) := by
  obtain ⟨i0, hi, hz0, hz1, hz2⟩ := info_parts info5
  have := run_make w 25 5 i0 (.int .u8 0) Try.underlying25 hi hz0 .i64 .i64 n n (by omega) (by omega) (by rw [hz2]; omega) (by omega)
  rw [this, hz1]
  simp [madeCells_zero]
theorem cell_of_row {w : World} {b : Nat} {l : List UInt8} (h : w.heap[b]? = some (.cells (rowU8 l) 5 (0, 0))) (j : Nat) (hj : j < l.length) : w.cell? ⟨b, j, none⟩ = some (.int .u8 (l[j].toNat : Int)) := by
  simp [World.cell?, h, rowU8, hj]
theorem free_of_row {w : World} {b : Nat} {l : List UInt8} (h : w.heap[b]? = some (.cells (rowU8 l) 5 (0, 0))) (j : Nat) : w.frozen? ⟨b, j, none⟩ = false := by
  simp [World.frozen?, h]
theorem byte_at (n k : Nat) : IntKind.u8.wrap ((n : Int) / 2 ^ (8 * k)) = ((UInt8.ofNat (n / 256 ^ k)).toNat : Int) := by
  have hp : 2 ^ (8 * k) = 256 ^ k := by rw [Nat.pow_mul]
  have e2 : ((2 : Int) ^ (8 * k)) = ((256 ^ k : Nat) : Int) := by rw [← hp]; simp
  rw [e2, ← Int.natCast_ediv, IntKind.wrap_u8', UInt8.toNat_ofNat']
  simp
theorem row_set {wr : World} {b : Nat} {l : List UInt8} (h : wr.heap[b]? = some (.cells (rowU8 l) 5 (0, 0))) (hb : b < wr.heap.size) (n k j : Nat) (o : Obj) :
    ((wr.setCell ⟨b, j, none⟩ (.int .u8 (IntKind.u8.wrap ((n : Int) / 2 ^ (8 * k))))).alloc o).drew.heap[b]? = some (.cells (rowU8 (l.set j (UInt8.ofNat (n / 256 ^ k)))) 5 (0, 0)) := by
  show ((wr.setCell ⟨b, j, none⟩ (.int .u8 (IntKind.u8.wrap ((n : Int) / 2 ^ (8 * k))))).alloc o).heap[b]? = _
  rw [Below.heap_alloc _ _ _ (by simpa using hb), heap_setCell_same wr b j _ 5 _ h, byte_at]
  congr 2
  simp [rowU8, List.map_set]
def putS (n size k : Nat) : List UInt8 := Num.leB n k ++ List.replicate (size - k) 0
def putB (n size k : Nat) : List UInt8 := List.replicate (size - k) 0 ++ (Num.leB n k).reverse
theorem putS_length (n size k : Nat) (h : k ≤ size) : (putS n size k).length = size := by simp [putS, Num.leB_length]; omega
theorem putB_length (n size k : Nat) (h : k ≤ size) : (putB n size k).length = size := by simp [putB, Num.leB_length]; omega
theorem putS_step (n size k : Nat) (h : k < size) : (putS n size k).set k (UInt8.ofNat (n / 256 ^ k)) = putS n size (k + 1) := by
  unfold putS
  rw [List.set_append_right _ _ (by rw [Num.leB_length]; omega), Num.leB_length, Nat.sub_self, show size - k = (size - (k + 1)) + 1 by omega, List.replicate_succ, List.set_cons_zero, Num.leB]
  simp
theorem putB_step (n size k j : Nat) (h : j + 1 + k = size) : (putB n size k).set j (UInt8.ofNat (n / 256 ^ k)) = putB n size (k + 1) := by
  unfold putB
  subst h
  rw [show j + 1 + k - k = j + 1 by omega, show j + 1 + k - (k + 1) = j by omega, List.replicate_succ', List.append_assoc, List.set_append_right _ _ (by simp), List.length_replicate, Nat.sub_self]
  simp [Num.leB]
theorem index_bigN (k size j : Nat) (w : World) (h : j + 1 + k = size) (h8 : size ≤ 8) :
    Calls Try.prog 159 #[.agg #[.bool true], .int .i64 k, .int .i64 size] w fun e w' => e = .returned (.int .i64 j) ∧ w' = w.alloc (.cells #[.bool true] 32) := by
  refine (index_big k size w (by omega) (by omega) (by omega)).mono fun e w' ⟨he, hw⟩ => ⟨?_, hw⟩
  rw [he]
  exact ret_int (by omega)
theorem two_new (w : World) (a b : Obj) : ((w.alloc a).alloc b).heap[w.heap.size + 1]? = some b := by
  have h := heap_alloc_new (w.alloc a) b
  have e : (w.alloc a).heap.size = w.heap.size + 1 := by simp
  rw [e] at h
  exact h
theorem conv_row (w : World) (b n : Nat) (l : List UInt8) (hl : l.length = n) (h : w.heap[b]? = some (.cells (rowU8 l) 5 (0, 0))) :
    (convert 25 9 (.slice (some ⟨b, 0, none⟩) n n)).run Try.prog w = .ok (.string ⟨l.toArray⟩) w := by
  subst hl
  exact run_convert_bytes_back w 25 9 5 ⟨b, 0, none⟩ _ l Try.underlying25 Try.underlying5 Try.underlying9 (fun j hj => by
    have hc := cell_of_row h j hj
    by_cases h0 : j = 0
    · subst h0; simpa [Addr.add] using hc
    · simpa [Addr.add, h0] using hc)
set_option maxRecDepth 100000 in
set_option maxHeartbeats 400000 in
theorem put_little (n size : Nat) (w : World) (hn : n < 2 ^ 64) (h1 : 1 ≤ size) (h8 : size ≤ 8) :
    Calls Try.prog 139 #[.agg #[.bool false], .int .u64 n, .int .i64 size] w fun e w' => e = .returned (.string ⟨(Num.leB n size).toArray⟩) ∧ Below w.heap.size w w' := by
  have HN := Lib.hid hn; clear hn
  have hi1 : (1 : Int) ≤ (size : Int) := by omega
  have hi8 : (size : Int) ≤ 8 := by omega
  have hmk := make_u8 size h8
  go_enter Try.func139, Try.ntmps139
  go_wp2_with (go_at_call 158; refine (isSize_yes _ _ (by omega) (by omega)).mono ?_; rintro e w' ⟨rfl, rfl⟩)
  clear hmk
  go_loopw [8, 15] (fun _ i wr => ∃ k : Nat, k ≤ size ∧ i = .int .i64 k ∧ wr.cell? ⟨w.heap.size, 0, none⟩ = some (.bool false) ∧ w.heap.size + 1 < wr.heap.size ∧ wr.heap[w.heap.size + 1]? = some (.cells (rowU8 (putS n size k)) 5 (0, 0)) ∧ Below w.heap.size w wr) (fun _ i _ => size - (intOf i).toNat)
  case atStart =>
    refine ⟨0, Nat.zero_le _, rfl, by simp, by simp, ?_, ((Below.refl _ _).alloc (Nat.le_refl _) _).alloc (by simp) _⟩
    simpa [putS, Num.leB] using two_new w (.cells #[.bool false] 32) (.cells (rowU8 (List.replicate size 0)) 5)
  case round =>
    obtain ⟨k, hk, rfl, hcell, hsz, hrow, hg⟩ := hrel
    by_cases hlt : k < size
    · have hfr := free_of_row hrow k
      have hcl := cell_of_row hrow k (by rw [putS_length _ _ _ hk]; exact hlt)
      generalize ((putS n size k)[k]'(by rw [putS_length _ _ _ hk]; exact hlt)).toNat = y at hcl
      have HR := Lib.hid hrow; clear hrow
      go_wp2
      have hw8 : IntKind.i64.wrap (8 * (k : Int)) = 8 * (k : Int) := IntWalk.i64_in _ (by omega)
      have hk0 : (0 : Int) ≤ 8 * (k : Int) := by omega
      have hk64 : 8 * (k : Int) ≤ 64 := by omega
      have hkk : (0 : Int) ≤ (k : Int) := by omega
      have hks : (k : Int) < (size : Int) := by omega
      have htn : (8 * (k : Int)).toNat = 8 * k := by omega
      go_region_held3 (fun w' => w'.cell? ⟨w.heap.size, 0, none⟩ = some (.bool false)) (go_keep) (first | (go_at_call 159; refine (index_little _ _ _).mono ?_; rintro e w' ⟨rfl, rfl⟩))
      rename_i hheld
      clear hw8 hk0 hk64 hkk hks htn
      have R1 := row_set HR.out (by omega) n k k (.cells #[.bool false] 32)
      rw [putS_step n size k hlt] at R1
      have HR1 := Lib.hid R1; clear R1
      have HH := Lib.hid hheld; clear hheld
      clear hcl hfr hcell
      go_wp2
      go_roundw
      case rel => exact ⟨k + 1, by omega, by go_num, HH.out, by simp; omega, HR1.out, ((hg.setCell (by simp) _).alloc (by simpa using hg.size) _).drew⟩
      case measure => simp [intOf]; omega
    · obtain rfl : k = size := by omega
      have hcv := conv_row wr (w.heap.size + 1) k _ (putS_length n k k hk) hrow
      have e : putS n k k = Num.leB n k := by simp [putS]
      rw [e] at hcv
      clear hrow e
      go_wp2
      go_ret
      exact ⟨rfl, hg⟩
set_option maxRecDepth 100000 in
set_option maxHeartbeats 400000 in
theorem put_big (n size : Nat) (w : World) (hn : n < 2 ^ 64) (h1 : 1 ≤ size) (h8 : size ≤ 8) :
    Calls Try.prog 139 #[.agg #[.bool true], .int .u64 n, .int .i64 size] w fun e w' => e = .returned (.string ⟨(Num.leB n size).reverse.toArray⟩) ∧ Below w.heap.size w w' := by
  have HN := Lib.hid hn; clear hn
  have hi1 : (1 : Int) ≤ (size : Int) := by omega
  have hi8 : (size : Int) ≤ 8 := by omega
  have hmk := make_u8 size h8
  go_enter Try.func139, Try.ntmps139
  go_wp2_with (go_at_call 158; refine (isSize_yes _ _ (by omega) (by omega)).mono ?_; rintro e w' ⟨rfl, rfl⟩)
  clear hmk
  go_loopw [8, 15] (fun _ i wr => ∃ k : Nat, k ≤ size ∧ i = .int .i64 k ∧ wr.cell? ⟨w.heap.size, 0, none⟩ = some (.bool true) ∧ w.heap.size + 1 < wr.heap.size ∧ wr.heap[w.heap.size + 1]? = some (.cells (rowU8 (putB n size k)) 5 (0, 0)) ∧ Below w.heap.size w wr) (fun _ i _ => size - (intOf i).toNat)
  case atStart =>
    refine ⟨0, Nat.zero_le _, rfl, by simp, by simp, ?_, ((Below.refl _ _).alloc (Nat.le_refl _) _).alloc (by simp) _⟩
    simpa [putB, Num.leB] using two_new w (.cells #[.bool true] 32) (.cells (rowU8 (List.replicate size 0)) 5)
  case round =>
    obtain ⟨k, hk, rfl, hcell, hsz, hrow, hg⟩ := hrel
    by_cases hlt : k < size
    · obtain ⟨j, hj⟩ : ∃ j, j + 1 + k = size := ⟨size - 1 - k, by omega⟩
      have hjs : j < size := by omega
      have hfr := free_of_row hrow j
      have hcl := cell_of_row hrow j (by rw [putB_length _ _ _ hk]; exact hjs)
      generalize ((putB n size k)[j]'(by rw [putB_length _ _ _ hk]; exact hjs)).toNat = y at hcl
      have HR := Lib.hid hrow; clear hrow
      have HJ := Lib.hid hj; clear hj
      go_wp2
      have hw8 : IntKind.i64.wrap (8 * (k : Int)) = 8 * (k : Int) := IntWalk.i64_in _ (by omega)
      have hk0 : (0 : Int) ≤ 8 * (k : Int) := by omega
      have hk64 : 8 * (k : Int) ≤ 64 := by omega
      have hkk : (0 : Int) ≤ (j : Int) := by omega
      have hks : (j : Int) < (size : Int) := by omega
      have htn : (8 * (k : Int)).toNat = 8 * k := by omega
      go_region_held3 (fun w' => w'.cell? ⟨w.heap.size, 0, none⟩ = some (.bool true)) (go_keep) (first | (go_at_call 159; refine (index_bigN k size j _ HJ.out h8).mono ?_; rintro e w' ⟨rfl, rfl⟩))
      rename_i hheld
      clear hw8 hk0 hk64 hkk hks htn
      have R1 := row_set HR.out (by omega) n k j (.cells #[.bool true] 32)
      rw [putB_step n size k j HJ.out] at R1
      have HR1 := Lib.hid R1; clear R1
      have HH := Lib.hid hheld; clear hheld
      clear hcl hfr hcell
      go_wp2
      go_roundw
      case rel => exact ⟨k + 1, by omega, by go_num, HH.out, by simp; omega, HR1.out, ((hg.setCell (by simp) _).alloc (by simpa using hg.size) _).drew⟩
      case measure => simp [intOf]; omega
    · obtain rfl : k = size := by omega
      have hcv := conv_row wr (w.heap.size + 1) k _ (putB_length n k k hk) hrow
      have e : putB n k k = (Num.leB n k).reverse := by simp [putB]
      rw [e] at hcv
      clear hrow e
      go_wp2
      go_ret
      exact ⟨rfl, hg⟩
theorem put_none (big : Bool) (n size : Int) (w : World) (h : size < 1 ∨ 8 < size) :
    Calls Try.prog 139 #[.agg #[.bool big], .int .u64 n, .int .i64 size] w fun e w' => e = .returned (.string ⟨#[]⟩) ∧ Below w.heap.size w w' := by
  go_enter Try.func139, Try.ntmps139
  go_wp2_with (go_at_call 158; refine (isSize_no _ _ h).mono ?_; rintro e w' ⟨rfl, rfl⟩)
  go_ret
  exact ⟨rfl, (Below.refl _ _).alloc (Nat.le_refl _) _⟩
/-- Put, at every argument. -/
theorem put_any (big : Bool) (n : Nat) (size : Int) (w : World) (hn : n < 2 ^ 64) :
    Calls Try.prog 139 #[.agg #[.bool big], .int .u64 n, .int .i64 size] w fun e w' => e = .returned (.string ⟨(Num.putL big n size).toArray⟩) ∧ Below w.heap.size w w' := by
  by_cases h : 1 ≤ size ∧ size ≤ 8
  · obtain ⟨k, rfl⟩ := Int.eq_ofNat_of_zero_le (show 0 ≤ size by omega)
    simp only [Num.putL, if_pos h, Int.toNat_natCast]
    cases big
    · exact put_little n k w hn (by omega) (by omega)
    · exact put_big n k w hn (by omega) (by omega)
  · simp only [Num.putL, if_neg h]
    exact put_none big n size w (by omega)
end Go.Proofs.Ytedocnidgiglaaa
namespace Go.Proofs.Ytedocnidgiglaaa
open Go.RowKit
/-- Slices of ints and of numbers that can be read. -/
def RowI (w : World) (a : Option Addr) (len : Nat) (zs : List Int) : Prop :=
  ∀ k, k < len → ∃ b off, a = some ⟨b, off, none⟩ ∧ b < w.heap.size ∧ w.cell? ⟨b, off + k, none⟩ = some (.int .i64 (zs.getD k 0))
def RowN (w : World) (a : Option Addr) (len : Nat) (ns : List Nat) : Prop :=
  ∀ k, k < len → ∃ b off, a = some ⟨b, off, none⟩ ∧ b < w.heap.size ∧ w.cell? ⟨b, off + k, none⟩ = some (.int .u64 (ns.getD k 0 : Nat)) ∧ ns.getD k 0 < 2 ^ 64
/-- The bytes of the first k fields. -/
def fieldsL (big : Bool) (zs : List Int) (ns : List Nat) : Nat → List UInt8
  | 0 => []
  | k + 1 => fieldsL big zs ns k ++ Num.putL big (ns.getD k 0) (zs.getD k 0)
theorem putL_le (big : Bool) (n : Nat) (x : Int) : (Num.putL big n x).length ≤ 8 := by
  unfold Num.putL
  split
  · cases big <;> simp [Num.leB_length] <;> omega
  · simp
theorem fieldsL_le (big : Bool) (zs : List Int) (ns : List Nat) (k : Nat) : (fieldsL big zs ns k).length ≤ 8 * k := by
  induction k with
  | zero => simp [fieldsL]
  | succ k ih => have := putL_le big (ns.getD k 0) (zs.getD k 0); simp [fieldsL] at *; omega
theorem keep3 {B : Nat} {W W' : World} (h : Below B W W') {p q r : Addr} {u v x : Value} (hp : p.block < B) (hq : q.block < B) (hr : r.block < B) (cp : W.cell? p = some u) (cq : W.cell? q = some v) (cr : W.cell? r = some x) :
    W'.cell? p = some u ∧ W'.cell? q = some v ∧ W'.cell? r = some x := ⟨(h.cell hp).trans cp, (h.cell hq).trans cq, (h.cell hr).trans cr⟩
theorem below_drewn {w w' : World} (h : Below w.drew.heap.size w.drew w') : Below w.heap.size w w' := ((Below.refl w.heap.size w).drew).trans h
theorem ownsRow_kept {W W' : World} {base : Nat} {e : TypeId} {size : Nat} {v : Value} {n : Nat} {xs : List Value} (h : W.ownsRow base e size v n xs) (hb : Below W.heap.size W W') : W'.ownsRow base e size v n xs := by
  refine ⟨h.1, ?_⟩
  rcases h.2 with h' | ⟨g, cap, cur, hv, hB, hg, r⟩
  · exact .inl h'
  · refine .inr ⟨g, cap, cur, hv, hB, ?_, r⟩
    rw [hb.block g (Array.getElem?_eq_some_iff.1 hg).1]
    exact hg
theorem builderAt_kept {B b : Nat} {p : Value} {bs : List Value} {W W' : World} (h : Lib.BuilderAt 252 5 B b p bs W) (hb : Below W.heap.size W W') : Lib.BuilderAt 252 5 B b p bs W' := by
  obtain ⟨hB, v, hbk, hown, hne⟩ := h
  refine ⟨hB, v, ?_, ownsRow_kept hown hb, hne⟩
  rw [hb.block b (Array.getElem?_eq_some_iff.1 hbk).1]
  exact hbk
theorem isBuilder_kept {B b : Nat} {bs : List Value} {W W' : World} (h : Lib.IsBuilder 252 5 B b bs W) (hb : Below W.heap.size W W') : Lib.IsBuilder 252 5 B b bs W' :=
  h.elim (fun x => .inl (builderAt_kept x hb)) (fun x => .inr (builderAt_kept x hb))
set_option maxRecDepth 100000 in
set_option maxHeartbeats 1000000 in
theorem fields_any (big : Bool) (a1 a2 : Option Addr) (l1 c1 l2 c2 : Nat) (zs : List Int) (ns : List Nat) (w : World) (h1 : l1 ≤ 20) (h2 : l2 ≤ 20) (r1 : RowI w a1 l1 zs) (r2 : RowN w a2 l2 ns) :
    Calls Try.prog 123 #[.agg #[.bool big], .slice a1 l1 c1, .slice a2 l2 c2] w fun e w' => e = .returned (.string ⟨(fieldsL big zs ns (min l1 l2)).toArray⟩) ∧ Below w.heap.size w w' := by
  have R1 := Lib.hid r1; clear r1
  have R2 := Lib.hid r2; clear r2
  obtain ⟨l, hl⟩ : ∃ l, l = min l1 l2 := ⟨_, rfl⟩
  rw [← hl]
  have hmn : (l1 ≤ l2 ∧ l = l1) ∨ (l2 < l1 ∧ l = l2) := by omega
  clear hl
  rcases hmn with ⟨hm, rfl⟩ | ⟨hm, rfl⟩
  · go_enter Try.func123, Try.ntmps123
    go_wp2
    go_loopw [8, 14] (fun _ i wr => ∃ k : Nat, k ≤ l ∧ i = .int .i64 k ∧ wr.cell? ⟨w.heap.size, 0, none⟩ = some (.bool big) ∧ Lib.IsBuilder 252 5 (w.heap.size + 1) (w.heap.size + 1) (Lib.byteCells (fieldsL big zs ns k)) wr ∧ w.heap.size + 1 < wr.heap.size ∧ Below w.heap.size w wr) (fun _ i _ => l - (intOf i).toNat)
    case atStart =>
      refine ⟨0, Nat.zero_le _, rfl, by simp, .inl ⟨Nat.le_refl _, .slice none 0 0, ?_, World.ownsRow_nil _ _ _ _, by simp [Value.ownBlock]⟩, by simp, ((Below.refl _ _).alloc (Nat.le_refl _) _).alloc (by simp) _⟩
      exact two_new _ _ _
    case round =>
      obtain ⟨k, hk, rfl, hbox, hB, hsz, hg⟩ := hrel
      by_cases hlt : k < l
      · obtain ⟨b1, off1, rfl, hb1, hc1⟩ := R1.out k (by omega)
        obtain ⟨b2, off2, rfl, hb2, hc2, hn2⟩ := R2.out k (by omega)
        have hc1w : wr.cell? ⟨b1, off1 + k, none⟩ = some (.int .i64 (zs.getD k 0)) := by rw [hg.cell (by exact hb1)]; exact hc1
        have hc2w : wr.cell? ⟨b2, off2 + k, none⟩ = some (.int .u64 (ns.getD k 0 : Nat)) := by rw [hg.cell (by exact hb2)]; exact hc2
        clear hc1 hc2
        have hstep : fieldsL big zs ns (k + 1) = fieldsL big zs ns k ++ Num.putL big (ns.getD k 0) (zs.getD k 0) := rfl
        have hle := fieldsL_le big zs ns k
        have hle2 := putL_le big (ns.getD k 0) (zs.getD k 0)
        generalize zs.getD k 0 = x at *
        generalize ns.getD k 0 = y at *
        have HST := Lib.hid hstep; clear hstep
        have HN := Lib.hid hn2; clear hn2
        have HB := Lib.hid hB; clear hB
        have hi0 : (0 : Int) ≤ (k : Int) := by omega
        have hi1 : (k : Int) < (l : Int) := by omega
        have hi2 : (k : Int) < (l2 : Int) := by omega
        have hws := hg.size
        go_wp2
        go_region_held3 (fun w' => w'.cell? ⟨w.heap.size, 0, none⟩ = some (.bool big) ∧ w'.cell? ⟨b1, off1 + k, none⟩ = some (.int .i64 x) ∧ w'.cell? ⟨b2, off2 + k, none⟩ = some (.int .u64 y)) (first | go_keep | exact keep1 | exact keep2) (first | (go_at_call 139; refine (put_any big y x _ HN.out).mono ?_; rintro e wp ⟨rfl, hBp0⟩; have hBp := below_drewn hBp0; clear hBp0; have keep1 := keep3 hBp (by simp; omega) (by simp; omega) (by simp; omega) hbox hc1w hc2w) | (go_at_call 138; refine (writeString_any (w.heap.size + 1) (w.heap.size + 1) (Lib.byteCells (fieldsL big zs ns k)) _ _ ?_ ?_ ?_).mono ?_; exact isBuilder_kept HB.out hBp; (simp [Lib.byteCells_length, ByteArray.size]; omega); (have := hBp.size; omega); rintro e wq ⟨rfl, hAq, hBq⟩; have keep2 := keep3 hBq (by simp) (by simp; omega) (by simp; omega) keep1.1 keep1.2.1 keep1.2.2))
        have hAq' : Lib.IsBuilder 252 5 (w.heap.size + 1) (w.heap.size + 1) (Lib.byteCells (fieldsL big zs ns (k + 1))) wq := by
          rw [HST.out, Lib.byteCells_append]; exact .inr hAq
        have hgq : Below w.heap.size w wq := (hg.trans (hBp.mono hws)).trans (hBq.mono (by omega))
        have hsq : w.heap.size + 1 < wq.heap.size := by have := hBp.size; have := hBq.size; omega
        have HQ := Lib.hid hAq'; clear hAq' hAq hBq
        have HK := Lib.hid keep2.1; clear keep2 keep1
        go_wp2
        go_roundw
        case rel => exact ⟨k + 1, by omega, by go_num, HK.out, HQ.out, hsq, hgq⟩
        case measure => simp [intOf]; omega
      · obtain rfl : k = l := by omega
        go_wp2_with (go_at_call 140; refine (Try.Builder_String_any (w.heap.size + 1) (w.heap.size + 1) _ _ hB (by omega)).mono ?_; rintro e wq ⟨rfl, hBq⟩)
        go_ret
        exact ⟨rfl, hg.trans (hBq.mono (by omega))⟩
  · go_enter Try.func123, Try.ntmps123
    go_wp2
    go_loopw [8, 14] (fun _ i wr => ∃ k : Nat, k ≤ l ∧ i = .int .i64 k ∧ wr.cell? ⟨w.heap.size, 0, none⟩ = some (.bool big) ∧ Lib.IsBuilder 252 5 (w.heap.size + 1) (w.heap.size + 1) (Lib.byteCells (fieldsL big zs ns k)) wr ∧ w.heap.size + 1 < wr.heap.size ∧ Below w.heap.size w wr) (fun _ i _ => l - (intOf i).toNat)
    case atStart =>
      refine ⟨0, Nat.zero_le _, rfl, by simp, .inl ⟨Nat.le_refl _, .slice none 0 0, ?_, World.ownsRow_nil _ _ _ _, by simp [Value.ownBlock]⟩, by simp, ((Below.refl _ _).alloc (Nat.le_refl _) _).alloc (by simp) _⟩
      exact two_new _ _ _
    case round =>
      obtain ⟨k, hk, rfl, hbox, hB, hsz, hg⟩ := hrel
      by_cases hlt : k < l
      · obtain ⟨b1, off1, rfl, hb1, hc1⟩ := R1.out k (by omega)
        obtain ⟨b2, off2, rfl, hb2, hc2, hn2⟩ := R2.out k (by omega)
        have hc1w : wr.cell? ⟨b1, off1 + k, none⟩ = some (.int .i64 (zs.getD k 0)) := by rw [hg.cell (by exact hb1)]; exact hc1
        have hc2w : wr.cell? ⟨b2, off2 + k, none⟩ = some (.int .u64 (ns.getD k 0 : Nat)) := by rw [hg.cell (by exact hb2)]; exact hc2
        clear hc1 hc2
        have hstep : fieldsL big zs ns (k + 1) = fieldsL big zs ns k ++ Num.putL big (ns.getD k 0) (zs.getD k 0) := rfl
        have hle := fieldsL_le big zs ns k
        have hle2 := putL_le big (ns.getD k 0) (zs.getD k 0)
        generalize zs.getD k 0 = x at *
        generalize ns.getD k 0 = y at *
        have HST := Lib.hid hstep; clear hstep
        have HN := Lib.hid hn2; clear hn2
        have HB := Lib.hid hB; clear hB
        have hi0 : (0 : Int) ≤ (k : Int) := by omega
        have hi1 : (k : Int) < (l1 : Int) := by omega
        have hi2 : (k : Int) < (l : Int) := by omega
        have hws := hg.size
        go_wp2
        go_region_held3 (fun w' => w'.cell? ⟨w.heap.size, 0, none⟩ = some (.bool big) ∧ w'.cell? ⟨b1, off1 + k, none⟩ = some (.int .i64 x) ∧ w'.cell? ⟨b2, off2 + k, none⟩ = some (.int .u64 y)) (first | go_keep | exact keep1 | exact keep2) (first | (go_at_call 139; refine (put_any big y x _ HN.out).mono ?_; rintro e wp ⟨rfl, hBp0⟩; have hBp := below_drewn hBp0; clear hBp0; have keep1 := keep3 hBp (by simp; omega) (by simp; omega) (by simp; omega) hbox hc1w hc2w) | (go_at_call 138; refine (writeString_any (w.heap.size + 1) (w.heap.size + 1) (Lib.byteCells (fieldsL big zs ns k)) _ _ ?_ ?_ ?_).mono ?_; exact isBuilder_kept HB.out hBp; (simp [Lib.byteCells_length, ByteArray.size]; omega); (have := hBp.size; omega); rintro e wq ⟨rfl, hAq, hBq⟩; have keep2 := keep3 hBq (by simp) (by simp; omega) (by simp; omega) keep1.1 keep1.2.1 keep1.2.2))
        have hAq' : Lib.IsBuilder 252 5 (w.heap.size + 1) (w.heap.size + 1) (Lib.byteCells (fieldsL big zs ns (k + 1))) wq := by
          rw [HST.out, Lib.byteCells_append]; exact .inr hAq
        have hgq : Below w.heap.size w wq := (hg.trans (hBp.mono hws)).trans (hBq.mono (by omega))
        have hsq : w.heap.size + 1 < wq.heap.size := by have := hBp.size; have := hBq.size; omega
        have HQ := Lib.hid hAq'; clear hAq' hAq hBq
        have HK := Lib.hid keep2.1; clear keep2 keep1
        go_wp2
        go_roundw
        case rel => exact ⟨k + 1, by omega, by go_num, HK.out, HQ.out, hsq, hgq⟩
        case measure => simp [intOf]; omega
      · obtain rfl : k = l := by omega
        go_wp2_with (go_at_call 140; refine (Try.Builder_String_any (w.heap.size + 1) (w.heap.size + 1) _ _ hB (by omega)).mono ?_; rintro e wq ⟨rfl, hBq⟩)
        go_ret
        exact ⟨rfl, hg.trans (hBq.mono (by omega))⟩
end Go.Proofs.Ytedocnidgiglaaa
