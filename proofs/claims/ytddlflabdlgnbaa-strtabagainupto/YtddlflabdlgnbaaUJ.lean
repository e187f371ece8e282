/- Plain mathematics and memory for strtab's lay: which entries are whole, the table, the ends; a world that is another one but for one block. Contracts of Builder's WriteByte and Len, and of the second comparison. -/
import Derived.Test.YtddlflabdlgnbaaUH
import Derived.Test.YtddlflabdlgnbaaOP
import Derived.Deep.QuietTactic
import Derived.BigQuiet
namespace Go.Proofs.Ytddlflabdlgnbaa
open Go.RowKit Go.Sort Go.Shelf Go.Lib
/-- All blocks but g are as they were. -/
structure But (g : Nat) (w w' : World) : Prop where
  os : w'.os = w.os
  tape : w'.tape = w.tape
  output : w'.output = w.output
  size : w.heap.size ≤ w'.heap.size
  block : ∀ k, k < w.heap.size → k ≠ g → w'.heap[k]? = w.heap[k]?
theorem But.refl (g : Nat) (w : World) : But g w w := ⟨rfl, rfl, rfl, Nat.le_refl _, fun _ _ _ => rfl⟩
theorem But.trans {g : Nat} {a b c : World} (h : But g a b) (k : But g b c) : But g a c :=
  ⟨k.os.trans h.os, k.tape.trans h.tape, k.output.trans h.output, Nat.le_trans h.size k.size, fun j hj hg => (k.block j (Nat.lt_of_lt_of_le hj h.size) hg).trans (h.block j hj hg)⟩
theorem But.of_below {g : Nat} {w w' : World} (h : Below w.heap.size w w') : But g w w' := ⟨h.os, h.tape, h.output, h.size, fun k hk _ => h.block k hk⟩
theorem But.set {g : Nat} {a w : World} (h : But g a w) (j : Nat) (v : Value) : But g a (w.setCell ⟨g, j, none⟩ v) :=
  h.trans ⟨rfl, rfl, rfl, by simp [World.setCell], fun k _ hk => Below.heap_setCell _ _ _ _ hk⟩
theorem But.below {g B : Nat} {w w' : World} (h : But g w w') (hB : B ≤ w.heap.size) (hg : B ≤ g) : Below B w w' :=
  ⟨h.os, h.tape, h.output, h.size, fun k hk => h.block k (by omega) (by omega)⟩
theorem But.cell {g : Nat} {w w' : World} (h : But g w w') {p : Addr} (hp : p.block < w.heap.size) (hg : p.block ≠ g) : w'.cell? p = w.cell? p := World.cell?_of_block (w := w) (h.block p.block hp hg)
/-- Whether an entry is no other one's tail. -/
def isWhole (E : List Ent) (i : Nat) : Bool := !(decide (i + 1 < E.length) && ((E.getD (i + 1) default).tail == (i : Int)))
def wholeTo (E : List Ent) (k : Nat) : List Nat := (List.range k).filter (isWhole E)
theorem wholeTo_succ (E : List Ent) (k : Nat) : wholeTo E (k + 1) = wholeTo E k ++ (if isWhole E k then [k] else []) := by
  unfold wholeTo
  rw [List.range_succ, List.filter_append]
  congr 1
  by_cases h : isWhole E k = true
  · simp [h]
  · simp [h]
theorem wholeTo_lt (E : List Ent) (k i : Nat) (h : i ∈ wholeTo E k) : i < k := by
  unfold wholeTo at h
  simpa using (List.mem_filter.1 h).1
theorem wholeTo_len (E : List Ent) (k : Nat) : (wholeTo E k).length ≤ k := by
  unfold wholeTo
  have := List.length_filter_le (isWhole E) (List.range k)
  simpa using this
/-- How many bytes the table has. -/
def sizeTo (E : List Ent) (k : Nat) : Nat := 1 + ((wholeTo E k).map fun i => (E.getD i default).name.length + 1).sum
theorem sizeTo_succ (E : List Ent) (k : Nat) : sizeTo E (k + 1) = sizeTo E k + (if isWhole E k then (E.getD k default).name.length + 1 else 0) := by
  unfold sizeTo
  rw [wholeTo_succ]
  by_cases h : isWhole E k = true
  · simp [h]; omega
  · simp [h]
/-- The table, and the entries with their ends, when the names at the places ws are laid. -/
def layT (E : List Ent) : List Nat → List UInt8 × List Ent → List UInt8 × List Ent
  | [], s => s
  | i :: ws, s => layT E ws (s.1 ++ (E.getD i default).name ++ [0], s.2.set i { (s.2.getD i default) with fin := (s.1.length + (E.getD i default).name.length : Nat) })
def layTo (E : List Ent) (ws : List Nat) (j : Nat) : List UInt8 × List Ent := layT E (ws.take j) ([0], E)
theorem layT_append (E : List Ent) (a b : List Nat) (s : List UInt8 × List Ent) : layT E (a ++ b) s = layT E b (layT E a s) := by
  induction a generalizing s with
  | nil => rfl
  | cons i a ih => simp [layT, ih]
theorem layTo_succ (E : List Ent) (ws : List Nat) (j : Nat) (hj : j < ws.length) : layTo E ws (j + 1) = ((layTo E ws j).1 ++ (E.getD ws[j] default).name ++ [0], (layTo E ws j).2.set ws[j] { ((layTo E ws j).2.getD ws[j] default) with fin := ((layTo E ws j).1.length + (E.getD ws[j] default).name.length : Nat) }) := by
  unfold layTo
  rw [List.take_succ_eq_append_getElem hj, layT_append]
  rfl
theorem layT_len (E : List Ent) (ws : List Nat) (s : List UInt8 × List Ent) : (layT E ws s).2.length = s.2.length := by
  induction ws generalizing s with
  | nil => rfl
  | cons i a ih => simp [layT, ih]
theorem layT_name (E : List Ent) (ws : List Nat) (s : List UInt8 × List Ent) (i : Nat) : ((layT E ws s).2.getD i default).name = (s.2.getD i default).name ∧ ((layT E ws s).2.getD i default).tail = (s.2.getD i default).tail ∧ ((layT E ws s).2.getD i default).last = (s.2.getD i default).last := by
  induction ws generalizing s with
  | nil => exact ⟨rfl, rfl, rfl⟩
  | cons j a ih =>
    have h := ih (s.1 ++ (E.getD j default).name ++ [0], s.2.set j { (s.2.getD j default) with fin := (s.1.length + (E.getD j default).name.length : Nat) })
    rw [layT]
    simp only [List.getD_eq_getElem?_getD, List.getElem?_set] at h ⊢
    by_cases hj : j = i
    · subst hj
      by_cases hl : j < s.2.length
      · simp [hl] at h ⊢; exact h
      · simp [hl] at h ⊢; exact h
    · simp [hj] at h ⊢; exact h
theorem layT_size (E : List Ent) (ws : List Nat) (s : List UInt8 × List Ent) : (layT E ws s).1.length = s.1.length + (ws.map fun i => (E.getD i default).name.length + 1).sum := by
  induction ws generalizing s with
  | nil => simp [layT]
  | cons j a ih => rw [layT, ih]; simp; omega
theorem infoInt : (Try.prog.info? 3).map (fun i => (i.zero, i.size, i.bytes)) = some (some (.int .i64 0), 1, 8) := by kernel_rfl
set_option maxHeartbeats 2000000 in
set_option maxRecDepth 100000 in
theorem writeByte_any (B b : Nat) (bs : List Value) (c : Int) (w : World) (h : Lib.IsBuilder 124 5 B b bs w) (hlen : bs.length + 1 ≤ 140737488355328) (hBw : B ≤ w.heap.size) :
    Calls Try.prog 78 #[.pointer (some ⟨b, 0, none⟩), .int .u8 c] w fun e w' => e = .returned .nilIface ∧ (Lib.BuilderAt 124 5 B b (.pointer (some ⟨b, 0, none⟩)) (bs ++ [.int .u8 c]) w' ∧ Below B w w') := by
  obtain ⟨i0, hi, hz0, hz1, hz2⟩ := info_parts infoByte
  go_enter Try.func78, Try.ntmps78
  go_wp2_with (go_at_call 91; refine (copyCheck_any B b bs _ h).mono ?_)
  rintro e w1 ⟨rfl, h1, hb1⟩
  obtain ⟨hB, v, hbk, hown, hne⟩ := h1
  have c0 : w1.cell? ⟨b, 0, none⟩ = some (.pointer (some ⟨b, 0, none⟩)) := by rw [Lib.cell_of_heap hbk]; rfl
  have c1 : w1.cell? ⟨b, 1, none⟩ = some v := by rw [Lib.cell_of_heap hbk]; rfl
  have hsz := hb1.size
  go_wp2_with (at_builtin; refine wpList_append_own _ rfl _ _ 122 rfl B 5 i0 (.int .u8 0) 1 1 Try.underlying122 hi hz0 hz1 hz2 rfl (by decide) _ _ _ rfl (hown.alloc _) ⟨w1.heap.size, 0, none⟩ 1 1 [.int .u8 c] rfl rfl ?c1 ?c2 ?c3 ?c4 ?c5 ?_)
  case c1 =>
    intro j u hj
    match j, hj with
    | 0, hj => simp at hj; subst hj; simp [Addr.add]
  case c2 => intro u hu; simp at hu; subst hu; rfl
  case c3 => unfold maxLen; omega
  case c4 => omega
  case c5 => simp; omega
  intro v' w2 hown' hgrow _
  have hlt : b < w1.heap.size := (Array.getElem?_eq_some_iff.1 hbk).1
  have hb2 : w2.heap[b]? = some (.cells #[.pointer (some ⟨b, 0, none⟩), v] 124 (0, 0)) := by
    rw [hgrow.block b (by simp; omega) (fun e => hne e.symm), Below.heap_alloc _ _ _ hlt]
    exact hbk
  have d0 : w2.cell? ⟨b, 0, none⟩ = some (.pointer (some ⟨b, 0, none⟩)) := by rw [Lib.cell_of_heap hb2]; rfl
  have d1 : w2.cell? ⟨b, 1, none⟩ = some v := by rw [Lib.cell_of_heap hb2]; rfl
  have f1 : w2.frozen? ⟨b, 1, none⟩ = false := Lib.frozen_of_heap hb2 1
  obtain ⟨ao, n', cap, rfl⟩ : ∃ ao n' cap, v' = .slice ao n' cap := by
    rcases hown'.2 with ⟨hv, _⟩ | ⟨g, cap, cur, hv, _⟩
    · exact ⟨_, _, _, hv⟩
    · exact ⟨_, _, _, hv⟩
  go_wp2
  go_ret
  refine ⟨rfl, ?_, ?_⟩
  · exact Lib.BuilderAt.put (T := 124) (e := 5) hB hb2 (bs' := bs ++ [.int .u8 c]) (by simpa using hown') (by decide)
  · exact ((hb1.alloc (by omega) _).grown hgrow (by simp; omega) (fun k hk => (hown.lt k hk).1)).setCell (p := ⟨b, 1, none⟩) hB _
theorem len_any (B b : Nat) (bs : List Value) (p : Value) (w : World) (h : Lib.BuilderAt 124 5 B b p bs w) : Calls Try.prog 79 #[.pointer (some ⟨b, 0, none⟩)] w fun e w' => e = .returned (.int .i64 (bs.length : Nat)) ∧ w = w' := by
  obtain ⟨hB, v, hbk, hown, hne⟩ := h
  have c1 : w.cell? ⟨b, 1, none⟩ = some v := by rw [Lib.cell_of_heap hbk]; rfl
  obtain ⟨ao, cap, rfl⟩ : ∃ ao cap, v = .slice ao bs.length cap := by
    rcases hown.2 with ⟨hv, hn⟩ | ⟨g, cap, cur, hv, _⟩
    · exact ⟨_, 0, by rw [hn]; exact hv⟩
    · exact ⟨_, _, hv⟩
  clear hbk hown hne
  go_enter Try.func79, Try.ntmps79
  go_wp2
  go_ret
  exact ⟨rfl, rfl⟩
/-- A builder stands while a block below its own is written. -/
theorem builder_low {B b : Nat} {p : Value} {bs : List Value} {w : World} (h : Lib.BuilderAt 124 5 B b p bs w) {q : Addr} (hq : q.block < B) (v : Value) : Lib.BuilderAt 124 5 B b p bs (w.setCell q v) := by
  obtain ⟨hB, u, hbk, hown, hne⟩ := h
  refine ⟨hB, u, ?_, ?_, hne⟩
  · rw [Below.heap_setCell _ _ _ _ (by omega)]; exact hbk
  · refine hown.kept (row := some q.block) ⟨rfl, rfl, rfl, by simp [World.setCell], fun k _ hk => Below.heap_setCell _ _ _ _ (fun e => hk (by simp [e]))⟩ (Or.inr ?_)
    intro e
    have := (hown.lt _ e).1
    omega
/-- The second comparison: the later one first. -/
def cmpW (E : List Ent) (i k : Fin E.length) : Int := E[k].last - E[i].last
set_option maxRecDepth 100000 in
theorem closure58 (g bx cap : Nat) (E : List Ent) (i k : Fin E.length) (W : World) (hR : RowE W g E) (hbx : W.cell? ⟨bx, 0, none⟩ = some (.slice (some ⟨g, 0, none⟩) E.length cap)) (hl : ∀ i : Fin E.length, 0 ≤ E[i].last ∧ E[i].last ≤ 4294967296) :
    Calls Try.prog 77 #[.int .i64 (i.1 : Nat), .int .i64 (k.1 : Nat), .pointer (some ⟨bx, 0, none⟩)] W fun e w' => e = .returned (.int .i64 (cmpW E i k)) ∧ ∃ q, w' = W.drewN q := by
  have ci := hR.last i.1 i.2
  have ck := hR.last k.1 k.2
  have h1 := hl i
  have h2 := hl k
  have hi := i.2
  have hk := k.2
  unfold cmpW
  rw [Fin.getElem_fin] at h1
  rw [Fin.getElem_fin] at h2
  rw [Fin.getElem_fin, Fin.getElem_fin]
  generalize E[i.1].last = x at *
  generalize E[k.1].last = y at *
  generalize i.1 = i at *
  generalize k.1 = k at *
  have hw : IntKind.i64.wrap (y - x) = y - x := IntWalk.i64_in _ (by omega)
  clear hR hl h1 h2
  go_enter Try.func77, Try.ntmps77
  go_wp2
  go_quiet (fail)
  go_wp2
  go_ret
  exact ⟨rfl, nq, rfl⟩
end Go.Proofs.Ytddlflabdlgnbaa
