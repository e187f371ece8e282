/- Plain mathematics: what strtab's offsets makes of the entries, one after another from the last on. No Go here. -/
import Derived.Test.YtddlflabdlgnbaaUL
import Derived.Test.YtddlflabdlgnbaaUM
import Derived.Maps.OwnIn
namespace Go.Proofs.Ytddlflabdlgnbaa
open Go.RowKit Go.Sort Go.Maps
/-- An entry tells its tail where it ends. -/
def upd (E : List Ent) (e : Ent) : List Ent :=
  if e.tail < 0 then E
  else if (E.getD e.tail.toNat default).fin = 0 ∨ e.fin < (E.getD e.tail.toNat default).fin then E.set e.tail.toNat { (E.getD e.tail.toNat default) with fin := e.fin } else E
/-- The entries when k of them have told. -/
def st (E : List Ent) : Nat → List Ent
  | 0 => E
  | k + 1 => upd (st E k) ((st E k).getD (E.length - 1 - k) default)
/-- The entry that tells next. -/
def nextE (E : List Ent) (k : Nat) : Ent := (st E k).getD (E.length - 1 - k) default
theorem st_succ (E : List Ent) (k : Nat) : st E (k + 1) = upd (st E k) (nextE E k) := rfl
theorem upd_len (E : List Ent) (e : Ent) : (upd E e).length = E.length := by
  unfold upd
  split
  · rfl
  · split <;> simp
theorem st_len (E : List Ent) (k : Nat) : (st E k).length = E.length := by
  induction k with
  | zero => rfl
  | succ k ih => rw [st_succ, upd_len, ih]
/-- What is asked of entries that are told. -/
structure OffOk (E : List Ent) : Prop where
  len : E.length ≤ 1048576
  fin : ∀ i, 0 ≤ (E.getD i default).fin ∧ (E.getD i default).fin ≤ 1048577
  name : ∀ i, (E.getD i default).name.length ≤ 4294967296
  tail : ∀ i, i < E.length → -1 ≤ (E.getD i default).tail ∧ (E.getD i default).tail < i
theorem upd_getD (E : List Ent) (e : Ent) (i : Nat) : (upd E e).getD i default = E.getD i default ∨ ((upd E e).getD i default = { (E.getD i default) with fin := e.fin }) := by
  unfold upd
  split
  · exact .inl rfl
  · split
    · by_cases h : e.tail.toNat = i
      · subst h
        by_cases hl : e.tail.toNat < E.length
        · right
          rw [List.getD_eq_getElem?_getD, List.getElem?_set_self hl]
          rfl
        · left
          rw [List.getD_eq_getElem?_getD, List.getElem?_set, if_pos rfl, if_neg hl, List.getD_eq_getElem?_getD, List.getElem?_eq_none (by omega)]
      · left
        rw [List.getD_eq_getElem?_getD, List.getElem?_set_ne h, ← List.getD_eq_getElem?_getD]
    · exact .inl rfl
theorem OffOk.upd {E : List Ent} (h : OffOk E) (e : Ent) (he : 0 ≤ e.fin ∧ e.fin ≤ 1048577) : OffOk (upd E e) where
  len := by rw [upd_len]; exact h.len
  fin i := by rcases upd_getD E e i with e1 | e1 <;> rw [e1]; exact h.fin i; exact he
  name i := by rcases upd_getD E e i with e1 | e1 <;> rw [e1] <;> exact h.name i
  tail i hi := by rw [upd_len] at hi; rcases upd_getD E e i with e1 | e1 <;> rw [e1] <;> exact h.tail i hi
theorem OffOk.st {E : List Ent} (h : OffOk E) (k : Nat) : OffOk (st E k) := by
  induction k with
  | zero => exact h
  | succ k ih => rw [st_succ]; exact ih.upd _ (ih.fin _)
/-- The offset that an entry has. -/
def offOf (e : Ent) : Int := IntKind.u64.wrap (e.fin - (e.name.length : Int))
/-- The offsets of the k entries that have told. -/
def mp (H : Type) (E : List Ent) : Nat → DataW H
  | 0 => .map []
  | k + 1 => (mp H E k).put (.string (nextE E k).name) (.lit (.int .u64 (offOf (nextE E k))))
theorem offOf_wf (e : Ent) : (Lit.int .u64 (offOf e)).wf = true := by
  unfold offOf
  rw [IntKind.wrap_u64]
  have h1 := Int.emod_nonneg (e.fin - (e.name.length : Int)) (b := 18446744073709551616) (by decide)
  have h2 := Int.emod_lt_of_pos (e.fin - (e.name.length : Int)) (b := 18446744073709551616) (by decide)
  have h3 : IntKind.u64.min = 0 := by decide
  have h4 : IntKind.u64.max = 18446744073709551615 := by decide
  simp [Lit.wf, h3, h4]
  omega
theorem rowE_own (B g : Nat) (hg : g < B) (f : List (Nat × Ent) → List Ent) : OwnFrom B (fun pre W => RowE W g (f pre)) := fun _ _ _ row hs hgr hr =>
  hs.same (hgr.block g hs.lt (fun e => by have := (hr g e.symm).1; omega)) hgr.size
theorem but_own (B g : Nat) (w : World) (hB : w.heap.size ≤ B) : OwnFrom B (fun (_ : List (Nat × Ent)) W => But g w W) := fun _ _ _ row hs hgr hr =>
  ⟨hgr.os.trans hs.os, hgr.tape.trans hs.tape, hgr.output.trans hs.output, Nat.le_trans hs.size hgr.size, fun k hk hne => (hgr.block k (Nat.lt_of_lt_of_le hk hs.size) (fun e => by have := (hr k e.symm).1; omega)).trans (hs.block k hk hne)⟩
theorem cell_own (B : Nat) (p : Addr) (v : Value) (hp : p.block < B) : OwnFrom B (fun (_ : List (Nat × Ent)) W => W.cell? p = some v) := fun _ W _ row hs hgr hr => by
  have hlt : p.block < W.heap.size := by
    rcases Nat.lt_or_ge p.block W.heap.size with h | h
    · exact h
    · simp [World.cell?, Array.getElem?_eq_none h] at hs
  show World.cell? _ p = some v
  rw [World.cell?_of_block (w := W) (hgr.block p.block hlt (fun e => by have := (hr _ e.symm).1; omega))]
  exact hs
theorem map_own {H : Type} (B b : Nat) (hb : b < B) (f : List (Nat × Ent) → DataW H) (m : List (Nat × Ent) → Nat) : OwnFrom B (fun pre W => W.ownsMap Try.prog 9 (plainElem Try.prog 32) b (m pre) (f pre)) := fun _ _ _ row hs hgr hr =>
  hs.kept hgr (fun e => by have := (hr _ e.symm).1; omega)
theorem backward_in (g n cap : Nat) (w : World) (m : Nat) :
    CallsIn Fence.wide m Try.prog 80 #[.slice (some ⟨g, 0, none⟩) n cap] w fun e w' => e = .returned (.func (.func 99) #[] #[.pointer (some ⟨w.heap.size, 0, none⟩)]) ∧ w' = w.alloc (.cells #[.slice (some ⟨g, 0, none⟩) n cap] 100) := by
  refine callsIn_of_wp Try.func80 rfl trivial ?_ rfl
  simp only [Try.ntmps80, List.size_toArray, List.length_cons, List.length_nil, Nat.reduceAdd, Nat.reduceSub, Array.replicate_succ, Array.replicate_zero, List.push_toArray, List.append_toArray, List.nil_append, List.cons_append]
  gi_wp2
  go_ret
  exact ⟨rfl, rfl⟩
attribute [local go_sem] Oper.semAt_some
/-- What is yielded k-th. -/
def yld (E : List Ent) (k : Nat) : Nat × Ent := (E.length - 1 - k, nextE E k)
def encY (x : Nat × Ent) : Array Value := #[.int .i64 (x.1 : Int), .agg #[encStr x.2.name, encStr x.2.name.reverse, .int .i64 x.2.last, .int .i64 x.2.fin, .int .i64 x.2.tail]]
set_option maxRecDepth 100000 in
set_option maxHeartbeats 2000000 in
theorem backward_fits (m g cap bx2 : Nat) (hm : 1 ≤ m) (E : List Ent) (hE : E.length ≤ 1048576) (Kp : World → World → Prop) (I : List (Nat × Ent) → World → Prop)
    (hIr : ∀ pre W, I pre W → RowE W g (st E pre.length) ∧ W.cell? ⟨bx2, 0, none⟩ = some (.slice (some ⟨g, 0, none⟩) E.length cap)) (w : World) :
    SeqFits Fence.wide m Try.prog 99 #[.pointer (some ⟨bx2, 0, none⟩)] encY Kp I (fun pre x => x = yld E pre.length) (fun xs => xs.length = E.length) E.length w := by
  intro l J W hW hJab hJI hY h0
  have hI0 := hIr _ _ (hJI _ _ h0)
  have hb0 := hI0.2
  refine callsIn_of_wp Try.func99 rfl trivial ?_ rfl
  simp only [Try.ntmps99, List.size_toArray, List.length_cons, List.length_nil, Nat.reduceAdd, Nat.reduceSub, Array.replicate_succ, Array.replicate_zero, List.push_toArray, List.append_toArray, List.nil_append, List.cons_append]
  have hw0 : IntKind.i64.wrap ((E.length : Int) - 1) = (E.length : Int) - 1 := IntWalk.i64_in _ (by omega)
  gi_wp2
  clear hw0
  gi_loopw [3] (fun i wr => ∃ (k : Nat) (pre : List (Nat × Ent)), k ≤ E.length ∧ i = .int .i64 ((E.length : Int) - 1 - (k : Int)) ∧ pre.length = k ∧ J pre wr) (fun i _ => (intOf i + 1).toNat)
  case atStart => exact ⟨0, [], Nat.zero_le _, by simp, rfl, h0⟩
  case round =>
    obtain ⟨k, pre, hk, rfl, hpl, hJ⟩ := hrel
    obtain ⟨hR, hbx⟩ := hIr _ _ (hJI _ _ hJ)
    rw [hpl] at hR
    by_cases hlt : k < E.length
    · obtain ⟨i, hi⟩ : ∃ i : Nat, i = E.length - 1 - k := ⟨_, rfl⟩
      have hiI : (E.length : Int) - 1 - (k : Int) = (i : Int) := by omega
      have hil : i < E.length := by omega
      have hsl := st_len E k
      have hil2 : i < (st E k).length := by omega
      have hne : nextE E k = (st E k)[i] := by unfold nextE; rw [← hi, getD_at _ i hil2]
      have c0 := hR.name i hil2
      have c1 := hR.back i hil2
      have c2 := hR.last i hil2
      have c3 := hR.fin i hil2
      have c4 := hR.tail i hil2
      rw [← hne] at c0 c1 c2 c3 c4
      have hy0 := hY pre (yld E pre.length) wr hJ rfl (by omega)
      rw [hpl] at hy0
      have hyd : yld E k = (i, nextE E k) := by unfold yld; rw [hi]
      rw [hyd] at hy0
      obtain ⟨fn, tmps, assign, body, hy, hRd⟩ := hy0
      unfold encY at hy
      dsimp only at hy
      have hPL := Lib.hid hpl; clear hpl
      rw [hiI]
      have HI := Lib.hid hi; have HSL := Lib.hid hsl; have HJ := Lib.hid hJ; have HII := Lib.hid hiI; clear hi hsl hne hJ hR hiI hyd hil2
      have hw1 : IntKind.i64.wrap ((i : Int) - 1) = (i : Int) - 1 := IntWalk.i64_in _ (by omega)
      gi_wp2
      refine hRd.mono ?_
      rintro e W3 ⟨rfl, hJ3, _⟩
      have HJ3 := Lib.hid hJ3; clear hJ3 c0 c1 c2 c3 c4 hbx
      gi_wp2
      go_roundw
      case rel => exact ⟨k + 1, pre ++ [(i, nextE E k)], by omega, by have := HII.out; simp; omega, by rw [List.length_append, hPL.out]; rfl, HJ3.out⟩
      case measure => simp [intOf]
    · obtain rfl : k = E.length := by omega
      have hneg : (E.length : Int) - 1 - (E.length : Int) = -1 := by omega
      rw [hneg]
      clear hneg
      gi_wp2
      go_end0
      exact ⟨⟨_, rfl⟩, pre, hpl, hJ⟩
end Go.Proofs.Ytddlflabdlgnbaa
