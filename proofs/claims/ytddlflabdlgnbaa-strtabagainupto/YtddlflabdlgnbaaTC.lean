/- The contract of strtab's iterator over the texts of a table: the offsets and texts that it yields, in order. Conditions: the table's length is at most maxLen. -/
import Derived.Test.YtddlflabdlgnbaaTA
import Derived.RangeFuncNested
import Derived.RangeFuncBound
import Derived.RangeFuncCalls
import Derived.RangeFuncLeaves
import Derived.Shelf.Abstract
import Derived.Shelf.RegionOpen
import Derived.WalkKit
import Derived.OwnWalkIn
import Derived.TacticsInMore
import Derived.LoopNIn
import Derived.LoopIn
namespace Go.Proofs.Ytddlflabdlgnbaa
open Go.RowKit Go.Shelf
attribute [local go_sem] Oper.semAt_some
/-- The rest of the table from k on. -/
def rest (t : ByteArray) (k : Nat) : ByteArray := t.extract k t.size
theorem rest_size (t : ByteArray) (k : Nat) : (rest t k).size = t.size - k := by simp [rest]
/-- The texts from k on, with their offsets; n bounds their number. -/
def parts (t : ByteArray) : Nat → Nat → List (Nat × ByteArray)
  | 0, _ => []
  | n + 1, k => if Zero.z (rest t k).data.toList < (rest t k).size then (k, (rest t k).extract 0 (Zero.z (rest t k).data.toList)) :: parts t n (k + Zero.z (rest t k).data.toList + 1) else []
/-- All texts of the table. -/
def partsOf (t : ByteArray) : List (Nat × ByteArray) := parts t (t.size + 1) 0
/-- One of the texts of the table. -/
abbrev Part (t : ByteArray) : Type := { x : Nat × ByteArray // x ∈ partsOf t }
theorem parts_fit (t : ByteArray) : ∀ (m k : Nat) (x : Nat × ByteArray), x ∈ parts t m k → k ≤ x.1 ∧ x.1 + x.2.size < t.size
  | 0, _, _, h => by simp [parts] at h
  | m + 1, k, x, h => by
    unfold parts at h
    have hrs := rest_size t k
    split at h
    · rename_i hz
      rcases List.mem_cons.1 h with rfl | h
      · have : ((rest t k).extract 0 (Zero.z (rest t k).data.toList)).size = Zero.z (rest t k).data.toList := by simp; omega
        refine ⟨Nat.le_refl _, ?_⟩
        show k + _ < _
        rw [this]
        omega
      · have := parts_fit t m _ x h
        omega
    · simp at h
theorem texts_in (t : ByteArray) (w : World) (n : Nat) :
    CallsIn Fence.wide n Try.prog 55 #[.string t] w fun e w' => e = .returned (.func (.func 82) #[] #[.pointer (some ⟨w.heap.size, 0, none⟩)]) ∧ w' = w.alloc (.cells #[.string t] 9) := by
  refine callsIn_of_wp Try.func55 rfl trivial ?_ rfl
  simp only [Try.ntmps55, List.size_toArray, List.length_cons, List.length_nil, Nat.reduceAdd, Nat.reduceSub, Array.replicate_succ, Array.replicate_zero, List.push_toArray, List.append_toArray, List.nil_append, List.cons_append]
  gi_wp2
  go_ret
  exact ⟨rfl, rfl⟩
/-- The cell Bs keeps the table. -/
def Holds (Bs : Nat) (t : ByteArray) (W W' : World) : Prop := W.cell? ⟨Bs, 0, none⟩ = some (.string t) → W'.cell? ⟨Bs, 0, none⟩ = some (.string t)
theorem Holds.t {Bs : Nat} {t : ByteArray} {A B C : World} (h : Holds Bs t A B) (h' : Holds Bs t B C) : Holds Bs t A C := fun x => h' (h x)
theorem Holds.b {Bs : Nat} {t : ByteArray} (W : World) (l : Nat) (o o' : Obj) (e : W.heap[l]? = some o) (hc : o.isCells = false) : Holds Bs t W (W.putObj l o') :=
  fun h => cell_kept h (grownBy_putObj' _ l o') (fun r e' => by cases e'; exact ⟨_, e, hc⟩)
set_option maxRecDepth 100000 in
set_option maxHeartbeats 2000000 in
theorem texts1_in (n l Bs : Nat) (hn : 1 ≤ n) (t : ByteArray) (hm : t.size ≤ maxLen) (J Jx : List (Part t) → World → Prop)
    (hY : ∀ pre x W, J pre W → pre.length < t.size + 1 → YieldAt Fence.wide (n - 1) Try.prog l #[.int .i64 (x.1.1 : Int), .string x.1.2] W fun e W' =>
      (e = .returned (.bool true) ∧ J (pre ++ [x]) W' ∧ Holds Bs t W W') ∨ (e = .returned (.bool false) ∧ Jx (pre ++ [x]) W'))
    (hJd : ∀ s W m, J s W → J s (World.drewN W m))
    (W : World) (hBs : W.cell? ⟨Bs, 0, none⟩ = some (.string t)) (h0 : J [] W) :
    CallsIn Fence.wide n Try.prog 82 #[.func (.yield l) #[] #[], .pointer (some ⟨Bs, 0, none⟩)] W fun e W' => (∃ v, e = .returned v) ∧
      ((∃ ys : List (Part t), ys.map Subtype.val = partsOf t ∧ J ys W') ∨ (∃ pre : List (Part t), pre.map Subtype.val <+: partsOf t ∧ Jx pre W')) := by
  refine callsIn_of_wp Try.func82 rfl trivial ?_ rfl
  simp only [Try.ntmps82, List.size_toArray, List.length_cons, List.length_nil, Nat.reduceAdd, Nat.reduceSub, Array.replicate_succ, Array.replicate_zero, List.push_toArray, List.append_toArray, List.nil_append, List.cons_append]
  gi_wp2
  gi_loopw [3] (fun i wr => ∃ (k : Nat) (pre : List (Part t)) (m : Nat), k ≤ t.size ∧ i = .int .i64 k ∧ pre.map Subtype.val ++ parts t m k = partsOf t ∧ t.size < m + k ∧ pre.length ≤ k ∧ J pre wr ∧ wr.cell? ⟨Bs, 0, none⟩ = some (.string t))
    (fun i _ => t.size + 1 - (intOf i).toNat)
  case atStart => exact ⟨0, [], t.size + 1, Nat.zero_le _, rfl, rfl, by omega, by simp, h0, hBs⟩
  case round =>
    obtain ⟨k, pre, m, hk, rfl, hp, hmk, hpl, hJs, hcx⟩ := hrel
    have hi0 : (0 : Int) ≤ (k : Int) := by omega
    have hi1 : (k : Int) ≤ (t.size : Int) := by omega
    obtain ⟨m, rfl⟩ : ∃ m', m = m' + 1 := ⟨m - 1, by omega⟩
    have hrs := rest_size t k
    by_cases hz : Zero.z (rest t k).data.toList < (rest t k).size
    · have hc := fun w => cut_yes (rest t k) w (by rw [rest_size t k]; omega) hz
      have has : ((rest t k).extract 0 (Zero.z (rest t k).data.toList)).size = Zero.z (rest t k).data.toList := by simp; omega
      unfold parts at hp
      rw [if_pos hz] at hp
      generalize (rest t k).extract 0 (Zero.z (rest t k).data.toList) = A at *
      generalize (rest t k).extract (Zero.z (rest t k).data.toList + 1) (rest t k).size = B at *
      rw [hrs] at hz
      generalize Zero.z (rest t k).data.toList = z at *
      have hin : (k, A) ∈ partsOf t := by rw [← hp]; simp
      have HC := Lib.hid hc; clear hc
      unfold maxLen at hm
      gi_wp2
      refine ⟨trivial, (callsIn_wide.2 (HC.out _)).mono ?_⟩
      rintro e w1 ⟨rfl, q, rfl⟩
      obtain ⟨fn, tmps, assign, body, hy, hR⟩ := hY pre ⟨(k, A), hin⟩ (wr.drewN q) (hJd _ _ _ hJs) (by omega)
      dsimp only at hy
      gi_wp2
      refine hR.mono ?_
      rintro e W3 (⟨rfl, hJ3, hk3⟩ | ⟨rfl, hJx3⟩)
      · have hw1 : IntKind.i64.wrap ((A.size : Int) + 1) = (z : Int) + 1 := by rw [has]; exact IntWalk.i64_in _ (by omega)
        have hw2 : IntKind.i64.wrap ((k : Int) + ((z : Int) + 1)) = ((k + z + 1 : Nat) : Int) := by rw [IntWalk.i64_in _ (by omega)]; omega
        gi_wp2
        go_roundw
        case rel => exact ⟨k + z + 1, pre ++ [⟨(k, A), hin⟩], m, by omega, by simp, by simpa using hp, by omega, by simp; omega, hJ3, hk3 hcx⟩
        case measure => simp [intOf]; omega
      · gi_wp2
        refine bodyPost_ret (results_none rfl _ _ _) rfl ?_
        exact ⟨⟨_, rfl⟩, .inr ⟨_, ⟨parts t m (k + z + 1), by simpa using hp⟩, hJx3⟩⟩
    · have hc := fun w => cut_no (rest t k) w hz
      unfold parts at hp
      rw [if_neg hz] at hp
      have HC := Lib.hid hc; clear hc
      gi_wp2
      refine ⟨trivial, (callsIn_wide.2 (HC.out _)).mono ?_⟩
      rintro e w1 ⟨rfl, rfl⟩
      gi_wp2
      refine ⟨fun _ h => (by cases h), ?_⟩
      gi_wp2
      refine bodyPost_ret (results_none rfl _ _ _) rfl ?_
      exact ⟨⟨_, rfl⟩, .inl ⟨_, by simpa using hp, hJs⟩⟩
/-- texts(table) as an iterator: all texts with their offsets, in order, or a part of them. -/
theorem texts_stops (n Bs : Nat) (hn : 1 ≤ n) (t : ByteArray) (hm : t.size ≤ maxLen) (w : World) (hb : Bs < w.heap.size) (hc : w.cell? ⟨Bs, 0, none⟩ = some (.string t)) :
    SeqStopsK Fence.wide n Try.prog 82 #[.pointer (some ⟨Bs, 0, none⟩)] (fun x : Part t => #[Value.int .i64 (x.1.1 : Int), .string x.1.2]) (Holds Bs t) (fun ys => ys.map Subtype.val = partsOf t) (fun pre => pre.map Subtype.val <+: partsOf t) (t.size + 1) w := fun l J Jx W hW hJ _ hY h0 => by
  have hc' := (hW.cell (p := ⟨Bs, 0, none⟩) hb).trans hc
  exact texts1_in n l Bs hn t hm J Jx hY (fun s W1 m hs => hJ s W1 _ none hs ⟨rfl, rfl, rfl, Nat.le_refl _, fun _ _ _ => rfl⟩ (fun r e => by cases e)) W hc' h0
end Go.Proofs.Ytddlflabdlgnbaa
