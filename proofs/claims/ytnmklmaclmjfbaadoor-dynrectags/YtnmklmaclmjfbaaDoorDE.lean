/- Rows of entries; putEntry and PutDynamic of package dynrec. Conditions: those written in each theorem. -/
import Derived.Laws.CopyOwn
import Derived.Laws.Tables
import Derived.OwnWalk
import Derived.Deep.CutBlock
import Derived.Deep.DeepCutAuto
import Derived.Test.YtnmklmaclmjfbaaDoorDB
import Derived.Test.YtnmklmaclmjfbaaDoorDC
namespace Go.Proofs.YtnmklmaclmjfbaaDoor
open Go.RowKit
theorem below_more {w w' : World} (h : Below w.heap.size w w') (o : Obj) : Below w.heap.size w (w'.alloc o) := h.alloc h.size o
theorem cell_up {W : World} {p : Addr} {v : Value} (o : Obj) (h : W.cell? p = some v) : (W.alloc o).cell? p = some v := by
  have hlt : p.block < W.heap.size := by
    rcases Nat.lt_or_ge p.block W.heap.size with h1 | h1
    · exact h1
    · simp [World.cell?, Array.getElem?_eq_none h1] at h
  rw [World.cell?_of_block (w := W) (Below.heap_alloc W o p.block hlt)]
  exact h
theorem heap_up {w : World} {b : Nat} {c : Obj} (o : Obj) (h : w.heap[b]? = some c) : (w.alloc o).heap[b]? = some c := by
  rw [Below.heap_alloc w o b (Array.getElem?_eq_some_iff.1 h).1]
  exact h
/-- The first k texts, one behind the other. -/
def catR (S : Nat → ByteArray) : Nat → List UInt8
  | 0 => []
  | k + 1 => catR S k ++ (S k).data.toList
theorem catR_len (S : Nat → ByteArray) (M : Nat) : ∀ (k : Nat), (∀ i, i < k → (S i).size ≤ M) → (catR S k).length ≤ k * M
  | 0, _ => by simp [catR]
  | k + 1, h => by
    have := catR_len S M k (fun i hi => h i (by omega))
    have h2 := h k (by omega)
    have e : (k + 1) * M = k * M + M := Nat.succ_mul _ _
    have e2 : (S k).data.toList.length = (S k).size := by simp
    simp only [catR, List.length_append]
    omega
theorem catR_congr {S S' : Nat → ByteArray} : ∀ (k : Nat), (∀ i, i < k → S i = S' i) → catR S k = catR S' k
  | 0, _ => rfl
  | k + 1, h => by
    simp only [catR]
    rw [catR_congr k (fun i hi => h i (by omega)), h k (by omega)]
def allOk (ok : Nat → Bool) (k : Nat) : Bool := (List.range k).all ok
theorem allOk_succ (ok : Nat → Bool) (k : Nat) : allOk ok (k + 1) = (allOk ok k && ok k) := by
  unfold allOk
  rw [List.range_succ, List.all_append]
  simp
theorem allOk_false {ok : Nat → Bool} {k n : Nat} (hk : k < n) (h : ok k = false) : allOk ok n = false := by
  unfold allOk
  rw [List.all_eq_false]
  exact ⟨k, List.mem_range.2 hk, by simp [h]⟩
theorem below_mk2 {B : Nat} {w w' : World} (h : Below B w w') (hB : B ≤ w'.heap.size) (o : Obj) : Below B w (w'.alloc o) := h.alloc hB o
theorem own_stay {w w' : World} {B e size n : Nat} {v : Value} {xs : List Value} (h : w.ownsRow B e size v n xs) (hb : Below w.heap.size w w') : w'.ownsRow B e size v n xs := by
  refine ⟨h.1, ?_⟩
  rcases h.2 with h1 | ⟨g, cap, cur, h1, h2, h3, h4⟩
  · exact .inl h1
  · have hlt := (Array.getElem?_eq_some_iff.1 h3).1
    exact .inr ⟨g, cap, cur, h1, h2, by rw [hb.block g hlt]; exact h3, h4⟩
theorem builder_stay {T e : TypeId} {B b : Nat} {bs : List Value} {w w' : World} (h : Lib.IsBuilder T e B b bs w) (hb : Below w.heap.size w w') : Lib.IsBuilder T e B b bs w' := by
  have one : ∀ p, Lib.BuilderAt T e B b p bs w → Lib.BuilderAt T e B b p bs w' := fun p h => by
    have hlt := h.lt
    obtain ⟨h1, v, h2, h3, h4⟩ := h
    exact ⟨h1, v, by rw [hb.block b hlt]; exact h2, own_stay h3 hb, h4⟩
  rcases h with h | h
  · exact .inl (one _ h)
  · exact .inr (one _ h)
theorem strCells_is (s : ByteArray) : Lib.strCells s = Lib.byteCells s.data.toList := rfl
def rowU64 (l : List Nat) : Array Value := (l.map fun n : Nat => Value.int .u64 (n : Int)).toArray
theorem RowI.of_rowT {w : World} {b : Nat} {L : List Int} {t : TypeId} (hb : b < w.heap.size) (h : w.heap[b]? = some (.cells (rowI64 L) t (0, 0))) : RowI w (some ⟨b, 0, none⟩) L.length L := fun k hk =>
  ⟨b, 0, rfl, hb, by rw [Nat.zero_add, List.getD_eq_getElem?_getD, List.getElem?_eq_getElem hk]; simp [World.cell?, h, rowI64, hk]⟩
theorem RowN.of_rowT {w : World} {b : Nat} {L : List Nat} {t : TypeId} (hb : b < w.heap.size) (h : w.heap[b]? = some (.cells (rowU64 L) t (0, 0))) (hn : ∀ n ∈ L, n < 2 ^ 64) : RowN w (some ⟨b, 0, none⟩) L.length L := fun k hk =>
  ⟨b, 0, rfl, hb, by rw [Nat.zero_add, List.getD_eq_getElem?_getD, List.getElem?_eq_getElem hk]; simp [World.cell?, h, rowU64, hk], by rw [List.getD_eq_getElem?_getD, List.getElem?_eq_getElem hk]; exact hn _ (List.getElem_mem hk)⟩
theorem len_any (B b : Nat) (bs : List Value) (w : World) (h : Lib.IsBuilder 66 5 B b bs w) : Calls Tryd.prog 27 #[.pointer (some ⟨b, 0, none⟩)] w fun e w' => e = .returned (.int .i64 (bs.length : Nat)) ∧ w = w' := by
  have one : ∃ v, w.cell? ⟨b, 1, none⟩ = some v ∧ ∃ ao cap, v = .slice ao bs.length cap := by
    have key : ∀ p, Lib.BuilderAt 66 5 B b p bs w → ∃ v, w.cell? ⟨b, 1, none⟩ = some v ∧ ∃ ao cap, v = .slice ao bs.length cap := fun p h => by
      obtain ⟨hB, v, hbk, hown, hne⟩ := h
      refine ⟨v, by rw [Lib.cell_of_heap hbk]; rfl, ?_⟩
      rcases hown.2 with ⟨hv, hn⟩ | ⟨g, cap, cur, hv, _⟩
      · exact ⟨_, 0, by rw [hn]; exact hv⟩
      · exact ⟨_, _, hv⟩
    rcases h with h | h
    · exact key _ h
    · exact key _ h
  obtain ⟨v, c1, ao, cap, rfl⟩ := one
  clear h
  go_enter Tryd.func27, Tryd.ntmps27
  go_wp2
  go_ret
  exact ⟨rfl, rfl⟩
set_option maxRecDepth 100000 in
theorem putEntry_is (big wide : Bool) (t v : Nat) (ht : t < 2 ^ 64) (hv : v < 2 ^ 64) (S : ByteArray) (ok : Bool) (hr : RecIs big wide [0, 0] [t, v] 2 2 S ok) (w : World) :
    Calls Tryd.prog 18 #[.agg #[.bool big, .bool wide], .agg #[.int .u64 (t : Nat), .int .u64 (v : Nat)]] w fun e w' => e = .returned (.tuple #[.string S, .bool ok]) ∧ Below w.heap.size w w' := by
  have hA : ∀ (u : World) (o : Obj), ((u.alloc (.cells (rowI64 [0, 0]) 3)).alloc o).heap[u.heap.size]? = some (.cells (rowI64 [0, 0]) 3 (0, 0)) := fun u o => heap_up o (heap_alloc_new u _)
  have hB : ∀ (u : World), (u.alloc (.cells (rowU64 [t, v]) 31)).heap[u.heap.size]? = some (.cells (rowU64 [t, v]) 31 (0, 0)) := fun u => heap_alloc_new u _
  have HA := Lib.hid hA; have HB := Lib.hid hB; have HR := Lib.hid hr; clear hA hB hr
  go_enter Tryd.func18, Tryd.ntmps18
  go_wp2_with fail
  refine (record_is big wide (some ⟨w.heap.size + 2, 0, none⟩) (some ⟨w.heap.size + 3, 0, none⟩) 2 2 2 2 [0, 0] [t, v] S ok _ (by decide) ?_ ?_ HR.out).mono ?_
  · exact RowI.of_rowT (L := [0, 0]) (t := 3) (by simp; try omega) (by
      have := HA.out ((w.alloc (.cells #[.bool big, .bool wide] 27)).alloc (.cells #[.int .u64 (t : Nat), .int .u64 (v : Nat)] 34)) (.cells (rowU64 [t, v]) 31)
      have e : ((w.alloc (.cells #[.bool big, .bool wide] 27)).alloc (.cells #[.int .u64 (t : Nat), .int .u64 (v : Nat)] 34)).heap.size = w.heap.size + 2 := by simp
      rw [e] at this
      exact this)
  · exact RowN.of_rowT (L := [t, v]) (t := 31) (by simp; try omega) (by
      have := HB.out (((w.alloc (.cells #[.bool big, .bool wide] 27)).alloc (.cells #[.int .u64 (t : Nat), .int .u64 (v : Nat)] 34)).alloc (.cells (rowI64 [0, 0]) 3))
      have e : (((w.alloc (.cells #[.bool big, .bool wide] 27)).alloc (.cells #[.int .u64 (t : Nat), .int .u64 (v : Nat)] 34)).alloc (.cells (rowI64 [0, 0]) 3)).heap.size = w.heap.size + 3 := by simp
      rw [e] at this
      exact this) (fun n hn => by
      simp only [List.mem_cons, List.not_mem_nil, or_false] at hn
      rcases hn with rfl | rfl
      · exact ht
      · exact hv)
  · rintro e w1 ⟨rfl, h1⟩
    go_wp2
    go_ret2
    refine ⟨rfl, ?_⟩
    exact (below_more (below_more (below_more (below_more (Below.refl _ _) _) _) _) _).trans (h1.mono (by simp; omega))
/-- n entries stand one behind the other where a slice begins. -/
def RowP (w : World) (A : Option Addr) (n : Nat) (R : Nat → Nat × Nat) : Prop := ∀ i, i < n → ∃ b o, A = some ⟨b, o, none⟩ ∧ b < w.heap.size ∧
  w.cell? ⟨b, o + i * 2, none⟩ = some (.int .u64 ((R i).1 : Nat)) ∧ w.cell? ⟨b, o + i * 2 + 1, none⟩ = some (.int .u64 ((R i).2 : Nat))
theorem RowP.low {w w' : World} {A : Option Addr} {n : Nat} {R : Nat → Nat × Nat} (h : RowP w A n R) (hb : Below w.heap.size w w') : RowP w' A n R := fun i hi => by
  obtain ⟨b, o, e, hl, h0, h1⟩ := h i hi
  exact ⟨b, o, e, Nat.lt_of_lt_of_le hl hb.size, (hb.cell (p := ⟨b, _, none⟩) hl).trans h0, (hb.cell (p := ⟨b, _, none⟩) hl).trans h1⟩
end Go.Proofs.YtnmklmaclmjfbaaDoor
