/- Small facts on worlds. Conditions: those written in each theorem. Rows of records of numbers: how they are filled. Conditions: those written in each theorem. Plain mathematics: how many bits of a number are set, byte by byte, and powers of two. No Go here. Plain mathematics: the bytes' counts added up. No Go here. Plain mathematics: how many bits of a number are set, and powers of two. No Go here. The contract of math/bits' OnesCount64. Conditions: those written in each theorem. Contracts of span's Add, End, In and Part. Conditions: those written in each theorem. -/
import Derived.Deep.MidRow
import Derived.Lib.BufferMore
import Derived.Deep.CutBlock
import Derived.Deep.DeepCutAuto
import Derived.Deep.RegionHeld3
import Derived.Laws.Tables
import Derived.Test.YtedocnidgiglaaaJB
import Derived.Laws.MakeOwn
import Derived.Laws.BitsAllLaws
import Derived.Laws.Bits128
import Derived.Shelf.Lays7
import Derived.Shelf.Spec.BitsCarry
import Derived.IntWalk
import Derived.PlainAid
import Derived.Laws.Bits64
namespace Go.Proofs.Ytedocnidgiglaaa
open Go.RowKit
set_option linter.unusedVariables false
theorem below_more {w w' : World} (h : Below w.heap.size w w') (o : Obj) : Below w.heap.size w (w'.alloc o) := h.alloc h.size o
theorem heap_up {w : World} {b : Nat} {c : Obj} (o : Obj) (h : w.heap[b]? = some c) : (w.alloc o).heap[b]? = some c := by
  rw [Below.heap_alloc w o b (Array.getElem?_eq_some_iff.1 h).1]
  exact h
theorem heap_low {w w' : World} {b : Nat} {c : Obj} (h : w.heap[b]? = some c) (hb : Below w.heap.size w w') : w'.heap[b]? = some c := by
  rw [hb.block b (Array.getElem?_eq_some_iff.1 h).1]; exact h
theorem heap_low' {w w' : World} {B b : Nat} {c : Obj} (h : w.heap[b]? = some c) (hb : Below B w w') (hB : b < B) : w'.heap[b]? = some c := by
  rw [hb.block b hB]; exact h
theorem heap_lt {w : World} {b : Nat} {c : Obj} (h : w.heap[b]? = some c) : b < w.heap.size := (Array.getElem?_eq_some_iff.1 h).1
theorem own_stay {w w' : World} {B e size n : Nat} {v : Value} {xs : List Value} (h : w.ownsRow B e size v n xs) (hb : Below w.heap.size w w') : w'.ownsRow B e size v n xs := by
  refine ⟨h.1, ?_⟩
  rcases h.2 with h1 | ⟨g, cap, cur, h1, h2, h3, h4⟩
  · exact .inl h1
  · have hlt := (Array.getElem?_eq_some_iff.1 h3).1
    exact .inr ⟨g, cap, cur, h1, h2, by rw [hb.block g hlt]; exact h3, h4⟩
/-- The cells of a row, some of them written anew. -/
def stv (cs : Array Value) : Nat → List Value → Array Value
  | _, [] => cs
  | o, v :: r => stv (cs.setIfInBounds o v) (o + 1) r
theorem heap_setCells {b : Nat} {t : TypeId} {fr : Nat × Nat} : ∀ (vs : List Value) (o : Nat) {w : World} {cs : Array Value}, w.heap[b]? = some (.cells cs t fr) → (w.setCells b o vs).heap[b]? = some (.cells (stv cs o vs) t fr)
  | [], _, _, _, h => h
  | v :: r, o, w, cs, h => by
    show ((w.setCell ⟨b, o, none⟩ v).setCells b (o + 1) r).heap[b]? = _
    exact heap_setCells r (o + 1) (Lib.heap_setCell_same h v)
theorem below_setCells {B b : Nat} (hB : B ≤ b) : ∀ (vs : List Value) (o : Nat) {a w : World}, Below B a w → Below B a (w.setCells b o vs)
  | [], _, _, _, h => h
  | v :: r, o, _, w, h => below_setCells hB r (o + 1) (h.setCell (p := ⟨b, o, none⟩) hB v)
theorem only_setCells {R : Nat} : ∀ (vs : List Value) (o : Nat) {a w : World}, OnlyAt R a w → OnlyAt R a (w.setCells R o vs)
  | [], _, _, _, h => h
  | v :: r, o, _, w, h => only_setCells r (o + 1) (h.trans (OnlyAt.setCell R o w v))
theorem there_of {w : World} {b o n : Nat} {cs : Array Value} {t : TypeId} (h : w.heap[b]? = some (.cells cs t (0, 0))) (hn : o + n ≤ cs.size) : w.there b o n := fun j hj => by
  refine ⟨?_, Lib.frozen_of_heap h _⟩
  rw [Lib.cell_of_heap h, Array.getElem?_eq_getElem (by omega)]
  rfl
theorem range_of {w : World} {b o : Nat} {cs : Array Value} {t : TypeId} {vs : List Value} (h : w.heap[b]? = some (.cells cs t (0, 0))) (hv : (cs.toList.drop o).take vs.length = vs) : w.rangeAt b o vs := fun j v hj => by
  have hl : j < vs.length := (List.getElem?_eq_some_iff.1 hj).1
  rw [Lib.cell_of_heap h, ← Array.getElem?_toList, ← List.getElem?_drop, ← List.getElem?_take_of_lt hl, hv, hj]
theorem only_alloc {R : Nat} {a w : World} (h : OnlyAt R a w) (o : Obj) : OnlyAt R a (w.alloc o) := h.trans (OnlyAt.of_below ((Below.refl _ _).alloc (Nat.le_refl _) _))
theorem only_low {R : Nat} {a w w' : World} (h : OnlyAt R a w) (hb : Below w.heap.size w w') : OnlyAt R a w' := h.trans (OnlyAt.of_below hb)
theorem heap_only {R b : Nat} {w w' : World} {c : Obj} (h : w.heap[b]? = some c) (ho : OnlyAt R w w') (hn : b ≠ R) : w'.heap[b]? = some c := by
  rw [ho.block b (heap_lt h) hn]; exact h
theorem setRow_heap' (w : World) (b : Nat) (old cs : Array Value) (t : TypeId) (fr : Nat × Nat) (h : w.heap[b]? = some (.cells old t fr)) : (w.setRow b cs).heap[b]? = some (.cells cs t fr) := by
  simp [World.setRow, Array.getElem?_modify, h]
theorem setRow_below {B b : Nat} {a w : World} (h : Below B a w) (hb : B ≤ b) (cs : Array Value) : Below B a (w.setRow b cs) :=
  h.trans ⟨rfl, rfl, rfl, by simp [World.setRow], fun k hk => by simp [World.setRow, Array.getElem?_modify, show b ≠ k by omega]⟩
end Go.Proofs.Ytedocnidgiglaaa
namespace Go.Proofs.Ytedocnidgiglaaa
open Go.RowKit
set_option linter.unusedVariables false
theorem stv_list : ∀ (vs : List Value) (o : Nat) (cs : Array Value), o + vs.length ≤ cs.size → (stv cs o vs).toList = cs.toList.take o ++ (vs ++ cs.toList.drop (o + vs.length))
  | [], o, cs, _ => by simp [stv]
  | v :: r, o, cs, h => by
    have h1 : o < cs.size := by simp at h; omega
    have hl : cs.toList.length = cs.size := by simp
    simp only [stv]
    rw [stv_list r (o + 1) _ (by simp at h ⊢; omega)]
    simp only [Array.toList_setIfInBounds, List.length_cons]
    rw [List.take_succ_eq_append_getElem (by simp; omega), List.take_set_of_le (Nat.le_refl _), List.getElem_set_self, List.drop_set_of_lt (by omega)]
    simp only [List.append_assoc, List.cons_append, List.nil_append]
    congr 4
    omega
theorem stv_u64 (L ns : List Nat) (o : Nat) (h : o + ns.length ≤ L.length) : stv (rowU64 L) o (ns.map fun n : Nat => Value.int .u64 (n : Int)) = rowU64 (L.take o ++ (ns ++ L.drop (o + ns.length))) := by
  apply Array.toList_inj.1
  rw [stv_list _ _ _ (by simp [rowU64]; omega)]
  simp [rowU64, List.map_take, List.map_drop]
/-- The numbers of the first k records, m each. -/
def flatF (m : Nat) (f : Nat → Nat → Nat) (k : Nat) : List Nat := (List.range k).flatMap fun i => (List.range m).map (f i)
theorem flatF_succ (m : Nat) (f : Nat → Nat → Nat) (k : Nat) : flatF m f (k + 1) = flatF m f k ++ (List.range m).map (f k) := by
  simp [flatF, List.range_succ, List.flatMap_append]
theorem flatF_len (m : Nat) (f : Nat → Nat → Nat) : ∀ k, (flatF m f k).length = k * m
  | 0 => by simp [flatF]
  | k + 1 => by rw [flatF_succ, List.length_append, flatF_len m f k, Nat.succ_mul]; simp
theorem flatF_at (m : Nat) (f : Nat → Nat → Nat) : ∀ (k i j : Nat), i < k → j < m → (flatF m f k)[i * m + j]? = some (f i j)
  | 0, i, j, h, _ => absurd h (Nat.not_lt_zero _)
  | k + 1, i, j, h, hj => by
    rw [flatF_succ]
    by_cases hi : i < k
    · have : i * m + j < k * m := by
        have : (i + 1) * m ≤ k * m := Nat.mul_le_mul_right _ hi
        rw [Nat.succ_mul] at this
        omega
      rw [List.getElem?_append_left (by rw [flatF_len]; exact this), flatF_at m f k i j hi hj]
    · obtain rfl : i = k := by omega
      rw [List.getElem?_append_right (by rw [flatF_len]; omega), flatF_len, Nat.add_sub_cancel_left]
      simp [hj]
def fillF (m : Nat) (f : Nat → Nat → Nat) (n k : Nat) : List Nat := flatF m f k ++ List.replicate ((n - k) * m) 0
theorem fillF_len (m : Nat) (f : Nat → Nat → Nat) (n k : Nat) (h : k ≤ n) : (fillF m f n k).length = n * m := by
  simp only [fillF, List.length_append, flatF_len, List.length_replicate]
  rw [← Nat.add_mul]; congr 1; omega
theorem fillF_zero (m : Nat) (f : Nat → Nat → Nat) (n : Nat) : fillF m f n 0 = List.replicate (n * m) 0 := by simp [fillF, flatF]
theorem fillF_all (m : Nat) (f : Nat → Nat → Nat) (n : Nat) : fillF m f n n = flatF m f n := by simp [fillF]
theorem fillF_step (m : Nat) (f : Nat → Nat → Nat) (n k : Nat) (h : k < n) :
    (fillF m f n k).take (k * m) ++ ((List.range m).map (f k) ++ (fillF m f n k).drop (k * m + m)) = fillF m f n (k + 1) := by
  unfold fillF
  have hl := flatF_len m f k
  rw [List.take_left' hl, flatF_succ, List.append_assoc]
  congr 2
  rw [← List.drop_drop, List.drop_left' hl, List.drop_replicate]
  congr 1
  obtain ⟨d, hd⟩ : ∃ d, n - k = d + 1 := ⟨n - k - 1, by omega⟩
  rw [hd, show n - (k + 1) = d by omega, Nat.succ_mul]
  omega
theorem madeCells_u64 (z : Array Value) (hz : ∀ i, i < z.size → z[i]! = .int .u64 0) (h0 : 0 < z.size) (n : Nat) : madeCells z n = rowU64 (List.replicate n 0) := by
  apply Array.ext_getElem?
  intro i
  unfold madeCells rowU64
  by_cases h : i < n
  · have := hz (i % z.size) (Nat.mod_lt _ h0)
    simp [h, this]
  · simp [h]
end Go.Proofs.Ytedocnidgiglaaa
namespace Go.Proofs.Ytedocnidgiglaaa
namespace Pop
def val : List Nat → Nat
  | [] => 0
  | a :: l => a + 256 * val l
def rep (c : Nat) : Nat → Nat
  | 0 => 0
  | k + 1 => c + 256 * rep c k
theorem and_split (a b c d : Nat) (ha : a < 256) (hc : c < 256) : (a + 256 * b) &&& (c + 256 * d) = (a &&& c) + 256 * (b &&& d) := by
  have e1 : a + 256 * b = 2 ^ 8 * b + a := by omega
  have e2 : c + 256 * d = 2 ^ 8 * d + c := by omega
  have h3 : a &&& c < 2 ^ 8 := Nat.lt_of_le_of_lt Nat.and_le_left (by omega)
  have e3 : (a &&& c) + 256 * (b &&& d) = 2 ^ 8 * (b &&& d) + (a &&& c) := by omega
  rw [e1, e2, e3]
  apply Nat.eq_of_testBit_eq
  intro i
  rw [Nat.testBit_and, Nat.testBit_two_pow_mul_add _ (by omega), Nat.testBit_two_pow_mul_add _ (by omega), Nat.testBit_two_pow_mul_add _ h3]
  split
  · rw [Nat.testBit_and]
  · rw [Nat.testBit_and]
def g1 (a : Nat) : Nat := (a / 2 &&& 85) + (a &&& 85)
def g2 (a : Nat) : Nat := (a / 4 &&& 51) + (a &&& 51)
def g3 (a : Nat) : Nat := (a / 16 + a) &&& 15
def low (a : Nat) : Prop := a < 256
theorem t1 (a c : Nat) (ha : a < 128) (hc : c < 2) : (a + 128 * c) &&& 85 = a &&& 85 := by
  have : ∀ a : Fin 128, ∀ c : Fin 2, (a.1 + 128 * c.1) &&& 85 = a.1 &&& 85 := by decide +kernel
  exact this ⟨a, ha⟩ ⟨c, hc⟩
theorem t2 (a c : Nat) (ha : a < 64) (hc : c < 4) : (a + 64 * c) &&& 51 = a &&& 51 := by
  have : ∀ a : Fin 64, ∀ c : Fin 4, (a.1 + 64 * c.1) &&& 51 = a.1 &&& 51 := by decide +kernel
  exact this ⟨a, ha⟩ ⟨c, hc⟩
theorem t3 (a c : Nat) (ha : a < 120) (hc : c < 8) : (a + 16 * c) &&& 15 = a &&& 15 := by
  have : ∀ a : Fin 120, ∀ c : Fin 8, (a.1 + 16 * c.1) &&& 15 = a.1 &&& 15 := by decide +kernel
  exact this ⟨a, ha⟩ ⟨c, hc⟩
theorem s1 : ∀ (l : List Nat), (∀ a ∈ l, a < 256) → (val l / 2 &&& rep 85 l.length) + (val l &&& rep 85 l.length) = val (l.map g1)
  | [], _ => rfl
  | a :: l, h => by
    have ha := h a (by simp)
    have ih := s1 l (fun x hx => h x (by simp [hx]))
    simp only [val, rep, List.length_cons, List.map_cons]
    generalize val l = b at *
    generalize rep 85 l.length = m at *
    have e : (a + 256 * b) / 2 = (a / 2 + 128 * (b % 2)) + 256 * (b / 2) := by omega
    rw [e, and_split _ _ _ _ (by omega) (by decide), and_split _ _ _ _ ha (by decide), t1 _ _ (by omega) (by omega), ← ih]
    unfold g1
    omega
theorem s2 : ∀ (l : List Nat), (∀ a ∈ l, a < 256) → (val l / 4 &&& rep 51 l.length) + (val l &&& rep 51 l.length) = val (l.map g2)
  | [], _ => rfl
  | a :: l, h => by
    have ha := h a (by simp)
    have ih := s2 l (fun x hx => h x (by simp [hx]))
    simp only [val, rep, List.length_cons, List.map_cons]
    generalize val l = b at *
    generalize rep 51 l.length = m at *
    have e : (a + 256 * b) / 4 = (a / 4 + 64 * (b % 4)) + 256 * (b / 4) := by omega
    rw [e, and_split _ _ _ _ (by omega) (by decide), and_split _ _ _ _ ha (by decide), t2 _ _ (by omega) (by omega), ← ih]
    unfold g2
    omega
theorem s3 : ∀ (l : List Nat), (∀ a ∈ l, a ≤ 68 ∧ a % 16 < 5) → (val l / 16 + val l) &&& rep 15 l.length = val (l.map g3) ∧ val l % 16 < 5
  | [], _ => ⟨rfl, by decide⟩
  | a :: l, h => by
    have ha := h a (by simp)
    obtain ⟨ih, ih2⟩ := s3 l (fun x hx => h x (by simp [hx]))
    simp only [val, rep, List.length_cons, List.map_cons]
    generalize val l = b at *
    generalize rep 15 l.length = m at *
    have e : (a + 256 * b) / 16 + (a + 256 * b) = ((a / 16 + a) + 16 * (b % 16)) + 256 * (b / 16 + b) := by omega
    refine ⟨?_, by omega⟩
    rw [e, and_split _ _ _ _ (by omega) (by decide), t3 _ _ (by omega) (by omega), ih]
    unfold g3
    rfl
theorem g_ok : ∀ a : Fin 256, g1 a.1 < 256 ∧ g2 (g1 a.1) ≤ 68 ∧ g2 (g1 a.1) % 16 < 5 ∧ g3 (g2 (g1 a.1)) ≤ 8 := by decide +kernel
def popF : Nat → Nat → Nat
  | 0, _ => 0
  | f + 1, n => n % 2 + popF f (n / 2)
theorem g_pop : ∀ a : Fin 256, g3 (g2 (g1 a.1)) = popF 8 a.1 := by decide +kernel
theorem popF_split : ∀ (f g n : Nat), popF (f + g) n = popF f n + popF g (n / 2 ^ f)
  | 0, g, n => by simp [popF]
  | f + 1, g, n => by
    rw [show f + 1 + g = (f + g) + 1 by omega]
    simp only [popF]
    rw [popF_split f g (n / 2), Nat.div_div_eq_div_mul, show 2 * 2 ^ f = 2 ^ (f + 1) by rw [Nat.pow_succ]; omega]
    omega
theorem popF_mod : ∀ (f a b : Nat), popF f (a + 2 ^ f * b) = popF f a
  | 0, _, _ => rfl
  | f + 1, a, b => by
    simp only [popF]
    have e : a + 2 ^ (f + 1) * b = a + 2 * (2 ^ f * b) := by rw [Nat.pow_succ, Nat.mul_comm (2 ^ f) 2, Nat.mul_assoc]
    rw [e, Nat.add_mul_mod_self_left, Nat.add_mul_div_left _ _ (by decide), popF_mod f (a / 2) b]
theorem popF_byte (f a b : Nat) (ha : a < 256) : popF (8 + f) (a + 256 * b) = popF 8 a + popF f b := by
  rw [popF_split, popF_mod 8 a b, show (2 : Nat) ^ 8 = 256 from rfl, Nat.add_mul_div_left _ _ (by decide), Nat.div_eq_of_lt ha, Nat.zero_add]
/-- The eight bytes of a number. -/
def bytes8 (n : Nat) : List Nat := [n % 256, n / 256 % 256, n / 65536 % 256, n / 16777216 % 256, n / 4294967296 % 256, n / 1099511627776 % 256, n / 281474976710656 % 256, n / 72057594037927936 % 256]
theorem bytes_val (n : Nat) (h : n < 18446744073709551616) : val (bytes8 n) = n := by
  simp only [bytes8, val]
  omega
theorem bytes_lt (n : Nat) : ∀ a ∈ bytes8 n, a < 256 := by
  intro a ha
  simp only [bytes8, List.mem_cons, List.not_mem_nil, or_false] at ha
  omega
def out (x : Nat) : Nat := let y := x + x / 256; let z := y + y / 65536; (z + z / 4294967296) % 128
end Pop
end Go.Proofs.Ytedocnidgiglaaa
namespace Go.Proofs.Ytedocnidgiglaaa
namespace Pop
theorem addv (a b x y : Nat) : a + 256 * x + (b + 256 * y) = (a + b) + 256 * (x + y) := by omega
theorem dv1 (a r : Nat) (h : a < 256) : (a + 256 * r) / 256 = r := by omega
theorem dv2 (a b r : Nat) (h : a < 256) (h2 : b < 256) : (a + 256 * (b + 256 * r)) / 65536 = r := by omega
theorem dv4 (a b c d r : Nat) (h : a < 256) (h2 : b < 256) (h3 : c < 256) (h4 : d < 256) : (a + 256 * (b + 256 * (c + 256 * (d + 256 * r)))) / 4294967296 = r := by
  rw [show (4294967296 : Nat) = 65536 * 65536 from rfl, ← Nat.div_div_eq_div_mul, dv2 _ _ _ h h2, dv2 _ _ _ h3 h4]
theorem md (a r : Nat) (h : a < 128) : (a + 256 * r) % 128 = a := by omega
theorem out_val (c0 c1 c2 c3 c4 c5 c6 c7 : Nat) (h0 : c0 ≤ 8) (h1 : c1 ≤ 8) (h2 : c2 ≤ 8) (h3 : c3 ≤ 8) (h4 : c4 ≤ 8) (h5 : c5 ≤ 8) (h6 : c6 ≤ 8) (h7 : c7 ≤ 8) :
    out (val [c0, c1, c2, c3, c4, c5, c6, c7]) = c0 + c1 + c2 + c3 + c4 + c5 + c6 + c7 := by
  simp only [val, out]
  rw [dv1 c0 _ (by omega), addv, addv, addv, addv, addv, addv, addv, dv2 _ _ _ (by omega) (by omega), addv, addv, addv, addv, addv, dv4 _ _ _ _ _ (by omega) (by omega) (by omega) (by omega), addv, md _ _ (by omega)]
  omega
end Pop
end Go.Proofs.Ytedocnidgiglaaa
namespace Go.Proofs.Ytedocnidgiglaaa
namespace Pop
theorem pop_list : ∀ l : List Nat, (∀ a ∈ l, a < 256) → popF (8 * l.length) (val l) = (l.map (popF 8)).sum
  | [], _ => rfl
  | a :: l, h => by
    have ih := pop_list l (fun x hx => h x (by simp [hx]))
    rw [List.length_cons, show 8 * (l.length + 1) = 8 + 8 * l.length by omega]
    show popF (8 + 8 * l.length) (a + 256 * val l) = _
    rw [popF_byte _ _ _ (h a (by simp)), ih]
    simp
theorem popF_zero (f : Nat) : popF f 0 = 0 := by
  induction f with
  | zero => rfl
  | succ f ih => simp [popF, ih]
/-- The count of bits, as the library reckons it. -/
theorem swar (n : Nat) (h : n < 18446744073709551616) :
    let x := (n / 2 &&& rep 85 8) + (n &&& rep 85 8)
    let y := (x / 4 &&& rep 51 8) + (x &&& rep 51 8)
    out ((y / 16 + y) &&& rep 15 8) = popF 64 n ∧ x < 18446744073709551616 ∧ y ≤ 4919131752989213764 := by
  have hb := bytes_lt n
  have hv := bytes_val n h
  have e1 := s1 (bytes8 n) hb
  rw [hv, show (bytes8 n).length = 8 from rfl] at e1
  dsimp only
  rw [e1]
  have hb2 : ∀ a ∈ (bytes8 n).map g1, a < 256 := fun a ha => by
    obtain ⟨x, hx, rfl⟩ := List.mem_map.1 ha
    exact (g_ok ⟨x, hb x hx⟩).1
  have e2 := s2 ((bytes8 n).map g1) hb2
  rw [show ((bytes8 n).map g1).length = 8 from rfl] at e2
  rw [e2]
  have hb3 : ∀ a ∈ ((bytes8 n).map g1).map g2, a ≤ 68 ∧ a % 16 < 5 := fun a ha => by
    obtain ⟨y, hy, rfl⟩ := List.mem_map.1 ha
    obtain ⟨x, hx, rfl⟩ := List.mem_map.1 hy
    have := g_ok ⟨x, hb x hx⟩
    exact ⟨this.2.1, this.2.2.1⟩
  have e3 := (s3 (((bytes8 n).map g1).map g2) hb3).1
  rw [show (((bytes8 n).map g1).map g2).length = 8 from rfl] at e3
  rw [e3]
  have f : ∀ k : Nat, k < 256 → g3 (g2 (g1 k)) ≤ 8 ∧ g3 (g2 (g1 k)) = popF 8 k := fun k hk => ⟨(g_ok ⟨k, hk⟩).2.2.2, g_pop ⟨k, hk⟩⟩
  refine ⟨?_, ?_, ?_⟩
  · simp only [bytes8, List.map_cons, List.map_nil]
    have q0 := f (n % 256) (by omega)
    have q1 := f (n / 256 % 256) (by omega)
    have q2 := f (n / 65536 % 256) (by omega)
    have q3 := f (n / 16777216 % 256) (by omega)
    have q4 := f (n / 4294967296 % 256) (by omega)
    have q5 := f (n / 1099511627776 % 256) (by omega)
    have q6 := f (n / 281474976710656 % 256) (by omega)
    have q7 := f (n / 72057594037927936 % 256) (by omega)
    rw [out_val _ _ _ _ _ _ _ _ q0.1 q1.1 q2.1 q3.1 q4.1 q5.1 q6.1 q7.1, q0.2, q1.2, q2.2, q3.2, q4.2, q5.2, q6.2, q7.2]
    have hp := pop_list (bytes8 n) hb
    rw [hv] at hp
    rw [show 8 * (bytes8 n).length = 64 from rfl] at hp
    rw [hp]
    simp only [bytes8, List.map_cons, List.map_nil, List.sum_cons, List.sum_nil, Nat.add_zero, Nat.add_assoc]
  · have k : ∀ l : List Nat, (∀ a ∈ l, a < 256) → val l < 256 ^ l.length := by
      intro l
      induction l with
      | nil => intro _; decide
      | cons a l ih =>
        intro hl
        have := ih (fun x hx => hl x (by simp [hx]))
        have := hl a (by simp)
        simp only [val, List.length_cons, Nat.pow_succ]
        omega
    have h5 := k _ hb2
    rw [show ((bytes8 n).map g1).length = 8 from rfl] at h5
    exact Nat.lt_of_lt_of_le h5 (by decide)
  · have k : ∀ l : List Nat, (∀ a ∈ l, a ≤ 68) → val l ≤ rep 68 l.length := by
      intro l
      induction l with
      | nil => intro _; exact Nat.le_refl _
      | cons a l ih =>
        intro hl
        have := ih (fun x hx => hl x (by simp [hx]))
        have := hl a (by simp)
        simp only [val, rep, List.length_cons]
        omega
    have := k _ (fun a ha => (hb3 a ha).1)
    have e : rep 68 8 = 4919131752989213764 := by decide
    rw [show (((bytes8 n).map g1).map g2).length = 8 from rfl, e] at this
    exact this
/-- At most one bit is set just if halving while it is even, and more than one, ends below two. -/
def halv : Nat → Nat → Nat
  | 0, n => n
  | f + 1, n => if 1 < n ∧ n % 2 = 0 then halv f (n / 2) else n
theorem popF_pos : ∀ (f n : Nat), 0 < n → n < 2 ^ f → 0 < popF f n
  | 0, n, h, h2 => by omega
  | f + 1, n, h, h2 => by
    simp only [popF]
    by_cases he : n % 2 = 1
    · omega
    · have := popF_pos f (n / 2) (by omega) (by rw [Nat.pow_succ] at h2; omega)
      omega
theorem pop_halv : ∀ (f n : Nat), n < 2 ^ f → (popF f n ≤ 1 ↔ halv f n < 2)
  | 0, n, h => by simp [popF, halv]; omega
  | f + 1, n, h => by
    have h' : n / 2 < 2 ^ f := by rw [Nat.pow_succ] at h; omega
    simp only [popF, halv]
    by_cases hc : 1 < n ∧ n % 2 = 0
    · rw [if_pos hc, ← pop_halv f (n / 2) h']
      omega
    · rw [if_neg hc]
      by_cases h1 : n ≤ 1
      · have : n / 2 = 0 := by omega
        rw [this, popF_zero]
        omega
      · have := popF_pos f (n / 2) (by omega) h'
        omega
/-- 0, or a power of two? -/
def powB (n : Nat) : Bool := decide (popF 64 n ≤ 1)
end Pop
end Go.Proofs.Ytedocnidgiglaaa
namespace Go.Proofs.Ytedocnidgiglaaa
open Go.RowKit
set_option maxHeartbeats 1000000 in
theorem ones_any (n : Nat) (w : World) (hn : n < 18446744073709551616) : Calls Try.prog 96 #[.int .u64 n] w fun e w' => e = .returned (.int .i64 (Pop.popF 64 n : Nat)) ∧ w = w' := by
  have hsw := Pop.swar n hn
  dsimp only at hsw
  have r85 : Pop.rep 85 8 = 6148914691236517205 := by decide
  have r51 : Pop.rep 51 8 = 3689348814741910323 := by decide
  have r15 : Pop.rep 15 8 = 1085102592571150095 := by decide
  rw [r85, r51, r15] at hsw
  have a1 : bits BinOp.and IntKind.u64 ((n : Int) / 2) 6148914691236517205 = ((n / 2 &&& 6148914691236517205 : Nat) : Int) := u64_and_nat (n / 2) 6148914691236517205 (by omega) (by decide)
  have a2 : bits BinOp.and IntKind.u64 (n : Int) 6148914691236517205 = ((n &&& 6148914691236517205 : Nat) : Int) := u64_and_nat n 6148914691236517205 hn (by decide)
  generalize n / 2 &&& 6148914691236517205 = a at *
  generalize n &&& 6148914691236517205 = b at *
  obtain ⟨x, hx⟩ : ∃ x, x = a + b := ⟨_, rfl⟩
  rw [← hx] at hsw
  have a3 : IntKind.u64.wrap ((a : Int) + (b : Int)) = (x : Int) := by rw [IntKind.wrap_u64]; omega
  have a4 : bits BinOp.and IntKind.u64 ((x : Int) / 4) 3689348814741910323 = ((x / 4 &&& 3689348814741910323 : Nat) : Int) := u64_and_nat (x / 4) 3689348814741910323 (by omega) (by decide)
  have a5 : bits BinOp.and IntKind.u64 (x : Int) 3689348814741910323 = ((x &&& 3689348814741910323 : Nat) : Int) := u64_and_nat x 3689348814741910323 hsw.2.1 (by decide)
  generalize x / 4 &&& 3689348814741910323 = c at *
  generalize x &&& 3689348814741910323 = d at *
  obtain ⟨y, hy⟩ : ∃ y, y = c + d := ⟨_, rfl⟩
  rw [← hy] at hsw
  have a6 : IntKind.u64.wrap ((c : Int) + (d : Int)) = (y : Int) := by rw [IntKind.wrap_u64]; omega
  have a7 : IntKind.u64.wrap ((y : Int) / 16 + (y : Int)) = ((y / 16 + y : Nat) : Int) := by rw [IntKind.wrap_u64]; omega
  have a8 : bits BinOp.and IntKind.u64 ((y / 16 + y : Nat) : Int) 1085102592571150095 = (((y / 16 + y) &&& 1085102592571150095 : Nat) : Int) := u64_and_nat (y / 16 + y) 1085102592571150095 (by omega) (by decide)
  have hz : (y / 16 + y) &&& 1085102592571150095 ≤ 1085102592571150095 := Nat.and_le_right
  generalize (y / 16 + y) &&& 1085102592571150095 = z at *
  generalize y / 16 + y = y2 at *
  have ho := hsw.1
  unfold Pop.out at ho
  dsimp only at ho
  obtain ⟨u, hu⟩ : ∃ u, u = z + z / 256 := ⟨_, rfl⟩
  obtain ⟨v, hv⟩ : ∃ v, v = u + u / 65536 := ⟨_, rfl⟩
  obtain ⟨t, ht⟩ : ∃ t, t = v + v / 4294967296 := ⟨_, rfl⟩
  rw [← hu, ← hv, ← ht] at ho
  have a9 : IntKind.u64.wrap ((z : Int) + (z : Int) / 256) = (u : Int) := by rw [IntKind.wrap_u64]; omega
  have a10 : IntKind.u64.wrap ((u : Int) + (u : Int) / 65536) = (v : Int) := by rw [IntKind.wrap_u64]; omega
  have a11 : IntKind.u64.wrap ((v : Int) + (v : Int) / 4294967296) = (t : Int) := by rw [IntKind.wrap_u64]; omega
  have a12 : IntKind.i64.wrap (t : Int) = (t : Int) := by rw [IntKind.wrap_i64]; omega
  have a13 : bits BinOp.and IntKind.i64 (t : Int) 127 = ((t % 128 : Nat) : Int) := i64_and127 t
  rw [ho] at a13
  generalize Pop.popF 64 n = r at *
  clear hsw ho hu hv ht hz hx hy r85 r51 r15 hn
  go_enter Try.func96, Try.ntmps96
  go_wp2
  go_ret
  exact ⟨rfl, rfl⟩
end Go.Proofs.Ytedocnidgiglaaa
namespace Go.Proofs.Ytedocnidgiglaaa
open Go.RowKit Go.Shelf
def lays25_ren : Go.Shelf.Ren := ⟨fun | 25 => 162 | n => n, fun | 22 => 29 | n => n, fun | n => n⟩
theorem lays25 : Go.Proofs.Lays7.n25 Try.prog lays25_ren := {
  mixed := by kernel_rfl
  f25 := Try.func162.trans (congrArg some (by kernel_rfl))
  t22 := Try.underlying29
  a22 := Try.isAgg29
  z22 := Try.sizeOf29
  v22 := Try.zeroValue29
  i22 := by kernel_rfl }
def lo64 (x y : Nat) : Int := (((x + y) % 18446744073709551616 : Nat) : Int)
theorem add64_yes (x y : Nat) (h : x + y < 2 ^ 64) (w : World) : (callFunc 162 #[.int .u64 (x : Int), .int .u64 (y : Int), .int .u64 0]).run Try.prog w = .ok (.value (.tuple #[.int .u64 ((x : Int) + (y : Int)), .int .u64 0])) w := by
  have h0 := Any7.bits_Add64 lays25 x y 0 (by omega) w
  have e1 : (((x + y + 0) % 18446744073709551616 : Nat) : Int) = (x : Int) + (y : Int) := by omega
  have e2 : (((x + y + 0) / 18446744073709551616 : Nat) : Int) = 0 := by omega
  rw [e1, e2] at h0
  exact h0
theorem add64_no (x y : Nat) (h : ¬ x + y < 2 ^ 64) (hx : x < 2 ^ 64) (hy : y < 2 ^ 64) (w : World) : (callFunc 162 #[.int .u64 (x : Int), .int .u64 (y : Int), .int .u64 0]).run Try.prog w = .ok (.value (.tuple #[.int .u64 (lo64 x y), .int .u64 1])) w := by
  have h0 := Any7.bits_Add64 lays25 x y 0 (by omega) w
  have e2 : (((x + y + 0) / 18446744073709551616 : Nat) : Int) = 1 := by omega
  rw [e2] at h0
  exact h0
/-- A sum that stays a number, or 0 and false. -/
def sumOk (l : List Nat) : Bool := decide (l.sum < 2 ^ 64)
def sumN (l : List Nat) : Nat := if l.sum < 2 ^ 64 then l.sum else 0
theorem take_sum_le (l : List Nat) (k : Nat) : (l.take k).sum ≤ l.sum := by
  have h := List.take_append_drop k l
  have h2 : (l.take k ++ l.drop k).sum = l.sum := by rw [h]
  rw [List.sum_append_nat] at h2
  omega
set_option maxRecDepth 100000 in
set_option maxHeartbeats 400000 in
theorem add_any (b n : Nat) (l : List Nat) (w : World) (hl : l.length = n) (hn : n ≤ 1000) (hc : ∀ k (h : k < l.length), w.cell? ⟨b, k, none⟩ = some (.int .u64 (l[k] : Int))) (hlt : ∀ x ∈ l, x < 2 ^ 64) :
    Calls Try.prog 145 #[.slice (some ⟨b, 0, none⟩) n n] w fun e w' => e = .returned (.tuple #[.int .u64 (sumN l : Int), .bool (sumOk l)]) ∧ w = w' := by
  have HC := Lib.hid hc; clear hc
  have HLT := Lib.hid hlt; clear hlt
  have HL := Lib.hid hl; clear hl
  go_enter Try.func145, Try.ntmps145
  go_wp2
  go_loop [4, 6, 7, 8, 11] (fun s _ _ _ i => ∃ k : Nat, k ≤ n ∧ i = .int .i64 k ∧ s = .int .u64 ((l.take k).sum : Nat) ∧ (l.take k).sum < 2 ^ 64) (fun _ _ _ _ i => n - (intOf i).toNat)
  case atStart => exact ⟨0, Nat.zero_le _, rfl, by simp, by simp⟩
  case round =>
    obtain ⟨k, hk, rfl, rfl, hs⟩ := hrel
    by_cases hlt : k < n
    · have hkl : k < l.length := by have := HL.out; omega
      have hcell := HC.out k hkl
      have hx := HLT.out l[k] (List.getElem_mem _)
      have hstep : (l.take (k + 1)).sum = (l.take k).sum + l[k] := by
        rw [List.take_succ_eq_append_getElem hkl, List.sum_append_nat]; simp
      have htot := take_sum_le l (k + 1)
      generalize l[k] = x at *
      generalize (l.take k).sum = S at *
      have HST := Lib.hid hstep; clear hstep
      have hi0 : (0 : Int) ≤ (k : Int) := by omega
      have hi1 : (k : Int) < (n : Int) := by omega
      by_cases hyes : S + x < 2 ^ 64
      · have e1 := add64_yes S x hyes
        have HY := Lib.hid hyes
        clear hs hx htot hyes
        go_wp2
        go_round
        case rel => exact ⟨k + 1, by omega, by go_num, by rw [HST.out]; go_num, by rw [HST.out]; exact HY.out⟩
        case measure => simp [intOf]; omega
      · have e1 := add64_no S x hyes hs hx
        have hfin : sumOk l = false ∧ sumN l = 0 := by
          rw [HST.out] at htot
          have : ¬ l.sum < 2 ^ 64 := by omega
          simp [sumOk, sumN, this]
        have HFIN := Lib.hid hfin
        clear hs hx htot hyes hfin
        go_wp2
        go_ret2
        exact ⟨by rw [HFIN.out.1, HFIN.out.2]; rfl, rfl⟩
    · obtain rfl : k = n := by omega
      have e : l.take k = l := by rw [← HL.out]; simp
      rw [e] at hs ⊢
      have hfin : sumOk l = true ∧ sumN l = l.sum := by simp [sumOk, sumN, hs]
      have HFIN := Lib.hid hfin
      generalize l.sum = T at *
      clear hs hfin
      go_wp2
      go_ret2
      exact ⟨by rw [HFIN.out.1, HFIN.out.2]; rfl, rfl⟩
theorem two_cells (w : World) (x y : Nat) : ∀ k (h : k < [x, y].length), (w.alloc (.cells #[.int .u64 (x : Int), .int .u64 (y : Int)] 29)).cell? ⟨w.heap.size, k, none⟩ = some (.int .u64 (([x, y][k] : Nat) : Int)) := by
  intro k h
  match k, h with
  | 0, _ => simp
  | 1, _ => simp
theorem three_cells (w : World) (x y z : Nat) : ∀ k (h : k < [x, y, z].length), (w.alloc (.cells #[.int .u64 (x : Int), .int .u64 (y : Int), .int .u64 (z : Int)] 29)).cell? ⟨w.heap.size, k, none⟩ = some (.int .u64 (([x, y, z][k] : Nat) : Int)) := by
  intro k h
  match k, h with
  | 0, _ => simp
  | 1, _ => simp
  | 2, _ => simp
theorem add_two (b : Nat) (w : World) (hb : b = w.heap.size) (x y : Nat) (hx : x < 2 ^ 64) (hy : y < 2 ^ 64) :
    Calls Try.prog 145 #[.slice (some ⟨b, 0, none⟩) 2 2] (w.alloc (.cells #[.int .u64 (x : Int), .int .u64 (y : Int)] 29)) fun e w' => e = .returned (.tuple #[.int .u64 (sumN [x, y] : Int), .bool (sumOk [x, y])]) ∧ w.alloc (.cells #[.int .u64 (x : Int), .int .u64 (y : Int)] 29) = w' := by
  subst hb
  exact add_any _ 2 [x, y] _ rfl (by omega) (two_cells w x y) (by simp; omega)
theorem add_three (b : Nat) (w : World) (hb : b = w.heap.size) (x y z : Nat) (hx : x < 2 ^ 64) (hy : y < 2 ^ 64) (hz : z < 2 ^ 64) :
    Calls Try.prog 145 #[.slice (some ⟨b, 0, none⟩) 3 3] (w.alloc (.cells #[.int .u64 (x : Int), .int .u64 (y : Int), .int .u64 (z : Int)] 29)) fun e w' => e = .returned (.tuple #[.int .u64 (sumN [x, y, z] : Int), .bool (sumOk [x, y, z])]) ∧ w.alloc (.cells #[.int .u64 (x : Int), .int .u64 (y : Int), .int .u64 (z : Int)] 29) = w' := by
  subst hb
  exact add_any _ 3 [x, y, z] _ rfl (by omega) (three_cells w x y z) (by simp; omega)
set_option maxHeartbeats 400000 in
theorem end_any (x y : Nat) (w : World) (hx : x < 2 ^ 64) (hy : y < 2 ^ 64) :
    Calls Try.prog 126 #[.agg #[.int .u64 (x : Int), .int .u64 (y : Int)]] w fun e w' => e = .returned (.tuple #[.int .u64 (sumN [x, y] : Int), .bool (sumOk [x, y])]) ∧ Below w.heap.size w w' := by
  have hc := fun b W hb => add_two b W hb x y hx hy
  generalize sumN [x, y] = s at *
  generalize sumOk [x, y] = o at *
  have HC := Lib.hid hc
  clear hx hy hc
  go_enter Try.func126, Try.ntmps126
  go_wp2_with fail
  refine (HC.out _ _ (by simp)).mono ?_
  rintro e w' ⟨rfl, rfl⟩
  go_wp2
  go_ret2
  exact ⟨rfl, ((Below.refl _ _).alloc (Nat.le_refl _) _).alloc (by simp) _⟩
theorem bcell {W w1 : World} (hb : Below W.heap.size W w1) : (∀ b o, b < W.heap.size → w1.cell? ⟨b, o, none⟩ = W.cell? ⟨b, o, none⟩) ∧ (∀ b o, b < W.heap.size → w1.frozen? ⟨b, o, none⟩ = W.frozen? ⟨b, o, none⟩) :=
  ⟨fun b o h => hb.cell (p := ⟨b, o, none⟩) h, fun b o h => hb.frozen (p := ⟨b, o, none⟩) h⟩
/-- Is the span within so many bytes? -/
def inB (x y size : Nat) : Bool := decide (x + y ≤ size)
set_option maxHeartbeats 400000 in
theorem in_any (x y size : Nat) (w : World) (hx : x < 2 ^ 64) (hy : y < 2 ^ 64) (hs : size < 2 ^ 64) :
    Calls Try.prog 97 #[.agg #[.int .u64 (x : Int), .int .u64 (y : Int)], .int .u64 (size : Int)] w fun e w' => e = .returned (.bool (inB x y size)) ∧ Below w.heap.size w w' := by
  have hc := fun W => end_any x y W hx hy
  have hcase : (sumOk [x, y] = true ∧ decide (sumN [x, y] ≤ size) = inB x y size) ∨ (sumOk [x, y] = false ∧ inB x y size = false) := by
    unfold sumOk sumN inB
    by_cases h : x + y < 2 ^ 64
    · left; simp [h]
    · right; simp [h]; omega
  generalize sumN [x, y] = s at *
  generalize sumOk [x, y] = o at *
  generalize inB x y size = r at *
  clear hx hy hs
  have HC := Lib.hid hc
  clear hc
  rcases hcase with ⟨rfl, h2⟩ | ⟨rfl, rfl⟩
  · go_enter Try.func97, Try.ntmps97
    go_wp2_with fail
    refine (HC.out _).mono ?_
    rintro e w' ⟨rfl, hb⟩
    go_wp2
    go_ret
    exact ⟨rfl, ((Below.refl _ _).alloc (Nat.le_refl _) _).trans (hb.mono (by simp))⟩
  · go_enter Try.func97, Try.ntmps97
    go_wp2_with fail
    refine (HC.out _).mono ?_
    rintro e w' ⟨rfl, hb⟩
    go_wp2
    go_ret
    exact ⟨rfl, ((Below.refl _ _).alloc (Nat.le_refl _) _).trans (hb.mono (by simp))⟩
theorem ext_ext (t : ByteArray) (x y : Nat) (h : x + y ≤ t.size) : (t.extract x t.size).extract 0 y = t.extract x (x + y) := by
  apply ByteArray.ext
  simp [ByteArray.data_extract, Array.extract_extract]
  congr 1
  have : t.data.size = t.size := rfl
  omega
set_option maxHeartbeats 400000 in
theorem part_yes (x y : Nat) (t : ByteArray) (w : World) (hx : x < 2 ^ 64) (hy : y < 2 ^ 64) (ht : t.size ≤ maxLen) (h : x + y ≤ t.size) :
    Calls Try.prog 61 #[.agg #[.int .u64 (x : Int), .int .u64 (y : Int)], .string t] w fun e w' => e = .returned (.tuple #[.string (t.extract x (x + y)), .bool true]) ∧ Below w.heap.size w w' := by
  unfold maxLen at ht
  have hc := fun W => in_any x y t.size W hx hy (by omega)
  have hr : inB x y t.size = true := by simp [inB, h]
  rw [hr] at hc
  have hw : IntKind.u64.wrap (t.size : Int) = (t.size : Int) := by rw [IntKind.wrap_u64]; omega
  have HC := Lib.hid hc
  have HT := Lib.hid ht
  clear hx hy hc ht hr
  go_enter Try.func61, Try.ntmps61
  go_wp2_with fail
  refine (HC.out _).mono ?_
  rintro e w' ⟨rfl, hb⟩
  have c0 : w'.cell? ⟨w.heap.size, 0, none⟩ = some (.int .u64 (x : Int)) := by rw [hb.cell (by simp)]; simp
  have c1 : w'.cell? ⟨w.heap.size, 1, none⟩ = some (.int .u64 (y : Int)) := by rw [hb.cell (by simp)]; simp
  have i0 : (0 : Int) ≤ (x : Int) := by omega
  have i1 : (x : Int) ≤ (t.size : Int) := by omega
  have i2 : (0 : Int) ≤ (y : Int) := by omega
  have i3 : (y : Int) ≤ (t.size : Int) - (x : Int) := by omega
  have i4 : y ≤ t.size - x := by omega
  clear hw
  go_wp2_with fail
  go_quiet (fail)
  rw [ext_ext t x y h]
  go_wp2
  go_ret2
  exact ⟨rfl, below_drewN (((Below.refl _ _).alloc (Nat.le_refl _) _).trans (hb.mono (by simp))) _⟩
set_option maxHeartbeats 400000 in
theorem part_no (x y : Nat) (t : ByteArray) (w : World) (hx : x < 2 ^ 64) (hy : y < 2 ^ 64) (ht : t.size ≤ maxLen) (h : ¬ x + y ≤ t.size) :
    Calls Try.prog 61 #[.agg #[.int .u64 (x : Int), .int .u64 (y : Int)], .string t] w fun e w' => e = .returned (.tuple #[.string ⟨#[]⟩, .bool false]) ∧ Below w.heap.size w w' := by
  unfold maxLen at ht
  have hc := fun W => in_any x y t.size W hx hy (by omega)
  have hr : inB x y t.size = false := by simp [inB]; omega
  rw [hr] at hc
  have hw : IntKind.u64.wrap (t.size : Int) = (t.size : Int) := by rw [IntKind.wrap_u64]; omega
  have HC := Lib.hid hc
  clear hx hy hc ht hr h
  go_enter Try.func61, Try.ntmps61
  go_wp2_with fail
  refine (HC.out _).mono ?_
  rintro e w' ⟨rfl, hb⟩
  clear hw
  go_wp2
  go_ret2
  exact ⟨rfl, ((Below.refl _ _).alloc (Nat.le_refl _) _).trans (hb.mono (by simp))⟩
end Go.Proofs.Ytedocnidgiglaaa
