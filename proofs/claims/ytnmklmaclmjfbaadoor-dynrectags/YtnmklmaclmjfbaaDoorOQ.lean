/- The contract of order.Fields. Conditions: those written in each theorem. -/
import Derived.Test.YtnmklmaclmjfbaaDoorOP
import Derived.Test.YtnmklmaclmjfbaaDoorOE
namespace Go.Proofs.YtnmklmaclmjfbaaDoor
open Go.RowKit
/-- Slices of ints and of numbers that can be read. -/
def RowI (w : World) (a : Option Addr) (len : Nat) (zs : List Int) : Prop :=
  ∀ k, k < len → ∃ b off, a = some ⟨b, off, none⟩ ∧ b < w.heap.size ∧ w.cell? ⟨b, off + k, none⟩ = some (.int .i64 (zs.getD k 0))
def RowN (w : World) (a : Option Addr) (len : Nat) (ns : List Nat) : Prop :=
  ∀ k, k < len → ∃ b off, a = some ⟨b, off, none⟩ ∧ b < w.heap.size ∧ w.cell? ⟨b, off + k, none⟩ = some (.int .u64 (ns.getD k 0 : Nat)) ∧ ns.getD k 0 < 2 ^ 64
/-- The bytes of the first k fields. -/
def fieldsL (big : Bool) (zs : List Int) (ns : List Nat) : Nat → List UInt8
  | 0 => []
  | k + 1 => fieldsL big zs ns k ++ Num.putL big (ns.getD k 0) (zs.getD k 0)
theorem putL_le (big : Bool) (n : Nat) (x : Int) : (Num.putL big n x).length ≤ 8 := by
  unfold Num.putL
  split
  · cases big <;> simp [Num.leB_length] <;> omega
  · simp
theorem fieldsL_le (big : Bool) (zs : List Int) (ns : List Nat) (k : Nat) : (fieldsL big zs ns k).length ≤ 8 * k := by
  induction k with
  | zero => simp [fieldsL]
  | succ k ih => have := putL_le big (ns.getD k 0) (zs.getD k 0); simp [fieldsL] at *; omega
theorem keep3 {B : Nat} {W W' : World} (h : Below B W W') {p q r : Addr} {u v x : Value} (hp : p.block < B) (hq : q.block < B) (hr : r.block < B) (cp : W.cell? p = some u) (cq : W.cell? q = some v) (cr : W.cell? r = some x) :
    W'.cell? p = some u ∧ W'.cell? q = some v ∧ W'.cell? r = some x := ⟨(h.cell hp).trans cp, (h.cell hq).trans cq, (h.cell hr).trans cr⟩
theorem below_drewn {w w' : World} (h : Below w.drew.heap.size w.drew w') : Below w.heap.size w w' := ((Below.refl w.heap.size w).drew).trans h
theorem ownsRow_kept {W W' : World} {base : Nat} {e : TypeId} {size : Nat} {v : Value} {n : Nat} {xs : List Value} (h : W.ownsRow base e size v n xs) (hb : Below W.heap.size W W') : W'.ownsRow base e size v n xs := by
  refine ⟨h.1, ?_⟩
  rcases h.2 with h' | ⟨g, cap, cur, hv, hB, hg, r⟩
  · exact .inl h'
  · refine .inr ⟨g, cap, cur, hv, hB, ?_, r⟩
    rw [hb.block g (Array.getElem?_eq_some_iff.1 hg).1]
    exact hg
theorem builderAt_kept {B b : Nat} {p : Value} {bs : List Value} {W W' : World} (h : Lib.BuilderAt 66 5 B b p bs W) (hb : Below W.heap.size W W') : Lib.BuilderAt 66 5 B b p bs W' := by
  obtain ⟨hB, v, hbk, hown, hne⟩ := h
  refine ⟨hB, v, ?_, ownsRow_kept hown hb, hne⟩
  rw [hb.block b (Array.getElem?_eq_some_iff.1 hbk).1]
  exact hbk
theorem isBuilder_kept {B b : Nat} {bs : List Value} {W W' : World} (h : Lib.IsBuilder 66 5 B b bs W) (hb : Below W.heap.size W W') : Lib.IsBuilder 66 5 B b bs W' :=
  h.elim (fun x => .inl (builderAt_kept x hb)) (fun x => .inr (builderAt_kept x hb))
set_option maxRecDepth 100000 in
set_option maxHeartbeats 1000000 in
theorem fields_any (big : Bool) (a1 a2 : Option Addr) (l1 c1 l2 c2 : Nat) (zs : List Int) (ns : List Nat) (w : World) (h1 : l1 ≤ 20) (h2 : l2 ≤ 20) (r1 : RowI w a1 l1 zs) (r2 : RowN w a2 l2 ns) :
    Calls Tryd.prog 42 #[.agg #[.bool big], .slice a1 l1 c1, .slice a2 l2 c2] w fun e w' => e = .returned (.string ⟨(fieldsL big zs ns (min l1 l2)).toArray⟩) ∧ Below w.heap.size w w' := by
  have R1 := Lib.hid r1; clear r1
  have R2 := Lib.hid r2; clear r2
  obtain ⟨l, hl⟩ : ∃ l, l = min l1 l2 := ⟨_, rfl⟩
  rw [← hl]
  have hmn : (l1 ≤ l2 ∧ l = l1) ∨ (l2 < l1 ∧ l = l2) := by omega
  clear hl
  rcases hmn with ⟨hm, rfl⟩ | ⟨hm, rfl⟩
  · go_enter Tryd.func42, Tryd.ntmps42
    go_wp2
    go_loopw [8, 14] (fun _ i wr => ∃ k : Nat, k ≤ l ∧ i = .int .i64 k ∧ wr.cell? ⟨w.heap.size, 0, none⟩ = some (.bool big) ∧ Lib.IsBuilder 66 5 (w.heap.size + 1) (w.heap.size + 1) (Lib.byteCells (fieldsL big zs ns k)) wr ∧ w.heap.size + 1 < wr.heap.size ∧ Below w.heap.size w wr) (fun _ i _ => l - (intOf i).toNat)
    case atStart =>
      refine ⟨0, Nat.zero_le _, rfl, by simp, .inl ⟨Nat.le_refl _, .slice none 0 0, ?_, World.ownsRow_nil _ _ _ _, by simp [Value.ownBlock]⟩, by simp, ((Below.refl _ _).alloc (Nat.le_refl _) _).alloc (by simp) _⟩
      exact two_new _ _ _
    case round =>
      obtain ⟨k, hk, rfl, hbox, hB, hsz, hg⟩ := hrel
      by_cases hlt : k < l
      · obtain ⟨b1, off1, rfl, hb1, hc1⟩ := R1.out k (by omega)
        obtain ⟨b2, off2, rfl, hb2, hc2, hn2⟩ := R2.out k (by omega)
        have hc1w : wr.cell? ⟨b1, off1 + k, none⟩ = some (.int .i64 (zs.getD k 0)) := by rw [hg.cell (by exact hb1)]; exact hc1
        have hc2w : wr.cell? ⟨b2, off2 + k, none⟩ = some (.int .u64 (ns.getD k 0 : Nat)) := by rw [hg.cell (by exact hb2)]; exact hc2
        clear hc1 hc2
        have hstep : fieldsL big zs ns (k + 1) = fieldsL big zs ns k ++ Num.putL big (ns.getD k 0) (zs.getD k 0) := rfl
        have hle := fieldsL_le big zs ns k
        have hle2 := putL_le big (ns.getD k 0) (zs.getD k 0)
        generalize zs.getD k 0 = x at *
        generalize ns.getD k 0 = y at *
        have HST := Lib.hid hstep; clear hstep
        have HN := Lib.hid hn2; clear hn2
        have HB := Lib.hid hB; clear hB
        have hi0 : (0 : Int) ≤ (k : Int) := by omega
        have hi1 : (k : Int) < (l : Int) := by omega
        have hi2 : (k : Int) < (l2 : Int) := by omega
        have hws := hg.size
        go_wp2
        go_region_held3 (fun w' => w'.cell? ⟨w.heap.size, 0, none⟩ = some (.bool big) ∧ w'.cell? ⟨b1, off1 + k, none⟩ = some (.int .i64 x) ∧ w'.cell? ⟨b2, off2 + k, none⟩ = some (.int .u64 y)) (first | go_keep | exact keep1 | exact keep2) (first | (go_at_call 53; refine (put_any big y x _ HN.out).mono ?_; rintro e wp ⟨rfl, hBp0⟩; have hBp := below_drewn hBp0; clear hBp0; have keep1 := keep3 hBp (by simp; omega) (by simp; omega) (by simp; omega) hbox hc1w hc2w) | (go_at_call 19; refine (writeString_any (w.heap.size + 1) (w.heap.size + 1) (Lib.byteCells (fieldsL big zs ns k)) _ _ ?_ ?_ ?_).mono ?_; exact isBuilder_kept HB.out hBp; (simp [Lib.byteCells_length, ByteArray.size]; omega); (have := hBp.size; omega); rintro e wq ⟨rfl, hAq, hBq⟩; have keep2 := keep3 hBq (by simp) (by simp; omega) (by simp; omega) keep1.1 keep1.2.1 keep1.2.2))
        have hAq' : Lib.IsBuilder 66 5 (w.heap.size + 1) (w.heap.size + 1) (Lib.byteCells (fieldsL big zs ns (k + 1))) wq := by
          rw [HST.out, Lib.byteCells_append]; exact .inr hAq
        have hgq : Below w.heap.size w wq := (hg.trans (hBp.mono hws)).trans (hBq.mono (by omega))
        have hsq : w.heap.size + 1 < wq.heap.size := by have := hBp.size; have := hBq.size; omega
        have HQ := Lib.hid hAq'; clear hAq' hAq hBq
        have HK := Lib.hid keep2.1; clear keep2 keep1
        go_wp2
        go_roundw
        case rel => exact ⟨k + 1, by omega, by go_num, HK.out, HQ.out, hsq, hgq⟩
        case measure => simp [intOf]; omega
      · obtain rfl : k = l := by omega
        go_wp2_with (go_at_call 20; refine (Tryd.Builder_String_any (w.heap.size + 1) (w.heap.size + 1) _ _ hB (by omega)).mono ?_; rintro e wq ⟨rfl, hBq⟩)
        go_ret
        exact ⟨rfl, hg.trans (hBq.mono (by omega))⟩
  · go_enter Tryd.func42, Tryd.ntmps42
    go_wp2
    go_loopw [8, 14] (fun _ i wr => ∃ k : Nat, k ≤ l ∧ i = .int .i64 k ∧ wr.cell? ⟨w.heap.size, 0, none⟩ = some (.bool big) ∧ Lib.IsBuilder 66 5 (w.heap.size + 1) (w.heap.size + 1) (Lib.byteCells (fieldsL big zs ns k)) wr ∧ w.heap.size + 1 < wr.heap.size ∧ Below w.heap.size w wr) (fun _ i _ => l - (intOf i).toNat)
    case atStart =>
      refine ⟨0, Nat.zero_le _, rfl, by simp, .inl ⟨Nat.le_refl _, .slice none 0 0, ?_, World.ownsRow_nil _ _ _ _, by simp [Value.ownBlock]⟩, by simp, ((Below.refl _ _).alloc (Nat.le_refl _) _).alloc (by simp) _⟩
      exact two_new _ _ _
    case round =>
      obtain ⟨k, hk, rfl, hbox, hB, hsz, hg⟩ := hrel
      by_cases hlt : k < l
      · obtain ⟨b1, off1, rfl, hb1, hc1⟩ := R1.out k (by omega)
        obtain ⟨b2, off2, rfl, hb2, hc2, hn2⟩ := R2.out k (by omega)
        have hc1w : wr.cell? ⟨b1, off1 + k, none⟩ = some (.int .i64 (zs.getD k 0)) := by rw [hg.cell (by exact hb1)]; exact hc1
        have hc2w : wr.cell? ⟨b2, off2 + k, none⟩ = some (.int .u64 (ns.getD k 0 : Nat)) := by rw [hg.cell (by exact hb2)]; exact hc2
        clear hc1 hc2
        have hstep : fieldsL big zs ns (k + 1) = fieldsL big zs ns k ++ Num.putL big (ns.getD k 0) (zs.getD k 0) := rfl
        have hle := fieldsL_le big zs ns k
        have hle2 := putL_le big (ns.getD k 0) (zs.getD k 0)
        generalize zs.getD k 0 = x at *
        generalize ns.getD k 0 = y at *
        have HST := Lib.hid hstep; clear hstep
        have HN := Lib.hid hn2; clear hn2
        have HB := Lib.hid hB; clear hB
        have hi0 : (0 : Int) ≤ (k : Int) := by omega
        have hi1 : (k : Int) < (l1 : Int) := by omega
        have hi2 : (k : Int) < (l : Int) := by omega
        have hws := hg.size
        go_wp2
        go_region_held3 (fun w' => w'.cell? ⟨w.heap.size, 0, none⟩ = some (.bool big) ∧ w'.cell? ⟨b1, off1 + k, none⟩ = some (.int .i64 x) ∧ w'.cell? ⟨b2, off2 + k, none⟩ = some (.int .u64 y)) (first | go_keep | exact keep1 | exact keep2) (first | (go_at_call 53; refine (put_any big y x _ HN.out).mono ?_; rintro e wp ⟨rfl, hBp0⟩; have hBp := below_drewn hBp0; clear hBp0; have keep1 := keep3 hBp (by simp; omega) (by simp; omega) (by simp; omega) hbox hc1w hc2w) | (go_at_call 19; refine (writeString_any (w.heap.size + 1) (w.heap.size + 1) (Lib.byteCells (fieldsL big zs ns k)) _ _ ?_ ?_ ?_).mono ?_; exact isBuilder_kept HB.out hBp; (simp [Lib.byteCells_length, ByteArray.size]; omega); (have := hBp.size; omega); rintro e wq ⟨rfl, hAq, hBq⟩; have keep2 := keep3 hBq (by simp) (by simp; omega) (by simp; omega) keep1.1 keep1.2.1 keep1.2.2))
        have hAq' : Lib.IsBuilder 66 5 (w.heap.size + 1) (w.heap.size + 1) (Lib.byteCells (fieldsL big zs ns (k + 1))) wq := by
          rw [HST.out, Lib.byteCells_append]; exact .inr hAq
        have hgq : Below w.heap.size w wq := (hg.trans (hBp.mono hws)).trans (hBq.mono (by omega))
        have hsq : w.heap.size + 1 < wq.heap.size := by have := hBp.size; have := hBq.size; omega
        have HQ := Lib.hid hAq'; clear hAq' hAq hBq
        have HK := Lib.hid keep2.1; clear keep2 keep1
        go_wp2
        go_roundw
        case rel => exact ⟨k + 1, by omega, by go_num, HK.out, HQ.out, hsq, hgq⟩
        case measure => simp [intOf]; omega
      · obtain rfl : k = l := by omega
        go_wp2_with (go_at_call 20; refine (Tryd.Builder_String_any (w.heap.size + 1) (w.heap.size + 1) _ _ hB (by omega)).mono ?_; rintro e wq ⟨rfl, hBq⟩)
        go_ret
        exact ⟨rfl, hg.trans (hBq.mono (by omega))⟩
end Go.Proofs.YtnmklmaclmjfbaaDoor
