/- Rows of relocations, and the contract of relrec's PutAll. Conditions: those written in each theorem. -/
import Derived.Laws.CopyOwn
import Derived.Laws.Tables
import Derived.Test.YtddlflabdlgnbaaXL
import Derived.Test.YtddlflabdlgnbaaOP
import Derived.OwnWalk
import Derived.Deep.CutBlock
import Derived.Deep.DeepCutAuto
namespace Go.Proofs.Ytddlflabdlgnbaa
open Go.RowKit
/-- A relocation's numbers: offset, symbol, type, addend. -/
structure Rl where
  off : Nat
  sym : Nat
  ty : Nat
  add : Nat
instance : Inhabited Rl := ⟨⟨0, 0, 0, 0⟩⟩
/-- n relocations stand one behind the other where a slice begins. -/
def RowR (w : World) (A : Option Addr) (n : Nat) (R : Nat → Rl) : Prop := ∀ i, i < n → ∃ b o, A = some ⟨b, o, none⟩ ∧ b < w.heap.size ∧
  w.cell? ⟨b, o + i * 4, none⟩ = some (.int .u64 ((R i).off : Nat)) ∧ w.cell? ⟨b, o + i * 4 + 1, none⟩ = some (.int .u64 ((R i).sym : Nat)) ∧
  w.cell? ⟨b, o + i * 4 + 2, none⟩ = some (.int .u64 ((R i).ty : Nat)) ∧ w.cell? ⟨b, o + i * 4 + 3, none⟩ = some (.int .u64 ((R i).add : Nat))
theorem RowR.low {w w' : World} {A : Option Addr} {n : Nat} {R : Nat → Rl} (h : RowR w A n R) (hb : Below w.heap.size w w') : RowR w' A n R := fun i hi => by
  obtain ⟨b, o, e, hl, h0, h1, h2, h3⟩ := h i hi
  exact ⟨b, o, e, Nat.lt_of_lt_of_le hl hb.size, (hb.cell (p := ⟨b, _, none⟩) hl).trans h0, (hb.cell (p := ⟨b, _, none⟩) hl).trans h1, (hb.cell (p := ⟨b, _, none⟩) hl).trans h2, (hb.cell (p := ⟨b, _, none⟩) hl).trans h3⟩
/-- The first k texts, one behind the other. -/
def catR (S : Nat → ByteArray) : Nat → List UInt8
  | 0 => []
  | k + 1 => catR S k ++ (S k).data.toList
theorem catR_len (S : Nat → ByteArray) (M : Nat) : ∀ (k : Nat), (∀ i, i < k → (S i).size ≤ M) → (catR S k).length ≤ k * M
  | 0, _ => by simp [catR]
  | k + 1, h => by
    have := catR_len S M k (fun i hi => h i (by omega))
    have h2 := h k (by omega)
    have e : (k + 1) * M = k * M + M := Nat.succ_mul _ _
    have e2 : (S k).data.toList.length = (S k).size := by simp
    simp only [catR, List.length_append]
    omega
theorem catR_congr {S S' : Nat → ByteArray} : ∀ (k : Nat), (∀ i, i < k → S i = S' i) → catR S k = catR S' k
  | 0, _ => rfl
  | k + 1, h => by
    simp only [catR]
    rw [catR_congr k (fun i hi => h i (by omega)), h k (by omega)]
def allOk (ok : Nat → Bool) (k : Nat) : Bool := (List.range k).all ok
theorem allOk_succ (ok : Nat → Bool) (k : Nat) : allOk ok (k + 1) = (allOk ok k && ok k) := by
  unfold allOk
  rw [List.range_succ, List.all_append]
  simp
theorem allOk_false {ok : Nat → Bool} {k n : Nat} (hk : k < n) (h : ok k = false) : allOk ok n = false := by
  unfold allOk
  rw [List.all_eq_false]
  exact ⟨k, List.mem_range.2 hk, by simp [h]⟩
/-- What PutAll answers. -/
def putV (S : Nat → ByteArray) (ok : Nat → Bool) (n : Nat) : Value := if allOk ok n then .tuple #[.string ⟨(catR S n).toArray⟩, .bool true] else .tuple #[.string ⟨#[]⟩, .bool false]
theorem below_mk2 {B : Nat} {w w' : World} (h : Below B w w') (hB : B ≤ w'.heap.size) (o : Obj) : Below B w (w'.alloc o) := h.alloc hB o
theorem own_stay {w w' : World} {B e size n : Nat} {v : Value} {xs : List Value} (h : w.ownsRow B e size v n xs) (hb : Below w.heap.size w w') : w'.ownsRow B e size v n xs := by
  refine ⟨h.1, ?_⟩
  rcases h.2 with h1 | ⟨g, cap, cur, h1, h2, h3, h4⟩
  · exact .inl h1
  · have hlt := (Array.getElem?_eq_some_iff.1 h3).1
    exact .inr ⟨g, cap, cur, h1, h2, by rw [hb.block g hlt]; exact h3, h4⟩
theorem builder_stay {T e : TypeId} {B b : Nat} {bs : List Value} {w w' : World} (h : Lib.IsBuilder T e B b bs w) (hb : Below w.heap.size w w') : Lib.IsBuilder T e B b bs w' := by
  have one : ∀ p, Lib.BuilderAt T e B b p bs w → Lib.BuilderAt T e B b p bs w' := fun p h => by
    have hlt := h.lt
    obtain ⟨h1, v, h2, h3, h4⟩ := h
    exact ⟨h1, v, by rw [hb.block b hlt]; exact h2, own_stay h3 hb, h4⟩
  rcases h with h | h
  · exact .inl (one _ h)
  · exact .inr (one _ h)
theorem strCells_is (s : ByteArray) : Lib.strCells s = Lib.byteCells s.data.toList := rfl
set_option maxRecDepth 100000 in
set_option maxHeartbeats 2000000 in
theorem putAll_any (big wide a : Bool) (A : Option Addr) (cap n : Nat) (R : Nat → Rl) (S : Nat → ByteArray) (ok : Nat → Bool) (hn : n ≤ 20) (hS : ∀ i, i < n → (S i).size ≤ 24)
    (hput : ∀ i, i < n → ∀ w, Calls Try.prog 23 #[.agg #[.bool big, .bool wide], .bool a, .agg #[.int .u64 ((R i).off : Nat), .int .u64 ((R i).sym : Nat), .int .u64 ((R i).ty : Nat), .int .u64 ((R i).add : Nat)]] w fun e w' => e = .returned (.tuple #[.string (S i), .bool (ok i)]) ∧ Below w.heap.size w w')
    (w : World) (hR : RowR w A n R) : Calls Try.prog 29 #[.agg #[.bool big, .bool wide], .bool a, .slice A n cap] w fun e w' => e = .returned (putV S ok n) ∧ Below w.heap.size w w' := by
  have HS := Lib.hid hS; have HP := Lib.hid hput; have HR := Lib.hid hR; clear hS hput hR
  have hBx : Below w.heap.size w (w.alloc (.cells #[.bool big, .bool wide] 46)) := (Below.refl _ _).alloc (Nat.le_refl _) _
  have hf0 : (w.alloc (.cells #[.bool big, .bool wide] 46)).cell? ⟨w.heap.size, 0, none⟩ = some (.bool big) := by simp
  have hf1 : (w.alloc (.cells #[.bool big, .bool wide] 46)).cell? ⟨w.heap.size, 1, none⟩ = some (.bool wide) := by simp
  have hz : w.heap.size < (w.alloc (.cells #[.bool big, .bool wide] 46)).heap.size := by simp
  go_enter Try.func29, Try.ntmps29
  go_upto_region 1 with (fail)
  generalize (w.alloc (.cells #[.bool big, .bool wide] 46)) = W1 at *
  have hbld : Lib.IsBuilder 124 5 W1.heap.size W1.heap.size (Lib.byteCells []) (W1.alloc (.cells #[.pointer none, .slice none 0 0] 124)) := .inl ⟨Nat.le_refl _, .slice none 0 0, heap_alloc_new _ _, World.ownsRow_nil _ _ _ _, by simp [Value.ownBlock]⟩
  have hB1 : Below W1.heap.size W1 (W1.alloc (.cells #[.pointer none, .slice none 0 0] 124)) := (Below.refl _ _).alloc (Nat.le_refl _) _
  have HBX := Lib.hid hBx
  have HBLD := Lib.hid hbld; have HB1 := Lib.hid hB1
  have HF0 : Hid (∀ u, Below W1.heap.size W1 u → u.cell? ⟨w.heap.size, 0, none⟩ = some (.bool big)) := Lib.hid (fun u h => (h.cell (by exact hz)).trans hf0)
  have HF1 : Hid (∀ u, Below W1.heap.size W1 u → u.cell? ⟨w.heap.size, 1, none⟩ = some (.bool wide)) := Lib.hid (fun u h => (h.cell (by exact hz)).trans hf1)
  have HE : Hid (∀ u, Below W1.heap.size W1 u → Below w.heap.size w u) := Lib.hid (fun u h => HBX.out.trans (h.mono HBX.out.size))
  clear hbld hB1 hf0 hf1 hBx
  go_upto_block 0 with (fail)
  generalize (W1.alloc (.cells #[.pointer none, .slice none 0 0] 124)) = W2 at *
  go_wp2
  go_loopw [15] (fun i wr => ∃ k : Nat, k ≤ n ∧ i = .int .i64 (k : Int) ∧ allOk ok k = true ∧ Lib.IsBuilder 124 5 W1.heap.size W1.heap.size (Lib.byteCells (catR S k)) wr ∧ Below W1.heap.size W1 wr) (fun i _ => n - (intOf i).toNat)
  case atStart => exact ⟨0, Nat.zero_le _, rfl, rfl, HBLD.out, HB1.out⟩
  case round =>
    obtain ⟨k, hk, rfl, hok, hbd, hB⟩ := hrel
    have HOK := Lib.hid hok; have HBD := Lib.hid hbd; have HB := Lib.hid hB; clear hok hbd hB
    by_cases hlt : k < n
    · have f0 := HF0.out _ HB.out
      have f1 := HF1.out _ HB.out
      have hwr := HE.out _ HB.out
      obtain ⟨b, o, rfl, hbl, hc0, hc1, hc2, hc3⟩ := HR.out.low hwr k hlt
      have hsk := HS.out k hlt
      have hcl := catR_len S 24 k (fun i hi => HS.out i (by omega))
      have HPK := Lib.hid (fun u => HP.out k hlt u)
      have hsucc : allOk ok (k + 1) = (allOk ok k && ok k) := allOk_succ ok k
      rw [HOK.out, Bool.true_and] at hsucc
      have HSU := Lib.hid hsucc
      have hcat : catR S (k + 1) = catR S k ++ (S k).data.toList := rfl
      have HCAT := Lib.hid hcat
      have HNO : Hid (ok k = false → putV S ok n = .tuple #[.string ⟨#[]⟩, .bool false]) := Lib.hid (fun h => by unfold putV; rw [allOk_false hlt h]; rfl)
      clear hsucc hcat hwr
      generalize R k = r at *
      obtain ⟨ro, rs, rt, ra⟩ := r
      generalize ok k = okk at *
      generalize S k = sk at *
      have k0 : (0 : Int) ≤ (k : Int) := by omega
      have k1 : (k : Int) < (n : Int) := by omega
      have k2 : k + 1 ≤ 1048576 := by omega
      go_upto_region 5 with (fail)
      have h0 : ∀ o, (wr.alloc o).cell? ⟨w.heap.size, 0, none⟩ = some (.bool big) := fun o => HF0.out _ (below_mk2 HB.out HB.out.size o)
      have h1 : ∀ o, (wr.alloc o).cell? ⟨w.heap.size, 1, none⟩ = some (.bool wide) := fun o => HF1.out _ (below_mk2 HB.out HB.out.size o)
      have e0 : (wr.alloc (.cells #[.int .u64 (ro : Nat), .int .u64 (rs : Nat), .int .u64 (rt : Nat), .int .u64 (ra : Nat)] 49)).cell? ⟨w.heap.size, 0, none⟩ = some (.bool big) := h0 _
      have e1 : (wr.alloc (.cells #[.int .u64 (ro : Nat), .int .u64 (rs : Nat), .int .u64 (rt : Nat), .int .u64 (ra : Nat)] 49)).cell? ⟨w.heap.size, 1, none⟩ = some (.bool wide) := h1 _
      have x0 : (wr.alloc (.cells #[.int .u64 (ro : Nat), .int .u64 (rs : Nat), .int .u64 (rt : Nat), .int .u64 (ra : Nat)] 49)).cell? ⟨wr.heap.size, 0, none⟩ = some (.int .u64 (ro : Nat)) := by rw [Lib.cell_of_heap (heap_alloc_new wr _)]; rfl
      have x1 : (wr.alloc (.cells #[.int .u64 (ro : Nat), .int .u64 (rs : Nat), .int .u64 (rt : Nat), .int .u64 (ra : Nat)] 49)).cell? ⟨wr.heap.size, 1, none⟩ = some (.int .u64 (rs : Nat)) := by rw [Lib.cell_of_heap (heap_alloc_new wr _)]; rfl
      have x2 : (wr.alloc (.cells #[.int .u64 (ro : Nat), .int .u64 (rs : Nat), .int .u64 (rt : Nat), .int .u64 (ra : Nat)] 49)).cell? ⟨wr.heap.size, 2, none⟩ = some (.int .u64 (rt : Nat)) := by rw [Lib.cell_of_heap (heap_alloc_new wr _)]; rfl
      have x3 : (wr.alloc (.cells #[.int .u64 (ro : Nat), .int .u64 (rs : Nat), .int .u64 (rt : Nat), .int .u64 (ra : Nat)] 49)).cell? ⟨wr.heap.size, 3, none⟩ = some (.int .u64 (ra : Nat)) := by rw [Lib.cell_of_heap (heap_alloc_new wr _)]; rfl
      have hB3 := below_mk2 HB.out HB.out.size (.cells #[.int .u64 (ro : Nat), .int .u64 (rs : Nat), .int .u64 (rt : Nat), .int .u64 (ra : Nat)] 49)
      have hbd3 : Lib.IsBuilder 124 5 W1.heap.size W1.heap.size (Lib.byteCells (catR S k)) (wr.alloc (.cells #[.int .u64 (ro : Nat), .int .u64 (rs : Nat), .int .u64 (rt : Nat), .int .u64 (ra : Nat)] 49)) := builder_stay HBD.out ((Below.refl _ _).alloc (Nat.le_refl _) _)
      have HB3 := Lib.hid hB3; have HBD3 := Lib.hid hbd3
      clear h0 h1 f0 f1 hB3 hbd3 hc0 hc1 hc2 hc3 hbl HBD
      generalize (wr.alloc (.cells #[.int .u64 (ro : Nat), .int .u64 (rs : Nat), .int .u64 (rt : Nat), .int .u64 (ra : Nat)] 49)) = W3 at *
      go_wp2_with fail
      refine (HPK.out _).mono ?_
      rintro e w4 ⟨rfl, h4⟩
      have hB4 := HB3.out.trans (h4.mono HB3.out.size)
      have hbd4 : Lib.IsBuilder 124 5 W1.heap.size W1.heap.size (Lib.byteCells (catR S k)) w4 := builder_stay HBD3.out h4
      have HB4 := Lib.hid hB4; have HBD4 := Lib.hid hbd4
      clear hB4 hbd4 h4 x0 x1 x2 x3 e0 e1
      cases okk
      · go_wp2
        go_ret2
        exact ⟨by rw [HNO.out (by first | exact trivial | rfl)]; rfl, HE.out _ HB4.out⟩
      · have hwsn := writeString_any W1.heap.size W1.heap.size (Lib.byteCells (catR S k)) sk w4 HBD4.out (by rw [Lib.byteCells_length]; omega) HB4.out.size
        have HWS := Lib.hid hwsn; clear hwsn hcl
        go_wp2_with fail
        refine HWS.out.mono ?_
        rintro e w5 ⟨rfl, hbd5, hl5⟩
        have hB5 := HB4.out.trans hl5
        have HB5 := Lib.hid hB5
        have hbd5' : Lib.IsBuilder 124 5 W1.heap.size W1.heap.size (Lib.byteCells (catR S (k + 1))) w5 := .inr (by rw [HCAT.out, Lib.byteCells_append, ← strCells_is]; exact hbd5)
        have HBD5 := Lib.hid hbd5'
        clear hbd5 hbd5' hl5 hB5
        go_wp2
        exact ⟨⟨k + 1, by omega, by go_num, HSU.out, HBD5.out, HB5.out⟩, by simp [intOf]; omega⟩
    · obtain rfl : k = n := by omega
      have HV : Hid (putV S ok k = .tuple #[.string ⟨(catR S k).toArray⟩, .bool true]) := Lib.hid (by unfold putV; rw [HOK.out]; rfl)
      go_wp2_with fail
      refine (Try.Builder_String_any W1.heap.size W1.heap.size _ _ HBD.out HB.out.size).mono ?_
      rintro e w9 ⟨rfl, hl9⟩
      go_wp2
      go_ret2
      exact ⟨by rw [HV.out]; rfl, HE.out _ (HB.out.trans hl9)⟩
end Go.Proofs.Ytddlflabdlgnbaa
