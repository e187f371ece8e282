/- The contract of dynrec's PutDynamic. Conditions: those written in each theorem. -/
import Derived.Test.YtnmklmaclmjfbaaDoorDE
namespace Go.Proofs.YtnmklmaclmjfbaaDoor
open Go.RowKit
/-- Which entries may be put. -/
def okE (R : Nat → Nat × Nat) (ok : Nat → Bool) (i : Nat) : Bool := ok i && decide ((R i).1 ≠ 0)
/-- What PutDynamic answers. -/
def putDV (R : Nat → Nat × Nat) (S : Nat → ByteArray) (ok : Nat → Bool) (Z : ByteArray) (n : Nat) : Value := if allOk (okE R ok) n then .tuple #[.string ((ByteArray.mk (catR S n).toArray) ++ Z), .bool true] else .tuple #[.string ⟨#[]⟩, .bool false]
set_option maxRecDepth 100000 in
set_option maxHeartbeats 2000000 in
theorem putDyn_any (big wide : Bool) (A : Option Addr) (cap n : Nat) (R : Nat → Nat × Nat) (S : Nat → ByteArray) (ok : Nat → Bool) (Z : ByteArray) (hn : n ≤ 20) (hS : ∀ i, i < n → (S i).size ≤ 16) (hZ : Z.size ≤ 16)
    (hput : ∀ i, i < n → ∀ w, Calls Tryd.prog 18 #[.agg #[.bool big, .bool wide], .agg #[.int .u64 ((R i).1 : Nat), .int .u64 ((R i).2 : Nat)]] w fun e w' => e = .returned (.tuple #[.string (S i), .bool (ok i)]) ∧ Below w.heap.size w w')
    (hend : ∀ w, Calls Tryd.prog 18 #[.agg #[.bool big, .bool wide], .agg #[.int .u64 0, .int .u64 0]] w fun e w' => e = .returned (.tuple #[.string Z, .bool true]) ∧ Below w.heap.size w w')
    (w : World) (hR : RowP w A n R) : Calls Tryd.prog 9 #[.agg #[.bool big, .bool wide], .slice A n cap] w fun e w' => e = .returned (putDV R S ok Z n) ∧ Below w.heap.size w w' := by
  have HS := Lib.hid hS; have HP := Lib.hid hput; have HR := Lib.hid hR; have HEND := Lib.hid hend; clear hS hput hR hend
  have hBx : Below w.heap.size w (w.alloc (.cells #[.bool big, .bool wide] 27)) := (Below.refl _ _).alloc (Nat.le_refl _) _
  have hf0 : (w.alloc (.cells #[.bool big, .bool wide] 27)).cell? ⟨w.heap.size, 0, none⟩ = some (.bool big) := by simp
  have hf1 : (w.alloc (.cells #[.bool big, .bool wide] 27)).cell? ⟨w.heap.size, 1, none⟩ = some (.bool wide) := by simp
  have hz : w.heap.size < (w.alloc (.cells #[.bool big, .bool wide] 27)).heap.size := by simp
  go_enter Tryd.func9, Tryd.ntmps9
  go_upto_region 1 with (fail)
  generalize (w.alloc (.cells #[.bool big, .bool wide] 27)) = W1 at *
  have hbld : Lib.IsBuilder 66 5 W1.heap.size W1.heap.size (Lib.byteCells []) (W1.alloc (.cells #[.pointer none, .slice none 0 0] 66)) := .inl ⟨Nat.le_refl _, .slice none 0 0, heap_alloc_new _ _, World.ownsRow_nil _ _ _ _, by simp [Value.ownBlock]⟩
  have hB1 : Below W1.heap.size W1 (W1.alloc (.cells #[.pointer none, .slice none 0 0] 66)) := (Below.refl _ _).alloc (Nat.le_refl _) _
  have HBX := Lib.hid hBx
  have HBLD := Lib.hid hbld; have HB1 := Lib.hid hB1
  have HF0 : Hid (∀ u, Below W1.heap.size W1 u → u.cell? ⟨w.heap.size, 0, none⟩ = some (.bool big)) := Lib.hid (fun u h => (h.cell (by exact hz)).trans hf0)
  have HF1 : Hid (∀ u, Below W1.heap.size W1 u → u.cell? ⟨w.heap.size, 1, none⟩ = some (.bool wide)) := Lib.hid (fun u h => (h.cell (by exact hz)).trans hf1)
  have HE : Hid (∀ u, Below W1.heap.size W1 u → Below w.heap.size w u) := Lib.hid (fun u h => HBX.out.trans (h.mono HBX.out.size))
  clear hbld hB1 hf0 hf1 hBx
  go_upto_block 0 with (fail)
  generalize (W1.alloc (.cells #[.pointer none, .slice none 0 0] 66)) = W2 at *
  go_wp2
  go_loopw [15] (fun i wr => ∃ k : Nat, k ≤ n ∧ i = .int .i64 (k : Int) ∧ allOk (okE R ok) k = true ∧ Lib.IsBuilder 66 5 W1.heap.size W1.heap.size (Lib.byteCells (catR S k)) wr ∧ Below W1.heap.size W1 wr) (fun i _ => n - (intOf i).toNat)
  case atStart => exact ⟨0, Nat.zero_le _, rfl, rfl, HBLD.out, HB1.out⟩
  case round =>
    obtain ⟨k, hk, rfl, hok, hbd, hB⟩ := hrel
    have HOK := Lib.hid hok; have HBD := Lib.hid hbd; have HB := Lib.hid hB; clear hok hbd hB
    by_cases hlt : k < n
    · have f0 := HF0.out _ HB.out
      have f1 := HF1.out _ HB.out
      have hwr := HE.out _ HB.out
      obtain ⟨b, o, rfl, hbl, hc0, hc1⟩ := HR.out.low hwr k hlt
      have hsk := HS.out k hlt
      have hcl := catR_len S 16 k (fun i hi => HS.out i (by omega))
      have HPK := Lib.hid (fun u => HP.out k hlt u)
      have hsucc : allOk (okE R ok) (k + 1) = (allOk (okE R ok) k && okE R ok k) := allOk_succ (okE R ok) k
      rw [HOK.out, Bool.true_and] at hsucc
      have HSU := Lib.hid hsucc
      have hokk : okE R ok k = (ok k && decide ((R k).1 ≠ 0)) := rfl
      have HOKK := Lib.hid hokk
      have hcat : catR S (k + 1) = catR S k ++ (S k).data.toList := rfl
      have HCAT := Lib.hid hcat
      have HNO : Hid (okE R ok k = false → putDV R S ok Z n = .tuple #[.string ⟨#[]⟩, .bool false]) := Lib.hid (fun h => by unfold putDV; rw [allOk_false hlt h]; rfl)
      clear hsucc hcat hwr hokk
      generalize okE R ok k = oek at *
      generalize R k = r at *
      obtain ⟨rt, rv⟩ := r
      generalize ok k = okk at *
      generalize S k = sk at *
      have k0 : (0 : Int) ≤ (k : Int) := by omega
      have k1 : (k : Int) < (n : Int) := by omega
      have k2 : k + 1 ≤ 1048576 := by omega
      go_upto_region 5 with (fail)
      have h0 : ∀ o, (wr.alloc o).cell? ⟨w.heap.size, 0, none⟩ = some (.bool big) := fun o => HF0.out _ (HB.out.alloc HB.out.size o)
      have h1 : ∀ o, (wr.alloc o).cell? ⟨w.heap.size, 1, none⟩ = some (.bool wide) := fun o => HF1.out _ (HB.out.alloc HB.out.size o)
      have e0 : (wr.alloc (.cells #[.int .u64 (rt : Nat), .int .u64 (rv : Nat)] 34)).cell? ⟨w.heap.size, 0, none⟩ = some (.bool big) := h0 _
      have e1 : (wr.alloc (.cells #[.int .u64 (rt : Nat), .int .u64 (rv : Nat)] 34)).cell? ⟨w.heap.size, 1, none⟩ = some (.bool wide) := h1 _
      have x0 : (wr.alloc (.cells #[.int .u64 (rt : Nat), .int .u64 (rv : Nat)] 34)).cell? ⟨wr.heap.size, 0, none⟩ = some (.int .u64 (rt : Nat)) := by rw [Lib.cell_of_heap (heap_alloc_new wr _)]; rfl
      have x1 : (wr.alloc (.cells #[.int .u64 (rt : Nat), .int .u64 (rv : Nat)] 34)).cell? ⟨wr.heap.size, 1, none⟩ = some (.int .u64 (rv : Nat)) := by rw [Lib.cell_of_heap (heap_alloc_new wr _)]; rfl
      have hB3 := HB.out.alloc HB.out.size (.cells #[.int .u64 (rt : Nat), .int .u64 (rv : Nat)] 34)
      have hbd3 : Lib.IsBuilder 66 5 W1.heap.size W1.heap.size (Lib.byteCells (catR S k)) (wr.alloc (.cells #[.int .u64 (rt : Nat), .int .u64 (rv : Nat)] 34)) := builder_stay HBD.out ((Below.refl _ _).alloc (Nat.le_refl _) _)
      have hz3 : wr.heap.size < (wr.alloc (.cells #[.int .u64 (rt : Nat), .int .u64 (rv : Nat)] 34)).heap.size := by simp
      have HB3 := Lib.hid hB3; have HBD3 := Lib.hid hbd3
      clear h0 h1 f0 f1 hB3 hbd3 hc0 hc1 hbl HBD
      generalize (wr.alloc (.cells #[.int .u64 (rt : Nat), .int .u64 (rv : Nat)] 34)) = W3 at *
      generalize wr.heap.size = bx3 at *
      have HX0 : Hid (∀ u, Below W3.heap.size W3 u → u.cell? ⟨bx3, 0, none⟩ = some (.int .u64 (rt : Nat))) := Lib.hid (fun u h => (h.cell (by exact hz3)).trans x0)
      go_wp2_with fail
      refine (HPK.out _).mono ?_
      rintro e w4 ⟨rfl, h4⟩
      have hB4 := HB3.out.trans (h4.mono HB3.out.size)
      have hbd4 : Lib.IsBuilder 66 5 W1.heap.size W1.heap.size (Lib.byteCells (catR S k)) w4 := builder_stay HBD3.out h4
      have x4 := HX0.out _ h4
      have HB4 := Lib.hid hB4; have HBD4 := Lib.hid hbd4
      clear hB4 hbd4 h4 x0 x1 e0 e1
      cases okk
      · go_wp2
        go_ret2
        exact ⟨by rw [HNO.out HOKK.out]; rfl, HE.out _ HB4.out⟩
      · by_cases ht0 : rt = 0
        · have ht1 : ((rt : Int) == 0) = true := by rw [ht0]; rfl
          have HTT := Lib.hid ht0; clear ht0
          have ht2 : (rt : Int) = 0 := by simpa using ht1
          go_wp2
          go_ret2
          exact ⟨by rw [HNO.out (by rw [HOKK.out]; simp [HTT.out])]; rfl, HE.out _ HB4.out⟩
        · have ht1 : ((rt : Int) == 0) = false := by simpa using ht0
          have HTT := Lib.hid ht0; clear ht0
          have hwsn := writeString_any W1.heap.size W1.heap.size (Lib.byteCells (catR S k)) sk w4 HBD4.out (by rw [Lib.byteCells_length]; omega) HB4.out.size
          have HWS := Lib.hid hwsn; clear hwsn hcl
          go_wp2_with fail
          refine HWS.out.mono ?_
          rintro e w5 ⟨rfl, hbd5, hl5⟩
          have hB5 := HB4.out.trans hl5
          have HB5 := Lib.hid hB5
          have hbd5' : Lib.IsBuilder 66 5 W1.heap.size W1.heap.size (Lib.byteCells (catR S (k + 1))) w5 := .inr (by rw [HCAT.out, Lib.byteCells_append]; exact hbd5)
          have HBD5 := Lib.hid hbd5'
          clear hbd5 hbd5' hl5 hB5
          go_wp2
          exact ⟨⟨k + 1, by omega, by go_num, by rw [HSU.out, HOKK.out]; simp [HTT.out], HBD5.out, HB5.out⟩, by simp [intOf]; omega⟩
    · obtain rfl : k = n := by omega
      have HV : Hid (putDV R S ok Z k = .tuple #[.string ((ByteArray.mk (catR S k).toArray) ++ Z), .bool true]) := Lib.hid (by unfold putDV; rw [HOK.out]; rfl)
      have hcl := catR_len S 16 k (fun i hi => HS.out i (by omega))
      have hcs : (ByteArray.mk (catR S k).toArray).size = (catR S k).length := by simp [ByteArray.size]
      have hadd := add_str (ByteArray.mk (catR S k).toArray) Z (by omega)
      have f0 := HF0.out _ HB.out
      have f1 := HF1.out _ HB.out
      clear hcl hcs
      go_wp2_with fail
      refine (HEND.out _).mono ?_
      rintro e w8 ⟨rfl, h8⟩
      have HB8 := Lib.hid (HB.out.trans (h8.mono HB.out.size))
      have HBD8 := Lib.hid (builder_stay HBD.out h8)
      clear h8 f0 f1
      go_wp2_with fail
      refine (Tryd.Builder_String_any W1.heap.size W1.heap.size _ _ HBD8.out HB8.out.size).mono ?_
      rintro e w9 ⟨rfl, hl9⟩
      go_wp2
      go_ret2
      exact ⟨by rw [HV.out]; rfl, HE.out _ (HB8.out.trans hl9)⟩
end Go.Proofs.YtnmklmaclmjfbaaDoor
