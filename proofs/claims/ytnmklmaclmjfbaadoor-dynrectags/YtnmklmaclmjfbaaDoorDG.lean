/- The contract of dynrec's PutNotes. Conditions: those written in each theorem. -/
import Derived.Test.YtnmklmaclmjfbaaDoorDX
namespace Go.Proofs.YtnmklmaclmjfbaaDoor
open Go.RowKit
/-- What the record of a note's numbers is. -/
theorem recN {big wide : Bool} {a d t : Nat} {S : ByteArray} {ok : Bool} (ha : a < 4294967296) (hd : d < 4294967296) (h : RecIs big wide [4, 4, 4] [a, d, t] 3 3 S ok) :
    (ok = true → S.data.toList = Num.putL big a 4 ++ (Num.putL big d 4 ++ Num.putL big t 4) ∧ t < 4294967296) ∧ (ok = false → S = ⟨#[]⟩ ∧ ¬ t < 4294967296) := by
  have h4 : (256 : Nat) ^ 4 = 4294967296 := by decide
  have hf : fullZ wide 4 = 4 := by unfold fullZ; rw [if_neg (by decide)]
  refine ⟨fun ho => ?_, fun ho => ?_⟩
  · subst ho
    rcases h with ⟨h, _⟩ | ⟨_, h1, h2, _⟩ | ⟨_, _, _, h⟩
    · exact absurd rfl h
    · have k2 := (h1 2 (by decide)).2.2
      simp only [List.getD_cons_zero, List.getD_cons_succ, hf] at k2
      refine ⟨?_, by rw [← h4]; exact k2⟩
      subst h2
      show fieldsL big (fullL wide [4, 4, 4] 3) [a, d, t] 3 = _
      have g : ∀ k, k < 3 → (fullL wide [4, 4, 4] 3).getD k 0 = 4 := fun k hk => by
        rw [fullL_getD _ _ _ _ hk]
        match k, hk with
        | 0, _ => exact hf
        | 1, _ => exact hf
        | 2, _ => exact hf
      simp only [fieldsL, g 0 (by decide), g 1 (by decide), g 2 (by decide), List.getD_cons_zero, List.getD_cons_succ, List.nil_append, List.append_assoc]
    · cases h
  · subst ho
    rcases h with ⟨h, _⟩ | ⟨_, _, _, h⟩ | ⟨_, h1, h2, _⟩
    · exact absurd rfl h
    · cases h
    · refine ⟨h2, fun ht => ?_⟩
      obtain ⟨k0, hk0, _, hno⟩ := h1
      have key : ∀ k, k < 3 → okAt wide [4, 4, 4] [a, d, t] k := fun k hk => by
        match k, hk with
        | 0, _ => exact ⟨by simp only [List.getD_cons_zero, hf]; decide, by simp only [List.getD_cons_zero, hf]; decide, by simp only [List.getD_cons_zero, hf]; exact ha⟩
        | 1, _ => exact ⟨by simp only [List.getD_cons_zero, List.getD_cons_succ, hf]; decide, by simp only [List.getD_cons_zero, List.getD_cons_succ, hf]; decide, by simp only [List.getD_cons_zero, List.getD_cons_succ, hf]; exact hd⟩
        | 2, _ => exact ⟨by simp only [List.getD_cons_zero, List.getD_cons_succ, hf]; decide, by simp only [List.getD_cons_zero, List.getD_cons_succ, hf]; decide, by simp only [List.getD_cons_zero, List.getD_cons_succ, hf]; exact ht⟩
      exact hno (key k0 hk0)
/-- n notes stand one behind the other where a slice begins. -/
def RowNt (w : World) (A : Option Addr) (n : Nat) (X : Nat → Nt) : Prop := ∀ i, i < n → ∃ b o, A = some ⟨b, o, none⟩ ∧ b < w.heap.size ∧
  w.cell? ⟨b, o + i * 3, none⟩ = some (.int .u64 ((X i).ty : Nat)) ∧ w.cell? ⟨b, o + i * 3 + 1, none⟩ = some (.string (X i).name) ∧ w.cell? ⟨b, o + i * 3 + 2, none⟩ = some (.string (X i).desc)
theorem RowNt.low {w w' : World} {A : Option Addr} {n : Nat} {X : Nat → Nt} (h : RowNt w A n X) (hb : Below w.heap.size w w') : RowNt w' A n X := fun i hi => by
  obtain ⟨b, o, e, hl, h0, h1, h2⟩ := h i hi
  exact ⟨b, o, e, Nat.lt_of_lt_of_le hl hb.size, (hb.cell (p := ⟨b, _, none⟩) hl).trans h0, (hb.cell (p := ⟨b, _, none⟩) hl).trans h1, (hb.cell (p := ⟨b, _, none⟩) hl).trans h2⟩
theorem catN_le (big : Bool) (X : Nat → Nt) (k n : Nat) (h : k < n) : (catN big X k).length + sizN (X k) ≤ (catN big X n).length := by
  obtain ⟨t, ht⟩ := catN_split big X k n h
  rw [ht]
  simp only [List.length_append, encN_length]
  omega
theorem ext_zero (p : Nat) (h : p ≤ 3) : ((⟨#[0, 0, 0]⟩ : ByteArray).extract 0 p).data.toList = zeroL p := by
  match p, h with
  | 0, _ => rfl
  | 1, _ => rfl
  | 2, _ => rfl
  | 3, _ => rfl
/-- Which notes may be put. -/
def okN (X : Nat → Nt) (i : Nat) : Bool := decide ((X i).ty < 4294967296)
/-- What PutNotes answers. -/
def putNV (big : Bool) (X : Nat → Nt) (n : Nat) : Value := if allOk (okN X) n then .tuple #[.string ⟨(catN big X n).toArray⟩, .bool true] else .tuple #[.string ⟨#[]⟩, .bool false]
set_option maxRecDepth 100000 in
set_option maxHeartbeats 4000000 in
theorem putNotes_any (big wide : Bool) (A : Option Addr) (cap n : Nat) (X : Nat → Nt) (hn : n ≤ 100) (hlen : (catN big X n).length ≤ 1048576) (h64 : ∀ i, i < n → (X i).ty < 2 ^ 64)
    (w : World) (hR : RowNt w A n X) : Calls Tryd.prog 12 #[.agg #[.bool big, .bool wide], .slice A n cap] w fun e w' => e = .returned (putNV big X n) ∧ Below w.heap.size w w' := by
  have HR := Lib.hid hR; have HL := Lib.hid hlen; have H64 := Lib.hid h64; clear hR hlen h64
  have hBx : Below w.heap.size w (w.alloc (.cells #[.bool big, .bool wide] 27)) := (Below.refl _ _).alloc (Nat.le_refl _) _
  have hf0 : (w.alloc (.cells #[.bool big, .bool wide] 27)).cell? ⟨w.heap.size, 0, none⟩ = some (.bool big) := by simp
  have hf1 : (w.alloc (.cells #[.bool big, .bool wide] 27)).cell? ⟨w.heap.size, 1, none⟩ = some (.bool wide) := by simp
  have hz : w.heap.size < (w.alloc (.cells #[.bool big, .bool wide] 27)).heap.size := by simp
  go_enter Tryd.func12, Tryd.ntmps12
  go_upto_region 1 with (fail)
  generalize (w.alloc (.cells #[.bool big, .bool wide] 27)) = W1 at *
  have hbld : Lib.IsBuilder 66 5 W1.heap.size W1.heap.size (Lib.byteCells []) (W1.alloc (.cells #[.pointer none, .slice none 0 0] 66)) := .inl ⟨Nat.le_refl _, .slice none 0 0, heap_alloc_new _ _, World.ownsRow_nil _ _ _ _, by simp [Value.ownBlock]⟩
  have hB1 : Below W1.heap.size W1 (W1.alloc (.cells #[.pointer none, .slice none 0 0] 66)) := (Below.refl _ _).alloc (Nat.le_refl _) _
  have HBX := Lib.hid hBx
  have HBLD := Lib.hid hbld; have HB1 := Lib.hid hB1
  have HF0 : Hid (∀ u, Below W1.heap.size W1 u → u.cell? ⟨w.heap.size, 0, none⟩ = some (.bool big)) := Lib.hid (fun u h => (h.cell (by exact hz)).trans hf0)
  have HF1 : Hid (∀ u, Below W1.heap.size W1 u → u.cell? ⟨w.heap.size, 1, none⟩ = some (.bool wide)) := Lib.hid (fun u h => (h.cell (by exact hz)).trans hf1)
  have HE : Hid (∀ u, Below W1.heap.size W1 u → Below w.heap.size w u) := Lib.hid (fun u h => HBX.out.trans (h.mono HBX.out.size))
  clear hbld hB1 hf0 hf1 hBx
  go_upto_block 0 with (fail)
  generalize (W1.alloc (.cells #[.pointer none, .slice none 0 0] 66)) = W2 at *
  go_wp2
  go_loopw [16] (fun i wr => ∃ k : Nat, k ≤ n ∧ i = .int .i64 (k : Int) ∧ allOk (okN X) k = true ∧ Lib.IsBuilder 66 5 W1.heap.size W1.heap.size (Lib.byteCells (catN big X k)) wr ∧ Below W1.heap.size W1 wr) (fun i _ => n - (intOf i).toNat)
  case atStart => exact ⟨0, Nat.zero_le _, rfl, rfl, HBLD.out, HB1.out⟩
  case round =>
    obtain ⟨k, hk, rfl, hok, hbd, hB⟩ := hrel
    have HOK := Lib.hid hok; have HBD := Lib.hid hbd; have HB := Lib.hid hB; clear hok hbd hB
    by_cases hlt : k < n
    · have hwr := HE.out _ HB.out
      obtain ⟨b, o, rfl, hbl, hc0, hc1, hc2⟩ := HR.out.low hwr k hlt
      have h64k := H64.out k hlt
      have hlk := catN_le big X k n hlt
      have hll := HL.out
      have hsucc : allOk (okN X) (k + 1) = (allOk (okN X) k && okN X k) := allOk_succ (okN X) k
      rw [HOK.out, Bool.true_and] at hsucc
      have HSU := Lib.hid hsucc
      have HOKK : Hid (okN X k = decide ((X k).ty < 4294967296)) := Lib.hid rfl
      have HCAT : Hid (catN big X (k + 1) = catN big X k ++ encN big (X k)) := Lib.hid rfl
      have HNO : Hid (okN X k = false → putNV big X n = .tuple #[.string ⟨#[]⟩, .bool false]) := Lib.hid (fun h => by unfold putNV; rw [allOk_false hlt h]; rfl)
      have hsz : sizN (X k) = 12 + (X k).name.size + pad4 (X k).name.size + (X k).desc.size + pad4 (X k).desc.size := rfl
      have HENC : Hid (encN big (X k) = Num.putL big (X k).name.size 4 ++ (Num.putL big (X k).desc.size 4 ++ (Num.putL big (X k).ty 4 ++ ((X k).name.data.toList ++ (zeroL (pad4 (X k).name.size) ++ ((X k).desc.data.toList ++ zeroL (pad4 (X k).desc.size))))))) := Lib.hid rfl
      have hp1 := pad4_le (X k).name.size
      have hp2 := pad4_le (X k).desc.size
      rw [hsz] at hlk
      clear hsucc hwr hsz
      generalize encN big (X k) = enc at *
      generalize okN X k = oek at *
      generalize X k = r at *
      obtain ⟨ty, nm, ds⟩ := r
      dsimp only at hc0 hc1 hc2 h64k hlk HOKK HENC hp1 hp2
      obtain ⟨Hd, okh, hrec⟩ := recIs_exists big wide [4, 4, 4] [nm.size, ds.size, ty] 3 3
      obtain ⟨hr1, hr2⟩ := recN (by omega) (by omega) hrec
      have HREC := Lib.hid hrec; have HR1 := Lib.hid hr1; have HR2 := Lib.hid hr2; clear hrec hr1 hr2
      have k0 : (0 : Int) ≤ (k : Int) := by omega
      have k1 : (k : Int) < (n : Int) := by omega
      have k2 : k + 1 ≤ 1048576 := by omega
      go_upto_region 5 with (fail)
      have x0 : (wr.alloc (.cells #[.int .u64 (ty : Nat), .string nm, .string ds] 48)).cell? ⟨wr.heap.size, 0, none⟩ = some (.int .u64 (ty : Nat)) := by rw [Lib.cell_of_heap (heap_alloc_new wr _)]; rfl
      have x1 : (wr.alloc (.cells #[.int .u64 (ty : Nat), .string nm, .string ds] 48)).cell? ⟨wr.heap.size, 1, none⟩ = some (.string nm) := by rw [Lib.cell_of_heap (heap_alloc_new wr _)]; rfl
      have x2 : (wr.alloc (.cells #[.int .u64 (ty : Nat), .string nm, .string ds] 48)).cell? ⟨wr.heap.size, 2, none⟩ = some (.string ds) := by rw [Lib.cell_of_heap (heap_alloc_new wr _)]; rfl
      have hB3 := HB.out.alloc HB.out.size (.cells #[.int .u64 (ty : Nat), .string nm, .string ds] 48)
      have hbd3 : Lib.IsBuilder 66 5 W1.heap.size W1.heap.size (Lib.byteCells (catN big X k)) (wr.alloc (.cells #[.int .u64 (ty : Nat), .string nm, .string ds] 48)) := builder_stay HBD.out ((Below.refl _ _).alloc (Nat.le_refl _) _)
      have hz3 : wr.heap.size < (wr.alloc (.cells #[.int .u64 (ty : Nat), .string nm, .string ds] 48)).heap.size := by simp
      have HXR : Hid ((wr.alloc (.cells #[.int .u64 (ty : Nat), .string nm, .string ds] 48)).heap[wr.heap.size]? = some (.cells #[.int .u64 (ty : Nat), .string nm, .string ds] 48 (0, 0))) := Lib.hid (heap_alloc_new wr _)
      have hxb : wr.heap.size ≠ W1.heap.size := by have h1 := HBD.out; rcases h1 with h1 | h1 <;> (have := h1.lt; omega)
      have HB3 := Lib.hid hB3; have HBD3 := Lib.hid hbd3
      clear hB3 hbd3 hc0 hc1 hc2 hbl HBD
      generalize (wr.alloc (.cells #[.int .u64 (ty : Nat), .string nm, .string ds] 48)) = W3 at *
      generalize wr.heap.size = bx3 at *
      have HX0 : Hid (∀ u, Below W3.heap.size W3 u → u.cell? ⟨bx3, 0, none⟩ = some (.int .u64 (ty : Nat))) := Lib.hid (fun u h => (h.cell (by exact hz3)).trans x0)
      have HX1 : Hid (∀ u, Below W3.heap.size W3 u → u.cell? ⟨bx3, 1, none⟩ = some (.string nm)) := Lib.hid (fun u h => (h.cell (by exact hz3)).trans x1)
      have HX2 : Hid (∀ u, Below W3.heap.size W3 u → u.cell? ⟨bx3, 2, none⟩ = some (.string ds)) := Lib.hid (fun u h => (h.cell (by exact hz3)).trans x2)
      clear x0 x1 x2
      have wa : IntKind.u64.wrap (nm.size : Int) = (nm.size : Int) := by rw [IntKind.wrap_u64]; omega
      have wb : IntKind.u64.wrap (ds.size : Int) = (ds.size : Int) := by rw [IntKind.wrap_u64]; omega
      refine wp_region_held_drew (S := fun w' => Below W3.heap.size W3 w') (by kernel_rfl) ?_ (fun hHeld => ?_)
      · exact (Below.refl _ _).drew
      refine wpAnyH_take (i := 0) (oi := { dst := some 20, op := Go.Op.fieldAddr 48 (Go.Operand.tmp 8) 1, type := 0, pos := "notes.go:52", after := #[], guard := none }) (v := ?_) rfl (by kernel_rfl) (by kernel_rfl) (by kernel_rfl) (fun _ _ _ h => h) (Or.inl ⟨by rfl, ?_⟩) (by assumption) ?_
      rotate_left
      · (intro w hSw; (try dsimp only at hSw); go_simp <;> with_reducible rfl)
      try simp only [Act.put, List.setIfInBounds_toArray, List.set_cons_zero, List.set_cons_succ]
      refine wpAnyH_take (i := 4) (oi := { dst := some 24, op := Go.Op.fieldAddr 48 (Go.Operand.tmp 8) 2, type := 0, pos := "notes.go:52", after := #[], guard := none }) (v := ?_) rfl (by kernel_rfl) (by kernel_rfl) (by kernel_rfl) (fun _ _ _ h => h) (Or.inl ⟨by rfl, ?_⟩) (by assumption) ?_
      rotate_left
      · (intro w hSw; (try dsimp only at hSw); go_simp <;> with_reducible rfl)
      try simp only [Act.put, List.setIfInBounds_toArray, List.set_cons_zero, List.set_cons_succ]
      refine wpAnyH_take (i := 1) (oi := { dst := some 21, op := Go.Op.load 9 (Go.Operand.tmp 20), type := 9, pos := "notes.go:52", after := #[{ on := 0, ground := Go.Ground.data }], guard := none }) (v := ?_) rfl (by kernel_rfl) (by kernel_rfl) (by kernel_rfl) (fun _ _ _ h => h) (Or.inl ⟨by rfl, ?_⟩) (by assumption) ?_
      rotate_left
      · (intro w hSw; have q0 := HX1.out w hSw; (try dsimp only at hSw); go_simp <;> with_reducible rfl)
      try simp only [Act.put, List.setIfInBounds_toArray, List.set_cons_zero, List.set_cons_succ]
      refine wpAnyH_take (i := 5) (oi := { dst := some 25, op := Go.Op.load 9 (Go.Operand.tmp 24), type := 9, pos := "notes.go:52", after := #[{ on := 4, ground := Go.Ground.data }], guard := none }) (v := ?_) rfl (by kernel_rfl) (by kernel_rfl) (by kernel_rfl) (fun _ _ _ h => h) (Or.inl ⟨by rfl, ?_⟩) (by assumption) ?_
      rotate_left
      · (intro w hSw; have q0 := HX2.out w hSw; (try dsimp only at hSw); go_simp <;> with_reducible rfl)
      try simp only [Act.put, List.setIfInBounds_toArray, List.set_cons_zero, List.set_cons_succ]
      refine wpAnyH_take (i := 2) (oi := { dst := some 22, op := Go.Op.call { callee := Go.Callee.builtin Go.Builtin.len, args := #[Go.Operand.tmp 21], argTypes := #[9] }, type := 3, pos := "notes.go:52", after := #[{ on := 1, ground := Go.Ground.data }], guard := none }) (v := ?_) rfl (by kernel_rfl) (by kernel_rfl) (by kernel_rfl) (fun _ _ _ h => h) (Or.inl ⟨by rfl, ?_⟩) (by assumption) ?_
      rotate_left
      · (intro w hSw; (try dsimp only at hSw); go_simp <;> with_reducible rfl)
      try simp only [Act.put, List.setIfInBounds_toArray, List.set_cons_zero, List.set_cons_succ]
      refine wpAnyH_take (i := 6) (oi := { dst := some 26, op := Go.Op.call { callee := Go.Callee.builtin Go.Builtin.len, args := #[Go.Operand.tmp 25], argTypes := #[9] }, type := 3, pos := "notes.go:52", after := #[{ on := 5, ground := Go.Ground.data }], guard := none }) (v := ?_) rfl (by kernel_rfl) (by kernel_rfl) (by kernel_rfl) (fun _ _ _ h => h) (Or.inl ⟨by rfl, ?_⟩) (by assumption) ?_
      rotate_left
      · (intro w hSw; (try dsimp only at hSw); go_simp <;> with_reducible rfl)
      try simp only [Act.put, List.setIfInBounds_toArray, List.set_cons_zero, List.set_cons_succ]
      refine wpAnyH_take (i := 3) (oi := { dst := some 23, op := Go.Op.convert 3 31 (Go.Operand.tmp 22), type := 31, pos := "notes.go:52", after := #[{ on := 2, ground := Go.Ground.data }], guard := none }) (v := ?_) rfl (by kernel_rfl) (by kernel_rfl) (by kernel_rfl) (fun _ _ _ h => h) (Or.inl ⟨by rfl, ?_⟩) (by assumption) ?_
      rotate_left
      · (intro w hSw; (try dsimp only at hSw); go_simp <;> with_reducible rfl)
      try simp only [Act.put, List.setIfInBounds_toArray, List.set_cons_zero, List.set_cons_succ]
      refine wpAnyH_take (i := 7) (oi := { dst := some 27, op := Go.Op.convert 3 31 (Go.Operand.tmp 26), type := 31, pos := "notes.go:52", after := #[{ on := 6, ground := Go.Ground.data }, { on := 8, ground := Go.Ground.gcOnly Go.Departure.lateStores }], guard := none }) (v := ?_) rfl (by kernel_rfl) (by kernel_rfl) (by kernel_rfl) (fun _ _ _ h => h) (Or.inl ⟨by rfl, ?_⟩) (by assumption) ?_
      rotate_left
      · (intro w hSw; (try dsimp only at hSw); go_simp <;> with_reducible rfl)
      try simp only [Act.put, List.setIfInBounds_toArray, List.set_cons_zero, List.set_cons_succ]
      refine wpAnyH_take (i := 8) (oi := { dst := some 9, op := Go.Op.assign (Go.Operand.tmp 23), type := 31, pos := "notes.go:52", after := #[{ on := 3, ground := Go.Ground.data }, { on := 0, ground := Go.Ground.phase }, { on := 1, ground := Go.Ground.phase }, { on := 2, ground := Go.Ground.phase }, { on := 3, ground := Go.Ground.phase }, { on := 4, ground := Go.Ground.textOnly Go.Departure.lateStores }, { on := 5, ground := Go.Ground.textOnly Go.Departure.lateStores }, { on := 6, ground := Go.Ground.textOnly Go.Departure.lateStoresUnsure }, { on := 7, ground := Go.Ground.textOnly Go.Departure.lateStores }], guard := none }) (v := ?_) rfl (by kernel_rfl) (by kernel_rfl) (by kernel_rfl) (fun _ _ _ h => h) (Or.inl ⟨by rfl, ?_⟩) (by assumption) ?_
      rotate_left
      · (intro w hSw; (try dsimp only at hSw); go_simp <;> with_reducible rfl)
      try simp only [Act.put, List.setIfInBounds_toArray, List.set_cons_zero, List.set_cons_succ]
      refine wpAnyH_take (i := 9) (oi := { dst := some 10, op := Go.Op.assign (Go.Operand.tmp 27), type := 31, pos := "notes.go:52", after := #[{ on := 7, ground := Go.Ground.data }, { on := 8, ground := Go.Ground.chain }, { on := 0, ground := Go.Ground.phase }, { on := 1, ground := Go.Ground.phase }, { on := 2, ground := Go.Ground.phase }, { on := 3, ground := Go.Ground.phase }, { on := 4, ground := Go.Ground.phase }, { on := 5, ground := Go.Ground.phase }, { on := 6, ground := Go.Ground.phase }, { on := 7, ground := Go.Ground.phase }, { on := 8, ground := Go.Ground.phase }], guard := none }) (v := ?_) rfl (by kernel_rfl) (by kernel_rfl) (by kernel_rfl) (fun _ _ _ h => h) (Or.inl ⟨by rfl, ?_⟩) (by assumption) ?_
      rotate_left
      · (intro w hSw; (try dsimp only at hSw); go_simp <;> with_reducible rfl)
      try simp only [Act.put, List.setIfInBounds_toArray, List.set_cons_zero, List.set_cons_succ]
      refine wpAnyH_done (by kernel_rfl) ?_ _
      have HB4 := Lib.hid (HB3.out.trans (hHeld.mono HB3.out.size))
      have HBD4 := Lib.hid (builder_stay HBD3.out hHeld)
      have HH4 := Lib.hid hHeld
      clear hHeld wa wb
      have f0 := HF0.out _ HB4.out
      have f1 := HF1.out _ HB4.out
      have x0 := HX0.out _ HH4.out
      generalize W3.drew = W4 at *
      have zb4 : w.heap.size < W4.heap.size := by have := HB4.out.size; omega
      have zx4 : bx3 < W4.heap.size := by have := HH4.out.size; omega
      have HRA : Hid (∀ (u : World) (o : Obj), ((u.alloc (.cells #[.int .i64 4, .int .i64 4, .int .i64 4] 3)).alloc o).heap[u.heap.size]? = some (.cells (rowI64 [4, 4, 4]) 3 (0, 0))) := Lib.hid (fun u o => heap_up o (heap_alloc_new u _))
      have HRB : Hid (∀ (u : World), (u.alloc (.cells #[.int .u64 (nm.size : Nat), .int .u64 (ds.size : Nat), .int .u64 (ty : Nat)] 31)).heap[u.heap.size]? = some (.cells (rowU64 [nm.size, ds.size, ty]) 31 (0, 0))) := Lib.hid (fun u => heap_alloc_new u _)
      go_wp2_with fail
      refine (record_is big wide (some ⟨W4.heap.size, 0, none⟩) (some ⟨W4.heap.size + 1, 0, none⟩) 3 3 3 3 [4, 4, 4] [nm.size, ds.size, ty] Hd okh _ (by decide) ?_ ?_ HREC.out).mono ?_
      · exact RowI.of_rowT (L := [4, 4, 4]) (t := 3) (by simp; try omega) (HRA.out W4 _)
      · exact RowN.of_rowT (L := [nm.size, ds.size, ty]) (t := 31) (by simp; try omega) (by
          have := HRB.out (W4.alloc (.cells #[.int .i64 4, .int .i64 4, .int .i64 4] 3))
          have e : (W4.alloc (.cells #[.int .i64 4, .int .i64 4, .int .i64 4] 3)).heap.size = W4.heap.size + 1 := by simp
          rw [e] at this
          exact this) (fun z hz => by
          simp only [List.mem_cons, List.not_mem_nil, or_false] at hz
          rcases hz with rfl | rfl | rfl <;> omega)
      rintro e w5 ⟨rfl, h5⟩
      have h45 : Below W4.heap.size W4 w5 := (below_more (below_more (Below.refl _ _) _) _).trans (h5.mono (by simp; omega))
      have HB5 := Lib.hid (HB4.out.trans (h45.mono HB4.out.size))
      have HBD5 := Lib.hid (builder_stay HBD4.out h45)
      have HH5 := Lib.hid (HH4.out.trans (h45.mono HH4.out.size))
      have HX5 : Hid (w5.heap[bx3]? = some (.cells #[.int .u64 (ty : Nat), .string nm, .string ds] 48 (0, 0))) := Lib.hid (by rw [HH5.out.block bx3 hz3]; exact HXR.out)
      clear h5 h45 f0 f1 x0 HBD4 zb4 zx4
      have HLEN := Lib.hid (len_any W1.heap.size W1.heap.size _ w5 HBD5.out)
      have hbl : (Lib.byteCells (catN big X k)).length = (catN big X k).length := Lib.byteCells_length _
      rw [hbl] at HLEN
      clear hbl
      generalize hLk : (catN big X k).length = L at *
      generalize (catN big X n).length = LN at *
      have HLK := Lib.hid hLk; clear hLk
      cases okh
      · obtain ⟨rfl, hty⟩ := HR2.out rfl
        go_wp2_with fail
        refine HLEN.out.mono ?_
        rintro e w6 ⟨rfl, rfl⟩
        go_wp2_with fail
        refine (padding_any nm.size (by omega) _).mono ?_
        rintro e w6 ⟨rfl, rfl⟩
        go_wp2_with fail
        refine (padding_any ds.size (by omega) _).mono ?_
        rintro e w6 ⟨rfl, rfl⟩
        go_wp2
        go_ret2
        exact ⟨by rw [HNO.out (by rw [HOKK.out]; simpa using hty)]; rfl, HE.out _ HB5.out⟩
      · obtain ⟨hhd, hty⟩ := HR1.out rfl
        have hhs : Hd.size = 12 := by
          have := congrArg List.length hhd
          simp only [List.length_append, putL4, ba_len] at this
          omega
        have HHD := Lib.hid hhd; clear hhd
        have q0 : (0 : Int) ≤ (L : Int) := by omega
        go_wp2_with fail
        refine HLEN.out.mono ?_
        rintro e w6 ⟨rfl, rfl⟩
        go_wp2_with fail
        refine (padding_any nm.size (by omega) _).mono ?_
        rintro e w6 ⟨rfl, rfl⟩
        go_wp2_with fail
        refine (padding_any ds.size (by omega) _).mono ?_
        rintro e w6 ⟨rfl, rfl⟩
        go_upto_region 10 with (fail)
        have hzl1 : ((⟨#[0, 0, 0]⟩ : ByteArray).extract 0 (pad4 nm.size)).data.toList.length = pad4 nm.size := by rw [ext_zero _ hp1, zeroL_length]
        have hze1 : ((⟨#[0, 0, 0]⟩ : ByteArray).extract 0 (pad4 nm.size)).size = pad4 nm.size := by rw [← ba_len]; exact hzl1
        have hze2 : ((⟨#[0, 0, 0]⟩ : ByteArray).extract 0 (pad4 ds.size)).size = pad4 ds.size := by rw [← ba_len, ext_zero _ hp2, zeroL_length]
        have HZ1 := Lib.hid hzl1; have HE1 := Lib.hid hze1; have HE2 := Lib.hid hze2
        clear hzl1 hze1 hze2
        go_wp2_with fail
        refine (writeString_x bx3 _ W1.heap.size W1.heap.size (Lib.byteCells (catN big X k)) (Hd) _ HBD5.out (by rw [Lib.byteCells_length]; (try simp only [List.length_append, ba_len]); have := HLK.out; omega) HB5.out.size HX5.out hxb).mono ?_
        rintro e w6 ⟨rfl, hbd, hl, hx⟩
        have HB6 := Lib.hid (HB5.out.trans hl)
        have HX6 := Lib.hid hx
        have hbd2 : Lib.IsBuilder 66 5 W1.heap.size W1.heap.size (Lib.byteCells ((catN big X k) ++ (Hd).data.toList)) w6 := .inr (by rw [Lib.byteCells_append]; exact hbd)
        have HBD6 := Lib.hid hbd2
        clear hbd hbd2 hl hx
        have xn : w6.cell? ⟨bx3, 1, none⟩ = some (.string nm) := by rw [Lib.cell_of_heap HX6.out]; rfl
        go_wp2_with fail
        refine (writeString_x bx3 _ W1.heap.size W1.heap.size (Lib.byteCells ((catN big X k) ++ Hd.data.toList)) (nm) _ HBD6.out (by rw [Lib.byteCells_length]; (try simp only [List.length_append, ba_len]); have := HLK.out; omega) HB6.out.size HX6.out hxb).mono ?_
        rintro e w7 ⟨rfl, hbd, hl, hx⟩
        have HB7 := Lib.hid (HB6.out.trans hl)
        have HX7 := Lib.hid hx
        have hbd2 : Lib.IsBuilder 66 5 W1.heap.size W1.heap.size (Lib.byteCells (((catN big X k) ++ Hd.data.toList) ++ (nm).data.toList)) w7 := .inr (by rw [Lib.byteCells_append]; exact hbd)
        have HBD7 := Lib.hid hbd2
        clear hbd hbd2 hl hx
        clear xn
        go_wp2_with fail
        refine (padding_any nm.size (by omega) _).mono ?_
        rintro e w9 ⟨rfl, rfl⟩
        have hp0 : (0 : Int) ≤ (pad4 nm.size : Int) := by omega
        have hp3 : (pad4 nm.size : Int) ≤ 3 := by omega
        go_wp2_with fail
        refine (writeString_x bx3 _ W1.heap.size W1.heap.size (Lib.byteCells (((catN big X k) ++ Hd.data.toList) ++ nm.data.toList)) (((⟨#[0, 0, 0]⟩ : ByteArray).extract 0 (pad4 nm.size))) _ HBD7.out (by rw [Lib.byteCells_length]; (try simp only [List.length_append, ba_len, HE1.out]); have := HLK.out; omega) HB7.out.size HX7.out hxb).mono ?_
        rintro e w8 ⟨rfl, hbd, hl, hx⟩
        have HB8 := Lib.hid (HB7.out.trans hl)
        have HX8 := Lib.hid hx
        have hbd2 : Lib.IsBuilder 66 5 W1.heap.size W1.heap.size (Lib.byteCells ((((catN big X k) ++ Hd.data.toList) ++ nm.data.toList) ++ (((⟨#[0, 0, 0]⟩ : ByteArray).extract 0 (pad4 nm.size))).data.toList)) w8 := .inr (by rw [Lib.byteCells_append]; exact hbd)
        have HBD8 := Lib.hid hbd2
        clear hbd hbd2 hl hx
        clear hp0 hp3
        have xn : w8.cell? ⟨bx3, 2, none⟩ = some (.string ds) := by rw [Lib.cell_of_heap HX8.out]; rfl
        go_wp2_with fail
        refine (writeString_x bx3 _ W1.heap.size W1.heap.size (Lib.byteCells ((((catN big X k) ++ Hd.data.toList) ++ nm.data.toList) ++ ((⟨#[0, 0, 0]⟩ : ByteArray).extract 0 (pad4 nm.size)).data.toList)) (ds) _ HBD8.out (by rw [Lib.byteCells_length]; (try simp only [List.length_append, ba_len, HZ1.out]); have := HLK.out; omega) HB8.out.size HX8.out hxb).mono ?_
        rintro e w9 ⟨rfl, hbd, hl, hx⟩
        have HB9 := Lib.hid (HB8.out.trans hl)
        have HX9 := Lib.hid hx
        have hbd2 : Lib.IsBuilder 66 5 W1.heap.size W1.heap.size (Lib.byteCells (((((catN big X k) ++ Hd.data.toList) ++ nm.data.toList) ++ ((⟨#[0, 0, 0]⟩ : ByteArray).extract 0 (pad4 nm.size)).data.toList) ++ (ds).data.toList)) w9 := .inr (by rw [Lib.byteCells_append]; exact hbd)
        have HBD9 := Lib.hid hbd2
        clear hbd hbd2 hl hx
        clear xn
        go_wp2_with fail
        refine (padding_any ds.size (by omega) _).mono ?_
        rintro e w9 ⟨rfl, rfl⟩
        have hp0 : (0 : Int) ≤ (pad4 ds.size : Int) := by omega
        have hp3 : (pad4 ds.size : Int) ≤ 3 := by omega
        go_wp2_with fail
        refine (writeString_x bx3 _ W1.heap.size W1.heap.size (Lib.byteCells (((((catN big X k) ++ Hd.data.toList) ++ nm.data.toList) ++ ((⟨#[0, 0, 0]⟩ : ByteArray).extract 0 (pad4 nm.size)).data.toList) ++ ds.data.toList)) (((⟨#[0, 0, 0]⟩ : ByteArray).extract 0 (pad4 ds.size))) _ HBD9.out (by rw [Lib.byteCells_length]; (try simp only [List.length_append, ba_len, HZ1.out, HE2.out]); have := HLK.out; omega) HB9.out.size HX9.out hxb).mono ?_
        rintro e w10 ⟨rfl, hbd, hl, hx⟩
        have HB10 := Lib.hid (HB9.out.trans hl)
        have HX10 := Lib.hid hx
        have hbd2 : Lib.IsBuilder 66 5 W1.heap.size W1.heap.size (Lib.byteCells ((((((catN big X k) ++ Hd.data.toList) ++ nm.data.toList) ++ ((⟨#[0, 0, 0]⟩ : ByteArray).extract 0 (pad4 nm.size)).data.toList) ++ ds.data.toList) ++ (((⟨#[0, 0, 0]⟩ : ByteArray).extract 0 (pad4 ds.size))).data.toList)) w10 := .inr (by rw [Lib.byteCells_append]; exact hbd)
        have HBD10 := Lib.hid hbd2
        clear hbd hbd2 hl hx
        clear hp0 hp3
        have hcat : (((((catN big X k) ++ Hd.data.toList) ++ nm.data.toList) ++ ((⟨#[0, 0, 0]⟩ : ByteArray).extract 0 (pad4 nm.size)).data.toList) ++ ds.data.toList) ++ ((⟨#[0, 0, 0]⟩ : ByteArray).extract 0 (pad4 ds.size)).data.toList = catN big X (k + 1) := by
          rw [HCAT.out, HENC.out, HHD.out, ext_zero _ hp1, ext_zero _ hp2]
          simp only [List.append_assoc]
        have HBD11 := Lib.hid HBD10.out
        rw [hcat] at HBD11
        clear hcat
        go_wp2
        exact ⟨⟨k + 1, by omega, by go_num, by rw [HSU.out, HOKK.out]; simpa using hty, HBD11.out, HB10.out⟩, by simp [intOf]; omega⟩
    · obtain rfl : k = n := by omega
      have HV : Hid (putNV big X k = .tuple #[.string ⟨(catN big X k).toArray⟩, .bool true]) := Lib.hid (by unfold putNV; rw [HOK.out]; rfl)
      go_wp2_with fail
      refine (Tryd.Builder_String_any W1.heap.size W1.heap.size _ _ HBD.out HB.out.size).mono ?_
      rintro e w9 ⟨rfl, hl9⟩
      go_wp2
      go_ret2
      exact ⟨by rw [HV.out]; rfl, HE.out _ (HB.out.trans hl9)⟩
end Go.Proofs.YtnmklmaclmjfbaaDoor
