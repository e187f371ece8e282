/- The walk of DynrecPads. Conditions: those written in each theorem. -/
import Derived.Test.YtnmklmaclmjfbaaDoorDL
import Derived.Lib.ConvBytes
namespace Go.Proofs.YtnmklmaclmjfbaaDoor
open Go.RowKit
theorem bw_below (w : World) (e : TypeId) (s : ByteArray) : Below w.heap.size w (Lib.bytesWorld w e s) :=
  ⟨rfl, rfl, rfl, by rw [Lib.bytesWorld_size]; omega, fun k hk => Lib.bytesWorld_at_old w e s k hk⟩
theorem bw_cell (w : World) (s : ByteArray) (j : Nat) (hj : j < s.size) : (Lib.bytesWorld w 5 s).cell? ⟨w.heap.size, j, none⟩ = some (.int .u8 ((s.data.toList.getD j 0).toNat : Int)) ∧ (Lib.bytesWorld w 5 s).frozen? ⟨w.heap.size, j, none⟩ = false := by
  refine ⟨Lib.bytesWorld_cell w 5 s j hj, ?_⟩
  simp [World.frozen?, Lib.bytesWorld_at_new, Lib.bytesCells]
  intro h
  have : s.data.size = s.size := rfl
  omega
set_option maxRecDepth 100000 in
set_option maxHeartbeats 4000000 in
theorem pads_t (fl at_ : Int) (nm0 nm : ByteArray) (c : UInt8) (m : Nat) (hm : (nm0.size ≤ 40 ∧ m = nm0.size) ∨ (40 < nm0.size ∧ m = 40)) (hnm : nm0.extract 0 m = nm) (hl : nm0.size ≤ 9223372036854775807)
    (big wide : Bool) (hb : (bits BinOp.and IntKind.i64 fl 1 == 1) = big) (hw : (bits BinOp.and IntKind.i64 fl 2 == 2) = wide) (w : World) :
    Calls Tryd.prog 5 #[.agg #[.int .i64 fl, .int .i64 at_], .string nm0, .int .u8 (c.toNat : Int)] w fun e w' => e = .returned (.bool true) ∧ Below w.heap.size w w' := by
  have HF := Lib.hid (fun u => dform fl big wide hb hw u)
  have n0 : (0 : Int) ≤ (m : Int) := by omega
  have n1 : (m : Int) ≤ (nm0.size : Int) := by rcases hm with ⟨h1, h2⟩ | ⟨h1, h2⟩ <;> omega
  have n2 : min (nm0.size : Int) 40 = (m : Int) := by rcases hm with ⟨h1, h2⟩ | ⟨h1, h2⟩ <;> omega
  have n3 : (if (nm0.size : Int) ≤ 40 then (nm0.size : Int) else 40) = (m : Int) := by rcases hm with ⟨h1, h2⟩ | ⟨h1, h2⟩ <;> split <;> omega
  have hns : nm.size ≤ 40 := by rw [← hnm]; simp; rcases hm with ⟨h1, h2⟩ | ⟨h1, h2⟩ <;> omega
  clear hb hw hm hl
  have hF0 : (w.alloc (.cells #[.int .i64 fl, .int .i64 at_] 55)).cell? ⟨w.heap.size, 0, none⟩ = some (.int .i64 fl) := by simp
  have hF1 : (w.alloc (.cells #[.int .i64 fl, .int .i64 at_] 55)).cell? ⟨w.heap.size, 1, none⟩ = some (.int .i64 at_) := by simp
  have hW := below_more (Below.refl w.heap.size w) (.cells #[.int .i64 fl, .int .i64 at_] 55)
  have hz : w.heap.size < (w.alloc (.cells #[.int .i64 fl, .int .i64 at_] 55)).heap.size := by simp
  go_enter Tryd.func5, Tryd.ntmps5
  go_wp2_with fail
  generalize (w.alloc (.cells #[.int .i64 fl, .int .i64 at_] 55)) = W0 at *
  refine (dspeaks _).mono ?_
  rintro e w1 ⟨rfl, h1⟩
  have HX0 : Hid (∀ u, Below w1.heap.size w1 u → u.cell? ⟨w.heap.size, 0, none⟩ = some (.int .i64 fl)) := Lib.hid (fun u h => ((h1.trans (h.mono h1.size)).cell (by exact hz)).trans hF0)
  have HX1 : Hid (∀ u, Below w1.heap.size w1 u → u.cell? ⟨w.heap.size, 1, none⟩ = some (.int .i64 at_)) := Lib.hid (fun u h => ((h1.trans (h.mono h1.size)).cell (by exact hz)).trans hF1)
  have HB1 := Lib.hid (hW.trans (h1.mono hW.size))
  clear h1 hF0 hF1 hW hz
  go_upto_region 3 with (fail)
  refine wp_region_held_drew (S := fun w' => Below w1.heap.size w1 w') (by kernel_rfl) ?_ (fun hHeld => ?_)
  · exact (Below.refl _ _).drew
  refine wpAnyH_take (i := 0) (oi := { dst := some 18, op := Go.Op.indexAddr 55 (Go.Operand.tmp 3) (Go.Operand.const (Go.Value.int Go.IntKind.i64 0)), type := 0, pos := "law.go:108", after := #[], guard := none }) (v := ?_) rfl (by kernel_rfl) (by kernel_rfl) (by kernel_rfl) (fun _ _ _ h => h) (Or.inl ⟨by rfl, ?_⟩) (by assumption) ?_
  rotate_left
  · (intro w hSw; (try dsimp only at hSw); go_simp <;> with_reducible rfl)
  try simp only [Act.put, List.setIfInBounds_toArray, List.set_cons_zero, List.set_cons_succ]
  refine wpAnyH_take (i := 2) (oi := { dst := some 20, op := Go.Op.indexAddr 55 (Go.Operand.tmp 3) (Go.Operand.const (Go.Value.int Go.IntKind.i64 1)), type := 0, pos := "law.go:108", after := #[{ on := 4, ground := Go.Ground.gcOnly Go.Departure.lateStores }], guard := none }) (v := ?_) rfl (by kernel_rfl) (by kernel_rfl) (by kernel_rfl) (fun _ _ _ h => h) (Or.inl ⟨by rfl, ?_⟩) (by assumption) ?_
  rotate_left
  · (intro w hSw; (try dsimp only at hSw); go_simp <;> with_reducible rfl)
  try simp only [Act.put, List.setIfInBounds_toArray, List.set_cons_zero, List.set_cons_succ]
  refine wpAnyH_take (i := 1) (oi := { dst := some 19, op := Go.Op.load 3 (Go.Operand.tmp 18), type := 3, pos := "law.go:108", after := #[{ on := 0, ground := Go.Ground.data }], guard := none }) (v := ?_) rfl (by kernel_rfl) (by kernel_rfl) (by kernel_rfl) (fun _ _ _ h => h) (Or.inl ⟨by rfl, ?_⟩) (by assumption) ?_
  rotate_left
  · (intro w hSw; have q0 := HX0.out w hSw; (try dsimp only at hSw); go_simp <;> with_reducible rfl)
  try simp only [Act.put, List.setIfInBounds_toArray, List.set_cons_zero, List.set_cons_succ]
  refine wpAnyH_take (i := 3) (oi := { dst := some 21, op := Go.Op.load 3 (Go.Operand.tmp 20), type := 3, pos := "law.go:108", after := #[{ on := 2, ground := Go.Ground.data }, { on := 4, ground := Go.Ground.gcOnly Go.Departure.lateStores }], guard := none }) (v := ?_) rfl (by kernel_rfl) (by kernel_rfl) (by kernel_rfl) (fun _ _ _ h => h) (Or.inl ⟨by rfl, ?_⟩) (by assumption) ?_
  rotate_left
  · (intro w hSw; have q0 := HX1.out w hSw; (try dsimp only at hSw); go_simp <;> with_reducible rfl)
  try simp only [Act.put, List.setIfInBounds_toArray, List.set_cons_zero, List.set_cons_succ]
  refine wpAnyH_take (i := 4) (oi := { dst := some 7, op := Go.Op.assign (Go.Operand.tmp 19), type := 3, pos := "law.go:108", after := #[{ on := 1, ground := Go.Ground.data }, { on := 0, ground := Go.Ground.phase }, { on := 1, ground := Go.Ground.phase }, { on := 2, ground := Go.Ground.textOnly Go.Departure.lateStores }, { on := 3, ground := Go.Ground.textOnly Go.Departure.lateStores }], guard := none }) (v := ?_) rfl (by kernel_rfl) (by kernel_rfl) (by kernel_rfl) (fun _ _ _ h => h) (Or.inl ⟨by rfl, ?_⟩) (by assumption) ?_
  rotate_left
  · (intro w hSw; (try dsimp only at hSw); go_simp <;> with_reducible rfl)
  try simp only [Act.put, List.setIfInBounds_toArray, List.set_cons_zero, List.set_cons_succ]
  refine wpAnyH_take (i := 5) (oi := { dst := some 8, op := Go.Op.assign (Go.Operand.tmp 21), type := 3, pos := "law.go:108", after := #[{ on := 3, ground := Go.Ground.data }, { on := 4, ground := Go.Ground.chain }, { on := 0, ground := Go.Ground.phase }, { on := 1, ground := Go.Ground.phase }, { on := 2, ground := Go.Ground.phase }, { on := 3, ground := Go.Ground.phase }, { on := 4, ground := Go.Ground.phase }], guard := none }) (v := ?_) rfl (by kernel_rfl) (by kernel_rfl) (by kernel_rfl) (fun _ _ _ h => h) (Or.inl ⟨by rfl, ?_⟩) (by assumption) ?_
  rotate_left
  · (intro w hSw; (try dsimp only at hSw); go_simp <;> with_reducible rfl)
  try simp only [Act.put, List.setIfInBounds_toArray, List.set_cons_zero, List.set_cons_succ]
  refine wpAnyH_done (by kernel_rfl) ?_ _
  have HB2 := Lib.hid (HB1.out.trans (hHeld.mono HB1.out.size))
  clear hHeld HX0 HX1
  generalize w1.drew = w2 at *
  go_wp2_with fail
  refine (HF.out _).mono ?_
  rintro e w3 ⟨rfl, h3⟩
  have HB3 := Lib.hid (HB2.out.trans (h3.mono HB2.out.size))
  clear h3
  go_upto_region 5 with (fail)
  have F0 : (w3.alloc (.cells #[.bool big, .bool wide] 27)).cell? ⟨w3.heap.size, 0, none⟩ = some (.bool big) := by simp
  have F1 : (w3.alloc (.cells #[.bool big, .bool wide] 27)).cell? ⟨w3.heap.size, 1, none⟩ = some (.bool wide) := by simp
  have hz : w3.heap.size < (w3.alloc (.cells #[.bool big, .bool wide] 27)).heap.size := by simp
  have HB4 := Lib.hid (HB3.out.alloc HB3.out.size (.cells #[.bool big, .bool wide] 27))
  generalize (w3.alloc (.cells #[.bool big, .bool wide] 27)) = W1 at *
  generalize w3.heap.size = bx at *
  have HF0 : Hid (∀ u, Below W1.heap.size W1 u → u.cell? ⟨bx, 0, none⟩ = some (.bool big)) := Lib.hid (fun u h => (h.cell (by exact hz)).trans F0)
  have HF1 : Hid (∀ u, Below W1.heap.size W1 u → u.cell? ⟨bx, 1, none⟩ = some (.bool wide)) := Lib.hid (fun u h => (h.cell (by exact hz)).trans F1)
  have hnm2 : nm0.extract 0 m = nm := hnm
  go_upto_region 6 with (fail)
  clear n0 n1 n2 n3 hnm hnm2
  have hput : ∀ (g : Nat) (u : World), u.heap[g]? = some (.cells #[.int .u64 0, .string nm, .string ⟨#[]⟩] 48 (0, 0)) → Calls Tryd.prog 12 #[.agg #[.bool big, .bool wide], .slice (some ⟨g, 0, none⟩) 1 1] u fun e w' => e = .returned (.tuple #[.string ⟨(encN big ⟨0, nm, ⟨#[]⟩⟩).toArray⟩, .bool true]) ∧ Below u.heap.size u w' := fun g u h => by
    have hp4 := pad4_le nm.size
    have := putNotes_any big wide (some ⟨g, 0, none⟩) 1 1 (fun _ => ⟨0, nm, ⟨#[]⟩⟩) (by decide) (by
      show ([] ++ encN big ⟨0, nm, ⟨#[]⟩⟩).length ≤ 1048576
      rw [List.nil_append, encN_length]
      unfold sizN
      have h0 : pad4 (⟨#[]⟩ : ByteArray).size = 0 := rfl
      have h1 : (⟨#[]⟩ : ByteArray).size = 0 := rfl
      dsimp only
      rw [h0, h1]
      omega) (fun _ _ => by show (0 : Nat) < _; decide) u (fun i hi => by
      obtain rfl : i = 0 := by omega
      exact ⟨g, 0, rfl, (Array.getElem?_eq_some_iff.1 h).1, by rw [Lib.cell_of_heap h]; rfl, by rw [Lib.cell_of_heap h]; rfl, by rw [Lib.cell_of_heap h]; rfl⟩)
    exact this
  have HPUT := Lib.hid hput; clear hput
  have hSs : (ByteArray.mk (encN big ⟨0, nm, ⟨#[]⟩⟩).toArray).size = 12 + nm.size + pad4 nm.size := by
    have : (ByteArray.mk (encN big ⟨0, nm, ⟨#[]⟩⟩).toArray).size = (encN big ⟨0, nm, ⟨#[]⟩⟩).length := by simp [ByteArray.size]
    rw [this, encN_length]
    unfold sizN
    have h0 : pad4 (⟨#[]⟩ : ByteArray).size = 0 := rfl
    have h1 : (⟨#[]⟩ : ByteArray).size = 0 := rfl
    dsimp only
    rw [h0, h1]
    omega
  have HSL : Hid ((ByteArray.mk (encN big ⟨0, nm, ⟨#[]⟩⟩).toArray).data.toList = encN big ⟨0, nm, ⟨#[]⟩⟩) := Lib.hid rfl
  generalize (ByteArray.mk (encN big ⟨0, nm, ⟨#[]⟩⟩).toArray) = S at *
  have HSS := Lib.hid hSs; clear hSs
  go_wp2_with fail
  refine (HPUT.out W1.heap.size _ (heap_alloc_new _ _)).mono ?_
  rintro e w5 ⟨rfl, h5⟩
  have h15 : Below W1.heap.size W1 w5 := (below_more (Below.refl _ W1) _).trans (h5.mono (by simp))
  have HW5 := Lib.hid h15
  have HB5 := Lib.hid (HB4.out.trans (h15.mono HB4.out.size))
  clear h5 h15 F0 F1
  have hr1 : (nm.size : Int).tmod 4 = ((nm.size % 4 : Nat) : Int) := by show (nm.size : Int).tmod ((4 : Nat) : Int) = _; rw [← Int.ofNat_tmod]
  have hr2 : (nm.size : Int) % 4 = ((nm.size % 4 : Nat) : Int) := by omega
  have hp1 : (4 - ((nm.size % 4 : Nat) : Int)).tmod 4 = ((pad4 nm.size : Nat) : Int) := by
    have e : 4 - ((nm.size % 4 : Nat) : Int) = ((4 - nm.size % 4 : Nat) : Int) := by omega
    rw [e]; show ((4 - nm.size % 4 : Nat) : Int).tmod ((4 : Nat) : Int) = _; rw [← Int.ofNat_tmod]; rfl
  have hp2 : (4 - ((nm.size % 4 : Nat) : Int)) % 4 = ((pad4 nm.size : Nat) : Int) := by unfold pad4; omega
  have hp4 := pad4_le nm.size
  have hlt4 : nm.size % 4 < 4 := Nat.mod_lt _ (by decide)
  have HSMALL : Hid (nm.size < 4294967296) := Lib.hid (by omega)
  generalize hnp : pad4 nm.size = np at *
  have HNP := Lib.hid hnp; clear hnp
  generalize nm.size % 4 = r at *
  by_cases hz0 : np = 0
  · subst hz0
    have q1 : (((0 : Nat) : Int)) = 0 := rfl
    rw [q1] at hp1 hp2
    go_wp2
    go_ret
    exact ⟨rfl, HB5.out⟩
  · have hnp0 : 1 ≤ np := by omega
    obtain ⟨q0, hq0, b1, b2⟩ : ∃ q0 : Int, at_.tmod (np : Int) = q0 ∧ -(np : Int) < q0 ∧ q0 < (np : Int) := by
      refine ⟨_, rfl, ?_⟩
      have h := Int.natAbs_tmod at_ (np : Int)
      rw [Int.natAbs_natCast] at h
      have h2 := Nat.mod_lt at_.natAbs (show 0 < np by omega)
      omega
    obtain ⟨q, hq1, hq2, hqlt⟩ : ∃ q : Nat, (q0 + (np : Int)).tmod (np : Int) = (q : Nat) ∧ (q0 + (np : Int)) % (np : Int) = (q : Nat) ∧ q < np := by
      obtain ⟨t, ht⟩ := Int.eq_ofNat_of_zero_le (show 0 ≤ q0 + (np : Int) by omega)
      refine ⟨t % np, ?_, ?_, Nat.mod_lt _ (by omega)⟩
      · rw [ht, ← Int.ofNat_tmod]
      · rw [ht, Int.natCast_emod]
    obtain ⟨I, hI⟩ : ∃ I : Nat, I = 12 + nm.size + q := ⟨_, rfl⟩
    have hI1 : (12 : Int) + (nm.size : Int) + (q : Int) = (I : Int) := by omega
    have HPAD : Hid (∀ W : World, ∀ e W', NotesPost big ⟨(padL big nm q c).toArray⟩ W e W' → Below W.heap.size W W' ∧ ((c = 0 ∧ ∃ v, e = .returned (.tuple #[v, .int .i64 0])) ∨ (c ≠ 0 ∧ ∃ v, e = .returned (.tuple #[v, .int .i64 6])))) := Lib.hid (fun W e W' h => notes_pad HSMALL.out (by rw [HNP.out]; exact hqlt) rfl h)
    have HPL : Hid (padL big nm q c = (encN big ⟨0, nm, ⟨#[]⟩⟩).set I c) := Lib.hid (by rw [hI]; rfl)
    have hIS : I < S.size := by rw [HSS.out]; omega
    have hS53 : S.size ≤ 55 := by rw [HSS.out]; omega
    have HLEN : Hid ((padL big nm q c).length = S.size) := Lib.hid (by rw [HPL.out, List.length_set, ← HSL.out, ba_len])
    have hNA := fun (W : World) => notes_any big wide ⟨(padL big nm q c).toArray⟩ (by
      have : (ByteArray.mk (padL big nm q c).toArray).size = (padL big nm q c).length := by simp [ByteArray.size]
      rw [this, HLEN.out]; omega) W
    have HNA := Lib.hid hNA; clear hNA
    have hcv : ∀ w, (convert 9 56 (.string S)).run Tryd.prog w = .ok (.slice (some ⟨w.heap.size, 0, none⟩) S.size (grownCap w S.size 0 5)) (Lib.bytesWorld w 5 S) := fun w => Lib.run_convert_string_bytes (P := Tryd.prog) w 9 56 5 S Tryd.underlying9 Tryd.underlying56 Tryd.underlying5
    have hz1 : ¬ (np : Int) = 0 := by omega
    have hz2 : ((np : Int) == 0) = false := by simpa using hz1
    have HC : Hid (∀ j, j < S.size → (Lib.bytesWorld w5 5 S).cell? ⟨w5.heap.size, j, none⟩ = some (.int .u8 ((S.data.toList.getD j 0).toNat : Int)) ∧ (Lib.bytesWorld w5 5 S).frozen? ⟨w5.heap.size, j, none⟩ = false) := Lib.hid (fun j hj => bw_cell w5 S j hj)
    have HBW := Lib.hid (bw_below w5 5 S)
    have hbxg : bx < w5.heap.size := by have := HW5.out.size; omega
    have hsz6 : w5.heap.size < (Lib.bytesWorld w5 5 S).heap.size := by rw [Lib.bytesWorld_size]; omega
    clear hnp0 hI
    go_upto_region 11 with (fail)
    clear hcv
    generalize Lib.bytesWorld w5 5 S = W6 at *
    generalize grownCap w5 S.size 0 5 = cap at *
    have HF6 : Hid (Below W1.heap.size W1 W6) := Lib.hid (HW5.out.trans (HBW.out.mono HW5.out.size))
    have HB6 := Lib.hid (HB5.out.trans (HBW.out.mono HB5.out.size))
    have hg5 := HB5.out.size
    generalize w5.heap.size = g at *
    obtain ⟨hci, hfi⟩ := HC.out I hIS
    go_upto_region 12 with (fail)
    clear hci hfi hr1 hr2 hp1 hp2 hq0 hq1 hq2 b1 b2 hI1 hz1 hz2
    have HB7 := Lib.hid (HB6.out.setCell (p := ⟨g, I, none⟩) (by show w.heap.size ≤ g; omega) (.int .u8 (c.toNat : Int)))
    have hcb : (convert 56 9 (.slice (some ⟨g, 0, none⟩) S.size cap)).run Tryd.prog (W6.setCell ⟨g, I, none⟩ (.int .u8 (c.toNat : Int))) = .ok (.string ⟨(padL big nm q c).toArray⟩) (W6.setCell ⟨g, I, none⟩ (.int .u8 (c.toNat : Int))) := by
      have h := run_convert_bytes_back (P := Tryd.prog) (W6.setCell ⟨g, I, none⟩ (.int .u8 (c.toNat : Int))) 56 9 5 ⟨g, 0, none⟩ cap (padL big nm q c) Tryd.underlying56 Tryd.underlying5 Tryd.underlying9 (fun j hj => by
        rw [HLEN.out] at hj
        obtain ⟨h1, _⟩ := HC.out j hj
        rw [Go.WideShapes.add_plain, Nat.zero_add]
        by_cases e : j = I
        · subst e
          rw [World.cell?_setCell_same _ _ _ h1]
          simp only [HPL.out, List.getElem_set_self]
        · rw [World.cell?_setCell_other _ _ _ _ (fun h => e (by injection h with _ h _; exact h.symm)), h1]
          have e2 : (padL big nm q c)[j] = S.data.toList.getD j 0 := by
            simp only [HPL.out]
            rw [List.getElem_set_ne (fun h => e h.symm), List.getD_eq_getElem?_getD, HSL.out, List.getElem?_eq_getElem (by rw [← HSL.out, ba_len]; exact hj)]
            rfl
          rw [e2])
      rw [HLEN.out] at h
      exact h
    have f0 : (W6.setCell ⟨g, I, none⟩ (.int .u8 (c.toNat : Int))).cell? ⟨bx, 0, none⟩ = some (.bool big) := by
      rw [World.cell?_setCell_other _ _ _ _ (fun h => by injection h with h _ _; omega)]; exact HF0.out _ HF6.out
    have f1 : (W6.setCell ⟨g, I, none⟩ (.int .u8 (c.toNat : Int))).cell? ⟨bx, 1, none⟩ = some (.bool wide) := by
      rw [World.cell?_setCell_other _ _ _ _ (fun h => by injection h with h _ _; omega)]; exact HF1.out _ HF6.out
    generalize (W6.setCell ⟨g, I, none⟩ (.int .u8 (c.toNat : Int))) = W7 at *
    generalize ByteArray.mk (padL big nm q c).toArray = PP at *
    go_wp2_with fail
    refine (HNA.out _).mono ?_
    intro e w8 h8
    obtain ⟨hB8, ⟨hc, v, rfl⟩ | ⟨hc, v, rfl⟩⟩ := HPAD.out _ _ _ h8
    · subst hc
      have HB8 := Lib.hid (HB7.out.trans (hB8.mono HB7.out.size))
      clear h8 hB8 f0 f1 hcb
      have hc0 : ((0 : UInt8).toNat : Int) = 0 := rfl
      go_wp2
      go_ret
      exact ⟨by first | rfl | simp, HB8.out⟩
    · have hc1 : ¬ (c.toNat : Int) = 0 := fun h => hc (UInt8.toNat_inj.1 (by exact_mod_cast h))
      have hc2 : ((c.toNat : Int) == 0) = false := by simpa using hc1
      have hc3 : ((c.toNat : Int) != 0) = true := by simpa using hc1
      have HB8 := Lib.hid (HB7.out.trans (hB8.mono HB7.out.size))
      clear h8 hB8 f0 f1 hcb hc
      go_wp2
      go_ret
      exact ⟨by first | rfl | simp, HB8.out⟩
end Go.Proofs.YtnmklmaclmjfbaaDoor
