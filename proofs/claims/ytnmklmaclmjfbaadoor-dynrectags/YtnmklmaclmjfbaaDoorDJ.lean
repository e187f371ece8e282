/- The contract of dynrec's Notes. Conditions: those written in each theorem. -/
import Derived.Test.YtnmklmaclmjfbaaDoorDI
namespace Go.Proofs.YtnmklmaclmjfbaaDoor
open Go.RowKit
def cellsNt (x : Nt) : List Value := [.int .u64 (x.ty : Nat), .string x.name, .string x.desc]
def flatNt (l : List Nt) : List Value := l.flatMap cellsNt
theorem flatNt_snoc (l : List Nt) (x : Nt) : flatNt (l ++ [x]) = flatNt l ++ cellsNt x := by simp [flatNt]
theorem infoNt : (Tryd.prog.info? 48).map (fun i => (i.zero, i.size, i.bytes)) = some (some (.agg #[.int .u64 0, .string ⟨#[]⟩, .string ⟨#[]⟩]), 3, 40) := by kernel_rfl
theorem cells_new (w : World) (l : List Value) (t : TypeId) : ∀ j u, l[j]? = some u → (w.alloc (.cells l.toArray t)).cell? ((⟨w.heap.size, 0, none⟩ : Addr).add j) = some u := fun j u h => by
  rw [Go.WideShapes.add_plain, Nat.zero_add, Lib.cell_of_heap (heap_alloc_new w _)]
  simpa using h
theorem own_floor {w : World} {B e size n : Nat} {v : Value} {xs : List Value} (h : w.ownsRow B e size v n xs) : ∀ k, v.ownBlock = some k → B ≤ k := fun k hk => by
  rcases h.2 with ⟨rfl, _⟩ | ⟨g, cap, cur, rfl, h2, _⟩
  · cases hk
  · cases hk; exact h2
theorem own_lower {w : World} {B B' e size n : Nat} {v : Value} {xs : List Value} (h : w.ownsRow B e size v n xs) (hb : B' ≤ B) : w.ownsRow B' e size v n xs := by
  refine ⟨h.1, ?_⟩
  rcases h.2 with h1 | ⟨g, cap, cur, h1, h2, h3⟩
  · exact .inl h1
  · exact .inr ⟨g, cap, cur, h1, Nat.le_trans hb h2, h3⟩
theorem own_only2 {w w' : World} {B e size n R z : Nat} {v : Value} {xs : List Value} (h : w.ownsRow B e size v n xs) (ho : Only2 R z w w') (hR : R < B) (hz : z < B) : w'.ownsRow B e size v n xs := by
  refine ⟨h.1, ?_⟩
  rcases h.2 with h1 | ⟨g, cap, cur, h1, h2, h3, h4⟩
  · exact .inl h1
  · exact .inr ⟨g, cap, cur, h1, h2, by rw [ho.block g (Array.getElem?_eq_some_iff.1 h3).1 (by omega) (by omega)]; exact h3, h4⟩
def lenV : Value → Nat
  | .slice _ n _ => n
  | _ => 0
theorem own_len {w : World} {B e size n : Nat} {v : Value} {xs : List Value} (h : w.ownsRow B e size v n xs) : lenV v = n := by
  rcases h.2 with ⟨rfl, rfl⟩ | ⟨g, cap, cur, rfl, _⟩
  · rfl
  · rfl
theorem nxV_lt (big : Bool) (s : ByteArray) (p m : Nat) (b : Bool) (hm : m ≤ 8) : nxV big s p m b < 18446744073709551616 := by
  unfold nxV
  split
  · have hl : ((s.data.toList.drop p).take m).length ≤ m := List.length_take_le _ _
    have h := Num.getN_lt big ((s.data.toList.drop p).take m) (by omega)
    have h2 : 256 ^ ((s.data.toList.drop p).take m).length ≤ 256 ^ 8 := Nat.pow_le_pow_right (by decide) (by omega)
    have h3 : (256 : Nat) ^ 8 = 18446744073709551616 := by decide
    omega
  · decide
theorem own_shape {w : World} {B e size n : Nat} {v : Value} {xs : List Value} (h : w.ownsRow B e size v n xs) : ∃ ao n' cap, v = .slice ao n' cap := by
  rcases h.2 with ⟨hv, _⟩ | ⟨g, cap, cur, hv, _⟩
  · exact ⟨_, _, _, hv⟩
  · exact ⟨_, _, _, hv⟩
def NotesPost (big : Bool) (s : ByteArray) (w : World) (e : Ending) (w' : World) : Prop := Below w.heap.size w w' ∧ ∃ k p l z, runN big s k = some (p, l, z) ∧
  ((s.size ≤ p ∧ z = true ∧ ∃ v, e = .returned (.tuple #[v, .int .i64 0]) ∧ w'.ownsRow w.heap.size 48 3 v k (flatNt l)) ∨
   (s.size ≤ p ∧ z = false ∧ e = .returned (.tuple #[.slice none 0 0, .int .i64 6])) ∨
   (p < s.size ∧ (stepN big s p).bad = true ∧ e = .returned (.tuple #[.slice none 0 0, .int .i64 3])))
set_option maxRecDepth 100000 in
set_option maxHeartbeats 4000000 in
theorem notes_any (big wide : Bool) (s : ByteArray) (hs : s.size ≤ 100000) (w : World) : Calls Tryd.prog 14 #[.agg #[.bool big, .bool wide], .string s] w (NotesPost big s w) := by
  obtain ⟨i0, hi, hz0, hz1, hz2⟩ := info_parts infoNt
  go_enter Tryd.func14, Tryd.ntmps14
  go_wp2_with fail
  refine (read_any big s 0 _).mono ?_
  rintro e w1 ⟨rfl, hI, hB, hsz⟩
  have hR0 : w.heap.size ≤ (w.alloc (.cells #[.bool big, .bool wide] 27)).heap.size + 1 := by simp; omega
  have hR1 : (w.alloc (.cells #[.bool big, .bool wide] 27)).heap.size + 1 < w1.heap.size := by omega
  have hBw : Below w.heap.size w w1 := ((Below.refl _ _).alloc (Nat.le_refl _) _).trans (hB.mono (by simp))
  clear hB hsz
  generalize (w.alloc (.cells #[.bool big, .bool wide] 27)).heap.size + 1 = R at *
  go_upto_block 0 with (fail)
  have hI3 : IsRd ((w1.alloc (.cells #[.pointer (some ⟨R, 0, none⟩)] 75)).alloc (.cells #[.bool true] 4)) R big s 0 0 := hI.only (((Below.refl _ _).alloc (Nat.le_refl _) _).alloc (by simp) _)
  have hV1 : Var1 ((w1.alloc (.cells #[.pointer (some ⟨R, 0, none⟩)] 75)).alloc (.cells #[.bool true] 4)) w1.heap.size (.pointer (some ⟨R, 0, none⟩)) 75 := heap_up _ (heap_alloc_new w1 _)
  have hV2 : Var1 ((w1.alloc (.cells #[.pointer (some ⟨R, 0, none⟩)] 75)).alloc (.cells #[.bool true] 4)) (w1.heap.size + 1) (.bool true) 4 := two_new _ _ _
  have hBw3 : Below w.heap.size w ((w1.alloc (.cells #[.pointer (some ⟨R, 0, none⟩)] 75)).alloc (.cells #[.bool true] 4)) := below_more (below_more hBw _) _
  have hz3 : ((w1.alloc (.cells #[.pointer (some ⟨R, 0, none⟩)] 75)).alloc (.cells #[.bool true] 4)).heap.size = w1.heap.size + 2 := by simp
  have hw1 := hBw.size
  clear hI hBw
  generalize ((w1.alloc (.cells #[.pointer (some ⟨R, 0, none⟩)] 75)).alloc (.cells #[.bool true] 4)) = W3 at *
  generalize hB : W3.heap.size = B at *
  have HSZ3 := Lib.hid hB; clear hB
  have hRB : R < B := by omega
  have hrB : w1.heap.size < B := by omega
  have hzB : w1.heap.size + 1 < B := by omega
  have hRr : w1.heap.size ≠ R := by omega
  have hRz : R ≠ w1.heap.size + 1 := by omega
  have hrz : w1.heap.size ≠ w1.heap.size + 1 := by omega
  have hbr0 : w.heap.size ≤ w1.heap.size := hw1
  have hBz : w.heap.size ≤ w1.heap.size + 1 := by omega
  clear hz3 hR1 hw1
  generalize hbz : w1.heap.size + 1 = bz at *
  clear hbz
  generalize w1.heap.size = br at *
  have HI3 := Lib.hid hI3; have HV1 := Lib.hid hV1; have HV2 := Lib.hid hV2; have HBW3 := Lib.hid hBw3
  clear hI3 hV1 hV2 hBw3
  go_wp2
  go_loopw [6] (fun v wr => ∃ k p l z, runN big s k = some (p, l, z) ∧ wr.ownsRow B 48 3 v k (flatNt l) ∧ IsRd wr R big s p 0 ∧ Var1 wr br (.pointer (some ⟨R, 0, none⟩)) 75 ∧ Var1 wr bz (.bool z) 4 ∧ Below w.heap.size w wr ∧ B ≤ wr.heap.size) (fun v _ => s.size + 1 - lenV v)
  case atStart => exact ⟨0, 0, [], true, rfl, World.ownsRow_nil _ _ _ _, HI3.out, HV1.out, HV2.out, HBW3.out, by rw [HSZ3.out]; exact Nat.le_refl _⟩
  case round =>
    obtain ⟨k, p, l, z, hrun, hown, hI, hv1, hv2, hB, hBs⟩ := hrel
    obtain ⟨hps, hlk, _, h12⟩ := run_back k hrun
    have HRUN := Lib.hid hrun; have HOWN := Lib.hid hown; have HI := Lib.hid hI; have HV1 := Lib.hid hv1; have HV2 := Lib.hid hv2; have HB := Lib.hid hB
    have HLV := Lib.hid (own_len hown)
    clear hrun hown hI hv1 hv2 hB hlk
    have wa : IntKind.u64.wrap (s.size : Int) = (s.size : Int) := by rw [IntKind.wrap_u64]; omega
    have r0 := HV1.out.cell
    by_cases hlt : p < s.size
    · have d1 : decide (p < s.size) = true := by simpa using hlt
      go_wp2_with fail
      refine (at_any R big s p 0 _ HI.out).mono ?_
      rintro e w2 ⟨rfl, rfl⟩
      go_upto_region 6 with (fail)
      clear d1 wa r0
      have GR : Hid (∀ u, OnlyAt R wr u → u.cell? ⟨br, 0, none⟩ = some (.pointer (some ⟨R, 0, none⟩))) := Lib.hid (fun u hu => (HV1.out.only hu hRr).cell)
      have HID : Hid (IsRd wr.drew R big s p (errI false)) := Lib.hid (HI.out.only (Below.refl _ _).drew)
      refine wp_region_held_drew (S := fun w' => OnlyAt R wr w') (by kernel_rfl) ?_ (fun hHeld => ?_)
      · exact (OnlyAt.refl _ _).drew
      refine wpAnyH_take (i := 0) (oi := { dst := some 24, op := Go.Op.load 75 (Go.Operand.tmp 7), type := 75, pos := "notes.go:33", after := #[], guard := none }) (v := ?_) rfl (by kernel_rfl) (by kernel_rfl) (by kernel_rfl) (fun _ _ _ h => h) (Or.inl ⟨by rfl, ?_⟩) (by assumption) ?_
      rotate_left
      · (intro w hSw; have q0 := GR.out w hSw; (try dsimp only at hSw); go_simp <;> with_reducible rfl)
      try simp only [Act.put, List.setIfInBounds_toArray, List.set_cons_zero, List.set_cons_succ]
      refine wpAnyH_take (i := 2) (oi := { dst := some 26, op := Go.Op.load 75 (Go.Operand.tmp 7), type := 75, pos := "notes.go:33", after := #[], guard := none }) (v := ?_) rfl (by kernel_rfl) (by kernel_rfl) (by kernel_rfl) (fun _ _ _ h => h) (Or.inl ⟨by rfl, ?_⟩) (by assumption) ?_
      rotate_left
      · (intro w hSw; have q0 := GR.out w hSw; (try dsimp only at hSw); go_simp <;> with_reducible rfl)
      try simp only [Act.put, List.setIfInBounds_toArray, List.set_cons_zero, List.set_cons_succ]
      refine wpAnyH_ready (rs := [1]) (by kernel_rfl) (by simp) ?_
      refine AllReadyH.cons (o := { dst := some 25, op := Go.Op.call { callee := Go.Callee.value (Go.Operand.func 23), args := #[Go.Operand.tmp 24, Go.Operand.const (Go.Value.int Go.IntKind.i64 4)], argTypes := #[75, 3] }, type := 31, pos := "notes.go:33", after := #[{ on := 0, ground := Go.Ground.data }], guard := none }) rfl (fun K hK => ?_) AllReadyH.nil
      (first | go_at_call 23 | (go_simp; go_at_call 23))
      refine (next_fn R big s p 4 false _ HID.out (by omega) (by decide) (by decide)).mono ?_
      rintro e w5 ⟨rfl, hI5, hO5⟩
      have HI5 := Lib.hid hI5; clear hI5
      try go_wp2_with fail
      refine hK.out _ _ ?_ (fun hHeld2 => ?_)
      · exact hHeld.trans hO5
      clear hK K
      try simp only [Act.put, List.setIfInBounds_toArray, List.set_cons_zero, List.set_cons_succ]
      refine wpAnyH_ready (rs := [3]) (by kernel_rfl) (by simp) ?_
      refine AllReadyH.cons (o := { dst := some 27, op := Go.Op.call { callee := Go.Callee.value (Go.Operand.func 23), args := #[Go.Operand.tmp 26, Go.Operand.const (Go.Value.int Go.IntKind.i64 4)], argTypes := #[75, 3] }, type := 31, pos := "notes.go:33", after := #[{ on := 2, ground := Go.Ground.data }, { on := 1, ground := Go.Ground.chain }], guard := none }) rfl (fun K hK => ?_) AllReadyH.nil
      (first | go_at_call 23 | (go_simp; go_at_call 23))
      refine (next_fn R big s (nxP s p 4 false) 4 (nxB s p 4 false) _ HI5.out (by omega) (by decide) (by decide)).mono ?_
      rintro e w6 ⟨rfl, hI6, hO6⟩
      try go_wp2_with fail
      refine hK.out _ _ ?_ (fun hHeld3 => ?_)
      · exact hHeld2.trans hO6
      clear hK K
      try simp only [Act.put, List.setIfInBounds_toArray, List.set_cons_zero, List.set_cons_succ]
      refine wpAnyH_take (i := 4) (oi := { dst := some 10, op := Go.Op.assign (Go.Operand.tmp 25), type := 31, pos := "notes.go:33", after := #[{ on := 1, ground := Go.Ground.data }, { on := 3, ground := Go.Ground.chain }, { on := 0, ground := Go.Ground.phase }, { on := 1, ground := Go.Ground.phase }, { on := 2, ground := Go.Ground.textOnly Go.Departure.lateStores }, { on := 3, ground := Go.Ground.textOnly Go.Departure.lateStoresUnsure }], guard := none }) (v := ?_) rfl (by kernel_rfl) (by kernel_rfl) (by kernel_rfl) (fun _ _ _ h => h) (Or.inl ⟨by rfl, ?_⟩) (by assumption) ?_
      rotate_left
      · (intro w hSw; (try dsimp only at hSw); go_simp <;> with_reducible rfl)
      try simp only [Act.put, List.setIfInBounds_toArray, List.set_cons_zero, List.set_cons_succ]
      refine wpAnyH_take (i := 5) (oi := { dst := some 11, op := Go.Op.assign (Go.Operand.tmp 27), type := 31, pos := "notes.go:33", after := #[{ on := 3, ground := Go.Ground.data }, { on := 4, ground := Go.Ground.chain }, { on := 0, ground := Go.Ground.phase }, { on := 1, ground := Go.Ground.phase }, { on := 2, ground := Go.Ground.phase }, { on := 3, ground := Go.Ground.phase }, { on := 4, ground := Go.Ground.phase }], guard := none }) (v := ?_) rfl (by kernel_rfl) (by kernel_rfl) (by kernel_rfl) (fun _ _ _ h => h) (Or.inl ⟨by rfl, ?_⟩) (by assumption) ?_
      rotate_left
      · (intro w hSw; (try dsimp only at hSw); go_simp <;> with_reducible rfl)
      try simp only [Act.put, List.setIfInBounds_toArray, List.set_cons_zero, List.set_cons_succ]
      refine wpAnyH_done (by kernel_rfl) ?_ _
      have HO6 := Lib.hid hHeld3
      have HI6 := Lib.hid hI6
      clear hHeld hHeld2 hHeld3 hI6 hO6 hO5 GR HID HI5
      have HV16 := Lib.hid (HV1.out.only HO6.out hRr)
      have HV26 := Lib.hid (HV2.out.only HO6.out hRz.symm)
      have hla := nxV_lt big s p 4 false (by decide)
      have hld := nxV_lt big s (nxP s p 4 false) 4 (nxB s p 4 false) (by decide)
      have HST : Hid (stepN big s p = ⟨⟨(nxV big s (nxP s (nxP s p 4 false) 4 (nxB s p 4 false)) 4 (nxB s (nxP s p 4 false) 4 (nxB s p 4 false))), (byV s (nxP s (nxP s (nxP s p 4 false) 4 (nxB s p 4 false)) 4 (nxB s (nxP s p 4 false) 4 (nxB s p 4 false))) (nxV big s p 4 false) (nxB s (nxP s (nxP s p 4 false) 4 (nxB s p 4 false)) 4 (nxB s (nxP s p 4 false) 4 (nxB s p 4 false)))), (byV s (nxP s (nxP s (nxP s (nxP s (nxP s p 4 false) 4 (nxB s p 4 false)) 4 (nxB s (nxP s p 4 false) 4 (nxB s p 4 false))) (nxV big s p 4 false) (nxB s (nxP s (nxP s p 4 false) 4 (nxB s p 4 false)) 4 (nxB s (nxP s p 4 false) 4 (nxB s p 4 false)))) (pad4 (nxV big s p 4 false)) (nxB s (nxP s (nxP s (nxP s p 4 false) 4 (nxB s p 4 false)) 4 (nxB s (nxP s p 4 false) 4 (nxB s p 4 false))) (nxV big s p 4 false) (nxB s (nxP s (nxP s p 4 false) 4 (nxB s p 4 false)) 4 (nxB s (nxP s p 4 false) 4 (nxB s p 4 false))))) (nxV big s (nxP s p 4 false) 4 (nxB s p 4 false)) (nxB s (nxP s (nxP s (nxP s (nxP s p 4 false) 4 (nxB s p 4 false)) 4 (nxB s (nxP s p 4 false) 4 (nxB s p 4 false))) (nxV big s p 4 false) (nxB s (nxP s (nxP s p 4 false) 4 (nxB s p 4 false)) 4 (nxB s (nxP s p 4 false) 4 (nxB s p 4 false)))) (pad4 (nxV big s p 4 false)) (nxB s (nxP s (nxP s (nxP s p 4 false) 4 (nxB s p 4 false)) 4 (nxB s (nxP s p 4 false) 4 (nxB s p 4 false))) (nxV big s p 4 false) (nxB s (nxP s (nxP s p 4 false) 4 (nxB s p 4 false)) 4 (nxB s (nxP s p 4 false) 4 (nxB s p 4 false))))))⟩, isZ (byV s (nxP s (nxP s (nxP s (nxP s p 4 false) 4 (nxB s p 4 false)) 4 (nxB s (nxP s p 4 false) 4 (nxB s p 4 false))) (nxV big s p 4 false) (nxB s (nxP s (nxP s p 4 false) 4 (nxB s p 4 false)) 4 (nxB s (nxP s p 4 false) 4 (nxB s p 4 false)))) (pad4 (nxV big s p 4 false)) (nxB s (nxP s (nxP s (nxP s p 4 false) 4 (nxB s p 4 false)) 4 (nxB s (nxP s p 4 false) 4 (nxB s p 4 false))) (nxV big s p 4 false) (nxB s (nxP s (nxP s p 4 false) 4 (nxB s p 4 false)) 4 (nxB s (nxP s p 4 false) 4 (nxB s p 4 false))))) && isZ (byV s (nxP s (nxP s (nxP s (nxP s (nxP s (nxP s p 4 false) 4 (nxB s p 4 false)) 4 (nxB s (nxP s p 4 false) 4 (nxB s p 4 false))) (nxV big s p 4 false) (nxB s (nxP s (nxP s p 4 false) 4 (nxB s p 4 false)) 4 (nxB s (nxP s p 4 false) 4 (nxB s p 4 false)))) (pad4 (nxV big s p 4 false)) (nxB s (nxP s (nxP s (nxP s p 4 false) 4 (nxB s p 4 false)) 4 (nxB s (nxP s p 4 false) 4 (nxB s p 4 false))) (nxV big s p 4 false) (nxB s (nxP s (nxP s p 4 false) 4 (nxB s p 4 false)) 4 (nxB s (nxP s p 4 false) 4 (nxB s p 4 false))))) (nxV big s (nxP s p 4 false) 4 (nxB s p 4 false)) (nxB s (nxP s (nxP s (nxP s (nxP s p 4 false) 4 (nxB s p 4 false)) 4 (nxB s (nxP s p 4 false) 4 (nxB s p 4 false))) (nxV big s p 4 false) (nxB s (nxP s (nxP s p 4 false) 4 (nxB s p 4 false)) 4 (nxB s (nxP s p 4 false) 4 (nxB s p 4 false)))) (pad4 (nxV big s p 4 false)) (nxB s (nxP s (nxP s (nxP s p 4 false) 4 (nxB s p 4 false)) 4 (nxB s (nxP s p 4 false) 4 (nxB s p 4 false))) (nxV big s p 4 false) (nxB s (nxP s (nxP s p 4 false) 4 (nxB s p 4 false)) 4 (nxB s (nxP s p 4 false) 4 (nxB s p 4 false)))))) (pad4 (nxV big s (nxP s p 4 false) 4 (nxB s p 4 false))) (nxB s (nxP s (nxP s (nxP s (nxP s (nxP s p 4 false) 4 (nxB s p 4 false)) 4 (nxB s (nxP s p 4 false) 4 (nxB s p 4 false))) (nxV big s p 4 false) (nxB s (nxP s (nxP s p 4 false) 4 (nxB s p 4 false)) 4 (nxB s (nxP s p 4 false) 4 (nxB s p 4 false)))) (pad4 (nxV big s p 4 false)) (nxB s (nxP s (nxP s (nxP s p 4 false) 4 (nxB s p 4 false)) 4 (nxB s (nxP s p 4 false) 4 (nxB s p 4 false))) (nxV big s p 4 false) (nxB s (nxP s (nxP s p 4 false) 4 (nxB s p 4 false)) 4 (nxB s (nxP s p 4 false) 4 (nxB s p 4 false))))) (nxV big s (nxP s p 4 false) 4 (nxB s p 4 false)) (nxB s (nxP s (nxP s (nxP s (nxP s p 4 false) 4 (nxB s p 4 false)) 4 (nxB s (nxP s p 4 false) 4 (nxB s p 4 false))) (nxV big s p 4 false) (nxB s (nxP s (nxP s p 4 false) 4 (nxB s p 4 false)) 4 (nxB s (nxP s p 4 false) 4 (nxB s p 4 false)))) (pad4 (nxV big s p 4 false)) (nxB s (nxP s (nxP s (nxP s p 4 false) 4 (nxB s p 4 false)) 4 (nxB s (nxP s p 4 false) 4 (nxB s p 4 false))) (nxV big s p 4 false) (nxB s (nxP s (nxP s p 4 false) 4 (nxB s p 4 false)) 4 (nxB s (nxP s p 4 false) 4 (nxB s p 4 false))))))), (nxP s (nxP s (nxP s (nxP s (nxP s (nxP s (nxP s p 4 false) 4 (nxB s p 4 false)) 4 (nxB s (nxP s p 4 false) 4 (nxB s p 4 false))) (nxV big s p 4 false) (nxB s (nxP s (nxP s p 4 false) 4 (nxB s p 4 false)) 4 (nxB s (nxP s p 4 false) 4 (nxB s p 4 false)))) (pad4 (nxV big s p 4 false)) (nxB s (nxP s (nxP s (nxP s p 4 false) 4 (nxB s p 4 false)) 4 (nxB s (nxP s p 4 false) 4 (nxB s p 4 false))) (nxV big s p 4 false) (nxB s (nxP s (nxP s p 4 false) 4 (nxB s p 4 false)) 4 (nxB s (nxP s p 4 false) 4 (nxB s p 4 false))))) (nxV big s (nxP s p 4 false) 4 (nxB s p 4 false)) (nxB s (nxP s (nxP s (nxP s (nxP s p 4 false) 4 (nxB s p 4 false)) 4 (nxB s (nxP s p 4 false) 4 (nxB s p 4 false))) (nxV big s p 4 false) (nxB s (nxP s (nxP s p 4 false) 4 (nxB s p 4 false)) 4 (nxB s (nxP s p 4 false) 4 (nxB s p 4 false)))) (pad4 (nxV big s p 4 false)) (nxB s (nxP s (nxP s (nxP s p 4 false) 4 (nxB s p 4 false)) 4 (nxB s (nxP s p 4 false) 4 (nxB s p 4 false))) (nxV big s p 4 false) (nxB s (nxP s (nxP s p 4 false) 4 (nxB s p 4 false)) 4 (nxB s (nxP s p 4 false) 4 (nxB s p 4 false)))))) (pad4 (nxV big s (nxP s p 4 false) 4 (nxB s p 4 false))) (nxB s (nxP s (nxP s (nxP s (nxP s (nxP s p 4 false) 4 (nxB s p 4 false)) 4 (nxB s (nxP s p 4 false) 4 (nxB s p 4 false))) (nxV big s p 4 false) (nxB s (nxP s (nxP s p 4 false) 4 (nxB s p 4 false)) 4 (nxB s (nxP s p 4 false) 4 (nxB s p 4 false)))) (pad4 (nxV big s p 4 false)) (nxB s (nxP s (nxP s (nxP s p 4 false) 4 (nxB s p 4 false)) 4 (nxB s (nxP s p 4 false) 4 (nxB s p 4 false))) (nxV big s p 4 false) (nxB s (nxP s (nxP s p 4 false) 4 (nxB s p 4 false)) 4 (nxB s (nxP s p 4 false) 4 (nxB s p 4 false))))) (nxV big s (nxP s p 4 false) 4 (nxB s p 4 false)) (nxB s (nxP s (nxP s (nxP s (nxP s p 4 false) 4 (nxB s p 4 false)) 4 (nxB s (nxP s p 4 false) 4 (nxB s p 4 false))) (nxV big s p 4 false) (nxB s (nxP s (nxP s p 4 false) 4 (nxB s p 4 false)) 4 (nxB s (nxP s p 4 false) 4 (nxB s p 4 false)))) (pad4 (nxV big s p 4 false)) (nxB s (nxP s (nxP s (nxP s p 4 false) 4 (nxB s p 4 false)) 4 (nxB s (nxP s p 4 false) 4 (nxB s p 4 false))) (nxV big s p 4 false) (nxB s (nxP s (nxP s p 4 false) 4 (nxB s p 4 false)) 4 (nxB s (nxP s p 4 false) 4 (nxB s p 4 false))))))), (nxB s (nxP s (nxP s (nxP s (nxP s (nxP s (nxP s p 4 false) 4 (nxB s p 4 false)) 4 (nxB s (nxP s p 4 false) 4 (nxB s p 4 false))) (nxV big s p 4 false) (nxB s (nxP s (nxP s p 4 false) 4 (nxB s p 4 false)) 4 (nxB s (nxP s p 4 false) 4 (nxB s p 4 false)))) (pad4 (nxV big s p 4 false)) (nxB s (nxP s (nxP s (nxP s p 4 false) 4 (nxB s p 4 false)) 4 (nxB s (nxP s p 4 false) 4 (nxB s p 4 false))) (nxV big s p 4 false) (nxB s (nxP s (nxP s p 4 false) 4 (nxB s p 4 false)) 4 (nxB s (nxP s p 4 false) 4 (nxB s p 4 false))))) (nxV big s (nxP s p 4 false) 4 (nxB s p 4 false)) (nxB s (nxP s (nxP s (nxP s (nxP s p 4 false) 4 (nxB s p 4 false)) 4 (nxB s (nxP s p 4 false) 4 (nxB s p 4 false))) (nxV big s p 4 false) (nxB s (nxP s (nxP s p 4 false) 4 (nxB s p 4 false)) 4 (nxB s (nxP s p 4 false) 4 (nxB s p 4 false)))) (pad4 (nxV big s p 4 false)) (nxB s (nxP s (nxP s (nxP s p 4 false) 4 (nxB s p 4 false)) 4 (nxB s (nxP s p 4 false) 4 (nxB s p 4 false))) (nxV big s p 4 false) (nxB s (nxP s (nxP s p 4 false) 4 (nxB s p 4 false)) 4 (nxB s (nxP s p 4 false) 4 (nxB s p 4 false)))))) (pad4 (nxV big s (nxP s p 4 false) 4 (nxB s p 4 false))) (nxB s (nxP s (nxP s (nxP s (nxP s (nxP s p 4 false) 4 (nxB s p 4 false)) 4 (nxB s (nxP s p 4 false) 4 (nxB s p 4 false))) (nxV big s p 4 false) (nxB s (nxP s (nxP s p 4 false) 4 (nxB s p 4 false)) 4 (nxB s (nxP s p 4 false) 4 (nxB s p 4 false)))) (pad4 (nxV big s p 4 false)) (nxB s (nxP s (nxP s (nxP s p 4 false) 4 (nxB s p 4 false)) 4 (nxB s (nxP s p 4 false) 4 (nxB s p 4 false))) (nxV big s p 4 false) (nxB s (nxP s (nxP s p 4 false) 4 (nxB s p 4 false)) 4 (nxB s (nxP s p 4 false) 4 (nxB s p 4 false))))) (nxV big s (nxP s p 4 false) 4 (nxB s p 4 false)) (nxB s (nxP s (nxP s (nxP s (nxP s p 4 false) 4 (nxB s p 4 false)) 4 (nxB s (nxP s p 4 false) 4 (nxB s p 4 false))) (nxV big s p 4 false) (nxB s (nxP s (nxP s p 4 false) 4 (nxB s p 4 false)) 4 (nxB s (nxP s p 4 false) 4 (nxB s p 4 false)))) (pad4 (nxV big s p 4 false)) (nxB s (nxP s (nxP s (nxP s p 4 false) 4 (nxB s p 4 false)) 4 (nxB s (nxP s p 4 false) 4 (nxB s p 4 false))) (nxV big s p 4 false) (nxB s (nxP s (nxP s p 4 false) 4 (nxB s p 4 false)) 4 (nxB s (nxP s p 4 false) 4 (nxB s p 4 false)))))))⟩) := Lib.hid rfl
      have r0 := HV16.out.cell
      go_wp2_with fail
      refine (next_fn R big s (nxP s (nxP s p 4 false) 4 (nxB s p 4 false)) 4 (nxB s (nxP s p 4 false) 4 (nxB s p 4 false)) _ HI6.out (by omega) (by decide) (by decide)).mono ?_
      rintro e w7 ⟨rfl, hI7, hO7⟩
      have HI7 := Lib.hid hI7; have HO7 := Lib.hid (HO6.out.trans hO7)
      have HV17 := Lib.hid (HV16.out.only hO7 hRr); have HV27 := Lib.hid (HV26.out.only hO7 hRz.symm)
      clear hI7 hO7 r0
      go_wp2_with fail
      refine (padded_any R br bz big s (nxP s (nxP s (nxP s p 4 false) 4 (nxB s p 4 false)) 4 (nxB s (nxP s p 4 false) 4 (nxB s p 4 false))) (nxV big s p 4 false) (nxB s (nxP s (nxP s p 4 false) 4 (nxB s p 4 false)) 4 (nxB s (nxP s p 4 false) 4 (nxB s p 4 false))) z _ HI7.out HV17.out HV27.out hRz hRr hrz (by omega) (by omega)).mono ?_
      rintro e w8 ⟨rfl, hI8, hz8, hO8⟩
      have HI8 := Lib.hid hI8; have HO8 := Lib.hid ((Only2.of_only (z := bz) HO7.out).trans hO8)
      have HV18 := Lib.hid (HV17.out.kept hO8 hRr hrz); have HV28 := Lib.hid hz8
      clear hI8 hO8 hz8
      go_wp2_with fail
      refine (padded_any R br bz big s (nxP s (nxP s (nxP s (nxP s (nxP s p 4 false) 4 (nxB s p 4 false)) 4 (nxB s (nxP s p 4 false) 4 (nxB s p 4 false))) (nxV big s p 4 false) (nxB s (nxP s (nxP s p 4 false) 4 (nxB s p 4 false)) 4 (nxB s (nxP s p 4 false) 4 (nxB s p 4 false)))) (pad4 (nxV big s p 4 false)) (nxB s (nxP s (nxP s (nxP s p 4 false) 4 (nxB s p 4 false)) 4 (nxB s (nxP s p 4 false) 4 (nxB s p 4 false))) (nxV big s p 4 false) (nxB s (nxP s (nxP s p 4 false) 4 (nxB s p 4 false)) 4 (nxB s (nxP s p 4 false) 4 (nxB s p 4 false))))) (nxV big s (nxP s p 4 false) 4 (nxB s p 4 false)) (nxB s (nxP s (nxP s (nxP s (nxP s p 4 false) 4 (nxB s p 4 false)) 4 (nxB s (nxP s p 4 false) 4 (nxB s p 4 false))) (nxV big s p 4 false) (nxB s (nxP s (nxP s p 4 false) 4 (nxB s p 4 false)) 4 (nxB s (nxP s p 4 false) 4 (nxB s p 4 false)))) (pad4 (nxV big s p 4 false)) (nxB s (nxP s (nxP s (nxP s p 4 false) 4 (nxB s p 4 false)) 4 (nxB s (nxP s p 4 false) 4 (nxB s p 4 false))) (nxV big s p 4 false) (nxB s (nxP s (nxP s p 4 false) 4 (nxB s p 4 false)) 4 (nxB s (nxP s p 4 false) 4 (nxB s p 4 false))))) (z && isZ (byV s (nxP s (nxP s (nxP s (nxP s p 4 false) 4 (nxB s p 4 false)) 4 (nxB s (nxP s p 4 false) 4 (nxB s p 4 false))) (nxV big s p 4 false) (nxB s (nxP s (nxP s p 4 false) 4 (nxB s p 4 false)) 4 (nxB s (nxP s p 4 false) 4 (nxB s p 4 false)))) (pad4 (nxV big s p 4 false)) (nxB s (nxP s (nxP s (nxP s p 4 false) 4 (nxB s p 4 false)) 4 (nxB s (nxP s p 4 false) 4 (nxB s p 4 false))) (nxV big s p 4 false) (nxB s (nxP s (nxP s p 4 false) 4 (nxB s p 4 false)) 4 (nxB s (nxP s p 4 false) 4 (nxB s p 4 false)))))) _ HI8.out HV18.out HV28.out hRz hRr hrz (by omega) (by omega)).mono ?_
      rintro e w9 ⟨rfl, hI9, hz9, hO9⟩
      have HI9 := Lib.hid hI9; have HO9 := Lib.hid (HO8.out.trans hO9)
      have HV19 := Lib.hid (HV18.out.kept hO9 hRr hrz); have HV29 := Lib.hid hz9
      clear hI9 hO9 hz9 hla hld HI6 HI7 HI8 HV17 HV27 HV18 HV28 HV16 HV26 HO6 HO7 HO8
      have HOWN9 := Lib.hid (own_only2 HOWN.out HO9.out hRB hzB)
      have HB9 := Lib.hid (HB.out.trans (HO9.out.below HB.out.size (by omega) hBz))
      have hBs9 : B ≤ w9.heap.size := Nat.le_trans hBs HO9.out.size
      have HV29' : Hid (Var1 w9 bz (.bool (z && (isZ (byV s (nxP s (nxP s (nxP s (nxP s p 4 false) 4 (nxB s p 4 false)) 4 (nxB s (nxP s p 4 false) 4 (nxB s p 4 false))) (nxV big s p 4 false) (nxB s (nxP s (nxP s p 4 false) 4 (nxB s p 4 false)) 4 (nxB s (nxP s p 4 false) 4 (nxB s p 4 false)))) (pad4 (nxV big s p 4 false)) (nxB s (nxP s (nxP s (nxP s p 4 false) 4 (nxB s p 4 false)) 4 (nxB s (nxP s p 4 false) 4 (nxB s p 4 false))) (nxV big s p 4 false) (nxB s (nxP s (nxP s p 4 false) 4 (nxB s p 4 false)) 4 (nxB s (nxP s p 4 false) 4 (nxB s p 4 false))))) && isZ (byV s (nxP s (nxP s (nxP s (nxP s (nxP s (nxP s p 4 false) 4 (nxB s p 4 false)) 4 (nxB s (nxP s p 4 false) 4 (nxB s p 4 false))) (nxV big s p 4 false) (nxB s (nxP s (nxP s p 4 false) 4 (nxB s p 4 false)) 4 (nxB s (nxP s p 4 false) 4 (nxB s p 4 false)))) (pad4 (nxV big s p 4 false)) (nxB s (nxP s (nxP s (nxP s p 4 false) 4 (nxB s p 4 false)) 4 (nxB s (nxP s p 4 false) 4 (nxB s p 4 false))) (nxV big s p 4 false) (nxB s (nxP s (nxP s p 4 false) 4 (nxB s p 4 false)) 4 (nxB s (nxP s p 4 false) 4 (nxB s p 4 false))))) (nxV big s (nxP s p 4 false) 4 (nxB s p 4 false)) (nxB s (nxP s (nxP s (nxP s (nxP s p 4 false) 4 (nxB s p 4 false)) 4 (nxB s (nxP s p 4 false) 4 (nxB s p 4 false))) (nxV big s p 4 false) (nxB s (nxP s (nxP s p 4 false) 4 (nxB s p 4 false)) 4 (nxB s (nxP s p 4 false) 4 (nxB s p 4 false)))) (pad4 (nxV big s p 4 false)) (nxB s (nxP s (nxP s (nxP s p 4 false) 4 (nxB s p 4 false)) 4 (nxB s (nxP s p 4 false) 4 (nxB s p 4 false))) (nxV big s p 4 false) (nxB s (nxP s (nxP s p 4 false) 4 (nxB s p 4 false)) 4 (nxB s (nxP s p 4 false) 4 (nxB s p 4 false)))))) (pad4 (nxV big s (nxP s p 4 false) 4 (nxB s p 4 false))) (nxB s (nxP s (nxP s (nxP s (nxP s (nxP s p 4 false) 4 (nxB s p 4 false)) 4 (nxB s (nxP s p 4 false) 4 (nxB s p 4 false))) (nxV big s p 4 false) (nxB s (nxP s (nxP s p 4 false) 4 (nxB s p 4 false)) 4 (nxB s (nxP s p 4 false) 4 (nxB s p 4 false)))) (pad4 (nxV big s p 4 false)) (nxB s (nxP s (nxP s (nxP s p 4 false) 4 (nxB s p 4 false)) 4 (nxB s (nxP s p 4 false) 4 (nxB s p 4 false))) (nxV big s p 4 false) (nxB s (nxP s (nxP s p 4 false) 4 (nxB s p 4 false)) 4 (nxB s (nxP s p 4 false) 4 (nxB s p 4 false))))) (nxV big s (nxP s p 4 false) 4 (nxB s p 4 false)) (nxB s (nxP s (nxP s (nxP s (nxP s p 4 false) 4 (nxB s p 4 false)) 4 (nxB s (nxP s p 4 false) 4 (nxB s p 4 false))) (nxV big s p 4 false) (nxB s (nxP s (nxP s p 4 false) 4 (nxB s p 4 false)) 4 (nxB s (nxP s p 4 false) 4 (nxB s p 4 false)))) (pad4 (nxV big s p 4 false)) (nxB s (nxP s (nxP s (nxP s p 4 false) 4 (nxB s p 4 false)) 4 (nxB s (nxP s p 4 false) 4 (nxB s p 4 false))) (nxV big s p 4 false) (nxB s (nxP s (nxP s p 4 false) 4 (nxB s p 4 false)) 4 (nxB s (nxP s p 4 false) 4 (nxB s p 4 false)))))))))) 4) := Lib.hid (by rw [← Bool.and_assoc]; exact HV29.out)
      clear HV29
      generalize (isZ (byV s (nxP s (nxP s (nxP s (nxP s p 4 false) 4 (nxB s p 4 false)) 4 (nxB s (nxP s p 4 false) 4 (nxB s p 4 false))) (nxV big s p 4 false) (nxB s (nxP s (nxP s p 4 false) 4 (nxB s p 4 false)) 4 (nxB s (nxP s p 4 false) 4 (nxB s p 4 false)))) (pad4 (nxV big s p 4 false)) (nxB s (nxP s (nxP s (nxP s p 4 false) 4 (nxB s p 4 false)) 4 (nxB s (nxP s p 4 false) 4 (nxB s p 4 false))) (nxV big s p 4 false) (nxB s (nxP s (nxP s p 4 false) 4 (nxB s p 4 false)) 4 (nxB s (nxP s p 4 false) 4 (nxB s p 4 false))))) && isZ (byV s (nxP s (nxP s (nxP s (nxP s (nxP s (nxP s p 4 false) 4 (nxB s p 4 false)) 4 (nxB s (nxP s p 4 false) 4 (nxB s p 4 false))) (nxV big s p 4 false) (nxB s (nxP s (nxP s p 4 false) 4 (nxB s p 4 false)) 4 (nxB s (nxP s p 4 false) 4 (nxB s p 4 false)))) (pad4 (nxV big s p 4 false)) (nxB s (nxP s (nxP s (nxP s p 4 false) 4 (nxB s p 4 false)) 4 (nxB s (nxP s p 4 false) 4 (nxB s p 4 false))) (nxV big s p 4 false) (nxB s (nxP s (nxP s p 4 false) 4 (nxB s p 4 false)) 4 (nxB s (nxP s p 4 false) 4 (nxB s p 4 false))))) (nxV big s (nxP s p 4 false) 4 (nxB s p 4 false)) (nxB s (nxP s (nxP s (nxP s (nxP s p 4 false) 4 (nxB s p 4 false)) 4 (nxB s (nxP s p 4 false) 4 (nxB s p 4 false))) (nxV big s p 4 false) (nxB s (nxP s (nxP s p 4 false) 4 (nxB s p 4 false)) 4 (nxB s (nxP s p 4 false) 4 (nxB s p 4 false)))) (pad4 (nxV big s p 4 false)) (nxB s (nxP s (nxP s (nxP s p 4 false) 4 (nxB s p 4 false)) 4 (nxB s (nxP s p 4 false) 4 (nxB s p 4 false))) (nxV big s p 4 false) (nxB s (nxP s (nxP s p 4 false) 4 (nxB s p 4 false)) 4 (nxB s (nxP s p 4 false) 4 (nxB s p 4 false)))))) (pad4 (nxV big s (nxP s p 4 false) 4 (nxB s p 4 false))) (nxB s (nxP s (nxP s (nxP s (nxP s (nxP s p 4 false) 4 (nxB s p 4 false)) 4 (nxB s (nxP s p 4 false) 4 (nxB s p 4 false))) (nxV big s p 4 false) (nxB s (nxP s (nxP s p 4 false) 4 (nxB s p 4 false)) 4 (nxB s (nxP s p 4 false) 4 (nxB s p 4 false)))) (pad4 (nxV big s p 4 false)) (nxB s (nxP s (nxP s (nxP s p 4 false) 4 (nxB s p 4 false)) 4 (nxB s (nxP s p 4 false) 4 (nxB s p 4 false))) (nxV big s p 4 false) (nxB s (nxP s (nxP s p 4 false) 4 (nxB s p 4 false)) 4 (nxB s (nxP s p 4 false) 4 (nxB s p 4 false))))) (nxV big s (nxP s p 4 false) 4 (nxB s p 4 false)) (nxB s (nxP s (nxP s (nxP s (nxP s p 4 false) 4 (nxB s p 4 false)) 4 (nxB s (nxP s p 4 false) 4 (nxB s p 4 false))) (nxV big s p 4 false) (nxB s (nxP s (nxP s p 4 false) 4 (nxB s p 4 false)) 4 (nxB s (nxP s p 4 false) 4 (nxB s p 4 false)))) (pad4 (nxV big s p 4 false)) (nxB s (nxP s (nxP s (nxP s p 4 false) 4 (nxB s p 4 false)) 4 (nxB s (nxP s p 4 false) 4 (nxB s p 4 false))) (nxV big s p 4 false) (nxB s (nxP s (nxP s p 4 false) 4 (nxB s p 4 false)) 4 (nxB s (nxP s p 4 false) 4 (nxB s p 4 false)))))))) = zz at *
      generalize (nxV big s (nxP s (nxP s p 4 false) 4 (nxB s p 4 false)) 4 (nxB s (nxP s p 4 false) 4 (nxB s p 4 false))) = t at *
      generalize (byV s (nxP s (nxP s (nxP s p 4 false) 4 (nxB s p 4 false)) 4 (nxB s (nxP s p 4 false) 4 (nxB s p 4 false))) (nxV big s p 4 false) (nxB s (nxP s (nxP s p 4 false) 4 (nxB s p 4 false)) 4 (nxB s (nxP s p 4 false) 4 (nxB s p 4 false)))) = nm at *
      generalize (byV s (nxP s (nxP s (nxP s (nxP s (nxP s p 4 false) 4 (nxB s p 4 false)) 4 (nxB s (nxP s p 4 false) 4 (nxB s p 4 false))) (nxV big s p 4 false) (nxB s (nxP s (nxP s p 4 false) 4 (nxB s p 4 false)) 4 (nxB s (nxP s p 4 false) 4 (nxB s p 4 false)))) (pad4 (nxV big s p 4 false)) (nxB s (nxP s (nxP s (nxP s p 4 false) 4 (nxB s p 4 false)) 4 (nxB s (nxP s p 4 false) 4 (nxB s p 4 false))) (nxV big s p 4 false) (nxB s (nxP s (nxP s p 4 false) 4 (nxB s p 4 false)) 4 (nxB s (nxP s p 4 false) 4 (nxB s p 4 false))))) (nxV big s (nxP s p 4 false) 4 (nxB s p 4 false)) (nxB s (nxP s (nxP s (nxP s (nxP s p 4 false) 4 (nxB s p 4 false)) 4 (nxB s (nxP s p 4 false) 4 (nxB s p 4 false))) (nxV big s p 4 false) (nxB s (nxP s (nxP s p 4 false) 4 (nxB s p 4 false)) 4 (nxB s (nxP s p 4 false) 4 (nxB s p 4 false)))) (pad4 (nxV big s p 4 false)) (nxB s (nxP s (nxP s (nxP s p 4 false) 4 (nxB s p 4 false)) 4 (nxB s (nxP s p 4 false) 4 (nxB s p 4 false))) (nxV big s p 4 false) (nxB s (nxP s (nxP s p 4 false) 4 (nxB s p 4 false)) 4 (nxB s (nxP s p 4 false) 4 (nxB s p 4 false)))))) = ds at *
      generalize (nxP s (nxP s (nxP s (nxP s (nxP s (nxP s (nxP s p 4 false) 4 (nxB s p 4 false)) 4 (nxB s (nxP s p 4 false) 4 (nxB s p 4 false))) (nxV big s p 4 false) (nxB s (nxP s (nxP s p 4 false) 4 (nxB s p 4 false)) 4 (nxB s (nxP s p 4 false) 4 (nxB s p 4 false)))) (pad4 (nxV big s p 4 false)) (nxB s (nxP s (nxP s (nxP s p 4 false) 4 (nxB s p 4 false)) 4 (nxB s (nxP s p 4 false) 4 (nxB s p 4 false))) (nxV big s p 4 false) (nxB s (nxP s (nxP s p 4 false) 4 (nxB s p 4 false)) 4 (nxB s (nxP s p 4 false) 4 (nxB s p 4 false))))) (nxV big s (nxP s p 4 false) 4 (nxB s p 4 false)) (nxB s (nxP s (nxP s (nxP s (nxP s p 4 false) 4 (nxB s p 4 false)) 4 (nxB s (nxP s p 4 false) 4 (nxB s p 4 false))) (nxV big s p 4 false) (nxB s (nxP s (nxP s p 4 false) 4 (nxB s p 4 false)) 4 (nxB s (nxP s p 4 false) 4 (nxB s p 4 false)))) (pad4 (nxV big s p 4 false)) (nxB s (nxP s (nxP s (nxP s p 4 false) 4 (nxB s p 4 false)) 4 (nxB s (nxP s p 4 false) 4 (nxB s p 4 false))) (nxV big s p 4 false) (nxB s (nxP s (nxP s p 4 false) 4 (nxB s p 4 false)) 4 (nxB s (nxP s p 4 false) 4 (nxB s p 4 false)))))) (pad4 (nxV big s (nxP s p 4 false) 4 (nxB s p 4 false))) (nxB s (nxP s (nxP s (nxP s (nxP s (nxP s p 4 false) 4 (nxB s p 4 false)) 4 (nxB s (nxP s p 4 false) 4 (nxB s p 4 false))) (nxV big s p 4 false) (nxB s (nxP s (nxP s p 4 false) 4 (nxB s p 4 false)) 4 (nxB s (nxP s p 4 false) 4 (nxB s p 4 false)))) (pad4 (nxV big s p 4 false)) (nxB s (nxP s (nxP s (nxP s p 4 false) 4 (nxB s p 4 false)) 4 (nxB s (nxP s p 4 false) 4 (nxB s p 4 false))) (nxV big s p 4 false) (nxB s (nxP s (nxP s p 4 false) 4 (nxB s p 4 false)) 4 (nxB s (nxP s p 4 false) 4 (nxB s p 4 false))))) (nxV big s (nxP s p 4 false) 4 (nxB s p 4 false)) (nxB s (nxP s (nxP s (nxP s (nxP s p 4 false) 4 (nxB s p 4 false)) 4 (nxB s (nxP s p 4 false) 4 (nxB s p 4 false))) (nxV big s p 4 false) (nxB s (nxP s (nxP s p 4 false) 4 (nxB s p 4 false)) 4 (nxB s (nxP s p 4 false) 4 (nxB s p 4 false)))) (pad4 (nxV big s p 4 false)) (nxB s (nxP s (nxP s (nxP s p 4 false) 4 (nxB s p 4 false)) 4 (nxB s (nxP s p 4 false) 4 (nxB s p 4 false))) (nxV big s p 4 false) (nxB s (nxP s (nxP s p 4 false) 4 (nxB s p 4 false)) 4 (nxB s (nxP s p 4 false) 4 (nxB s p 4 false))))))) = p9 at *
      generalize (nxB s (nxP s (nxP s (nxP s (nxP s (nxP s (nxP s p 4 false) 4 (nxB s p 4 false)) 4 (nxB s (nxP s p 4 false) 4 (nxB s p 4 false))) (nxV big s p 4 false) (nxB s (nxP s (nxP s p 4 false) 4 (nxB s p 4 false)) 4 (nxB s (nxP s p 4 false) 4 (nxB s p 4 false)))) (pad4 (nxV big s p 4 false)) (nxB s (nxP s (nxP s (nxP s p 4 false) 4 (nxB s p 4 false)) 4 (nxB s (nxP s p 4 false) 4 (nxB s p 4 false))) (nxV big s p 4 false) (nxB s (nxP s (nxP s p 4 false) 4 (nxB s p 4 false)) 4 (nxB s (nxP s p 4 false) 4 (nxB s p 4 false))))) (nxV big s (nxP s p 4 false) 4 (nxB s p 4 false)) (nxB s (nxP s (nxP s (nxP s (nxP s p 4 false) 4 (nxB s p 4 false)) 4 (nxB s (nxP s p 4 false) 4 (nxB s p 4 false))) (nxV big s p 4 false) (nxB s (nxP s (nxP s p 4 false) 4 (nxB s p 4 false)) 4 (nxB s (nxP s p 4 false) 4 (nxB s p 4 false)))) (pad4 (nxV big s p 4 false)) (nxB s (nxP s (nxP s (nxP s p 4 false) 4 (nxB s p 4 false)) 4 (nxB s (nxP s p 4 false) 4 (nxB s p 4 false))) (nxV big s p 4 false) (nxB s (nxP s (nxP s p 4 false) 4 (nxB s p 4 false)) 4 (nxB s (nxP s p 4 false) 4 (nxB s p 4 false)))))) (pad4 (nxV big s (nxP s p 4 false) 4 (nxB s p 4 false))) (nxB s (nxP s (nxP s (nxP s (nxP s (nxP s p 4 false) 4 (nxB s p 4 false)) 4 (nxB s (nxP s p 4 false) 4 (nxB s p 4 false))) (nxV big s p 4 false) (nxB s (nxP s (nxP s p 4 false) 4 (nxB s p 4 false)) 4 (nxB s (nxP s p 4 false) 4 (nxB s p 4 false)))) (pad4 (nxV big s p 4 false)) (nxB s (nxP s (nxP s (nxP s p 4 false) 4 (nxB s p 4 false)) 4 (nxB s (nxP s p 4 false) 4 (nxB s p 4 false))) (nxV big s p 4 false) (nxB s (nxP s (nxP s p 4 false) 4 (nxB s p 4 false)) 4 (nxB s (nxP s p 4 false) 4 (nxB s p 4 false))))) (nxV big s (nxP s p 4 false) 4 (nxB s p 4 false)) (nxB s (nxP s (nxP s (nxP s (nxP s p 4 false) 4 (nxB s p 4 false)) 4 (nxB s (nxP s p 4 false) 4 (nxB s p 4 false))) (nxV big s p 4 false) (nxB s (nxP s (nxP s p 4 false) 4 (nxB s p 4 false)) 4 (nxB s (nxP s p 4 false) 4 (nxB s p 4 false)))) (pad4 (nxV big s p 4 false)) (nxB s (nxP s (nxP s (nxP s p 4 false) 4 (nxB s p 4 false)) 4 (nxB s (nxP s p 4 false) 4 (nxB s p 4 false))) (nxV big s p 4 false) (nxB s (nxP s (nxP s p 4 false) 4 (nxB s p 4 false)) 4 (nxB s (nxP s p 4 false) 4 (nxB s p 4 false))))))) = b9 at *
      have hX := below_more (Below.refl w9.heap.size w9) (.cells #[.int .u64 (t : Nat), .string nm, .string ds] 48)
      have HI10 := Lib.hid (HI9.out.only hX); have HV110 := Lib.hid (HV19.out.low hX); have HV210 := Lib.hid (HV29'.out.low hX)
      have HOWN10 := Lib.hid (own_stay HOWN9.out hX); have HB10 := Lib.hid (HB9.out.alloc HB9.out.size (.cells #[.int .u64 (t : Nat), .string nm, .string ds] 48))
      have r1 := HV110.out.cell
      have HBAD := Lib.hid (congrArg Stp.bad HST.out)
      cases b9
      · have he : IsRd (w9.alloc (.cells #[.int .u64 (t : Nat), .string nm, .string ds] 48)) R big s p9 0 := HI10.out
        have HIE := Lib.hid he; clear he
        have x0 : (w9.alloc (.cells #[.int .u64 (t : Nat), .string nm, .string ds] 48)).cell? ⟨w9.heap.size, 0, none⟩ = some (.int .u64 (t : Nat)) := by rw [Lib.cell_of_heap (heap_alloc_new w9 _)]; rfl
        have x1 : (w9.alloc (.cells #[.int .u64 (t : Nat), .string nm, .string ds] 48)).cell? ⟨w9.heap.size, 1, none⟩ = some (.string nm) := by rw [Lib.cell_of_heap (heap_alloc_new w9 _)]; rfl
        have x2 : (w9.alloc (.cells #[.int .u64 (t : Nat), .string nm, .string ds] 48)).cell? ⟨w9.heap.size, 2, none⟩ = some (.string ds) := by rw [Lib.cell_of_heap (heap_alloc_new w9 _)]; rfl
        have hbs10 : B ≤ (w9.alloc (.cells #[.int .u64 (t : Nat), .string nm, .string ds] 48)).heap.size := by simp; omega
        go_upto_region 8 with (fail)
        generalize (w9.alloc (.cells #[.int .u64 (t : Nat), .string nm, .string ds] 48)) = W10 at *
        go_wp2_with fail
        refine (err_any R big s p9 0 _ HIE.out).mono ?_
        rintro e w11 ⟨rfl, rfl⟩
        have k1 : k + 1 ≤ 1048576 := by omega
        go_wp2_with (first
          | (at_builtin; refine wpList_append_own _ rfl _ _ 44 rfl B 48 i0 (.agg #[.int .u64 0, .string ⟨#[]⟩, .string ⟨#[]⟩]) 3 40 Tryd.underlying44 hi hz0 hz1 hz2 rfl (by decide) _ _ _ rfl (own_stay HOWN10.out ((Below.refl _ _).alloc (Nat.le_refl _) _)) _ 1 1 [.int .u64 (t : Nat), .string nm, .string ds] rfl rfl (cells_new _ _ _) (by simp [Value.oneCell']) (by unfold maxLen; omega) (by omega) (by simp; omega) ?_; intro v' w12 hown' hg12 hnil12)
          | go_in)
        have hfl := own_floor HOWN10.out
        have hA12 : ∀ i, i < W10.heap.size → i < B → w12.heap[i]? = W10.heap[i]? := fun i h1 h2 => by
          rw [hg12.block i (by simp; omega) (fun e => by have := hfl i e.symm; omega), Below.heap_alloc _ _ _ h1]
        have hI12 : IsRd w12 R big s p9 0 := by unfold IsRd; rw [hA12 R HIE.out.lt hRB]; exact HIE.out
        have hv112 : Var1 w12 br (.pointer (some ⟨R, 0, none⟩)) 75 := by unfold Var1; rw [hA12 br HV110.out.lt hrB]; exact HV110.out
        have hv212 : Var1 w12 bz (.bool (z && zz)) 4 := by unfold Var1; rw [hA12 bz HV210.out.lt hzB]; exact HV210.out
        have hB12 : Below w.heap.size w w12 := (HB10.out.alloc HB10.out.size _).grown hg12 (by have := HB10.out.size; simp; omega) (fun i hi => by have := hfl i hi; omega)
        have hrun2 := runN_succ HRUN.out hlt (by rw [HST.out])
        rw [HST.out] at hrun2
        have hl2 := own_len hown'
        refine ⟨⟨k + 1, p9, l ++ [⟨t, nm, ds⟩], z && zz, hrun2, by rw [flatNt_snoc]; exact hown', hI12, hv112, hv212, hB12, by have := hg12.size; simp at this; omega⟩, ?_⟩
        rw [hl2, HLV.out]
        omega
      · have he : IsRd (w9.alloc (.cells #[.int .u64 (t : Nat), .string nm, .string ds] 48)) R big s p9 3 := HI10.out
        have HIE := Lib.hid he; clear he
        go_upto_region 8 with (fail)
        generalize (w9.alloc (.cells #[.int .u64 (t : Nat), .string nm, .string ds] 48)) = W10 at *
        go_wp2_with fail
        refine (err_any R big s p9 3 _ HIE.out).mono ?_
        rintro e w11 ⟨rfl, rfl⟩
        go_wp2
        go_ret2
        exact ⟨HB10.out, k, p, l, z, HRUN.out, .inr (.inr ⟨hlt, HBAD.out, rfl⟩)⟩
    · have d1 : decide (p < s.size) = false := by simpa using hlt
      have z0 := HV2.out.cell
      go_wp2_with fail
      refine (at_any R big s p 0 _ HI.out).mono ?_
      rintro e w2 ⟨rfl, rfl⟩
      cases z
      · go_wp2
        go_ret2
        exact ⟨HB.out, k, p, l, false, HRUN.out, .inr (.inl ⟨by omega, rfl, rfl⟩)⟩
      · obtain ⟨ao, n', cap, hv⟩ := own_shape HOWN.out
        subst hv
        go_wp2
        go_ret2
        exact ⟨HB.out, k, p, l, true, HRUN.out, .inl ⟨by omega, rfl, _, rfl, own_lower HOWN.out (by omega)⟩⟩
end Go.Proofs.YtnmklmaclmjfbaaDoor
