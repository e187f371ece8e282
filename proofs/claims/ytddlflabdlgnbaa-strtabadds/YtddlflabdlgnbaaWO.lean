/- The walk of StrtabAdds. Conditions: those written in each theorem. -/
import Derived.Test.YtddlflabdlgnbaaWN
namespace Go.Proofs.Ytddlflabdlgnbaa
open Go.RowKit
theorem textAt_miss (t name : ByteArray) (i : Nat) (h : ¬ AtName t.data.toList name.data.toList i) : ∃ (u : ByteArray) (b : Bool), textAt t i = .tuple #[.string u, .bool b] ∧ (b = true → (u.toList == name.toList) = false) := by
  by_cases hf : i + (txt (t.data.toList.drop i)).length < t.size
  · refine ⟨_, true, textAt_yes t i hf, fun _ => ?_⟩
    rw [beq_eq_false_iff_ne, ba_list, ByteArray.toList_eq]
    intro e
    refine h ⟨?_, e⟩
    rw [← e]
    simpa using hf
  · exact ⟨_, false, textAt_no t i hf, fun h => by cases h⟩
theorem textAt_form (t : ByteArray) (n : Nat) : ∃ (x : ByteArray) (y : Bool), textAt t n = .tuple #[.string x, .bool y] := by
  unfold textAt
  split
  · exact ⟨_, _, rfl⟩
  · exact ⟨_, _, rfl⟩
theorem hasZ_zero (s : ByteArray) : hasZ s s.size = true ↔ Zero.z s.data.toList < s.size := by
  rw [hasZ_bad]
  unfold Bad
  rw [toList_len, ByteArray.toList_eq]
/-- What is told of a search. -/
def skN (o : Option Nat) : Nat := o.getD 0
set_option maxRecDepth 100000 in
set_option maxHeartbeats 4000000 in
theorem adds_core (s0 n0 T nm : ByteArray) (n m1 m2 : Nat) (hm1 : (s0.size ≤ 200 ∧ m1 = s0.size) ∨ (200 < s0.size ∧ m1 = 200)) (hm2 : (n0.size ≤ 30 ∧ m2 = n0.size) ∨ (30 < n0.size ∧ m2 = 30)) (hT : s0.extract 0 m1 = T) (hN : n0.extract 0 m2 = nm) (w : World) :
    Calls Try.prog 5 #[.string s0, .string n0, .int .u64 (n : Nat)] w fun e w' => e = .returned (.bool true) ∧ Below w.heap.size w w' := by
  have mT1 : (if (s0.size : Int) ≤ 200 then (s0.size : Int) else 200) = (m1 : Int) := by split <;> omega
  have mT2 : min (s0.size : Int) 200 = (m1 : Int) := by omega
  have mN1 : (if (n0.size : Int) ≤ 30 then (n0.size : Int) else 30) = (m2 : Int) := by split <;> omega
  have mN2 : min (n0.size : Int) 30 = (m2 : Int) := by omega
  have tT0 : (0 : Int) ≤ (m1 : Int) := by omega
  have tT1 : (m1 : Int) ≤ (s0.size : Int) := by omega
  have tN0 : (0 : Int) ≤ (m2 : Int) := by omega
  have tN1 : (m2 : Int) ≤ (n0.size : Int) := by omega
  have hTs : T.size ≤ 200 := by rw [← hT]; simp; omega
  have hNs : nm.size ≤ 30 := by rw [← hN]; simp; omega
  have eT : s0.extract 0 (m1 : Int).toNat = T := by rw [Int.toNat_natCast]; exact hT
  have eN : n0.extract 0 (m2 : Int).toNat = nm := by rw [Int.toNat_natCast]; exact hN
  clear hm1 hm2
  have HT0 := Lib.hid hT; have HN0 := Lib.hid hN
  clear hT hN
  obtain ⟨rb, hrb, hrt⟩ := right_exists T (by unfold maxLen; omega)
  have HRB := Lib.hid hrb; have HRT := Lib.hid hrt
  clear hrb hrt
  go_enter Try.func5, Try.ntmps5
  go_wp2_with fail
  refine (speaks_any _).mono ?_
  rintro e w1 ⟨rfl, hb1⟩
  have HB1 := Lib.hid hb1; clear hb1
  go_wp2_with fail
  refine wp_region_held_drew (S := fun w' => Below w1.heap.size w1 w') (by kernel_rfl) ?_ (fun hHeld => ?_)
  · exact (Below.refl _ _).drew
  refine wpAnyH_take (i := 0) (oi := { dst := some 27, op := Go.Op.move (Go.Operand.tmp 0), type := 9, pos := "law.go:95", after := #[], guard := none }) (v := ?_) rfl (by kernel_rfl) (by kernel_rfl) (by kernel_rfl) (fun _ _ _ h => h) (Or.inl ⟨by rfl, ?_⟩) (by assumption) ?_
  rotate_left
  · (intro w hSw; (try dsimp only at hSw); go_simp <;> with_reducible rfl)
  try simp only [Act.put, List.setIfInBounds_toArray, List.set_cons_zero, List.set_cons_succ]
  refine wpAnyH_take (i := 1) (oi := { dst := some 28, op := Go.Op.move (Go.Operand.tmp 0), type := 9, pos := "law.go:95", after := #[], guard := none }) (v := ?_) rfl (by kernel_rfl) (by kernel_rfl) (by kernel_rfl) (fun _ _ _ h => h) (Or.inl ⟨by rfl, ?_⟩) (by assumption) ?_
  rotate_left
  · (intro w hSw; (try dsimp only at hSw); go_simp <;> with_reducible rfl)
  try simp only [Act.put, List.setIfInBounds_toArray, List.set_cons_zero, List.set_cons_succ]
  refine wpAnyH_take (i := 5) (oi := { dst := some 32, op := Go.Op.move (Go.Operand.tmp 1), type := 9, pos := "law.go:95", after := #[], guard := none }) (v := ?_) rfl (by kernel_rfl) (by kernel_rfl) (by kernel_rfl) (fun _ _ _ h => h) (Or.inl ⟨by rfl, ?_⟩) (by assumption) ?_
  rotate_left
  · (intro w hSw; (try dsimp only at hSw); go_simp <;> with_reducible rfl)
  try simp only [Act.put, List.setIfInBounds_toArray, List.set_cons_zero, List.set_cons_succ]
  refine wpAnyH_take (i := 6) (oi := { dst := some 33, op := Go.Op.move (Go.Operand.tmp 1), type := 9, pos := "law.go:95", after := #[], guard := none }) (v := ?_) rfl (by kernel_rfl) (by kernel_rfl) (by kernel_rfl) (fun _ _ _ h => h) (Or.inl ⟨by rfl, ?_⟩) (by assumption) ?_
  rotate_left
  · (intro w hSw; (try dsimp only at hSw); go_simp <;> with_reducible rfl)
  try simp only [Act.put, List.setIfInBounds_toArray, List.set_cons_zero, List.set_cons_succ]
  refine wpAnyH_take (i := 2) (oi := { dst := some 29, op := Go.Op.call { callee := Go.Callee.builtin Go.Builtin.len, args := #[Go.Operand.tmp 28], argTypes := #[9] }, type := 3, pos := "law.go:95", after := #[{ on := 1, ground := Go.Ground.data }], guard := none }) (v := ?_) rfl (by kernel_rfl) (by kernel_rfl) (by kernel_rfl) (fun _ _ _ h => h) (Or.inl ⟨by rfl, ?_⟩) (by assumption) ?_
  rotate_left
  · (intro w hSw; (try dsimp only at hSw); go_simp <;> with_reducible rfl)
  try simp only [Act.put, List.setIfInBounds_toArray, List.set_cons_zero, List.set_cons_succ]
  refine wpAnyH_take (i := 7) (oi := { dst := some 34, op := Go.Op.call { callee := Go.Callee.builtin Go.Builtin.len, args := #[Go.Operand.tmp 33], argTypes := #[9] }, type := 3, pos := "law.go:95", after := #[{ on := 6, ground := Go.Ground.data }], guard := none }) (v := ?_) rfl (by kernel_rfl) (by kernel_rfl) (by kernel_rfl) (fun _ _ _ h => h) (Or.inl ⟨by rfl, ?_⟩) (by assumption) ?_
  rotate_left
  · (intro w hSw; (try dsimp only at hSw); go_simp <;> with_reducible rfl)
  try simp only [Act.put, List.setIfInBounds_toArray, List.set_cons_zero, List.set_cons_succ]
  refine wpAnyH_take (i := 3) (oi := { dst := some 30, op := Go.Op.call { callee := Go.Callee.builtin Go.Builtin.min, args := #[Go.Operand.tmp 29, Go.Operand.const (Go.Value.int Go.IntKind.i64 200)], argTypes := #[3, 3] }, type := 3, pos := "law.go:95", after := #[{ on := 2, ground := Go.Ground.data }], guard := none }) (v := ?_) rfl (by kernel_rfl) (by kernel_rfl) (by kernel_rfl) (fun _ _ _ h => h) (Or.inl ⟨by rfl, ?_⟩) (by assumption) ?_
  rotate_left
  · (intro w hSw; (try dsimp only at hSw); go_simp <;> with_reducible rfl)
  try simp only [Act.put, List.setIfInBounds_toArray, List.set_cons_zero, List.set_cons_succ]
  refine wpAnyH_take (i := 8) (oi := { dst := some 35, op := Go.Op.call { callee := Go.Callee.builtin Go.Builtin.min, args := #[Go.Operand.tmp 34, Go.Operand.const (Go.Value.int Go.IntKind.i64 30)], argTypes := #[3, 3] }, type := 3, pos := "law.go:95", after := #[{ on := 7, ground := Go.Ground.data }], guard := none }) (v := ?_) rfl (by kernel_rfl) (by kernel_rfl) (by kernel_rfl) (fun _ _ _ h => h) (Or.inl ⟨by rfl, ?_⟩) (by assumption) ?_
  rotate_left
  · (intro w hSw; (try dsimp only at hSw); go_simp <;> with_reducible rfl)
  try simp only [Act.put, List.setIfInBounds_toArray, List.set_cons_zero, List.set_cons_succ]
  refine wpAnyH_take (i := 4) (oi := { dst := some 31, op := Go.Op.slice 9 (Go.Operand.tmp 27) none (some (Go.Operand.tmp 30)) none, type := 9, pos := "law.go:95", after := #[{ on := 0, ground := Go.Ground.data }, { on := 3, ground := Go.Ground.data }], guard := none }) (v := ?_) rfl (by kernel_rfl) (by kernel_rfl) (by kernel_rfl) (fun _ _ _ h => h) (Or.inl ⟨by rfl, ?_⟩) (by assumption) ?_
  rotate_left
  · (intro w hSw; (try dsimp only at hSw); go_simp <;> with_reducible rfl)
  try simp only [Act.put, List.setIfInBounds_toArray, List.set_cons_zero, List.set_cons_succ]
  refine wpAnyH_take (i := 9) (oi := { dst := some 36, op := Go.Op.slice 9 (Go.Operand.tmp 32) none (some (Go.Operand.tmp 35)) none, type := 9, pos := "law.go:95", after := #[{ on := 5, ground := Go.Ground.data }, { on := 8, ground := Go.Ground.data }], guard := none }) (v := ?_) rfl (by kernel_rfl) (by kernel_rfl) (by kernel_rfl) (fun _ _ _ h => h) (Or.inl ⟨by rfl, ?_⟩) (by assumption) ?_
  rotate_left
  · (intro w hSw; (try dsimp only at hSw); go_simp <;> with_reducible rfl)
  try simp only [Act.put, List.setIfInBounds_toArray, List.set_cons_zero, List.set_cons_succ]
  refine wpAnyH_take (i := 10) (oi := { dst := some 0, op := Go.Op.assign (Go.Operand.tmp 31), type := 9, pos := "law.go:95", after := #[{ on := 4, ground := Go.Ground.data }, { on := 0, ground := Go.Ground.phase }, { on := 1, ground := Go.Ground.phase }, { on := 2, ground := Go.Ground.phase }, { on := 3, ground := Go.Ground.phase }, { on := 4, ground := Go.Ground.phase }, { on := 5, ground := Go.Ground.textOnly Go.Departure.lateStores }, { on := 6, ground := Go.Ground.textOnly Go.Departure.lateStores }, { on := 7, ground := Go.Ground.textOnly Go.Departure.lateStoresUnsure }, { on := 8, ground := Go.Ground.textOnly Go.Departure.lateStoresUnsure }, { on := 9, ground := Go.Ground.textOnly Go.Departure.lateStoresUnsure }], guard := none }) (v := ?_) rfl (by kernel_rfl) (by kernel_rfl) (by kernel_rfl) (fun _ _ _ h => h) (Or.inl ⟨by rfl, ?_⟩) (by assumption) ?_
  rotate_left
  · (intro w hSw; (try dsimp only at hSw); go_simp <;> with_reducible rfl)
  try simp only [Act.put, List.setIfInBounds_toArray, List.set_cons_zero]
  refine wpAnyH_take (i := 11) (oi := { dst := some 1, op := Go.Op.assign (Go.Operand.tmp 36), type := 9, pos := "law.go:95", after := #[{ on := 9, ground := Go.Ground.data }, { on := 10, ground := Go.Ground.chain }, { on := 0, ground := Go.Ground.phase }, { on := 1, ground := Go.Ground.phase }, { on := 2, ground := Go.Ground.phase }, { on := 3, ground := Go.Ground.phase }, { on := 4, ground := Go.Ground.phase }, { on := 5, ground := Go.Ground.phase }, { on := 6, ground := Go.Ground.phase }, { on := 7, ground := Go.Ground.phase }, { on := 8, ground := Go.Ground.phase }, { on := 9, ground := Go.Ground.phase }, { on := 10, ground := Go.Ground.phase }], guard := none }) (v := ?_) rfl (by kernel_rfl) (by kernel_rfl) (by kernel_rfl) (fun _ _ _ h => h) (Or.inl ⟨by rfl, ?_⟩) (by assumption) ?_
  rotate_left
  · (intro w hSw; (try dsimp only at hSw); go_simp <;> with_reducible rfl)
  try simp only [Act.put, List.setIfInBounds_toArray, List.set_cons_zero, List.set_cons_succ]
  refine wpAnyH_done (by kernel_rfl) ?_ _
  have hBD : Below w.heap.size w w1.drew := HB1.out.drew
  have HBD := Lib.hid hBD; clear hBD HB1 hHeld
  try generalize w1.drew = w2 at *
  clear mT1 mT2 mN1 mN2 tT0 tT1 tN0 tN1 eT eN
  go_wp2
  rw [HT0.out, HN0.out]
  clear HT0 HN0
  have HZS := Lib.hid (hasZ_succ nm)
  have HM := Lib.hid (textAt_miss T nm)
  have HNT := Lib.hid (textAt_name T nm)
  have hTl : T.data.toList.length = T.size := by simp
  go_loopw [7, 8] (fun d i wr => ∃ k : Nat, k ≤ nm.size ∧ i = .int .i64 (k : Int) ∧ d = .bool (hasZ nm k) ∧ wr = w2) (fun _ i _ => nm.size - (intOf i).toNat)
  case atStart => exact ⟨0, Nat.zero_le _, rfl, by simp [hasZ], rfl⟩
  case round =>
    obtain ⟨kk, hkk, rfl, rfl, rfl⟩ := hrel
    by_cases hl2 : kk < nm.size
    · have hst := HZS.out kk hl2
      have j0 : (0 : Int) ≤ (kk : Int) := by omega
      have j1 : (kk : Int) < (nm.size : Int) := by omega
      generalize hb : hasZ nm kk = bb at *
      have HNX := Lib.hid hst; clear hst hb
      cases bb
      · go_wp2
        exact ⟨⟨kk + 1, by omega, by go_num, by rw [HNX.out]; rfl, trivial⟩, by simp [intOf]; omega⟩
      · go_wp2
        exact ⟨⟨kk + 1, by omega, by go_num, by rw [HNX.out]; rfl, trivial⟩, by simp [intOf]; omega⟩
    · obtain rfl : kk = nm.size := by omega
      have HDK := Lib.hid (hasZ_zero nm)
      generalize hasZ nm nm.size = dark at *
      have hw0 : IntKind.i64.wrap ((T.size : Int) - 1) = (T.size : Int) - 1 := IntWalk.i64_in _ (by omega)
      go_wp2
      clear hw0
      go_loopw [9, 10, 11] (fun f th i wr' => ∃ j : Nat, j ≤ T.size ∧ i = .int .i64 ((T.size : Int) - 1 - (j : Int)) ∧ th = .bool (seek T.data.toList nm.data.toList j).isSome ∧ f = .int .u64 (skN (seek T.data.toList nm.data.toList j) : Nat) ∧ wr' = wr) (fun _ _ i _ => (intOf i + 1).toNat)
      case atStart => exact ⟨0, Nat.zero_le _, by simp, rfl, rfl, rfl⟩
      case round =>
        obtain ⟨j, hj, rfl, rfl, rfl, rfl⟩ := hrel
        by_cases hjl : j < T.size
        · obtain ⟨i, hi⟩ : ∃ i : Nat, i = T.size - 1 - j := ⟨_, rfl⟩
          have hiI : (T.size : Int) - 1 - (j : Int) = (i : Int) := by omega
          have hil : i < T.size := by omega
          rw [hiI]
          have hstep : seek T.data.toList nm.data.toList (j + 1) = if AtName T.data.toList nm.data.toList i then some i else seek T.data.toList nm.data.toList j := by
            rw [hi, ← hTl]; rfl
          have hiw : IntKind.u64.wrap (i : Int) = (i : Int) := by rw [IntKind.wrap_u64]; omega
          have htx := fun W => refText_any T i W (by unfold maxLen; omega)
          have HST := Lib.hid hstep; have HII := Lib.hid hiI; have HI := Lib.hid hi
          clear hstep hiI hi
          by_cases ha : AtName T.data.toList nm.data.toList i
          · have h1 := HNT.out i ha
            have HST2 : Hid (seek T.data.toList nm.data.toList (j + 1) = some i) := Lib.hid (by rw [HST.out, if_pos ha])
            simp only [h1] at htx
            have HTX := Lib.hid htx
            clear htx h1 ha HST
            go_wp2_with fail
            refine (HTX.out _).mono ?_
            rintro e w5 ⟨rfl, rfl⟩
            go_wp2
            exact ⟨⟨j + 1, by omega, by have := HII.out; exact int_eq (by push_cast; omega), by rw [HST2.out]; rfl, by rw [HST2.out]; rfl, trivial⟩, by simp [intOf]⟩
          · obtain ⟨u, b, h1, h2⟩ := HM.out i ha
            have HST2 : Hid (seek T.data.toList nm.data.toList (j + 1) = seek T.data.toList nm.data.toList j) := Lib.hid (by rw [HST.out, if_neg ha])
            simp only [h1] at htx
            have HTX := Lib.hid htx
            clear htx h1 ha HST
            cases b
            · clear h2
              go_wp2_with fail
              refine (HTX.out _).mono ?_
              rintro e w5 ⟨rfl, rfl⟩
              go_wp2
              exact ⟨⟨j + 1, by omega, by have := HII.out; exact int_eq (by push_cast; omega), by rw [HST2.out], by rw [HST2.out], trivial⟩, by simp [intOf]⟩
            · have h3 := h2 rfl
              clear h2
              go_wp2_with fail
              refine (HTX.out _).mono ?_
              rintro e w5 ⟨rfl, rfl⟩
              go_wp2
              exact ⟨⟨j + 1, by omega, by have := HII.out; exact int_eq (by push_cast; omega), by rw [HST2.out], by rw [HST2.out], trivial⟩, by simp [intOf]⟩
        · obtain rfl : j = T.size := by omega
          have hneg : (T.size : Int) - 1 - (T.size : Int) = -1 := by omega
          rw [hneg]
          clear hneg
          have hfs := find_seek T nm
          rw [ByteArray.toList_eq nm] at hfs
          have hfd := fun W => find_calls T nm (by unfold maxLen; omega) W
          rw [hfs] at hfd
          have hgood := fun (hr : RightIs T true) hrt hz => add_good T nm hTs hNs hr hrt hz
          generalize hsk : seek T.data.toList nm.data.toList T.size = sk at *
          have HFD : Hid (∀ W, Calls Try.prog 19 #[.string T, .string nm] W fun e w' => e = .returned (.tuple #[.int .u64 (skN sk : Nat), .bool sk.isSome]) ∧ Below W.heap.size W w') := Lib.hid (by
            cases sk with
            | none => exact hfd
            | some i => exact hfd)
          have HSK := Lib.hid hsk; have HGOOD := Lib.hid hgood
          clear hfs hfd hsk hgood HZS HM HNT
          go_wp2_with fail
          refine (HFD.out _).mono ?_
          rintro e w6 ⟨rfl, hb6⟩
          have HB6 : Hid (Below w.heap.size w w6) := Lib.hid (HBD.out.trans (hb6.mono HBD.out.size))
          clear hb6 HFD
          go_wp2_with fail
          cases rb
          · refine (add_data T nm HRB.out _).mono ?_
            rintro e w7 ⟨rfl, hb7⟩
            have HB7 : Hid (Below w.heap.size w w7) := Lib.hid (HB6.out.trans (hb7.mono HB6.out.size))
            clear hb7
            go_wp2_with fail
            refine (HRB.out _).mono ?_
            rintro e w8 ⟨rfl, rfl⟩
            go_wp2
            go_ret
            exact ⟨rfl, HB7.out⟩
          · by_cases hd : Zero.z nm.data.toList < nm.size
            · obtain rfl : dark = true := HDK.out.2 hd
              refine (add_name T nm HRB.out hd _).mono ?_
              rintro e w7 ⟨rfl, hb7⟩
              have HB7 : Hid (Below w.heap.size w w7) := Lib.hid (HB6.out.trans (hb7.mono HB6.out.size))
              clear hb7 hd
              go_wp2_with fail
              refine (HRB.out _).mono ?_
              rintro e w8 ⟨rfl, rfl⟩
              go_wp2
              go_ret
              exact ⟨rfl, HB7.out⟩
            · obtain rfl : dark = false := by
                cases dark
                · rfl
                · exact absurd (HDK.out.1 rfl) hd
              obtain ⟨t, k, hok, hadd⟩ := HGOOD.out HRB.out (HRT.out rfl) hd
              have hsz := hok.size
              have HTK : Hid (∀ W, Calls Try.prog 18 #[.string t, .int .u64 (k : Nat)] W fun e w' => e = .returned (.tuple #[.string nm, .bool true]) ∧ W = w') := Lib.hid (fun W => by
                have h := refText_any t k W (by unfold maxLen; omega)
                rw [hok.nm] at h
                exact h)
              obtain ⟨a, b, hab⟩ := textAt_form T n
              obtain ⟨c, d, hcd⟩ := textAt_form t n
              have HTA : Hid (∀ W, Calls Try.prog 18 #[.string T, .int .u64 (n : Nat)] W fun e w' => e = .returned (.tuple #[.string a, .bool b]) ∧ W = w') := Lib.hid (fun W => by
                have h := refText_any T n W (by unfold maxLen; omega)
                rw [hab] at h
                exact h)
              have HTC : Hid (∀ W, Calls Try.prog 18 #[.string t, .int .u64 (n : Nat)] W fun e w' => e = .returned (.tuple #[.string c, .bool d]) ∧ W = w') := Lib.hid (fun W => by
                have h := refText_any t n W (by unfold maxLen; omega)
                rw [hcd] at h
                exact h)
              have HOLD : Hid (b = true → d = true ∧ c = a) := Lib.hid (fun hb => by
                subst hb
                have h := hok.old n ⟨a, hab⟩
                rw [hab, hcd] at h
                injection h with h
                injection h with h
                simp only [List.cons.injEq, Value.string.injEq, Value.bool.injEq, and_true] at h
                exact ⟨h.2, h.1⟩)
              have HRT2 := Lib.hid hok.right; have HPRE := Lib.hid hok.pre
              have HFND := Lib.hid hok.found
              have HADD := Lib.hid hadd
              have q1 : (0 : Int) ≤ (T.size : Int) := by omega
              have q2 : (T.size : Int) ≤ (t.size : Int) := by omega
              have q3 : T.size ≤ t.size := hsz.1
              clear hok hadd hab hcd hd hsz
              refine (HADD.out _).mono ?_
              rintro e w7 ⟨rfl, hb7⟩
              have HB7 : Hid (Below w.heap.size w w7) := Lib.hid (HB6.out.trans (hb7.mono HB6.out.size))
              clear hb7 HADD HGOOD
              go_wp2_with fail
              refine (HRB.out _).mono ?_
              rintro e w8 ⟨rfl, rfl⟩
              go_wp2_with fail
              refine (HTK.out _).mono ?_
              rintro e w8 ⟨rfl, rfl⟩
              go_wp2_with fail
              refine (HTA.out _).mono ?_
              rintro e w8 ⟨rfl, rfl⟩
              go_wp2_with fail
              refine (HTC.out _).mono ?_
              rintro e w8 ⟨rfl, rfl⟩
              go_wp2_with fail
              refine (HRT2.out _).mono ?_
              rintro e w8 ⟨rfl, rfl⟩
              have hpre := HPRE.out
              have hpre2 : t.extract 0 (T.size : Int).toNat = T := by rw [Int.toNat_natCast]; exact hpre
              have hlt : decide ((t.size : Int) < (T.size : Int)) = false := by rw [decide_eq_false_iff_not]; omega
              have hlt2 : decide (T.size ≤ t.size) = true := by rw [decide_eq_true_iff]; omega
              cases sk with
              | none =>
                cases b
                · go_wp2
                  go_ret
                  exact ⟨by first | rfl | simp, HB7.out⟩
                · obtain ⟨rfl, rfl⟩ := HOLD.out rfl
                  go_wp2
                  go_ret
                  exact ⟨by first | rfl | simp, HB7.out⟩
              | some i =>
                obtain ⟨e1, e2⟩ := HFND.out i HSK.out
                have hs5 : ((k : Int) == ((skN (some i) : Nat) : Int)) = true := by rw [e2]; simp [skN]
                have hs6 : (k == skN (some i)) = true := by rw [e2]; simp [skN]
                clear e2
                subst e1
                cases b
                · go_wp2
                  go_ret
                  exact ⟨by first | rfl | simp, HB7.out⟩
                · obtain ⟨rfl, rfl⟩ := HOLD.out rfl
                  go_wp2
                  go_ret
                  exact ⟨by first | rfl | simp, HB7.out⟩
theorem adds_law (s0 n0 : ByteArray) (a : Int) (ha : (Lit.int .u64 a).wf = true) (w : World) : Calls Try.prog 5 #[.string s0, .string n0, .int .u64 a] w fun e w' => e = .returned (.bool true) ∧ Below w.heap.size w w' := by
  have h3 : IntKind.u64.min = 0 := by decide
  have h4 : IntKind.u64.max = 18446744073709551615 := by decide
  simp [Lit.wf, h3, h4] at ha
  obtain ⟨n, rfl⟩ := Int.eq_ofNat_of_zero_le ha.1
  exact adds_core s0 n0 _ _ n (min s0.size 200) (min n0.size 30) (by omega) (by omega) rfl rfl w
end Go.Proofs.Ytddlflabdlgnbaa
