/- What Notes makes of what PutNotes made; formOf and speaks of layer 10. Conditions: those written in each theorem. -/
import Derived.Test.YtnmklmaclmjfbaaDoorDF
import Derived.Test.YtnmklmaclmjfbaaDoorDG
import Derived.Test.YtnmklmaclmjfbaaDoorDJ
namespace Go.Proofs.YtnmklmaclmjfbaaDoor
open Go.RowKit
theorem flatF_len (X : Nat → Nt) : ∀ k, (flatNt (firstN X k)).length = k * 3
  | 0 => rfl
  | k + 1 => by rw [firstN_succ, flatNt_snoc, List.length_append, flatF_len X k]; simp [cellsNt]; omega
theorem flatF_at (X : Nat → Nt) : ∀ (k i j : Nat), i < k → j < 3 → (flatNt (firstN X k))[i * 3 + j]? = (cellsNt (X i))[j]?
  | 0, i, j, h, _ => absurd h (Nat.not_lt_zero _)
  | k + 1, i, j, h, hj => by
    rw [firstN_succ, flatNt_snoc]
    by_cases hi : i < k
    · rw [List.getElem?_append_left (by rw [flatF_len]; omega), flatF_at X k i j hi hj]
    · obtain rfl : i = k := by omega
      rw [List.getElem?_append_right (by rw [flatF_len]; omega), flatF_len, Nat.add_sub_cancel_left]
theorem own_rowNt {w : World} {base n : Nat} {v : Value} {X : Nat → Nt} (h : w.ownsRow base 48 3 v n (flatNt (firstN X n))) : ∃ A c, v = .slice A n c ∧ RowNt w A n X := by
  rcases h.2 with ⟨rfl, rfl⟩ | ⟨g, cap, cur, rfl, _, hb, hnc, _, hcs, ht⟩
  · exact ⟨none, 0, rfl, fun i hi => absurd hi (Nat.not_lt_zero _)⟩
  · refine ⟨_, cap, rfl, fun i hi => ⟨g, 0, rfl, (Array.getElem?_eq_some_iff.1 hb).1, ?_⟩⟩
    have key : ∀ j, j < 3 → w.cell? ⟨g, 0 + i * 3 + j, none⟩ = (cellsNt (X i))[j]? := fun j hj => by
      rw [Nat.zero_add, Lib.cell_of_heap hb]
      have h4 : cur.toList[i * 3 + j]? = (cur.toList.take (n * 3))[i * 3 + j]? := (List.getElem?_take_of_lt (by omega)).symm
      rw [← Array.getElem?_toList, h4, ht, flatF_at X n i j hi hj]
    exact ⟨key 0 (by omega), key 1 (by omega), key 2 (by omega)⟩
/-- What PutNotes made is read back. -/
theorem notes_back {big : Bool} {s : ByteArray} {n : Nat} {X : Nat → Nt} (hX : ∀ i, i < n → smallN (X i)) (hs : s.data.toList = catN big X n) {w w' : World} {e : Ending} (h : NotesPost big s w e w') :
    Below w.heap.size w w' ∧ ∃ A c, e = .returned (.tuple #[.slice A n c, .int .i64 0]) ∧ RowNt w' A n X := by
  obtain ⟨hb, k, p, l, z, hr, hc⟩ := h
  have hp := run_put hX (s := s) (tail := []) (by rw [hs, List.append_nil]) n (Nat.le_refl _)
  have hsz : s.size = (catN big X n).length := by rw [← ba_len, hs]
  have hk : k = n := runN_end hr hp (by rcases hc with ⟨h1, _⟩ | ⟨h1, _⟩ | ⟨_, h1, _⟩ <;> intro h2 <;> first | omega | (rw [h1] at h2; cases h2.2)) (by omega)
  subst hk
  rw [hp] at hr
  injection hr with hr
  injection hr with e1 hr
  injection hr with e2 e3
  subst e1 e2 e3
  refine ⟨hb, ?_⟩
  rcases hc with ⟨_, _, v, h1, h2⟩ | ⟨_, h1, _⟩ | ⟨h1, _⟩
  · obtain ⟨A, c, rfl, hrow⟩ := own_rowNt h2
    exact ⟨A, c, h1, hrow⟩
  · cases h1
  · omega
theorem dform (fl : Int) (big wide : Bool) (hb : (bits BinOp.and IntKind.i64 fl 1 == 1) = big) (hw : (bits BinOp.and IntKind.i64 fl 2 == 2) = wide) (w : World) :
    Calls Tryd.prog 8 #[.int .i64 fl] w fun e w' => e = .returned (.agg #[.bool big, .bool wide]) ∧ Below w.heap.size w w' := by
  subst hb hw
  go_enter Tryd.func8, Tryd.ntmps8
  go_wp2
  generalize (bits BinOp.and IntKind.i64 fl 1 == 1) = big
  generalize (bits BinOp.and IntKind.i64 fl 2 == 2) = wide
  exact bodyPost_ret (v := .agg #[.bool big, .bool wide]) (by simp [results, Tryd.results8, go_sem]) rfl ⟨rfl, (Below.refl _ _).alloc (Nat.le_refl _) _⟩
def X1 : Nt := ⟨5, ⟨#[97]⟩, ⟨#[]⟩⟩
def T1 : ByteArray := ⟨(catN false (fun _ => X1) 1).toArray⟩
theorem T1_size : T1.size = 16 := by decide
theorem put1 (g : Nat) (W : World) (h : W.heap[g]? = some (.cells #[.int .u64 5, .string ⟨#[97]⟩, .string ⟨#[]⟩] 48 (0, 0))) : Calls Tryd.prog 12 #[.agg #[.bool false, .bool false], .slice (some ⟨g, 0, none⟩) 1 1] W fun e w' => e = .returned (.tuple #[.string T1, .bool true]) ∧ Below W.heap.size W w' :=
  putNotes_any false false (some ⟨g, 0, none⟩) 1 1 (fun _ => X1) (by decide) (by decide) (fun _ _ => by decide) W (fun i hi => by
    obtain rfl : i = 0 := by omega
    exact ⟨g, 0, rfl, (Array.getElem?_eq_some_iff.1 h).1, by rw [Lib.cell_of_heap h]; rfl, by rw [Lib.cell_of_heap h]; rfl, by rw [Lib.cell_of_heap h]; rfl⟩)
theorem notes1 (W : World) : Calls Tryd.prog 14 #[.agg #[.bool false, .bool false], .string T1] W fun e w' => ∃ A c, (e = .returned (.tuple #[.slice A 1 c, .int .i64 0]) ∧ RowNt w' A 1 (fun _ => X1)) ∧ Below W.heap.size W w' :=
  (notes_any false false T1 (by rw [T1_size]; decide) W).mono fun e w' h => by
    obtain ⟨hb, A, c, h1, h2⟩ := notes_back (X := fun _ => X1) (n := 1) (fun _ _ => ⟨by decide, by decide, by decide⟩) rfl h
    exact ⟨A, c, ⟨h1, h2⟩, hb⟩
theorem putZ (big wide : Bool) : ∃ Z : ByteArray, Z.size = 2 * wordN wide ∧ Z.data.toList = encE big wide 0 0 ∧ ∀ w, Calls Tryd.prog 18 #[.agg #[.bool big, .bool wide], .agg #[.int .u64 0, .int .u64 0]] w fun e w' => e = .returned (.tuple #[.string Z, .bool true]) ∧ Below w.heap.size w w' := by
  obtain ⟨S, ok, hr⟩ := recIs_exists big wide [0, 0] [0, 0] 2 2
  have h0 : (0 : Nat) < 256 ^ wordN wide := Nat.pow_pos (by decide)
  cases ok
  · exfalso
    rcases hr with ⟨h, _⟩ | ⟨_, _, _, h⟩ | ⟨_, ⟨k0, hk, _, hno⟩, _⟩
    · exact h rfl
    · cases h
    · refine hno ?_
      have hf : fullZ wide 0 = (wordN wide : Int) := by unfold fullZ; rw [if_pos rfl]
      have hw := wordN_pos wide
      match k0, hk with
      | 0, _ => exact ⟨by simp only [List.getD_cons_zero, hf]; omega, by simp only [List.getD_cons_zero, hf]; omega, by simp only [List.getD_cons_zero, hf, Int.toNat_natCast]; exact h0⟩
      | 1, _ => exact ⟨by simp only [List.getD_cons_zero, List.getD_cons_succ, hf]; omega, by simp only [List.getD_cons_zero, List.getD_cons_succ, hf]; omega, by simp only [List.getD_cons_zero, List.getD_cons_succ, hf, Int.toNat_natCast]; exact h0⟩
  · have h1 := ((recE hr).1 rfl).1
    exact ⟨S, by rw [← ba_len, h1, encE_length], h1, fun w => putEntry_is big wide 0 0 (by decide) (by decide) S true hr w⟩
theorem dyn0 (W : World) : ∃ Z : ByteArray, Z.size = 16 ∧ Calls Tryd.prog 9 #[.agg #[.bool false, .bool true], .slice none 0 0] W fun e w' => e = .returned (.tuple #[.string Z, .bool true]) ∧ Below W.heap.size W w' := by
  obtain ⟨Z, hz, _, hc⟩ := putZ false true
  refine ⟨(ByteArray.mk #[]) ++ Z, by rw [ByteArray.size_append, hz]; rfl, ?_⟩
  exact putDyn_any false true none 0 0 (fun _ => (0, 0)) (fun _ => ⟨#[]⟩) (fun _ => true) Z (by decide) (fun i hi => absurd hi (Nat.not_lt_zero _)) (by rw [hz]; decide) (fun i hi => absurd hi (Nat.not_lt_zero _)) hc W (fun i hi => absurd hi (Nat.not_lt_zero _))
set_option maxRecDepth 100000 in
set_option maxHeartbeats 1000000 in
theorem dspeaks (w : World) : Calls Tryd.prog 7 #[] w fun e w' => e = .returned (.bool true) ∧ Below w.heap.size w w' := by
  have HT := Lib.hid T1_size
  have HP1 := Lib.hid put1; have HN1 := Lib.hid notes1
  generalize T1 = T at *
  go_enter Tryd.func7, Tryd.ntmps7
  go_wp2_with fail
  refine (dform 0 false false (by decide) (by decide) _).mono ?_
  rintro e w1 ⟨rfl, h1⟩
  go_wp2_with fail
  refine (HP1.out w1.heap.size _ (heap_alloc_new _ _)).mono ?_
  rintro e w2 ⟨rfl, h2⟩
  have HB2 := Lib.hid (h1.trans ((below_more (Below.refl _ w1) _).trans (h2.mono (by simp)) |>.mono h1.size))
  clear h1 h2
  go_wp2_with fail
  refine (dform 0 false false (by decide) (by decide) _).mono ?_
  rintro e w3 ⟨rfl, h3⟩
  go_wp2_with fail
  refine (HN1.out _).mono ?_
  rintro e w4 ⟨A, c, ⟨rfl, hrow⟩, h4⟩
  have HB4 := Lib.hid (HB2.out.trans ((h3.trans (h4.mono h3.size)).mono HB2.out.size))
  have HROW := Lib.hid hrow
  clear h3 h4 hrow
  go_wp2_with fail
  refine (dform 2 false true (by decide) (by decide) _).mono ?_
  rintro e w5 ⟨rfl, h5⟩
  obtain ⟨Z, hz, hd⟩ := dyn0 w5
  have HD := Lib.hid hd; have HZ := Lib.hid hz
  clear hd hz
  go_wp2_with fail
  refine HD.out.mono ?_
  rintro e w6 ⟨rfl, h6⟩
  have h46 : Below w4.heap.size w4 w6 := h5.trans (h6.mono h5.size)
  have HB6 := Lib.hid (HB4.out.trans (h46.mono HB4.out.size))
  obtain ⟨b, o, rfl, hbl, hc0, hc1, hc2⟩ := HROW.out.low h46 0 (by decide)
  have hc1' : w6.cell? ⟨b, o + 1, none⟩ = some (.string ⟨#[97]⟩) := by simpa [X1] using hc1
  clear h5 h6 h46 hc0 hc1 hc2 hbl
  have t1 := HT.out
  have t2 := HZ.out
  go_wp2
  go_ret
  exact ⟨by first | rfl | simp, HB6.out⟩
end Go.Proofs.YtnmklmaclmjfbaaDoor
