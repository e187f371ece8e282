/- The contract of relrec's ReadAll. Conditions: those written in each theorem. -/
import Derived.Test.YtddlflabdlgnbaaXQ
namespace Go.Proofs.Ytddlflabdlgnbaa
open Go.RowKit
theorem info49 : (Try.prog.info? 49).map (fun i => (i.zero, i.size, i.bytes)) = some (some (.agg #[.int .u64 0, .int .u64 0, .int .u64 0, .int .u64 0]), 4, 32) := by kernel_rfl
def cellsR (r : Rl) : List Value := [.int .u64 (r.off : Nat), .int .u64 (r.sym : Nat), .int .u64 (r.ty : Nat), .int .u64 (r.add : Nat)]
def flatR (R : Nat → Rl) : Nat → List Value
  | 0 => []
  | k + 1 => flatR R k ++ cellsR (R k)
theorem flatR_len (R : Nat → Rl) : ∀ k, (flatR R k).length = k * 4
  | 0 => rfl
  | k + 1 => by simp [flatR, flatR_len R k, cellsR]; omega
theorem flatR_at (R : Nat → Rl) : ∀ (k i j : Nat), i < k → j < 4 → (flatR R k)[i * 4 + j]? = (cellsR (R i))[j]?
  | 0, i, j, h, _ => absurd h (Nat.not_lt_zero _)
  | k + 1, i, j, h, hj => by
    simp only [flatR]
    by_cases hi : i < k
    · rw [List.getElem?_append_left (by rw [flatR_len]; omega), flatR_at R k i j hi hj]
    · obtain rfl : i = k := by omega
      rw [List.getElem?_append_right (by rw [flatR_len]; omega), flatR_len, Nat.add_sub_cancel_left]
theorem flatR_congr {R R' : Nat → Rl} : ∀ k, (∀ i, i < k → R i = R' i) → flatR R k = flatR R' k
  | 0, _ => rfl
  | k + 1, h => by simp only [flatR]; rw [flatR_congr k (fun i hi => h i (by omega)), h k (by omega)]
theorem own_rowR {w : World} {base n : Nat} {v : Value} {R : Nat → Rl} (h : w.ownsRow base 49 4 v n (flatR R n)) : ∃ A c, v = .slice A n c ∧ RowR w A n R := by
  rcases h.2 with ⟨rfl, rfl⟩ | ⟨g, cap, cur, rfl, _, hb, hnc, _, hcs, ht⟩
  · exact ⟨none, 0, rfl, fun i hi => absurd hi (Nat.not_lt_zero _)⟩
  · refine ⟨_, cap, rfl, fun i hi => ⟨g, 0, rfl, (Array.getElem?_eq_some_iff.1 hb).1, ?_⟩⟩
    have key : ∀ j, j < 4 → w.cell? ⟨g, 0 + i * 4 + j, none⟩ = (cellsR (R i))[j]? := fun j hj => by
      rw [Nat.zero_add, Lib.cell_of_heap hb]
      have h4 : cur.toList[i * 4 + j]? = (cur.toList.take (n * 4))[i * 4 + j]? := (List.getElem?_take_of_lt (by omega)).symm
      rw [← Array.getElem?_toList, h4, ht, flatR_at R n i j hi hj]
    exact ⟨key 0 (by omega), key 1 (by omega), key 2 (by omega), key 3 (by omega)⟩
def recAt (big wide a : Bool) (s : ByteArray) (i : Nat) : Rl :=
  let t := (s.extract (i * rLen wide a) s.size).data.toList
  ⟨rOff big wide a t, rSym big wide a t, rTy big wide a t, rAdd big wide a t⟩
theorem ext_list' (s : ByteArray) (p : Nat) : (s.extract p s.size).data.toList = s.data.toList.drop p := by
  simp only [ByteArray.data_extract, Array.toList_extract, List.extract_eq_take_drop]
  rw [List.take_of_length_le (by simp)]
theorem ext_ext' (s : ByteArray) (p z : Nat) : (s.extract p s.size).extract z (s.extract p s.size).size = s.extract (p + z) s.size := by
  apply ByteArray.ext
  apply Array.toList_inj.1
  rw [ext_list', ext_list', ext_list', List.drop_drop]
theorem mod_of {n k z r : Nat} (h : n = k * z + r) (hr : r < z) : n % z = r ∧ n / z = k := by
  subst h
  rw [Nat.mul_comm k z]
  refine ⟨by rw [Nat.mul_add_mod, Nat.mod_eq_of_lt hr], ?_⟩
  rw [Nat.mul_add_div (by omega), Nat.div_eq_of_lt hr, Nat.add_zero]
theorem rLen_pos (wide a : Bool) : 8 ≤ rLen wide a ∧ rLen wide a ≤ 24 := by cases wide <;> cases a <;> decide
def ReadPost (big wide a : Bool) (s : ByteArray) (w : World) (e : Ending) (w' : World) : Prop := Below w.heap.size w w' ∧
  ((s.size % rLen wide a = 0 ∧ ∃ v, e = .returned (.tuple #[v, .bool true]) ∧ w'.ownsRow w.heap.size 49 4 v (s.size / rLen wide a) (flatR (recAt big wide a s) (s.size / rLen wide a))) ∨
   (s.size % rLen wide a ≠ 0 ∧ e = .returned (.tuple #[.slice none 0 0, .bool false])))
theorem cells_new (w : World) (l : List Value) (t : TypeId) : ∀ j u, l[j]? = some u → (w.alloc (.cells l.toArray t)).cell? ((⟨w.heap.size, 0, none⟩ : Addr).add j) = some u := fun j u h => by
  rw [Go.WideShapes.add_plain, Nat.zero_add, Lib.cell_of_heap (heap_alloc_new w _)]
  simpa using h
theorem cells_new2 (w : World) (o : Obj) (l : List Value) (t : TypeId) : ∀ j u, l[j]? = some u → ((w.alloc o).alloc (.cells l.toArray t)).cell? ((⟨w.heap.size + 1, 0, none⟩ : Addr).add j) = some u := fun j u h => by
  have h2 := cells_new (w.alloc o) l t j u h
  rwa [show (w.alloc o).heap.size = w.heap.size + 1 by simp] at h2
theorem own_lower {w : World} {B B' e size n : Nat} {v : Value} {xs : List Value} (h : w.ownsRow B e size v n xs) (hb : B' ≤ B) : w.ownsRow B' e size v n xs := by
  refine ⟨h.1, ?_⟩
  rcases h.2 with h1 | ⟨g, cap, cur, h1, h2, h3⟩
  · exact .inl h1
  · exact .inr ⟨g, cap, cur, h1, Nat.le_trans hb h2, h3⟩
theorem own_floor {w : World} {B e size n : Nat} {v : Value} {xs : List Value} (h : w.ownsRow B e size v n xs) : ∀ k, v.ownBlock = some k → B ≤ k := fun k hk => by
  rcases h.2 with ⟨rfl, _⟩ | ⟨g, cap, cur, rfl, h2, _⟩
  · cases hk
  · cases hk; exact h2
set_option maxRecDepth 100000 in
set_option maxHeartbeats 2000000 in
theorem readAll_any (big wide a : Bool) (s : ByteArray) (hs : s.size ≤ 1000) (w : World) : Calls Try.prog 30 #[.agg #[.bool big, .bool wide], .bool a, .string s] w (ReadPost big wide a s w) := by
  obtain ⟨i0, hi, hz0, hz1, hz2⟩ := info_parts info49
  have hBx : Below w.heap.size w (w.alloc (.cells #[.bool big, .bool wide] 46)) := (Below.refl _ _).alloc (Nat.le_refl _) _
  have hf0 : (w.alloc (.cells #[.bool big, .bool wide] 46)).cell? ⟨w.heap.size, 0, none⟩ = some (.bool big) := by simp
  have hf1 : (w.alloc (.cells #[.bool big, .bool wide] 46)).cell? ⟨w.heap.size, 1, none⟩ = some (.bool wide) := by simp
  have hz : w.heap.size < (w.alloc (.cells #[.bool big, .bool wide] 46)).heap.size := by simp
  go_enter Try.func30, Try.ntmps30
  go_upto_region 1 with (fail)
  generalize (w.alloc (.cells #[.bool big, .bool wide] 46)) = W1 at *
  have HBX := Lib.hid hBx
  have HF0 : Hid (∀ u, Below W1.heap.size W1 u → u.cell? ⟨w.heap.size, 0, none⟩ = some (.bool big)) := Lib.hid (fun u h => (h.cell (by exact hz)).trans hf0)
  have HF1 : Hid (∀ u, Below W1.heap.size W1 u → u.cell? ⟨w.heap.size, 1, none⟩ = some (.bool wide)) := Lib.hid (fun u h => (h.cell (by exact hz)).trans hf1)
  have HE : Hid (∀ u, Below W1.heap.size W1 u → Below w.heap.size w u) := Lib.hid (fun u h => HBX.out.trans (h.mono HBX.out.size))
  have hz1' : w.heap.size ≤ W1.heap.size := Nat.le_of_lt hz
  clear hBx
  go_wp2_with fail
  refine (rsize_any big wide a _).mono ?_
  rintro e w1 ⟨rfl, h1⟩
  have HB1 := Lib.hid h1
  clear h1 hf0 hf1
  obtain ⟨hz8, hz24⟩ := rLen_pos wide a
  have HREAD : Hid (∀ k u, k * rLen wide a + rLen wide a ≤ s.size → Calls Try.prog 26 #[.agg #[.bool big, .bool wide], .bool a, .string (s.extract (k * rLen wide a) s.size)] u fun e u' => e = .returned (.tuple #[.agg #[.int .u64 ((recAt big wide a s k).off : Nat), .int .u64 ((recAt big wide a s k).sym : Nat), .int .u64 ((recAt big wide a s k).ty : Nat), .int .u64 ((recAt big wide a s k).add : Nat)], .bool true]) ∧ Below u.heap.size u u') :=
    Lib.hid (fun k u h => rread_is big wide a (s.extract (k * rLen wide a) s.size) (by simp; omega) (by simp; omega) u)
  have HNONE : Hid (∀ k u, s.size < k * rLen wide a + rLen wide a → k * rLen wide a ≤ s.size → Calls Try.prog 26 #[.agg #[.bool big, .bool wide], .bool a, .string (s.extract (k * rLen wide a) s.size)] u fun e u' => e = .returned (.tuple #[.agg #[.int .u64 0, .int .u64 0, .int .u64 0, .int .u64 0], .bool false]) ∧ Below u.heap.size u u') :=
    Lib.hid (fun k u h h2 => rread_none big wide a (s.extract (k * rLen wide a) s.size) (by simp; omega) (by simp; omega) u)
  generalize hR : recAt big wide a s = R at *
  have HRR := Lib.hid hR; clear hR
  generalize hzz : rLen wide a = z at *
  have HZ := Lib.hid hzz; clear hzz
  have hstart : s = s.extract (0 * z) s.size := by rw [Nat.zero_mul, ByteArray.extract_zero_size]
  have HST := Lib.hid hstart; clear hstart
  go_wp2
  go_loopw [2, 8] (fun t l wr => ∃ k : Nat, k * z ≤ s.size ∧ t = .string (s.extract (k * z) s.size) ∧ wr.ownsRow W1.heap.size 49 4 l k (flatR R k) ∧ Below W1.heap.size W1 wr) (fun t _ _ => match t with | .string t => t.size | _ => 0)
  case atStart => exact ⟨0, by omega, by rw [← HST.out], World.ownsRow_nil _ _ _ _, HB1.out⟩
  case round =>
    obtain ⟨k, hk, rfl, hown, hB⟩ := hrel
    have hemp : (s.extract (k * z) s.size).toList.isEmpty = !decide (k * z < s.size) := by
      rw [ByteArray.toList_eq, ext_list', Bool.eq_iff_iff]
      simp
    have hts : (s.extract (k * z) s.size).size = s.size - k * z := by simp
    have hnx := ext_ext' s (k * z) z
    have e1 : (k + 1) * z = k * z + z := Nat.succ_mul _ _
    rw [← e1, hts] at hnx
    have HNX := Lib.hid hnx; clear hnx
    have HOWN := Lib.hid hown; have HB := Lib.hid hB; clear hown hB
    by_cases hlt : k * z < s.size
    · have f0 := HF0.out _ HB.out
      have f1 := HF1.out _ HB.out
      have hd : decide (k * z < s.size) = true := by simpa using hlt
      rw [hd] at hemp
      replace hemp : (s.extract (k * z) s.size).toList.isEmpty = false := hemp
      clear hd
      by_cases hfit : k * z + z ≤ s.size
      · have HRD := Lib.hid (fun u => HREAD.out k u hfit)
        have hkk : k ≤ 1000 := by have := Nat.le_mul_of_pos_right k (show 0 < z by omega); omega
        have HFL : Hid (flatR R (k + 1) = flatR R k ++ cellsR (R k)) := Lib.hid rfl
        generalize s.extract (k * z) s.size = t at *
        generalize R k = r at *
        obtain ⟨ro, rs, rt, ra⟩ := r
        have m0 : (0 : Int) ≤ (z : Int) := by omega
        have m1 : (z : Int) ≤ (t.size : Int) := by omega
        have htl : (z : Int).toNat = z := by omega
        have H1 : Hid ((k + 1) * z ≤ s.size) := Lib.hid (by omega)
        have H2 : Hid ((s.extract ((k + 1) * z) s.size).size < t.size) := Lib.hid (by simp; omega)
        clear hfit hlt hk e1
        go_wp2_with fail
        refine (HRD.out _).mono ?_
        rintro e w4 ⟨rfl, h4⟩
        have hB4 := HB.out.trans (h4.mono HB.out.size)
        have hown4 := own_stay HOWN.out h4
        have HB4 := Lib.hid hB4; have HOWN4 := Lib.hid hown4
        clear h4 hB4 hown4 f0 f1
        go_wp2_with (first
          | (at_builtin; go_loud (refine wpList_append_own _ rfl _ _ 61 rfl W1.heap.size 49 i0 (.agg #[.int .u64 0, .int .u64 0, .int .u64 0, .int .u64 0]) 4 32 Try.underlying61 hi hz0 hz1 hz2 rfl (by decide) _ _ _ rfl (own_stay HOWN4.out (((Below.refl _ _).alloc (Nat.le_refl _) _).alloc (by simp) _)) _ 1 1 (cellsR ⟨ro, rs, rt, ra⟩) rfl rfl (cells_new2 _ _ _ _) (by simp [cellsR, Value.oneCell']) (by unfold maxLen; omega) (by omega) (by have := HB4.out.size; simp; omega) ?_); intro v' w5 hown' hg5 hnil5
             have hB5 : Below W1.heap.size W1 w5 := ((HB4.out.alloc HB4.out.size _).alloc (by have := HB4.out.size; simp; omega) _).grown hg5 (by have := HB4.out.size; simp; omega) (own_floor HOWN4.out)
             have HB5 := Lib.hid hB5; have HOWN5 := Lib.hid hown'; clear hB5 hown' hg5 hnil5)
          | go_in)
        refine ⟨⟨k + 1, H1.out, by rw [← HNX.out], by rw [HFL.out]; exact HOWN5.out, HB5.out⟩, ?_⟩
        rw [HNX.out]
        exact H2.out
      · have HRD := Lib.hid (fun u => HNONE.out k u (by omega) hk)
        obtain ⟨hm, _⟩ := mod_of (n := s.size) (k := k) (z := z) (r := s.size - k * z) (by omega) (by omega)
        have HM : Hid (s.size % z ≠ 0) := Lib.hid (by omega)
        generalize s.extract (k * z) s.size = t at *
        clear hm hfit hlt hk e1
        go_wp2_with fail
        refine (HRD.out _).mono ?_
        rintro e w4 ⟨rfl, h4⟩
        have hB4 := HE.out _ (HB.out.trans (h4.mono HB.out.size))
        have HB4 := Lib.hid hB4
        clear h4 hB4 f0 f1
        go_wp2
        go_ret2
        exact ⟨HB4.out.alloc HB4.out.size _, .inr ⟨by rw [HZ.out]; exact HM.out, rfl⟩⟩
    · obtain ⟨hm, hdv⟩ := mod_of (n := s.size) (k := k) (z := z) (r := 0) (by omega) (by omega)
      have hd : decide (k * z < s.size) = false := by simpa using hlt
      rw [hd] at hemp
      replace hemp : (s.extract (k * z) s.size).toList.isEmpty = true := hemp
      generalize s.extract (k * z) s.size = t at *
      have HM := Lib.hid hm; have HD := Lib.hid hdv
      clear hm hdv hd hlt hk e1
      go_wp2
      go_ret2
      exact ⟨HE.out _ HB.out, .inl ⟨by rw [HZ.out]; exact HM.out, _, rfl, by rw [HZ.out, HD.out, HRR.out]; exact own_lower HOWN.out hz1'⟩⟩
end Go.Proofs.Ytddlflabdlgnbaa
