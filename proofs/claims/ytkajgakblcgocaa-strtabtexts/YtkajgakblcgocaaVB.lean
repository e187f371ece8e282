/- The walk of StrtabTexts. Conditions: those written in each theorem. -/
import Derived.Test.YtkajgakblcgocaaVA
import Derived.Test.YtkajgakblcgocaaUS
import Derived.Test.YtkajgakblcgocaaTB
import Derived.Test.YtkajgakblcgocaaTD
import Derived.Test.YtkajgakblcgocaaTF
namespace Go.Proofs.Ytkajgakblcgocaa
open Go.RowKit
theorem textAt_form (t : ByteArray) (n : Nat) : ∃ (x : ByteArray) (y : Bool), textAt t n = .tuple #[.string x, .bool y] := by
  unfold textAt
  split
  · exact ⟨_, _, rfl⟩
  · exact ⟨_, _, rfl⟩
theorem below_drewN (w : World) (m : Nat) (B : Nat) : Below B w (w.drewN m) := ⟨rfl, rfl, rfl, Nat.le_refl _, fun _ _ => rfl⟩
set_option maxRecDepth 100000 in
set_option maxHeartbeats 4000000 in
theorem texts_law (t : ByteArray) (n : Nat) (w : World) : Calls Try.prog 3 #[.string t, .int .u64 n] w fun e w' => e = .returned (.bool true) ∧ Below w.heap.size w w' := by
  obtain ⟨m, hm⟩ : ∃ m : Nat, m = min t.size 300 := ⟨_, rfl⟩
  have hmi : min (t.size : Int) 300 = (m : Int) := by omega
  have hml : m ≤ t.size := by omega
  have hm3 : m ≤ 300 := by omega
  clear hm
  go_enter Try.func3, Try.ntmps3
  go_wp2_with fail
  refine (speaks_any w).mono ?_
  rintro e w1 ⟨rfl, hB1⟩
  have HB1 := Lib.hid hB1; clear hB1
  go_wp2_with fail
  have hs : (t.extract 0 m).size = m := by simp; omega
  generalize t.extract 0 m = s at *
  have hsm : s.size ≤ 300 := by omega
  clear hs hmi hml hm3
  have hmx : s.size ≤ maxLen := by unfold maxLen; omega
  obtain ⟨x, y, hxy⟩ := textAt_form s n
  have HT1 := Lib.hid (text_any s n w1 hmx)
  refine HT1.out.mono ?_
  rintro e w2 ⟨rfl, q, rfl⟩
  have hB2 : Below w.heap.size w (w1.drewN q) := HB1.out.trans (below_drewN _ _ _)
  have HB2 := Lib.hid hB2
  clear hB2 HT1 HB1
  generalize w1.drewN q = w2 at *
  rw [hxy]
  have HRT := Lib.hid (refText_any s n w2 hmx)
  rw [hxy] at HRT
  clear hxy
  go_wp2_with fail
  refine HRT.out.mono ?_
  rintro e w3 ⟨rfl, rfl⟩
  clear HRT
  have hz2 := HB2.out.size
  by_cases hem : s.size = 0
  · obtain rfl : s = ⟨#[]⟩ := by
      apply ByteArray.ext
      exact Array.eq_empty_of_size_eq_zero hem
    clear hem hmx hsm
    have HALL := Lib.hid (callsIn_wide.1 (all_yes 3 (Nat.le_refl _) ⟨#[]⟩ (by decide) right_empty w2))
    have HRR := Lib.hid right_empty
    go_wp2_with fail
    refine HALL.out.mono ?_
    rintro e w4 ⟨v, rfl, hrow, hnil, hB4⟩
    obtain rfl : v = .slice none 0 0 := hnil.2 (by decide)
    have hB5 : Below w.heap.size w w4 := HB2.out.trans (hB4.mono hz2)
    have HB5 := Lib.hid hB5
    clear hrow hnil hB4 HALL hB5
    go_wp2_with fail
    refine (HRR.out _).mono ?_
    rintro e w5 ⟨rfl, rfl⟩
    go_wp2
    go_ret
    exact ⟨rfl, HB5.out⟩
  · have hpos : 0 < s.size := by omega
    have hR := fun w => right_some s w hpos hmx
    have hi : (0 : Int) < (s.size : Int) := by omega
    have hw1 : IntKind.i64.wrap ((s.size : Int) - 1) = (s.size : Int) - 1 := IntWalk.i64_in _ (by omega)
    have hi1 : (0 : Int) ≤ (s.size : Int) - 1 := by omega
    have hi2 : (s.size : Int) - 1 < (s.size : Int) := by omega
    have hi3 : ((s.size : Int) - 1).toNat = s.size - 1 := by omega
    have hne : s.toList ≠ [] := by
      rw [ByteArray.toList_eq]
      intro he
      have h1 : s.data.toList.length = s.size := by simp
      rw [he] at h1
      simp only [List.length_nil] at h1
      omega
    have hn1 : (s.toList == []) = false := by simpa using hne
    have hn2 : s.toList.isEmpty = false := by simpa using hne
    have hn3 : (!s.toList.isEmpty) = true := by rw [hn2]; rfl
    have HNE := Lib.hid hne; clear hne
    have HR := Lib.hid hR; clear hR
    cases h0 : ((s[0].toNat : Int) == 0)
    · have HRR : Hid (RightIs s false) := Lib.hid (fun w => by have := HR.out w; rw [h0] at this; exact this)
      have HALL := Lib.hid (all_no s HRR.out w2)
      clear HR
      go_wp2_with fail
      refine HALL.out.mono ?_
      rintro e w4 ⟨rfl, rfl⟩
      clear HALL
      go_wp2_with fail
      refine (HRR.out _).mono ?_
      rintro e w5 ⟨rfl, rfl⟩
      go_wp2
      go_ret
      exact ⟨rfl, HB2.out⟩
    · cases h1 : ((s[s.size - 1].toNat : Int) == 0)
      · have HRR : Hid (RightIs s false) := Lib.hid (fun w => by have := HR.out w; rw [h0, h1] at this; exact this)
        have HALL := Lib.hid (all_no s HRR.out w2)
        clear HR
        go_wp2_with fail
        refine HALL.out.mono ?_
        rintro e w4 ⟨rfl, rfl⟩
        clear HALL
        go_wp2_with fail
        refine (HRR.out _).mono ?_
        rintro e w5 ⟨rfl, rfl⟩
        go_wp2
        go_ret
        exact ⟨rfl, HB2.out⟩
      · have HRR : Hid (RightIs s true) := Lib.hid (fun w => by have := HR.out w; rw [h0, h1] at this; exact this)
        have HALL := Lib.hid (callsIn_wide.1 (all_yes 3 (Nat.le_refl _) s (by omega) HRR.out w2))
        have hlast : s.data.toList.getD (s.size - 1) 1 = 0 := by
          rw [List.getD_eq_getElem?_getD, List.getElem?_eq_getElem (by simp; omega)]
          show s[s.size - 1] = 0
          have h2 : s[s.size - 1].toNat = 0 := by simpa using h1
          exact UInt8.toNat_inj.1 h2
        have hcat := catB_all s hlast
        have HCAT := Lib.hid hcat
        have hlen : (partsOf s).length ≤ 301 := Nat.le_trans (parts_len s _ _) (by omega)
        clear HR hlast hcat
        go_wp2_with fail
        refine HALL.out.mono ?_
        rintro e w4 ⟨v, rfl, hrow, hnil, hB4⟩
        have hB5 : Below w.heap.size w w4 := HB2.out.trans (hB4.mono hz2)
        have HB5 := Lib.hid hB5
        clear hB4 HALL hB5
        rcases hrow.2 with ⟨rfl, hn0⟩ | ⟨g2, cap2, cur, rfl, hbase2, hb2, hc1, hc2, hc3, hc4⟩
        · exact absurd (hnil.1 rfl) (fun e => by
            have h := HCAT.out
            rw [e] at h
            rw [← h] at hpos
            exact absurd hpos (by decide))
        clear hnil
        have hcell : ∀ i (h : i < (partsOf s).length), w4.cell? ⟨g2, i, none⟩ = some (.string (partsOf s)[i].2) := fun i h => by
          rw [Lib.cell_of_heap hb2]
          show cur[i]? = _
          have h2 : cur.toList[i]? = (cur.toList.take ((partsOf s).length * 1))[i]? := (List.getElem?_take_of_lt (by omega)).symm
          rw [← Array.getElem?_toList, h2, hc4, List.getElem?_map, List.getElem?_eq_getElem h]; rfl
        have HCELL := Lib.hid hcell; clear hcell hrow hb2 hc1 hc2 hc3 hc4
        go_wp2_with fail
        refine (HRR.out _).mono ?_
        rintro e w5 ⟨rfl, rfl⟩
        go_wp2
        go_loopw [11, 12] (fun a i wr => ∃ k : Nat, k ≤ (partsOf s).length ∧ a = .string (catB ((partsOf s).take k)) ∧ i = .int .i64 k ∧ wr = w4) (fun _ i _ => (partsOf s).length - (intOf i).toNat)
        case atStart => exact ⟨0, Nat.zero_le _, rfl, rfl, rfl⟩
        case round =>
          obtain ⟨k, hk, rfl, rfl, rfl⟩ := hrel
          by_cases hlt : k < (partsOf s).length
          · have hcl := HCELL.out k hlt
            have hstep := catB_step (partsOf s) k hlt
            have hxs := (parts_fit s _ _ _ (List.getElem_mem hlt)).2
            have hcs : (catB ((partsOf s).take k)).size ≤ s.size := by have h := cat_le (partsOf s) k; rw [HCAT.out] at h; exact h
            have hbs : (partsOf s)[k].2.size ≤ 300 := by omega
            clear hxs
            generalize (partsOf s)[k].2 = bx at *
            generalize catB ((partsOf s).take k) = ca at *
            have HSTEP := Lib.hid hstep; clear hstep
            have n1 : ¬ 9223372036854775807 < bx.size + 1 := by omega
            have hap : (bx ++ ⟨#[0]⟩).size = bx.size + 1 := by simp; rfl
            have n2 : ¬ 9223372036854775807 < ca.size + (bx.size + 1) := by omega
            have n3 : ¬ 9223372036854775807 < ca.size + (bx ++ ⟨#[0]⟩).size := by rw [hap]; omega
            have hk1 : k + 1 ≤ 302 := by omega
            clear hcs hbs
            go_wp2
            exact ⟨⟨k + 1, by omega, by rw [HSTEP.out], by go_num, trivial⟩, by simp [intOf]; omega⟩
          · obtain rfl : k = (partsOf s).length := by omega
            have hfin : catB ((partsOf s).take (partsOf s).length) = s := by rw [List.take_length]; exact HCAT.out
            rw [hfin]
            clear hfin
            go_wp2
            go_ret
            exact ⟨rfl, HB5.out⟩
theorem texts_law' (t : ByteArray) (a : Int) (ha : (Lit.int .u64 a).wf = true) (w : World) : Calls Try.prog 3 #[.string t, .int .u64 a] w fun e w' => e = .returned (.bool true) ∧ Below w.heap.size w w' := by
  have h : 0 ≤ a := by
    have h3 : IntKind.u64.min = 0 := by decide
    simp [Lit.wf, h3] at ha
    exact ha.1
  obtain ⟨n, rfl⟩ := Int.eq_ofNat_of_zero_le h
  exact texts_law t n w
end Go.Proofs.Ytkajgakblcgocaa
