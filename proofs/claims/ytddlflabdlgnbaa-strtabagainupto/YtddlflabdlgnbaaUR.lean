/- The contract of strtab's Build. Conditions: those written in each theorem. -/
import Derived.Test.YtddlflabdlgnbaaUQ
import Derived.Test.YtddlflabdlgnbaaUO
import Derived.Test.YtddlflabdlgnbaaUH
import Derived.Test.YtddlflabdlgnbaaTA
import Derived.Deep.CutBlock
import Derived.Deep.DeepCutAuto
import Derived.Deep.OwnRows
namespace Go.Proofs.Ytddlflabdlgnbaa
open Go.RowKit Go.Sort Go.Maps Go.Shelf Go.WideMaps
theorem makeMap_none (w : World) : (Instr.makeMap 99 none).run Try.prog w = .ok (.map (some w.heap.size)) (w.alloc (.map #[] 0)) := by
  simp [Instr.makeMap, go_sem]
def RowS (w : World) (b o : Nat) (N : List (List UInt8)) : Prop := b < w.heap.size ∧ ∀ i, i < N.length → w.cell? ⟨b, o + i, none⟩ = some (encStr (nth N i))
theorem RowS.low {w w' : World} {b o B : Nat} {N : List (List UInt8)} (h : RowS w b o N) (hb : Below B w w') (hB : b < B) : RowS w' b o N :=
  ⟨Nat.lt_of_lt_of_le h.1 hb.size, fun i hi => by rw [hb.cell (by exact hB)]; exact h.2 i hi⟩
theorem zero22 (w : World) : (zeroValue 32).run Try.prog w = .ok (.int .u64 0) w := by kernel_rfl
theorem infoU : (Try.prog.info? 32).map (fun i => (i.zero, i.size, i.bytes)) = some (some (.int .u64 0), 1, 8) := by kernel_rfl
theorem nat_wf (k : Nat) (h : k ≤ 1048576) : (Lit.int .i64 (k : Int)).wf = true := by
  have h3 : IntKind.i64.min = -9223372036854775808 := by decide
  have h4 : IntKind.i64.max = 9223372036854775807 := by decide
  simp [Lit.wf, h3, h4]
  omega
def BuildPost (N : List (List UInt8)) (w : World) (e : Ending) (w' : World) : Prop := Below w.heap.size w w' ∧
  (((∃ i, i < N.length ∧ Bad (nth N i)) ∧ e = .returned (.tuple #[.string ⟨#[]⟩, .slice none 0 0, .int .i64 12])) ∨
   ((∀ i, i < N.length → ¬ Bad (nth N i)) ∧ 1048576 < sizeTo (EN N) (EN N).length ∧ e = .returned (.tuple #[.string ⟨#[]⟩, .slice none 0 0, .int .i64 2])) ∨
   ((∀ i, i < N.length → ¬ Bad (nth N i)) ∧ sizeTo (EN N) (EN N).length ≤ 1048576 ∧ ∃ g, w.heap.size ≤ g ∧ e = .returned (.tuple #[.string ⟨(tabN N).toArray⟩, .slice (some ⟨g, 0, none⟩) N.length N.length, .int .i64 0]) ∧ w'.rowIs g 32 N.length (fun i => .int .u64 (offS N (nth N i)))))
set_option maxRecDepth 100000 in
set_option maxHeartbeats 8000000 in
theorem build_any (b o cap : Nat) (N : List (List UInt8)) (ok : NamesOk N) (w : World) (hN : RowS w b o N) : Calls Try.prog 13 #[.slice (some ⟨b, o, none⟩) N.length cap] w (BuildPost N w) := by
  have hbl := hN.1
  have hE := ok.len
  have hmm := makeMap_none w
  have hM0 : (w.alloc (.map #[] 0)).ownsMap Try.prog 9 (plainElem Try.prog 3) w.heap.size 0 (lastM Unit N 0) := World.ownsMap_made (H := Unit) w Try.prog 9 (plainElem Try.prog 3)
  have hB0 : Below w.heap.size w (w.alloc (.map #[] 0)) := (Below.refl _ w).alloc (Nat.le_refl _) _
  have HM0 := Lib.hid hM0; have HB0 := Lib.hid hB0; have HN := Lib.hid hN; have HOK := Lib.hid ok
  clear hM0 hB0 hN ok
  go_enter Try.func13, Try.ntmps13
  go_upto_block 0 with (fail)
  clear hmm
  generalize (w.alloc (.map #[] 0)) = W0 at *
  go_cut [18] (fun _ wc => (∃ c, c ≤ N.length ∧ wc.ownsMap Try.prog 9 (plainElem Try.prog 3) w.heap.size c (lastM Unit N N.length)) ∧ (∀ i, i < N.length → ¬ Bad (nth N i)) ∧ Below w.heap.size w wc)
  case first =>
    go_wp2
    go_loopw [18] (fun i wr => ∃ k : Nat, k ≤ N.length ∧ i = .int .i64 k ∧ (∃ c, c ≤ k ∧ wr.ownsMap Try.prog 9 (plainElem Try.prog 3) w.heap.size c (lastM Unit N k)) ∧ (∀ i, i < k → ¬ Bad (nth N i)) ∧ Below w.heap.size w wr) (fun i _ => N.length - (intOf i).toNat)
    case atStart => exact ⟨0, Nat.zero_le _, rfl, ⟨0, Nat.le_refl _, HM0.out⟩, fun i h => by omega, HB0.out⟩
    case round =>
      obtain ⟨k, hk, rfl, ⟨c, hc, hown⟩, hno, hB⟩ := hrel
      have HNO := Lib.hid hno; have HB := Lib.hid hB; clear hno hB
      by_cases hlt : k < N.length
      · have hnm := (HN.out.low HB.out hbl).2 k hlt
        unfold encStr at hnm
        have hkey : keyOf Try.prog 9 (.string ⟨(nth N k).toArray⟩) = some (.string (nth N k)) := keyOf_string_mk Try.underlying9 (by show (nth N k).toArray.size ≤ _; have := HOK.out.name _ (nth_mem N k hlt); unfold maxLen; simp; omega)
        have hbn : ((ByteArray.mk (nth N k).toArray).data.toList = nth N k) ∧ (ByteArray.mk (nth N k).toArray).size = (nth N k).length := ⟨by simp, by simp [ByteArray.size]⟩
        have hemp : (ByteArray.mk (nth N k).toArray).toList.isEmpty = (nth N k).isEmpty := by rw [Lib.toList_data]
        have hisn := isName_no (ByteArray.mk (nth N k).toArray)
        have hisy := isName_yes (ByteArray.mk (nth N k).toArray)
        rw [hbn.1, hbn.2] at hisn hisy
        clear hbn
        have HISN := Lib.hid hisn; have HISY := Lib.hid hisy; clear hisn hisy
        generalize (ByteArray.mk (nth N k).toArray) = nm at *
        have hk1 : k + 1 ≤ 1048576 := by omega
        by_cases hbad : Bad (nth N k)
        · clear hemp
          go_wp2_with fail
          refine (HISN.out wr hbad).mono ?_
          rintro e w1 ⟨rfl, rfl⟩
          go_wp2
          go_ret3
          exact ⟨HB.out, .inl ⟨⟨k, hlt, hbad⟩, rfl⟩⟩
        · have hcm : c < maxLen := by unfold maxLen; omega
          have HNO' : Hid (∀ i, i < k + 1 → ¬ Bad (nth N i)) := Lib.hid (fun i hi => by
            rcases Nat.lt_or_ge i k with h | h
            · exact HNO.out i h
            · have : i = k := by omega
              subst this; exact hbad)
          go_wp2_with fail
          refine (HISY.out wr hbad).mono ?_
          rintro e w1 ⟨rfl, rfl⟩
          by_cases hem : nth N k = []
          · rw [hem] at hemp
            replace hemp : nm.toList.isEmpty = true := hemp
            have hlm : lastM Unit N (k + 1) = lastM Unit N k := by show (if _ then _ else _) = _; rw [if_pos hem]
            have HLM := Lib.hid hlm; clear hlm
            clear hem
            go_wp2
            exact ⟨⟨k + 1, by omega, by go_num, ⟨c, by omega, by rw [HLM.out]; exact hown⟩, HNO'.out, HB.out⟩, by simp [intOf]; omega⟩
          · replace hemp : nm.toList.isEmpty = false := by rw [hemp]; cases hx : nth N k with | nil => exact absurd hx hem | cons _ _ => rfl
            have hemp' : (!nm.toList.isEmpty) = true := by rw [hemp]; rfl
            have hlm : lastM Unit N (k + 1) = (lastM Unit N k).put (.string (nth N k)) (.lit (.int .i64 (k : Int))) := by show (if _ then _ else _) = _; rw [if_neg hem]
            have HLM := Lib.hid hlm; clear hlm
            clear hem
            go_wp2_with (first
              | (at_mapUpdate; refine wpList_mapUpdate_own _ rfl _ _ _ 99 rfl 9 3 law9 Try.underlying99 _ w.heap.size c _ rfl hown hcm _ _ _ rfl rfl hkey _ [] (plainElem_int Try.underlying3 (nat_wf k (by omega))) ?_; intro w1 hown1 hgrow1; have hB1 := HB.out.grown hgrow1 HB.out.size (fun j hj => by cases hj; exact Nat.le_refl _))
              | go_in)
            exact ⟨⟨k + 1, by omega, by go_num, ⟨c + 1, by omega, by rw [HLM.out]; exact hown1⟩, HNO'.out, hB1⟩, by simp [intOf]; omega⟩
      · obtain rfl : k = N.length := by omega
        go_wp2
        go_meet
        case rel => exact ⟨⟨c, hc, hown⟩, HNO.out, HB.out⟩
  case rest =>
    obtain ⟨⟨c, hc, hown⟩, hno, hB⟩ := hcut
    have hkeys := keysM N hown
    have hent := entries_any sortE w.heap.size c _ wc hown (Nat.le_trans (sizeM Unit N N.length) hE)
    have HNO := Lib.hid hno; have HB := Lib.hid hB; have HKEYS := Lib.hid hkeys; have HENT := Lib.hid hent
    clear hno hB hkeys hent hown
    go_wp2_with fail
    refine HENT.out.mono ?_
    rintro e w1 ⟨g, cp, ss, rfl, hperm, hgs, hrow, hb1⟩
    have hs : ss.mergeSort leE = sortN N := sort_unique (hperm.trans HKEYS.out.symm)
    have hl : ss.length = (EN N).length := by rw [EN_len, ← hs]; exact (List.length_mergeSort _).symm
    have hrow1 : RowE w1 g (EN N) := by
      rw [hs, hl, EN_len, entsK_congr _ _ (fun x => lastIx N x N.length) _ (fun x hx => lookM Unit N x ((sortN_mem N x).1 hx).1 _)] at hrow
      exact hrow
    rw [hl]
    have hB1 : Below w.heap.size w w1 := HB.out.trans (hb1.mono HB.out.size)
    have hzw := HB.out.size
    have hg : w.heap.size ≤ g := by omega
    have HB1 := Lib.hid hB1; have HROW1 := Lib.hid hrow1
    clear hrow hrow1 hs hl hperm hb1 HENT HKEYS hB1 HB hgs hzw
    have hlay := lay_any g cp (EN N) (EN_lay HOK.out) w1 HROW1.out
    have HLAY := Lib.hid hlay; clear hlay
    have HEL := EL_len N
    generalize hEn : (EN N).length = en at *
    have HEN := Lib.hid hEn; clear hEn
    have HELN := Lib.hid HEL; clear HEL
    go_wp2_with fail
    refine HLAY.out.mono ?_
    rintro e w2 (⟨hbig, rfl, hbt⟩ | ⟨hsm, rfl, hrow2, hbt⟩)
    · have HBIG := Lib.hid hbig; have HBT := Lib.hid hbt; clear hbig hbt
      go_wp2
      go_ret3
      exact ⟨HB1.out.trans (HBT.out.below HB1.out.size hg), .inr (.inl ⟨HNO.out, HBIG.out, rfl⟩)⟩
    · have hsm' : sizeTo (EN N) (EN N).length ≤ 1048576 := hsm
      have hoff := callsIn_wide.1 (offsets_any (H := Unit) 4 (Nat.le_refl _) g cp (EL N) (EL_off HOK.out hsm') w2 hrow2)
      rw [HELN.out] at hoff
      have HOFF := Lib.hid hoff; have HSM := Lib.hid hsm'
      have hB2 : Below w.heap.size w w2 := HB1.out.trans (hbt.below HB1.out.size hg)
      have HB2 := Lib.hid hB2
      clear hsm hsm' hoff hB2 hrow2 hbt HLAY HROW1
      have htab : (layTo (EN N) (ws (EN N)) (ws (EN N)).length).1 = tabN N := rfl
      rw [htab]
      clear htab
      generalize hT : (ByteArray.mk (tabN N).toArray) = tb at *
      have HT := Lib.hid hT; clear hT
      go_wp2_with fail
      refine HOFF.out.mono ?_
      rintro e w3 ⟨mb, hmb, rfl, hown3, hbt3⟩
      have hB3 : Below w.heap.size w w3 := HB2.out.trans (hbt3.below HB2.out.size hg)
      have hz2 := HB2.out.size
      have hz3 := hB3.size
      have hmk := run_make_row' (P := Try.prog) 24 32 (.int .u64 0) 8 Try.underlying24 infoU rfl .i64 .i64 N.length (by omega) (by omega) w3
      have hrw := World.rowIs_made w3 (.int .u64 0) N.length 32
      have hB4 : Below w.heap.size w (w3.alloc (.cells (madeCells #[.int .u64 0] N.length) 32)) := hB3.alloc hz3 _
      have hown4 := hown3.alloc (.cells (madeCells #[.int .u64 0] N.length) 32)
      have hmlt := hown3.lt
      have HO4 := Lib.hid hown4; have HB4 := Lib.hid hB4; have HRW := Lib.hid hrw
      clear hown4 hB4 hrw hown3 hB3 hbt3 HOFF
      go_wp2_with (first
        | (rw [hmk])
        | go_in)
      clear hmk
      generalize (w3.alloc (.cells (madeCells #[.int .u64 0] N.length) 32)) = W4 at *
      generalize w3.heap.size = g3 at *
      go_loopw [48] (fun i wr => ∃ k : Nat, k ≤ N.length ∧ i = .int .i64 k ∧ wr.ownsMap Try.prog 9 (plainElem Try.prog 32) mb (EL N).length (mp Unit (EL N) (EL N).length) ∧ wr.rowIs g3 32 N.length (fun i => .int .u64 (if i < k then offS N (nth N i) else 0)) ∧ Below w.heap.size w wr) (fun i _ => N.length - (intOf i).toNat)
      case atStart => exact ⟨0, Nat.zero_le _, rfl, HO4.out, HRW.out.congr (fun i _ => by simp), HB4.out⟩
      case round =>
        obtain ⟨k, hk, rfl, hown, hrow, hB⟩ := hrel
        by_cases hlt : k < N.length
        · have hnm := (HN.out.low hB hbl).2 k hlt
          unfold encStr at hnm
          have hkey : keyOf Try.prog 9 (.string ⟨(nth N k).toArray⟩) = some (.string (nth N k)) := keyOf_string_mk Try.underlying9 (by show (nth N k).toArray.size ≤ _; have := HOK.out.name _ (nth_mem N k hlt); unfold maxLen; simp; omega)
          generalize (ByteArray.mk (nth N k).toArray) = nm at *
          have hk1 : k + 1 ≤ 1048576 := by omega
          have hcl := hrow.cell hlt
          have hfr := hrow.frozen k
          have HROW := Lib.hid hrow; have HB := Lib.hid hB; clear hrow hB
          go_wp2_with (first
            | (at_lookup; refine wpList_lookup_own_int _ rfl _ _ 103 rfl 9 32 .u64 law9 Try.underlying103 Try.underlying32 (zero22 _) mb _ _ rfl hown _ _ rfl hkey ?_; intro c hat hwc; have HAT := Lib.hid hat; clear hat)
            | go_in)
          have hcc : c = offS N (nth N k) := by
            have h := HAT.out
            rw [mp_at] at h
            injection h with h
            injection h with _ h
            exact h.symm
          refine ⟨⟨k + 1, by omega, by go_num, hown.setCell (by show mb ≠ g3; omega) _, (HROW.out.set k _).congr (fun i hi => ?_), HB.out.setCell (p := ⟨g3, k, none⟩) (by show w.heap.size ≤ g3; omega) _⟩, by simp [intOf]; omega⟩
          by_cases h : i = k
          · subst h; simp [hcc]
          · have h2 : (i < k + 1) = (i < k) := propext ⟨fun _ => by omega, fun _ => by omega⟩
            simp [h, h2]
        · obtain rfl : k = N.length := by omega
          go_wp2
          go_ret3
          exact ⟨hB, .inr (.inr ⟨HNO.out, HSM.out, g3, by omega, by rw [HT.out]; rfl, hrow.congr (fun i hi => by simp [hi])⟩)⟩
end Go.Proofs.Ytddlflabdlgnbaa
