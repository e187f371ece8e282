/- Contracts of a header's package, by gen_hdr.py. Conditions: those written in each theorem. -/
import Derived.Laws.CopyOwn
import Derived.Laws.Tables
import Derived.Test.YtmbndepgkglaeaaDoorSC
namespace Go.Proofs.YtmbndepgkglaeaaDoor
open Go.RowKit
set_option maxRecDepth 100000 in
set_option maxHeartbeats 20000000 in
theorem ywords0 (a b : Nat) (ha : a < 2 ^ 64) (hb : b < 2 ^ 64) (h5 : a < 3) (w : World) (hT : TabsY w) :
    Calls Tryd.prog 4 #[.int .u64 a, .int .u64 b] w fun e w' => e = .returned (.bool true) ∧ Below w.heap.size w w' := by
  have HA := Lib.hid ha; clear ha
  have HBB := Lib.hid hb; clear hb
  have HT := Lib.hid hT; clear hT
  go_enter Tryd.func4, Tryd.ntmps4
  go_wp2_with fail
  refine (yspeaks _).mono ?_
  rintro e w1 ⟨rfl, h1⟩
  have hW : Below w.heap.size w ((w1.alloc (.cells #[.string ⟨#[76, 79, 67, 65, 76]⟩, .string ⟨#[71, 76, 79, 66, 65, 76]⟩, .string ⟨#[87, 69, 65, 75]⟩] 9)).alloc (.cells #[.string ⟨#[78, 79, 84, 89, 80, 69]⟩, .string ⟨#[79, 66, 74, 69, 67, 84]⟩, .string ⟨#[70, 85, 78, 67]⟩, .string ⟨#[83, 69, 67, 84, 73, 79, 78]⟩, .string ⟨#[70, 73, 76, 69]⟩, .string ⟨#[67, 79, 77, 77, 79, 78]⟩, .string ⟨#[84, 76, 83]⟩] 9)) := (h1.alloc h1.size _).alloc (by have := h1.size; simp; omega) _
  have cb := bind_cell a h5 w1 (.cells #[.string ⟨#[78, 79, 84, 89, 80, 69]⟩, .string ⟨#[79, 66, 74, 69, 67, 84]⟩, .string ⟨#[70, 85, 78, 67]⟩, .string ⟨#[83, 69, 67, 84, 73, 79, 78]⟩, .string ⟨#[70, 73, 76, 69]⟩, .string ⟨#[67, 79, 77, 77, 79, 78]⟩, .string ⟨#[84, 76, 83]⟩] 9)
  have ck : ((w1.alloc (.cells #[.string ⟨#[76, 79, 67, 65, 76]⟩, .string ⟨#[71, 76, 79, 66, 65, 76]⟩, .string ⟨#[87, 69, 65, 75]⟩] 9)).alloc (.cells #[.string ⟨#[78, 79, 84, 89, 80, 69]⟩, .string ⟨#[79, 66, 74, 69, 67, 84]⟩, .string ⟨#[70, 85, 78, 67]⟩, .string ⟨#[83, 69, 67, 84, 73, 79, 78]⟩, .string ⟨#[70, 73, 76, 69]⟩, .string ⟨#[67, 79, 77, 77, 79, 78]⟩, .string ⟨#[84, 76, 83]⟩] 9)).cell? ⟨w1.heap.size + 1, a, none⟩ = some (.string ⟨(Dec.look kindTab a).toArray⟩) := by have := kind_cell a (by omega) (w1.alloc (.cells #[.string ⟨#[76, 79, 67, 65, 76]⟩, .string ⟨#[71, 76, 79, 66, 65, 76]⟩, .string ⟨#[87, 69, 65, 75]⟩] 9)); simpa using this
  have zW : w1.heap.size + 1 < ((w1.alloc (.cells #[.string ⟨#[76, 79, 67, 65, 76]⟩, .string ⟨#[71, 76, 79, 66, 65, 76]⟩, .string ⟨#[87, 69, 65, 75]⟩] 9)).alloc (.cells #[.string ⟨#[78, 79, 84, 89, 80, 69]⟩, .string ⟨#[79, 66, 74, 69, 67, 84]⟩, .string ⟨#[70, 85, 78, 67]⟩, .string ⟨#[83, 69, 67, 84, 73, 79, 78]⟩, .string ⟨#[70, 73, 76, 69]⟩, .string ⟨#[67, 79, 77, 77, 79, 78]⟩, .string ⟨#[84, 76, 83]⟩] 9)).heap.size := by simp
  go_wp2_with fail
  generalize ((w1.alloc (.cells #[.string ⟨#[76, 79, 67, 65, 76]⟩, .string ⟨#[71, 76, 79, 66, 65, 76]⟩, .string ⟨#[87, 69, 65, 75]⟩] 9)).alloc (.cells #[.string ⟨#[78, 79, 84, 89, 80, 69]⟩, .string ⟨#[79, 66, 74, 69, 67, 84]⟩, .string ⟨#[70, 85, 78, 67]⟩, .string ⟨#[83, 69, 67, 84, 73, 79, 78]⟩, .string ⟨#[70, 73, 76, 69]⟩, .string ⟨#[67, 79, 77, 77, 79, 78]⟩, .string ⟨#[84, 76, 83]⟩] 9)) = W at *
  clear h1
  have HW := Lib.hid hW; clear hW
  have HTW := Lib.hid (HT.out.kept HW.out)
  have hPa : ∀ W : World, TabsY W → Calls Tryd.prog 9 #[.int .u64 a] W fun e w' => e = .returned (.string ⟨(Dec.look bindTab a).toArray⟩) ∧ Below W.heap.size W w' := fun W h => bindName a HA.out W h
  have hPb : ∀ W : World, TabsY W → Calls Tryd.prog 9 #[.int .u64 b] W fun e w' => e = .returned (.string ⟨(Dec.look bindTab b).toArray⟩) ∧ Below W.heap.size W w' := fun W h => bindName b HBB.out W h
  have hQa : ∀ W : World, TabsY W → Calls Tryd.prog 10 #[.int .u64 a] W fun e w' => e = .returned (.string ⟨(Dec.look kindTab a).toArray⟩) ∧ Below W.heap.size W w' := fun W h => kindName a HA.out W h
  have hQb : ∀ W : World, TabsY W → Calls Tryd.prog 10 #[.int .u64 b] W fun e w' => e = .returned (.string ⟨(Dec.look kindTab b).toArray⟩) ∧ Below W.heap.size W w' := fun W h => kindName b HBB.out W h
  have hSa : ∀ W : World, TabsY W → Calls Tryd.prog 11 #[.int .u64 a] W fun e w' => e = .returned (.string ⟨(Dec.look placeTab a).toArray⟩) ∧ Below W.heap.size W w' := fun W h => placeName a HA.out W h
  have hSb : ∀ W : World, TabsY W → Calls Tryd.prog 11 #[.int .u64 b] W fun e w' => e = .returned (.string ⟨(Dec.look placeTab b).toArray⟩) ∧ Below W.heap.size W w' := fun W h => placeName b HBB.out W h
  have hcP := Dec.look_beq bindTab bindTab_ok a b
  have hcQ := Dec.look_beq kindTab kindTab_ok a b
  have hcS := Dec.look_beq placeTab placeTab_ok a b
  have h0 : ((Dec.look placeTab a) == [85, 78, 68]) = ((a : Int) == 0) := Dec.look_beq placeTab placeTab_ok a 0
  have h1 : ((Dec.look placeTab a) == [65, 66, 83]) = ((a : Int) == 65521) := Dec.look_beq placeTab placeTab_ok a 65521
  have h2 : ((Dec.look placeTab a) == [67, 79, 77]) = ((a : Int) == 65522) := Dec.look_beq placeTab placeTab_ok a 65522
  rw [← toList_mkY (Dec.look bindTab a), ← toList_mkY (Dec.look bindTab b)] at hcP
  rw [← toList_mkY (Dec.look kindTab a), ← toList_mkY (Dec.look kindTab b)] at hcQ
  rw [← toList_mkY (Dec.look placeTab a), ← toList_mkY (Dec.look placeTab b)] at hcS
  rw [← toList_mkY (Dec.look placeTab a)] at h0 h1 h2
  generalize (ByteArray.mk (Dec.look bindTab a).toArray) = P at *
  generalize (ByteArray.mk (Dec.look bindTab b).toArray) = PB at *
  generalize (ByteArray.mk (Dec.look kindTab a).toArray) = Q at *
  generalize (ByteArray.mk (Dec.look kindTab b).toArray) = QB at *
  generalize (ByteArray.mk (Dec.look placeTab a).toArray) = S at *
  generalize (ByteArray.mk (Dec.look placeTab b).toArray) = SB at *
  have HhPa := Lib.hid hPa; clear hPa
  have HhPb := Lib.hid hPb; clear hPb
  have HhQa := Lib.hid hQa; clear hQa
  have HhQb := Lib.hid hQb; clear hQb
  have HhSa := Lib.hid hSa; clear hSa
  have HhSb := Lib.hid hSb; clear hSb
  have HhcP := Lib.hid hcP; clear hcP
  have HhcQ := Lib.hid hcQ; clear hcQ
  have HhcS := Lib.hid hcS; clear hcS
  have Hh0 := Lib.hid h0; clear h0
  have Hh1 := Lib.hid h1; clear h1
  have Hh2 := Lib.hid h2; clear h2
  have Hcb := Lib.hid cb; clear cb
  have Hck := Lib.hid ck; clear ck
  refine (HhPa.out _ HTW.out).mono ?_
  rintro e w2 ⟨rfl, h2⟩
  have HT2 := Lib.hid (HTW.out.kept h2)
  go_wp2_with fail
  refine (HhQa.out _ HT2.out).mono ?_
  rintro e w3 ⟨rfl, h3⟩
  have HB3 := Lib.hid (h2.trans (h3.mono h2.size)); clear h2 h3
  have HT3 := Lib.hid (HTW.out.kept HB3.out)
  go_wp2_with fail
  refine (HhSa.out _ HT3.out).mono ?_
  rintro e w4 ⟨rfl, h4⟩
  have HB4 := Lib.hid (HB3.out.trans (h4.mono HB3.out.size)); clear h4
  have HT4 := Lib.hid (HTW.out.kept HB4.out)
  have cb4 : w4.cell? ⟨w1.heap.size, a, none⟩ = some (.string P) := by rw [HB4.out.cell (by show w1.heap.size < _; omega)]; exact Hcb.out
  have ck4 : w4.cell? ⟨w1.heap.size + 1, a, none⟩ = some (.string Q) := by rw [HB4.out.cell (by exact zW)]; exact Hck.out
  have d3 : decide ((a : Int) < 3) = true := by simp; omega
  have d7 : decide ((a : Int) < 7) = true := by simp; omega
  have i0 : (0 : Int) ≤ (a : Int) := by omega
  have i3 : (a : Int) < 3 := by omega
  have i7 : (a : Int) < 7 := by omega
  obtain ⟨c0, e0⟩ : ∃ c, ((a : Int) == 0) = c := ⟨_, rfl⟩
  obtain ⟨c1, e1⟩ : ∃ c, ((a : Int) == 65521) = c := ⟨_, rfl⟩
  obtain ⟨c2, e2⟩ : ∃ c, ((a : Int) == 65522) = c := ⟨_, rfl⟩
  have s0 : (S.toList == [85, 78, 68]) = c0 := Hh0.out.trans e0
  have s1 : (S.toList == [65, 66, 83]) = c1 := Hh1.out.trans e1
  have s2 : (S.toList == [67, 79, 77]) = c2 := Hh2.out.trans e2
  have n0 : (a == 0) = c0 := by rw [← e0, Bool.eq_iff_iff, beq_iff_eq, beq_iff_eq]; omega
  have n1 : (a == 65521) = c1 := by rw [← e1, Bool.eq_iff_iff, beq_iff_eq, beq_iff_eq]; omega
  have n2 : (a == 65522) = c2 := by rw [← e2, Bool.eq_iff_iff, beq_iff_eq, beq_iff_eq]; omega
  go_wp2_with fail
  refine (HhPb.out _ HT4.out).mono ?_
  rintro e w5 ⟨rfl, h5'⟩
  have HB5 := Lib.hid (HB4.out.trans (h5'.mono HB4.out.size)); clear h5'
  have HT5 := Lib.hid (HTW.out.kept HB5.out)
  clear e0 e1 e2 s0 s1 s2 n0 n1 n2 cb4 ck4
  obtain ⟨c, hc⟩ : ∃ c, ((a : Int) == (b : Int)) = c := ⟨_, rfl⟩
  have hcn : (a == b) = c := by rw [← hc, Bool.eq_iff_iff, beq_iff_eq, beq_iff_eq]; omega
  have hcp : (P.toList == PB.toList) = c := HhcP.out.trans hc
  have hcq : (Q.toList == QB.toList) = c := HhcQ.out.trans hc
  have hcs : (S.toList == SB.toList) = c := HhcS.out.trans hc
  go_wp2_with fail
  refine (HhQb.out _ HT5.out).mono ?_
  rintro e w6 ⟨rfl, h6⟩
  have HB6 := Lib.hid (HB5.out.trans (h6.mono HB5.out.size)); clear h6
  have HT6 := Lib.hid (HTW.out.kept HB6.out)
  go_wp2_with fail
  refine (HhSb.out _ HT6.out).mono ?_
  rintro e w7 ⟨rfl, h7⟩
  have HB7 := Lib.hid (HB6.out.trans (h7.mono HB6.out.size)); clear h7
  go_wp2
  go_ret
  exact ⟨rfl, HW.out.trans (HB7.out.mono HW.out.size)⟩
end Go.Proofs.YtmbndepgkglaeaaDoor
