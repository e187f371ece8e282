/- What the file of layer 12's made tells. Conditions: those written in each theorem. -/
import Derived.Test.YtedocnidgiglaaaTL
import Derived.Test.YtedocnidgiglaaaTI
namespace Go.Proofs.Ytedocnidgiglaaa
open Go.RowKit
set_option linter.unusedVariables false
theorem and_i64 (x : Int) (m : Nat) (hm : m < 4611686018427387904) : ∃ q : Nat, bits .and .i64 x (m : Int) = (q : Int) ∧ q ≤ m := by
  have h2 : (BitVec.ofInt 64 (m : Int)).toNat = m := by rw [BitVec.ofInt_natCast, BitVec.toNat_ofNat]; exact Nat.mod_eq_of_lt (by omega)
  refine ⟨(BitVec.ofInt 64 x).toNat &&& m, ?_, Nat.and_le_right⟩
  show IntKind.i64.wrap ((BitVec.ofInt 64 x &&& BitVec.ofInt 64 (m : Int)).toNat : Int) = _
  have : (BitVec.ofInt 64 x).toNat &&& m ≤ m := Nat.and_le_right
  rw [BitVec.toNat_and, h2, IntKind.wrap_i64]
  omega
theorem list_app (a b : ByteArray) : (a ++ b).data.toList = a.data.toList ++ b.data.toList := by simp
theorem list_len (a : ByteArray) : a.data.toList.length = a.size := by simp
def recA (S0 S1 : ByteArray) (SR : Nat → ByteArray) : Nat → ByteArray
  | 0 => S0
  | 1 => S1
  | i + 2 => SR i
theorem recT_len {S0 S1 : ByteArray} {SR : Nat → ByteArray} {z : Nat} (h0 : S0.size = z) (h1 : S1.size = z) : ∀ n, (∀ i, i < n → (SR i).size = z) → (recT S0 S1 SR n).data.toList.length = (n + 2) * z
  | 0, _ => by
    show (S0 ++ S1).data.toList.length = _
    rw [list_app, List.length_append, list_len, list_len, h0, h1]; omega
  | n + 1, hr => by
    show (recT S0 S1 SR n ++ SR n).data.toList.length = _
    rw [list_app, List.length_append, recT_len h0 h1 n (fun i hi => hr i (by omega)), list_len, hr n (by omega), show n + 1 + 2 = (n + 2) + 1 by omega, Nat.succ_mul (n + 2)]
theorem recT_drop {S0 S1 : ByteArray} {SR : Nat → ByteArray} {z : Nat} (h0 : S0.size = z) (h1 : S1.size = z) : ∀ n, (∀ i, i < n → (SR i).size = z) → ∀ j, j < n + 2 → ∃ M : ByteArray, (recT S0 S1 SR n).data.toList.drop (j * z) = (recA S0 S1 SR j ++ M).data.toList
  | 0, _, j, hj => by
    match j, hj with
    | 0, _ => exact ⟨S1, by rw [Nat.zero_mul, List.drop_zero]; rfl⟩
    | 1, _ => exact ⟨⟨#[]⟩, by
        show (S0 ++ S1).data.toList.drop (1 * z) = (S1 ++ _).data.toList
        rw [list_app, list_app, List.drop_left' (by rw [list_len, h0, Nat.one_mul])]; simp⟩
  | n + 1, hr, j, hj => by
    have hl := recT_len h0 h1 n (fun i hi => hr i (by omega))
    by_cases h : j < n + 2
    · obtain ⟨M, hM⟩ := recT_drop h0 h1 n (fun i hi => hr i (by omega)) j h
      refine ⟨M ++ SR n, ?_⟩
      show (recT S0 S1 SR n ++ SR n).data.toList.drop (j * z) = _
      rw [list_app, List.drop_append_of_le_length (by rw [hl]; exact Nat.mul_le_mul_right _ (by omega)), hM, list_app, list_app, list_app, List.append_assoc]
    · obtain rfl : j = n + 2 := by omega
      refine ⟨⟨#[]⟩, ?_⟩
      show (recT S0 S1 SR n ++ SR n).data.toList.drop ((n + 2) * z) = (SR n ++ _).data.toList
      rw [list_app, list_app, List.drop_left' hl]; simp
def recN (kd bg ts : Nat) (R : Nat → Nat) : Nat → List Nat
  | 0 => [0, 0, 0, 0, 0, 0, 0, 0, 0, 0]
  | 1 => [0, kd, 0, 0, bg, ts, 0, 0, 0, 0]
  | i + 2 => [R i, 8, 0, 0, 0, 0, 0, 0, 0, 0]
theorem made_tells {big wide : Bool} {tb S0 S1 SE IDB V : ByteArray} {SR : Nat → ByteArray} {R : Nat → Nat} {kd ix n bg so nn : Nat} (hIDB : IDB = ⟨(identL big wide 0 0 []).toArray⟩)
    (hE : RecIs big wide eSizes [0, 0, 1, 0, 0, so, 0, ehs wide, phs wide, 0, shs wide, nn, ix] 13 13 SE true) (h0 : RecIs big wide sSizes [0, 0, 0, 0, 0, 0, 0, 0, 0, 0] 10 10 S0 true) (h1 : RecIs big wide sSizes [0, kd, 0, 0, bg, tb.size, 0, 0, 0, 0] 10 10 S1 true)
    (hR : ∀ i, i < n → RecIs big wide sSizes [R i, 8, 0, 0, 0, 0, 0, 0, 0, 0] 10 10 (SR i) true) (hbg : bg = 16 + eLen wide) (hso : so = bg + tb.size) (hnn : nn = n + 2) (hV : V = ((IDB ++ SE) ++ tb) ++ recT S0 S1 SR n) :
    (bigB V = big ∧ wideB V = wide) ∧ (∀ k, k < 13 → hdN V k = [0, 0, 1, 0, 0, so, 0, ehs wide, phs wide, 0, shs wide, nn, ix].getD k 0) ∧ (∀ j, j < nn → ∀ k, k < 10 → fSec V j k = (recN kd bg tb.size R j).getD k 0) ∧ V.extract bg (bg + tb.size) = tb := by
  have zI : IDB.data.toList.length = 16 := by rw [hIDB]; show (identL big wide 0 0 []).toArray.toList.length = 16; rw [List.toList_toArray, identL_length]
  have zE : SE.data.toList.length = eLen wide := by rw [list_len, (recIs_read hE (e_ok wide) ⟨#[]⟩).1, e_off]
  have z0 : S0.size = sLen wide := by rw [(recIs_read h0 (s_ok wide) ⟨#[]⟩).1, s_off]
  have z1 : S1.size = sLen wide := by rw [(recIs_read h1 (s_ok wide) ⟨#[]⟩).1, s_off]
  have zR : ∀ i, i < n → (SR i).size = sLen wide := fun i hi => by rw [(recIs_read (hR i hi) (s_ok wide) ⟨#[]⟩).1, s_off]
  have hVL : V.data.toList = IDB.data.toList ++ (SE.data.toList ++ (tb.data.toList ++ (recT S0 S1 SR n).data.toList)) := by
    rw [hV, list_app, list_app, list_app, List.append_assoc, List.append_assoc]
  have hb : ∀ i, i < 16 → byteN V i = ((identL big wide 0 0 []).getD i 0).toNat := fun i hi => by
    unfold byteN
    rw [hVL, List.getD_eq_getElem?_getD, List.getElem?_append_left (by omega), ← List.getD_eq_getElem?_getD, hIDB]
  have hbig : bigB V = big := by
    unfold bigB
    rw [hb 5 (by decide)]
    cases big <;> rfl
  have hwide : wideB V = wide := by
    unfold wideB
    rw [hb 4 (by decide)]
    cases wide <;> rfl
  have hhd : ∀ k, k < 13 → hdN V k = [0, 0, 1, 0, 0, so, 0, ehs wide, phs wide, 0, shs wide, nn, ix].getD k 0 := fun k hk => by
    have h := (recIs_read hE (e_ok wide) (tb ++ recT S0 S1 SR n)).2 k hk
    unfold hdN
    rw [hbig, hwide, ← h]
    congr 1
    rw [ext_list, hVL, List.drop_left' zI, list_app, list_app]
  refine ⟨⟨hbig, hwide⟩, hhd, fun j hj k hk => ?_, ?_⟩
  · have e5 : hdN V 5 = so := hhd 5 (by decide)
    unfold fSec secF
    rw [hbig, hwide, e5]
    obtain ⟨M, hM⟩ := recT_drop z0 z1 n zR j (by omega)
    have e : V.data.toList.drop (so + j * sLen wide) = (recA S0 S1 SR j ++ M).data.toList := by
      rw [← hM, ← List.drop_drop, hVL]
      congr 1
      rw [← List.append_assoc, ← List.append_assoc, List.drop_left' (by simp only [List.length_append, zI, zE, list_len]; omega)]
    rw [e]
    match j, hj with
    | 0, _ => exact (recIs_read h0 (s_ok wide) M).2 k hk
    | 1, _ => exact (recIs_read h1 (s_ok wide) M).2 k hk
    | i + 2, hj => exact (recIs_read (hR i (by omega)) (s_ok wide) M).2 k hk
  · apply ByteArray.ext
    apply Array.toList_inj.1
    have e : (V.extract bg (bg + tb.size)).data.toList = (V.data.toList.drop bg).take (bg + tb.size - bg) := by
      simp only [ByteArray.data_extract, Array.toList_extract, List.extract_eq_take_drop]
    rw [e, Nat.add_sub_cancel_left, hVL, ← List.append_assoc, List.drop_left' (by simp only [List.length_append, zI, zE]; omega), List.take_left' (list_len tb)]
theorem allB_congr {t : ByteArray} {R R' : Nat → Nat} : ∀ {n : Nat}, (∀ i, i < n → R i = R' i) → allB t R n = allB t R' n := fun {n} h => by
  unfold allB
  rw [Bool.eq_iff_iff, List.all_eq_true, List.all_eq_true]
  constructor
  · intro q i hi; rw [← h i (List.mem_range.1 hi)]; exact q i hi
  · intro q i hi; rw [h i (List.mem_range.1 hi)]; exact q i hi
theorem okT_one (x : Nat) : okT ⟨#[0]⟩ x = decide (x = 0) := by
  unfold okT
  by_cases h : x = 0
  · subst h; decide
  · rw [decide_eq_false h, decide_eq_false]
    rintro ⟨h1, _⟩
    have : x < 1 := h1
    omega
end Go.Proofs.Ytedocnidgiglaaa
