/- Contracts of strconv.FormatUint at base 16. Conditions: those written in each theorem (a table of math/bits lies as laid). -/
import Derived.Test.YtnmklmaclmjfbaaDoorGA
import Derived.Test.YtnmklmaclmjfbaaDoorDE
import Derived.Laws.BitsAllLaws
namespace Go.Proofs.YtnmklmaclmjfbaaDoor
open Go.RowKit
theorem pow2_16 (w : World) : Calls Tryd.prog 73 #[.int .i64 16] w fun e w' => e = .returned (.bool true) ∧ w = w' := by
  have hb : (bits BinOp.and IntKind.i64 16 15 == 0) = true := by decide
  go_enter Tryd.func73, Tryd.ntmps73
  go_wp2
  go_ret
  exact ⟨rfl, rfl⟩
theorem tz64_16 (w : World) (hdb : w.cell? ⟨6, 15, none⟩ = some (.int .u8 4)) : Calls Tryd.prog 77 #[.int .u64 16] w fun e w' => e = .returned (.int .i64 4) ∧ w = w' := by
  have e : IntKind.u64.wrap (bits BinOp.and IntKind.u64 16 (IntKind.u64.wrap (-16)) * 285870213051353865) / 288230376151711744 = 15 := by decide
  go_enter Tryd.func77, Tryd.ntmps77
  go_wp2
  go_ret
  exact ⟨rfl, rfl⟩
theorem tz_16 (w : World) (hdb : w.cell? ⟨6, 15, none⟩ = some (.int .u8 4)) : Calls Tryd.prog 74 #[.int .u64 16] w fun e w' => e = .returned (.int .i64 4) ∧ w = w' := by
  go_enter Tryd.func74, Tryd.ntmps74
  go_wp2_with (go_at_call 77; refine (tz64_16 _ hdb).mono ?_; rintro e w' ⟨rfl, rfl⟩)
  go_ret
  exact ⟨rfl, rfl⟩
/-- The row of 65 bytes while digits are put in. -/
def hexRow (n k : Nat) : List UInt8 := List.replicate (65 - k) 0 ++ Hex.lowD n k
theorem hexRow_length (n k : Nat) (h : k ≤ 65) : (hexRow n k).length = 65 := by simp [hexRow, Hex.lowD_length]; omega
theorem hexRow_step (n k j : Nat) (h : j + 1 + k = 65) : (hexRow n k).set j (Hex.hexD (n / 16 ^ k % 16)) = hexRow n (k + 1) := by
  unfold hexRow
  rw [show 65 - k = j + 1 by omega, show 65 - (k + 1) = j by omega, List.replicate_succ', List.append_assoc, List.set_append_right _ _ (by simp), List.length_replicate, Nat.sub_self]
  simp [Hex.lowD]
theorem zeros98 : Tryd.zeroCells131 = rowU8 (List.replicate 65 0) := by kernel_rfl
theorem cell_of_rowB {w : World} {b : Nat} {l : List UInt8} {t : TypeId} (h : w.heap[b]? = some (.cells (rowU8 l) t (0, 0))) (j : Nat) (hj : j < l.length) : w.cell? ⟨b, j, none⟩ = some (.int .u8 (l[j].toNat : Int)) := by
  simp [World.cell?, h, rowU8, hj]
theorem free_of_rowB {w : World} {b : Nat} {l : List UInt8} {t : TypeId} (h : w.heap[b]? = some (.cells (rowU8 l) t (0, 0))) (j : Nat) : w.frozen? ⟨b, j, none⟩ = false := by
  simp [World.frozen?, h]
theorem rowB_set {wr : World} {b : Nat} {l : List UInt8} {t : TypeId} (h : wr.heap[b]? = some (.cells (rowU8 l) t (0, 0))) (j : Nat) (c : UInt8) :
    (wr.setCell ⟨b, j, none⟩ (.int .u8 (c.toNat : Int))).heap[b]? = some (.cells (rowU8 (l.set j c)) t (0, 0)) := by
  rw [heap_setCell_same wr b j _ t _ h]
  congr 2
  simp [rowU8, List.map_set]
theorem conv_tail (w : World) (b n j : Nat) (l : List UInt8) (t : TypeId) (hl : l.length = n + j) (h : w.heap[b]? = some (.cells (rowU8 l) t (0, 0))) :
    (convert 56 9 (.slice (some ⟨b, j, none⟩) n n)).run Tryd.prog w = .ok (.string ⟨(l.drop j).toArray⟩) w := by
  have hd : (l.drop j).length = n := by simp; omega
  subst hd
  exact run_convert_bytes_back w 56 9 5 ⟨b, j, none⟩ _ (l.drop j) Tryd.underlying56 Tryd.underlying5 Tryd.underlying9 (fun i hi => by
    have hc := cell_of_rowB h (j + i) (by simp at hi; omega)
    rw [List.getElem_drop]
    by_cases h0 : i = 0
    · subst h0; simpa [Addr.add] using hc
    · simpa [Addr.add, h0] using hc)
theorem and15 (u : Nat) (h : u < 2 ^ 64) : bits BinOp.and IntKind.u64 (u : Int) 15 = ((u % 16 : Nat) : Int) := by
  have := u64_and_nat u 15 (by omega) (by decide)
  rw [show ((15 : Nat) : Int) = 15 from rfl] at this
  rw [this, show u &&& 15 = u % 16 from Nat.and_two_pow_sub_one_eq_mod u 4]
theorem dig_at (d : Nat) (h : d < (ByteArray.mk #[48, 49, 50, 51, 52, 53, 54, 55, 56, 57, 97, 98, 99, 100, 101, 102, 103, 104, 105, 106, 107, 108, 109, 110, 111, 112, 113, 114, 115, 116, 117, 118, 119, 120, 121, 122]).size) :
    (ByteArray.mk #[48, 49, 50, 51, 52, 53, 54, 55, 56, 57, 97, 98, 99, 100, 101, 102, 103, 104, 105, 106, 107, 108, 109, 110, 111, 112, 113, 114, 115, 116, 117, 118, 119, 120, 121, 122])[d] = Hex.hexD d := by
  have : ∀ d : Fin 36, (ByteArray.mk #[48, 49, 50, 51, 52, 53, 54, 55, 56, 57, 97, 98, 99, 100, 101, 102, 103, 104, 105, 106, 107, 108, 109, 110, 111, 112, 113, 114, 115, 116, 117, 118, 119, 120, 121, 122])[d.1] = Hex.hexD d.1 := by decide
  exact this ⟨d, h⟩
set_option maxRecDepth 100000 in
set_option maxHeartbeats 2000000 in
theorem bits16 (n : Nat) (w : World) (hn : n < 2 ^ 64) (hdb : w.cell? ⟨6, 15, none⟩ = some (.int .u8 4)) (h5 : 6 < w.heap.size) :
    Calls Tryd.prog 65 #[.slice none 0 0, .int .u64 n, .int .i64 16, .bool false, .bool false] w fun e w' => e = .returned (.tuple #[.slice none 0 0, .string ⟨(Hex.hexL n).toArray⟩]) ∧ Below w.heap.size w w' := by
  have HN := Lib.hid hn; clear hn
  have HDB := Lib.hid hdb; clear hdb
  go_enter Tryd.func65, Tryd.ntmps65
  go_wp2_with fail
  refine (pow2_16 _).mono ?_
  rintro e w1 ⟨rfl, rfl⟩
  go_wp2_with fail
  refine (tz_16 _ ?_).mono ?_
  · rw [cell_alloc_old h5]; exact HDB.out
  rintro e w1 ⟨rfl, rfl⟩
  go_wp2
  go_loopw [1, 13] (fun u i wr => ∃ k j : Nat, k ≤ 15 ∧ j + k = 65 ∧ u = .int .u64 (n / 16 ^ k : Nat) ∧ i = .int .i64 j ∧ (∀ i, i < k → 16 ≤ n / 16 ^ i) ∧ wr.heap[w.heap.size]? = some (.cells (rowU8 (hexRow n k)) 131 (0, 0)) ∧ w.heap.size < wr.heap.size ∧ Below w.heap.size w wr) (fun _ i _ => (intOf i).toNat)
  case atStart =>
    refine ⟨0, 65, by omega, by omega, by simp, rfl, fun i hi => by omega, ?_, by simp, (Below.refl _ _).alloc (Nat.le_refl _) _⟩
    rw [heap_alloc_new, zeros98]; simp [hexRow, Hex.lowD]
  case round =>
    obtain ⟨k, j, hk, hj, rfl, rfl, hall, hrow, hsz, hg⟩ := hrel
    have HALL := Lib.hid hall; clear hall
    have hu64 : n / 16 ^ k < 2 ^ 64 := Nat.lt_of_le_of_lt (Nat.div_le_self _ _) HN.out
    obtain ⟨j', rfl⟩ : ∃ j', j = j' + 1 := ⟨j - 1, by omega⟩
    have hst := hexRow_step n k j' (by omega)
    have hfr := free_of_rowB hrow j'
    have hcl := cell_of_rowB hrow j' (by rw [hexRow_length _ _ (by omega)]; omega)
    generalize ((hexRow n k)[j']'(by rw [hexRow_length _ _ (by omega)]; omega)).toNat = y at hcl
    have HR := Lib.hid hrow; clear hrow
    have hdiv : n / 16 ^ (k + 1) = n / 16 ^ k / 16 := by rw [Nat.pow_succ, Nat.div_div_eq_div_mul]
    by_cases hlt : 16 ≤ n / 16 ^ k
    · have hk15 := Hex.div15 n k HN.out hlt
      have hand := and15 (n / 16 ^ k) hu64
      have hd16 : n / 16 ^ k % 16 < 16 := Nat.mod_lt _ (by decide)
      have hall' : ∀ i, i < k + 1 → 16 ≤ n / 16 ^ i := fun i hi => by
        by_cases he : i = k
        · subst he; exact hlt
        · exact HALL.out i (by omega)
      have HALL' := Lib.hid hall'; clear hall'
      generalize n / 16 ^ k = u at *
      generalize u % 16 = d at *
      have HST := Lib.hid hst; clear hst
      have HDV := Lib.hid hdiv; clear hdiv
      have HU := Lib.hid hu64; clear hu64
      have hd0 : (0 : Int) ≤ (d : Int) := by omega
      have hd1 : (d : Int) < 36 := by omega
      go_wp2
      refine ⟨⟨k + 1, j', by omega, by omega, int_eq (by rw [HDV.out]; omega), rfl, HALL'.out, ?_, by simp; omega, hg.setCell (by simp) _⟩, by simp [intOf]⟩
      rw [dig_at d (by show d < 36; omega)]
      have R1 := rowB_set HR.out j' (Hex.hexD d)
      rw [HST.out] at R1
      exact R1
    · have hend := Hex.hexL_end n k hk HALL.out (by omega)
      have hst2 : (hexRow n k).set j' (Hex.hexD (n / 16 ^ k)) = hexRow n (k + 1) := by
        have := hexRow_step n k j' (by omega)
        rwa [Nat.mod_eq_of_lt (by omega)] at this
      have hdr : (hexRow n (k + 1)).drop j' = Hex.hexL n := by
        unfold hexRow
        rw [show 65 - (k + 1) = j' by omega, List.drop_left' (by simp), Hex.lowD, hend, Nat.mod_eq_of_lt (by omega)]
      clear hst hdiv
      generalize n / 16 ^ k = u at *
      have hd0 : (0 : Int) ≤ (u : Int) := by omega
      have hd1 : (u : Int) < 36 := by omega
      have R1 := rowB_set HR.out j' (Hex.hexD u)
      rw [hst2] at R1
      have hcv := conv_tail _ _ (65 - j') j' _ _ (by rw [hexRow_length _ _ (by omega)]; omega) R1
      rw [hdr, ← dig_at u (by show u < 36; omega)] at hcv
      clear R1 hst2 hdr hend
      have hj65 : (j' : Int) ≤ 65 := by omega
      go_wp2
      go_ret2
      exact ⟨rfl, hg.setCell (by simp) _⟩
theorem fmt16 (n : Nat) (w : World) (hn : n < 2 ^ 64) (hdb : w.cell? ⟨6, 15, none⟩ = some (.int .u8 4)) (h5 : 6 < w.heap.size) :
    Calls Tryd.prog 58 #[.int .u64 n, .int .i64 16] w fun e w' => e = .returned (.string ⟨(Hex.hexL n).toArray⟩) ∧ Below w.heap.size w w' := by
  have HN := Lib.hid hn; clear hn
  have HDB := Lib.hid hdb; clear hdb
  go_enter Tryd.func58, Tryd.ntmps58
  go_wp2_with fail
  refine (bits16 n _ HN.out HDB.out h5).mono ?_
  rintro e w1 ⟨rfl, h1⟩
  go_wp2
  go_ret
  exact ⟨rfl, h1⟩
theorem fmtU16 (n : Nat) (w : World) (hn : n < 2 ^ 64) (hdb : w.cell? ⟨6, 15, none⟩ = some (.int .u8 4)) (h5 : 6 < w.heap.size) :
    Calls Tryd.prog 50 #[.int .u64 n, .int .i64 16] w fun e w' => e = .returned (.string ⟨(Hex.hexL n).toArray⟩) ∧ Below w.heap.size w w' := by
  have HN := Lib.hid hn; clear hn
  have HDB := Lib.hid hdb; clear hdb
  go_enter Tryd.func50, Tryd.ntmps50
  go_wp2_with fail
  refine (fmt16 n _ HN.out HDB.out h5).mono ?_
  rintro e w1 ⟨rfl, h1⟩
  go_wp2
  go_ret
  exact ⟨rfl, h1⟩
/-- 0x and the digits. -/
def hexS (n : Nat) : ByteArray := ⟨(48 :: 120 :: Hex.hexL n).toArray⟩
theorem hexS_add (n : Nat) : (ByteArray.mk #[48, 120]) ++ (ByteArray.mk (Hex.hexL n).toArray) = hexS n := by
  apply ByteArray.ext
  simp [hexS]
theorem hex_any (n : Nat) (w : World) (hn : n < 2 ^ 64) (hdb : w.cell? ⟨6, 15, none⟩ = some (.int .u8 4)) (h5 : 6 < w.heap.size) :
    Calls Tryd.prog 35 #[.int .u64 n] w fun e w' => e = .returned (.string (hexS n)) ∧ Below w.heap.size w w' := by
  have HN := Lib.hid hn; clear hn
  have HDB := Lib.hid hdb; clear hdb
  have hl := Hex.hexL_len n
  have hz : (ByteArray.mk (Hex.hexL n).toArray).size = (Hex.hexL n).length := by simp [ByteArray.size]
  have hadd := run_string_add_sum (P := Tryd.prog) w (ByteArray.mk #[48, 120]) (ByteArray.mk (Hex.hexL n).toArray) (by rw [hz]; show 2 + _ ≤ _; omega)
  go_enter Tryd.func35, Tryd.ntmps35
  go_wp2_with fail
  refine (fmtU16 n _ HN.out HDB.out h5).mono ?_
  rintro e w1 ⟨rfl, h1⟩
  have hadd := run_string_add_sum (P := Tryd.prog) w1 (ByteArray.mk #[48, 120]) (ByteArray.mk (Hex.hexL n).toArray) (by rw [hz]; show 2 + _ ≤ _; omega)
  rw [hexS_add] at hadd
  generalize (ByteArray.mk (Hex.hexL n).toArray) = L at *
  clear hz hl
  go_wp2
  go_ret
  exact ⟨rfl, h1⟩
end Go.Proofs.YtnmklmaclmjfbaaDoor
