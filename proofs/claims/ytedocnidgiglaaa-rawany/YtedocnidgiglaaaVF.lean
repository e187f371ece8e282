/- The reference's numbers and the readers' are the same. Conditions: those written in each theorem. -/
import Derived.Test.YtedocnidgiglaaaNV
import Derived.Test.YtedocnidgiglaaaVC
import Derived.Test.YtedocnidgiglaaaVE
namespace Go.Proofs.Ytedocnidgiglaaa
open Go.RowKit
set_option linter.unusedVariables false
/-- The bytes of a word. -/
def wLen (wide : Bool) : Nat := if wide then 8 else 4
theorem numAt_numV (big : Bool) (F : List Int) (s : ByteArray) (a k : Nat) : numAt big F (s.data.toList.drop a) k = numV big s (a + offN F k) (F.getD k 0).toNat := by
  unfold numAt numV
  rw [List.drop_drop]
theorem secF_num (big wide : Bool) (s : ByteArray) (a i k : Nat) (hk : k < 10) : secF big wide s a i k = numV big s (a + i * sLen wide + secOff (wLen wide) k) (secSz (wLen wide) k) := by
  unfold secF
  rw [numAt_numV]
  have h1 : ∀ (w : Bool) (k : Fin 10), offN (fullL w sSizes 10) k.1 = secOff (wLen w) k.1 ∧ ((fullL w sSizes 10).getD k.1 0).toNat = secSz (wLen w) k.1 := by decide
  have h2 := h1 wide ⟨k, hk⟩
  rw [h2.1, h2.2]
theorem segF_off (big wide : Bool) (s : ByteArray) (a i : Nat) : segF big wide s a i 2 = numV big s (a + i * phs wide + (if wide then 8 else 4)) (wLen wide) := by
  unfold segF
  rw [numAt_numV]
  have h1 : ∀ w : Bool, offN (fullL w (pSizes w) 8) (pAt w 2) = (if w then 8 else 4) ∧ ((fullL w (pSizes w) 8).getD (pAt w 2) 0).toNat = wLen w := by decide
  rw [(h1 wide).1, (h1 wide).2]
theorem segF_size (big wide : Bool) (s : ByteArray) (a i : Nat) : segF big wide s a i 5 = numV big s (a + i * phs wide + (if wide then 32 else 16)) (wLen wide) := by
  unfold segF
  rw [numAt_numV]
  have h1 : ∀ w : Bool, offN (fullL w (pSizes w) 8) (pAt w 5) = (if w then 32 else 16) ∧ ((fullL w (pSizes w) 8).getD (pAt w 5) 0).toNat = wLen w := by decide
  rw [(h1 wide).1, (h1 wide).2]
theorem drop16 (s : ByteArray) : (s.extract 16 s.size).data.toList = s.data.toList.drop 16 := by
  rw [ByteArray.data_extract, Array.toList_extract, List.extract_eq_take_drop]
  exact List.take_of_length_le (by simp)
theorem hdN_num (s : ByteArray) (k o z : Nat) (h : ∀ w : Bool, w = wideB s → 16 + offN (fullL w eSizes 13) k = o ∧ ((fullL w eSizes 13).getD k 0).toNat = z) : hdN s k = numV (bigB s) s o z := by
  unfold hdN
  rw [drop16, numAt_numV, (h _ rfl).1, (h _ rfl).2]
theorem hd_version (s : ByteArray) : hdN s 2 = numV (bigB s) s 20 4 := hdN_num s 2 20 4 (fun w _ => by cases w <;> decide)
theorem hd_phoff (s : ByteArray) : hdN s 4 = numV (bigB s) s (24 + wLen (wideB s)) (wLen (wideB s)) := hdN_num s 4 _ _ (fun w hw => by rw [← hw]; cases w <;> decide)
theorem hd_shoff (s : ByteArray) : hdN s 5 = numV (bigB s) s (24 + 2 * wLen (wideB s)) (wLen (wideB s)) := hdN_num s 5 _ _ (fun w hw => by rw [← hw]; cases w <;> decide)
theorem hd_small (s : ByteArray) (j : Nat) (hj : j < 6) : hdN s (7 + j) = numV (bigB s) s (28 + 3 * wLen (wideB s) + 2 * j) 2 := hdN_num s (7 + j) _ _ (fun w hw => by
  rw [← hw]
  have h : ∀ (w : Bool) (j : Fin 6), 16 + offN (fullL w eSizes 13) (7 + j.1) = 28 + 3 * wLen w + 2 * j.1 ∧ ((fullL w eSizes 13).getD (7 + j.1) 0).toNat = 2 := by decide
  exact h w ⟨j, hj⟩)
/-- The reference's Head, in the readers' words. -/
theorem head_any (s : ByteArray) (w : World) (hs : s.size ≤ 1048576) (hz : 16 + eLen (wideB s) ≤ s.size) : Calls Try.prog 18 #[.string s] w fun e w' => e = .returned (.tuple #[.int .u64 (wLen (wideB s) : Nat), .int .u64 (hdN s 4 : Nat), .int .u64 (hdN s 5 : Nat), .agg #[.int .u64 (hdN s 7 : Nat), .int .u64 (hdN s 8 : Nat), .int .u64 (hdN s 9 : Nat), .int .u64 (hdN s 10 : Nat), .int .u64 (hdN s 11 : Nat), .int .u64 (hdN s 12 : Nat)]]) ∧ Below w.heap.size w w' := by
  have h4 := hd_phoff s; have h5 := hd_shoff s
  have hg : (fun j => numV (bigB s) s (28 + 3 * wLen (wideB s) + 2 * j) 2) 0 = hdN s 7 ∧ (fun j => numV (bigB s) s (28 + 3 * wLen (wideB s) + 2 * j) 2) 1 = hdN s 8 ∧ (fun j => numV (bigB s) s (28 + 3 * wLen (wideB s) + 2 * j) 2) 2 = hdN s 9 ∧ (fun j => numV (bigB s) s (28 + 3 * wLen (wideB s) + 2 * j) 2) 3 = hdN s 10 ∧ (fun j => numV (bigB s) s (28 + 3 * wLen (wideB s) + 2 * j) 2) 4 = hdN s 11 ∧ (fun j => numV (bigB s) s (28 + 3 * wLen (wideB s) + 2 * j) 2) 5 = hdN s 12 :=
    ⟨(hd_small s 0 (by decide)).symm, (hd_small s 1 (by decide)).symm, (hd_small s 2 (by decide)).symm, (hd_small s 3 (by decide)).symm, (hd_small s 4 (by decide)).symm, (hd_small s 5 (by decide)).symm⟩
  rw [← hg.1, ← hg.2.1, ← hg.2.2.1, ← hg.2.2.2.1, ← hg.2.2.2.2.1, ← hg.2.2.2.2.2, h4, h5]
  cases hw : wideB s
  · exact head_4 s w hs (by rw [hw] at hz; exact hz) hw _ _ _ rfl rfl rfl
  · exact head_8 s w hs (by rw [hw] at hz; exact hz) hw _ _ _ rfl rfl rfl
/-- The reference's Field, in the readers' words. -/
theorem field_any (wide : Bool) (s : ByteArray) (a i k : Nat) (big : Bool) (w : World) (hs : s.size ≤ 1048576) (hk : k < 10) (h : a + i * sLen wide + sLen wide ≤ s.size) : Calls Try.prog 20 #[.bool big, .int .u64 (wLen wide : Nat), .string s, .int .u64 (a + i * sLen wide : Nat), .int .i64 (k : Nat)] w fun e w' => e = .returned (.int .u64 (secF big wide s a i k : Nat)) ∧ Below w.heap.size w w' := by
  rw [secF_num big wide s a i k hk]
  have hb : ∀ (w : Bool) (k : Fin 10), secOff (wLen w) k.1 + secSz (wLen w) k.1 ≤ sLen w := by decide
  have hb' := hb wide ⟨k, hk⟩
  have hb2 : a + i * sLen wide + secOff (wLen wide) k + secSz (wLen wide) k ≤ s.size := by dsimp only at hb'; omega
  generalize a + i * sLen wide = at_ at *
  cases wide
  · exact field_4 big s at_ k w hs hk hb2
  · exact field_8 big s at_ k w hs hk hb2
end Go.Proofs.Ytedocnidgiglaaa
