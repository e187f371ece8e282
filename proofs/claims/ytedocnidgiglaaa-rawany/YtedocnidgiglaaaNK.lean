/- Contracts of raw's records: sections and segments of a text. Conditions: those written in each theorem. -/
import Derived.Test.YtedocnidgiglaaaNJ
import Derived.Test.YtedocnidgiglaaaNG
import Derived.Test.YtedocnidgiglaaaSD
import Derived.Test.YtedocnidgiglaaaPD
namespace Go.Proofs.Ytedocnidgiglaaa
open Go.RowKit
set_option linter.unusedVariables false
theorem numAt_pre (big : Bool) (F : List Int) (L L' : List UInt8) (l k : Nat) (hk : k < l) (h : L.take (offN F l) = L'.take (offN F l)) : numAt big F L k = numAt big F L' k := by
  unfold numAt
  have h1 : offN F (k + 1) ≤ offN F l := offN_mono F (k + 1) l hk
  have h2 : offN F (k + 1) = offN F k + (F.getD k 0).toNat := rfl
  rw [h2] at h1
  have e : ∀ M : List UInt8, (M.drop (offN F k)).take (F.getD k 0).toNat = ((M.take (offN F l)).drop (offN F k)).take (F.getD k 0).toNat := fun M => by
    rw [List.drop_take, List.take_take, Nat.min_eq_left (by omega)]
  rw [e L, e L', h]
theorem part_list (s : ByteArray) (a c d : Nat) (h : a + c ≤ s.size) (hd : d ≤ c) : ((s.extract a (a + c)).extract d (s.extract a (a + c)).size).data.toList = ((s.data.toList.drop a).take c).drop d := by
  have hs : (s.extract a (a + c)).size = c := by simp; omega
  have e : ∀ (t : ByteArray) (i j : Nat), (t.extract i j).data.toList = (t.data.toList.drop i).take (j - i) := fun t i j => by
    simp only [ByteArray.data_extract, Array.toList_extract, List.extract_eq_take_drop]
  rw [hs, e, e, Nat.add_sub_cancel_left]
  rw [List.take_of_length_le]
  simp
  omega
theorem part_take (L : List UInt8) (a c d z : Nat) (h : d + z ≤ c) : (((L.drop a).take c).drop d).take z = (L.drop (a + d)).take z := by
  rw [List.drop_take, List.take_take, Nat.min_eq_left (by omega), List.drop_drop]
/-- The numbers of a section's header: of the i-th one in a table at a. -/
def secF (big wide : Bool) (s : ByteArray) (a i k : Nat) : Nat := numAt big (fullL wide sSizes 10) (s.data.toList.drop (a + i * sLen wide)) k
def pSizes (wide : Bool) : List Int := if wide then ptSizes else pfSizes
/-- Where a number of a segment stands among its record's. -/
def pAt (wide : Bool) (k : Nat) : Nat := if wide then k else if k = 0 then 0 else if k = 1 then 6 else if k = 7 then 7 else k - 1
def segF (big wide : Bool) (s : ByteArray) (a i k : Nat) : Nat := numAt big (fullL wide (pSizes wide) 8) (s.data.toList.drop (a + i * phs wide)) (pAt wide k)
theorem mul_bound {i n z : Nat} (h : i < n) : i * z + z ≤ n * z := by
  have : (i + 1) * z ≤ n * z := Nat.mul_le_mul_right _ h
  rw [Nat.succ_mul] at this; exact this
def RecsPost (m ety : Nat) (f : Nat → Nat → Nat) (n : Nat) (w : World) (e : Ending) (w' : World) : Prop :=
  ∃ b, (w.heap.size ≤ b ∧ e = .returned (.tuple #[.slice (some ⟨b, 0, none⟩) n n, .bool true]) ∧ w'.heap[b]? = some (.cells (rowU64 (flatF m f n)) ety (0, 0))) ∧ Below w.heap.size w w'
theorem srecs_yes (big wide : Bool) (s : ByteArray) (a n : Nat) (hs : s.size ≤ 1048576) (hn : 0 < n) (hfit : a + n * sLen wide ≤ s.size) (w : World) :
    Calls Try.prog 92 #[.agg #[.bool big, .bool wide], .string s, .agg #[.int .u64 (a : Nat), .int .u64 (n : Nat), .int .u64 (sLen wide : Nat)], .func (.func 93) #[] #[]] w (RecsPost 10 52 (secF big wide s a) n w) := by
  have hz : 40 ≤ sLen wide ∧ sLen wide ≤ 64 := by cases wide <;> decide
  have hnz : n * 40 ≤ n * sLen wide := Nat.mul_le_mul_left _ hz.1
  have hps : (s.extract a (a + n * sLen wide)).size = n * sLen wide := by simp; omega
  refine srecs_core big wide s (s.extract a (a + n * sLen wide)) a n (sLen wide) a (n * sLen wide) (secF big wide s a) (by omega) hz.2 (by omega) (by omega)
    (Lib.hid (fun u => tspan_some a n (sLen wide) (n * sLen wide) hn rfl (by omega) u)) (Lib.hid (fun u => part_yes a (n * sLen wide) s u (by omega) (by omega) (by unfold maxLen; omega) hfit)) (Lib.hid (fun i hi u => ?_)) w
  have hb := mul_bound (z := sLen wide) hi
  have hl := part_list s a (n * sLen wide) (i * sLen wide) hfit (by omega)
  have hsz : ((s.extract a (a + n * sLen wide)).extract (i * sLen wide) (s.extract a (a + n * sLen wide)).size).size = n * sLen wide - i * sLen wide := by rw [hps]; simp; omega
  have hr := sread_yes big wide ((s.extract a (a + n * sLen wide)).extract (i * sLen wide) (s.extract a (a + n * sLen wide)).size) u (by omega) (by omega)
  have key : ∀ k, k < 10 → numAt big (fullL wide sSizes 10) ((s.extract a (a + n * sLen wide)).extract (i * sLen wide) (s.extract a (a + n * sLen wide)).size).data.toList k = secF big wide s a i k := fun k hk => by
    rw [hl]
    exact numAt_pre big _ _ _ 10 k hk (by rw [s_off]; exact part_take _ _ _ _ _ (by omega))
  rw [key 0 (by decide), key 1 (by decide), key 2 (by decide), key 3 (by decide), key 4 (by decide), key 5 (by decide), key 6 (by decide), key 7 (by decide), key 8 (by decide), key 9 (by decide)] at hr
  exact hr
theorem precs_yes (big wide : Bool) (s : ByteArray) (a n : Nat) (hs : s.size ≤ 1048576) (hn : 0 < n) (hfit : a + n * phs wide ≤ s.size) (w : World) :
    Calls Try.prog 94 #[.agg #[.bool big, .bool wide], .string s, .agg #[.int .u64 (a : Nat), .int .u64 (n : Nat), .int .u64 (phs wide : Nat)], .func (.func 95) #[] #[]] w (RecsPost 8 72 (segF big wide s a) n w) := by
  have hz : 32 ≤ phs wide ∧ phs wide ≤ 64 := by cases wide <;> decide
  have hnz : n * 32 ≤ n * phs wide := Nat.mul_le_mul_left _ hz.1
  have hps : (s.extract a (a + n * phs wide)).size = n * phs wide := by simp; omega
  refine precs_core big wide s (s.extract a (a + n * phs wide)) a n (phs wide) a (n * phs wide) (segF big wide s a) (by omega) hz.2 (by omega) (by omega)
    (Lib.hid (fun u => tspan_some a n (phs wide) (n * phs wide) hn rfl (by omega) u)) (Lib.hid (fun u => part_yes a (n * phs wide) s u (by omega) (by omega) (by unfold maxLen; omega) hfit)) (Lib.hid (fun i hi u => ?_)) w
  have hb := mul_bound (z := phs wide) hi
  have hl := part_list s a (n * phs wide) (i * phs wide) hfit (by omega)
  have hsz : ((s.extract a (a + n * phs wide)).extract (i * phs wide) (s.extract a (a + n * phs wide)).size).size = n * phs wide - i * phs wide := by rw [hps]; simp; omega
  have key : ∀ k, k < 8 → numAt big (fullL wide (pSizes wide) 8) ((s.extract a (a + n * phs wide)).extract (i * phs wide) (s.extract a (a + n * phs wide)).size).data.toList k = numAt big (fullL wide (pSizes wide) 8) (s.data.toList.drop (a + i * phs wide)) k := fun k hk => by
    rw [hl]
    refine numAt_pre big _ _ _ 8 k hk ?_
    have ho : offN (fullL wide (pSizes wide) 8) 8 = phs wide := by cases wide <;> rfl
    rw [ho]
    exact part_take _ _ _ _ _ (by omega)
  generalize ((s.extract a (a + n * phs wide)).extract (i * phs wide) (s.extract a (a + n * phs wide)).size) = T at *
  cases wide
  · have hr := pfread_yes big T u (by omega) (by have : phs false = 32 := rfl; omega)
    have k0 := key 0 (by decide); have k1 := key 1 (by decide); have k2 := key 2 (by decide); have k3 := key 3 (by decide); have k4 := key 4 (by decide); have k5 := key 5 (by decide); have k6 := key 6 (by decide); have k7 := key 7 (by decide)
    simp only [pSizes, Bool.false_eq_true, if_false] at k0 k1 k2 k3 k4 k5 k6 k7
    rw [k0, k1, k2, k3, k4, k5, k6, k7] at hr
    exact hr
  · have hr := ptread_yes big T u (by omega) (by have : phs true = 56 := rfl; omega)
    have k0 := key 0 (by decide); have k1 := key 1 (by decide); have k2 := key 2 (by decide); have k3 := key 3 (by decide); have k4 := key 4 (by decide); have k5 := key 5 (by decide); have k6 := key 6 (by decide); have k7 := key 7 (by decide)
    simp only [pSizes, if_true] at k0 k1 k2 k3 k4 k5 k6 k7
    rw [k0, k1, k2, k3, k4, k5, k6, k7] at hr
    exact hr
theorem precs_zero (big wide : Bool) (s : ByteArray) (a : Nat) (hs : s.size ≤ 1048576) (f : Nat → Nat → Nat) (w : World) :
    Calls Try.prog 94 #[.agg #[.bool big, .bool wide], .string s, .agg #[.int .u64 (a : Nat), .int .u64 ((0 : Nat) : Int), .int .u64 (phs wide : Nat)], .func (.func 95) #[] #[]] w (RecsPost 8 72 f 0 w) := by
  have hz : phs wide ≤ 64 := by cases wide <;> decide
  exact precs_core big wide s (s.extract 0 (0 + 0)) a 0 (phs wide) 0 0 f (by omega) hz (by omega) (by simp) (Lib.hid (fun u => tspan_zero a (phs wide) u)) (Lib.hid (fun u => part_yes 0 0 s u (by omega) (by omega) (by unfold maxLen; omega) (by omega))) (Lib.hid (fun i hi => absurd hi (Nat.not_lt_zero _))) w
set_option maxRecDepth 100000 in
theorem srecs_no (big wide : Bool) (s : ByteArray) (a n : Nat) (hs : s.size ≤ 1048576) (ha : a < 18446744073709551616) (hn : 0 < n) (hn2 : n ≤ 100000) (hfit : ¬ a + n * sLen wide ≤ s.size) (w : World) :
    Calls Try.prog 92 #[.agg #[.bool big, .bool wide], .string s, .agg #[.int .u64 (a : Nat), .int .u64 (n : Nat), .int .u64 (sLen wide : Nat)], .func (.func 93) #[] #[]] w fun e w' => e = .returned (.tuple #[.slice none 0 0, .bool false]) ∧ Below w.heap.size w w' := by
  have hz : sLen wide ≤ 64 := by cases wide <;> decide
  have hnz : n * sLen wide ≤ n * 64 := Nat.mul_le_mul_left _ hz
  have HS := Lib.hid (fun u => tspan_some a n (sLen wide) (n * sLen wide) hn rfl (by omega) u)
  have HP := Lib.hid (fun u => part_no a (n * sLen wide) s u (by omega) (by omega) (by unfold maxLen; omega) hfit)
  clear hfit hnz hz hs ha hn hn2
  generalize sLen wide = z at *
  generalize n * z = p at *
  go_enter Try.func92, Try.ntmps92
  go_wp2_with fail
  have hup : Below w.heap.size w ((w.alloc (.cells #[.bool big, .bool wide] 34)).alloc (.cells #[.int .u64 (a : Nat), .int .u64 (n : Nat), .int .u64 (z : Nat)] 148)) := below_more (below_more (Below.refl _ _) _) _
  refine (HS.out _).mono ?_
  rintro e w2 ⟨rfl, h2⟩
  have HU2 := Lib.hid (hup.trans (h2.mono hup.size))
  clear h2 hup
  go_wp2_with fail
  refine (HP.out _).mono ?_
  rintro e w3 ⟨rfl, h3⟩
  have HU3 := Lib.hid (HU2.out.trans (h3.mono HU2.out.size))
  clear h3
  go_wp2
  go_ret2
  exact ⟨rfl, HU3.out⟩
set_option maxRecDepth 100000 in
theorem precs_no (big wide : Bool) (s : ByteArray) (a n : Nat) (hs : s.size ≤ 1048576) (ha : a < 18446744073709551616) (hn : 0 < n) (hn2 : n ≤ 100000) (hfit : ¬ a + n * phs wide ≤ s.size) (w : World) :
    Calls Try.prog 94 #[.agg #[.bool big, .bool wide], .string s, .agg #[.int .u64 (a : Nat), .int .u64 (n : Nat), .int .u64 (phs wide : Nat)], .func (.func 95) #[] #[]] w fun e w' => e = .returned (.tuple #[.slice none 0 0, .bool false]) ∧ Below w.heap.size w w' := by
  have hz : phs wide ≤ 64 := by cases wide <;> decide
  have hnz : n * phs wide ≤ n * 64 := Nat.mul_le_mul_left _ hz
  have HS := Lib.hid (fun u => tspan_some a n (phs wide) (n * phs wide) hn rfl (by omega) u)
  have HP := Lib.hid (fun u => part_no a (n * phs wide) s u (by omega) (by omega) (by unfold maxLen; omega) hfit)
  clear hfit hnz hz hs ha hn hn2
  generalize phs wide = z at *
  generalize n * z = p at *
  go_enter Try.func94, Try.ntmps94
  go_wp2_with fail
  have hup : Below w.heap.size w ((w.alloc (.cells #[.bool big, .bool wide] 34)).alloc (.cells #[.int .u64 (a : Nat), .int .u64 (n : Nat), .int .u64 (z : Nat)] 148)) := below_more (below_more (Below.refl _ _) _) _
  refine (HS.out _).mono ?_
  rintro e w2 ⟨rfl, h2⟩
  have HU2 := Lib.hid (hup.trans (h2.mono hup.size))
  clear h2 hup
  go_wp2_with fail
  refine (HP.out _).mono ?_
  rintro e w3 ⟨rfl, h3⟩
  have HU3 := Lib.hid (HU2.out.trans (h3.mono HU2.out.size))
  clear h3
  go_wp2
  go_ret2
  exact ⟨rfl, HU3.out⟩
end Go.Proofs.Ytedocnidgiglaaa
