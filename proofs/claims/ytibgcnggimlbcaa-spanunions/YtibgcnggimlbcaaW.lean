/- Contracts of span's Add, Mul, Round, End, In and Part, and of the reference's Add. Conditions: those written in each theorem. -/
import Derived.Test.YtibgcnggimlbcaaS
import Derived.Test.YtibgcnggimlbcaaV
import Derived.IntWalk
import Derived.PlainAid
import Derived.Laws.Bits64
namespace Go.Proofs.Ytibgcnggimlbcaa
open Go.RowKit Go.Shelf
def lo64 (x y : Nat) : Int := (((x + y) % 18446744073709551616 : Nat) : Int)
theorem add64_yes (x y : Nat) (h : x + y < 2 ^ 64) (w : World) : (callFunc 42 #[.int .u64 (x : Int), .int .u64 (y : Int), .int .u64 0]).run Try.prog w = .ok (.value (.tuple #[.int .u64 ((x : Int) + (y : Int)), .int .u64 0])) w := by
  have h0 := Any7.bits_Add64 Try.lays25 x y 0 (by omega) w
  have e1 : (((x + y + 0) % 18446744073709551616 : Nat) : Int) = (x : Int) + (y : Int) := by omega
  have e2 : (((x + y + 0) / 18446744073709551616 : Nat) : Int) = 0 := by omega
  rw [e1, e2] at h0
  exact h0
theorem add64_no (x y : Nat) (h : ¬ x + y < 2 ^ 64) (hx : x < 2 ^ 64) (hy : y < 2 ^ 64) (w : World) : (callFunc 42 #[.int .u64 (x : Int), .int .u64 (y : Int), .int .u64 0]).run Try.prog w = .ok (.value (.tuple #[.int .u64 (lo64 x y), .int .u64 1])) w := by
  have h0 := Any7.bits_Add64 Try.lays25 x y 0 (by omega) w
  have e2 : (((x + y + 0) / 18446744073709551616 : Nat) : Int) = 1 := by omega
  rw [e2] at h0
  exact h0
/-- A sum that stays a number, or 0 and false. -/
def sumOk (l : List Nat) : Bool := decide (l.sum < 2 ^ 64)
def sumN (l : List Nat) : Nat := if l.sum < 2 ^ 64 then l.sum else 0
theorem take_sum_le (l : List Nat) (k : Nat) : (l.take k).sum ≤ l.sum := by
  have h := List.take_append_drop k l
  have h2 : (l.take k ++ l.drop k).sum = l.sum := by rw [h]
  rw [List.sum_append_nat] at h2
  omega
set_option maxRecDepth 100000 in
set_option maxHeartbeats 400000 in
theorem add_any (b n : Nat) (l : List Nat) (w : World) (hl : l.length = n) (hn : n ≤ 1000) (hc : ∀ k (h : k < l.length), w.cell? ⟨b, k, none⟩ = some (.int .u64 (l[k] : Int))) (hlt : ∀ x ∈ l, x < 2 ^ 64) :
    Calls Try.prog 25 #[.slice (some ⟨b, 0, none⟩) n n] w fun e w' => e = .returned (.tuple #[.int .u64 (sumN l : Int), .bool (sumOk l)]) ∧ w = w' := by
  have HC := Lib.hid hc; clear hc
  have HLT := Lib.hid hlt; clear hlt
  have HL := Lib.hid hl; clear hl
  go_enter Try.func25, Try.ntmps25
  go_wp2
  go_loop [4, 6, 7, 8, 11] (fun s _ _ _ i => ∃ k : Nat, k ≤ n ∧ i = .int .i64 k ∧ s = .int .u64 ((l.take k).sum : Nat) ∧ (l.take k).sum < 2 ^ 64) (fun _ _ _ _ i => n - (intOf i).toNat)
  case atStart => exact ⟨0, Nat.zero_le _, rfl, by simp, by simp⟩
  case round =>
    obtain ⟨k, hk, rfl, rfl, hs⟩ := hrel
    by_cases hlt : k < n
    · have hkl : k < l.length := by have := HL.out; omega
      have hcell := HC.out k hkl
      have hx := HLT.out l[k] (List.getElem_mem _)
      have hstep : (l.take (k + 1)).sum = (l.take k).sum + l[k] := by
        rw [List.take_succ_eq_append_getElem hkl, List.sum_append_nat]; simp
      have htot := take_sum_le l (k + 1)
      generalize l[k] = x at *
      generalize (l.take k).sum = S at *
      have HST := Lib.hid hstep; clear hstep
      have hi0 : (0 : Int) ≤ (k : Int) := by omega
      have hi1 : (k : Int) < (n : Int) := by omega
      by_cases hyes : S + x < 2 ^ 64
      · have e1 := add64_yes S x hyes
        have HY := Lib.hid hyes
        clear hs hx htot hyes
        go_wp2
        go_round
        case rel => exact ⟨k + 1, by omega, by go_num, by rw [HST.out]; go_num, by rw [HST.out]; exact HY.out⟩
        case measure => simp [intOf]; omega
      · have e1 := add64_no S x hyes hs hx
        have hfin : sumOk l = false ∧ sumN l = 0 := by
          rw [HST.out] at htot
          have : ¬ l.sum < 2 ^ 64 := by omega
          simp [sumOk, sumN, this]
        have HFIN := Lib.hid hfin
        clear hs hx htot hyes hfin
        go_wp2
        go_ret2
        exact ⟨by rw [HFIN.out.1, HFIN.out.2]; rfl, rfl⟩
    · obtain rfl : k = n := by omega
      have e : l.take k = l := by rw [← HL.out]; simp
      rw [e] at hs ⊢
      have hfin : sumOk l = true ∧ sumN l = l.sum := by simp [sumOk, sumN, hs]
      have HFIN := Lib.hid hfin
      generalize l.sum = T at *
      clear hs hfin
      go_wp2
      go_ret2
      exact ⟨by rw [HFIN.out.1, HFIN.out.2]; rfl, rfl⟩
theorem two_cells (w : World) (x y : Nat) : ∀ k (h : k < [x, y].length), (w.alloc (.cells #[.int .u64 (x : Int), .int .u64 (y : Int)] 22)).cell? ⟨w.heap.size, k, none⟩ = some (.int .u64 (([x, y][k] : Nat) : Int)) := by
  intro k h
  match k, h with
  | 0, _ => simp
  | 1, _ => simp
theorem three_cells (w : World) (x y z : Nat) : ∀ k (h : k < [x, y, z].length), (w.alloc (.cells #[.int .u64 (x : Int), .int .u64 (y : Int), .int .u64 (z : Int)] 22)).cell? ⟨w.heap.size, k, none⟩ = some (.int .u64 (([x, y, z][k] : Nat) : Int)) := by
  intro k h
  match k, h with
  | 0, _ => simp
  | 1, _ => simp
  | 2, _ => simp
theorem add_two (b : Nat) (w : World) (hb : b = w.heap.size) (x y : Nat) (hx : x < 2 ^ 64) (hy : y < 2 ^ 64) :
    Calls Try.prog 25 #[.slice (some ⟨b, 0, none⟩) 2 2] (w.alloc (.cells #[.int .u64 (x : Int), .int .u64 (y : Int)] 22)) fun e w' => e = .returned (.tuple #[.int .u64 (sumN [x, y] : Int), .bool (sumOk [x, y])]) ∧ w.alloc (.cells #[.int .u64 (x : Int), .int .u64 (y : Int)] 22) = w' := by
  subst hb
  exact add_any _ 2 [x, y] _ rfl (by omega) (two_cells w x y) (by simp; omega)
theorem add_three (b : Nat) (w : World) (hb : b = w.heap.size) (x y z : Nat) (hx : x < 2 ^ 64) (hy : y < 2 ^ 64) (hz : z < 2 ^ 64) :
    Calls Try.prog 25 #[.slice (some ⟨b, 0, none⟩) 3 3] (w.alloc (.cells #[.int .u64 (x : Int), .int .u64 (y : Int), .int .u64 (z : Int)] 22)) fun e w' => e = .returned (.tuple #[.int .u64 (sumN [x, y, z] : Int), .bool (sumOk [x, y, z])]) ∧ w.alloc (.cells #[.int .u64 (x : Int), .int .u64 (y : Int), .int .u64 (z : Int)] 22) = w' := by
  subst hb
  exact add_any _ 3 [x, y, z] _ rfl (by omega) (three_cells w x y z) (by simp; omega)
set_option maxHeartbeats 400000 in
theorem mul_any (x y : Nat) (w : World) (hx : x < 2 ^ 64) (hy : y < 2 ^ 64) :
    Calls Try.prog 27 #[.int .u64 (x : Int), .int .u64 (y : Int)] w fun e w' => e = .returned (.tuple #[.int .u64 ((if x * y < 2 ^ 64 then x * y else 0 : Nat) : Int), .bool (decide (x * y < 2 ^ 64))]) ∧ w = w' := by
  have hm := fun W => Try.bits_Mul64 x y (by omega) (by omega) W
  by_cases h : x * y < 2 ^ 64
  · have e1 : x * y / 18446744073709551616 = 0 := Nat.div_eq_of_lt (by omega)
    have e2 : x * y % 18446744073709551616 = x * y := Nat.mod_eq_of_lt (by omega)
    rw [e1, e2] at hm
    simp only [h, if_true, decide_true]
    generalize x * y = p at *
    have HM := Lib.hid hm
    clear e1 e2 hx hy h hm
    go_enter Try.func27, Try.ntmps27
    go_wp2_with (go_at_call 43; refine (HM.out _).mono ?_; rintro e w' ⟨rfl, rfl⟩)
    go_ret2
    exact ⟨rfl, rfl⟩
  · have h1 : 0 < x * y / 18446744073709551616 := Nat.div_pos (by omega) (by omega)
    simp only [h, if_false, decide_false]
    generalize x * y / 18446744073709551616 = q at *
    generalize x * y % 18446744073709551616 = r at *
    have HM := Lib.hid hm
    have hq : ((q : Int) != 0) = true := by rw [bne_iff_ne]; omega
    clear hx hy h hm
    go_enter Try.func27, Try.ntmps27
    go_wp2_with (go_at_call 43; refine (HM.out _).mono ?_; rintro e w' ⟨rfl, rfl⟩)
    go_ret2
    exact ⟨rfl, rfl⟩
set_option maxHeartbeats 400000 in
theorem end_any (x y : Nat) (w : World) (hx : x < 2 ^ 64) (hy : y < 2 ^ 64) :
    Calls Try.prog 29 #[.agg #[.int .u64 (x : Int), .int .u64 (y : Int)]] w fun e w' => e = .returned (.tuple #[.int .u64 (sumN [x, y] : Int), .bool (sumOk [x, y])]) ∧ Below w.heap.size w w' := by
  have hc := fun b W hb => add_two b W hb x y hx hy
  generalize sumN [x, y] = s at *
  generalize sumOk [x, y] = o at *
  have HC := Lib.hid hc
  clear hx hy hc
  go_enter Try.func29, Try.ntmps29
  go_wp2_with fail
  refine (HC.out _ _ (by simp)).mono ?_
  rintro e w' ⟨rfl, rfl⟩
  go_wp2
  go_ret2
  exact ⟨rfl, ((Below.refl _ _).alloc (Nat.le_refl _) _).alloc (by simp) _⟩
theorem bcell {W w1 : World} (hb : Below W.heap.size W w1) : (∀ b o, b < W.heap.size → w1.cell? ⟨b, o, none⟩ = W.cell? ⟨b, o, none⟩) ∧ (∀ b o, b < W.heap.size → w1.frozen? ⟨b, o, none⟩ = W.frozen? ⟨b, o, none⟩) :=
  ⟨fun b o h => hb.cell (p := ⟨b, o, none⟩) h, fun b o h => hb.frozen (p := ⟨b, o, none⟩) h⟩
/-- Is the span within so many bytes? -/
def inB (x y size : Nat) : Bool := decide (x + y ≤ size)
set_option maxHeartbeats 400000 in
theorem in_any (x y size : Nat) (w : World) (hx : x < 2 ^ 64) (hy : y < 2 ^ 64) (hs : size < 2 ^ 64) :
    Calls Try.prog 31 #[.agg #[.int .u64 (x : Int), .int .u64 (y : Int)], .int .u64 (size : Int)] w fun e w' => e = .returned (.bool (inB x y size)) ∧ Below w.heap.size w w' := by
  have hc := fun W => end_any x y W hx hy
  have hcase : (sumOk [x, y] = true ∧ decide (sumN [x, y] ≤ size) = inB x y size) ∨ (sumOk [x, y] = false ∧ inB x y size = false) := by
    unfold sumOk sumN inB
    by_cases h : x + y < 2 ^ 64
    · left; simp [h]
    · right; simp [h]; omega
  generalize sumN [x, y] = s at *
  generalize sumOk [x, y] = o at *
  generalize inB x y size = r at *
  clear hx hy hs
  have HC := Lib.hid hc
  clear hc
  rcases hcase with ⟨rfl, h2⟩ | ⟨rfl, rfl⟩
  · go_enter Try.func31, Try.ntmps31
    go_wp2_with fail
    refine (HC.out _).mono ?_
    rintro e w' ⟨rfl, hb⟩
    go_wp2
    go_ret
    exact ⟨rfl, ((Below.refl _ _).alloc (Nat.le_refl _) _).trans (hb.mono (by simp))⟩
  · go_enter Try.func31, Try.ntmps31
    go_wp2_with fail
    refine (HC.out _).mono ?_
    rintro e w' ⟨rfl, hb⟩
    go_wp2
    go_ret
    exact ⟨rfl, ((Below.refl _ _).alloc (Nat.le_refl _) _).trans (hb.mono (by simp))⟩
theorem ext_ext (t : ByteArray) (x y : Nat) (h : x + y ≤ t.size) : (t.extract x t.size).extract 0 y = t.extract x (x + y) := by
  apply ByteArray.ext
  simp [ByteArray.data_extract, Array.extract_extract]
  congr 1
  have : t.data.size = t.size := rfl
  omega
set_option maxHeartbeats 400000 in
theorem part_yes (x y : Nat) (t : ByteArray) (w : World) (hx : x < 2 ^ 64) (hy : y < 2 ^ 64) (ht : t.size ≤ maxLen) (h : x + y ≤ t.size) :
    Calls Try.prog 30 #[.agg #[.int .u64 (x : Int), .int .u64 (y : Int)], .string t] w fun e w' => e = .returned (.tuple #[.string (t.extract x (x + y)), .bool true]) ∧ Below w.heap.size w w' := by
  unfold maxLen at ht
  have hc := fun W => in_any x y t.size W hx hy (by omega)
  have hr : inB x y t.size = true := by simp [inB, h]
  rw [hr] at hc
  have hw : IntKind.u64.wrap (t.size : Int) = (t.size : Int) := by rw [IntKind.wrap_u64]; omega
  have HC := Lib.hid hc
  have HT := Lib.hid ht
  clear hx hy hc ht hr
  go_enter Try.func30, Try.ntmps30
  go_wp2_with fail
  refine (HC.out _).mono ?_
  rintro e w' ⟨rfl, hb⟩
  have c0 : w'.cell? ⟨w.heap.size, 0, none⟩ = some (.int .u64 (x : Int)) := by rw [hb.cell (by simp)]; simp
  have c1 : w'.cell? ⟨w.heap.size, 1, none⟩ = some (.int .u64 (y : Int)) := by rw [hb.cell (by simp)]; simp
  have i0 : (0 : Int) ≤ (x : Int) := by omega
  have i1 : (x : Int) ≤ (t.size : Int) := by omega
  have i2 : (0 : Int) ≤ (y : Int) := by omega
  have i3 : (y : Int) ≤ (t.size : Int) - (x : Int) := by omega
  have i4 : y ≤ t.size - x := by omega
  clear hw
  go_wp2_with fail
  go_quiet (fail)
  rw [ext_ext t x y h]
  go_wp2
  go_ret2
  exact ⟨rfl, below_drewN (((Below.refl _ _).alloc (Nat.le_refl _) _).trans (hb.mono (by simp))) _⟩
set_option maxHeartbeats 400000 in
theorem part_no (x y : Nat) (t : ByteArray) (w : World) (hx : x < 2 ^ 64) (hy : y < 2 ^ 64) (ht : t.size ≤ maxLen) (h : ¬ x + y ≤ t.size) :
    Calls Try.prog 30 #[.agg #[.int .u64 (x : Int), .int .u64 (y : Int)], .string t] w fun e w' => e = .returned (.tuple #[.string ⟨#[]⟩, .bool false]) ∧ Below w.heap.size w w' := by
  unfold maxLen at ht
  have hc := fun W => in_any x y t.size W hx hy (by omega)
  have hr : inB x y t.size = false := by simp [inB]; omega
  rw [hr] at hc
  have hw : IntKind.u64.wrap (t.size : Int) = (t.size : Int) := by rw [IntKind.wrap_u64]; omega
  have HC := Lib.hid hc
  clear hx hy hc ht hr h
  go_enter Try.func30, Try.ntmps30
  go_wp2_with fail
  refine (HC.out _).mono ?_
  rintro e w' ⟨rfl, hb⟩
  clear hw
  go_wp2
  go_ret2
  exact ⟨rfl, ((Below.refl _ _).alloc (Nat.le_refl _) _).trans (hb.mono (by simp))⟩
theorem max_nat : ((18446744073709551615 : Nat) : Int) = 18446744073709551615 := rfl
def maxU : Nat := 18446744073709551615
set_option maxHeartbeats 400000 in
theorem refAdd_yes (x y : Nat) (w : World) (h : x + y < 2 ^ 64) :
    Calls Try.prog 26 #[.int .u64 (x : Int), .int .u64 (y : Int)] w fun e w' => e = .returned (.tuple #[.int .u64 (sumN [x, y] : Int), .bool (sumOk [x, y])]) ∧ w = w' := by
  have hr : sumN [x, y] = x + y ∧ sumOk [x, y] = true := by simp [sumN, sumOk, h]
  rw [hr.1, hr.2]
  have hs : IntKind.u64.wrap (18446744073709551615 - (x : Int)) = ((18446744073709551615 - x : Nat) : Int) := by rw [IntKind.wrap_u64]; omega
  have ha : IntKind.u64.wrap ((x : Int) + (y : Int)) = (x : Int) + (y : Int) := by rw [IntKind.wrap_u64]; omega
  have hd : decide (18446744073709551615 - x < y) = false := by simp; omega
  generalize 18446744073709551615 - x = m at *
  clear hr h
  go_enter Try.func26, Try.ntmps26
  go_wp2
  go_ret2
  exact ⟨by simp, rfl⟩
set_option maxHeartbeats 400000 in
theorem refAdd_no (x y : Nat) (w : World) (hx : x < 2 ^ 64) (h : ¬ x + y < 2 ^ 64) :
    Calls Try.prog 26 #[.int .u64 (x : Int), .int .u64 (y : Int)] w fun e w' => e = .returned (.tuple #[.int .u64 (sumN [x, y] : Int), .bool (sumOk [x, y])]) ∧ w = w' := by
  have hr : sumN [x, y] = 0 ∧ sumOk [x, y] = false := by simp [sumN, sumOk, h]
  rw [hr.1, hr.2]
  have hs : IntKind.u64.wrap (18446744073709551615 - (x : Int)) = ((18446744073709551615 - x : Nat) : Int) := by rw [IntKind.wrap_u64]; omega
  have hd : decide (18446744073709551615 - x < y) = true := by simp; omega
  generalize 18446744073709551615 - x = m at *
  clear hr h hx
  go_enter Try.func26, Try.ntmps26
  go_wp2
  go_ret2
  exact ⟨rfl, rfl⟩
theorem refAdd_any (x y : Nat) (w : World) (hx : x < 2 ^ 64) :
    Calls Try.prog 26 #[.int .u64 (x : Int), .int .u64 (y : Int)] w fun e w' => e = .returned (.tuple #[.int .u64 (sumN [x, y] : Int), .bool (sumOk [x, y])]) ∧ w = w' := by
  by_cases h : x + y < 2 ^ 64
  · exact refAdd_yes x y w h
  · exact refAdd_no x y w hx h
/-- The end of a span, or the greatest number. -/
def boundN (x y : Nat) : Nat := if x + y < 2 ^ 64 then x + y else maxU
set_option maxHeartbeats 400000 in
theorem bound_any (x y : Nat) (w : World) (hx : x < 2 ^ 64) (hy : y < 2 ^ 64) :
    Calls Try.prog 45 #[.agg #[.int .u64 (x : Int), .int .u64 (y : Int)]] w fun e w' => e = .returned (.int .u64 (boundN x y : Int)) ∧ Below w.heap.size w w' := by
  have hc := fun W => end_any x y W hx hy
  have hcase : (sumOk [x, y] = true ∧ boundN x y = sumN [x, y]) ∨ (sumOk [x, y] = false ∧ (boundN x y : Int) = 18446744073709551615) := by
    unfold sumOk sumN boundN maxU
    by_cases h : x + y < 2 ^ 64
    · left; simp [h]
    · right; simp [h]
  generalize sumN [x, y] = s at *
  generalize sumOk [x, y] = o at *
  generalize boundN x y = r at *
  clear hx hy
  have HC := Lib.hid hc
  clear hc
  rcases hcase with ⟨rfl, rfl⟩ | ⟨rfl, h2⟩
  · go_enter Try.func45, Try.ntmps45
    go_wp2_with fail
    refine (HC.out _).mono ?_
    rintro e w' ⟨rfl, hb⟩
    go_wp2
    go_ret
    exact ⟨rfl, ((Below.refl _ _).alloc (Nat.le_refl _) _).trans (hb.mono (by simp))⟩
  · rw [h2]
    clear h2
    go_enter Try.func45, Try.ntmps45
    go_wp2_with fail
    refine (HC.out _).mono ?_
    rintro e w' ⟨rfl, hb⟩
    go_wp2
    go_ret
    exact ⟨rfl, ((Below.refl _ _).alloc (Nat.le_refl _) _).trans (hb.mono (by simp))⟩
/-- What Round adds up. -/
def roundL (n a : Nat) : List Nat := if n % (max a 1) = 0 then [n] else [n, max a 1 - n % (max a 1)]
set_option maxHeartbeats 400000 in
theorem round_any (n a : Nat) (w : World) (hn : n < 2 ^ 64) (ha : a < 2 ^ 64) :
    Calls Try.prog 28 #[.int .u64 (n : Int), .int .u64 (a : Int)] w fun e w' => e = .returned (.tuple #[.int .u64 (sumN (roundL n a) : Int), .bool (sumOk (roundL n a))]) ∧ Below w.heap.size w w' := by
  have hmax : max (a : Int) 1 = ((max a 1 : Nat) : Int) := by omega
  have hm1 : 1 ≤ max a 1 := by omega
  have hm2 : max a 1 < 2 ^ 64 := by omega
  unfold roundL
  generalize max a 1 = m at *
  by_cases h : n % m = 0
  · simp only [h, if_true]
    have hr : sumN [n] = n ∧ sumOk [n] = true := by simp [sumN, sumOk, hn]
    rw [hr.1, hr.2]
    have h0 : ((n : Int) % (m : Int) == 0) = true := by rw [beq_iff_eq]; omega
    clear hr hn ha hm2 h
    go_enter Try.func28, Try.ntmps28
    go_wp2
    go_ret2
    exact ⟨rfl, Below.refl _ _⟩
  · simp only [h, if_false]
    have hlt : n % m < m := Nat.mod_lt _ (by omega)
    have hc := fun b W hb => add_two b W hb n (m - n % m) hn (by omega)
    have hmod : (n : Int) % (m : Int) = ((n % m : Nat) : Int) := by omega
    generalize n % m = r at *
    have h0 : ((r : Int) == 0) = false := by rw [beq_eq_false_iff_ne]; omega
    have hsub : IntKind.u64.wrap ((m : Int) - (r : Int)) = ((m - r : Nat) : Int) := by rw [IntKind.wrap_u64]; omega
    generalize sumN [n, m - r] = s at *
    generalize sumOk [n, m - r] = o at *
    generalize m - r = d at *
    have HC := Lib.hid hc
    clear hn ha hm2 h hlt hc
    go_enter Try.func28, Try.ntmps28
    go_wp2_with fail
    refine (HC.out _ _ (by simp)).mono ?_
    rintro e w' ⟨rfl, rfl⟩
    go_wp2
    go_ret2
    exact ⟨rfl, (Below.refl _ _).alloc (Nat.le_refl _) _⟩
end Go.Proofs.Ytibgcnggimlbcaa
