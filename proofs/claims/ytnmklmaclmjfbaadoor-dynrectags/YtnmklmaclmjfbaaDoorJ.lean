/- The contract of the reference's Record. Conditions: those written in each theorem. -/
import Derived.Test.YtnmklmaclmjfbaaDoorI
namespace Go.Proofs.YtnmklmaclmjfbaaDoor
open Go.RowKit
namespace Num
theorem horner_leB (n k : Nat) : horner (leB n k).reverse = n % 256 ^ k := by
  induction k with
  | zero => simp [leB, horner, Nat.mod_one]
  | succ k ih =>
    rw [leB, List.reverse_append, List.reverse_singleton, List.singleton_append, horner_cons, List.length_reverse, leB_length, ih, Nat.mod_pow_succ, UInt8.toNat_ofNat', Nat.mul_comm, Nat.add_comm]
theorem getN_putL (big : Bool) (n k : Nat) (h1 : 1 ≤ k) (h8 : k ≤ 8) : getN big (putL big n (k : Int)) = n % 256 ^ k := by
  unfold getN putL
  rw [if_pos (show 1 ≤ (k : Int) ∧ (k : Int) ≤ 8 by omega), Int.toNat_natCast]
  cases big
  · simp [leB_length, h8, horner_leB]
  · simp [leB_length, h8, horner_leB]
theorem putL_pos (big : Bool) (n k : Nat) (h1 : 1 ≤ k) (h8 : k ≤ 8) : putL big n (k : Int) ≠ [] := by
  unfold putL
  rw [if_pos (by omega), Int.toNat_natCast]
  intro h
  have := congrArg List.length h
  cases big <;> simp [leB_length] at this <;> omega
end Num
theorem add_str (S P : ByteArray) (h : S.size + P.size ≤ 9223372036854775807) : ∀ W, (Op.stringOp .add S P).run Tryd.prog W = .ok (.string (S ++ P)) W := fun W => run_string_add_sum W S P h
theorem fullZ_pos (wide : Bool) (z : Int) (h : 0 ≤ fullZ wide z) : 1 ≤ fullZ wide z := by
  unfold fullZ at *
  split
  · cases wide <;> decide
  · rename_i hz
    rw [if_neg hz] at h
    omega
/-- What is put and read again is the number just where it may be there. -/
theorem ok_back (big wide : Bool) (z : Int) (y : Nat) : (0 ≤ fullZ wide z ∧ fullZ wide z ≤ 8 ∧ y < 256 ^ (fullZ wide z).toNat) ↔ (Num.putL big y (fullZ wide z) ≠ [] ∧ Num.getN big (Num.putL big y (fullZ wide z)) = y) := by
  by_cases h : 1 ≤ fullZ wide z ∧ fullZ wide z ≤ 8
  · obtain ⟨k, hk⟩ := Int.eq_ofNat_of_zero_le (show 0 ≤ fullZ wide z by omega)
    rw [hk] at h ⊢
    rw [Num.getN_putL big y k (by omega) (by omega), Int.toNat_natCast]
    have h0 : 0 < 256 ^ k := Nat.pow_pos (by decide)
    constructor
    · rintro ⟨_, _, h3⟩
      exact ⟨Num.putL_pos big y k (by omega) (by omega), Nat.mod_eq_of_lt h3⟩
    · rintro ⟨_, h3⟩
      have := Nat.mod_lt y h0
      exact ⟨by omega, by omega, by omega⟩
  · constructor
    · rintro ⟨h1, h2, _⟩
      exact absurd ⟨fullZ_pos wide z h1, h2⟩ h
    · rintro ⟨h1, _⟩
      exact absurd (by unfold Num.putL; rw [if_neg h]) h1
theorem fields_snoc (big : Bool) (F : List Int) (ns : List Nat) (k : Nat) (f : Int) (y : Nat) (hf : F.getD k 0 = f) (hy : ns.getD k 0 = y) :
    (⟨(fieldsL big F ns k).toArray⟩ : ByteArray) ++ ⟨(Num.putL big y f).toArray⟩ = ⟨(fieldsL big F ns (k + 1)).toArray⟩ := by
  subst hf hy
  apply ByteArray.ext
  simp [fieldsL]
set_option maxRecDepth 100000 in
theorem refRecord_len (big wide : Bool) (a1 a2 : Option Addr) (l1 c1 l2 c2 : Nat) (w : World) (h : l1 ≠ l2) :
    Calls Tryd.prog 21 #[.bool wide, .bool big, .slice a1 l1 c1, .slice a2 l2 c2] w fun e w' => e = .returned (.tuple #[.string ⟨#[]⟩, .bool false]) ∧ Below w.heap.size w w' := by
  have hb : ((l1 : Int) != (l2 : Int)) = true := by simp; omega
  go_enter Tryd.func21, Tryd.ntmps21
  go_wp2
  go_ret2
  exact ⟨rfl, Below.refl _ _⟩
set_option maxRecDepth 100000 in
set_option maxHeartbeats 1000000 in
theorem refRecord_yes (big wide : Bool) (a1 a2 : Option Addr) (l c1 c2 : Nat) (zs : List Int) (ns : List Nat) (w : World) (hl : l ≤ 20) (r1 : RowI w a1 l zs) (r2 : RowN w a2 l ns)
    (hok : ∀ k, k < l → okAt wide zs ns k) :
    Calls Tryd.prog 21 #[.bool wide, .bool big, .slice a1 l c1, .slice a2 l c2] w fun e w' => e = .returned (.tuple #[.string ⟨(fieldsL big (fullL wide zs l) ns l).toArray⟩, .bool true]) ∧ Below w.heap.size w w' := by
  have R1 := Lib.hid r1; clear r1
  have R2 := Lib.hid r2; clear r2
  have HOK := Lib.hid hok; clear hok
  go_enter Tryd.func21, Tryd.ntmps21
  go_wp2
  go_loopw [10, 11, 12, 13] (fun s i _ _ wr => ∃ k : Nat, k ≤ l ∧ i = .int .i64 k ∧ s = .string ⟨(fieldsL big (fullL wide zs l) ns k).toArray⟩ ∧ Below w.heap.size w wr) (fun _ i _ _ _ => l - (intOf i).toNat)
  case atStart => exact ⟨0, Nat.zero_le _, rfl, rfl, Below.refl _ _⟩
  case round =>
    obtain ⟨k, hk, rfl, rfl, hg⟩ := hrel
    by_cases hlt : k < l
    · obtain ⟨b1, off1, rfl, hbb1, hc1⟩ := R1.out k (by omega)
      obtain ⟨b2, off2, rfl, hbb2, hc2, hn2⟩ := R2.out k (by omega)
      have hc1w : wr.cell? ⟨b1, off1 + k, none⟩ = some (.int .i64 (zs.getD k 0)) := by rw [hg.cell (by exact hbb1)]; exact hc1
      have hc2w : wr.cell? ⟨b2, off2 + k, none⟩ = some (.int .u64 (ns.getD k 0 : Nat)) := by rw [hg.cell (by exact hbb2)]; exact hc2
      clear hc1 hc2
      have hsn := fields_snoc big (fullL wide zs l) ns k _ _ (fullL_getD wide zs l k (by omega)) rfl
      have hle := fieldsL_le big (fullL wide zs l) ns k
      have hle2 := putL_le big (ns.getD k 0) (fullZ wide (zs.getD k 0))
      have hob := ok_back big wide (zs.getD k 0) (ns.getD k 0)
      have hst : (⟨(fieldsL big (fullL wide zs l) ns k).toArray⟩ : ByteArray).size = (fieldsL big (fullL wide zs l) ns k).length := by simp [ByteArray.size]
      have hst2 : (⟨(Num.putL big (ns.getD k 0) (fullZ wide (zs.getD k 0))).toArray⟩ : ByteArray).size = (Num.putL big (ns.getD k 0) (fullZ wide (zs.getD k 0))).length := by simp [ByteArray.size]
      have hP0 : (ByteArray.mk (Num.putL big (ns.getD k 0) (fullZ wide (zs.getD k 0))).toArray).data.toList = Num.putL big (ns.getD k 0) (fullZ wide (zs.getD k 0)) := rfl
      obtain ⟨hne, hback⟩ := hob.1 (HOK.out k hlt)
      clear hob
      generalize (⟨(fieldsL big (fullL wide zs l) ns k).toArray⟩ : ByteArray) = T at *
      generalize hPdef : (⟨(Num.putL big (ns.getD k 0) (fullZ wide (zs.getD k 0))).toArray⟩ : ByteArray) = P at *
      rw [← hP0] at hback hne
      have hadd := add_str T P (by omega)
      rw [hsn] at hadd
      obtain ⟨T', hT'⟩ : ∃ T' : ByteArray, ⟨(fieldsL big (fullL wide zs l) ns (k + 1)).toArray⟩ = T' := ⟨_, rfl⟩
      rw [hT'] at hadd
      have HT' := Lib.hid hT'; clear hT'
      have HG := Lib.hid hback; clear hback
      have hne1 : (P.toList == []) = false := by rw [toList_data]; simpa using hne
      have hne2 : P.toList.isEmpty = false := by rw [toList_data]; simpa using hne
      have hne3 : (!P.toList.isEmpty) = true := by rw [hne2]; rfl
      clear hne
      clear hsn hle hle2 hst hst2 hP0
      generalize hz0 : zs.getD k 0 = z at *
      generalize ns.getD k 0 = y at *
      generalize hf : fullZ wide z = f at *
      clear hz0
      have HP := Lib.hid hPdef; clear hPdef
      have HN := Lib.hid hn2; clear hn2
      have hi0 : (0 : Int) ≤ (k : Int) := by omega
      have hi1 : (k : Int) < (l : Int) := by omega
      have hcase : ((z == 0) = true ∧ wide = true ∧ f = 8) ∨ ((z == 0) = true ∧ wide = false ∧ f = 4) ∨ ((z == 0) = false ∧ f = z) := by
        rw [← hf]
        unfold fullZ
        by_cases hz : z = 0
        · rw [if_pos hz]
          cases wide
          · exact Or.inr (Or.inl ⟨by simpa using hz, rfl, rfl⟩)
          · exact Or.inl ⟨by simpa using hz, rfl, rfl⟩
        · rw [if_neg hz]
          exact Or.inr (Or.inr ⟨by simpa using hz, rfl⟩)
      clear hf
      rcases hcase with ⟨hz, hwd, hf⟩ | ⟨hz, hwd, hf⟩ | ⟨hz, hf⟩
      · subst hwd
        have HF := Lib.hid hf; clear hf
        go_wp2_with fail
        refine (refPut_any big y 8 _ HN.out).mono ?_
        rintro e w1 ⟨rfl, h1⟩
        rw [show Num.putL big y 8 = Num.putL big y f from by rw [HF.out], HP.out]
        have hg1 : Below w.heap.size w w1 := hg.trans (h1.mono hg.size)
        have hcy : w1.cell? ⟨b2, off2 + k, none⟩ = some (.int .u64 y) := by rw [h1.cell (by have := hg.size; show b2 < _; omega)]; exact hc2w
        clear hc1w hc2w
        go_wp2
        refine wp_region_held_drew (S := (fun w' => w'.cell? ⟨b2, off2 + k, none⟩ = some (.int .u64 y))) (by kernel_rfl) ?_ (fun hHeld => ?_)
        · (try dsimp only); go_keep
        refine wpAnyH_take (i := 0) (oi := { dst := some 43, op := Go.Op.move (Go.Operand.tmp 13), type := 9, pos := "ref.go:41", after := #[], guard := none }) (v := ?_) rfl (by kernel_rfl) (by kernel_rfl) (by kernel_rfl) (fun _ _ _ h => h) (Or.inl ⟨by rfl, ?_⟩) (by assumption) ?_
        rotate_left
        · (intro w hSw; (try dsimp only at hSw); go_simp <;> with_reducible rfl)
        try simp only [Act.put, List.setIfInBounds_toArray, List.set_cons_zero, List.set_cons_succ]
        refine wpAnyH_take (i := 1) (oi := { dst := some 44, op := Go.Op.binOp Go.BinOp.eql 9 (Go.Operand.tmp 43) (Go.Operand.const (Go.Value.string { data := #[] })) 9, type := 4, pos := "ref.go:41", after := #[{ on := 0, ground := Go.Ground.data }], guard := none }) (v := ?_) rfl (by kernel_rfl) (by kernel_rfl) (by kernel_rfl) (fun _ _ _ h => h) (Or.inl ⟨by rfl, ?_⟩) (by assumption) ?_
        rotate_left
        · (intro w hSw; (try dsimp only at hSw); go_simp <;> with_reducible rfl)
        try simp only [Act.put, List.setIfInBounds_toArray, List.set_cons_zero, List.set_cons_succ]
        refine wpAnyH_take (i := 2) (oi := { dst := some 45, op := Go.Op.move (Go.Operand.tmp 44), type := 4, pos := "ref.go:41", after := #[{ on := 1, ground := Go.Ground.data }], guard := none }) (v := ?_) rfl (by kernel_rfl) (by kernel_rfl) (by kernel_rfl) (fun _ _ _ h => h) (Or.inl ⟨by rfl, ?_⟩) (by assumption) ?_
        rotate_left
        · (intro w hSw; (try dsimp only at hSw); go_simp <;> with_reducible rfl)
        try simp only [Act.put, List.setIfInBounds_toArray, List.set_cons_zero, List.set_cons_succ]
        refine wpAnyH_take (i := 3) (oi := { dst := some 46, op := Go.Op.move (Go.Operand.tmp 1), type := 4, pos := "ref.go:41", after := #[{ on := 2, ground := Go.Ground.guard }], guard := some (2, false) }) (v := ?_) rfl (by kernel_rfl) (by kernel_rfl) (by kernel_rfl) (fun _ _ _ h => h) (Or.inl ⟨by rfl, ?_⟩) (by assumption) ?_
        rotate_left
        · (intro w hSw; (try dsimp only at hSw); go_simp <;> with_reducible rfl)
        try simp only [Act.put, List.setIfInBounds_toArray, List.set_cons_zero, List.set_cons_succ]
        refine wpAnyH_take (i := 4) (oi := { dst := some 47, op := Go.Op.move (Go.Operand.tmp 13), type := 9, pos := "ref.go:41", after := #[{ on := 2, ground := Go.Ground.guard }], guard := some (2, false) }) (v := ?_) rfl (by kernel_rfl) (by kernel_rfl) (by kernel_rfl) (fun _ _ _ h => h) (Or.inl ⟨by rfl, ?_⟩) (by assumption) ?_
        rotate_left
        · (intro w hSw; (try dsimp only at hSw); go_simp <;> with_reducible rfl)
        try simp only [Act.put, List.setIfInBounds_toArray, List.set_cons_zero, List.set_cons_succ]
        refine wpAnyH_take (i := 6) (oi := { dst := some 49, op := Go.Op.move (Go.Operand.tmp 3), type := 58, pos := "ref.go:41", after := #[{ on := 2, ground := Go.Ground.guard }], guard := some (2, false) }) (v := ?_) rfl (by kernel_rfl) (by kernel_rfl) (by kernel_rfl) (fun _ _ _ h => h) (Or.inl ⟨by rfl, ?_⟩) (by assumption) ?_
        rotate_left
        · (intro w hSw; (try dsimp only at hSw); go_simp <;> with_reducible rfl)
        try simp only [Act.put, List.setIfInBounds_toArray, List.set_cons_zero, List.set_cons_succ]
        refine wpAnyH_take (i := 7) (oi := { dst := some 50, op := Go.Op.move (Go.Operand.tmp 11), type := 3, pos := "ref.go:41", after := #[{ on := 2, ground := Go.Ground.guard }], guard := some (2, false) }) (v := ?_) rfl (by kernel_rfl) (by kernel_rfl) (by kernel_rfl) (fun _ _ _ h => h) (Or.inl ⟨by rfl, ?_⟩) (by assumption) ?_
        rotate_left
        · (intro w hSw; (try dsimp only at hSw); go_simp <;> with_reducible rfl)
        try simp only [Act.put, List.setIfInBounds_toArray, List.set_cons_zero, List.set_cons_succ]
        refine wpAnyH_take (i := 8) (oi := { dst := some 51, op := Go.Op.indexAddr 58 (Go.Operand.tmp 49) (Go.Operand.tmp 50), type := 0, pos := "ref.go:41", after := #[{ on := 6, ground := Go.Ground.data }, { on := 7, ground := Go.Ground.data }, { on := 2, ground := Go.Ground.guard }], guard := some (2, false) }) (v := ?_) rfl (by kernel_rfl) (by kernel_rfl) (by kernel_rfl) (fun _ _ _ h => h) (Or.inl ⟨by rfl, ?_⟩) (by assumption) ?_
        rotate_left
        · (intro w hSw; (try dsimp only at hSw); go_simp <;> with_reducible rfl)
        try simp only [Act.put, List.setIfInBounds_toArray, List.set_cons_zero, List.set_cons_succ]
        refine wpAnyH_take (i := 9) (oi := { dst := some 52, op := Go.Op.load 31 (Go.Operand.tmp 51), type := 31, pos := "ref.go:41", after := #[{ on := 8, ground := Go.Ground.data }, { on := 2, ground := Go.Ground.guard }], guard := some (2, false) }) (v := ?_) rfl (by kernel_rfl) (by kernel_rfl) (by kernel_rfl) (fun _ _ _ h => h) (Or.inl ⟨by rfl, ?_⟩) (by assumption) ?_
        rotate_left
        · (intro w hSw; (try dsimp only at hSw); go_simp <;> with_reducible rfl)
        try simp only [Act.put, List.setIfInBounds_toArray, List.set_cons_zero, List.set_cons_succ]
        refine wpAnyH_ready (rs := [5]) (by kernel_rfl) (by simp) ?_
        refine AllReadyH.cons (o := { dst := some 48, op := Go.Op.call { callee := Go.Callee.value (Go.Operand.func 37), args := #[Go.Operand.tmp 46, Go.Operand.tmp 47], argTypes := #[4, 9] }, type := 31, pos := "ref.go:41", after := #[{ on := 3, ground := Go.Ground.data }, { on := 4, ground := Go.Ground.data }, { on := 2, ground := Go.Ground.chain }, { on := 2, ground := Go.Ground.guard }], guard := some (2, false) }) rfl (fun K hK => ?_) AllReadyH.nil
        (first | (go_at_call 37; (with_reducible refine (refGet_any big P _).mono ?_); rintro e wx ⟨rfl, rfl⟩) | (go_simp; go_at_call 37; (with_reducible refine (refGet_any big P _).mono ?_); rintro e wx ⟨rfl, rfl⟩))
        rw [HG.out]
        try go_wp2_with fail
        refine hK.out _ _ ?_ (fun hHeld2 => ?_)
        · (try dsimp only); go_keep
        clear hK K hHeld
        try simp only [Act.put, List.setIfInBounds_toArray, List.set_cons_zero, List.set_cons_succ]
        refine wpAnyH_take (i := 10) (oi := { dst := some 53, op := Go.Op.binOp Go.BinOp.neq 31 (Go.Operand.tmp 48) (Go.Operand.tmp 52) 31, type := 4, pos := "ref.go:41", after := #[{ on := 5, ground := Go.Ground.data }, { on := 9, ground := Go.Ground.data }, { on := 2, ground := Go.Ground.guard }], guard := some (2, false) }) (v := ?_) rfl (by kernel_rfl) (by kernel_rfl) (by kernel_rfl) (fun _ _ _ h => h) (Or.inl ⟨by rfl, ?_⟩) (by assumption) ?_
        rotate_left
        · (intro w hSw; (try dsimp only at hSw); go_simp <;> with_reducible rfl)
        try simp only [Act.put, List.setIfInBounds_toArray, List.set_cons_zero, List.set_cons_succ]
        refine wpAnyH_take (i := 11) (oi := { dst := some 54, op := Go.Op.pick (Go.Operand.tmp 45) (Go.Operand.const (Go.Value.bool true)) (Go.Operand.tmp 53), type := 4, pos := "ref.go:41", after := #[{ on := 2, ground := Go.Ground.data }, { on := 10, ground := Go.Ground.data }], guard := none }) (v := ?_) rfl (by kernel_rfl) (by kernel_rfl) (by kernel_rfl) (fun _ _ _ h => h) (Or.inl ⟨by rfl, ?_⟩) (by assumption) ?_
        rotate_left
        · (intro w hSw; (try dsimp only at hSw); go_simp <;> with_reducible rfl)
        try simp only [Act.put, List.setIfInBounds_toArray, List.set_cons_zero, List.set_cons_succ]
        refine wpAnyH_done (by kernel_rfl) ?_ _
        clear hHeld2
        go_wp2
        go_roundw
        case rel => exact ⟨k + 1, by omega, by go_num, by rw [HT'.out], hg1.drew⟩
        case measure => simp [intOf]; omega
      · subst hwd
        have HF := Lib.hid hf; clear hf
        go_wp2_with fail
        refine (refPut_any big y 4 _ HN.out).mono ?_
        rintro e w1 ⟨rfl, h1⟩
        rw [show Num.putL big y 4 = Num.putL big y f from by rw [HF.out], HP.out]
        have hg1 : Below w.heap.size w w1 := hg.trans (h1.mono hg.size)
        have hcy : w1.cell? ⟨b2, off2 + k, none⟩ = some (.int .u64 y) := by rw [h1.cell (by have := hg.size; show b2 < _; omega)]; exact hc2w
        clear hc1w hc2w
        go_wp2
        refine wp_region_held_drew (S := (fun w' => w'.cell? ⟨b2, off2 + k, none⟩ = some (.int .u64 y))) (by kernel_rfl) ?_ (fun hHeld => ?_)
        · (try dsimp only); go_keep
        refine wpAnyH_take (i := 0) (oi := { dst := some 43, op := Go.Op.move (Go.Operand.tmp 13), type := 9, pos := "ref.go:41", after := #[], guard := none }) (v := ?_) rfl (by kernel_rfl) (by kernel_rfl) (by kernel_rfl) (fun _ _ _ h => h) (Or.inl ⟨by rfl, ?_⟩) (by assumption) ?_
        rotate_left
        · (intro w hSw; (try dsimp only at hSw); go_simp <;> with_reducible rfl)
        try simp only [Act.put, List.setIfInBounds_toArray, List.set_cons_zero, List.set_cons_succ]
        refine wpAnyH_take (i := 1) (oi := { dst := some 44, op := Go.Op.binOp Go.BinOp.eql 9 (Go.Operand.tmp 43) (Go.Operand.const (Go.Value.string { data := #[] })) 9, type := 4, pos := "ref.go:41", after := #[{ on := 0, ground := Go.Ground.data }], guard := none }) (v := ?_) rfl (by kernel_rfl) (by kernel_rfl) (by kernel_rfl) (fun _ _ _ h => h) (Or.inl ⟨by rfl, ?_⟩) (by assumption) ?_
        rotate_left
        · (intro w hSw; (try dsimp only at hSw); go_simp <;> with_reducible rfl)
        try simp only [Act.put, List.setIfInBounds_toArray, List.set_cons_zero, List.set_cons_succ]
        refine wpAnyH_take (i := 2) (oi := { dst := some 45, op := Go.Op.move (Go.Operand.tmp 44), type := 4, pos := "ref.go:41", after := #[{ on := 1, ground := Go.Ground.data }], guard := none }) (v := ?_) rfl (by kernel_rfl) (by kernel_rfl) (by kernel_rfl) (fun _ _ _ h => h) (Or.inl ⟨by rfl, ?_⟩) (by assumption) ?_
        rotate_left
        · (intro w hSw; (try dsimp only at hSw); go_simp <;> with_reducible rfl)
        try simp only [Act.put, List.setIfInBounds_toArray, List.set_cons_zero, List.set_cons_succ]
        refine wpAnyH_take (i := 3) (oi := { dst := some 46, op := Go.Op.move (Go.Operand.tmp 1), type := 4, pos := "ref.go:41", after := #[{ on := 2, ground := Go.Ground.guard }], guard := some (2, false) }) (v := ?_) rfl (by kernel_rfl) (by kernel_rfl) (by kernel_rfl) (fun _ _ _ h => h) (Or.inl ⟨by rfl, ?_⟩) (by assumption) ?_
        rotate_left
        · (intro w hSw; (try dsimp only at hSw); go_simp <;> with_reducible rfl)
        try simp only [Act.put, List.setIfInBounds_toArray, List.set_cons_zero, List.set_cons_succ]
        refine wpAnyH_take (i := 4) (oi := { dst := some 47, op := Go.Op.move (Go.Operand.tmp 13), type := 9, pos := "ref.go:41", after := #[{ on := 2, ground := Go.Ground.guard }], guard := some (2, false) }) (v := ?_) rfl (by kernel_rfl) (by kernel_rfl) (by kernel_rfl) (fun _ _ _ h => h) (Or.inl ⟨by rfl, ?_⟩) (by assumption) ?_
        rotate_left
        · (intro w hSw; (try dsimp only at hSw); go_simp <;> with_reducible rfl)
        try simp only [Act.put, List.setIfInBounds_toArray, List.set_cons_zero, List.set_cons_succ]
        refine wpAnyH_take (i := 6) (oi := { dst := some 49, op := Go.Op.move (Go.Operand.tmp 3), type := 58, pos := "ref.go:41", after := #[{ on := 2, ground := Go.Ground.guard }], guard := some (2, false) }) (v := ?_) rfl (by kernel_rfl) (by kernel_rfl) (by kernel_rfl) (fun _ _ _ h => h) (Or.inl ⟨by rfl, ?_⟩) (by assumption) ?_
        rotate_left
        · (intro w hSw; (try dsimp only at hSw); go_simp <;> with_reducible rfl)
        try simp only [Act.put, List.setIfInBounds_toArray, List.set_cons_zero, List.set_cons_succ]
        refine wpAnyH_take (i := 7) (oi := { dst := some 50, op := Go.Op.move (Go.Operand.tmp 11), type := 3, pos := "ref.go:41", after := #[{ on := 2, ground := Go.Ground.guard }], guard := some (2, false) }) (v := ?_) rfl (by kernel_rfl) (by kernel_rfl) (by kernel_rfl) (fun _ _ _ h => h) (Or.inl ⟨by rfl, ?_⟩) (by assumption) ?_
        rotate_left
        · (intro w hSw; (try dsimp only at hSw); go_simp <;> with_reducible rfl)
        try simp only [Act.put, List.setIfInBounds_toArray, List.set_cons_zero, List.set_cons_succ]
        refine wpAnyH_take (i := 8) (oi := { dst := some 51, op := Go.Op.indexAddr 58 (Go.Operand.tmp 49) (Go.Operand.tmp 50), type := 0, pos := "ref.go:41", after := #[{ on := 6, ground := Go.Ground.data }, { on := 7, ground := Go.Ground.data }, { on := 2, ground := Go.Ground.guard }], guard := some (2, false) }) (v := ?_) rfl (by kernel_rfl) (by kernel_rfl) (by kernel_rfl) (fun _ _ _ h => h) (Or.inl ⟨by rfl, ?_⟩) (by assumption) ?_
        rotate_left
        · (intro w hSw; (try dsimp only at hSw); go_simp <;> with_reducible rfl)
        try simp only [Act.put, List.setIfInBounds_toArray, List.set_cons_zero, List.set_cons_succ]
        refine wpAnyH_take (i := 9) (oi := { dst := some 52, op := Go.Op.load 31 (Go.Operand.tmp 51), type := 31, pos := "ref.go:41", after := #[{ on := 8, ground := Go.Ground.data }, { on := 2, ground := Go.Ground.guard }], guard := some (2, false) }) (v := ?_) rfl (by kernel_rfl) (by kernel_rfl) (by kernel_rfl) (fun _ _ _ h => h) (Or.inl ⟨by rfl, ?_⟩) (by assumption) ?_
        rotate_left
        · (intro w hSw; (try dsimp only at hSw); go_simp <;> with_reducible rfl)
        try simp only [Act.put, List.setIfInBounds_toArray, List.set_cons_zero, List.set_cons_succ]
        refine wpAnyH_ready (rs := [5]) (by kernel_rfl) (by simp) ?_
        refine AllReadyH.cons (o := { dst := some 48, op := Go.Op.call { callee := Go.Callee.value (Go.Operand.func 37), args := #[Go.Operand.tmp 46, Go.Operand.tmp 47], argTypes := #[4, 9] }, type := 31, pos := "ref.go:41", after := #[{ on := 3, ground := Go.Ground.data }, { on := 4, ground := Go.Ground.data }, { on := 2, ground := Go.Ground.chain }, { on := 2, ground := Go.Ground.guard }], guard := some (2, false) }) rfl (fun K hK => ?_) AllReadyH.nil
        (first | (go_at_call 37; (with_reducible refine (refGet_any big P _).mono ?_); rintro e wx ⟨rfl, rfl⟩) | (go_simp; go_at_call 37; (with_reducible refine (refGet_any big P _).mono ?_); rintro e wx ⟨rfl, rfl⟩))
        rw [HG.out]
        try go_wp2_with fail
        refine hK.out _ _ ?_ (fun hHeld2 => ?_)
        · (try dsimp only); go_keep
        clear hK K hHeld
        try simp only [Act.put, List.setIfInBounds_toArray, List.set_cons_zero, List.set_cons_succ]
        refine wpAnyH_take (i := 10) (oi := { dst := some 53, op := Go.Op.binOp Go.BinOp.neq 31 (Go.Operand.tmp 48) (Go.Operand.tmp 52) 31, type := 4, pos := "ref.go:41", after := #[{ on := 5, ground := Go.Ground.data }, { on := 9, ground := Go.Ground.data }, { on := 2, ground := Go.Ground.guard }], guard := some (2, false) }) (v := ?_) rfl (by kernel_rfl) (by kernel_rfl) (by kernel_rfl) (fun _ _ _ h => h) (Or.inl ⟨by rfl, ?_⟩) (by assumption) ?_
        rotate_left
        · (intro w hSw; (try dsimp only at hSw); go_simp <;> with_reducible rfl)
        try simp only [Act.put, List.setIfInBounds_toArray, List.set_cons_zero, List.set_cons_succ]
        refine wpAnyH_take (i := 11) (oi := { dst := some 54, op := Go.Op.pick (Go.Operand.tmp 45) (Go.Operand.const (Go.Value.bool true)) (Go.Operand.tmp 53), type := 4, pos := "ref.go:41", after := #[{ on := 2, ground := Go.Ground.data }, { on := 10, ground := Go.Ground.data }], guard := none }) (v := ?_) rfl (by kernel_rfl) (by kernel_rfl) (by kernel_rfl) (fun _ _ _ h => h) (Or.inl ⟨by rfl, ?_⟩) (by assumption) ?_
        rotate_left
        · (intro w hSw; (try dsimp only at hSw); go_simp <;> with_reducible rfl)
        try simp only [Act.put, List.setIfInBounds_toArray, List.set_cons_zero, List.set_cons_succ]
        refine wpAnyH_done (by kernel_rfl) ?_ _
        clear hHeld2
        go_wp2
        go_roundw
        case rel => exact ⟨k + 1, by omega, by go_num, by rw [HT'.out], hg1.drew⟩
        case measure => simp [intOf]; omega
      · have HF := Lib.hid hf; clear hf
        go_wp2_with fail
        refine (refPut_any big y z _ HN.out).mono ?_
        rintro e w1 ⟨rfl, h1⟩
        rw [show Num.putL big y z = Num.putL big y f from by rw [HF.out], HP.out]
        have hg1 : Below w.heap.size w w1 := hg.trans (h1.mono hg.size)
        have hcy : w1.cell? ⟨b2, off2 + k, none⟩ = some (.int .u64 y) := by rw [h1.cell (by have := hg.size; show b2 < _; omega)]; exact hc2w
        clear hc1w hc2w
        go_wp2
        refine wp_region_held_drew (S := (fun w' => w'.cell? ⟨b2, off2 + k, none⟩ = some (.int .u64 y))) (by kernel_rfl) ?_ (fun hHeld => ?_)
        · (try dsimp only); go_keep
        refine wpAnyH_take (i := 0) (oi := { dst := some 43, op := Go.Op.move (Go.Operand.tmp 13), type := 9, pos := "ref.go:41", after := #[], guard := none }) (v := ?_) rfl (by kernel_rfl) (by kernel_rfl) (by kernel_rfl) (fun _ _ _ h => h) (Or.inl ⟨by rfl, ?_⟩) (by assumption) ?_
        rotate_left
        · (intro w hSw; (try dsimp only at hSw); go_simp <;> with_reducible rfl)
        try simp only [Act.put, List.setIfInBounds_toArray, List.set_cons_zero, List.set_cons_succ]
        refine wpAnyH_take (i := 1) (oi := { dst := some 44, op := Go.Op.binOp Go.BinOp.eql 9 (Go.Operand.tmp 43) (Go.Operand.const (Go.Value.string { data := #[] })) 9, type := 4, pos := "ref.go:41", after := #[{ on := 0, ground := Go.Ground.data }], guard := none }) (v := ?_) rfl (by kernel_rfl) (by kernel_rfl) (by kernel_rfl) (fun _ _ _ h => h) (Or.inl ⟨by rfl, ?_⟩) (by assumption) ?_
        rotate_left
        · (intro w hSw; (try dsimp only at hSw); go_simp <;> with_reducible rfl)
        try simp only [Act.put, List.setIfInBounds_toArray, List.set_cons_zero, List.set_cons_succ]
        refine wpAnyH_take (i := 2) (oi := { dst := some 45, op := Go.Op.move (Go.Operand.tmp 44), type := 4, pos := "ref.go:41", after := #[{ on := 1, ground := Go.Ground.data }], guard := none }) (v := ?_) rfl (by kernel_rfl) (by kernel_rfl) (by kernel_rfl) (fun _ _ _ h => h) (Or.inl ⟨by rfl, ?_⟩) (by assumption) ?_
        rotate_left
        · (intro w hSw; (try dsimp only at hSw); go_simp <;> with_reducible rfl)
        try simp only [Act.put, List.setIfInBounds_toArray, List.set_cons_zero, List.set_cons_succ]
        refine wpAnyH_take (i := 3) (oi := { dst := some 46, op := Go.Op.move (Go.Operand.tmp 1), type := 4, pos := "ref.go:41", after := #[{ on := 2, ground := Go.Ground.guard }], guard := some (2, false) }) (v := ?_) rfl (by kernel_rfl) (by kernel_rfl) (by kernel_rfl) (fun _ _ _ h => h) (Or.inl ⟨by rfl, ?_⟩) (by assumption) ?_
        rotate_left
        · (intro w hSw; (try dsimp only at hSw); go_simp <;> with_reducible rfl)
        try simp only [Act.put, List.setIfInBounds_toArray, List.set_cons_zero, List.set_cons_succ]
        refine wpAnyH_take (i := 4) (oi := { dst := some 47, op := Go.Op.move (Go.Operand.tmp 13), type := 9, pos := "ref.go:41", after := #[{ on := 2, ground := Go.Ground.guard }], guard := some (2, false) }) (v := ?_) rfl (by kernel_rfl) (by kernel_rfl) (by kernel_rfl) (fun _ _ _ h => h) (Or.inl ⟨by rfl, ?_⟩) (by assumption) ?_
        rotate_left
        · (intro w hSw; (try dsimp only at hSw); go_simp <;> with_reducible rfl)
        try simp only [Act.put, List.setIfInBounds_toArray, List.set_cons_zero, List.set_cons_succ]
        refine wpAnyH_take (i := 6) (oi := { dst := some 49, op := Go.Op.move (Go.Operand.tmp 3), type := 58, pos := "ref.go:41", after := #[{ on := 2, ground := Go.Ground.guard }], guard := some (2, false) }) (v := ?_) rfl (by kernel_rfl) (by kernel_rfl) (by kernel_rfl) (fun _ _ _ h => h) (Or.inl ⟨by rfl, ?_⟩) (by assumption) ?_
        rotate_left
        · (intro w hSw; (try dsimp only at hSw); go_simp <;> with_reducible rfl)
        try simp only [Act.put, List.setIfInBounds_toArray, List.set_cons_zero, List.set_cons_succ]
        refine wpAnyH_take (i := 7) (oi := { dst := some 50, op := Go.Op.move (Go.Operand.tmp 11), type := 3, pos := "ref.go:41", after := #[{ on := 2, ground := Go.Ground.guard }], guard := some (2, false) }) (v := ?_) rfl (by kernel_rfl) (by kernel_rfl) (by kernel_rfl) (fun _ _ _ h => h) (Or.inl ⟨by rfl, ?_⟩) (by assumption) ?_
        rotate_left
        · (intro w hSw; (try dsimp only at hSw); go_simp <;> with_reducible rfl)
        try simp only [Act.put, List.setIfInBounds_toArray, List.set_cons_zero, List.set_cons_succ]
        refine wpAnyH_take (i := 8) (oi := { dst := some 51, op := Go.Op.indexAddr 58 (Go.Operand.tmp 49) (Go.Operand.tmp 50), type := 0, pos := "ref.go:41", after := #[{ on := 6, ground := Go.Ground.data }, { on := 7, ground := Go.Ground.data }, { on := 2, ground := Go.Ground.guard }], guard := some (2, false) }) (v := ?_) rfl (by kernel_rfl) (by kernel_rfl) (by kernel_rfl) (fun _ _ _ h => h) (Or.inl ⟨by rfl, ?_⟩) (by assumption) ?_
        rotate_left
        · (intro w hSw; (try dsimp only at hSw); go_simp <;> with_reducible rfl)
        try simp only [Act.put, List.setIfInBounds_toArray, List.set_cons_zero, List.set_cons_succ]
        refine wpAnyH_take (i := 9) (oi := { dst := some 52, op := Go.Op.load 31 (Go.Operand.tmp 51), type := 31, pos := "ref.go:41", after := #[{ on := 8, ground := Go.Ground.data }, { on := 2, ground := Go.Ground.guard }], guard := some (2, false) }) (v := ?_) rfl (by kernel_rfl) (by kernel_rfl) (by kernel_rfl) (fun _ _ _ h => h) (Or.inl ⟨by rfl, ?_⟩) (by assumption) ?_
        rotate_left
        · (intro w hSw; (try dsimp only at hSw); go_simp <;> with_reducible rfl)
        try simp only [Act.put, List.setIfInBounds_toArray, List.set_cons_zero, List.set_cons_succ]
        refine wpAnyH_ready (rs := [5]) (by kernel_rfl) (by simp) ?_
        refine AllReadyH.cons (o := { dst := some 48, op := Go.Op.call { callee := Go.Callee.value (Go.Operand.func 37), args := #[Go.Operand.tmp 46, Go.Operand.tmp 47], argTypes := #[4, 9] }, type := 31, pos := "ref.go:41", after := #[{ on := 3, ground := Go.Ground.data }, { on := 4, ground := Go.Ground.data }, { on := 2, ground := Go.Ground.chain }, { on := 2, ground := Go.Ground.guard }], guard := some (2, false) }) rfl (fun K hK => ?_) AllReadyH.nil
        (first | (go_at_call 37; (with_reducible refine (refGet_any big P _).mono ?_); rintro e wx ⟨rfl, rfl⟩) | (go_simp; go_at_call 37; (with_reducible refine (refGet_any big P _).mono ?_); rintro e wx ⟨rfl, rfl⟩))
        rw [HG.out]
        try go_wp2_with fail
        refine hK.out _ _ ?_ (fun hHeld2 => ?_)
        · (try dsimp only); go_keep
        clear hK K hHeld
        try simp only [Act.put, List.setIfInBounds_toArray, List.set_cons_zero, List.set_cons_succ]
        refine wpAnyH_take (i := 10) (oi := { dst := some 53, op := Go.Op.binOp Go.BinOp.neq 31 (Go.Operand.tmp 48) (Go.Operand.tmp 52) 31, type := 4, pos := "ref.go:41", after := #[{ on := 5, ground := Go.Ground.data }, { on := 9, ground := Go.Ground.data }, { on := 2, ground := Go.Ground.guard }], guard := some (2, false) }) (v := ?_) rfl (by kernel_rfl) (by kernel_rfl) (by kernel_rfl) (fun _ _ _ h => h) (Or.inl ⟨by rfl, ?_⟩) (by assumption) ?_
        rotate_left
        · (intro w hSw; (try dsimp only at hSw); go_simp <;> with_reducible rfl)
        try simp only [Act.put, List.setIfInBounds_toArray, List.set_cons_zero, List.set_cons_succ]
        refine wpAnyH_take (i := 11) (oi := { dst := some 54, op := Go.Op.pick (Go.Operand.tmp 45) (Go.Operand.const (Go.Value.bool true)) (Go.Operand.tmp 53), type := 4, pos := "ref.go:41", after := #[{ on := 2, ground := Go.Ground.data }, { on := 10, ground := Go.Ground.data }], guard := none }) (v := ?_) rfl (by kernel_rfl) (by kernel_rfl) (by kernel_rfl) (fun _ _ _ h => h) (Or.inl ⟨by rfl, ?_⟩) (by assumption) ?_
        rotate_left
        · (intro w hSw; (try dsimp only at hSw); go_simp <;> with_reducible rfl)
        try simp only [Act.put, List.setIfInBounds_toArray, List.set_cons_zero, List.set_cons_succ]
        refine wpAnyH_done (by kernel_rfl) ?_ _
        clear hHeld2
        go_wp2
        go_roundw
        case rel => exact ⟨k + 1, by omega, by go_num, by rw [HT'.out], hg1.drew⟩
        case measure => simp [intOf]; omega
    · obtain rfl : k = l := by omega
      go_wp2
      go_ret2
      exact ⟨rfl, hg⟩
end Go.Proofs.YtnmklmaclmjfbaaDoor
