/- Contracts of class.Read. Conditions: those written in each theorem. -/
import Derived.Test.YtnmklmaclmjfbaaProg
import Derived.WalkKit
import Derived.WalkLawsBesides
import Derived.WalkSpells
import Derived.Outline
import Derived.Lib.Hide
import Derived.BigQuiet
import Derived.RegionTactic
import Derived.ChangeAlike
import Derived.Deep.QuietTactic
import Derived.Deep.RegionHeld3
namespace Go.Proofs.Ytnmklmaclmjfbaa
open Go.RowKit
/-- Whether the four bytes with which a file begins are the right ones. -/
def isMagic (s : ByteArray) : Bool := (s.extract 0 4).toList == [127, 69, 76, 70]
theorem hp_any (s : ByteArray) (w : World) (h : 16 ≤ s.size) (hm : s.size ≤ maxLen) :
    Calls Try.prog 84 #[.string s, .string ⟨#[127, 69, 76, 70]⟩] w fun e w' => e = .returned (.bool (isMagic s)) ∧ w = w' := by
  unfold maxLen at hm
  have hi : (16 : Int) ≤ s.size := by omega
  go_enter Try.func84, Try.ntmps84
  go_wp2
  go_ret
  exact ⟨rfl, rfl⟩
theorem hp_is (b : Bool) (s : ByteArray) (w : World) (h : 16 ≤ s.size) (hm : s.size ≤ maxLen) (hb : isMagic s = b) :
    Calls Try.prog 84 #[.string s, .string ⟨#[127, 69, 76, 70]⟩] w fun e w' => e = .returned (.bool b) ∧ w = w' := by
  have := hp_any s w h hm
  rwa [hb] at this
/-- What Read answers with an error. -/
def noIdent (n : Int) : Value := .tuple #[.agg #[.bool false, .bool false, .int .u8 0, .int .u8 0, .string ⟨#[]⟩], .int .i64 n]
theorem read_short (s : ByteArray) (w : World) (h : s.size < 16) :
    Calls Try.prog 41 #[.string s] w fun e w' => e = .returned (noIdent 3) ∧ Below w.heap.size w w' := by
  have hi : (s.size : Int) < 16 := by omega
  go_enter Try.func41, Try.ntmps41
  go_wp2
  exact bodyPost_ret (v := noIdent 3) (by simp [results, Try.results41, go_sem, noIdent]) rfl ⟨rfl, by
    exact (Below.refl _ _).alloc (Nat.le_refl _) _⟩
theorem read_magic (s : ByteArray) (w : World) (h : 16 ≤ s.size) (hm : s.size ≤ maxLen) (hb : isMagic s = false) :
    Calls Try.prog 41 #[.string s] w fun e w' => e = .returned (noIdent 4) ∧ Below w.heap.size w w' := by
  have hi : ¬ (s.size : Int) < 16 := by omega
  go_enter Try.func41, Try.ntmps41
  go_wp2_with (go_at_call 84; refine (hp_is false _ _ h hm hb).mono ?_; rintro e w' ⟨rfl, rfl⟩)
  exact bodyPost_ret (v := noIdent 4) (by simp [results, Try.results41, go_sem, noIdent]) rfl ⟨rfl, (Below.refl _ _).alloc (Nat.le_refl _) _⟩
theorem read_class (s : ByteArray) (w : World) (h : 16 ≤ s.size) (hm : s.size ≤ maxLen) (hb : isMagic s = true)
    (h4 : ((s[4].toNat : Int) != 1) = true) (h4' : ((s[4].toNat : Int) != 2) = true) :
    Calls Try.prog 41 #[.string s] w fun e w' => e = .returned (noIdent 5) ∧ Below w.heap.size w w' := by
  have hi : ¬ (s.size : Int) < 16 := by omega
  have hi4 : (4 : Int) < s.size := by omega
  go_enter Try.func41, Try.ntmps41
  go_wp2_with (go_at_call 84; refine (hp_is true _ _ h hm hb).mono ?_; rintro e w' ⟨rfl, rfl⟩)
  exact bodyPost_ret (v := noIdent 5) (by simp [results, Try.results41, go_sem, noIdent]) rfl ⟨rfl, (Below.refl _ _).alloc (Nat.le_refl _) _⟩
theorem read_data (s : ByteArray) (w : World) (h : 16 ≤ s.size) (hm : s.size ≤ maxLen) (hb : isMagic s = true)
    (h4 : s[4].toNat = 1 ∨ s[4].toNat = 2)
    (h5 : ((s[5].toNat : Int) != 1) = true) (h5' : ((s[5].toNat : Int) != 2) = true) :
    Calls Try.prog 41 #[.string s] w fun e w' => e = .returned (noIdent 6) ∧ Below w.heap.size w w' := by
  have hi : ¬ (s.size : Int) < 16 := by omega
  have hi4 : (4 : Int) < s.size := by omega
  have hi4 : (5 : Int) < s.size := by omega
  have hq : ((s[4].toNat : Int) != 1) = false ∨ ((s[4].toNat : Int) != 1) = true ∧ ((s[4].toNat : Int) != 2) = false := by simp; omega
  clear h4
  rcases hq with hq | ⟨hq, hq2⟩
  all_goals
    go_enter Try.func41, Try.ntmps41
    go_wp2_with (go_at_call 84; refine (hp_is true _ _ h hm hb).mono ?_; rintro e w' ⟨rfl, rfl⟩)
    exact bodyPost_ret (v := noIdent 6) (by simp [results, Try.results41, go_sem, noIdent]) rfl ⟨rfl, (Below.refl _ _).alloc (Nat.le_refl _) _⟩
theorem read_version (s : ByteArray) (w : World) (h : 16 ≤ s.size) (hm : s.size ≤ maxLen) (hb : isMagic s = true)
    (h4 : s[4].toNat = 1 ∨ s[4].toNat = 2) (h5 : s[5].toNat = 1 ∨ s[5].toNat = 2) (h6 : ((s[6].toNat : Int) != 1) = true) :
    Calls Try.prog 41 #[.string s] w fun e w' => e = .returned (noIdent 7) ∧ Below w.heap.size w w' := by
  have hi : ¬ (s.size : Int) < 16 := by omega
  have hi4 : (4 : Int) < s.size := by omega
  have hi4 : (5 : Int) < s.size := by omega
  have hi4 : (6 : Int) < s.size := by omega
  have hq : ((s[4].toNat : Int) != 1) = false ∨ ((s[4].toNat : Int) != 1) = true ∧ ((s[4].toNat : Int) != 2) = false := by simp; omega
  have hr : ((s[5].toNat : Int) != 1) = false ∨ ((s[5].toNat : Int) != 1) = true ∧ ((s[5].toNat : Int) != 2) = false := by simp; omega
  clear h4 h5
  rcases hq with hq | ⟨hq, hq2⟩ <;> rcases hr with hr | ⟨hr, hr2⟩
  all_goals
    go_enter Try.func41, Try.ntmps41
    go_wp2_with (go_at_call 84; refine (hp_is true _ _ h hm hb).mono ?_; rintro e w' ⟨rfl, rfl⟩)
    exact bodyPost_ret (v := noIdent 7) (by simp [results, Try.results41, go_sem, noIdent]) rfl ⟨rfl, (Below.refl _ _).alloc (Nat.le_refl _) _⟩
/-- What Read answers without an error. -/
def okIdent (big wide : Bool) (abi ver : Nat) (pad : ByteArray) : Value := .tuple #[.agg #[.bool big, .bool wide, .int .u8 abi, .int .u8 ver, .string pad], .int .i64 0]
set_option maxHeartbeats 1000000 in
theorem read_ok (s : ByteArray) (w : World) (h : 16 ≤ s.size) (hm : s.size ≤ maxLen) (hb : isMagic s = true)
    (h4 : s[4].toNat = 1 ∨ s[4].toNat = 2) (h5 : s[5].toNat = 1 ∨ s[5].toNat = 2) (h6 : ((s[6].toNat : Int) != 1) = false) :
    Calls Try.prog 41 #[.string s] w fun e w' => e = .returned (okIdent ((s[5].toNat : Int) == 2) ((s[4].toNat : Int) == 2) s[7].toNat s[8].toNat (s.extract 9 16)) ∧ Below w.heap.size w w' := by
  have hi : ¬ (s.size : Int) < 16 := by omega
  have hi4 : (4 : Int) < s.size := by omega
  have hi5 : (5 : Int) < s.size := by omega
  have hi6 : (6 : Int) < s.size := by omega
  have hi7 : (7 : Int) < s.size := by omega
  have hi8 : (8 : Int) < s.size := by omega
  have hi9 : (16 : Int) ≤ s.size := by omega
  have hq : ((s[4].toNat : Int) != 1) = false ∧ ((s[4].toNat : Int) == 2) = false ∨ ((s[4].toNat : Int) != 1) = true ∧ ((s[4].toNat : Int) != 2) = false ∧ ((s[4].toNat : Int) == 2) = true := by simp; omega
  have hr : ((s[5].toNat : Int) != 1) = false ∧ ((s[5].toNat : Int) == 2) = false ∨ ((s[5].toNat : Int) != 1) = true ∧ ((s[5].toNat : Int) != 2) = false ∧ ((s[5].toNat : Int) == 2) = true := by simp; omega
  clear h4 h5
  rcases hq with ⟨hq, hqe⟩ | ⟨hq, hq2, hqe⟩ <;> rcases hr with ⟨hr, hre⟩ | ⟨hr, hr2, hre⟩
  all_goals
    rw [hqe, hre]
    go_enter Try.func41, Try.ntmps41
    go_wp2_with (go_at_call 84; refine (hp_is true _ _ h hm hb).mono ?_; rintro e w' ⟨rfl, rfl⟩)
    go_region
    go_wp2
    go_region
    go_wp2
    first
      | exact bodyPost_ret (v := okIdent false false s[7].toNat s[8].toNat (s.extract 9 16)) (by simp [results, Try.results41, go_sem, okIdent]) rfl ⟨rfl, (((Below.refl _ _).alloc (Nat.le_refl _) _).alloc (by simp) _).drew.drew⟩
      | exact bodyPost_ret (v := okIdent false true s[7].toNat s[8].toNat (s.extract 9 16)) (by simp [results, Try.results41, go_sem, okIdent]) rfl ⟨rfl, (((Below.refl _ _).alloc (Nat.le_refl _) _).alloc (by simp) _).drew.drew⟩
      | exact bodyPost_ret (v := okIdent true false s[7].toNat s[8].toNat (s.extract 9 16)) (by simp [results, Try.results41, go_sem, okIdent]) rfl ⟨rfl, (((Below.refl _ _).alloc (Nat.le_refl _) _).alloc (by simp) _).drew.drew⟩
      | exact bodyPost_ret (v := okIdent true true s[7].toNat s[8].toNat (s.extract 9 16)) (by simp [results, Try.results41, go_sem, okIdent]) rfl ⟨rfl, (((Below.refl _ _).alloc (Nat.le_refl _) _).alloc (by simp) _).drew.drew⟩
end Go.Proofs.Ytnmklmaclmjfbaa
