/- Contracts of layer 9, relocations. Conditions: those written in each theorem. -/
import Derived.Laws.CopyOwn
import Derived.Laws.Tables
import Derived.Test.YtddlflabdlgnbaaXI
import Derived.Test.YtddlflabdlgnbaaXJ
namespace Go.Proofs.Ytddlflabdlgnbaa
open Go.RowKit
def rNum (big wide a : Bool) (s : List UInt8) (j : Nat) : Nat := numAt big (fullL wide (rZ a) (rN a)) s j
/-- The numbers of a relocation that is read. -/
def rOff (big wide a : Bool) (s : List UInt8) : Nat := rNum big wide a s 0
def rSym (big wide a : Bool) (s : List UInt8) : Nat := rNum big wide a s 1 / rP wide
def rTy (big wide a : Bool) (s : List UInt8) : Nat := rNum big wide a s 1 % rP wide
def rAdd (big wide a : Bool) (s : List UInt8) : Nat := if a then rNum big wide a s 2 else 0
theorem rNum_lt (big wide a : Bool) (s : List UInt8) (j : Nat) (hj : j < rN a) : rNum big wide a s j < 256 ^ wordN wide := by
  have h := numAt_lt big (fullL wide (rZ a) (rN a)) s j (full_ok (rZ_ok wide a) j hj).2
  rw [fullL_getD wide (rZ a) (rN a) j hj] at h
  have e : (fullZ wide ((rZ a).getD j 0)).toNat = wordN wide := by
    have h0 : (rZ a).getD j 0 = 0 := by
      cases a
      · match j, hj with
        | 0, _ => rfl
        | 1, _ => rfl
      · match j, hj with
        | 0, _ => rfl
        | 1, _ => rfl
        | 2, _ => rfl
    rw [h0]; rfl
  rw [e] at h
  exact h
theorem pow_64 (wide : Bool) : 256 ^ wordN wide ≤ 2 ^ 64 := by cases wide <;> decide
theorem rOff_64 (big wide a : Bool) (s : List UInt8) : rOff big wide a s < 2 ^ 64 := Nat.lt_of_lt_of_le (rNum_lt big wide a s 0 (by cases a <;> decide)) (pow_64 wide)
theorem rAdd_64 (big wide a : Bool) (s : List UInt8) : rAdd big wide a s < 2 ^ 64 := by
  cases a
  · show 0 < _; decide
  · exact Nat.lt_of_lt_of_le (rNum_lt big wide true s 2 (by decide)) (pow_64 wide)
/-- A relocation that is read may be: it is the bytes that it was read from. -/
theorem putIs_back (big wide a : Bool) (s : ByteArray) (h : rLen wide a ≤ s.size) : PutIs big wide a (rOff big wide a s.data.toList) (rSym big wide a s.data.toList) (rTy big wide a s.data.toList) (rAdd big wide a s.data.toList) (s.extract 0 (rLen wide a)) true := by
  have hp : 0 < rP wide := by cases wide <;> decide
  have hn1 := rNum_lt big wide a s.data.toList 1 (by cases a <;> decide)
  have hpq : 256 ^ wordN wide = rP wide * rQ wide := by cases wide <;> decide
  refine .inr ⟨Nat.mod_lt _ hp, ?_, fun ha => by subst ha; rfl, ?_⟩
  · unfold rSym
    rw [Nat.div_lt_iff_lt_mul hp, Nat.mul_comm, ← hpq]
    exact hn1
  · have e : rSym big wide a s.data.toList * rP wide + rTy big wide a s.data.toList = rNum big wide a s.data.toList 1 := by
      unfold rSym rTy
      rw [Nat.mul_comm]
      exact Nat.div_add_mod _ _
    rw [e]
    have h2 := recIs_back (big := big) (wide := wide) (zs := rZ a) (ns := rNs a (rOff big wide a s.data.toList) (rNum big wide a s.data.toList 1) (rAdd big wide a s.data.toList)) (l := rN a) s (rZ_ok wide a) (by rw [r_off]; exact h) (fun k hk => by
      cases a
      · match k, hk with
        | 0, _ => rfl
        | 1, _ => rfl
      · match k, hk with
        | 0, _ => rfl
        | 1, _ => rfl
        | 2, _ => rfl)
    rw [r_off] at h2
    exact h2
theorem and_mod (n k : Nat) (hn : n < 2 ^ 64) (hk : k < 64) : bits .and .u64 (n : Int) ((2 ^ k - 1 : Nat) : Int) = ((n % 2 ^ k : Nat) : Int) := by
  rw [u64_and_nat n (2 ^ k - 1) hn (by have := Nat.pow_lt_pow_right (a := 2) (by decide) hk; omega), Nat.and_two_pow_sub_one_eq_mod]
theorem rread_is (big wide a : Bool) (s : ByteArray) (hs : s.size ≤ 1000) (h : rLen wide a ≤ s.size) (w : World) :
    Calls Try.prog 26 #[.agg #[.bool big, .bool wide], .bool a, .string s] w fun e w' => e = .returned (.tuple #[.agg #[.int .u64 (rOff big wide a s.data.toList : Nat), .int .u64 (rSym big wide a s.data.toList : Nat), .int .u64 (rTy big wide a s.data.toList : Nat), .int .u64 (rAdd big wide a s.data.toList : Nat)], .bool true]) ∧ Below w.heap.size w w' := by
  have hlen : offN (fullL wide (rZ a) (rN a)) (rN a) ≤ s.size := by rw [r_off]; exact h
  have h64 : rNum big wide a s.data.toList 1 < 2 ^ 64 := Nat.lt_of_lt_of_le (rNum_lt big wide a s.data.toList 1 (by cases a <;> decide)) (pow_64 wide)
  have hsh : ((rNum big wide a s.data.toList 1 : Nat) : Int) / (rP wide : Nat) = ((rSym big wide a s.data.toList : Nat) : Int) := by rw [← Int.natCast_ediv]; rfl
  cases wide
  · have han := and_mod (rNum big false a s.data.toList 1) 8 h64 (by decide)
    cases a
    · exact rread_yes_Ff big s _ _ _ _ hs hlen (fun j hj => by
        match j, hj with
        | 0, _ => rfl
        | 1, _ => rfl) hsh han w
    · exact rread_yes_Tf big s _ _ _ _ _ hs hlen (fun j hj => by
        match j, hj with
        | 0, _ => rfl
        | 1, _ => rfl
        | 2, _ => rfl) hsh han w
  · have han := and_mod (rNum big true a s.data.toList 1) 32 h64 (by decide)
    cases a
    · exact rread_yes_Ft big s _ _ _ _ hs hlen (fun j hj => by
        match j, hj with
        | 0, _ => rfl
        | 1, _ => rfl) hsh han w
    · exact rread_yes_Tt big s _ _ _ _ _ hs hlen (fun j hj => by
        match j, hj with
        | 0, _ => rfl
        | 1, _ => rfl
        | 2, _ => rfl) hsh han w
theorem rread_none (big wide a : Bool) (s : ByteArray) (hs : s.size ≤ 1000) (h : s.size < rLen wide a) (w : World) :
    Calls Try.prog 26 #[.agg #[.bool big, .bool wide], .bool a, .string s] w fun e w' => e = .returned (.tuple #[.agg #[.int .u64 0, .int .u64 0, .int .u64 0, .int .u64 0], .bool false]) ∧ Below w.heap.size w w' := by
  have hlen : s.size < offN (fullL wide (rZ a) (rN a)) (rN a) := by rw [r_off]; exact h
  cases wide <;> cases a
  · exact rread_no_Ff big s hs hlen w
  · exact rread_no_Tf big s hs hlen w
  · exact rread_no_Ft big s hs hlen w
  · exact rread_no_Tt big s hs hlen w
end Go.Proofs.Ytddlflabdlgnbaa
