/- Contracts of layer 9, relocations. Conditions: those written in each theorem. -/
import Derived.Laws.CopyOwn
import Derived.Laws.Tables
import Derived.Test.YtnmklmaclmjfbaaXD
import Derived.Test.YtnmklmaclmjfbaaXE
import Derived.Test.YtnmklmaclmjfbaaMB
namespace Go.Proofs.Ytnmklmaclmjfbaa
open Go.RowKit
def rP (wide : Bool) : Nat := if wide then 4294967296 else 256
def rQ (wide : Bool) : Nat := if wide then 4294967296 else 16777216
def rNs (a : Bool) (off inf add : Nat) : List Nat := if a then [off, inf, add] else [off, inf]
/-- What becomes of a relocation: its bytes, and whether it may be. -/
def PutIs (big wide a : Bool) (off sym ty add : Nat) (S : ByteArray) (ok : Bool) : Prop :=
  ((rP wide ≤ ty ∨ rQ wide ≤ sym ∨ (a = false ∧ add ≠ 0)) ∧ S = ⟨#[]⟩ ∧ ok = false) ∨
  (ty < rP wide ∧ sym < rQ wide ∧ (a = false → add = 0) ∧ RecIs big wide (rZ a) (rNs a off (sym * rP wide + ty) add) (rN a) (rN a) S ok)
theorem putIs_exists (big wide a : Bool) (off sym ty add : Nat) : ∃ S ok, PutIs big wide a off sym ty add S ok := by
  by_cases h : rP wide ≤ ty ∨ rQ wide ≤ sym ∨ (a = false ∧ add ≠ 0)
  · exact ⟨_, _, .inl ⟨h, rfl, rfl⟩⟩
  · obtain ⟨S, ok, hr⟩ := recIs_exists big wide (rZ a) (rNs a off (sym * rP wide + ty) add) (rN a) (rN a)
    exact ⟨S, ok, .inr ⟨by omega, by omega, fun ha => by
      by_cases h0 : add = 0
      · exact h0
      · exact absurd (.inr (.inr ⟨ha, h0⟩)) h, hr⟩⟩
theorem okAt_r (wide a : Bool) (ns : List Nat) (k : Nat) (hk : k < rN a) : okAt wide (rZ a) ns k ↔ ns.getD k 0 < 256 ^ wordN wide := by
  have h0 : (rZ a).getD k 0 = 0 := by
    cases a
    · match k, hk with
      | 0, _ => rfl
      | 1, _ => rfl
    · match k, hk with
      | 0, _ => rfl
      | 1, _ => rfl
      | 2, _ => rfl
  unfold okAt
  rw [h0]
  have h1 : fullZ wide 0 = (wordN wide : Int) := rfl
  rw [h1, Int.toNat_natCast]
  have h2 : (0 : Int) ≤ (wordN wide : Int) ∧ (wordN wide : Int) ≤ 8 := by cases wide <;> decide
  exact ⟨fun h => h.2.2, fun h => ⟨h2.1, h2.2, h⟩⟩
theorem pq (wide : Bool) (sym ty : Nat) (h1 : ty < rP wide) (h2 : sym < rQ wide) : sym * rP wide + ty < 256 ^ wordN wide := by
  cases wide
  · have e : (256 : Nat) ^ wordN false = 4294967296 := by decide
    rw [e]
    unfold rP rQ at *
    simp only [Bool.false_eq_true, if_false] at *
    omega
  · have e : (256 : Nat) ^ wordN true = 18446744073709551616 := by decide
    rw [e]
    unfold rP rQ at *
    simp only [if_true] at *
    omega
theorem div_is (n m : Nat) (hm : 0 < m) : (((n : Int) / (m : Int)) == 0) = decide (n < m) := by
  rw [← Int.natCast_ediv, Bool.eq_iff_iff, beq_iff_eq, decide_eq_true_iff]
  constructor
  · intro h
    have h0 : n / m = 0 := by exact_mod_cast h
    rcases (Nat.div_eq_zero_iff).1 h0 with h1 | h1
    · omega
    · exact h1
  · intro h
    rw [Nat.div_eq_of_lt h]; rfl
theorem fits_rec {big wide a : Bool} {off inf add : Nat} {S : ByteArray} {ok : Bool} (hi : inf < 256 ^ wordN wide) (ha : a = false → add = 0) (h : RecIs big wide (rZ a) (rNs a off inf add) (rN a) (rN a) S ok) : fitsTo wide [off, add] 2 = ok := by
  have hf : fitsTo wide [off, add] 2 = (decide (off < 256 ^ wordN wide) && decide (add < 256 ^ wordN wide)) := by simp [fitsTo, fitAt]
  have hp : 0 < 256 ^ wordN wide := Nat.pow_pos (by decide)
  rw [hf]
  rcases h with ⟨h, _⟩ | ⟨_, h, _, rfl⟩ | ⟨_, ⟨k0, h1, h2, h3⟩, _, rfl⟩
  · exact absurd rfl h
  · have h0 := (okAt_r wide a _ 0 (by cases a <;> decide)).1 (h 0 (by cases a <;> decide))
    have e0 : (rNs a off inf add).getD 0 0 = off := by cases a <;> rfl
    rw [e0] at h0
    have h2 : add < 256 ^ wordN wide := by
      cases a
      · rw [ha rfl]; exact hp
      · exact (okAt_r wide true _ 2 (by decide)).1 (h 2 (by decide))
    simp [h0, h2]
  · rw [okAt_r wide a _ k0 h1] at h3
    cases a
    · match k0, h1 with
      | 0, _ => have h3 : ¬ off < _ := h3; simp [h3]
      | 1, _ => exact absurd hi h3
    · match k0, h1 with
      | 0, _ => have h3 : ¬ off < _ := h3; simp [h3]
      | 1, _ => exact absurd hi h3
      | 2, _ => have h3 : ¬ add < _ := h3; simp [h3]
theorem dle (n m : Nat) (h : n < m) : decide ((m : Int) ≤ (n : Int)) = false := by rw [decide_eq_false_iff_not]; omega
theorem dge (n m : Nat) (h : m ≤ n) : decide ((m : Int) ≤ (n : Int)) = true := by rw [decide_eq_true_iff]; omega
theorem addne {add : Nat} (h : add ≠ 0) : ((add : Int) != 0) = true := by rw [bne_iff_ne]; omega
theorem rgood_is {big wide a : Bool} {off sym ty add : Nat} {S : ByteArray} {ok : Bool} (h : PutIs big wide a off sym ty add S ok) (hn : off < 2 ^ 64 ∧ add < 2 ^ 64) (w : World) :
    Calls Try.prog 81 #[.agg #[.int .u64 (off : Nat), .int .u64 (sym : Nat), .int .u64 (ty : Nat), .int .u64 (add : Nat)], .agg #[.bool big, .bool wide], .bool a] w fun e w' => e = .returned (.bool ok) ∧ Below w.heap.size w w' := by
  have h64 : ∀ n ∈ [off, add], n < 2 ^ 64 := by
    intro n hm
    simp only [List.mem_cons, List.not_mem_nil, or_false] at hm
    rcases hm with rfl | rfl
    · exact hn.1
    · exact hn.2
  have b2 := div_is ty (rP wide) (by cases wide <;> decide)
  have b3 := div_is sym (rQ wide) (by cases wide <;> decide)
  have hres : (((a || !((add : Int) != 0)) && (fitsTo wide [off, add] 2 && decide (ty < rP wide) && decide (sym < rQ wide))) = ok) := by
    rcases h with ⟨h, _, rfl⟩ | ⟨h1, h2, h3, h4⟩
    · rcases h with h | h | ⟨rfl, h⟩
      · simp [Nat.not_lt.2 h]
      · simp [Nat.not_lt.2 h]
      · simp [addne h]
    · rw [fits_rec (pq wide sym ty h1 h2) h3 h4]
      cases a
      · simp [h1, h2, h3 rfl]
      · simp [h1, h2]
  clear h
  cases wide
  · cases a
    · have := rgood_Ff big off sym ty add h64 w _ _ _ rfl b2 b3 _ rfl
      rw [← hres]
      simpa using this
    · have := rgood_Tf big off sym ty add h64 w _ _ _ rfl b2 b3
      rw [← hres]
      simpa using this
  · cases a
    · have := rgood_Ft big off sym ty add h64 w _ _ _ rfl b2 b3 _ rfl
      rw [← hres]
      simpa using this
    · have := rgood_Tt big off sym ty add h64 w _ _ _ rfl b2 b3
      rw [← hres]
      simpa using this
theorem rput_is {big wide a : Bool} {off sym ty add : Nat} {S : ByteArray} {ok : Bool} (h : PutIs big wide a off sym ty add S ok) (hn : off < 2 ^ 64 ∧ add < 2 ^ 64) (w : World) :
    Calls Try.prog 40 #[.agg #[.bool big, .bool wide], .bool a, .agg #[.int .u64 (off : Nat), .int .u64 (sym : Nat), .int .u64 (ty : Nat), .int .u64 (add : Nat)]] w fun e w' => e = .returned (.tuple #[.string S, .bool ok]) ∧ Below w.heap.size w w' := by
  have hg := fun w => rgood_is h hn w
  cases ok
  · have hS : S = ⟨#[]⟩ := by
      rcases h with ⟨_, h, _⟩ | ⟨_, _, _, h⟩
      · exact h
      · exact recIs_no h
    subst hS
    cases wide <;> cases a
    · exact rput_no_Ff big off sym ty add hg w
    · exact rput_no_Tf big off sym ty add hg w
    · exact rput_no_Ft big off sym ty add hg w
    · exact rput_no_Tt big off sym ty add hg w
  · rcases h with ⟨_, _, h⟩ | ⟨h1, h2, h3, h4⟩
    · cases h
    · have hi := pq wide sym ty h1 h2
      have hle : 256 ^ wordN wide ≤ 2 ^ 64 := by cases wide <;> decide
      have h64 : ∀ n ∈ [off, sym * rP wide + ty, add], n < 2 ^ 64 := by
        intro n hm
        simp only [List.mem_cons, List.not_mem_nil, or_false] at hm
        rcases hm with rfl | rfl | rfl
        · exact hn.1
        · omega
        · exact hn.2
      have hle2 := h64 (sym * rP wide + ty) (by simp)
      cases wide
      · have hin := info_or 8 sym ty h1 hle2
        cases a
        · exact rput_yes_Ff big off sym ty add S true _ hin h64 h4 hg w
        · exact rput_yes_Tf big off sym ty add S true _ hin h64 h4 hg w
      · have hin := info_or 32 sym ty h1 hle2
        cases a
        · exact rput_yes_Ft big off sym ty add S true _ hin h64 h4 hg w
        · exact rput_yes_Tt big off sym ty add S true _ hin h64 h4 hg w
end Go.Proofs.Ytnmklmaclmjfbaa
