/- Memory for StrtabAgain: rows of strings of the call's own that grow, and what Build makes of them. Conditions: those written in each theorem. -/
import Derived.Test.YtddlflabdlgnbaaWP
import Derived.Test.YtddlflabdlgnbaaWJ
import Derived.Laws.OwnMore
namespace Go.Proofs.Ytddlflabdlgnbaa
open Go.RowKit Go.Sort Go.Maps Go.Shelf
theorem own_kept {w w' : World} {B e size n : Nat} {v : Value} {xs : List Value} (h : w.ownsRow B e size v n xs) (hb : Below w.heap.size w w') : w'.ownsRow B e size v n xs := by
  refine ⟨h.1, ?_⟩
  rcases h.2 with h1 | ⟨g, cap, cur, h1, h2, h3, h4⟩
  · exact .inl h1
  · have hlt := (Array.getElem?_eq_some_iff.1 h3).1
    exact .inr ⟨g, cap, cur, h1, h2, by rw [hb.block g hlt]; exact h3, h4⟩
theorem own_base {w : World} {B e size n : Nat} {v : Value} {xs : List Value} (h : w.ownsRow B e size v n xs) : ∀ k, v.ownBlock = some k → B ≤ k := fun k hk => by
  rcases h.2 with ⟨rfl, _⟩ | ⟨g, cap, cur, rfl, h2, _⟩
  · cases hk
  · cases hk; exact h2
theorem own_rowO {w : World} {base n : Nat} {v : Value} {S : Nat → ByteArray} (h : w.ownsRow base 9 1 v n (strsL S n)) : ∃ A c, v = .slice A n c ∧ RowO w A (namesL S n) := by
  by_cases hv : v = .slice none 0 0
  · subst hv
    rcases h.2 with ⟨_, rfl⟩ | ⟨g, cap, cur, h1, _⟩
    · exact ⟨none, 0, rfl, fun i hi => by rw [namesL_len] at hi; omega⟩
    · cases h1
  · obtain ⟨g, c, rfl, _, hg⟩ := own_form h hv
    exact ⟨_, c, rfl, rowO_of_rowS (rowB_of_own h hg).rowS⟩
/-- A row of strings and one more. -/
def snocS (S : Nat → ByteArray) (m : Nat) (z : ByteArray) (i : Nat) : ByteArray := if i < m then S i else z
theorem strsL_snoc (S : Nat → ByteArray) (m : Nat) (z : ByteArray) : strsL S m ++ [.string z] = strsL (snocS S m z) (m + 1) := by
  unfold strsL
  rw [List.range_succ, List.map_append, List.map_singleton]
  congr 1
  · refine List.map_congr_left fun i hi => ?_
    have := List.mem_range.1 hi
    simp [snocS, this]
  · simp [snocS]
theorem namesL_snoc (S : Nat → ByteArray) (m : Nat) (z : ByteArray) : namesL (snocS S m z) (m + 1) = namesL S m ++ [z.toList] := by
  unfold namesL
  rw [List.range_succ, List.map_append, List.map_singleton]
  congr 1
  · refine List.map_congr_left fun i hi => ?_
    have := List.mem_range.1 hi
    simp [snocS, this]
  · simp [snocS]
/-- The names appended to an empty row of the call's own. -/
theorem app_names {o : Oper} {ac : Act} {K : Act → World → Prop} {Q : Exit → Act → World → Prop} {W0 u : World} (s x : Operand) (ho : o.op = .call { callee := .builtin .append, args := #[s, x], argTypes := #[22, 22] })
    (base : Nat) (v : Value) (hs : ac.eval s = v) (hown : u.ownsRow base 9 1 v 0 []) (hbase : base ≤ u.heap.size) (hB : Below W0.heap.size W0 u) (h0 : W0.heap.size ≤ base)
    (A : Option Addr) (m cap : Nat) (S : Nat → ByteArray) (hm : m ≤ 15) (hx : ac.eval x = .slice A m cap) (hc : (A = none ∧ m = 0 ∧ cap = 0) ∨ ∃ y, A = some y ∧ ∀ j, j < m → u.cell? (y.add j) = some (.string (S j)))
    (h : ∀ v' u', u'.ownsRow base 9 1 v' m (strsL S m) → Below W0.heap.size W0 u' → (∀ p : Addr, p.block < u.heap.size → v.ownBlock ≠ some p.block → u'.cell? p = u.cell? p) → u.heap.size ≤ u'.heap.size → K (ac.put o.dst v') u') : o.wp Try.prog ac u K Q := by
  obtain ⟨i0, hi, hz0, hz1, hz2⟩ := info_parts info9
  rcases hc with ⟨rfl, rfl, rfl⟩ | ⟨y, rfl, hc⟩
  · have hr := run_append_owned_none (P := Try.prog) (w := u) base 22 o.type 9 i0 1 Try.underlying22 hi v 0 [] hown
    unfold Oper.wp execOp
    simp only [ho, resolve, invoke, builtin, Sem.run_bind, Sem.run_pure, Result.andThen_ok, List.map_toArray, List.map_cons, List.map_nil, hs, hx, hr]
    exact h v u hown hB (fun p _ _ => rfl) (Nat.le_refl _)
  · refine wp_append_own u s x 22 ho base 9 i0 (.string ⟨#[]⟩) 1 16 Try.underlying22 hi hz0 hz1 hz2 rfl (by decide) v 0 [] hs hown y m cap (strsL S m) hx (by simp [strsL]) (fun j z hj => ?_) (fun z hz => ?_) (by unfold maxLen; omega) (by omega) hbase (fun v' u' hown' hg _ => ?_)
    · obtain ⟨hj', rfl⟩ := strsL_at S m j z hj
      exact hc j hj'
    · simp only [strsL, List.mem_map] at hz
      obtain ⟨i, _, rfl⟩ := hz
      rfl
    · rw [Nat.zero_add, List.nil_append] at hown'
      exact h v' u' hown' (hB.grown hg (by omega) (fun k hk => Nat.le_trans h0 (own_base hown k hk))) (fun p hp hne => World.cell?_of_block (hg.block _ hp (fun e => hne e.symm))) hg.size
/-- One more. -/
theorem app_one {o : Oper} {ac : Act} {K : Act → World → Prop} {Q : Exit → Act → World → Prop} {W0 u : World} (s x : Operand) (ho : o.op = .call { callee := .builtin .append, args := #[s, x], argTypes := #[22, 22] })
    (base m : Nat) (v : Value) (S : Nat → ByteArray) (hm : m ≤ 15) (hs : ac.eval s = v) (hown : u.ownsRow base 9 1 v m (strsL S m)) (hbase : base ≤ u.heap.size) (hB : Below W0.heap.size W0 u) (h0 : W0.heap.size ≤ base)
    (y : Addr) (z : ByteArray) (hx : ac.eval x = .slice (some y) 1 1) (hc : u.cell? (y.add 0) = some (.string z))
    (h : ∀ A c u', RowO u' A (namesL (snocS S m z) (m + 1)) → Below W0.heap.size W0 u' → K (ac.put o.dst (.slice A (m + 1) c)) u') : o.wp Try.prog ac u K Q := by
  obtain ⟨i0, hi, hz0, hz1, hz2⟩ := info_parts info9
  refine wp_append_own u s x 22 ho base 9 i0 (.string ⟨#[]⟩) 1 16 Try.underlying22 hi hz0 hz1 hz2 rfl (by decide) v m (strsL S m) hs hown y 1 1 [.string z] hx rfl (fun j q hj => ?_) (fun q hq => ?_) (by unfold maxLen; omega) (by omega) hbase (fun v' u' hown' hg _ => ?_)
  · cases j with
    | zero => simp at hj; subst hj; exact hc
    | succ j => simp at hj
  · rw [List.mem_singleton] at hq; subst hq; rfl
  · rw [strsL_snoc] at hown'
    obtain ⟨A, c, rfl, hr⟩ := own_rowO hown'
    exact h A c u' hr (hB.grown hg (by omega) (fun k hk => Nat.le_trans h0 (own_base hown k hk)))
/-- Build of the names and one more: refused, or a table at least as long. -/
theorem build_last (S : Nat → ByteArray) (m : Nat) (z : ByteArray) (hm : m ≤ 15) (hS : ∀ i, i < m → (S i).size ≤ 1048576) (hz : z.size ≤ 20) (k : Nat) (hk : (tabN (namesL S m)).length = k) (hk3 : k ≤ 3000) (A : Option Addr) (c : Nat) (u : World) (hr : RowO u A (namesL (snocS S m z) (m + 1))) :
    Calls Try.prog 13 #[.slice A (m + 1) c] u fun e u' => Below u.heap.size u u' ∧ ∃ (V : ByteArray) (sl : Value) (g : Int), e = .returned (.tuple #[.string V, sl, .int .i64 g]) ∧ (g = 12 ∨ g = 0 ∧ k ≤ V.size) := by
  have hok := namesL_ok (snocS S m z) (m + 1) 1048576 (by omega) (by omega) (fun i hi => by
    unfold snocS
    split
    · exact hS i ‹_›
    · omega)
  have hb := build_opt A c _ hok u hr
  rw [namesL_len] at hb
  refine hb.mono ?_
  rintro e u' ⟨hb, ⟨_, rfl⟩ | ⟨_, hbig, rfl⟩ | ⟨_, hsz, g, _, rfl, _⟩⟩
  · exact ⟨hb, _, _, _, rfl, .inl rfl⟩
  · exfalso
    rw [sizeN, namesL_snoc] at hbig
    have := tab_snoc (namesL S m) z.toList
    rw [toList_len] at this
    omega
  · refine ⟨hb, _, _, _, rfl, .inr ⟨rfl, ?_⟩⟩
    rw [ba_size, namesL_snoc, ← hk]
    exact tab_le (fun y hy _ => ⟨y, List.mem_append_left _ hy, List.suffix_refl y⟩)
end Go.Proofs.Ytddlflabdlgnbaa
