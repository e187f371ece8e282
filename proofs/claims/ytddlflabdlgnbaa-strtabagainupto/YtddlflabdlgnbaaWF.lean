/- Memory and plain facts for the laws of layer 3: names that are cut, and what Build makes of names. Conditions: those written in each theorem. -/
import Derived.Test.YtddlflabdlgnbaaWE
import Derived.Test.YtddlflabdlgnbaaUS
import Derived.Maps.AppendAt
import Derived.OwnWalk
import Derived.StillTailTactics
import Derived.Deep.CutBlock
import Derived.Deep.DeepCutAuto
namespace Go.Proofs.Ytddlflabdlgnbaa
open Go.RowKit Go.Sort Go.Maps Go.Shelf
theorem below_mk {w w' : World} (h : Below w.heap.size w w') (o : Obj) : Below w.heap.size w (w'.alloc o) := h.alloc h.size o
theorem info9 : (Try.prog.info? 9).map (fun i => (i.zero, i.size, i.bytes)) = some (some (.string ⟨#[]⟩), 1, 16) := by kernel_rfl
theorem own_empty (w : World) : (w.alloc (.cells #[] 9)).ownsRow w.heap.size 9 1 (.slice (some ⟨w.heap.size, 0, none⟩) 0 0) 0 [] :=
  ⟨rfl, .inr ⟨w.heap.size, 0, #[], rfl, Nat.le_refl _, heap_alloc_new _ _, Nat.le_refl _, by unfold maxLen; omega, rfl, rfl⟩⟩
theorem own_form {w : World} {base : Nat} {v : Value} {n : Nat} {xs : List Value} (h : w.ownsRow base 9 1 v n xs) (hn : v ≠ .slice none 0 0) : ∃ g c, v = .slice (some ⟨g, 0, none⟩) n c ∧ base ≤ g ∧ g < w.heap.size := by
  rcases h.2 with ⟨hv, _⟩ | ⟨g, cap, cur, hv, hb, hh, _⟩
  · exact absurd hv hn
  · exact ⟨g, cap, hv, hb, (Array.getElem?_eq_some_iff.1 hh).1⟩
def strsL (S : Nat → ByteArray) (m : Nat) : List Value := (List.range m).map fun i => Value.string (S i)
theorem strsL_at (S : Nat → ByteArray) (m j : Nat) (u : Value) (h : (strsL S m)[j]? = some u) : j < m ∧ u = .string (S j) := by
  unfold strsL at h
  rw [List.getElem?_map] at h
  rcases Nat.lt_or_ge j m with h1 | h1
  · rw [List.getElem?_range h1] at h
    exact ⟨h1, by simpa using h.symm⟩
  · rw [List.getElem?_eq_none (by simpa using h1)] at h; cases h
def cutS (n : Nat) (S : Nat → ByteArray) (i : Nat) : ByteArray := (S i).extract 0 (min (S i).size n)
theorem cutS_size (n : Nat) (S : Nat → ByteArray) (i : Nat) : (cutS n S i).size ≤ n := by unfold cutS; simp; omega
def hasZ (s : ByteArray) (k : Nat) : Bool := (s.data.toList.take k).any (· == 0)
def badTo (S : Nat → ByteArray) (k : Nat) : Bool := (List.range k).any fun i => hasZ (S i) (S i).size
theorem badTo_succ (S : Nat → ByteArray) (k : Nat) : badTo S (k + 1) = (badTo S k || hasZ (S k) (S k).size) := by
  unfold badTo
  rw [List.range_succ, List.any_append]
  simp
theorem hasZ_succ (s : ByteArray) (k : Nat) (h : k < s.size) : hasZ s (k + 1) = (hasZ s k || ((s[k].toNat : Int) == 0)) := by
  unfold hasZ
  rw [take_snoc s.data.toList k (by simpa using h), List.any_append]
  congr 1
  show ((s.data.toList[k] == 0) || false) = _
  rw [Bool.or_false]
  show (s[k] == 0) = _
  rw [Bool.eq_iff_iff, beq_iff_eq, beq_iff_eq, ← UInt8.toNat_inj]
  show s[k].toNat = 0 ↔ _
  omega
theorem hasZ_bad (s : ByteArray) : hasZ s s.size = true ↔ Bad s.toList := by
  have e : s.data.toList.take s.size = s.toList := by rw [ByteArray.toList_eq, List.take_of_length_le (by simp)]
  unfold hasZ
  rw [e]
  have : ∀ l : List UInt8, l.any (· == 0) = true ↔ Bad l := by
    intro l
    unfold Bad
    induction l with
    | nil => simp [Zero.z]
    | cons a l ih =>
      by_cases ha : a = 0
      · subst ha; simp [Zero.z]
      · have e : Zero.z (a :: l) = Zero.z l + 1 := by simp [Zero.z, ha]
        rw [e, List.any_cons, Bool.or_eq_true, ih]
        constructor
        · rintro (h | h)
          · exact absurd (by simpa using h) ha
          · simp only [List.length_cons]; omega
        · intro h
          simp only [List.length_cons] at h
          exact .inr (by omega)
  exact this _
/-- The names, as lists. -/
def namesL (S : Nat → ByteArray) (m : Nat) : List (List UInt8) := (List.range m).map fun i => (S i).toList
theorem namesL_len (S : Nat → ByteArray) (m : Nat) : (namesL S m).length = m := by simp [namesL]
theorem namesL_nth (S : Nat → ByteArray) (m i : Nat) (h : i < m) : nth (namesL S m) i = (S i).toList := by
  unfold nth namesL
  rw [List.getD_eq_getElem?_getD, List.getElem?_map, List.getElem?_range h]; rfl
theorem namesL_mem (S : Nat → ByteArray) (m : Nat) (x : List UInt8) : x ∈ namesL S m ↔ ∃ i, i < m ∧ (S i).toList = x := by
  simp [namesL, List.mem_map, List.mem_range]
theorem badTo_iff (S : Nat → ByteArray) (m : Nat) : badTo S m = true ↔ ∃ i, i < (namesL S m).length ∧ Bad (nth (namesL S m) i) := by
  unfold badTo
  rw [List.any_eq_true]
  constructor
  · rintro ⟨i, hi, h⟩
    have hi := List.mem_range.1 hi
    exact ⟨i, by rw [namesL_len]; exact hi, by rw [namesL_nth S m i hi]; exact (hasZ_bad _).1 h⟩
  · rintro ⟨i, hi, h⟩
    rw [namesL_len] at hi
    rw [namesL_nth S m i hi] at h
    exact ⟨i, List.mem_range.2 hi, (hasZ_bad _).2 h⟩
theorem ba_back (s : ByteArray) : ByteArray.mk s.toList.toArray = s := by
  apply ByteArray.ext
  apply Array.toList_inj.1
  rw [ByteArray.toList_eq]
theorem toList_len (s : ByteArray) : s.toList.length = s.size := by rw [ByteArray.toList_eq]; simp
theorem namesL_ok (S : Nat → ByteArray) (m n : Nat) (hm : m ≤ 1048576) (hn : n ≤ 4294967296) (h : ∀ i, i < m → (S i).size ≤ n) : NamesOk (namesL S m) where
  len := by rw [namesL_len]; exact hm
  name x hx := by
    obtain ⟨i, hi, rfl⟩ := (namesL_mem S m x).1 hx
    rw [toList_len]
    have := h i hi
    omega
theorem namesL_size (S : Nat → ByteArray) (m n : Nat) (h : ∀ i, i < m → (S i).size ≤ n) : (tabN (namesL S m)).length ≤ 1 + m * (n + 1) := by
  rw [← sizeN]
  have h1 := sizeTo_leM (E := EN (namesL S m)) (M := n + 1) (fun i => by
    by_cases hi : i < (EN (namesL S m)).length
    · rw [EN_getD _ i hi]
      have hs := EN_spec (namesL S m) i hi
      obtain ⟨j, hj, e⟩ := (namesL_mem S m _).1 hs.2.1
      show (nth (sortN (namesL S m)) i).length + 1 ≤ n + 1
      rw [← e, toList_len]
      have := h j hj
      omega
    · rw [EN_out _ i hi]
      show 0 + 1 ≤ _
      omega) (EN (namesL S m)).length
  have h2 := sortN_len (namesL S m)
  rw [namesL_len] at h2
  rw [EN_len] at h1 ⊢
  have h3 : (sortN (namesL S m)).length * (n + 1) ≤ m * (n + 1) := Nat.mul_le_mul_right _ h2
  omega
/-- What is told of any name that has no byte 0. -/
theorem offS_all {N : List (List UInt8)} (hz : ∀ x ∈ N, NoZ x) (hs : (tabN N).length ≤ 1048576) (x : List UInt8) (hx : x ∈ N) :
    ∃ p : Nat, offS N x = (p : Int) ∧ txt ((tabN N).drop p) = x ∧ p + x.length < (tabN N).length ∧ ∀ q, q < p → txt ((tabN N).drop q) ≠ x ∧ x ≠ [] := by
  obtain ⟨h1, h2⟩ := offS_spec hz hs x hx
  by_cases h0 : x = []
  · subst h0
    refine ⟨0, h1 rfl, ?_, ?_, fun q hq => by omega⟩
    · rw [tabN_flat]; simp [txt]
    · rw [tabN_flat]; simp
  · obtain ⟨p, a, b, c, d⟩ := h2 h0
    exact ⟨p, a, b, c, fun q hq => ⟨d q hq, h0⟩⟩
theorem tabN_ends (N : List (List UInt8)) : (tabN N).getD 0 1 = 0 ∧ (tabN N).getD ((tabN N).length - 1) 1 = 0 := by
  rw [tabN_flat]
  refine ⟨by simp, ?_⟩
  refine Num.snoc_ind (P := fun l => ([0] ++ (l.map fun x => x ++ [(0 : UInt8)]).flatten).getD (([0] ++ (l.map fun x => x ++ [(0 : UInt8)]).flatten).length - 1) 1 = 0) (by simp) ?_ (topsN N)
  intro l b _
  have e : [0] ++ ((l ++ [b]).map fun x => x ++ [(0 : UInt8)]).flatten = ([0] ++ (l.map fun x => x ++ [(0 : UInt8)]).flatten ++ b) ++ [0] := by simp
  rw [e]
  generalize [0] ++ (l.map fun x => x ++ [(0 : UInt8)]).flatten ++ b = L
  rw [List.getD_eq_getElem?_getD, List.length_append, List.length_singleton, Nat.add_sub_cancel, List.getElem?_append_right (Nat.le_refl _), Nat.sub_self]
  rfl
theorem tab_right (N : List (List UInt8)) (hm : (tabN N).length ≤ 1048576) (w : World) : Calls Try.prog 15 #[.string ⟨(tabN N).toArray⟩] w fun e w' => e = .returned (.bool true) ∧ w = w' := by
  have hpos : 0 < (tabN N).length := by rw [tabN_flat]; simp
  have hs := ba_size (tabN N)
  have h := right_some ⟨(tabN N).toArray⟩ w (by rw [hs]; exact hpos) (by rw [hs]; unfold maxLen; omega)
  obtain ⟨e1, e2⟩ := tabN_ends N
  have g : ∀ (i : Nat) (hi : i < (ByteArray.mk (tabN N).toArray).size), (tabN N).getD i 1 = 0 → (((ByteArray.mk (tabN N).toArray)[i].toNat : Int) == 0) = true := fun i hi e => by
    have hi' : i < (tabN N).length := by rw [← hs]; exact hi
    rw [List.getD_eq_getElem?_getD, List.getElem?_eq_getElem hi'] at e
    have e3 : (ByteArray.mk (tabN N).toArray)[i] = (tabN N)[i] := rfl
    have e4 : (tabN N)[i] = 0 := e
    rw [e3, e4]; rfl
  rw [g 0 (by rw [hs]; exact hpos) e1, g _ (by rw [hs]; omega) (by rw [hs]; exact e2)] at h
  exact h
end Go.Proofs.Ytddlflabdlgnbaa
