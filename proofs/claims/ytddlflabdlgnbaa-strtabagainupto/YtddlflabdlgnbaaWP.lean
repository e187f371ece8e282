/- Plain facts for StrtabAgain: what comes in as names, a name more, the texts of a table. Conditions: those written in each theorem. -/
import Derived.Test.YtddlflabdlgnbaaWM
import Derived.Test.YtddlflabdlgnbaaUV
import Derived.Test.YtddlflabdlgnbaaTD
import Derived.OpenShut
namespace Go.Proofs.Ytddlflabdlgnbaa
open Go.RowKit Go.Sort Go.Maps Go.Shelf
theorem strs_at {w : World} {x : Addr} {n : Nat} {S : Nat → ByteArray} (h : ∀ i, i < n → w.cell? (x.add i) = some (.string (S i))) (hp : 0 < n) : ∃ b o, x = ⟨b, o, none⟩ ∧ ∀ i, i < n → w.cell? ⟨b, o + i, none⟩ = some (.string (S i)) := by
  obtain ⟨b, off, spot⟩ := x
  have hspot : spot = none := by simpa [Addr.add] using World.cell?_spot (h 0 hp)
  subst hspot
  exact ⟨b, off, rfl, fun j hj => by rw [← Go.WideShapes.add_plain]; exact h j hj⟩
theorem rowO_of_strs {w : World} {a : Option Addr} {len cap m : Nat} {S : Nat → ByteArray} (h : IsStrs w a len cap S) (hm : m ≤ len) : RowO w a (namesL S m) := fun i hi => by
  rw [namesL_len] at hi
  rcases h with ⟨_, h, _⟩ | ⟨x, rfl, hb, _, _, hc⟩
  · omega
  · obtain ⟨b, o, rfl, hcell⟩ := strs_at (fun i hi => (hc i hi).1) (show 0 < len by omega)
    refine ⟨b, o, rfl, hb (by omega), ?_⟩
    rw [hcell i (by omega), namesL_nth S m i hi]
    unfold encStr
    rw [ba_back]
theorem RowO.low {w w' : World} {A : Option Addr} {N : List (List UInt8)} (h : RowO w A N) (hb : Below w.heap.size w w') : RowO w' A N := fun i hi => by
  obtain ⟨b, o, e, hl, hc⟩ := h i hi
  exact ⟨b, o, e, Nat.lt_of_lt_of_le hl hb.size, (hb.cell (p := ⟨b, o + i, none⟩) hl).trans hc⟩
theorem rowO_of_rowS {w : World} {g : Nat} {N : List (List UInt8)} (h : RowS w g 0 N) : RowO w (some ⟨g, 0, none⟩) N := fun i hi => ⟨g, 0, rfl, h.1, h.2 i hi⟩
theorem tab_snoc (N : List (List UInt8)) (x : List UInt8) : (tabN (N ++ [x])).length ≤ (tabN N).length + x.length + 1 := by
  rw [tabN_len, tabN_len]
  have h := topsN_is N
  have h' := topsN_is (N ++ [x])
  have hs := sum_inj (fun y : List UInt8 => y.length + 1) id (topsN (N ++ [x])) (x :: topsN N) h'.nodup (fun y hy => by
    obtain ⟨h1, h2, h3⟩ := (h'.mem y).1 hy
    rcases List.mem_append.1 h2 with h4 | h4
    · exact List.mem_cons_of_mem _ ((h.mem y).2 ⟨h1, h4, fun z hz hs => h3 z (List.mem_append_left _ hz) hs⟩)
    · rw [List.mem_singleton] at h4
      rw [h4]; exact List.mem_cons_self) (fun a _ b _ e => e)
  unfold sz
  simp only [List.map_cons, List.sum_cons, id_eq] at hs
  omega
theorem parts_txt (t : ByteArray) : ∀ (n k : Nat) (x : Nat × ByteArray), x ∈ parts t n k → x.2.toList = txt (t.data.toList.drop x.1)
  | 0, _, x, h => by simp [parts] at h
  | n + 1, k, x, h => by
    unfold parts at h
    split at h
    · rcases List.mem_cons.1 h with rfl | h
      · have := ext_txt t k
        show ((t.extract k t.size).extract 0 (Zero.z (t.extract k t.size).data.toList)).toList = _
        rw [this, ba_list]
      · exact parts_txt t n _ x h
    · simp at h
theorem parts_num (t : ByteArray) : ∀ (n k : Nat), k ≤ t.size → (parts t n k).length ≤ t.size - k
  | 0, _, _ => by simp [parts]
  | n + 1, k, hk => by
    have hrs := rest_size t k
    unfold parts
    split
    · rename_i h
      have := parts_num t n (k + Zero.z (rest t k).data.toList + 1) (by omega)
      simp only [List.length_cons]
      omega
    · simp
/-- The texts of a table, in order. -/
def textC (t : ByteArray) (i : Nat) : ByteArray := ((partsOf t).getD i (0, ⟨#[]⟩)).2
theorem textC_row (t : ByteArray) : (partsOf t).map (fun x => Value.string x.2) = strsL (textC t) (partsOf t).length := by
  apply List.ext_getElem
  · simp [strsL]
  · intro i h1 h2
    have hi : i < (partsOf t).length := by simpa using h1
    simp [strsL, textC, hi]
theorem textC_mem (t : ByteArray) (x : List UInt8) : x ∈ namesL (textC t) (partsOf t).length ↔ ∃ y ∈ partsOf t, y.2.toList = x := by
  rw [namesL_mem]
  constructor
  · rintro ⟨i, hi, rfl⟩
    refine ⟨(partsOf t)[i], List.getElem_mem hi, ?_⟩
    simp [textC, hi]
  · rintro ⟨y, hy, rfl⟩
    obtain ⟨i, hi, rfl⟩ := List.getElem_of_mem hy
    exact ⟨i, hi, by simp [textC, hi]⟩
theorem getD_size (n : Nat) (d : Nat × ByteArray) (h0 : d.2.size ≤ n) : ∀ (L : List (Nat × ByteArray)) (i : Nat), (∀ y ∈ L, y.2.size ≤ n) → (L.getD i d).2.size ≤ n
  | [], _, _ => by simpa using h0
  | y :: L, 0, h => by simpa using h y (by simp)
  | y :: L, i + 1, h => by
    have := getD_size n d h0 L i (fun z hz => h z (List.mem_cons_of_mem _ hz))
    simpa using this
theorem textC_size (t : ByteArray) (i : Nat) : (textC t i).size ≤ t.size :=
  getD_size t.size (0, ⟨#[]⟩) (Nat.zero_le _) (partsOf t) i (fun y hy => by
    have := (parts_fit t (t.size + 1) 0 y hy).2
    omega)
theorem textC_noz (t : ByteArray) : ∀ x ∈ namesL (textC t) (partsOf t).length, NoZ x := fun x hx => by
  obtain ⟨y, hy, rfl⟩ := (textC_mem t x).1 hx
  rw [parts_txt t (t.size + 1) 0 y hy]
  intro c hc h0
  have := List.all_takeWhile (l := t.data.toList.drop y.1) (p := fun c => c != 0)
  have h2 := List.all_eq_true.1 this c hc
  rw [h0] at h2
  exact absurd h2 (by decide)
/-- The texts of a table that was built, built again, are as much. -/
theorem again_len {N : List (List UInt8)} (hz : ∀ x ∈ N, NoZ x) (hs : (tabN N).length ≤ 1048576) (t : ByteArray) (ht : t.data.toList = tabN N) (hfrom : ∀ (p : Nat) (x : List UInt8), txt ((tabN N).drop p) = x → x ≠ [] → ∃ y ∈ N, x <:+ y) : (tabN (namesL (textC t) (partsOf t).length)).length = (tabN N).length := by
  rw [tabN_len, tabN_len]
  refine sz_perm (topsN_is _) (topsN_is N) (fun x hx h0 => ?_) (fun x hx h0 => ?_)
  · obtain ⟨y, hy, rfl⟩ := (textC_mem t x).1 hx
    have := parts_txt t (t.size + 1) 0 y hy
    rw [ht] at this
    exact hfrom y.1 _ this.symm h0
  · obtain ⟨p, _, h2, h3, _⟩ := (offS_spec hz hs x hx).2 h0
    have hx2 : (ByteArray.mk x.toArray).toList = x := ba_list x
    have hsk := (parts_seek t ⟨x.toArray⟩ (t.size + 1) 0 (Nat.zero_le _) (by omega)).2
    cases hf : (parts t (t.size + 1) 0).find? (fun y => ends y.2 ⟨x.toArray⟩) with
    | none =>
      exact absurd (show AtName t.data.toList (ByteArray.mk x.toArray).toList p from ⟨by rw [ht, hx2]; exact h3, by rw [ht, hx2]; exact h2⟩) (hsk hf p (Nat.zero_le _))
    | some y =>
      have h5 := List.find?_some hf
      have h6 := List.mem_of_find?_eq_some hf
      rw [ends_is, hx2, decide_eq_true_iff] at h5
      exact ⟨y.2.toList, (textC_mem t _).2 ⟨y, h6, rfl⟩, h5⟩
end Go.Proofs.Ytddlflabdlgnbaa
