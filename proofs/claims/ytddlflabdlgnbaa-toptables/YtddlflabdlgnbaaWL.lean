/- Plain facts of the texts of a table: they make it up. Conditions: those written in each theorem. Contracts for the laws through the layers: formOf, records. Conditions: those written in each theorem. Plain facts for the laws that build a table again: where its texts come from, and how long tables are. Conditions: those written in each theorem. -/
import Derived.Test.YtddlflabdlgnbaaTC
import Derived.Test.YtddlflabdlgnbaaTB
import Derived.Test.YtddlflabdlgnbaaSD
import Derived.Test.YtddlflabdlgnbaaMB
import Derived.Test.YtddlflabdlgnbaaWF
namespace Go.Proofs.Ytddlflabdlgnbaa
open Go.RowKit
/-- The texts, each with its byte 0. -/
def cat (L : List (Nat × ByteArray)) : List UInt8 := (L.map fun x => x.2.data.toList ++ [0]).flatten
theorem cat_append (a b : List (Nat × ByteArray)) : cat (a ++ b) = cat a ++ cat b := by simp [cat]
theorem parts_len (t : ByteArray) : ∀ (n k : Nat), (parts t n k).length ≤ n
  | 0, _ => Nat.le_refl _
  | n + 1, k => by
    unfold parts
    split
    · have := parts_len t n (k + Zero.z (rest t k).data.toList + 1)
      rw [List.length_cons]; omega
    · simp
theorem z_found (l : List UInt8) (i : Nat) (h : i < l.length) (h0 : l.getD i 1 = 0) : Zero.z l ≤ i := by
  rcases Nat.lt_or_ge i (Zero.z l) with h' | h'
  · have := (Zero.z_spec l).1 i h'
    rw [List.getD_eq_getElem?_getD, List.getElem?_eq_getElem h] at h0 this
    exact absurd h0 this
  · exact h'
theorem rest_list (t : ByteArray) (k : Nat) : (rest t k).data.toList = t.data.toList.drop k := ext_list t k
theorem cat_parts (t : ByteArray) (hlast : t.data.toList.getD (t.size - 1) 1 = 0) : ∀ (n k : Nat), k ≤ t.size → t.size - k < n → cat (parts t n k) = t.data.toList.drop k
  | 0, k, _, h => by omega
  | n + 1, k, hk, hn => by
    have hlen : t.data.toList.length = t.size := by simp
    have hrs := rest_size t k
    have hrl := rest_list t k
    unfold parts
    rcases Nat.lt_or_ge k t.size with hlt | hge
    · have hz : Zero.z (rest t k).data.toList ≤ t.size - 1 - k := by
        refine z_found _ _ (by rw [hrl, List.length_drop, hlen]; omega) ?_
        rw [hrl, List.getD_eq_getElem?_getD, List.getElem?_drop, show k + (t.size - 1 - k) = t.size - 1 by omega, ← List.getD_eq_getElem?_getD]
        exact hlast
      have hzs := (Zero.z_spec (rest t k).data.toList).2 (by rw [hrl, List.length_drop, hlen, ← hrl]; omega)
      rw [if_pos (by rw [hrs]; omega)]
      have ih := cat_parts t hlast n (k + Zero.z (rest t k).data.toList + 1) (by omega) (by omega)
      generalize hZ : Zero.z (rest t k).data.toList = z at *
      show ((rest t k).extract 0 z).data.toList ++ [0] ++ cat _ = _
      rw [ih]
      have he : ((rest t k).extract 0 z).data.toList = (t.data.toList.drop k).take z := by
        rw [← hrl]; simp
      rw [he]
      rw [hrl, List.getD_eq_getElem?_getD] at hzs
      have hzl : z < (t.data.toList.drop k).length := by rw [List.length_drop, hlen]; omega
      rw [List.getElem?_eq_getElem hzl] at hzs
      have h0 : (t.data.toList.drop k)[z] = 0 := hzs
      have hd : (t.data.toList.drop k).drop z = 0 :: t.data.toList.drop (k + z + 1) := by
        rw [List.drop_eq_getElem_cons hzl, h0, List.drop_drop, Nat.add_assoc]
      calc (t.data.toList.drop k).take z ++ [0] ++ t.data.toList.drop (k + z + 1) = (t.data.toList.drop k).take z ++ (0 :: t.data.toList.drop (k + z + 1)) := by simp
        _ = (t.data.toList.drop k).take z ++ (t.data.toList.drop k).drop z := by rw [hd]
        _ = _ := List.take_append_drop _ _
    · rw [if_neg (by rw [hrs]; omega)]
      show [] = _
      rw [List.drop_of_length_le (by rw [hlen]; omega)]
theorem cat_all (t : ByteArray) (hlast : t.data.toList.getD (t.size - 1) 1 = 0) : cat (partsOf t) = t.data.toList := by
  unfold partsOf
  rw [cat_parts t hlast _ 0 (Nat.zero_le _) (by omega)]
  rfl
def catB (L : List (Nat × ByteArray)) : ByteArray := ⟨(cat L).toArray⟩
theorem catB_step (L : List (Nat × ByteArray)) (i : Nat) (h : i < L.length) : catB (L.take (i + 1)) = catB (L.take i) ++ (L[i].2 ++ ⟨#[0]⟩) := by
  have : L.take (i + 1) = L.take i ++ [L[i]] := by rw [List.take_add_one, List.getElem?_eq_getElem h]; rfl
  rw [this]
  unfold catB
  rw [cat_append]
  apply ByteArray.ext
  apply Array.ext'
  simp [cat]
theorem catB_all (t : ByteArray) (hlast : t.data.toList.getD (t.size - 1) 1 = 0) : catB (partsOf t) = t := by
  unfold catB
  rw [cat_all t hlast]
theorem cat_le (L : List (Nat × ByteArray)) (i : Nat) : (catB (L.take i)).size ≤ (catB L).size := by
  have h : cat L = cat (L.take i) ++ cat (L.drop i) := by rw [← cat_append, List.take_append_drop]
  unfold catB
  simp only [ByteArray.size, List.size_toArray]
  rw [h, List.length_append]
  omega
end Go.Proofs.Ytddlflabdlgnbaa
namespace Go.Proofs.Ytddlflabdlgnbaa
open Go.RowKit
theorem tform (fl : Int) (big wide : Bool) (hb : (bits BinOp.and IntKind.i64 fl 1 == 1) = big) (hw : (bits BinOp.and IntKind.i64 fl 2 == 2) = wide) (w : World) :
    Calls Try.prog 32 #[.int .i64 fl] w fun e w' => e = .returned (.agg #[.bool big, .bool wide]) ∧ Below w.heap.size w w' := by
  subst hb hw
  go_enter Try.func32, Try.ntmps32
  go_wp2
  generalize (bits BinOp.and IntKind.i64 fl 1 == 1) = big
  generalize (bits BinOp.and IntKind.i64 fl 2 == 2) = wide
  exact bodyPost_ret (v := .agg #[.bool big, .bool wide]) (by simp [results, Try.results32, go_sem]) rfl ⟨rfl, (Below.refl _ _).alloc (Nat.le_refl _) _⟩
theorem tform3 (w : World) : Calls Try.prog 32 #[.int .i64 3] w fun e w' => e = .returned (.agg #[.bool true, .bool true]) ∧ Below w.heap.size w w' := tform 3 true true (by decide) (by decide) w
def tS : ByteArray := ⟨#[0, 0, 0, 0, 0, 0, 0, 1, 0, 0, 0, 0, 0, 0, 0, 0, 0, 0, 0, 0, 0, 0, 0, 0, 0, 0, 0, 0, 0, 0, 0, 0, 0, 0, 0, 0, 0, 0, 0, 0, 0, 0, 0, 0, 0, 0, 0, 0, 0, 0, 0, 0, 0, 0, 0, 0, 0, 0, 0, 0, 0, 0, 0, 0]⟩
theorem tS_rec : RecIs true true sSizes [0, 1, 0, 0, 0, 0, 0, 0, 0, 0] 10 10 tS true := by
  right; left
  refine ⟨rfl, ?_, by kernel_rfl, rfl⟩
  intro k hk
  have : ∀ k : Fin 10, 0 ≤ fullZ true (sSizes.getD k.1 0) ∧ fullZ true (sSizes.getD k.1 0) ≤ 8 ∧ ([0, 1, 0, 0, 0, 0, 0, 0, 0, 0] : List Nat).getD k.1 0 < 256 ^ (fullZ true (sSizes.getD k.1 0)).toNat := by decide
  exact this ⟨k, hk⟩
theorem tput1 (w : World) : Calls Try.prog 36 #[.agg #[.bool true, .bool true], .agg #[.int .u64 0, .int .u64 1, .int .u64 0, .int .u64 0, .int .u64 0, .int .u64 0, .int .u64 0, .int .u64 0, .int .u64 0, .int .u64 0]] w fun e w' => e = .returned (.tuple #[.string ⟨#[0, 0, 0, 0, 0, 0, 0, 1, 0, 0, 0, 0, 0, 0, 0, 0, 0, 0, 0, 0, 0, 0, 0, 0, 0, 0, 0, 0, 0, 0, 0, 0, 0, 0, 0, 0, 0, 0, 0, 0, 0, 0, 0, 0, 0, 0, 0, 0, 0, 0, 0, 0, 0, 0, 0, 0, 0, 0, 0, 0, 0, 0, 0, 0]⟩, .bool true]) ∧ Below w.heap.size w w' :=
  sput true true 0 1 0 0 0 0 0 0 0 0 (by decide) tS true tS_rec w
theorem tread1 (w : World) : Calls Try.prog 43 #[.agg #[.bool true, .bool true], .string ⟨#[0, 0, 0, 0, 0, 0, 0, 1, 0, 0, 0, 0, 0, 0, 0, 0, 0, 0, 0, 0, 0, 0, 0, 0, 0, 0, 0, 0, 0, 0, 0, 0, 0, 0, 0, 0, 0, 0, 0, 0, 0, 0, 0, 0, 0, 0, 0, 0, 0, 0, 0, 0, 0, 0, 0, 0, 0, 0, 0, 0, 0, 0, 0, 0]⟩] w fun e w' => e = .returned (.tuple #[.agg #[.int .u64 0, .int .u64 1, .int .u64 0, .int .u64 0, .int .u64 0, .int .u64 0, .int .u64 0, .int .u64 0, .int .u64 0, .int .u64 0], .bool true]) ∧ Below w.heap.size w w' := by
  refine (sread_yes true true tS w (by decide) (by decide)).mono fun e w' ⟨he, hb⟩ => ⟨?_, hb⟩
  have hr := (recIs_read tS_rec (s_ok true) ⟨#[]⟩).2
  have e0 : (tS ++ ⟨#[]⟩) = tS := by apply ByteArray.ext; simp
  rw [e0] at hr
  rw [he, hr 0 (by decide), hr 1 (by decide), hr 2 (by decide), hr 3 (by decide), hr 4 (by decide), hr 5 (by decide), hr 6 (by decide), hr 7 (by decide), hr 8 (by decide), hr 9 (by decide)]
  rfl
set_option maxRecDepth 100000 in
set_option maxHeartbeats 2000000 in
theorem trecords (w : World) : Calls Try.prog 31 #[] w fun e w' => e = .returned (.bool true) ∧ Below w.heap.size w w' := by
  go_enter Try.func31, Try.ntmps31
  go_wp2_with fail
  refine (tform3 _).mono ?_
  rintro e w1 ⟨rfl, h1⟩
  go_wp2_with fail
  refine (tput1 _).mono ?_
  rintro e w2 ⟨rfl, h2⟩
  have g2 : Below w.heap.size w w2 := h1.trans (h2.mono h1.size)
  clear h1 h2
  go_wp2_with fail
  refine (tform3 _).mono ?_
  rintro e w3 ⟨rfl, h3⟩
  go_wp2_with fail
  refine (tread1 _).mono ?_
  rintro e w4 ⟨rfl, h4⟩
  have g4 : Below w.heap.size w w4 := (g2.trans (h3.mono g2.size)).trans (h4.mono (g2.trans (h3.mono g2.size)).size)
  clear g2 h3 h4
  go_wp2
  go_ret
  exact ⟨rfl, g4.alloc g4.size _⟩
end Go.Proofs.Ytddlflabdlgnbaa
namespace Go.Proofs.Ytddlflabdlgnbaa
open Go.RowKit Go.Sort Go.Maps Go.Shelf
theorem txt_full (L : List UInt8) (p : Nat) (hp : p < L.length) (hl : L.getD (L.length - 1) 1 = 0) : p + (txt (L.drop p)).length < L.length := by
  have h := z_found (L.drop p) (L.length - 1 - p) (by rw [List.length_drop]; omega) (by
    rw [List.getD_eq_getElem?_getD, List.getElem?_drop, show p + (L.length - 1 - p) = L.length - 1 by omega, ← List.getD_eq_getElem?_getD]
    exact hl)
  rw [z_txt] at h
  omega
theorem txt_noz' (l : List UInt8) : NoZ (txt l) := fun c hc h0 => by
  have := List.all_takeWhile (l := l) (p := fun c => c != 0)
  have h2 := List.all_eq_true.1 this c hc
  rw [h0] at h2
  exact absurd h2 (by decide)
/-- A text within the table ends one of the names, or is empty. -/
theorem txt_from {N : List (List UInt8)} (hz : ∀ x ∈ N, NoZ x) (p : Nat) (x : List UInt8) (hx : txt ((tabN N).drop p) = x) (h0 : x ≠ []) : ∃ y ∈ N, x <:+ y := by
  have hp : 1 ≤ p := by
    rcases Nat.eq_zero_or_pos p with rfl | h
    · exfalso; apply h0; rw [← hx, tabN_flat]; simp [txt]
    · exact h
  rw [tabN_eq] at hx
  have hW := wholeN N
  obtain ⟨j, hj, hs, _⟩ := lay_search (EN N) (ws (EN N)) ([0], EN N) hW.nodup (fun k hk => by have := ((hW.mem k).1 hk).1; show k < (EN N).length; rw [EN_len]; exact this) (fun i hi => by
    rw [(laidN N).name i]
    exact hz _ ((sortN_mem N _).1 (nth_mem' _ i ((hW.mem i).1 hi).1)).2) p hp x h0 hx
  rw [(laidN N).name j] at hs
  exact ⟨_, ((sortN_mem N _).1 (nth_mem' _ j ((hW.mem j).1 hj).1)).2, hs⟩
/-- Tables of names that end one another's are as long. -/
theorem tab_same {N N' : List (List UInt8)} (h : ∀ x ∈ N, x ≠ [] → ∃ y ∈ N', x <:+ y) (h' : ∀ x ∈ N', x ≠ [] → ∃ y ∈ N, x <:+ y) : (tabN N).length = (tabN N').length := by
  rw [tabN_len, tabN_len]
  exact sz_perm (topsN_is N) (topsN_is N') h h'
theorem tab_le {N N' : List (List UInt8)} (h : ∀ x ∈ N, x ≠ [] → ∃ y ∈ N', x <:+ y) : (tabN N).length ≤ (tabN N').length := by
  rw [tabN_len, tabN_len]
  exact sz_le (topsN_is N) (topsN_is N') h
theorem bad_of_noz {x : List UInt8} (h : NoZ x) : ¬ Bad x := by
  intro hb
  unfold Bad at hb
  have h1 := (Zero.z_spec x).2 hb
  rw [List.getD_eq_getElem?_getD, List.getElem?_eq_getElem hb] at h1
  exact h _ (List.getElem_mem hb) h1
end Go.Proofs.Ytddlflabdlgnbaa
