/- The walk of FormReads where the bytes are an ident. Conditions: those written in each theorem. -/
import Derived.Test.YtmbgbhhnjbkfdaaD
namespace Go.Proofs.Ytmbgbhhnjbkfdaa
open Go.RowKit
theorem toList_data (s : ByteArray) : s.toList = s.data.toList := ByteArray.toList_eq s
theorem list16 (l : List UInt8) (h : 16 ≤ l.length) : ∃ a0 a1 a2 a3 a4 a5 a6 a7 a8 a9 a10 a11 a12 a13 a14 a15 r, l = a0 :: a1 :: a2 :: a3 :: a4 :: a5 :: a6 :: a7 :: a8 :: a9 :: a10 :: a11 :: a12 :: a13 :: a14 :: a15 :: r := by
  match l, h with
  | a0 :: a1 :: a2 :: a3 :: a4 :: a5 :: a6 :: a7 :: a8 :: a9 :: a10 :: a11 :: a12 :: a13 :: a14 :: a15 :: r, _ => exact ⟨a0, a1, a2, a3, a4, a5, a6, a7, a8, a9, a10, a11, a12, a13, a14, a15, r, rfl⟩
theorem u8_eq (a : UInt8) (n : Nat) (hn : n < 256) (h : a.toNat = n) : a = UInt8.ofNat n := by
  apply UInt8.toNat_inj.1
  rw [h, UInt8.toNat_ofNat']
  omega
theorem ident_back (t : ByteArray) (h : 16 ≤ t.size) (hb : isMagic t = true) (h4 : t[4].toNat = 1 ∨ t[4].toNat = 2) (h5 : t[5].toNat = 1 ∨ t[5].toNat = 2) (h6 : ((t[6].toNat : Int) != 1) = false) :
    (⟨(identL ((t[5].toNat : Int) == 2) ((t[4].toNat : Int) == 2) t[7] t[8] (t.extract 9 16).data.toList).toArray⟩ : ByteArray) = t.extract 0 16 := by
  obtain ⟨⟨l⟩⟩ := t
  obtain ⟨a0, a1, a2, a3, a4, a5, a6, a7, a8, a9, a10, a11, a12, a13, a14, a15, r, rfl⟩ := list16 l h
  have e4 : (ByteArray.mk ⟨a0 :: a1 :: a2 :: a3 :: a4 :: a5 :: a6 :: a7 :: a8 :: a9 :: a10 :: a11 :: a12 :: a13 :: a14 :: a15 :: r⟩)[4] = a4 := rfl
  have e5 : (ByteArray.mk ⟨a0 :: a1 :: a2 :: a3 :: a4 :: a5 :: a6 :: a7 :: a8 :: a9 :: a10 :: a11 :: a12 :: a13 :: a14 :: a15 :: r⟩)[5] = a5 := rfl
  have e6 : (ByteArray.mk ⟨a0 :: a1 :: a2 :: a3 :: a4 :: a5 :: a6 :: a7 :: a8 :: a9 :: a10 :: a11 :: a12 :: a13 :: a14 :: a15 :: r⟩)[6] = a6 := rfl
  have e7 : (ByteArray.mk ⟨a0 :: a1 :: a2 :: a3 :: a4 :: a5 :: a6 :: a7 :: a8 :: a9 :: a10 :: a11 :: a12 :: a13 :: a14 :: a15 :: r⟩)[7] = a7 := rfl
  have e8 : (ByteArray.mk ⟨a0 :: a1 :: a2 :: a3 :: a4 :: a5 :: a6 :: a7 :: a8 :: a9 :: a10 :: a11 :: a12 :: a13 :: a14 :: a15 :: r⟩)[8] = a8 := rfl
  rw [e4] at h4
  rw [e5] at h5
  rw [e6] at h6
  rw [e4, e5, e7, e8]
  unfold isMagic at hb
  rw [toList_data] at hb
  simp [ByteArray.data_extract] at hb
  obtain ⟨rfl, rfl, rfl, rfl⟩ := hb
  have h6' : a6.toNat = 1 := by simp at h6; omega
  have := u8_eq a6 1 (by omega) h6'
  subst this
  have x4 : a4 = if ((a4.toNat : Int) == 2) then 2 else 1 := by
    rcases h4 with h | h
    · rw [u8_eq a4 1 (by omega) h]; rfl
    · rw [u8_eq a4 2 (by omega) h]; rfl
  have x5 : a5 = if ((a5.toNat : Int) == 2) then 2 else 1 := by
    rcases h5 with h | h
    · rw [u8_eq a5 1 (by omega) h]; rfl
    · rw [u8_eq a5 2 (by omega) h]; rfl
  apply ByteArray.ext
  rw [ByteArray.data_extract, ByteArray.data_extract]
  unfold identL
  rw [← x4, ← x5]
  simp
theorem kept5 {W W' : World} {b : Nat} {v0 v1 v2 v3 v4 : Value} (h : Below W.heap.size W W') (hb : b < W.heap.size)
    (hc : W.cell? ⟨b, 0, none⟩ = some v0 ∧ W.cell? ⟨b, 1, none⟩ = some v1 ∧ W.cell? ⟨b, 2, none⟩ = some v2 ∧ W.cell? ⟨b, 3, none⟩ = some v3 ∧ W.cell? ⟨b, 4, none⟩ = some v4) :
    W'.cell? ⟨b, 0, none⟩ = some v0 ∧ W'.cell? ⟨b, 1, none⟩ = some v1 ∧ W'.cell? ⟨b, 2, none⟩ = some v2 ∧ W'.cell? ⟨b, 3, none⟩ = some v3 ∧ W'.cell? ⟨b, 4, none⟩ = some v4 := by
  obtain ⟨h0, h1, h2, h3, h4⟩ := hc
  exact ⟨(h.cell (p := ⟨b, 0, none⟩) hb).trans h0, (h.cell (p := ⟨b, 1, none⟩) hb).trans h1, (h.cell (p := ⟨b, 2, none⟩) hb).trans h2, (h.cell (p := ⟨b, 3, none⟩) hb).trans h3, (h.cell (p := ⟨b, 4, none⟩) hb).trans h4⟩
set_option maxRecDepth 100000 in
set_option maxHeartbeats 1000000 in
theorem formReads_ok_a (s : ByteArray) (w : World) (hl : s.size ≤ 30) (h : 16 ≤ s.size) (hm : s.size ≤ maxLen) (hb : isMagic s = true)
    (h4 : s[4].toNat = 1 ∨ s[4].toNat = 2) (h5 : s[5].toNat = 1 ∨ s[5].toNat = 2) (h6 : ((s[6].toNat : Int) != 1) = false) :
    Calls Try.prog 7 #[.string s] w fun e w' => e = .returned (.bool true) ∧ Below w.heap.size w w' := by
  have hi : (s.size : Int) ≤ 30 := by omega
  have hi16 : (16 : Int) ≤ (s.size : Int) := by omega
  have hi4 : (4 : Int) < (s.size : Int) := by omega
  have hi5 : (5 : Int) < (s.size : Int) := by omega
  have hi7 : (7 : Int) < (s.size : Int) := by omega
  have hi8 : (8 : Int) < (s.size : Int) := by omega
  have HE := Lib.hid (ident_back s h hb h4 h5 h6)
  have H4 := Lib.hid h4; clear h4
  have H5 := Lib.hid h5; clear h5
  go_enter Try.func7, Try.ntmps7
  go_wp2_with fail
  refine (speaks4 _).mono ?_
  rintro e w1 ⟨rfl, h1⟩
  go_wp2_with fail
  refine (read_ok s _ h hm hb H4.out H5.out h6).mono ?_
  rintro e w2 ⟨rfl, h2⟩
  unfold okIdent
  go_wp2_with fail
  refine (why_rest s _ h hb H4.out H5.out false h6).mono ?_
  rintro e w3 ⟨rfl, rfl⟩
  go_wp2
  go_region_held3 (fun w' => w'.cell? ⟨w2.heap.size, 0, none⟩ = some (.bool ((s[5].toNat : Int) == 2)) ∧ w'.cell? ⟨w2.heap.size, 1, none⟩ = some (.bool ((s[4].toNat : Int) == 2)) ∧ w'.cell? ⟨w2.heap.size, 2, none⟩ = some (.int .u8 s[7].toNat) ∧ w'.cell? ⟨w2.heap.size, 3, none⟩ = some (.int .u8 s[8].toNat) ∧ w'.cell? ⟨w2.heap.size, 4, none⟩ = some (.string (s.extract 9 16))) (first | exact kept5 h4 (by simp) (by simp) | go_keep) (first | (go_at_call 22; refine (bytes_any _ _ _ _ _ _).mono ?_; rintro e w4 ⟨rfl, h4⟩; rw [HE.out]))
  go_wp2
  go_ret
  have h12 := h1.trans (h2.mono h1.size)
  have h13 := (h12.alloc h12.size (.cells #[.bool ((s[5].toNat : Int) == 2), .bool ((s[4].toNat : Int) == 2), .int .u8 s[7].toNat, .int .u8 s[8].toNat, .string (s.extract 9 16)] 47)).drew
  exact ⟨rfl, h13.trans (h4.mono h13.size)⟩
set_option maxRecDepth 100000 in
set_option maxHeartbeats 1000000 in
theorem formReads_ok_b (s : ByteArray) (w : World) (hl : 30 < s.size) (t : ByteArray) (ht : s.extract 0 30 = t) (h : 16 ≤ t.size) (hm : t.size ≤ maxLen) (hb : isMagic t = true)
    (h4 : t[4].toNat = 1 ∨ t[4].toNat = 2) (h5 : t[5].toNat = 1 ∨ t[5].toNat = 2) (h6 : ((t[6].toNat : Int) != 1) = false) :
    Calls Try.prog 7 #[.string s] w fun e w' => e = .returned (.bool true) ∧ Below w.heap.size w w' := by
  have hi : (30 : Int) < (s.size : Int) := by omega
  have HT := Lib.hid ht; clear ht
  have hi16 : (16 : Int) ≤ (t.size : Int) := by omega
  have hi4 : (4 : Int) < (t.size : Int) := by omega
  have hi5 : (5 : Int) < (t.size : Int) := by omega
  have hi7 : (7 : Int) < (t.size : Int) := by omega
  have hi8 : (8 : Int) < (t.size : Int) := by omega
  have HE := Lib.hid (ident_back t h hb h4 h5 h6)
  have H4 := Lib.hid h4; clear h4
  have H5 := Lib.hid h5; clear h5
  go_enter Try.func7, Try.ntmps7
  go_wp2_with fail
  refine (speaks4 _).mono ?_
  rintro e w1 ⟨rfl, h1⟩
  go_wp2_with fail
  rw [HT.out]
  refine (read_ok t _ h hm hb H4.out H5.out h6).mono ?_
  rintro e w2 ⟨rfl, h2⟩
  unfold okIdent
  go_wp2_with fail
  refine (why_rest t _ h hb H4.out H5.out false h6).mono ?_
  rintro e w3 ⟨rfl, rfl⟩
  go_wp2
  go_region_held3 (fun w' => w'.cell? ⟨w2.heap.size, 0, none⟩ = some (.bool ((t[5].toNat : Int) == 2)) ∧ w'.cell? ⟨w2.heap.size, 1, none⟩ = some (.bool ((t[4].toNat : Int) == 2)) ∧ w'.cell? ⟨w2.heap.size, 2, none⟩ = some (.int .u8 t[7].toNat) ∧ w'.cell? ⟨w2.heap.size, 3, none⟩ = some (.int .u8 t[8].toNat) ∧ w'.cell? ⟨w2.heap.size, 4, none⟩ = some (.string (t.extract 9 16))) (first | exact kept5 h4 (by simp) (by simp) | go_keep) (first | (go_at_call 22; refine (bytes_any _ _ _ _ _ _).mono ?_; rintro e w4 ⟨rfl, h4⟩; rw [HE.out]))
  go_wp2
  go_ret
  have h12 := h1.trans (h2.mono h1.size)
  have h13 := (h12.alloc h12.size (.cells #[.bool ((t[5].toNat : Int) == 2), .bool ((t[4].toNat : Int) == 2), .int .u8 t[7].toNat, .int .u8 t[8].toNat, .string (t.extract 9 16)] 47)).drew
  exact ⟨rfl, h13.trans (h4.mono h13.size)⟩
theorem formReads_wf (s : ByteArray) (hm : s.size ≤ maxLen) (w : World) :
    Calls Try.prog 7 #[.string s] w fun e w' => e = .returned (.bool true) ∧ Below w.heap.size w w' := by
  by_cases h16 : s.size < 16
  · exact formReads_short s w h16
  · have h16 : 16 ≤ s.size := by omega
    have key : ∀ t : ByteArray, 16 ≤ t.size → (h : 16 ≤ t.size) → isMagic t = false ∨ isMagic t = true ∧ ((((t[4].toNat : Int) != 1) = true ∧ ((t[4].toNat : Int) != 2) = true) ∨ (t[4].toNat = 1 ∨ t[4].toNat = 2) ∧ ((((t[5].toNat : Int) != 1) = true ∧ ((t[5].toNat : Int) != 2) = true) ∨ (t[5].toNat = 1 ∨ t[5].toNat = 2) ∧ (((t[6].toNat : Int) != 1) = true ∨ ((t[6].toNat : Int) != 1) = false))) := by
      intro t _ h
      cases hb : isMagic t
      · exact Or.inl rfl
      · right
        refine ⟨rfl, ?_⟩
        by_cases h4 : t[4].toNat = 1 ∨ t[4].toNat = 2
        · right
          refine ⟨h4, ?_⟩
          by_cases h5 : t[5].toNat = 1 ∨ t[5].toNat = 2
          · right
            refine ⟨h5, ?_⟩
            cases ((t[6].toNat : Int) != 1)
            · exact Or.inr rfl
            · exact Or.inl rfl
          · left
            exact ⟨by simp; omega, by simp; omega⟩
        · left
          exact ⟨by simp; omega, by simp; omega⟩
    by_cases h30 : s.size ≤ 30
    · rcases key s h16 h16 with hb | ⟨hb, ⟨h4, h4'⟩ | ⟨h4, ⟨h5, h5'⟩ | ⟨h5, h6 | h6⟩⟩⟩
      · exact formReads_magic_a s w h30 h16 hm hb
      · exact formReads_class_a s w h30 h16 hm hb h4 h4'
      · exact formReads_data_a s w h30 h16 hm hb h4 h5 h5'
      · exact formReads_version_a s w h30 h16 hm hb h4 h5 h6
      · exact formReads_ok_a s w h30 h16 hm hb h4 h5 h6
    · have h30 : 30 < s.size := by omega
      have hs : (s.extract 0 30).size = 30 := by simp; omega
      obtain ⟨t, ht⟩ : ∃ t, s.extract 0 30 = t := ⟨_, rfl⟩
      rw [ht] at hs
      have ht16 : 16 ≤ t.size := by omega
      have htm : t.size ≤ maxLen := by omega
      rcases key t ht16 ht16 with hb | ⟨hb, ⟨h4, h4'⟩ | ⟨h4, ⟨h5, h5'⟩ | ⟨h5, h6 | h6⟩⟩⟩
      · exact formReads_magic_b s w h30 t ht ht16 htm hb
      · exact formReads_class_b s w h30 t ht ht16 htm hb h4 h4'
      · exact formReads_data_b s w h30 t ht ht16 htm hb h4 h5 h5'
      · exact formReads_version_b s w h30 t ht ht16 htm hb h4 h5 h6
      · exact formReads_ok_b s w h30 t ht ht16 htm hb h4 h5 h6
end Go.Proofs.Ytmbgbhhnjbkfdaa
