/- Contracts of order's Reader: Read, Bytes, Next, At, Err. Conditions: those written in each theorem. -/
import Derived.Test.YtnmklmaclmjfbaaDoorOD
import Derived.Test.YtnmklmaclmjfbaaDoorOE
namespace Go.Proofs.YtnmklmaclmjfbaaDoor
open Go.RowKit
/-- Block R holds a reader. -/
def IsRd (w : World) (R : Nat) (big : Bool) (s : ByteArray) (at_ : Nat) (err : Int) : Prop :=
  w.heap[R]? = some (.cells #[.bool big, .string s, .int .u64 at_, .int .i64 err] 90 (0, 0))
/-- Of the blocks that there were, R alone may have changed. -/
structure OnlyAt (R : Nat) (w w' : World) : Prop where
  os : w'.os = w.os
  tape : w'.tape = w.tape
  output : w'.output = w.output
  size : w.heap.size ≤ w'.heap.size
  block : ∀ k, k < w.heap.size → k ≠ R → w'.heap[k]? = w.heap[k]?
theorem OnlyAt.refl (R : Nat) (w : World) : OnlyAt R w w := ⟨rfl, rfl, rfl, Nat.le_refl _, fun _ _ _ => rfl⟩
theorem OnlyAt.trans {R : Nat} {a b c : World} (h : OnlyAt R a b) (k : OnlyAt R b c) : OnlyAt R a c :=
  ⟨k.os.trans h.os, k.tape.trans h.tape, k.output.trans h.output, Nat.le_trans h.size k.size, fun i hi hn => (k.block i (Nat.lt_of_lt_of_le hi h.size) hn).trans (h.block i hi hn)⟩
theorem OnlyAt.of_below {R : Nat} {a b : World} (h : Below a.heap.size a b) : OnlyAt R a b := ⟨h.os, h.tape, h.output, h.size, fun k hk _ => h.block k hk⟩
theorem OnlyAt.below {R B : Nat} {a b : World} (h : OnlyAt R a b) (hB : B ≤ a.heap.size) (hR : B ≤ R) : Below B a b :=
  ⟨h.os, h.tape, h.output, h.size, fun k hk => h.block k (by omega) (by omega)⟩
theorem OnlyAt.setCell (R j : Nat) (w : World) (v : Value) : OnlyAt R w (w.setCell ⟨R, j, none⟩ v) :=
  ⟨rfl, rfl, rfl, by simp, fun k _ hn => heap_setCell_other w _ k v hn⟩
theorem OnlyAt.drew {R : Nat} {w w' : World} (h : OnlyAt R w w') : OnlyAt R w w'.drew := ⟨h.os, h.tape, h.output, h.size, h.block⟩
theorem OnlyAt.drewN {R : Nat} {w w' : World} (h : OnlyAt R w w') (n : Nat) : OnlyAt R w (w'.drewN n) := by
  have := below_drewN (B := w'.heap.size) (Below.refl w'.heap.size w') (n := n)
  exact h.trans (OnlyAt.of_below this)
theorem OnlyAt.cell {R : Nat} {w w' : World} (h : OnlyAt R w w') {p : Addr} (hp : p.block < w.heap.size) (hR : p.block ≠ R) : w'.cell? p = w.cell? p := World.cell?_of_block (w := w) (h.block p.block hp hR)
theorem IsRd.lt {w : World} {R : Nat} {big : Bool} {s : ByteArray} {at_ : Nat} {err : Int} (h : IsRd w R big s at_ err) : R < w.heap.size := by
  unfold IsRd at h
  exact (Array.getElem?_eq_some_iff.1 h).1
theorem IsRd.cells {w : World} {R : Nat} {big : Bool} {s : ByteArray} {at_ : Nat} {err : Int} (h : IsRd w R big s at_ err) :
    w.cell? ⟨R, 0, none⟩ = some (.bool big) ∧ w.cell? ⟨R, 1, none⟩ = some (.string s) ∧ w.cell? ⟨R, 2, none⟩ = some (.int .u64 at_) ∧ w.cell? ⟨R, 3, none⟩ = some (.int .i64 err) ∧ ∀ j, w.frozen? ⟨R, j, none⟩ = false := by
  unfold IsRd at h
  simp [World.cell?, World.frozen?, h]
theorem IsRd.setAt {w : World} {R : Nat} {big : Bool} {s : ByteArray} {at_ : Nat} {err : Int} (h : IsRd w R big s at_ err) (n : Nat) : IsRd (w.setCell ⟨R, 2, none⟩ (.int .u64 n)) R big s n err := by
  unfold IsRd at h ⊢
  rw [heap_setCell_same w R 2 _ 90 _ h]
  simp
theorem IsRd.setErr {w : World} {R : Nat} {big : Bool} {s : ByteArray} {at_ : Nat} {err : Int} (h : IsRd w R big s at_ err) (n : Int) : IsRd (w.setCell ⟨R, 3, none⟩ (.int .i64 n)) R big s at_ n := by
  unfold IsRd at h ⊢
  rw [heap_setCell_same w R 3 _ 90 _ h]
  simp
theorem IsRd.only {w w' : World} {R : Nat} {big : Bool} {s : ByteArray} {at_ : Nat} {err : Int} (h : IsRd w R big s at_ err) (hb : Below w.heap.size w w') : IsRd w' R big s at_ err := by
  have hl := h.lt
  unfold IsRd at h ⊢
  rw [hb.block R hl]
  exact h
theorem read_any (big : Bool) (s : ByteArray) (n : Nat) (w : World) :
    Calls Tryd.prog 22 #[.agg #[.bool big], .string s, .int .u64 n] w fun e w' => e = .returned (.pointer (some ⟨w.heap.size + 1, 0, none⟩)) ∧ IsRd w' (w.heap.size + 1) big s n 0 ∧ Below w.heap.size w w' ∧ w'.heap.size = w.heap.size + 2 := by
  go_enter Tryd.func22, Tryd.ntmps22
  go_wp2
  go_ret
  refine ⟨rfl, ?_, ((Below.refl _ _).alloc (Nat.le_refl _) _).alloc (by simp) _, by simp⟩
  exact two_new _ _ _
theorem err_any (R : Nat) (big : Bool) (s : ByteArray) (n : Nat) (err : Int) (w : World) (h : IsRd w R big s n err) :
    Calls Tryd.prog 25 #[.pointer (some ⟨R, 0, none⟩)] w fun e w' => e = .returned (.int .i64 err) ∧ w = w' := by
  obtain ⟨c0, c1, c2, c3, hf⟩ := h.cells
  clear h
  go_enter Tryd.func25, Tryd.ntmps25
  go_wp2
  go_ret
  exact ⟨rfl, rfl⟩
set_option maxRecDepth 100000 in
set_option maxHeartbeats 400000 in
theorem bytes_yes (R : Nat) (big : Bool) (s : ByteArray) (n m : Nat) (w : World) (h : IsRd w R big s n 0) (hs : s.size ≤ 1048576) (h1 : n ≤ s.size) (h2 : m ≤ s.size - n) :
    Calls Tryd.prog 32 #[.pointer (some ⟨R, 0, none⟩), .int .u64 m] w fun e w' => e = .returned (.string (s.extract n (n + m))) ∧ IsRd w' R big s (n + m) 0 ∧ OnlyAt R w w' := by
  obtain ⟨c0, c1, c2, c3, hf⟩ := h.cells
  have hf3 := hf 3
  have hf2 := hf 2
  have HI := Lib.hid h; clear h hf
  have hw : IntKind.u64.wrap (s.size : Int) = (s.size : Int) := by rw [IntKind.wrap_u64]; omega
  have hsub : IntKind.u64.wrap ((s.size : Int) - (n : Int)) = ((s.size - n : Nat) : Int) := by rw [IntKind.wrap_u64]; omega
  have hadd : IntKind.u64.wrap ((n : Int) + (m : Int)) = ((n + m : Nat) : Int) := by rw [IntKind.wrap_u64]; omega
  have hd1 : decide (s.size < n) = false := by simp; omega
  have hd2 : decide (s.size - n < m) = false := by simp; omega
  go_enter Tryd.func32, Tryd.ntmps32
  go_wp2
  have hb0 : (0 : Int) ≤ (n : Int) := by omega
  have hb1 : (n : Int) ≤ (n : Int) + (m : Int) := by omega
  have hb2 : (n : Int) + (m : Int) ≤ (s.size : Int) := by omega
  clear hw hsub hadd hd1 hd2
  go_quiet (fail)
  go_wp2
  go_ret
  have hI := HI.out.setAt (n + m)
  rw [Int.natCast_add] at hI
  exact ⟨rfl, hI.only (below_drewN (Below.refl _ _) _), (OnlyAt.setCell R 2 w _).drewN _⟩
set_option maxRecDepth 100000 in
set_option maxHeartbeats 400000 in
theorem bytes_bad (R : Nat) (big : Bool) (s : ByteArray) (n m : Nat) (w : World) (h : IsRd w R big s n 3) :
    Calls Tryd.prog 32 #[.pointer (some ⟨R, 0, none⟩), .int .u64 m] w fun e w' => e = .returned (.string ⟨#[]⟩) ∧ IsRd w' R big s n 3 ∧ OnlyAt R w w' := by
  obtain ⟨c0, c1, c2, c3, hf⟩ := h.cells
  have HI := Lib.hid h; clear h hf
  go_enter Tryd.func32, Tryd.ntmps32
  go_wp2
  go_ret
  exact ⟨rfl, HI.out, OnlyAt.refl _ _⟩
set_option maxRecDepth 100000 in
set_option maxHeartbeats 400000 in
theorem bytes_beyond (R : Nat) (big : Bool) (s : ByteArray) (n m : Nat) (w : World) (h : IsRd w R big s n 0) (hs : s.size ≤ 1048576) (h1 : s.size < n) :
    Calls Tryd.prog 32 #[.pointer (some ⟨R, 0, none⟩), .int .u64 m] w fun e w' => e = .returned (.string ⟨#[]⟩) ∧ IsRd w' R big s n 3 ∧ OnlyAt R w w' := by
  obtain ⟨c0, c1, c2, c3, hf⟩ := h.cells
  have hf3 := hf 3
  have HI := Lib.hid h; clear h hf
  have hw : IntKind.u64.wrap (s.size : Int) = (s.size : Int) := by rw [IntKind.wrap_u64]; omega
  have hd1 : decide (s.size < n) = true := by simp; omega
  go_enter Tryd.func32, Tryd.ntmps32
  go_wp2
  go_ret
  exact ⟨rfl, HI.out.setErr 3, OnlyAt.setCell R 3 w _⟩
set_option maxRecDepth 100000 in
set_option maxHeartbeats 400000 in
theorem bytes_short (R : Nat) (big : Bool) (s : ByteArray) (n m : Nat) (w : World) (h : IsRd w R big s n 0) (hs : s.size ≤ 1048576) (h1 : n ≤ s.size) (h2 : s.size - n < m) :
    Calls Tryd.prog 32 #[.pointer (some ⟨R, 0, none⟩), .int .u64 m] w fun e w' => e = .returned (.string ⟨#[]⟩) ∧ IsRd w' R big s n 3 ∧ OnlyAt R w w' := by
  obtain ⟨c0, c1, c2, c3, hf⟩ := h.cells
  have hf3 := hf 3
  have HI := Lib.hid h; clear h hf
  have hw : IntKind.u64.wrap (s.size : Int) = (s.size : Int) := by rw [IntKind.wrap_u64]; omega
  have hsub : IntKind.u64.wrap ((s.size : Int) - (n : Int)) = ((s.size - n : Nat) : Int) := by rw [IntKind.wrap_u64]; omega
  have hd1 : decide (s.size < n) = false := by simp; omega
  have hd2 : decide (s.size - n < m) = true := by simp; omega
  go_enter Tryd.func32, Tryd.ntmps32
  go_wp2
  go_ret
  exact ⟨rfl, HI.out.setErr 3, OnlyAt.setCell R 3 w _⟩
/-- May so many bytes be read? -/
def may (s : ByteArray) (n m : Nat) (err : Int) : Prop := err = 0 ∧ n ≤ s.size ∧ m ≤ s.size - n
theorem bytes_no (R : Nat) (big : Bool) (s : ByteArray) (n m : Nat) (err : Int) (w : World) (h : IsRd w R big s n err) (he : err = 0 ∨ err = 3) (hs : s.size ≤ 1048576) (hno : ¬ may s n m err) :
    Calls Tryd.prog 32 #[.pointer (some ⟨R, 0, none⟩), .int .u64 m] w fun e w' => e = .returned (.string ⟨#[]⟩) ∧ IsRd w' R big s n 3 ∧ OnlyAt R w w' := by
  rcases he with rfl | rfl
  · by_cases h1 : n ≤ s.size
    · exact bytes_short R big s n m w h hs h1 (by unfold may at hno; omega)
    · exact bytes_beyond R big s n m w h hs (by omega)
  · exact bytes_bad R big s n m w h
set_option maxRecDepth 100000 in
set_option maxHeartbeats 400000 in
theorem next_size (R : Nat) (big : Bool) (s : ByteArray) (n : Nat) (x : Int) (err : Int) (w : World) (h : IsRd w R big s n err) (hx : x < 1 ∨ 8 < x) :
    Calls Tryd.prog 23 #[.pointer (some ⟨R, 0, none⟩), .int .i64 x] w fun e w' => e = .returned (.int .u64 0) ∧ IsRd w' R big s n 3 ∧ OnlyAt R w w' := by
  obtain ⟨c0, c1, c2, c3, hf⟩ := h.cells
  have hf3 := hf 3
  have HI := Lib.hid h; clear h hf
  go_enter Tryd.func23, Tryd.ntmps23
  go_wp2_with (go_at_call 38; refine (isSize_no _ _ hx).mono ?_; rintro e w' ⟨rfl, rfl⟩)
  go_ret
  exact ⟨rfl, HI.out.setErr 3, OnlyAt.setCell R 3 w _⟩
set_option maxRecDepth 100000 in
set_option maxHeartbeats 400000 in
theorem next_yes (R : Nat) (big : Bool) (s : ByteArray) (n m : Nat) (w : World) (h : IsRd w R big s n 0) (hs : s.size ≤ 1048576) (hm1 : 1 ≤ m) (hm8 : m ≤ 8) (h1 : n ≤ s.size) (h2 : m ≤ s.size - n) :
    Calls Tryd.prog 23 #[.pointer (some ⟨R, 0, none⟩), .int .i64 m] w fun e w' => e = .returned (.int .u64 (Num.getN big ((s.data.toList.drop n).take m) : Nat)) ∧ IsRd w' R big s (n + m) 0 ∧ OnlyAt R w w' := by
  obtain ⟨c0, c1, c2, c3, hf⟩ := h.cells
  have HI := Lib.hid h; clear h hf
  have hi1 : (1 : Int) ≤ (m : Int) := by omega
  have hi8 : (m : Int) ≤ 8 := by omega
  have hw : IntKind.u64.wrap (m : Int) = (m : Int) := by rw [IntKind.wrap_u64]; omega
  go_enter Tryd.func23, Tryd.ntmps23
  go_wp2_with (go_at_call 38; refine (isSize_yes _ _ (by omega) (by omega)).mono ?_; rintro e w' ⟨rfl, rfl⟩)
  go_region_held3 (fun w' => w'.cell? ⟨R, 0, none⟩ = some (.bool big)) (first | go_keep | exact (IsRd.cells hI1).1 | exact (IsRd.cells hI2).1)
    (first | (go_at_call 32; refine (bytes_yes R big s n m _ ?_ hs h1 h2).mono ?_; exact HI.out; rintro e w1 ⟨rfl, hI1, hO1⟩) | (go_at_call 39; refine (get_any big _ _).mono ?_; rintro e w2 ⟨rfl, hB2⟩; have hI2 := hI1.only hB2))
  go_wp2
  go_ret
  exact ⟨rfl, hI2, ((OnlyAt.refl R w).drew.trans hO1).trans (OnlyAt.of_below hB2)⟩
set_option maxRecDepth 100000 in
set_option maxHeartbeats 400000 in
theorem next_short (R : Nat) (big : Bool) (s : ByteArray) (n m : Nat) (err : Int) (w : World) (h : IsRd w R big s n err) (he : err = 0 ∨ err = 3) (hs : s.size ≤ 1048576) (hm1 : 1 ≤ m) (hm8 : m ≤ 8) (hno : ¬ may s n m err) :
    Calls Tryd.prog 23 #[.pointer (some ⟨R, 0, none⟩), .int .i64 m] w fun e w' => e = .returned (.int .u64 0) ∧ IsRd w' R big s n 3 ∧ OnlyAt R w w' := by
  obtain ⟨c0, c1, c2, c3, hf⟩ := h.cells
  have HI := Lib.hid h; clear h hf
  have HE := Lib.hid he; clear he
  have HNO := Lib.hid hno; clear hno
  have hi1 : (1 : Int) ≤ (m : Int) := by omega
  have hi8 : (m : Int) ≤ 8 := by omega
  have hw : IntKind.u64.wrap (m : Int) = (m : Int) := by rw [IntKind.wrap_u64]; omega
  go_enter Tryd.func23, Tryd.ntmps23
  go_wp2_with (go_at_call 38; refine (isSize_yes _ _ (by omega) (by omega)).mono ?_; rintro e w' ⟨rfl, rfl⟩)
  go_region_held3 (fun w' => w'.cell? ⟨R, 0, none⟩ = some (.bool big)) (first | go_keep | exact (IsRd.cells hI1).1 | exact (IsRd.cells hI2).1)
    (first | (go_at_call 32; refine (bytes_no R big s n m err _ ?_ HE.out hs HNO.out).mono ?_; exact HI.out; rintro e w1 ⟨rfl, hI1, hO1⟩) | (go_at_call 39; refine (get_none big _ _ ?_).mono ?_; (left; decide); rintro e w2 ⟨rfl, hB2⟩; have hI2 := hI1.only hB2))
  go_wp2
  go_ret
  exact ⟨rfl, hI2, ((OnlyAt.refl R w).drew.trans hO1).trans (OnlyAt.of_below hB2)⟩
theorem next_no (R : Nat) (big : Bool) (s : ByteArray) (n : Nat) (x : Int) (err : Int) (w : World) (h : IsRd w R big s n err) (he : err = 0 ∨ err = 3) (hs : s.size ≤ 1048576) (hno : ¬ (1 ≤ x ∧ x ≤ 8 ∧ may s n x.toNat err)) :
    Calls Tryd.prog 23 #[.pointer (some ⟨R, 0, none⟩), .int .i64 x] w fun e w' => e = .returned (.int .u64 0) ∧ IsRd w' R big s n 3 ∧ OnlyAt R w w' := by
  by_cases hx : 1 ≤ x ∧ x ≤ 8
  · obtain ⟨m, rfl⟩ := Int.eq_ofNat_of_zero_le (show 0 ≤ x by omega)
    exact next_short R big s n m err w h he hs (by omega) (by omega) (fun hm => hno ⟨hx.1, hx.2, by simpa using hm⟩)
  · exact next_size R big s n x err w h (by omega)
theorem nil_next (x : Int) (w : World) : Calls Tryd.prog 23 #[.pointer none, .int .i64 x] w fun e w' => e = .returned (.int .u64 0) ∧ w = w' := by
  go_enter Tryd.func23, Tryd.ntmps23
  go_wp2
  go_ret
  exact ⟨rfl, rfl⟩
theorem nil_bytes (x : Int) (w : World) : Calls Tryd.prog 32 #[.pointer none, .int .u64 x] w fun e w' => e = .returned (.string ⟨#[]⟩) ∧ w = w' := by
  go_enter Tryd.func32, Tryd.ntmps32
  go_wp2
  go_ret
  exact ⟨rfl, rfl⟩
theorem nil_err (w : World) : Calls Tryd.prog 25 #[.pointer none] w fun e w' => e = .returned (.int .i64 1) ∧ w = w' := by
  go_enter Tryd.func25, Tryd.ntmps25
  go_wp2
  go_ret
  exact ⟨rfl, rfl⟩
end Go.Proofs.YtnmklmaclmjfbaaDoor
