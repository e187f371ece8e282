/- strings.Trim at a cutset of the one byte nought. Conditions: those written in each theorem. -/
import Derived.Test.YtnmklmaclmjfbaaDoorDA
import Derived.Shelf.Strings.Trim
import Derived.Deep.RegionHeld3
namespace Go.Proofs.YtnmklmaclmjfbaaDoor
open Go.RowKit Go.Shelf
def Tryd.lays231_ren : Go.Shelf.Ren := ⟨fun | 231 => 43 | n => n, fun | n => n, fun | n => n⟩
theorem Tryd.lays231 : Go.Proofs.Lays.n231 Tryd.prog Tryd.lays231_ren := {
  mixed := by kernel_rfl
  f231 := Tryd.func43.trans (congrArg some (by kernel_rfl))
  t3 := Tryd.underlying3
  a3 := Tryd.isAgg3
  z3 := Tryd.sizeOf3
  v3 := Tryd.zeroValue3
  t4 := Tryd.underlying4
  a4 := Tryd.isAgg4
  z4 := Tryd.sizeOf4
  v4 := Tryd.zeroValue4
  t5 := Tryd.underlying5
  a5 := Tryd.isAgg5
  z5 := Tryd.sizeOf5
  v5 := Tryd.zeroValue5
  t9 := Tryd.underlying9
  a9 := Tryd.isAgg9
  z9 := Tryd.sizeOf9
  v9 := Tryd.zeroValue9 }
def Tryd.lays232_ren : Go.Shelf.Ren := ⟨fun | 232 => 44 | n => n, fun | n => n, fun | n => n⟩
theorem Tryd.lays232 : Go.Proofs.Lays.n232 Tryd.prog Tryd.lays232_ren := {
  mixed := by kernel_rfl
  f232 := Tryd.func44.trans (congrArg some (by kernel_rfl))
  t3 := Tryd.underlying3
  a3 := Tryd.isAgg3
  z3 := Tryd.sizeOf3
  v3 := Tryd.zeroValue3
  t4 := Tryd.underlying4
  a4 := Tryd.isAgg4
  z4 := Tryd.sizeOf4
  v4 := Tryd.zeroValue4
  t5 := Tryd.underlying5
  a5 := Tryd.isAgg5
  z5 := Tryd.sizeOf5
  v5 := Tryd.zeroValue5
  t9 := Tryd.underlying9
  a9 := Tryd.isAgg9
  z9 := Tryd.sizeOf9
  v9 := Tryd.zeroValue9 }
def trimZ (s : ByteArray) : ByteArray := ⟨(Lib.trimB s.data.toList 0).toArray⟩
theorem right_any (s : ByteArray) (w : World) (hs : s.size ≤ 9223372036854775807) : Calls Tryd.prog 44 #[.string s, .int .u8 0] w fun e w' => e = .returned (.string ⟨(Lib.trimRightB s.data.toList 0).toArray⟩) ∧ w' = w :=
  Any.strings_trimRightByte Tryd.lays232 s 0 w hs
theorem left_any (s : ByteArray) (w : World) : Calls Tryd.prog 43 #[.string s, .int .u8 0] w fun e w' => e = .returned (.string ⟨(Lib.trimLeftB s.data.toList 0).toArray⟩) ∧ w' = w :=
  Any.strings_trimLeftByte Tryd.lays231 s 0 w
theorem dw_nil (l : List UInt8) : l.dropWhile (· == 0) = [] ↔ l.all (· == 0) = true := by
  induction l with
  | nil => simp
  | cons a t ih =>
    by_cases h : (a == 0) = true
    · rw [List.dropWhile_cons, if_pos h, ih, List.all_cons, h, Bool.true_and]
    · rw [List.dropWhile_cons, if_neg h, List.all_cons]
      simp only [Bool.not_eq_true] at h
      rw [h]
      simp
theorem dw_head (l : List UInt8) (a : UInt8) (t : List UInt8) (h : l.dropWhile (· == 0) = a :: t) : (a == 0) = false := by
  induction l with
  | nil => cases h
  | cons b l ih =>
    by_cases hb : (b == 0) = true
    · rw [List.dropWhile_cons, if_pos hb] at h
      exact ih h
    · rw [List.dropWhile_cons, if_neg hb] at h
      cases h
      simpa using hb
theorem trimZ_all (s : ByteArray) : (trimZ s).data.toList = [] ↔ isZ s = true := by
  have key : ∀ l : List UInt8, Lib.trimB l 0 = [] ↔ l.all (· == 0) = true := by
    intro l
    unfold Lib.trimB Lib.trimLeftB Lib.trimRightB
    have hr : l.all (· == 0) = l.reverse.all (· == 0) := by rw [List.all_reverse]
    cases hd : l.reverse.dropWhile (· == 0) with
    | nil =>
      have h2 := (dw_nil _).1 hd
      rw [hr, h2]
      simp
    | cons a t =>
      have h3 := dw_head _ _ _ hd
      constructor
      · intro h
        have h4 := (dw_nil _).1 h
        rw [List.all_reverse, List.all_cons, h3] at h4
        cases h4
      · intro h
        rw [hr] at h
        have h4 := (dw_nil _).2 h
        rw [hd] at h4
        cases h4
  exact key _
set_option maxRecDepth 100000 in
set_option maxHeartbeats 1000000 in
theorem trim_any (s : ByteArray) (w : World) (hs : s.size ≤ 9223372036854775807) :
    Calls Tryd.prog 33 #[.string s, .string ⟨#[0]⟩] w fun e w' => e = .returned (.string (trimZ s)) ∧ Below w.heap.size w w' := by
  by_cases h0 : s.data.toList = []
  · have he : s = ⟨#[]⟩ := ba_ext h0
    subst he
    go_enter Tryd.func33, Tryd.ntmps33
    go_wp2
    go_ret
    exact ⟨rfl, Below.refl _ _⟩
  · have ht : s.toList = s.data.toList := ByteArray.toList_eq s
    have h1 : ¬ s.toList = [] := by rw [ht]; exact h0
    have h2 : s.toList.isEmpty = false := by rw [ht]; cases hq : s.data.toList with
      | nil => exact absurd hq h0
      | cons a t => rfl
    clear ht h0
    go_enter Tryd.func33, Tryd.ntmps33
    go_wp2_with fail
    go_region_held3 (fun w' => Below w.heap.size w w') (first | exact (Below.refl _ _).drew | assumption | go_keep) (first | (go_at_call 44; refine (right_any _ _ hs).mono ?_; rintro e w' ⟨rfl, rfl⟩) | (go_at_call 43; refine (left_any _ _).mono ?_; rintro e w' ⟨rfl, rfl⟩))
    all_goals ((try go_wp2); go_ret; exact ⟨rfl, (Below.refl _ _).drew⟩)
end Go.Proofs.YtnmklmaclmjfbaaDoor
