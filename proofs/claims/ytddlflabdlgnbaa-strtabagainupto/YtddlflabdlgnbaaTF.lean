/- Contracts of strtab's Add, a case each. Conditions: those written in each theorem. -/
import Derived.Test.YtddlflabdlgnbaaTE
namespace Go.Proofs.Ytddlflabdlgnbaa
open Go.RowKit Go.Shelf
theorem find_calls (t name : ByteArray) (hm : t.size ≤ maxLen) (w : World) : Calls Try.prog 19 #[.string t, .string name] w fun e w' => e = .returned (findOf t name) ∧ Below w.heap.size w w' :=
  callsIn_wide.1 (find_any 3 (Nat.le_refl _) t name hm w)
/-- Right's answer at a table. -/
def RightIs (t : ByteArray) (b : Bool) : Prop := ∀ w, Calls Try.prog 15 #[.string t] w fun e w' => e = .returned (.bool b) ∧ w = w'
theorem add_data (t name : ByteArray) (hr : RightIs t false) (w : World) :
    Calls Try.prog 20 #[.string t, .string name] w fun e w' => e = .returned (.tuple #[.string ⟨#[]⟩, .int .u64 0, .int .i64 6]) ∧ Below w.heap.size w w' := by
  have HR := Lib.hid hr; clear hr
  go_enter Try.func20, Try.ntmps20
  go_wp2_with fail
  refine (HR.out _).mono ?_
  rintro e w1 ⟨rfl, rfl⟩
  go_wp2
  exact bodyPost_ret (v := .tuple #[.string ⟨#[]⟩, .int .u64 0, .int .i64 6]) (by simp [results, Try.results20, go_sem]) rfl ⟨rfl, Below.refl _ _⟩
theorem add_name (t name : ByteArray) (hr : RightIs t true) (hz : Zero.z name.data.toList < name.size) (w : World) :
    Calls Try.prog 20 #[.string t, .string name] w fun e w' => e = .returned (.tuple #[.string ⟨#[]⟩, .int .u64 0, .int .i64 12]) ∧ Below w.heap.size w w' := by
  have HR := Lib.hid hr; clear hr
  have HN := Lib.hid (fun w => isName_no name w hz); clear hz
  go_enter Try.func20, Try.ntmps20
  go_wp2_with fail
  refine (HR.out _).mono ?_
  rintro e w1 ⟨rfl, rfl⟩
  go_wp2_with fail
  refine (HN.out _).mono ?_
  rintro e w1 ⟨rfl, rfl⟩
  go_wp2
  exact bodyPost_ret (v := .tuple #[.string ⟨#[]⟩, .int .u64 0, .int .i64 12]) (by simp [results, Try.results20, go_sem]) rfl ⟨rfl, Below.refl _ _⟩
theorem add_found (t name : ByteArray) (hm : t.size ≤ maxLen) (hr : RightIs t true) (hz : ¬ Zero.z name.data.toList < name.size) (at_ : Int) (hf : findOf t name = .tuple #[.int .u64 at_, .bool true]) (w : World) :
    Calls Try.prog 20 #[.string t, .string name] w fun e w' => e = .returned (.tuple #[.string t, .int .u64 at_, .int .i64 0]) ∧ Below w.heap.size w w' := by
  have HR := Lib.hid hr; clear hr
  have HN := Lib.hid (fun w => isName_yes name w hz); clear hz
  have hF := find_calls t name hm
  rw [hf] at hF
  have HF := Lib.hid hF; clear hF hf
  go_enter Try.func20, Try.ntmps20
  go_wp2_with fail
  refine (HR.out _).mono ?_
  rintro e w1 ⟨rfl, rfl⟩
  go_wp2_with fail
  refine (HN.out _).mono ?_
  rintro e w1 ⟨rfl, rfl⟩
  go_wp2_with fail
  refine (HF.out _).mono ?_
  rintro e w1 ⟨rfl, hB⟩
  go_wp2
  exact bodyPost_ret (v := .tuple #[.string t, .int .u64 at_, .int .i64 0]) (by simp [results, Try.results20, go_sem]) rfl ⟨rfl, hB⟩
theorem add_empty (hf : findOf ⟨#[]⟩ ⟨#[]⟩ = .tuple #[.int .u64 0, .bool false]) (hr : RightIs ⟨#[]⟩ true) (w : World) :
    Calls Try.prog 20 #[.string ⟨#[]⟩, .string ⟨#[]⟩] w fun e w' => e = .returned (.tuple #[.string ⟨#[0]⟩, .int .u64 0, .int .i64 0]) ∧ Below w.heap.size w w' := by
  have HR := Lib.hid hr; clear hr
  have HN := Lib.hid (fun w => isName_yes ⟨#[]⟩ w (by decide))
  have hF := find_calls ⟨#[]⟩ ⟨#[]⟩ (by unfold maxLen; decide)
  rw [hf] at hF
  have HF := Lib.hid hF; clear hF hf
  go_enter Try.func20, Try.ntmps20
  go_wp2_with fail
  refine (HR.out _).mono ?_
  rintro e w1 ⟨rfl, rfl⟩
  go_wp2_with fail
  refine (HN.out _).mono ?_
  rintro e w1 ⟨rfl, rfl⟩
  go_wp2_with fail
  refine (HF.out _).mono ?_
  rintro e w1 ⟨rfl, hB⟩
  go_wp2
  exact bodyPost_ret (v := .tuple #[.string ⟨#[0]⟩, .int .u64 0, .int .i64 0]) (by simp [results, Try.results20, go_sem]) rfl ⟨rfl, hB⟩
theorem add_long (t name : ByteArray) (hm : t.size ≤ 4294967296) (hn : name.size ≤ 4294967296) (hr : RightIs t true) (hz : ¬ Zero.z name.data.toList < name.size) (hf : findOf t name = .tuple #[.int .u64 0, .bool false]) (hnt : (t.toList == []) = false) (hne : (name.toList == []) = false) (hl : 1048576 < t.size + name.size + 1) (w : World) :
    Calls Try.prog 20 #[.string t, .string name] w fun e w' => e = .returned (.tuple #[.string ⟨#[]⟩, .int .u64 0, .int .i64 2]) ∧ Below w.heap.size w w' := by
  have HR := Lib.hid hr; clear hr
  have HN := Lib.hid (fun w => isName_yes name w hz); clear hz
  have hF := find_calls t name (by unfold maxLen; omega)
  rw [hf] at hF
  have HF := Lib.hid hF; clear hF hf
  have hq1 : (name.toList == []) = false := hne
  have hq2 : name.toList.isEmpty = false := by cases h : name.toList <;> simp_all
  have ht1 : (t.toList == []) = false := hnt
  have ht2 : t.toList.isEmpty = false := by cases h : t.toList <;> simp_all
  have hw1 : IntKind.i64.wrap ((t.size : Int) + (name.size : Int)) = (t.size : Int) + (name.size : Int) := IntWalk.i64_in _ (by omega)
  have hw2 : IntKind.i64.wrap ((t.size : Int) + (name.size : Int) + 1) = (t.size : Int) + (name.size : Int) + 1 := IntWalk.i64_in _ (by omega)
  have hd : (1048576 : Int) < (t.size : Int) + (name.size : Int) + 1 := by omega
  go_enter Try.func20, Try.ntmps20
  go_wp2_with fail
  refine (HR.out _).mono ?_
  rintro e w1 ⟨rfl, rfl⟩
  go_wp2_with fail
  refine (HN.out _).mono ?_
  rintro e w1 ⟨rfl, rfl⟩
  go_wp2_with fail
  refine (HF.out _).mono ?_
  rintro e w1 ⟨rfl, hB⟩
  go_wp2
  exact bodyPost_ret (v := .tuple #[.string ⟨#[]⟩, .int .u64 0, .int .i64 2]) (by simp [results, Try.results20, go_sem]) rfl ⟨rfl, hB⟩
set_option maxRecDepth 100000 in
theorem add_new (t name : ByteArray) (hm : t.size ≤ 4294967296) (hr : RightIs t true) (hz : ¬ Zero.z name.data.toList < name.size) (hf : findOf t name = .tuple #[.int .u64 0, .bool false]) (hnt : (t.toList == []) = false) (hne : (name.toList == []) = false) (hl : t.size + name.size + 1 ≤ 1048576) (w : World) :
    Calls Try.prog 20 #[.string t, .string name] w fun e w' => e = .returned (.tuple #[.string (t ++ name ++ ⟨#[0]⟩), .int .u64 (t.size : Int), .int .i64 0]) ∧ Below w.heap.size w w' := by
  have HR := Lib.hid hr; clear hr
  have HN := Lib.hid (fun w => isName_yes name w hz); clear hz
  have hF := find_calls t name (by unfold maxLen; omega)
  rw [hf] at hF
  have HF := Lib.hid hF; clear hF hf
  have hq1 : (name.toList == []) = false := hne
  have hq2 : name.toList.isEmpty = false := by cases h : name.toList <;> simp_all
  have ht1 : (t.toList == []) = false := hnt
  have ht2 : t.toList.isEmpty = false := by cases h : t.toList <;> simp_all
  have hw1 : IntKind.i64.wrap ((t.size : Int) + (name.size : Int)) = (t.size : Int) + (name.size : Int) := IntWalk.i64_in _ (by omega)
  have hw2 : IntKind.i64.wrap ((t.size : Int) + (name.size : Int) + 1) = (t.size : Int) + (name.size : Int) + 1 := IntWalk.i64_in _ (by omega)
  have hd : decide ((1048576 : Int) < (t.size : Int) + (name.size : Int) + 1) = false := by rw [decide_eq_false_iff_not]; omega
  have n1 : ¬ 9223372036854775807 < t.size + name.size := by omega
  have n2 : ¬ 9223372036854775807 < t.size + name.size + 1 := by omega
  have hu : IntKind.u64.wrap (t.size : Int) = (t.size : Int) := by rw [IntKind.wrap_u64]; omega
  have HL := Lib.hid hl; clear hl
  go_enter Try.func20, Try.ntmps20
  go_wp2_with fail
  refine (HR.out _).mono ?_
  rintro e w1 ⟨rfl, rfl⟩
  go_wp2_with fail
  refine (HN.out _).mono ?_
  rintro e w1 ⟨rfl, rfl⟩
  go_wp2_with fail
  refine (HF.out _).mono ?_
  rintro e w1 ⟨rfl, hB⟩
  go_wp2
  exact bodyPost_ret (v := .tuple #[.string (t ++ name ++ ⟨#[0]⟩), .int .u64 (t.size : Int), .int .i64 0]) (by simp [results, Try.results20, go_sem]) rfl ⟨rfl, hB⟩
theorem add_long0 (name : ByteArray) (hn : name.size ≤ 4294967296) (hr : RightIs ⟨#[]⟩ true) (hz : ¬ Zero.z name.data.toList < name.size) (hf : findOf ⟨#[]⟩ name = .tuple #[.int .u64 0, .bool false]) (hne : (name.toList == []) = false) (hl : 1048576 < 1 + name.size + 1) (w : World) :
    Calls Try.prog 20 #[.string ⟨#[]⟩, .string name] w fun e w' => e = .returned (.tuple #[.string ⟨#[]⟩, .int .u64 0, .int .i64 2]) ∧ Below w.heap.size w w' := by
  have HR := Lib.hid hr; clear hr
  have HN := Lib.hid (fun w => isName_yes name w hz); clear hz
  have hF := find_calls ⟨#[]⟩ name (by unfold maxLen; decide)
  rw [hf] at hF
  have HF := Lib.hid hF; clear hF hf
  have hq1 : (name.toList == []) = false := hne
  have hq2 : name.toList.isEmpty = false := by cases h : name.toList <;> simp_all
  have hw1 : IntKind.i64.wrap (1 + (name.size : Int)) = 1 + (name.size : Int) := IntWalk.i64_in _ (by omega)
  have hw2 : IntKind.i64.wrap (1 + (name.size : Int) + 1) = 1 + (name.size : Int) + 1 := IntWalk.i64_in _ (by omega)
  have hd : (1048576 : Int) < 1 + (name.size : Int) + 1 := by omega
  have HL := Lib.hid hl; clear hl
  go_enter Try.func20, Try.ntmps20
  go_wp2_with fail
  refine (HR.out _).mono ?_
  rintro e w1 ⟨rfl, rfl⟩
  go_wp2_with fail
  refine (HN.out _).mono ?_
  rintro e w1 ⟨rfl, rfl⟩
  go_wp2_with fail
  refine (HF.out _).mono ?_
  rintro e w1 ⟨rfl, hB⟩
  go_wp2
  exact bodyPost_ret (v := .tuple #[.string ⟨#[]⟩, .int .u64 0, .int .i64 2]) (by simp [results, Try.results20, go_sem]) rfl ⟨rfl, hB⟩
set_option maxRecDepth 100000 in
theorem add_new0 (name : ByteArray) (hr : RightIs ⟨#[]⟩ true) (hz : ¬ Zero.z name.data.toList < name.size) (hf : findOf ⟨#[]⟩ name = .tuple #[.int .u64 0, .bool false]) (hne : (name.toList == []) = false) (hl : 1 + name.size + 1 ≤ 1048576) (w : World) :
    Calls Try.prog 20 #[.string ⟨#[]⟩, .string name] w fun e w' => e = .returned (.tuple #[.string (⟨#[0]⟩ ++ name ++ ⟨#[0]⟩), .int .u64 1, .int .i64 0]) ∧ Below w.heap.size w w' := by
  have HR := Lib.hid hr; clear hr
  have HN := Lib.hid (fun w => isName_yes name w hz); clear hz
  have hF := find_calls ⟨#[]⟩ name (by unfold maxLen; decide)
  rw [hf] at hF
  have HF := Lib.hid hF; clear hF hf
  have hq1 : (name.toList == []) = false := hne
  have hq2 : name.toList.isEmpty = false := by cases h : name.toList <;> simp_all
  have hw1 : IntKind.i64.wrap (1 + (name.size : Int)) = 1 + (name.size : Int) := IntWalk.i64_in _ (by omega)
  have hw2 : IntKind.i64.wrap (1 + (name.size : Int) + 1) = 1 + (name.size : Int) + 1 := IntWalk.i64_in _ (by omega)
  have n1 : ¬ 9223372036854775807 < 1 + name.size := by omega
  have n2 : ¬ 9223372036854775807 < 1 + name.size + 1 := by omega
  have hd : decide ((1048576 : Int) < 1 + (name.size : Int) + 1) = false := by rw [decide_eq_false_iff_not]; omega
  have HL := Lib.hid hl; clear hl
  go_enter Try.func20, Try.ntmps20
  go_wp2_with fail
  refine (HR.out _).mono ?_
  rintro e w1 ⟨rfl, rfl⟩
  go_wp2_with fail
  refine (HN.out _).mono ?_
  rintro e w1 ⟨rfl, rfl⟩
  go_wp2_with fail
  refine (HF.out _).mono ?_
  rintro e w1 ⟨rfl, hB⟩
  go_wp2
  exact bodyPost_ret (v := .tuple #[.string (⟨#[0]⟩ ++ name ++ ⟨#[0]⟩), .int .u64 1, .int .i64 0]) (by simp [results, Try.results20, go_sem]) rfl ⟨rfl, hB⟩
end Go.Proofs.Ytddlflabdlgnbaa
