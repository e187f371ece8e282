/- TopRecords for any row of triples. Conditions: those written in each theorem. -/
import Derived.Test.YtnmklmaclmjfbaaQI
namespace Go.Proofs.Ytnmklmaclmjfbaa
open Go.RowKit
theorem trec_law (fl : Int) (A : Option Addr) (len cap : Nat) (R : Nat → Nat → Nat) (hlc : len ≤ 9223372036854775807) (hn : ∀ i, i < len → ∀ j, j < 3 → R i j < 4294967296) (w : World) (hR : RowT3 w A len R) :
    Calls Try.prog 9 #[.int .i64 fl, .slice A len cap] w fun e w' => e = .returned (.bool true) ∧ Below w.heap.size w w' := by
  have hex : ∀ i, ∃ S : ByteArray, i < len → RecP (bits BinOp.and IntKind.i64 fl 1 == 1) (bits BinOp.and IntKind.i64 fl 2 == 2) (i % 4) (R i 0) (R i 1) (R i 2) S := fun i => by
    by_cases hi : i < len
    · obtain ⟨S, hS⟩ := recP_ex (bits BinOp.and IntKind.i64 fl 1 == 1) (bits BinOp.and IntKind.i64 fl 2 == 2) (i % 4) (R i 0) (R i 1) (R i 2) (hn i hi 0 (by decide)) (hn i hi 1 (by decide)) (hn i hi 2 (by decide))
      exact ⟨S, fun _ => hS⟩
    · exact ⟨⟨#[]⟩, fun h => absurd h hi⟩
  exact trec_t fl A len cap (min len 12) R (by omega) hlc hn _ _ rfl rfl (fun i => Classical.choose (hex i)) (fun i hi => Classical.choose_spec (hex i) (by omega)) w hR
end Go.Proofs.Ytnmklmaclmjfbaa
