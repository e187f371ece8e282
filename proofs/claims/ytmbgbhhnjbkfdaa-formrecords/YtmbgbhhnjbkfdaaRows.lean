/-
  No cell of these rows narrows 'for every input' (looked for: loops, veiled, ifaces, maps, wideKeys, modest, calm, conditions, laid).
  DERIVED. THE GIVEN ROWS OF THIS SEAT. 7 by the template 'for every input the law returns true; each argument reads behind the call as it read before'; 0 by the template 'total and deterministic' (their statements: YtmbgbhhnjbkfdaaTotals.lean).
  GIVEN WITH THE SEED: the statements are not yours to turn. If you find one false, say at which input.
  Laid BY PROGRAM, IN A SANDBOX (cutbox-rows.mjs): the forced cells as the released guide's own fill.sh prints them over the translation dcb1a9d9625f42b3… (all of the seat's roots in one cut). By AI agents, Wed Nov 11 2026. No macro, syntax, notation, axiom, sorry.
-/
import Derived.Test.YtmbgbhhnjbkfdaaChecked
import GoSem.Claim
import GoSem.ClaimJoined
import GoSem.ClaimMapViews
import Derived.JoinedTies
import Derived.KernelRfl
namespace Go.Proofs.Ytmbgbhhnjbkfdaa
/- THE CELL 'sum', in the pinned program and in every row, IS THE sha256 OF THE DUMP (.gsa) THAT YtmbgbhhnjbkfdaaProg.lean LOADS. Nothing in Lean hashes anything: it is a label: what it is worth is what the hold of that sum in a sandbox is worth. -/
noncomputable def Try.pinned : Pinned := { name := "ytmbgbhhnjbkfdaa", sum := "dcb1a9d9625f42b36638463065d704f51f149510117a53c7dcaa75f0695d7b92", checked := Try.checked }
namespace Rows
def none {H : Type} : Left H := { results := [], args := [] }

/-- 'graverlaw03.StrtabTexts': WHATEVER THE INPUT: true; the input reads as it did. -/
def strtabTextsSpec : ChangeSpec := { name := "strtabTexts", fn := fun _ => fun
  | [d1, d2] => { results := [.lit (.bool true)], args := [d1, d2] }
  | _ => none }
def strtabTextsRow : OpenClaim := { program := "ytmbgbhhnjbkfdaa", sum := "dcb1a9d9625f42b36638463065d704f51f149510117a53c7dcaa75f0695d7b92", func := "graver/graverlaw03.StrtabTexts", spec := "strtabTexts", inPlace := ["internal/bytealg.IndexByteString", "internal/bytealg.abigen_runtime_cmpstring", "internal/abi.NoEscape", "internal/bytealg.IndexString"], unfollowed := true, recurses := true, named := ["internal/bytealg.MaxLen"], apart := false }
def StrtabTextsSaid : Prop := strtabTextsRow.holds Try.pinned (OpenSpec.ofChange strtabTextsSpec)

/-- ITS FALSE NEIGHBOUR: 'it returns false'. Refute it at one input. -/
def strtabTextsWrong : ChangeSpec := { name := "strtabTexts", fn := fun _ => fun
  | [d1, d2] => { results := [.lit (.bool false)], args := [d1, d2] }
  | _ => none }
def StrtabTextsWrongFalsely : Prop := strtabTextsRow.holds Try.pinned (OpenSpec.ofChange strtabTextsWrong)

/-- 'graverlaw03.StrtabBuilds': WHATEVER THE INPUT: true; the input reads as it did. -/
def strtabBuildsSpec : ChangeSpec := { name := "strtabBuilds", fn := fun _ => fun
  | [d] => { results := [.lit (.bool true)], args := [d] }
  | _ => none }
def strtabBuildsRow : OpenClaim := { program := "ytmbgbhhnjbkfdaa", sum := "dcb1a9d9625f42b36638463065d704f51f149510117a53c7dcaa75f0695d7b92", func := "graver/graverlaw03.StrtabBuilds", spec := "strtabBuilds", inPlace := ["internal/bytealg.IndexByteString", "internal/bytealg.abigen_runtime_cmpstring", "internal/abi.NoEscape", "internal/bytealg.IndexString"], unfollowed := true, recurses := true, named := ["internal/bytealg.MaxLen"], apart := false }
def StrtabBuildsSaid : Prop := strtabBuildsRow.holds Try.pinned (OpenSpec.ofChange strtabBuildsSpec)

/-- ITS FALSE NEIGHBOUR: 'it returns false'. Refute it at one input. -/
def strtabBuildsWrong : ChangeSpec := { name := "strtabBuilds", fn := fun _ => fun
  | [d] => { results := [.lit (.bool false)], args := [d] }
  | _ => none }
def StrtabBuildsWrongFalsely : Prop := strtabBuildsRow.holds Try.pinned (OpenSpec.ofChange strtabBuildsWrong)

/-- 'graverlaw03.StrtabAgain': WHATEVER THE INPUT: true; the input reads as it did. -/
def strtabAgainSpec : ChangeSpec := { name := "strtabAgain", fn := fun _ => fun
  | [d1, d2] => { results := [.lit (.bool true)], args := [d1, d2] }
  | _ => none }
def strtabAgainRow : OpenClaim := { program := "ytmbgbhhnjbkfdaa", sum := "dcb1a9d9625f42b36638463065d704f51f149510117a53c7dcaa75f0695d7b92", func := "graver/graverlaw03.StrtabAgain", spec := "strtabAgain", inPlace := ["internal/bytealg.IndexByteString", "internal/bytealg.abigen_runtime_cmpstring", "internal/abi.NoEscape", "internal/bytealg.IndexString"], unfollowed := true, recurses := true, named := ["internal/bytealg.MaxLen"], apart := false }
def StrtabAgainSaid : Prop := strtabAgainRow.holds Try.pinned (OpenSpec.ofChange strtabAgainSpec)

/-- ITS FALSE NEIGHBOUR: 'it returns false'. Refute it at one input. -/
def strtabAgainWrong : ChangeSpec := { name := "strtabAgain", fn := fun _ => fun
  | [d1, d2] => { results := [.lit (.bool false)], args := [d1, d2] }
  | _ => none }
def StrtabAgainWrongFalsely : Prop := strtabAgainRow.holds Try.pinned (OpenSpec.ofChange strtabAgainWrong)

/-- 'graverlaw03.StrtabAdds': WHATEVER THE INPUT: true; the input reads as it did. -/
def strtabAddsSpec : ChangeSpec := { name := "strtabAdds", fn := fun _ => fun
  | [d1, d2, d3] => { results := [.lit (.bool true)], args := [d1, d2, d3] }
  | _ => none }
def strtabAddsRow : OpenClaim := { program := "ytmbgbhhnjbkfdaa", sum := "dcb1a9d9625f42b36638463065d704f51f149510117a53c7dcaa75f0695d7b92", func := "graver/graverlaw03.StrtabAdds", spec := "strtabAdds", inPlace := ["internal/bytealg.IndexByteString", "internal/bytealg.abigen_runtime_cmpstring", "internal/abi.NoEscape", "internal/bytealg.IndexString"], unfollowed := true, recurses := true, named := ["internal/bytealg.MaxLen"], apart := false }
def StrtabAddsSaid : Prop := strtabAddsRow.holds Try.pinned (OpenSpec.ofChange strtabAddsSpec)

/-- ITS FALSE NEIGHBOUR: 'it returns false'. Refute it at one input. -/
def strtabAddsWrong : ChangeSpec := { name := "strtabAdds", fn := fun _ => fun
  | [d1, d2, d3] => { results := [.lit (.bool false)], args := [d1, d2, d3] }
  | _ => none }
def StrtabAddsWrongFalsely : Prop := strtabAddsRow.holds Try.pinned (OpenSpec.ofChange strtabAddsWrong)

/-- 'graverlaw04.FormReads': WHATEVER THE INPUT: true; the input reads as it did. -/
def formReadsSpec : ChangeSpec := { name := "formReads", fn := fun _ => fun
  | [d] => { results := [.lit (.bool true)], args := [d] }
  | _ => none }
def formReadsRow : OpenClaim := { program := "ytmbgbhhnjbkfdaa", sum := "dcb1a9d9625f42b36638463065d704f51f149510117a53c7dcaa75f0695d7b92", func := "graver/graverlaw04.FormReads", spec := "formReads", apart := false }
def FormReadsSaid : Prop := formReadsRow.holds Try.pinned (OpenSpec.ofChange formReadsSpec)

/-- ITS FALSE NEIGHBOUR: 'it returns false'. Refute it at one input. -/
def formReadsWrong : ChangeSpec := { name := "formReads", fn := fun _ => fun
  | [d] => { results := [.lit (.bool false)], args := [d] }
  | _ => none }
def FormReadsWrongFalsely : Prop := formReadsRow.holds Try.pinned (OpenSpec.ofChange formReadsWrong)

/-- 'graverlaw04.FormPads': WHATEVER THE INPUT: true; the input reads as it did. -/
def formPadsSpec : ChangeSpec := { name := "formPads", fn := fun _ => fun
  | [d1, d2, d3] => { results := [.lit (.bool true)], args := [d1, d2, d3] }
  | _ => none }
def formPadsRow : OpenClaim := { program := "ytmbgbhhnjbkfdaa", sum := "dcb1a9d9625f42b36638463065d704f51f149510117a53c7dcaa75f0695d7b92", func := "graver/graverlaw04.FormPads", spec := "formPads", apart := false }
def FormPadsSaid : Prop := formPadsRow.holds Try.pinned (OpenSpec.ofChange formPadsSpec)

/-- ITS FALSE NEIGHBOUR: 'it returns false'. Refute it at one input. -/
def formPadsWrong : ChangeSpec := { name := "formPads", fn := fun _ => fun
  | [d1, d2, d3] => { results := [.lit (.bool false)], args := [d1, d2, d3] }
  | _ => none }
def FormPadsWrongFalsely : Prop := formPadsRow.holds Try.pinned (OpenSpec.ofChange formPadsWrong)

/-- 'graverlaw04.FormRecords': WHATEVER THE INPUT: true; the input reads as it did. -/
def formRecordsSpec : ChangeSpec := { name := "formRecords", fn := fun _ => fun
  | [d1, d2, d3] => { results := [.lit (.bool true)], args := [d1, d2, d3] }
  | _ => none }
def formRecordsRow : OpenClaim := { program := "ytmbgbhhnjbkfdaa", sum := "dcb1a9d9625f42b36638463065d704f51f149510117a53c7dcaa75f0695d7b92", func := "graver/graverlaw04.FormRecords", spec := "formRecords", inPlace := ["internal/abi.NoEscape"], apart := false }
def FormRecordsSaid : Prop := formRecordsRow.holds Try.pinned (OpenSpec.ofChange formRecordsSpec)

/-- ITS FALSE NEIGHBOUR: 'it returns false'. Refute it at one input. -/
def formRecordsWrong : ChangeSpec := { name := "formRecords", fn := fun _ => fun
  | [d1, d2, d3] => { results := [.lit (.bool false)], args := [d1, d2, d3] }
  | _ => none }
def FormRecordsWrongFalsely : Prop := formRecordsRow.holds Try.pinned (OpenSpec.ofChange formRecordsWrong)

/- THE SECOND FORM. 'bulk': how many values and letters a reading holds, each counted each time it is reached (what is shared counts as often as it is met; a slice's spare places count too). A statement '..UptoSaid' is the law's where the arguments, and the package variables that the reading takes, are together of bulk at most 1048576: NARROWER than '..Said'. Prove '..Said' where nothing that the law and all that it calls make is longer than what came in: it says more and counts as full. Else prove '..UptoSaid'. A law counts once. -/
mutual
def uptoBulk {H : Type} : DataW H → Nat
  | .lit (.string bytes) => bytes.length + 1
  | .lit _ => 1
  | .nil => 1
  | .ptr d => uptoBulk d + 1
  | .slice elems spare => uptoBulkAll elems + uptoBulkAll spare + 1
  | .agg parts => uptoBulkAll parts + 1
  | .iface _ d => uptoBulk d + 1
  | .map entries => uptoBulkEntries entries + 1
  | .held _ => 1
def uptoBulkAll {H : Type} : List (DataW H) → Nat
  | [] => 0
  | d :: r => uptoBulk d + uptoBulkAll r
def uptoBulkEntries {H : Type} : List (Lit × DataW H) → Nat
  | [] => 0
  | x :: r => uptoBulkEntry x + uptoBulkEntries r
def uptoBulkEntry {H : Type} : Lit × DataW H → Nat
  | (.string bytes, d) => bytes.length + uptoBulk d + 1
  | (_, d) => uptoBulk d + 1
 end
def uptoSmall : (H : Type) → List (DataW H) → Bool := fun _ ds => decide (uptoBulkAll ds ≤ 1048576)
def OpenSpec.upto (s : _root_.Go.ChangeSpec) : _root_.Go.OpenSpec := { _root_.Go.OpenSpec.ofChange s with cond := some uptoSmall }

/-- 'graverlaw03.StrtabTexts', WHERE WHAT IT READS IS OF BULK AT MOST 1048576: true; the input reads as it did. -/
def strtabTextsUptoRow : OpenClaim := { program := "ytmbgbhhnjbkfdaa", sum := "dcb1a9d9625f42b36638463065d704f51f149510117a53c7dcaa75f0695d7b92", func := "graver/graverlaw03.StrtabTexts", spec := "strtabTexts", inPlace := ["internal/bytealg.IndexByteString", "internal/bytealg.abigen_runtime_cmpstring", "internal/abi.NoEscape", "internal/bytealg.IndexString"], unfollowed := true, recurses := true, named := ["internal/bytealg.MaxLen"], apart := false, narrowed := true }
def StrtabTextsUptoSaid : Prop := strtabTextsUptoRow.holds Try.pinned (OpenSpec.upto strtabTextsSpec)

/-- 'graverlaw03.StrtabBuilds', WHERE WHAT IT READS IS OF BULK AT MOST 1048576: true; the input reads as it did. -/
def strtabBuildsUptoRow : OpenClaim := { program := "ytmbgbhhnjbkfdaa", sum := "dcb1a9d9625f42b36638463065d704f51f149510117a53c7dcaa75f0695d7b92", func := "graver/graverlaw03.StrtabBuilds", spec := "strtabBuilds", inPlace := ["internal/bytealg.IndexByteString", "internal/bytealg.abigen_runtime_cmpstring", "internal/abi.NoEscape", "internal/bytealg.IndexString"], unfollowed := true, recurses := true, named := ["internal/bytealg.MaxLen"], apart := false, narrowed := true }
def StrtabBuildsUptoSaid : Prop := strtabBuildsUptoRow.holds Try.pinned (OpenSpec.upto strtabBuildsSpec)

/-- 'graverlaw03.StrtabAgain', WHERE WHAT IT READS IS OF BULK AT MOST 1048576: true; the input reads as it did. -/
def strtabAgainUptoRow : OpenClaim := { program := "ytmbgbhhnjbkfdaa", sum := "dcb1a9d9625f42b36638463065d704f51f149510117a53c7dcaa75f0695d7b92", func := "graver/graverlaw03.StrtabAgain", spec := "strtabAgain", inPlace := ["internal/bytealg.IndexByteString", "internal/bytealg.abigen_runtime_cmpstring", "internal/abi.NoEscape", "internal/bytealg.IndexString"], unfollowed := true, recurses := true, named := ["internal/bytealg.MaxLen"], apart := false, narrowed := true }
def StrtabAgainUptoSaid : Prop := strtabAgainUptoRow.holds Try.pinned (OpenSpec.upto strtabAgainSpec)

/-- 'graverlaw03.StrtabAdds', WHERE WHAT IT READS IS OF BULK AT MOST 1048576: true; the input reads as it did. -/
def strtabAddsUptoRow : OpenClaim := { program := "ytmbgbhhnjbkfdaa", sum := "dcb1a9d9625f42b36638463065d704f51f149510117a53c7dcaa75f0695d7b92", func := "graver/graverlaw03.StrtabAdds", spec := "strtabAdds", inPlace := ["internal/bytealg.IndexByteString", "internal/bytealg.abigen_runtime_cmpstring", "internal/abi.NoEscape", "internal/bytealg.IndexString"], unfollowed := true, recurses := true, named := ["internal/bytealg.MaxLen"], apart := false, narrowed := true }
def StrtabAddsUptoSaid : Prop := strtabAddsUptoRow.holds Try.pinned (OpenSpec.upto strtabAddsSpec)

/-- 'graverlaw04.FormReads', WHERE WHAT IT READS IS OF BULK AT MOST 1048576: true; the input reads as it did. -/
def formReadsUptoRow : OpenClaim := { program := "ytmbgbhhnjbkfdaa", sum := "dcb1a9d9625f42b36638463065d704f51f149510117a53c7dcaa75f0695d7b92", func := "graver/graverlaw04.FormReads", spec := "formReads", apart := false, narrowed := true }
def FormReadsUptoSaid : Prop := formReadsUptoRow.holds Try.pinned (OpenSpec.upto formReadsSpec)

/-- 'graverlaw04.FormPads', WHERE WHAT IT READS IS OF BULK AT MOST 1048576: true; the input reads as it did. -/
def formPadsUptoRow : OpenClaim := { program := "ytmbgbhhnjbkfdaa", sum := "dcb1a9d9625f42b36638463065d704f51f149510117a53c7dcaa75f0695d7b92", func := "graver/graverlaw04.FormPads", spec := "formPads", apart := false, narrowed := true }
def FormPadsUptoSaid : Prop := formPadsUptoRow.holds Try.pinned (OpenSpec.upto formPadsSpec)

/-- 'graverlaw04.FormRecords', WHERE WHAT IT READS IS OF BULK AT MOST 1048576: true; the input reads as it did. -/
def formRecordsUptoRow : OpenClaim := { program := "ytmbgbhhnjbkfdaa", sum := "dcb1a9d9625f42b36638463065d704f51f149510117a53c7dcaa75f0695d7b92", func := "graver/graverlaw04.FormRecords", spec := "formRecords", inPlace := ["internal/abi.NoEscape"], apart := false, narrowed := true }
def FormRecordsUptoSaid : Prop := formRecordsUptoRow.holds Try.pinned (OpenSpec.upto formRecordsSpec)

end Rows
end Go.Proofs.Ytmbgbhhnjbkfdaa
