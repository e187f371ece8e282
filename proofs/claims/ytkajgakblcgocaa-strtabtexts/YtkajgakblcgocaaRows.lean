/-
  No cell of these rows narrows 'for every input' (looked for: loops, veiled, ifaces, maps, wideKeys, modest, calm, conditions, laid).
  DERIVED. THE GIVEN ROWS OF THIS SEAT. 9 by the template 'for every input the law returns true; each argument reads behind the call as it read before'; 0 by the template 'total and deterministic' (their statements: YtkajgakblcgocaaTotals.lean).
  GIVEN WITH THE SEED: the statements are not yours to turn. If you find one false, say at which input.
  Laid BY PROGRAM, IN A SANDBOX (cutbox-rows.mjs): the forced cells as the released guide's own fill.sh prints them over the translation ac28e63924808f9b… (all of the seat's roots in one cut). By AI agents, Wed Nov 11 2026. No macro, syntax, notation, axiom, sorry.
-/
import Derived.Test.YtkajgakblcgocaaChecked
import GoSem.Claim
import GoSem.ClaimJoined
import GoSem.ClaimMapViews
import Derived.JoinedTies
import Derived.KernelRfl
namespace Go.Proofs.Ytkajgakblcgocaa
/- THE CELL 'sum', in the pinned program and in every row, IS THE sha256 OF THE DUMP (.gsa) THAT YtkajgakblcgocaaProg.lean LOADS. Nothing in Lean hashes anything: it is a label: what it is worth is what the hold of that sum in a sandbox is worth. -/
noncomputable def Try.pinned : Pinned := { name := "ytkajgakblcgocaa", sum := "ac28e63924808f9b62fd53a73ff8b5d1fb4499ccf1675db8db99c789b511034e", checked := Try.checked }
namespace Rows
def none {H : Type} : Left H := { results := [], args := [] }

/-- 'graverlaw03.StrtabTexts': WHATEVER THE INPUT: true; the input reads as it did. -/
def strtabTextsSpec : ChangeSpec := { name := "strtabTexts", fn := fun _ => fun
  | [d1, d2] => { results := [.lit (.bool true)], args := [d1, d2] }
  | _ => none }
def strtabTextsRow : OpenClaim := { program := "ytkajgakblcgocaa", sum := "ac28e63924808f9b62fd53a73ff8b5d1fb4499ccf1675db8db99c789b511034e", func := "graver/graverlaw03.StrtabTexts", spec := "strtabTexts", inPlace := ["internal/bytealg.IndexByteString", "internal/bytealg.abigen_runtime_cmpstring", "internal/abi.NoEscape", "internal/bytealg.IndexString"], unfollowed := true, recurses := true, named := ["internal/bytealg.MaxLen"], apart := false }
def StrtabTextsSaid : Prop := strtabTextsRow.holds Try.pinned (OpenSpec.ofChange strtabTextsSpec)

/-- ITS FALSE NEIGHBOUR: 'it returns false'. Refute it at one input. -/
def strtabTextsWrong : ChangeSpec := { name := "strtabTexts", fn := fun _ => fun
  | [d1, d2] => { results := [.lit (.bool false)], args := [d1, d2] }
  | _ => none }
def StrtabTextsWrongFalsely : Prop := strtabTextsRow.holds Try.pinned (OpenSpec.ofChange strtabTextsWrong)

/-- 'graverlaw03.StrtabBuilds': WHATEVER THE INPUT: true; the input reads as it did. -/
def strtabBuildsSpec : ChangeSpec := { name := "strtabBuilds", fn := fun _ => fun
  | [d] => { results := [.lit (.bool true)], args := [d] }
  | _ => none }
def strtabBuildsRow : OpenClaim := { program := "ytkajgakblcgocaa", sum := "ac28e63924808f9b62fd53a73ff8b5d1fb4499ccf1675db8db99c789b511034e", func := "graver/graverlaw03.StrtabBuilds", spec := "strtabBuilds", inPlace := ["internal/bytealg.IndexByteString", "internal/bytealg.abigen_runtime_cmpstring", "internal/abi.NoEscape", "internal/bytealg.IndexString"], unfollowed := true, recurses := true, named := ["internal/bytealg.MaxLen"], apart := false }
def StrtabBuildsSaid : Prop := strtabBuildsRow.holds Try.pinned (OpenSpec.ofChange strtabBuildsSpec)

/-- ITS FALSE NEIGHBOUR: 'it returns false'. Refute it at one input. -/
def strtabBuildsWrong : ChangeSpec := { name := "strtabBuilds", fn := fun _ => fun
  | [d] => { results := [.lit (.bool false)], args := [d] }
  | _ => none }
def StrtabBuildsWrongFalsely : Prop := strtabBuildsRow.holds Try.pinned (OpenSpec.ofChange strtabBuildsWrong)

/-- 'graverlaw03.StrtabAgain': WHATEVER THE INPUT: true; the input reads as it did. -/
def strtabAgainSpec : ChangeSpec := { name := "strtabAgain", fn := fun _ => fun
  | [d1, d2] => { results := [.lit (.bool true)], args := [d1, d2] }
  | _ => none }
def strtabAgainRow : OpenClaim := { program := "ytkajgakblcgocaa", sum := "ac28e63924808f9b62fd53a73ff8b5d1fb4499ccf1675db8db99c789b511034e", func := "graver/graverlaw03.StrtabAgain", spec := "strtabAgain", inPlace := ["internal/bytealg.IndexByteString", "internal/bytealg.abigen_runtime_cmpstring", "internal/abi.NoEscape", "internal/bytealg.IndexString"], unfollowed := true, recurses := true, named := ["internal/bytealg.MaxLen"], apart := false }
def StrtabAgainSaid : Prop := strtabAgainRow.holds Try.pinned (OpenSpec.ofChange strtabAgainSpec)

/-- ITS FALSE NEIGHBOUR: 'it returns false'. Refute it at one input. -/
def strtabAgainWrong : ChangeSpec := { name := "strtabAgain", fn := fun _ => fun
  | [d1, d2] => { results := [.lit (.bool false)], args := [d1, d2] }
  | _ => none }
def StrtabAgainWrongFalsely : Prop := strtabAgainRow.holds Try.pinned (OpenSpec.ofChange strtabAgainWrong)

/-- 'graverlaw03.StrtabAdds': WHATEVER THE INPUT: true; the input reads as it did. -/
def strtabAddsSpec : ChangeSpec := { name := "strtabAdds", fn := fun _ => fun
  | [d1, d2, d3] => { results := [.lit (.bool true)], args := [d1, d2, d3] }
  | _ => none }
def strtabAddsRow : OpenClaim := { program := "ytkajgakblcgocaa", sum := "ac28e63924808f9b62fd53a73ff8b5d1fb4499ccf1675db8db99c789b511034e", func := "graver/graverlaw03.StrtabAdds", spec := "strtabAdds", inPlace := ["internal/bytealg.IndexByteString", "internal/bytealg.abigen_runtime_cmpstring", "internal/abi.NoEscape", "internal/bytealg.IndexString"], unfollowed := true, recurses := true, named := ["internal/bytealg.MaxLen"], apart := false }
def StrtabAddsSaid : Prop := strtabAddsRow.holds Try.pinned (OpenSpec.ofChange strtabAddsSpec)

/-- ITS FALSE NEIGHBOUR: 'it returns false'. Refute it at one input. -/
def strtabAddsWrong : ChangeSpec := { name := "strtabAdds", fn := fun _ => fun
  | [d1, d2, d3] => { results := [.lit (.bool false)], args := [d1, d2, d3] }
  | _ => none }
def StrtabAddsWrongFalsely : Prop := strtabAddsRow.holds Try.pinned (OpenSpec.ofChange strtabAddsWrong)

/-- 'graverlaw05.EhdrPuts': WHATEVER THE INPUT: true; the input reads as it did. -/
def ehdrPutsSpec : ChangeSpec := { name := "ehdrPuts", fn := fun _ => fun
  | [d1, d2, d3] => { results := [.lit (.bool true)], args := [d1, d2, d3] }
  | _ => none }
def ehdrPutsRow : OpenClaim := { program := "ytkajgakblcgocaa", sum := "ac28e63924808f9b62fd53a73ff8b5d1fb4499ccf1675db8db99c789b511034e", func := "graver/graverlaw05.EhdrPuts", spec := "ehdrPuts", inPlace := ["internal/abi.NoEscape"], apart := false }
def EhdrPutsSaid : Prop := ehdrPutsRow.holds Try.pinned (OpenSpec.ofChange ehdrPutsSpec)

/-- ITS FALSE NEIGHBOUR: 'it returns false'. Refute it at one input. -/
def ehdrPutsWrong : ChangeSpec := { name := "ehdrPuts", fn := fun _ => fun
  | [d1, d2, d3] => { results := [.lit (.bool false)], args := [d1, d2, d3] }
  | _ => none }
def EhdrPutsWrongFalsely : Prop := ehdrPutsRow.holds Try.pinned (OpenSpec.ofChange ehdrPutsWrong)

/-- 'graverlaw05.EhdrReads': WHATEVER THE INPUT: true; the input reads as it did. -/
def ehdrReadsSpec : ChangeSpec := { name := "ehdrReads", fn := fun _ => fun
  | [d1, d2] => { results := [.lit (.bool true)], args := [d1, d2] }
  | _ => none }
def ehdrReadsRow : OpenClaim := { program := "ytkajgakblcgocaa", sum := "ac28e63924808f9b62fd53a73ff8b5d1fb4499ccf1675db8db99c789b511034e", func := "graver/graverlaw05.EhdrReads", spec := "ehdrReads", inPlace := ["internal/abi.NoEscape"], apart := false }
def EhdrReadsSaid : Prop := ehdrReadsRow.holds Try.pinned (OpenSpec.ofChange ehdrReadsSpec)

/-- ITS FALSE NEIGHBOUR: 'it returns false'. Refute it at one input. -/
def ehdrReadsWrong : ChangeSpec := { name := "ehdrReads", fn := fun _ => fun
  | [d1, d2] => { results := [.lit (.bool false)], args := [d1, d2] }
  | _ => none }
def EhdrReadsWrongFalsely : Prop := ehdrReadsRow.holds Try.pinned (OpenSpec.ofChange ehdrReadsWrong)

/-- 'graverlaw05.EhdrChecks': WHATEVER THE INPUT: true; the input reads as it did. -/
def ehdrChecksSpec : ChangeSpec := { name := "ehdrChecks", fn := fun _ => fun
  | [d1, d2, d3] => { results := [.lit (.bool true)], args := [d1, d2, d3] }
  | _ => none }
def ehdrChecksRow : OpenClaim := { program := "ytkajgakblcgocaa", sum := "ac28e63924808f9b62fd53a73ff8b5d1fb4499ccf1675db8db99c789b511034e", func := "graver/graverlaw05.EhdrChecks", spec := "ehdrChecks", inPlace := ["internal/abi.NoEscape"], apart := false }
def EhdrChecksSaid : Prop := ehdrChecksRow.holds Try.pinned (OpenSpec.ofChange ehdrChecksSpec)

/-- ITS FALSE NEIGHBOUR: 'it returns false'. Refute it at one input. -/
def ehdrChecksWrong : ChangeSpec := { name := "ehdrChecks", fn := fun _ => fun
  | [d1, d2, d3] => { results := [.lit (.bool false)], args := [d1, d2, d3] }
  | _ => none }
def EhdrChecksWrongFalsely : Prop := ehdrChecksRow.holds Try.pinned (OpenSpec.ofChange ehdrChecksWrong)

/-- 'graverlaw06.ShdrPuts': WHATEVER THE INPUT: true; the input reads as it did. -/
def shdrPutsSpec : ChangeSpec := { name := "shdrPuts", fn := fun _ => fun
  | [d1, d2, d3] => { results := [.lit (.bool true)], args := [d1, d2, d3] }
  | _ => none }
def shdrPutsRow : OpenClaim := { program := "ytkajgakblcgocaa", sum := "ac28e63924808f9b62fd53a73ff8b5d1fb4499ccf1675db8db99c789b511034e", func := "graver/graverlaw06.ShdrPuts", spec := "shdrPuts", inPlace := ["internal/abi.NoEscape"], apart := false }
def ShdrPutsSaid : Prop := shdrPutsRow.holds Try.pinned (OpenSpec.ofChange shdrPutsSpec)

/-- ITS FALSE NEIGHBOUR: 'it returns false'. Refute it at one input. -/
def shdrPutsWrong : ChangeSpec := { name := "shdrPuts", fn := fun _ => fun
  | [d1, d2, d3] => { results := [.lit (.bool false)], args := [d1, d2, d3] }
  | _ => none }
def ShdrPutsWrongFalsely : Prop := shdrPutsRow.holds Try.pinned (OpenSpec.ofChange shdrPutsWrong)

/-- 'graverlaw06.ShdrReads': WHATEVER THE INPUT: true; the input reads as it did. -/
def shdrReadsSpec : ChangeSpec := { name := "shdrReads", fn := fun _ => fun
  | [d1, d2] => { results := [.lit (.bool true)], args := [d1, d2] }
  | _ => none }
def shdrReadsRow : OpenClaim := { program := "ytkajgakblcgocaa", sum := "ac28e63924808f9b62fd53a73ff8b5d1fb4499ccf1675db8db99c789b511034e", func := "graver/graverlaw06.ShdrReads", spec := "shdrReads", inPlace := ["internal/abi.NoEscape"], apart := false }
def ShdrReadsSaid : Prop := shdrReadsRow.holds Try.pinned (OpenSpec.ofChange shdrReadsSpec)

/-- ITS FALSE NEIGHBOUR: 'it returns false'. Refute it at one input. -/
def shdrReadsWrong : ChangeSpec := { name := "shdrReads", fn := fun _ => fun
  | [d1, d2] => { results := [.lit (.bool false)], args := [d1, d2] }
  | _ => none }
def ShdrReadsWrongFalsely : Prop := shdrReadsRow.holds Try.pinned (OpenSpec.ofChange shdrReadsWrong)

/- THE SECOND FORM. 'bulk': how many values and letters a reading holds, each counted each time it is reached (what is shared counts as often as it is met; a slice's spare places count too). A statement '..UptoSaid' is the law's where the arguments, and the package variables that the reading takes, are together of bulk at most 1048576: NARROWER than '..Said'. Prove '..Said' where nothing that the law and all that it calls make is longer than what came in: it says more and counts as full. Else prove '..UptoSaid'. A law counts once. -/
mutual
def uptoBulk {H : Type} : DataW H → Nat
  | .lit (.string bytes) => bytes.length + 1
  | .lit _ => 1
  | .nil => 1
  | .ptr d => uptoBulk d + 1
  | .slice elems spare => uptoBulkAll elems + uptoBulkAll spare + 1
  | .agg parts => uptoBulkAll parts + 1
  | .iface _ d => uptoBulk d + 1
  | .map entries => uptoBulkEntries entries + 1
  | .held _ => 1
def uptoBulkAll {H : Type} : List (DataW H) → Nat
  | [] => 0
  | d :: r => uptoBulk d + uptoBulkAll r
def uptoBulkEntries {H : Type} : List (Lit × DataW H) → Nat
  | [] => 0
  | x :: r => uptoBulkEntry x + uptoBulkEntries r
def uptoBulkEntry {H : Type} : Lit × DataW H → Nat
  | (.string bytes, d) => bytes.length + uptoBulk d + 1
  | (_, d) => uptoBulk d + 1
 end
def uptoSmall : (H : Type) → List (DataW H) → Bool := fun _ ds => decide (uptoBulkAll ds ≤ 1048576)
def OpenSpec.upto (s : _root_.Go.ChangeSpec) : _root_.Go.OpenSpec := { _root_.Go.OpenSpec.ofChange s with cond := some uptoSmall }

/-- 'graverlaw03.StrtabTexts', WHERE WHAT IT READS IS OF BULK AT MOST 1048576: true; the input reads as it did. -/
def strtabTextsUptoRow : OpenClaim := { program := "ytkajgakblcgocaa", sum := "ac28e63924808f9b62fd53a73ff8b5d1fb4499ccf1675db8db99c789b511034e", func := "graver/graverlaw03.StrtabTexts", spec := "strtabTexts", inPlace := ["internal/bytealg.IndexByteString", "internal/bytealg.abigen_runtime_cmpstring", "internal/abi.NoEscape", "internal/bytealg.IndexString"], unfollowed := true, recurses := true, named := ["internal/bytealg.MaxLen"], apart := false, narrowed := true }
def StrtabTextsUptoSaid : Prop := strtabTextsUptoRow.holds Try.pinned (OpenSpec.upto strtabTextsSpec)

/-- 'graverlaw03.StrtabBuilds', WHERE WHAT IT READS IS OF BULK AT MOST 1048576: true; the input reads as it did. -/
def strtabBuildsUptoRow : OpenClaim := { program := "ytkajgakblcgocaa", sum := "ac28e63924808f9b62fd53a73ff8b5d1fb4499ccf1675db8db99c789b511034e", func := "graver/graverlaw03.StrtabBuilds", spec := "strtabBuilds", inPlace := ["internal/bytealg.IndexByteString", "internal/bytealg.abigen_runtime_cmpstring", "internal/abi.NoEscape", "internal/bytealg.IndexString"], unfollowed := true, recurses := true, named := ["internal/bytealg.MaxLen"], apart := false, narrowed := true }
def StrtabBuildsUptoSaid : Prop := strtabBuildsUptoRow.holds Try.pinned (OpenSpec.upto strtabBuildsSpec)

/-- 'graverlaw03.StrtabAgain', WHERE WHAT IT READS IS OF BULK AT MOST 1048576: true; the input reads as it did. -/
def strtabAgainUptoRow : OpenClaim := { program := "ytkajgakblcgocaa", sum := "ac28e63924808f9b62fd53a73ff8b5d1fb4499ccf1675db8db99c789b511034e", func := "graver/graverlaw03.StrtabAgain", spec := "strtabAgain", inPlace := ["internal/bytealg.IndexByteString", "internal/bytealg.abigen_runtime_cmpstring", "internal/abi.NoEscape", "internal/bytealg.IndexString"], unfollowed := true, recurses := true, named := ["internal/bytealg.MaxLen"], apart := false, narrowed := true }
def StrtabAgainUptoSaid : Prop := strtabAgainUptoRow.holds Try.pinned (OpenSpec.upto strtabAgainSpec)

/-- 'graverlaw03.StrtabAdds', WHERE WHAT IT READS IS OF BULK AT MOST 1048576: true; the input reads as it did. -/
def strtabAddsUptoRow : OpenClaim := { program := "ytkajgakblcgocaa", sum := "ac28e63924808f9b62fd53a73ff8b5d1fb4499ccf1675db8db99c789b511034e", func := "graver/graverlaw03.StrtabAdds", spec := "strtabAdds", inPlace := ["internal/bytealg.IndexByteString", "internal/bytealg.abigen_runtime_cmpstring", "internal/abi.NoEscape", "internal/bytealg.IndexString"], unfollowed := true, recurses := true, named := ["internal/bytealg.MaxLen"], apart := false, narrowed := true }
def StrtabAddsUptoSaid : Prop := strtabAddsUptoRow.holds Try.pinned (OpenSpec.upto strtabAddsSpec)

/-- 'graverlaw05.EhdrPuts', WHERE WHAT IT READS IS OF BULK AT MOST 1048576: true; the input reads as it did. -/
def ehdrPutsUptoRow : OpenClaim := { program := "ytkajgakblcgocaa", sum := "ac28e63924808f9b62fd53a73ff8b5d1fb4499ccf1675db8db99c789b511034e", func := "graver/graverlaw05.EhdrPuts", spec := "ehdrPuts", inPlace := ["internal/abi.NoEscape"], apart := false, narrowed := true }
def EhdrPutsUptoSaid : Prop := ehdrPutsUptoRow.holds Try.pinned (OpenSpec.upto ehdrPutsSpec)

/-- 'graverlaw05.EhdrReads', WHERE WHAT IT READS IS OF BULK AT MOST 1048576: true; the input reads as it did. -/
def ehdrReadsUptoRow : OpenClaim := { program := "ytkajgakblcgocaa", sum := "ac28e63924808f9b62fd53a73ff8b5d1fb4499ccf1675db8db99c789b511034e", func := "graver/graverlaw05.EhdrReads", spec := "ehdrReads", inPlace := ["internal/abi.NoEscape"], apart := false, narrowed := true }
def EhdrReadsUptoSaid : Prop := ehdrReadsUptoRow.holds Try.pinned (OpenSpec.upto ehdrReadsSpec)

/-- 'graverlaw05.EhdrChecks', WHERE WHAT IT READS IS OF BULK AT MOST 1048576: true; the input reads as it did. -/
def ehdrChecksUptoRow : OpenClaim := { program := "ytkajgakblcgocaa", sum := "ac28e63924808f9b62fd53a73ff8b5d1fb4499ccf1675db8db99c789b511034e", func := "graver/graverlaw05.EhdrChecks", spec := "ehdrChecks", inPlace := ["internal/abi.NoEscape"], apart := false, narrowed := true }
def EhdrChecksUptoSaid : Prop := ehdrChecksUptoRow.holds Try.pinned (OpenSpec.upto ehdrChecksSpec)

/-- 'graverlaw06.ShdrPuts', WHERE WHAT IT READS IS OF BULK AT MOST 1048576: true; the input reads as it did. -/
def shdrPutsUptoRow : OpenClaim := { program := "ytkajgakblcgocaa", sum := "ac28e63924808f9b62fd53a73ff8b5d1fb4499ccf1675db8db99c789b511034e", func := "graver/graverlaw06.ShdrPuts", spec := "shdrPuts", inPlace := ["internal/abi.NoEscape"], apart := false, narrowed := true }
def ShdrPutsUptoSaid : Prop := shdrPutsUptoRow.holds Try.pinned (OpenSpec.upto shdrPutsSpec)

/-- 'graverlaw06.ShdrReads', WHERE WHAT IT READS IS OF BULK AT MOST 1048576: true; the input reads as it did. -/
def shdrReadsUptoRow : OpenClaim := { program := "ytkajgakblcgocaa", sum := "ac28e63924808f9b62fd53a73ff8b5d1fb4499ccf1675db8db99c789b511034e", func := "graver/graverlaw06.ShdrReads", spec := "shdrReads", inPlace := ["internal/abi.NoEscape"], apart := false, narrowed := true }
def ShdrReadsUptoSaid : Prop := shdrReadsUptoRow.holds Try.pinned (OpenSpec.upto shdrReadsSpec)

end Rows
end Go.Proofs.Ytkajgakblcgocaa
