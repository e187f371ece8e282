/-
  No cell of these rows narrows 'for every input' (looked for: loops, veiled, ifaces, maps, wideKeys, modest, calm, conditions, laid).
  DERIVED. THE GIVEN ROWS OF THIS SEAT. 10 by the template 'for every input the law returns true; each argument reads behind the call as it read before'; 0 by the template 'total and deterministic' (their statements: YtedocnidgiglaaaTotals.lean).
  GIVEN WITH THE SEED: the statements are not yours to turn. If you find one false, say at which input.
  Laid BY PROGRAM, IN A SANDBOX (cutbox-rows.mjs): the forced cells as the released guide's own fill.sh prints them over the translation 7f114beb34fc1abb… (all of the seat's roots in one cut). By AI agents, Wed Nov 11 2026. No macro, syntax, notation, axiom, sorry.
-/
import Derived.Test.YtedocnidgiglaaaChecked
import GoSem.Claim
import GoSem.ClaimJoined
import GoSem.ClaimMapViews
import Derived.JoinedTies
import Derived.KernelRfl
namespace Go.Proofs.Ytedocnidgiglaaa
/- THE CELL 'sum', in the pinned program and in every row, IS THE sha256 OF THE DUMP (.gsa) THAT YtedocnidgiglaaaProg.lean LOADS. Nothing in Lean hashes anything: it is a label: what it is worth is what the hold of that sum in a sandbox is worth. -/
noncomputable def Try.pinned : Pinned := { name := "ytedocnidgiglaaa", sum := "7f114beb34fc1abbc819654c913e0797d27295f80b55860daab72e581975682f", checked := Try.checked }
namespace Rows
def none {H : Type} : Left H := { results := [], args := [] }

/-- 'graverlaw11.RawParses': WHATEVER THE INPUT: true; the input reads as it did. -/
def rawParsesSpec : ChangeSpec := { name := "rawParses", fn := fun _ => fun
  | [d1, d2, d3] => { results := [.lit (.bool true)], args := [d1, d2, d3] }
  | _ => none }
def rawParsesRow : OpenClaim := { program := "ytedocnidgiglaaa", sum := "7f114beb34fc1abbc819654c913e0797d27295f80b55860daab72e581975682f", func := "graver/graverlaw11.RawParses", spec := "rawParses", inPlace := ["internal/abi.NoEscape", "math/bits.Add64"], unfollowed := true, recurses := true, apart := false }
def RawParsesSaid : Prop := rawParsesRow.holds Try.pinned (OpenSpec.ofChange rawParsesSpec)

/-- ITS FALSE NEIGHBOUR: 'it returns false'. Refute it at one input. -/
def rawParsesWrong : ChangeSpec := { name := "rawParses", fn := fun _ => fun
  | [d1, d2, d3] => { results := [.lit (.bool false)], args := [d1, d2, d3] }
  | _ => none }
def RawParsesWrongFalsely : Prop := rawParsesRow.holds Try.pinned (OpenSpec.ofChange rawParsesWrong)

/-- 'graverlaw11.RawTells': WHATEVER THE INPUT: true; the input reads as it did. -/
def rawTellsSpec : ChangeSpec := { name := "rawTells", fn := fun _ => fun
  | [d1, d2, d3] => { results := [.lit (.bool true)], args := [d1, d2, d3] }
  | _ => none }
def rawTellsRow : OpenClaim := { program := "ytedocnidgiglaaa", sum := "7f114beb34fc1abbc819654c913e0797d27295f80b55860daab72e581975682f", func := "graver/graverlaw11.RawTells", spec := "rawTells", inPlace := ["internal/abi.NoEscape", "math/bits.Add64"], unfollowed := true, recurses := true, apart := false }
def RawTellsSaid : Prop := rawTellsRow.holds Try.pinned (OpenSpec.ofChange rawTellsSpec)

/-- ITS FALSE NEIGHBOUR: 'it returns false'. Refute it at one input. -/
def rawTellsWrong : ChangeSpec := { name := "rawTells", fn := fun _ => fun
  | [d1, d2, d3] => { results := [.lit (.bool false)], args := [d1, d2, d3] }
  | _ => none }
def RawTellsWrongFalsely : Prop := rawTellsRow.holds Try.pinned (OpenSpec.ofChange rawTellsWrong)

/-- 'graverlaw11.RawAny': WHATEVER THE INPUT: true; the input reads as it did. -/
def rawAnySpec : ChangeSpec := { name := "rawAny", fn := fun _ => fun
  | [d1, d2] => { results := [.lit (.bool true)], args := [d1, d2] }
  | _ => none }
def rawAnyRow : OpenClaim := { program := "ytedocnidgiglaaa", sum := "7f114beb34fc1abbc819654c913e0797d27295f80b55860daab72e581975682f", func := "graver/graverlaw11.RawAny", spec := "rawAny", inPlace := ["internal/abi.NoEscape", "math/bits.Add64"], unfollowed := true, recurses := true, apart := false }
def RawAnySaid : Prop := rawAnyRow.holds Try.pinned (OpenSpec.ofChange rawAnySpec)

/-- ITS FALSE NEIGHBOUR: 'it returns false'. Refute it at one input. -/
def rawAnyWrong : ChangeSpec := { name := "rawAny", fn := fun _ => fun
  | [d1, d2] => { results := [.lit (.bool false)], args := [d1, d2] }
  | _ => none }
def RawAnyWrongFalsely : Prop := rawAnyRow.holds Try.pinned (OpenSpec.ofChange rawAnyWrong)

/-- 'graverlaw11.RawCovers': WHATEVER THE INPUT: true; the input reads as it did. -/
def rawCoversSpec : ChangeSpec := { name := "rawCovers", fn := fun _ => fun
  | [d1, d2, d3] => { results := [.lit (.bool true)], args := [d1, d2, d3] }
  | _ => none }
def rawCoversRow : OpenClaim := { program := "ytedocnidgiglaaa", sum := "7f114beb34fc1abbc819654c913e0797d27295f80b55860daab72e581975682f", func := "graver/graverlaw11.RawCovers", spec := "rawCovers", inPlace := ["internal/abi.NoEscape", "math/bits.Add64"], unfollowed := true, recurses := true, apart := false }
def RawCoversSaid : Prop := rawCoversRow.holds Try.pinned (OpenSpec.ofChange rawCoversSpec)

/-- ITS FALSE NEIGHBOUR: 'it returns false'. Refute it at one input. -/
def rawCoversWrong : ChangeSpec := { name := "rawCovers", fn := fun _ => fun
  | [d1, d2, d3] => { results := [.lit (.bool false)], args := [d1, d2, d3] }
  | _ => none }
def RawCoversWrongFalsely : Prop := rawCoversRow.holds Try.pinned (OpenSpec.ofChange rawCoversWrong)

/-- 'graverlaw12.NamesSections': WHATEVER THE INPUT: true; the input reads as it did. -/
def namesSectionsSpec : ChangeSpec := { name := "namesSections", fn := fun _ => fun
  | [d1, d2, d3] => { results := [.lit (.bool true)], args := [d1, d2, d3] }
  | _ => none }
def namesSectionsRow : OpenClaim := { program := "ytedocnidgiglaaa", sum := "7f114beb34fc1abbc819654c913e0797d27295f80b55860daab72e581975682f", func := "graver/graverlaw12.NamesSections", spec := "namesSections", inPlace := ["internal/abi.NoEscape", "math/bits.Add64", "internal/bytealg.IndexByteString", "internal/bytealg.IndexString"], unfollowed := true, recurses := true, named := ["internal/bytealg.MaxLen"], apart := false }
def NamesSectionsSaid : Prop := namesSectionsRow.holds Try.pinned (OpenSpec.ofChange namesSectionsSpec)

/-- ITS FALSE NEIGHBOUR: 'it returns false'. Refute it at one input. -/
def namesSectionsWrong : ChangeSpec := { name := "namesSections", fn := fun _ => fun
  | [d1, d2, d3] => { results := [.lit (.bool false)], args := [d1, d2, d3] }
  | _ => none }
def NamesSectionsWrongFalsely : Prop := namesSectionsRow.holds Try.pinned (OpenSpec.ofChange namesSectionsWrong)

/-- 'graverlaw12.NamesAll': WHATEVER THE INPUT: true; the input reads as it did. -/
def namesAllSpec : ChangeSpec := { name := "namesAll", fn := fun _ => fun
  | [d1, d2, d3] => { results := [.lit (.bool true)], args := [d1, d2, d3] }
  | _ => none }
def namesAllRow : OpenClaim := { program := "ytedocnidgiglaaa", sum := "7f114beb34fc1abbc819654c913e0797d27295f80b55860daab72e581975682f", func := "graver/graverlaw12.NamesAll", spec := "namesAll", inPlace := ["internal/abi.NoEscape", "math/bits.Add64", "internal/bytealg.IndexByteString", "internal/bytealg.IndexString"], unfollowed := true, recurses := true, named := ["internal/bytealg.MaxLen"], apart := false }
def NamesAllSaid : Prop := namesAllRow.holds Try.pinned (OpenSpec.ofChange namesAllSpec)

/-- ITS FALSE NEIGHBOUR: 'it returns false'. Refute it at one input. -/
def namesAllWrong : ChangeSpec := { name := "namesAll", fn := fun _ => fun
  | [d1, d2, d3] => { results := [.lit (.bool false)], args := [d1, d2, d3] }
  | _ => none }
def NamesAllWrongFalsely : Prop := namesAllRow.holds Try.pinned (OpenSpec.ofChange namesAllWrong)

/-- 'graverlaw14.CheckShapes': WHATEVER THE INPUT: true; the input reads as it did. -/
def checkShapesSpec : ChangeSpec := { name := "checkShapes", fn := fun _ => fun
  | [d1, d2, d3] => { results := [.lit (.bool true)], args := [d1, d2, d3] }
  | _ => none }
def checkShapesRow : OpenClaim := { program := "ytedocnidgiglaaa", sum := "7f114beb34fc1abbc819654c913e0797d27295f80b55860daab72e581975682f", func := "graver/graverlaw14.CheckShapes", spec := "checkShapes", inPlace := ["internal/bytealg.IndexByteString"], unfollowed := true, recurses := true, apart := false }
def CheckShapesSaid : Prop := checkShapesRow.holds Try.pinned (OpenSpec.ofChange checkShapesSpec)

/-- ITS FALSE NEIGHBOUR: 'it returns false'. Refute it at one input. -/
def checkShapesWrong : ChangeSpec := { name := "checkShapes", fn := fun _ => fun
  | [d1, d2, d3] => { results := [.lit (.bool false)], args := [d1, d2, d3] }
  | _ => none }
def CheckShapesWrongFalsely : Prop := checkShapesRow.holds Try.pinned (OpenSpec.ofChange checkShapesWrong)

/-- 'graverlaw14.CheckWrong': WHATEVER THE INPUT: true; the input reads as it did. -/
def checkWrongSpec : ChangeSpec := { name := "checkWrong", fn := fun _ => fun
  | [d1, d2] => { results := [.lit (.bool true)], args := [d1, d2] }
  | _ => none }
def checkWrongRow : OpenClaim := { program := "ytedocnidgiglaaa", sum := "7f114beb34fc1abbc819654c913e0797d27295f80b55860daab72e581975682f", func := "graver/graverlaw14.CheckWrong", spec := "checkWrong", inPlace := ["internal/bytealg.IndexByteString"], unfollowed := true, recurses := true, apart := false }
def CheckWrongSaid : Prop := checkWrongRow.holds Try.pinned (OpenSpec.ofChange checkWrongSpec)

/-- ITS FALSE NEIGHBOUR: 'it returns false'. Refute it at one input. -/
def checkWrongWrong : ChangeSpec := { name := "checkWrong", fn := fun _ => fun
  | [d1, d2] => { results := [.lit (.bool false)], args := [d1, d2] }
  | _ => none }
def CheckWrongWrongFalsely : Prop := checkWrongRow.holds Try.pinned (OpenSpec.ofChange checkWrongWrong)

/-- 'graverlaw14.CheckMany': WHATEVER THE INPUT: true; the input reads as it did. -/
def checkManySpec : ChangeSpec := { name := "checkMany", fn := fun _ => fun
  | [d1, d2] => { results := [.lit (.bool true)], args := [d1, d2] }
  | _ => none }
def checkManyRow : OpenClaim := { program := "ytedocnidgiglaaa", sum := "7f114beb34fc1abbc819654c913e0797d27295f80b55860daab72e581975682f", func := "graver/graverlaw14.CheckMany", spec := "checkMany", inPlace := ["internal/bytealg.IndexByteString"], unfollowed := true, recurses := true, apart := false }
def CheckManySaid : Prop := checkManyRow.holds Try.pinned (OpenSpec.ofChange checkManySpec)

/-- ITS FALSE NEIGHBOUR: 'it returns false'. Refute it at one input. -/
def checkManyWrong : ChangeSpec := { name := "checkMany", fn := fun _ => fun
  | [d1, d2] => { results := [.lit (.bool false)], args := [d1, d2] }
  | _ => none }
def CheckManyWrongFalsely : Prop := checkManyRow.holds Try.pinned (OpenSpec.ofChange checkManyWrong)

/-- 'graverlaw14.CheckFaults': WHATEVER THE INPUT: true; the input reads as it did. -/
def checkFaultsSpec : ChangeSpec := { name := "checkFaults", fn := fun _ => fun
  | [d1, d2] => { results := [.lit (.bool true)], args := [d1, d2] }
  | _ => none }
def checkFaultsRow : OpenClaim := { program := "ytedocnidgiglaaa", sum := "7f114beb34fc1abbc819654c913e0797d27295f80b55860daab72e581975682f", func := "graver/graverlaw14.CheckFaults", spec := "checkFaults", inPlace := ["internal/bytealg.IndexByteString"], unfollowed := true, recurses := true, apart := false }
def CheckFaultsSaid : Prop := checkFaultsRow.holds Try.pinned (OpenSpec.ofChange checkFaultsSpec)

/-- ITS FALSE NEIGHBOUR: 'it returns false'. Refute it at one input. -/
def checkFaultsWrong : ChangeSpec := { name := "checkFaults", fn := fun _ => fun
  | [d1, d2] => { results := [.lit (.bool false)], args := [d1, d2] }
  | _ => none }
def CheckFaultsWrongFalsely : Prop := checkFaultsRow.holds Try.pinned (OpenSpec.ofChange checkFaultsWrong)

/- THE SECOND FORM. 'bulk': how many values and letters a reading holds, each counted each time it is reached (what is shared counts as often as it is met; a slice's spare places count too). A statement '..UptoSaid' is the law's where the arguments, and the package variables that the reading takes, are together of bulk at most 1048576: NARROWER than '..Said'. Prove '..Said' where nothing that the law and all that it calls make is longer than what came in: it says more and counts as full. Else prove '..UptoSaid'. A law counts once. -/
mutual
def uptoBulk {H : Type} : DataW H → Nat
  | .lit (.string bytes) => bytes.length + 1
  | .lit _ => 1
  | .nil => 1
  | .ptr d => uptoBulk d + 1
  | .slice elems spare => uptoBulkAll elems + uptoBulkAll spare + 1
  | .agg parts => uptoBulkAll parts + 1
  | .iface _ d => uptoBulk d + 1
  | .map entries => uptoBulkEntries entries + 1
  | .held _ => 1
def uptoBulkAll {H : Type} : List (DataW H) → Nat
  | [] => 0
  | d :: r => uptoBulk d + uptoBulkAll r
def uptoBulkEntries {H : Type} : List (Lit × DataW H) → Nat
  | [] => 0
  | x :: r => uptoBulkEntry x + uptoBulkEntries r
def uptoBulkEntry {H : Type} : Lit × DataW H → Nat
  | (.string bytes, d) => bytes.length + uptoBulk d + 1
  | (_, d) => uptoBulk d + 1
 end
def uptoSmall : (H : Type) → List (DataW H) → Bool := fun _ ds => decide (uptoBulkAll ds ≤ 1048576)
def OpenSpec.upto (s : _root_.Go.ChangeSpec) : _root_.Go.OpenSpec := { _root_.Go.OpenSpec.ofChange s with cond := some uptoSmall }

/-- 'graverlaw11.RawParses', WHERE WHAT IT READS IS OF BULK AT MOST 1048576: true; the input reads as it did. -/
def rawParsesUptoRow : OpenClaim := { program := "ytedocnidgiglaaa", sum := "7f114beb34fc1abbc819654c913e0797d27295f80b55860daab72e581975682f", func := "graver/graverlaw11.RawParses", spec := "rawParses", inPlace := ["internal/abi.NoEscape", "math/bits.Add64"], unfollowed := true, recurses := true, apart := false, narrowed := true }
def RawParsesUptoSaid : Prop := rawParsesUptoRow.holds Try.pinned (OpenSpec.upto rawParsesSpec)

/-- 'graverlaw11.RawTells', WHERE WHAT IT READS IS OF BULK AT MOST 1048576: true; the input reads as it did. -/
def rawTellsUptoRow : OpenClaim := { program := "ytedocnidgiglaaa", sum := "7f114beb34fc1abbc819654c913e0797d27295f80b55860daab72e581975682f", func := "graver/graverlaw11.RawTells", spec := "rawTells", inPlace := ["internal/abi.NoEscape", "math/bits.Add64"], unfollowed := true, recurses := true, apart := false, narrowed := true }
def RawTellsUptoSaid : Prop := rawTellsUptoRow.holds Try.pinned (OpenSpec.upto rawTellsSpec)

/-- 'graverlaw11.RawAny', WHERE WHAT IT READS IS OF BULK AT MOST 1048576: true; the input reads as it did. -/
def rawAnyUptoRow : OpenClaim := { program := "ytedocnidgiglaaa", sum := "7f114beb34fc1abbc819654c913e0797d27295f80b55860daab72e581975682f", func := "graver/graverlaw11.RawAny", spec := "rawAny", inPlace := ["internal/abi.NoEscape", "math/bits.Add64"], unfollowed := true, recurses := true, apart := false, narrowed := true }
def RawAnyUptoSaid : Prop := rawAnyUptoRow.holds Try.pinned (OpenSpec.upto rawAnySpec)

/-- 'graverlaw11.RawCovers', WHERE WHAT IT READS IS OF BULK AT MOST 1048576: true; the input reads as it did. -/
def rawCoversUptoRow : OpenClaim := { program := "ytedocnidgiglaaa", sum := "7f114beb34fc1abbc819654c913e0797d27295f80b55860daab72e581975682f", func := "graver/graverlaw11.RawCovers", spec := "rawCovers", inPlace := ["internal/abi.NoEscape", "math/bits.Add64"], unfollowed := true, recurses := true, apart := false, narrowed := true }
def RawCoversUptoSaid : Prop := rawCoversUptoRow.holds Try.pinned (OpenSpec.upto rawCoversSpec)

/-- 'graverlaw12.NamesSections', WHERE WHAT IT READS IS OF BULK AT MOST 1048576: true; the input reads as it did. -/
def namesSectionsUptoRow : OpenClaim := { program := "ytedocnidgiglaaa", sum := "7f114beb34fc1abbc819654c913e0797d27295f80b55860daab72e581975682f", func := "graver/graverlaw12.NamesSections", spec := "namesSections", inPlace := ["internal/abi.NoEscape", "math/bits.Add64", "internal/bytealg.IndexByteString", "internal/bytealg.IndexString"], unfollowed := true, recurses := true, named := ["internal/bytealg.MaxLen"], apart := false, narrowed := true }
def NamesSectionsUptoSaid : Prop := namesSectionsUptoRow.holds Try.pinned (OpenSpec.upto namesSectionsSpec)

/-- 'graverlaw12.NamesAll', WHERE WHAT IT READS IS OF BULK AT MOST 1048576: true; the input reads as it did. -/
def namesAllUptoRow : OpenClaim := { program := "ytedocnidgiglaaa", sum := "7f114beb34fc1abbc819654c913e0797d27295f80b55860daab72e581975682f", func := "graver/graverlaw12.NamesAll", spec := "namesAll", inPlace := ["internal/abi.NoEscape", "math/bits.Add64", "internal/bytealg.IndexByteString", "internal/bytealg.IndexString"], unfollowed := true, recurses := true, named := ["internal/bytealg.MaxLen"], apart := false, narrowed := true }
def NamesAllUptoSaid : Prop := namesAllUptoRow.holds Try.pinned (OpenSpec.upto namesAllSpec)

/-- 'graverlaw14.CheckShapes', WHERE WHAT IT READS IS OF BULK AT MOST 1048576: true; the input reads as it did. -/
def checkShapesUptoRow : OpenClaim := { program := "ytedocnidgiglaaa", sum := "7f114beb34fc1abbc819654c913e0797d27295f80b55860daab72e581975682f", func := "graver/graverlaw14.CheckShapes", spec := "checkShapes", inPlace := ["internal/bytealg.IndexByteString"], unfollowed := true, recurses := true, apart := false, narrowed := true }
def CheckShapesUptoSaid : Prop := checkShapesUptoRow.holds Try.pinned (OpenSpec.upto checkShapesSpec)

/-- 'graverlaw14.CheckWrong', WHERE WHAT IT READS IS OF BULK AT MOST 1048576: true; the input reads as it did. -/
def checkWrongUptoRow : OpenClaim := { program := "ytedocnidgiglaaa", sum := "7f114beb34fc1abbc819654c913e0797d27295f80b55860daab72e581975682f", func := "graver/graverlaw14.CheckWrong", spec := "checkWrong", inPlace := ["internal/bytealg.IndexByteString"], unfollowed := true, recurses := true, apart := false, narrowed := true }
def CheckWrongUptoSaid : Prop := checkWrongUptoRow.holds Try.pinned (OpenSpec.upto checkWrongSpec)

/-- 'graverlaw14.CheckMany', WHERE WHAT IT READS IS OF BULK AT MOST 1048576: true; the input reads as it did. -/
def checkManyUptoRow : OpenClaim := { program := "ytedocnidgiglaaa", sum := "7f114beb34fc1abbc819654c913e0797d27295f80b55860daab72e581975682f", func := "graver/graverlaw14.CheckMany", spec := "checkMany", inPlace := ["internal/bytealg.IndexByteString"], unfollowed := true, recurses := true, apart := false, narrowed := true }
def CheckManyUptoSaid : Prop := checkManyUptoRow.holds Try.pinned (OpenSpec.upto checkManySpec)

/-- 'graverlaw14.CheckFaults', WHERE WHAT IT READS IS OF BULK AT MOST 1048576: true; the input reads as it did. -/
def checkFaultsUptoRow : OpenClaim := { program := "ytedocnidgiglaaa", sum := "7f114beb34fc1abbc819654c913e0797d27295f80b55860daab72e581975682f", func := "graver/graverlaw14.CheckFaults", spec := "checkFaults", inPlace := ["internal/bytealg.IndexByteString"], unfollowed := true, recurses := true, apart := false, narrowed := true }
def CheckFaultsUptoSaid : Prop := checkFaultsUptoRow.holds Try.pinned (OpenSpec.upto checkFaultsSpec)

end Rows
end Go.Proofs.Ytedocnidgiglaaa
