/-
  No cell of these rows narrows 'for every input' (looked for: loops, veiled, ifaces, maps, wideKeys, modest, calm, conditions, laid).
  DERIVED. THE GIVEN ROWS OF THIS SEAT. 9 by the template 'for every input the law returns true; each argument reads behind the call as it read before'; 0 by the template 'total and deterministic' (their statements: YtddlflabdlgnbaaTotals.lean).
  GIVEN WITH THE SEED: the statements are not yours to turn. If you find one false, say at which input.
  Laid BY PROGRAM, IN A SANDBOX (cutbox-rows.mjs): the forced cells as the released guide's own fill.sh prints them over the translation 4760a6a2fa1a8a03… (all of the seat's roots in one cut). By AI agents, Wed Nov 11 2026. No macro, syntax, notation, axiom, sorry.
-/
import Derived.Test.YtddlflabdlgnbaaChecked
import GoSem.Claim
import GoSem.ClaimJoined
import GoSem.ClaimMapViews
import Derived.JoinedTies
import Derived.KernelRfl
namespace Go.Proofs.Ytddlflabdlgnbaa
/- THE CELL 'sum', in the pinned program and in every row, IS THE sha256 OF THE DUMP (.gsa) THAT YtddlflabdlgnbaaProg.lean LOADS. Nothing in Lean hashes anything: it is a label: what it is worth is what the hold of that sum in a sandbox is worth. -/
noncomputable def Try.pinned : Pinned := { name := "ytddlflabdlgnbaa", sum := "4760a6a2fa1a8a03eed6e014cdeebceaa42eebdc83fa220907fc08f8660bbb45", checked := Try.checked }
namespace Rows
def none {H : Type} : Left H := { results := [], args := [] }

/-- 'graverlaw03.StrtabBuilds': WHATEVER THE INPUT: true; the input reads as it did. -/
def strtabBuildsSpec : ChangeSpec := { name := "strtabBuilds", fn := fun _ => fun
  | [d] => { results := [.lit (.bool true)], args := [d] }
  | _ => none }
def strtabBuildsRow : OpenClaim := { program := "ytddlflabdlgnbaa", sum := "4760a6a2fa1a8a03eed6e014cdeebceaa42eebdc83fa220907fc08f8660bbb45", func := "graver/graverlaw03.StrtabBuilds", spec := "strtabBuilds", inPlace := ["internal/bytealg.IndexByteString", "internal/bytealg.abigen_runtime_cmpstring", "internal/abi.NoEscape", "internal/bytealg.IndexString"], unfollowed := true, recurses := true, named := ["internal/bytealg.MaxLen"], apart := false }
def StrtabBuildsSaid : Prop := strtabBuildsRow.holds Try.pinned (OpenSpec.ofChange strtabBuildsSpec)

/-- ITS FALSE NEIGHBOUR: 'it returns false'. Refute it at one input. -/
def strtabBuildsWrong : ChangeSpec := { name := "strtabBuilds", fn := fun _ => fun
  | [d] => { results := [.lit (.bool false)], args := [d] }
  | _ => none }
def StrtabBuildsWrongFalsely : Prop := strtabBuildsRow.holds Try.pinned (OpenSpec.ofChange strtabBuildsWrong)

/-- 'graverlaw03.StrtabAgain': WHATEVER THE INPUT: true; the input reads as it did. -/
def strtabAgainSpec : ChangeSpec := { name := "strtabAgain", fn := fun _ => fun
  | [d1, d2] => { results := [.lit (.bool true)], args := [d1, d2] }
  | _ => none }
def strtabAgainRow : OpenClaim := { program := "ytddlflabdlgnbaa", sum := "4760a6a2fa1a8a03eed6e014cdeebceaa42eebdc83fa220907fc08f8660bbb45", func := "graver/graverlaw03.StrtabAgain", spec := "strtabAgain", inPlace := ["internal/bytealg.IndexByteString", "internal/bytealg.abigen_runtime_cmpstring", "internal/abi.NoEscape", "internal/bytealg.IndexString"], unfollowed := true, recurses := true, named := ["internal/bytealg.MaxLen"], apart := false }
def StrtabAgainSaid : Prop := strtabAgainRow.holds Try.pinned (OpenSpec.ofChange strtabAgainSpec)

/-- ITS FALSE NEIGHBOUR: 'it returns false'. Refute it at one input. -/
def strtabAgainWrong : ChangeSpec := { name := "strtabAgain", fn := fun _ => fun
  | [d1, d2] => { results := [.lit (.bool false)], args := [d1, d2] }
  | _ => none }
def StrtabAgainWrongFalsely : Prop := strtabAgainRow.holds Try.pinned (OpenSpec.ofChange strtabAgainWrong)

/-- 'graverlaw03.StrtabAdds': WHATEVER THE INPUT: true; the input reads as it did. -/
def strtabAddsSpec : ChangeSpec := { name := "strtabAdds", fn := fun _ => fun
  | [d1, d2, d3] => { results := [.lit (.bool true)], args := [d1, d2, d3] }
  | _ => none }
def strtabAddsRow : OpenClaim := { program := "ytddlflabdlgnbaa", sum := "4760a6a2fa1a8a03eed6e014cdeebceaa42eebdc83fa220907fc08f8660bbb45", func := "graver/graverlaw03.StrtabAdds", spec := "strtabAdds", inPlace := ["internal/bytealg.IndexByteString", "internal/bytealg.abigen_runtime_cmpstring", "internal/abi.NoEscape", "internal/bytealg.IndexString"], unfollowed := true, recurses := true, named := ["internal/bytealg.MaxLen"], apart := false }
def StrtabAddsSaid : Prop := strtabAddsRow.holds Try.pinned (OpenSpec.ofChange strtabAddsSpec)

/-- ITS FALSE NEIGHBOUR: 'it returns false'. Refute it at one input. -/
def strtabAddsWrong : ChangeSpec := { name := "strtabAdds", fn := fun _ => fun
  | [d1, d2, d3] => { results := [.lit (.bool false)], args := [d1, d2, d3] }
  | _ => none }
def StrtabAddsWrongFalsely : Prop := strtabAddsRow.holds Try.pinned (OpenSpec.ofChange strtabAddsWrong)

/-- 'graverlaw09.RelrecPuts': WHATEVER THE INPUT: true; the input reads as it did. -/
def relrecPutsSpec : ChangeSpec := { name := "relrecPuts", fn := fun _ => fun
  | [d1, d2, d3] => { results := [.lit (.bool true)], args := [d1, d2, d3] }
  | _ => none }
def relrecPutsRow : OpenClaim := { program := "ytddlflabdlgnbaa", sum := "4760a6a2fa1a8a03eed6e014cdeebceaa42eebdc83fa220907fc08f8660bbb45", func := "graver/graverlaw09.RelrecPuts", spec := "relrecPuts", inPlace := ["internal/abi.NoEscape"], apart := false }
def RelrecPutsSaid : Prop := relrecPutsRow.holds Try.pinned (OpenSpec.ofChange relrecPutsSpec)

/-- ITS FALSE NEIGHBOUR: 'it returns false'. Refute it at one input. -/
def relrecPutsWrong : ChangeSpec := { name := "relrecPuts", fn := fun _ => fun
  | [d1, d2, d3] => { results := [.lit (.bool false)], args := [d1, d2, d3] }
  | _ => none }
def RelrecPutsWrongFalsely : Prop := relrecPutsRow.holds Try.pinned (OpenSpec.ofChange relrecPutsWrong)

/-- 'graverlaw09.RelrecReads': WHATEVER THE INPUT: true; the input reads as it did. -/
def relrecReadsSpec : ChangeSpec := { name := "relrecReads", fn := fun _ => fun
  | [d1, d2] => { results := [.lit (.bool true)], args := [d1, d2] }
  | _ => none }
def relrecReadsRow : OpenClaim := { program := "ytddlflabdlgnbaa", sum := "4760a6a2fa1a8a03eed6e014cdeebceaa42eebdc83fa220907fc08f8660bbb45", func := "graver/graverlaw09.RelrecReads", spec := "relrecReads", inPlace := ["internal/abi.NoEscape"], apart := false }
def RelrecReadsSaid : Prop := relrecReadsRow.holds Try.pinned (OpenSpec.ofChange relrecReadsSpec)

/-- ITS FALSE NEIGHBOUR: 'it returns false'. Refute it at one input. -/
def relrecReadsWrong : ChangeSpec := { name := "relrecReads", fn := fun _ => fun
  | [d1, d2] => { results := [.lit (.bool false)], args := [d1, d2] }
  | _ => none }
def RelrecReadsWrongFalsely : Prop := relrecReadsRow.holds Try.pinned (OpenSpec.ofChange relrecReadsWrong)

/-- 'graverlaw09.RelrecSizes': WHATEVER THE INPUT: true; the input reads as it did. -/
def relrecSizesSpec : ChangeSpec := { name := "relrecSizes", fn := fun _ => fun
  | [d] => { results := [.lit (.bool true)], args := [d] }
  | _ => none }
def relrecSizesRow : OpenClaim := { program := "ytddlflabdlgnbaa", sum := "4760a6a2fa1a8a03eed6e014cdeebceaa42eebdc83fa220907fc08f8660bbb45", func := "graver/graverlaw09.RelrecSizes", spec := "relrecSizes", inPlace := ["internal/abi.NoEscape"], apart := false }
def RelrecSizesSaid : Prop := relrecSizesRow.holds Try.pinned (OpenSpec.ofChange relrecSizesSpec)

/-- ITS FALSE NEIGHBOUR: 'it returns false'. Refute it at one input. -/
def relrecSizesWrong : ChangeSpec := { name := "relrecSizes", fn := fun _ => fun
  | [d] => { results := [.lit (.bool false)], args := [d] }
  | _ => none }
def RelrecSizesWrongFalsely : Prop := relrecSizesRow.holds Try.pinned (OpenSpec.ofChange relrecSizesWrong)

/-- 'graverlaw09.RelrecAll': WHATEVER THE INPUT: true; the input reads as it did. -/
def relrecAllSpec : ChangeSpec := { name := "relrecAll", fn := fun _ => fun
  | [d1, d2, d3] => { results := [.lit (.bool true)], args := [d1, d2, d3] }
  | _ => none }
def relrecAllRow : OpenClaim := { program := "ytddlflabdlgnbaa", sum := "4760a6a2fa1a8a03eed6e014cdeebceaa42eebdc83fa220907fc08f8660bbb45", func := "graver/graverlaw09.RelrecAll", spec := "relrecAll", inPlace := ["internal/abi.NoEscape"], apart := false }
def RelrecAllSaid : Prop := relrecAllRow.holds Try.pinned (OpenSpec.ofChange relrecAllSpec)

/-- ITS FALSE NEIGHBOUR: 'it returns false'. Refute it at one input. -/
def relrecAllWrong : ChangeSpec := { name := "relrecAll", fn := fun _ => fun
  | [d1, d2, d3] => { results := [.lit (.bool false)], args := [d1, d2, d3] }
  | _ => none }
def RelrecAllWrongFalsely : Prop := relrecAllRow.holds Try.pinned (OpenSpec.ofChange relrecAllWrong)

/-- 'gravertop.TopRecords': WHATEVER THE INPUT: true; the input reads as it did. -/
def topRecordsSpec : ChangeSpec := { name := "topRecords", fn := fun _ => fun
  | [d1, d2] => { results := [.lit (.bool true)], args := [d1, d2] }
  | _ => none }
def topRecordsRow : OpenClaim := { program := "ytddlflabdlgnbaa", sum := "4760a6a2fa1a8a03eed6e014cdeebceaa42eebdc83fa220907fc08f8660bbb45", func := "graver/gravertop.TopRecords", spec := "topRecords", inPlace := ["internal/abi.NoEscape"], apart := false }
def TopRecordsSaid : Prop := topRecordsRow.holds Try.pinned (OpenSpec.ofChange topRecordsSpec)

/-- ITS FALSE NEIGHBOUR: 'it returns false'. Refute it at one input. -/
def topRecordsWrong : ChangeSpec := { name := "topRecords", fn := fun _ => fun
  | [d1, d2] => { results := [.lit (.bool false)], args := [d1, d2] }
  | _ => none }
def TopRecordsWrongFalsely : Prop := topRecordsRow.holds Try.pinned (OpenSpec.ofChange topRecordsWrong)

/-- 'gravertop.TopTables': WHATEVER THE INPUT: true; the input reads as it did. -/
def topTablesSpec : ChangeSpec := { name := "topTables", fn := fun _ => fun
  | [d1, d2] => { results := [.lit (.bool true)], args := [d1, d2] }
  | _ => none }
def topTablesRow : OpenClaim := { program := "ytddlflabdlgnbaa", sum := "4760a6a2fa1a8a03eed6e014cdeebceaa42eebdc83fa220907fc08f8660bbb45", func := "graver/gravertop.TopTables", spec := "topTables", inPlace := ["internal/abi.NoEscape", "internal/bytealg.IndexByteString", "internal/bytealg.abigen_runtime_cmpstring", "internal/bytealg.IndexString"], unfollowed := true, recurses := true, named := ["internal/bytealg.MaxLen"], apart := false }
def TopTablesSaid : Prop := topTablesRow.holds Try.pinned (OpenSpec.ofChange topTablesSpec)

/-- ITS FALSE NEIGHBOUR: 'it returns false'. Refute it at one input. -/
def topTablesWrong : ChangeSpec := { name := "topTables", fn := fun _ => fun
  | [d1, d2] => { results := [.lit (.bool false)], args := [d1, d2] }
  | _ => none }
def TopTablesWrongFalsely : Prop := topTablesRow.holds Try.pinned (OpenSpec.ofChange topTablesWrong)

/- THE SECOND FORM. 'bulk': how many values and letters a reading holds, each counted each time it is reached (what is shared counts as often as it is met; a slice's spare places count too). A statement '..UptoSaid' is the law's where the arguments, and the package variables that the reading takes, are together of bulk at most 1048576: NARROWER than '..Said'. Prove '..Said' where nothing that the law and all that it calls make is longer than what came in: it says more and counts as full. Else prove '..UptoSaid'. A law counts once. -/
mutual
def uptoBulk {H : Type} : DataW H → Nat
  | .lit (.string bytes) => bytes.length + 1
  | .lit _ => 1
  | .nil => 1
  | .ptr d => uptoBulk d + 1
  | .slice elems spare => uptoBulkAll elems + uptoBulkAll spare + 1
  | .agg parts => uptoBulkAll parts + 1
  | .iface _ d => uptoBulk d + 1
  | .map entries => uptoBulkEntries entries + 1
  | .held _ => 1
def uptoBulkAll {H : Type} : List (DataW H) → Nat
  | [] => 0
  | d :: r => uptoBulk d + uptoBulkAll r
def uptoBulkEntries {H : Type} : List (Lit × DataW H) → Nat
  | [] => 0
  | x :: r => uptoBulkEntry x + uptoBulkEntries r
def uptoBulkEntry {H : Type} : Lit × DataW H → Nat
  | (.string bytes, d) => bytes.length + uptoBulk d + 1
  | (_, d) => uptoBulk d + 1
 end
def uptoSmall : (H : Type) → List (DataW H) → Bool := fun _ ds => decide (uptoBulkAll ds ≤ 1048576)
def OpenSpec.upto (s : _root_.Go.ChangeSpec) : _root_.Go.OpenSpec := { _root_.Go.OpenSpec.ofChange s with cond := some uptoSmall }

/-- 'graverlaw03.StrtabBuilds', WHERE WHAT IT READS IS OF BULK AT MOST 1048576: true; the input reads as it did. -/
def strtabBuildsUptoRow : OpenClaim := { program := "ytddlflabdlgnbaa", sum := "4760a6a2fa1a8a03eed6e014cdeebceaa42eebdc83fa220907fc08f8660bbb45", func := "graver/graverlaw03.StrtabBuilds", spec := "strtabBuilds", inPlace := ["internal/bytealg.IndexByteString", "internal/bytealg.abigen_runtime_cmpstring", "internal/abi.NoEscape", "internal/bytealg.IndexString"], unfollowed := true, recurses := true, named := ["internal/bytealg.MaxLen"], apart := false, narrowed := true }
def StrtabBuildsUptoSaid : Prop := strtabBuildsUptoRow.holds Try.pinned (OpenSpec.upto strtabBuildsSpec)

/-- 'graverlaw03.StrtabAgain', WHERE WHAT IT READS IS OF BULK AT MOST 1048576: true; the input reads as it did. -/
def strtabAgainUptoRow : OpenClaim := { program := "ytddlflabdlgnbaa", sum := "4760a6a2fa1a8a03eed6e014cdeebceaa42eebdc83fa220907fc08f8660bbb45", func := "graver/graverlaw03.StrtabAgain", spec := "strtabAgain", inPlace := ["internal/bytealg.IndexByteString", "internal/bytealg.abigen_runtime_cmpstring", "internal/abi.NoEscape", "internal/bytealg.IndexString"], unfollowed := true, recurses := true, named := ["internal/bytealg.MaxLen"], apart := false, narrowed := true }
def StrtabAgainUptoSaid : Prop := strtabAgainUptoRow.holds Try.pinned (OpenSpec.upto strtabAgainSpec)

/-- 'graverlaw03.StrtabAdds', WHERE WHAT IT READS IS OF BULK AT MOST 1048576: true; the input reads as it did. -/
def strtabAddsUptoRow : OpenClaim := { program := "ytddlflabdlgnbaa", sum := "4760a6a2fa1a8a03eed6e014cdeebceaa42eebdc83fa220907fc08f8660bbb45", func := "graver/graverlaw03.StrtabAdds", spec := "strtabAdds", inPlace := ["internal/bytealg.IndexByteString", "internal/bytealg.abigen_runtime_cmpstring", "internal/abi.NoEscape", "internal/bytealg.IndexString"], unfollowed := true, recurses := true, named := ["internal/bytealg.MaxLen"], apart := false, narrowed := true }
def StrtabAddsUptoSaid : Prop := strtabAddsUptoRow.holds Try.pinned (OpenSpec.upto strtabAddsSpec)

/-- 'graverlaw09.RelrecPuts', WHERE WHAT IT READS IS OF BULK AT MOST 1048576: true; the input reads as it did. -/
def relrecPutsUptoRow : OpenClaim := { program := "ytddlflabdlgnbaa", sum := "4760a6a2fa1a8a03eed6e014cdeebceaa42eebdc83fa220907fc08f8660bbb45", func := "graver/graverlaw09.RelrecPuts", spec := "relrecPuts", inPlace := ["internal/abi.NoEscape"], apart := false, narrowed := true }
def RelrecPutsUptoSaid : Prop := relrecPutsUptoRow.holds Try.pinned (OpenSpec.upto relrecPutsSpec)

/-- 'graverlaw09.RelrecReads', WHERE WHAT IT READS IS OF BULK AT MOST 1048576: true; the input reads as it did. -/
def relrecReadsUptoRow : OpenClaim := { program := "ytddlflabdlgnbaa", sum := "4760a6a2fa1a8a03eed6e014cdeebceaa42eebdc83fa220907fc08f8660bbb45", func := "graver/graverlaw09.RelrecReads", spec := "relrecReads", inPlace := ["internal/abi.NoEscape"], apart := false, narrowed := true }
def RelrecReadsUptoSaid : Prop := relrecReadsUptoRow.holds Try.pinned (OpenSpec.upto relrecReadsSpec)

/-- 'graverlaw09.RelrecSizes', WHERE WHAT IT READS IS OF BULK AT MOST 1048576: true; the input reads as it did. -/
def relrecSizesUptoRow : OpenClaim := { program := "ytddlflabdlgnbaa", sum := "4760a6a2fa1a8a03eed6e014cdeebceaa42eebdc83fa220907fc08f8660bbb45", func := "graver/graverlaw09.RelrecSizes", spec := "relrecSizes", inPlace := ["internal/abi.NoEscape"], apart := false, narrowed := true }
def RelrecSizesUptoSaid : Prop := relrecSizesUptoRow.holds Try.pinned (OpenSpec.upto relrecSizesSpec)

/-- 'graverlaw09.RelrecAll', WHERE WHAT IT READS IS OF BULK AT MOST 1048576: true; the input reads as it did. -/
def relrecAllUptoRow : OpenClaim := { program := "ytddlflabdlgnbaa", sum := "4760a6a2fa1a8a03eed6e014cdeebceaa42eebdc83fa220907fc08f8660bbb45", func := "graver/graverlaw09.RelrecAll", spec := "relrecAll", inPlace := ["internal/abi.NoEscape"], apart := false, narrowed := true }
def RelrecAllUptoSaid : Prop := relrecAllUptoRow.holds Try.pinned (OpenSpec.upto relrecAllSpec)

/-- 'gravertop.TopRecords', WHERE WHAT IT READS IS OF BULK AT MOST 1048576: true; the input reads as it did. -/
def topRecordsUptoRow : OpenClaim := { program := "ytddlflabdlgnbaa", sum := "4760a6a2fa1a8a03eed6e014cdeebceaa42eebdc83fa220907fc08f8660bbb45", func := "graver/gravertop.TopRecords", spec := "topRecords", inPlace := ["internal/abi.NoEscape"], apart := false, narrowed := true }
def TopRecordsUptoSaid : Prop := topRecordsUptoRow.holds Try.pinned (OpenSpec.upto topRecordsSpec)

/-- 'gravertop.TopTables', WHERE WHAT IT READS IS OF BULK AT MOST 1048576: true; the input reads as it did. -/
def topTablesUptoRow : OpenClaim := { program := "ytddlflabdlgnbaa", sum := "4760a6a2fa1a8a03eed6e014cdeebceaa42eebdc83fa220907fc08f8660bbb45", func := "graver/gravertop.TopTables", spec := "topTables", inPlace := ["internal/abi.NoEscape", "internal/bytealg.IndexByteString", "internal/bytealg.abigen_runtime_cmpstring", "internal/bytealg.IndexString"], unfollowed := true, recurses := true, named := ["internal/bytealg.MaxLen"], apart := false, narrowed := true }
def TopTablesUptoSaid : Prop := topTablesUptoRow.holds Try.pinned (OpenSpec.upto topTablesSpec)

end Rows
end Go.Proofs.Ytddlflabdlgnbaa
