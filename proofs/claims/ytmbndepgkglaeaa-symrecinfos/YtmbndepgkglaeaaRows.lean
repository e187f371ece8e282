/-
  No cell of these rows narrows 'for every input' (looked for: loops, veiled, ifaces, maps, wideKeys, modest, calm, conditions, laid).
  DERIVED. THE GIVEN ROWS OF THIS SEAT. 5 by the template 'for every input the law returns true; each argument reads behind the call as it read before'; 0 by the template 'total and deterministic' (their statements: YtmbndepgkglaeaaTotals.lean).
  GIVEN WITH THE SEED: the statements are not yours to turn. If you find one false, say at which input.
  Laid BY PROGRAM, IN A SANDBOX (cutbox-rows.mjs): the forced cells as the released guide's own fill.sh prints them over the translation 4958f60bd9e56132… (all of the seat's roots in one cut). By AI agents, Wed Nov 11 2026. No macro, syntax, notation, axiom, sorry.
-/
import Derived.Test.YtmbndepgkglaeaaChecked
import GoSem.Claim
import GoSem.ClaimJoined
import GoSem.ClaimMapViews
import Derived.JoinedTies
import Derived.KernelRfl
namespace Go.Proofs.Ytmbndepgkglaeaa
/- THE CELL 'sum', in the pinned program and in every row, IS THE sha256 OF THE DUMP (.gsa) THAT YtmbndepgkglaeaaProg.lean LOADS. Nothing in Lean hashes anything: it is a label: what it is worth is what the hold of that sum in a sandbox is worth. -/
noncomputable def Try.pinned : Pinned := { name := "ytmbndepgkglaeaa", sum := "4958f60bd9e561322ac870c35da7be7e3a362cf15e852f26a60c1a891c471288", checked := Try.checked }
namespace Rows
def none {H : Type} : Left H := { results := [], args := [] }

/-- 'graverlaw07.PhdrPuts': WHATEVER THE INPUT: true; the input reads as it did. -/
def phdrPutsSpec : ChangeSpec := { name := "phdrPuts", fn := fun _ => fun
  | [d1, d2, d3] => { results := [.lit (.bool true)], args := [d1, d2, d3] }
  | _ => none }
def phdrPutsRow : OpenClaim := { program := "ytmbndepgkglaeaa", sum := "4958f60bd9e561322ac870c35da7be7e3a362cf15e852f26a60c1a891c471288", func := "graver/graverlaw07.PhdrPuts", spec := "phdrPuts", inPlace := ["internal/abi.NoEscape"], apart := false }
def PhdrPutsSaid : Prop := phdrPutsRow.holds Try.pinned (OpenSpec.ofChange phdrPutsSpec)

/-- ITS FALSE NEIGHBOUR: 'it returns false'. Refute it at one input. -/
def phdrPutsWrong : ChangeSpec := { name := "phdrPuts", fn := fun _ => fun
  | [d1, d2, d3] => { results := [.lit (.bool false)], args := [d1, d2, d3] }
  | _ => none }
def PhdrPutsWrongFalsely : Prop := phdrPutsRow.holds Try.pinned (OpenSpec.ofChange phdrPutsWrong)

/-- 'graverlaw07.PhdrReads': WHATEVER THE INPUT: true; the input reads as it did. -/
def phdrReadsSpec : ChangeSpec := { name := "phdrReads", fn := fun _ => fun
  | [d1, d2] => { results := [.lit (.bool true)], args := [d1, d2] }
  | _ => none }
def phdrReadsRow : OpenClaim := { program := "ytmbndepgkglaeaa", sum := "4958f60bd9e561322ac870c35da7be7e3a362cf15e852f26a60c1a891c471288", func := "graver/graverlaw07.PhdrReads", spec := "phdrReads", inPlace := ["internal/abi.NoEscape"], apart := false }
def PhdrReadsSaid : Prop := phdrReadsRow.holds Try.pinned (OpenSpec.ofChange phdrReadsSpec)

/-- ITS FALSE NEIGHBOUR: 'it returns false'. Refute it at one input. -/
def phdrReadsWrong : ChangeSpec := { name := "phdrReads", fn := fun _ => fun
  | [d1, d2] => { results := [.lit (.bool false)], args := [d1, d2] }
  | _ => none }
def PhdrReadsWrongFalsely : Prop := phdrReadsRow.holds Try.pinned (OpenSpec.ofChange phdrReadsWrong)

/-- 'graverlaw08.SymrecPuts': WHATEVER THE INPUT: true; the input reads as it did. -/
def symrecPutsSpec : ChangeSpec := { name := "symrecPuts", fn := fun _ => fun
  | [d1, d2, d3] => { results := [.lit (.bool true)], args := [d1, d2, d3] }
  | _ => none }
def symrecPutsRow : OpenClaim := { program := "ytmbndepgkglaeaa", sum := "4958f60bd9e561322ac870c35da7be7e3a362cf15e852f26a60c1a891c471288", func := "graver/graverlaw08.SymrecPuts", spec := "symrecPuts", inPlace := ["internal/abi.NoEscape"], apart := false }
def SymrecPutsSaid : Prop := symrecPutsRow.holds Try.pinned (OpenSpec.ofChange symrecPutsSpec)

/-- ITS FALSE NEIGHBOUR: 'it returns false'. Refute it at one input. -/
def symrecPutsWrong : ChangeSpec := { name := "symrecPuts", fn := fun _ => fun
  | [d1, d2, d3] => { results := [.lit (.bool false)], args := [d1, d2, d3] }
  | _ => none }
def SymrecPutsWrongFalsely : Prop := symrecPutsRow.holds Try.pinned (OpenSpec.ofChange symrecPutsWrong)

/-- 'graverlaw08.SymrecReads': WHATEVER THE INPUT: true; the input reads as it did. -/
def symrecReadsSpec : ChangeSpec := { name := "symrecReads", fn := fun _ => fun
  | [d1, d2] => { results := [.lit (.bool true)], args := [d1, d2] }
  | _ => none }
def symrecReadsRow : OpenClaim := { program := "ytmbndepgkglaeaa", sum := "4958f60bd9e561322ac870c35da7be7e3a362cf15e852f26a60c1a891c471288", func := "graver/graverlaw08.SymrecReads", spec := "symrecReads", inPlace := ["internal/abi.NoEscape"], apart := false }
def SymrecReadsSaid : Prop := symrecReadsRow.holds Try.pinned (OpenSpec.ofChange symrecReadsSpec)

/-- ITS FALSE NEIGHBOUR: 'it returns false'. Refute it at one input. -/
def symrecReadsWrong : ChangeSpec := { name := "symrecReads", fn := fun _ => fun
  | [d1, d2] => { results := [.lit (.bool false)], args := [d1, d2] }
  | _ => none }
def SymrecReadsWrongFalsely : Prop := symrecReadsRow.holds Try.pinned (OpenSpec.ofChange symrecReadsWrong)

/-- 'graverlaw08.SymrecInfos': WHATEVER THE INPUT: true; the input reads as it did. -/
def symrecInfosSpec : ChangeSpec := { name := "symrecInfos", fn := fun _ => fun
  | [d1, d2, d3] => { results := [.lit (.bool true)], args := [d1, d2, d3] }
  | _ => none }
def symrecInfosRow : OpenClaim := { program := "ytmbndepgkglaeaa", sum := "4958f60bd9e561322ac870c35da7be7e3a362cf15e852f26a60c1a891c471288", func := "graver/graverlaw08.SymrecInfos", spec := "symrecInfos", inPlace := ["internal/abi.NoEscape"], apart := false }
def SymrecInfosSaid : Prop := symrecInfosRow.holds Try.pinned (OpenSpec.ofChange symrecInfosSpec)

/-- ITS FALSE NEIGHBOUR: 'it returns false'. Refute it at one input. -/
def symrecInfosWrong : ChangeSpec := { name := "symrecInfos", fn := fun _ => fun
  | [d1, d2, d3] => { results := [.lit (.bool false)], args := [d1, d2, d3] }
  | _ => none }
def SymrecInfosWrongFalsely : Prop := symrecInfosRow.holds Try.pinned (OpenSpec.ofChange symrecInfosWrong)

/- THE SECOND FORM. 'bulk': how many values and letters a reading holds, each counted each time it is reached (what is shared counts as often as it is met; a slice's spare places count too). A statement '..UptoSaid' is the law's where the arguments, and the package variables that the reading takes, are together of bulk at most 1048576: NARROWER than '..Said'. Prove '..Said' where nothing that the law and all that it calls make is longer than what came in: it says more and counts as full. Else prove '..UptoSaid'. A law counts once. -/
mutual
def uptoBulk {H : Type} : DataW H → Nat
  | .lit (.string bytes) => bytes.length + 1
  | .lit _ => 1
  | .nil => 1
  | .ptr d => uptoBulk d + 1
  | .slice elems spare => uptoBulkAll elems + uptoBulkAll spare + 1
  | .agg parts => uptoBulkAll parts + 1
  | .iface _ d => uptoBulk d + 1
  | .map entries => uptoBulkEntries entries + 1
  | .held _ => 1
def uptoBulkAll {H : Type} : List (DataW H) → Nat
  | [] => 0
  | d :: r => uptoBulk d + uptoBulkAll r
def uptoBulkEntries {H : Type} : List (Lit × DataW H) → Nat
  | [] => 0
  | x :: r => uptoBulkEntry x + uptoBulkEntries r
def uptoBulkEntry {H : Type} : Lit × DataW H → Nat
  | (.string bytes, d) => bytes.length + uptoBulk d + 1
  | (_, d) => uptoBulk d + 1
 end
def uptoSmall : (H : Type) → List (DataW H) → Bool := fun _ ds => decide (uptoBulkAll ds ≤ 1048576)
def OpenSpec.upto (s : _root_.Go.ChangeSpec) : _root_.Go.OpenSpec := { _root_.Go.OpenSpec.ofChange s with cond := some uptoSmall }

/-- 'graverlaw07.PhdrPuts', WHERE WHAT IT READS IS OF BULK AT MOST 1048576: true; the input reads as it did. -/
def phdrPutsUptoRow : OpenClaim := { program := "ytmbndepgkglaeaa", sum := "4958f60bd9e561322ac870c35da7be7e3a362cf15e852f26a60c1a891c471288", func := "graver/graverlaw07.PhdrPuts", spec := "phdrPuts", inPlace := ["internal/abi.NoEscape"], apart := false, narrowed := true }
def PhdrPutsUptoSaid : Prop := phdrPutsUptoRow.holds Try.pinned (OpenSpec.upto phdrPutsSpec)

/-- 'graverlaw07.PhdrReads', WHERE WHAT IT READS IS OF BULK AT MOST 1048576: true; the input reads as it did. -/
def phdrReadsUptoRow : OpenClaim := { program := "ytmbndepgkglaeaa", sum := "4958f60bd9e561322ac870c35da7be7e3a362cf15e852f26a60c1a891c471288", func := "graver/graverlaw07.PhdrReads", spec := "phdrReads", inPlace := ["internal/abi.NoEscape"], apart := false, narrowed := true }
def PhdrReadsUptoSaid : Prop := phdrReadsUptoRow.holds Try.pinned (OpenSpec.upto phdrReadsSpec)

/-- 'graverlaw08.SymrecPuts', WHERE WHAT IT READS IS OF BULK AT MOST 1048576: true; the input reads as it did. -/
def symrecPutsUptoRow : OpenClaim := { program := "ytmbndepgkglaeaa", sum := "4958f60bd9e561322ac870c35da7be7e3a362cf15e852f26a60c1a891c471288", func := "graver/graverlaw08.SymrecPuts", spec := "symrecPuts", inPlace := ["internal/abi.NoEscape"], apart := false, narrowed := true }
def SymrecPutsUptoSaid : Prop := symrecPutsUptoRow.holds Try.pinned (OpenSpec.upto symrecPutsSpec)

/-- 'graverlaw08.SymrecReads', WHERE WHAT IT READS IS OF BULK AT MOST 1048576: true; the input reads as it did. -/
def symrecReadsUptoRow : OpenClaim := { program := "ytmbndepgkglaeaa", sum := "4958f60bd9e561322ac870c35da7be7e3a362cf15e852f26a60c1a891c471288", func := "graver/graverlaw08.SymrecReads", spec := "symrecReads", inPlace := ["internal/abi.NoEscape"], apart := false, narrowed := true }
def SymrecReadsUptoSaid : Prop := symrecReadsUptoRow.holds Try.pinned (OpenSpec.upto symrecReadsSpec)

/-- 'graverlaw08.SymrecInfos', WHERE WHAT IT READS IS OF BULK AT MOST 1048576: true; the input reads as it did. -/
def symrecInfosUptoRow : OpenClaim := { program := "ytmbndepgkglaeaa", sum := "4958f60bd9e561322ac870c35da7be7e3a362cf15e852f26a60c1a891c471288", func := "graver/graverlaw08.SymrecInfos", spec := "symrecInfos", inPlace := ["internal/abi.NoEscape"], apart := false, narrowed := true }
def SymrecInfosUptoSaid : Prop := symrecInfosUptoRow.holds Try.pinned (OpenSpec.upto symrecInfosSpec)

end Rows
end Go.Proofs.Ytmbndepgkglaeaa
