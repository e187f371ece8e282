/-
  DERIVED. GIVEN WITH THE SEED: THE CARDS: each row of YtkajgakblcgocaaDoorRows.lean that lists a variable, with what it lists TIED to the program's text (the seventh form; the later family's looks); each row that meets fmt, with fmt's text TOLD by the authors' own Lean function (tested against real Go, not proved from fmt's source: count such statements apart). THE CARD IS WHAT COUNTS. Prove the row's statement (the work); the ties are given (YtkajgakblcgocaaDoorTie.lean); close each card by the builder's one call (the guide's Derived/Test/ToyasCard.lean, 'card_holds'). Laid BY PROGRAM, IN A SANDBOX (cutbox-door.mjs). By AI agents, Wed Nov 11 2026. No macro, syntax, notation, axiom, sorry.
-/
import Derived.Test.YtkajgakblcgocaaDoorRows
import GoSem.ClaimSeven
namespace Go.Proofs.YtkajgakblcgocaaDoor
namespace Rows

/-- THE TIED CARD OF 'graverlaw05.EhdrWords'. -/
def ehdrWordsCard : Claim7 := { stood := { row := ehdrWordsRow, standIns := [], harness := (true, "ab3114423103e7d8e1704da2d2dff9b6e73193ec99190dab690550fad9ca9352"), looks := false }, kinds := [], alts := [], laidByText := true, laidKinds := [.data, .data, .data, .data, .data], laidTests := true, laidLooks := .later }
def EhdrWordsCardSaid : Prop := Claim7.holds Tryd.pinned (.plain (OpenSpec.ofChange ehdrWordsSpec)) ehdrWordsCard

/-- THE TIED CARD OF 'graverlaw06.ShdrWords'. -/
def shdrWordsCard : Claim7 := { stood := { row := shdrWordsRow, standIns := [], harness := (true, "ab3114423103e7d8e1704da2d2dff9b6e73193ec99190dab690550fad9ca9352"), looks := false }, kinds := [], alts := [], laidByText := true, laidKinds := [.data, .data, .data, .data], laidTests := true, laidLooks := .later }
def ShdrWordsCardSaid : Prop := Claim7.holds Tryd.pinned (.plain (OpenSpec.ofChange shdrWordsSpec)) shdrWordsCard

/-- THE SECOND FORM's CARD OF 'graverlaw05.EhdrWords'. -/
def ehdrWordsUptoCard : Claim7 := { stood := { row := ehdrWordsUptoRow, standIns := [], harness := (true, "ab3114423103e7d8e1704da2d2dff9b6e73193ec99190dab690550fad9ca9352"), looks := false }, kinds := [], alts := [], laidByText := true, laidKinds := [.data, .data, .data, .data, .data], laidTests := true, laidLooks := .later }
def EhdrWordsUptoCardSaid : Prop := Claim7.holds Tryd.pinned (.plain (OpenSpec.upto ehdrWordsSpec)) ehdrWordsUptoCard

/-- THE SECOND FORM's CARD OF 'graverlaw06.ShdrWords'. -/
def shdrWordsUptoCard : Claim7 := { stood := { row := shdrWordsUptoRow, standIns := [], harness := (true, "ab3114423103e7d8e1704da2d2dff9b6e73193ec99190dab690550fad9ca9352"), looks := false }, kinds := [], alts := [], laidByText := true, laidKinds := [.data, .data, .data, .data], laidTests := true, laidLooks := .later }
def ShdrWordsUptoCardSaid : Prop := Claim7.holds Tryd.pinned (.plain (OpenSpec.upto shdrWordsSpec)) shdrWordsUptoCard
end Rows
end Go.Proofs.YtkajgakblcgocaaDoor
