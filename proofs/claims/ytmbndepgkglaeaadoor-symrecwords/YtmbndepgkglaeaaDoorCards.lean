/-
  DERIVED. GIVEN WITH THE SEED: THE CARDS: each row of YtmbndepgkglaeaaDoorRows.lean that lists a variable, with what it lists TIED to the program's text (the seventh form; the later family's looks); each row that meets fmt, with fmt's text TOLD by the authors' own Lean function (tested against real Go, not proved from fmt's source: count such statements apart). THE CARD IS WHAT COUNTS. Prove the row's statement (the work); the ties are given (YtmbndepgkglaeaaDoorTie.lean); close each card by the builder's one call (the guide's Derived/Test/ToyasCard.lean, 'card_holds'). Laid BY PROGRAM, IN A SANDBOX (cutbox-door.mjs). By AI agents, Wed Nov 11 2026. No macro, syntax, notation, axiom, sorry.
-/
import Derived.Test.YtmbndepgkglaeaaDoorRows
import GoSem.ClaimSeven
namespace Go.Proofs.YtmbndepgkglaeaaDoor
namespace Rows

/-- THE TIED CARD OF 'graverlaw07.PhdrWords'. -/
def phdrWordsCard : Claim7 := { stood := { row := phdrWordsRow, standIns := [], harness := (true, "2161f7daf6b63b1d19bf614ea6b8a780b4d357deb73bc1241a1161ab5f5aea59"), looks := false }, kinds := [], alts := [], laidByText := true, laidKinds := [.data, .data, .data, .data], laidTests := true, laidLooks := .later }
def PhdrWordsCardSaid : Prop := Claim7.holds Tryd.pinned (.plain (OpenSpec.ofChange phdrWordsSpec)) phdrWordsCard

/-- THE TIED CARD OF 'graverlaw08.SymrecWords'. -/
def symrecWordsCard : Claim7 := { stood := { row := symrecWordsRow, standIns := [], harness := (true, "2161f7daf6b63b1d19bf614ea6b8a780b4d357deb73bc1241a1161ab5f5aea59"), looks := false }, kinds := [], alts := [], laidByText := true, laidKinds := [.data, .data, .data, .data, .data], laidTests := true, laidLooks := .later }
def SymrecWordsCardSaid : Prop := Claim7.holds Tryd.pinned (.plain (OpenSpec.ofChange symrecWordsSpec)) symrecWordsCard

/-- THE SECOND FORM's CARD OF 'graverlaw07.PhdrWords'. -/
def phdrWordsUptoCard : Claim7 := { stood := { row := phdrWordsUptoRow, standIns := [], harness := (true, "2161f7daf6b63b1d19bf614ea6b8a780b4d357deb73bc1241a1161ab5f5aea59"), looks := false }, kinds := [], alts := [], laidByText := true, laidKinds := [.data, .data, .data, .data], laidTests := true, laidLooks := .later }
def PhdrWordsUptoCardSaid : Prop := Claim7.holds Tryd.pinned (.plain (OpenSpec.upto phdrWordsSpec)) phdrWordsUptoCard

/-- THE SECOND FORM's CARD OF 'graverlaw08.SymrecWords'. -/
def symrecWordsUptoCard : Claim7 := { stood := { row := symrecWordsUptoRow, standIns := [], harness := (true, "2161f7daf6b63b1d19bf614ea6b8a780b4d357deb73bc1241a1161ab5f5aea59"), looks := false }, kinds := [], alts := [], laidByText := true, laidKinds := [.data, .data, .data, .data, .data], laidTests := true, laidLooks := .later }
def SymrecWordsUptoCardSaid : Prop := Claim7.holds Tryd.pinned (.plain (OpenSpec.upto symrecWordsSpec)) symrecWordsUptoCard
end Rows
end Go.Proofs.YtmbndepgkglaeaaDoor
