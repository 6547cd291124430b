/-
  DERIVED. GIVEN WITH THE SEED: THE CARDS: each row of YtpnapmmndebimaaGreatDoorRows.lean that lists a variable, with what it lists TIED to the program's text (the seventh form; the later family's looks); each row that meets fmt, with fmt's text TOLD by the authors' own Lean function (tested against real Go, not proved from fmt's source: count such statements apart). THE CARD IS WHAT COUNTS. Prove the row's statement (the work); the ties are given (YtpnapmmndebimaaGreatDoorTie.lean); close each card by the builder's one call (the guide's Derived/Test/ToyasCard.lean, 'card_holds'). Laid BY PROGRAM, IN A SANDBOX (cutbox-door.mjs). By AI agents, Wed Nov 11 2026. No macro, syntax, notation, axiom, sorry.
-/
import Derived.Test.YtpnapmmndebimaaGreatDoorRows
import GoSem.ClaimSeven
namespace Go.Proofs.YtpnapmmndebimaaGreatDoor
namespace Rows

/-- THE TIED CARD OF 'postillaw01.LeafExamples'. -/
def leafExamplesCard : Claim7 := { stood := { row := leafExamplesRow, standIns := [], harness := (true, "8429d24a9af3766b4b9905db6178b9e73b31f3be0164f53e6ccdd42b3de8b037"), looks := false }, kinds := [], alts := [], laidByText := true, laidKinds := [.data, .data, .data], laidTests := true, laidLooks := .later }
def LeafExamplesCardSaid : Prop := Claim7.holds Tryz.pinned (.plain (OpenSpec.ofChange leafExamplesSpec)) leafExamplesCard

/-- THE SECOND FORM's CARD OF 'postillaw01.LeafExamples'. -/
def leafExamplesUptoCard : Claim7 := { stood := { row := leafExamplesUptoRow, standIns := [], harness := (true, "8429d24a9af3766b4b9905db6178b9e73b31f3be0164f53e6ccdd42b3de8b037"), looks := false }, kinds := [], alts := [], laidByText := true, laidKinds := [.data, .data, .data], laidTests := true, laidLooks := .later }
def LeafExamplesUptoCardSaid : Prop := Claim7.holds Tryz.pinned (.plain (OpenSpec.upto leafExamplesSpec)) leafExamplesUptoCard
end Rows
end Go.Proofs.YtpnapmmndebimaaGreatDoor
