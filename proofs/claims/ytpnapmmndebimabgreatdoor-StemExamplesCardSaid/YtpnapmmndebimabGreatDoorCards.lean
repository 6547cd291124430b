/-
  DERIVED. GIVEN WITH THE SEED: THE CARDS: each row of YtpnapmmndebimabGreatDoorRows.lean that lists a variable, with what it lists TIED to the program's text (the seventh form; the later family's looks); each row that meets fmt, with fmt's text TOLD by the authors' own Lean function (tested against real Go, not proved from fmt's source: count such statements apart). THE CARD IS WHAT COUNTS. Prove the row's statement (the work); the ties are given (YtpnapmmndebimabGreatDoorTie.lean); close each card by the builder's one call (the guide's Derived/Test/ToyasCard.lean, 'card_holds'). Laid BY PROGRAM, IN A SANDBOX (cutbox-door.mjs). By AI agents, Wed Nov 11 2026. No macro, syntax, notation, axiom, sorry.
-/
import Derived.Test.YtpnapmmndebimabGreatDoorRows
import GoSem.ClaimSeven
namespace Go.Proofs.YtpnapmmndebimabGreatDoor
namespace Rows

/-- THE TIED CARD OF 'postillaw04.StemExamples'. -/
def stemExamplesCard : Claim7 := { stood := { row := stemExamplesRow, standIns := [], harness := (true, "5ce3c009f00a37b71c23f8303391e7b549a2917d955e20288c0e1c85eb9f146d"), looks := false }, kinds := [], alts := [], laidByText := true, laidKinds := [.data, .pinned], laidTests := true, laidLooks := .later }
def StemExamplesCardSaid : Prop := Claim7.holds Tryz.pinned (.plain (OpenSpec.ofChange stemExamplesSpec)) stemExamplesCard

/-- THE SECOND FORM's CARD OF 'postillaw04.StemExamples'. -/
def stemExamplesUptoCard : Claim7 := { stood := { row := stemExamplesUptoRow, standIns := [], harness := (true, "5ce3c009f00a37b71c23f8303391e7b549a2917d955e20288c0e1c85eb9f146d"), looks := false }, kinds := [], alts := [], laidByText := true, laidKinds := [.data, .pinned], laidTests := true, laidLooks := .later }
def StemExamplesUptoCardSaid : Prop := Claim7.holds Tryz.pinned (.plain (OpenSpec.upto stemExamplesSpec)) stemExamplesUptoCard
end Rows
end Go.Proofs.YtpnapmmndebimabGreatDoor
