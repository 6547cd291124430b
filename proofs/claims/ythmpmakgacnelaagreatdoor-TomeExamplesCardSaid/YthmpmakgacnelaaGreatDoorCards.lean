/-
  DERIVED. GIVEN WITH THE SEED: THE CARDS: each row of YthmpmakgacnelaaGreatDoorRows.lean that lists a variable, with what it lists TIED to the program's text (the seventh form; the later family's looks); each row that meets fmt, with fmt's text TOLD by the authors' own Lean function (tested against real Go, not proved from fmt's source: count such statements apart). THE CARD IS WHAT COUNTS. Prove the row's statement (the work); the ties are given (YthmpmakgacnelaaGreatDoorTie.lean); close each card by the builder's one call (the guide's Derived/Test/ToyasCard.lean, 'card_holds'). Laid BY PROGRAM, IN A SANDBOX (cutbox-door.mjs). By AI agents, Wed Nov 11 2026. No macro, syntax, notation, axiom, sorry.
-/
import Derived.Test.YthmpmakgacnelaaGreatDoorRows
import GoSem.ClaimSeven
namespace Go.Proofs.YthmpmakgacnelaaGreatDoor
namespace Rows

/-- THE TIED CARD OF 'postillaw10.TomeExamples'. -/
def tomeExamplesCard : Claim7 := { stood := { row := tomeExamplesRow, standIns := [], harness := (true, "f750a506af9ceb95eae97bc019e87f59a95baba1f5aa94da78c6db6a804327ec"), looks := false }, kinds := [], alts := [], laidByText := true, laidKinds := [.data, .data, .data, .data, .pinned], laidTests := true, laidLooks := .later }
def TomeExamplesCardSaid : Prop := Claim7.holds Tryz.pinned (.plain (OpenSpec.ofChange tomeExamplesSpec)) tomeExamplesCard

/-- THE SECOND FORM's CARD OF 'postillaw10.TomeExamples'. -/
def tomeExamplesUptoCard : Claim7 := { stood := { row := tomeExamplesUptoRow, standIns := [], harness := (true, "f750a506af9ceb95eae97bc019e87f59a95baba1f5aa94da78c6db6a804327ec"), looks := false }, kinds := [], alts := [], laidByText := true, laidKinds := [.data, .data, .data, .data, .pinned], laidTests := true, laidLooks := .later }
def TomeExamplesUptoCardSaid : Prop := Claim7.holds Tryz.pinned (.plain (OpenSpec.upto tomeExamplesSpec)) tomeExamplesUptoCard
end Rows
end Go.Proofs.YthmpmakgacnelaaGreatDoor
