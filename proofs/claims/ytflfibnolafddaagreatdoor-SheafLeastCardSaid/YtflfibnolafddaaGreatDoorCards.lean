/-
  DERIVED. GIVEN WITH THE SEED: THE CARDS: each row of YtflfibnolafddaaGreatDoorRows.lean that lists a variable, with what it lists TIED to the program's text (the seventh form; the later family's looks); each row that meets fmt, with fmt's text TOLD by the authors' own Lean function (tested against real Go, not proved from fmt's source: count such statements apart). THE CARD IS WHAT COUNTS. Prove the row's statement (the work); the ties are given (YtflfibnolafddaaGreatDoorTie.lean); close each card by the builder's one call (the guide's Derived/Test/ToyasCard.lean, 'card_holds'). Laid BY PROGRAM, IN A SANDBOX (cutbox-door.mjs). By AI agents, Wed Nov 11 2026. No macro, syntax, notation, axiom, sorry.
-/
import Derived.Test.YtflfibnolafddaaGreatDoorRows
import GoSem.ClaimSeven
namespace Go.Proofs.YtflfibnolafddaaGreatDoor
namespace Rows

/-- THE TIED CARD OF 'postillaw11.SheafRead'. -/
def sheafReadCard : Claim7 := { stood := { row := sheafReadRow, standIns := [], harness := (true, "a22c67c78887604cb126bec272bc71b176597bf07d274bfbfe8495834c8a693d"), looks := false }, kinds := [], alts := [], laidByText := true, laidKinds := [.data, .data, .data, .data, .pinned], laidTests := true, laidLooks := .later }
def SheafReadCardSaid : Prop := Claim7.holds Tryz.pinned (.plain (OpenSpec.ofChange sheafReadSpec)) sheafReadCard

/-- THE TIED CARD OF 'postillaw11.SheafSpoiled'. -/
def sheafSpoiledCard : Claim7 := { stood := { row := sheafSpoiledRow, standIns := [], harness := (true, "a22c67c78887604cb126bec272bc71b176597bf07d274bfbfe8495834c8a693d"), looks := false }, kinds := [], alts := [], laidByText := true, laidKinds := [.data, .data, .data, .data, .pinned], laidTests := true, laidLooks := .later }
def SheafSpoiledCardSaid : Prop := Claim7.holds Tryz.pinned (.plain (OpenSpec.ofChange sheafSpoiledSpec)) sheafSpoiledCard

/-- THE TIED CARD OF 'postillaw11.SheafMoved'. -/
def sheafMovedCard : Claim7 := { stood := { row := sheafMovedRow, standIns := [], harness := (true, "a22c67c78887604cb126bec272bc71b176597bf07d274bfbfe8495834c8a693d"), looks := false }, kinds := [], alts := [], laidByText := true, laidKinds := [.data, .data, .data, .data, .pinned], laidTests := true, laidLooks := .later }
def SheafMovedCardSaid : Prop := Claim7.holds Tryz.pinned (.plain (OpenSpec.ofChange sheafMovedSpec)) sheafMovedCard

/-- THE TIED CARD OF 'postillaw11.SheafLeast'. -/
def sheafLeastCard : Claim7 := { stood := { row := sheafLeastRow, standIns := [], harness := (true, "a22c67c78887604cb126bec272bc71b176597bf07d274bfbfe8495834c8a693d"), looks := false }, kinds := [], alts := [], laidByText := true, laidKinds := [.data, .data, .data, .data, .pinned], laidTests := true, laidLooks := .later }
def SheafLeastCardSaid : Prop := Claim7.holds Tryz.pinned (.plain (OpenSpec.ofChange sheafLeastSpec)) sheafLeastCard

/-- THE TIED CARD OF 'postillaw11.SheafSides'. -/
def sheafSidesCard : Claim7 := { stood := { row := sheafSidesRow, standIns := [], harness := (true, "a22c67c78887604cb126bec272bc71b176597bf07d274bfbfe8495834c8a693d"), looks := false }, kinds := [], alts := [], laidByText := true, laidKinds := [.data, .data, .data, .data, .pinned], laidTests := true, laidLooks := .later }
def SheafSidesCardSaid : Prop := Claim7.holds Tryz.pinned (.plain (OpenSpec.ofChange sheafSidesSpec)) sheafSidesCard

/-- THE TIED CARD OF 'postillaw11.SheafMerged'. -/
def sheafMergedCard : Claim7 := { stood := { row := sheafMergedRow, standIns := [], harness := (true, "a22c67c78887604cb126bec272bc71b176597bf07d274bfbfe8495834c8a693d"), looks := false }, kinds := [], alts := [], laidByText := true, laidKinds := [.data, .data, .data, .data, .pinned], laidTests := true, laidLooks := .later }
def SheafMergedCardSaid : Prop := Claim7.holds Tryz.pinned (.plain (OpenSpec.ofChange sheafMergedSpec)) sheafMergedCard

/-- THE TIED CARD OF 'postillaw11.SheafBack'. -/
def sheafBackCard : Claim7 := { stood := { row := sheafBackRow, standIns := [], harness := (true, "a22c67c78887604cb126bec272bc71b176597bf07d274bfbfe8495834c8a693d"), looks := false }, kinds := [], alts := [], laidByText := true, laidKinds := [.data, .data, .data, .data, .pinned], laidTests := true, laidLooks := .later }
def SheafBackCardSaid : Prop := Claim7.holds Tryz.pinned (.plain (OpenSpec.ofChange sheafBackSpec)) sheafBackCard

/-- THE TIED CARD OF 'postillaw11.SheafPruned'. -/
def sheafPrunedCard : Claim7 := { stood := { row := sheafPrunedRow, standIns := [], harness := (true, "a22c67c78887604cb126bec272bc71b176597bf07d274bfbfe8495834c8a693d"), looks := false }, kinds := [], alts := [], laidByText := true, laidKinds := [.data, .data, .data, .data, .pinned], laidTests := true, laidLooks := .later }
def SheafPrunedCardSaid : Prop := Claim7.holds Tryz.pinned (.plain (OpenSpec.ofChange sheafPrunedSpec)) sheafPrunedCard

/-- THE SECOND FORM's CARD OF 'postillaw11.SheafRead'. -/
def sheafReadUptoCard : Claim7 := { stood := { row := sheafReadUptoRow, standIns := [], harness := (true, "a22c67c78887604cb126bec272bc71b176597bf07d274bfbfe8495834c8a693d"), looks := false }, kinds := [], alts := [], laidByText := true, laidKinds := [.data, .data, .data, .data, .pinned], laidTests := true, laidLooks := .later }
def SheafReadUptoCardSaid : Prop := Claim7.holds Tryz.pinned (.plain (OpenSpec.upto sheafReadSpec)) sheafReadUptoCard

/-- THE SECOND FORM's CARD OF 'postillaw11.SheafSpoiled'. -/
def sheafSpoiledUptoCard : Claim7 := { stood := { row := sheafSpoiledUptoRow, standIns := [], harness := (true, "a22c67c78887604cb126bec272bc71b176597bf07d274bfbfe8495834c8a693d"), looks := false }, kinds := [], alts := [], laidByText := true, laidKinds := [.data, .data, .data, .data, .pinned], laidTests := true, laidLooks := .later }
def SheafSpoiledUptoCardSaid : Prop := Claim7.holds Tryz.pinned (.plain (OpenSpec.upto sheafSpoiledSpec)) sheafSpoiledUptoCard

/-- THE SECOND FORM's CARD OF 'postillaw11.SheafMoved'. -/
def sheafMovedUptoCard : Claim7 := { stood := { row := sheafMovedUptoRow, standIns := [], harness := (true, "a22c67c78887604cb126bec272bc71b176597bf07d274bfbfe8495834c8a693d"), looks := false }, kinds := [], alts := [], laidByText := true, laidKinds := [.data, .data, .data, .data, .pinned], laidTests := true, laidLooks := .later }
def SheafMovedUptoCardSaid : Prop := Claim7.holds Tryz.pinned (.plain (OpenSpec.upto sheafMovedSpec)) sheafMovedUptoCard

/-- THE SECOND FORM's CARD OF 'postillaw11.SheafLeast'. -/
def sheafLeastUptoCard : Claim7 := { stood := { row := sheafLeastUptoRow, standIns := [], harness := (true, "a22c67c78887604cb126bec272bc71b176597bf07d274bfbfe8495834c8a693d"), looks := false }, kinds := [], alts := [], laidByText := true, laidKinds := [.data, .data, .data, .data, .pinned], laidTests := true, laidLooks := .later }
def SheafLeastUptoCardSaid : Prop := Claim7.holds Tryz.pinned (.plain (OpenSpec.upto sheafLeastSpec)) sheafLeastUptoCard

/-- THE SECOND FORM's CARD OF 'postillaw11.SheafSides'. -/
def sheafSidesUptoCard : Claim7 := { stood := { row := sheafSidesUptoRow, standIns := [], harness := (true, "a22c67c78887604cb126bec272bc71b176597bf07d274bfbfe8495834c8a693d"), looks := false }, kinds := [], alts := [], laidByText := true, laidKinds := [.data, .data, .data, .data, .pinned], laidTests := true, laidLooks := .later }
def SheafSidesUptoCardSaid : Prop := Claim7.holds Tryz.pinned (.plain (OpenSpec.upto sheafSidesSpec)) sheafSidesUptoCard

/-- THE SECOND FORM's CARD OF 'postillaw11.SheafMerged'. -/
def sheafMergedUptoCard : Claim7 := { stood := { row := sheafMergedUptoRow, standIns := [], harness := (true, "a22c67c78887604cb126bec272bc71b176597bf07d274bfbfe8495834c8a693d"), looks := false }, kinds := [], alts := [], laidByText := true, laidKinds := [.data, .data, .data, .data, .pinned], laidTests := true, laidLooks := .later }
def SheafMergedUptoCardSaid : Prop := Claim7.holds Tryz.pinned (.plain (OpenSpec.upto sheafMergedSpec)) sheafMergedUptoCard

/-- THE SECOND FORM's CARD OF 'postillaw11.SheafBack'. -/
def sheafBackUptoCard : Claim7 := { stood := { row := sheafBackUptoRow, standIns := [], harness := (true, "a22c67c78887604cb126bec272bc71b176597bf07d274bfbfe8495834c8a693d"), looks := false }, kinds := [], alts := [], laidByText := true, laidKinds := [.data, .data, .data, .data, .pinned], laidTests := true, laidLooks := .later }
def SheafBackUptoCardSaid : Prop := Claim7.holds Tryz.pinned (.plain (OpenSpec.upto sheafBackSpec)) sheafBackUptoCard

/-- THE SECOND FORM's CARD OF 'postillaw11.SheafPruned'. -/
def sheafPrunedUptoCard : Claim7 := { stood := { row := sheafPrunedUptoRow, standIns := [], harness := (true, "a22c67c78887604cb126bec272bc71b176597bf07d274bfbfe8495834c8a693d"), looks := false }, kinds := [], alts := [], laidByText := true, laidKinds := [.data, .data, .data, .data, .pinned], laidTests := true, laidLooks := .later }
def SheafPrunedUptoCardSaid : Prop := Claim7.holds Tryz.pinned (.plain (OpenSpec.upto sheafPrunedSpec)) sheafPrunedUptoCard
end Rows
end Go.Proofs.YtflfibnolafddaaGreatDoor
