/-
  DERIVED. GIVEN WITH THE SEED: THE CARDS: each row of YtgfpkhhbpnnjjaaDoorRows.lean that lists a variable, with what it lists TIED to the program's text (the seventh form; the later family's looks); each row that meets fmt, with fmt's text TOLD by the authors' own Lean function (tested against real Go, not proved from fmt's source: count such statements apart). THE CARD IS WHAT COUNTS. Prove the row's statement (the work); the ties are given (YtgfpkhhbpnnjjaaDoorTie.lean); close each card by the builder's one call (the guide's Derived/Test/ToyasCard.lean, 'card_holds'). Laid BY PROGRAM, IN A SANDBOX (cutbox-door.mjs). By AI agents, Wed Nov 11 2026. No macro, syntax, notation, axiom, sorry.
-/
import Derived.Test.YtgfpkhhbpnnjjaaDoorRows
import GoSem.ClaimSeven
namespace Go.Proofs.YtgfpkhhbpnnjjaaDoor
namespace Rows

/-- THE TIED CARD OF 'chaselaw19.SaveNewer'. -/
def saveNewerCard : Claim7 := { stood := { row := saveNewerRow, standIns := [], harness := (true, "9fb8f5f77ded17419445f00e62730467f9c878f27fbaad2b8d86e1ef9843fde2"), looks := false }, kinds := [], alts := [], laidByText := true, laidKinds := [.data], laidTests := true, laidLooks := .later }
def SaveNewerCardSaid : Prop := Claim7.holds Tryd.pinned (.plain (OpenSpec.ofChange saveNewerSpec)) saveNewerCard

/-- THE TIED CARD OF 'chaselaw13.ArithDivides'. -/
def arithDividesCard : Claim7 := { stood := { row := arithDividesRow, standIns := [], harness := (true, "9fb8f5f77ded17419445f00e62730467f9c878f27fbaad2b8d86e1ef9843fde2"), looks := false }, kinds := [], alts := [], laidByText := true, laidKinds := [.data], laidTests := true, laidLooks := .later }
def ArithDividesCardSaid : Prop := Claim7.holds Tryd.pinned (.plain (OpenSpec.ofChange arithDividesSpec)) arithDividesCard

/-- THE TIED CARD OF 'chaselaw13.ArithUndoes'. -/
def arithUndoesCard : Claim7 := { stood := { row := arithUndoesRow, standIns := [], harness := (true, "9fb8f5f77ded17419445f00e62730467f9c878f27fbaad2b8d86e1ef9843fde2"), looks := false }, kinds := [], alts := [], laidByText := true, laidKinds := [.data], laidTests := true, laidLooks := .later }
def ArithUndoesCardSaid : Prop := Claim7.holds Tryd.pinned (.plain (OpenSpec.ofChange arithUndoesSpec)) arithUndoesCard

/-- THE TIED CARD OF 'chaselaw13.ArithRounds'. -/
def arithRoundsCard : Claim7 := { stood := { row := arithRoundsRow, standIns := [], harness := (true, "9fb8f5f77ded17419445f00e62730467f9c878f27fbaad2b8d86e1ef9843fde2"), looks := false }, kinds := [], alts := [], laidByText := true, laidKinds := [.data], laidTests := true, laidLooks := .later }
def ArithRoundsCardSaid : Prop := Claim7.holds Tryd.pinned (.plain (OpenSpec.ofChange arithRoundsSpec)) arithRoundsCard

/-- THE TIED CARD OF 'chaselaw13.ArithSeeds'. -/
def arithSeedsCard : Claim7 := { stood := { row := arithSeedsRow, standIns := [], harness := (true, "9fb8f5f77ded17419445f00e62730467f9c878f27fbaad2b8d86e1ef9843fde2"), looks := false }, kinds := [], alts := [], laidByText := true, laidKinds := [.data], laidTests := true, laidLooks := .later }
def ArithSeedsCardSaid : Prop := Claim7.holds Tryd.pinned (.plain (OpenSpec.ofChange arithSeedsSpec)) arithSeedsCard

/-- THE SECOND FORM's CARD OF 'chaselaw19.SaveNewer'. -/
def saveNewerUptoCard : Claim7 := { stood := { row := saveNewerUptoRow, standIns := [], harness := (true, "9fb8f5f77ded17419445f00e62730467f9c878f27fbaad2b8d86e1ef9843fde2"), looks := false }, kinds := [], alts := [], laidByText := true, laidKinds := [.data], laidTests := true, laidLooks := .later }
def SaveNewerUptoCardSaid : Prop := Claim7.holds Tryd.pinned (.plain (OpenSpec.upto saveNewerSpec)) saveNewerUptoCard

/-- THE SECOND FORM's CARD OF 'chaselaw13.ArithDivides'. -/
def arithDividesUptoCard : Claim7 := { stood := { row := arithDividesUptoRow, standIns := [], harness := (true, "9fb8f5f77ded17419445f00e62730467f9c878f27fbaad2b8d86e1ef9843fde2"), looks := false }, kinds := [], alts := [], laidByText := true, laidKinds := [.data], laidTests := true, laidLooks := .later }
def ArithDividesUptoCardSaid : Prop := Claim7.holds Tryd.pinned (.plain (OpenSpec.upto arithDividesSpec)) arithDividesUptoCard

/-- THE SECOND FORM's CARD OF 'chaselaw13.ArithUndoes'. -/
def arithUndoesUptoCard : Claim7 := { stood := { row := arithUndoesUptoRow, standIns := [], harness := (true, "9fb8f5f77ded17419445f00e62730467f9c878f27fbaad2b8d86e1ef9843fde2"), looks := false }, kinds := [], alts := [], laidByText := true, laidKinds := [.data], laidTests := true, laidLooks := .later }
def ArithUndoesUptoCardSaid : Prop := Claim7.holds Tryd.pinned (.plain (OpenSpec.upto arithUndoesSpec)) arithUndoesUptoCard

/-- THE SECOND FORM's CARD OF 'chaselaw13.ArithRounds'. -/
def arithRoundsUptoCard : Claim7 := { stood := { row := arithRoundsUptoRow, standIns := [], harness := (true, "9fb8f5f77ded17419445f00e62730467f9c878f27fbaad2b8d86e1ef9843fde2"), looks := false }, kinds := [], alts := [], laidByText := true, laidKinds := [.data], laidTests := true, laidLooks := .later }
def ArithRoundsUptoCardSaid : Prop := Claim7.holds Tryd.pinned (.plain (OpenSpec.upto arithRoundsSpec)) arithRoundsUptoCard

/-- THE SECOND FORM's CARD OF 'chaselaw13.ArithSeeds'. -/
def arithSeedsUptoCard : Claim7 := { stood := { row := arithSeedsUptoRow, standIns := [], harness := (true, "9fb8f5f77ded17419445f00e62730467f9c878f27fbaad2b8d86e1ef9843fde2"), looks := false }, kinds := [], alts := [], laidByText := true, laidKinds := [.data], laidTests := true, laidLooks := .later }
def ArithSeedsUptoCardSaid : Prop := Claim7.holds Tryd.pinned (.plain (OpenSpec.upto arithSeedsSpec)) arithSeedsUptoCard
end Rows
end Go.Proofs.YtgfpkhhbpnnjjaaDoor
