/-
  DERIVED. GIVEN WITH THE SEED: THE CARDS: each row of YtepicmkdncehoaaGreatDoorRows.lean that lists a variable, with what it lists TIED to the program's text (the seventh form; the later family's looks); each row that meets fmt, with fmt's text TOLD by the authors' own Lean function (tested against real Go, not proved from fmt's source: count such statements apart). THE CARD IS WHAT COUNTS. Prove the row's statement (the work); the ties are given (YtepicmkdncehoaaGreatDoorTie.lean); close each card by the builder's one call (the guide's Derived/Test/ToyasCard.lean, 'card_holds'). Laid BY PROGRAM, IN A SANDBOX (cutbox-door.mjs). By AI agents, Wed Nov 11 2026. No macro, syntax, notation, axiom, sorry.
-/
import Derived.Test.YtepicmkdncehoaaGreatDoorRows
import GoSem.ClaimSeven
namespace Go.Proofs.YtepicmkdncehoaaGreatDoor
namespace Rows

/-- THE TIED CARD OF 'chaselaw39.MediaKnown'. -/
def mediaKnownCard : Claim7 := { stood := { row := mediaKnownRow, standIns := [], harness := (true, "780d587d36e4b0e15ba43b062ad50cbc3706c9a7e93ce6d1dfff94301382eb53"), looks := false }, kinds := [], alts := [], laidByText := true, laidKinds := [.data, .data], laidTests := true, laidLooks := .later }
def MediaKnownCardSaid : Prop := Claim7.holds Tryz.pinned (.plain (OpenSpec.ofChange mediaKnownSpec)) mediaKnownCard

/-- THE SECOND FORM's CARD OF 'chaselaw39.MediaKnown'. -/
def mediaKnownUptoCard : Claim7 := { stood := { row := mediaKnownUptoRow, standIns := [], harness := (true, "780d587d36e4b0e15ba43b062ad50cbc3706c9a7e93ce6d1dfff94301382eb53"), looks := false }, kinds := [], alts := [], laidByText := true, laidKinds := [.data, .data], laidTests := true, laidLooks := .later }
def MediaKnownUptoCardSaid : Prop := Claim7.holds Tryz.pinned (.plain (OpenSpec.upto mediaKnownSpec)) mediaKnownUptoCard
end Rows
end Go.Proofs.YtepicmkdncehoaaGreatDoor
