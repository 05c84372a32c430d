/-
  DERIVED. GIVEN WITH THE SEED: THE CARDS: each row of YtnablhjgnenkoaaGreatDoorRows.lean that lists a variable, with what it lists TIED to the program's text (the seventh form; the later family's looks); each row that meets fmt, with fmt's text TOLD by the authors' own Lean function (tested against real Go, not proved from fmt's source: count such statements apart). THE CARD IS WHAT COUNTS. Prove the row's statement (the work); the ties are given (YtnablhjgnenkoaaGreatDoorTie.lean); close each card by the builder's one call (the guide's Derived/Test/ToyasCard.lean, 'card_holds'). Laid BY PROGRAM, IN A SANDBOX (cutbox-door.mjs). By AI agents, Wed Nov 11 2026. No macro, syntax, notation, axiom, sorry.
-/
import Derived.Test.YtnablhjgnenkoaaGreatDoorRows
import GoSem.ClaimSeven
namespace Go.Proofs.YtnablhjgnenkoaaGreatDoor
namespace Rows

/-- THE TIED CARD OF 'chaselaw40.FaultNames'. -/
def faultNamesCard : Claim7 := { stood := { row := faultNamesRow, standIns := [], harness := (true, "c1a4e6ef0812ddccd3756545ba7dab153d716b70fc5f46b64ce237f712d8ea40"), looks := false }, kinds := [], alts := [], laidByText := true, laidKinds := [.data, .data, .data, .data, .data], laidTests := true, laidLooks := .later }
def FaultNamesCardSaid : Prop := Claim7.holds Tryz.pinned (.plain (OpenSpec.ofChange faultNamesSpec)) faultNamesCard

/-- THE TIED CARD OF 'chaselaw39.MediaChooses'. -/
def mediaChoosesCard : Claim7 := { stood := { row := mediaChoosesRow, standIns := [], harness := (true, "c1a4e6ef0812ddccd3756545ba7dab153d716b70fc5f46b64ce237f712d8ea40"), looks := false }, kinds := [], alts := [], laidByText := true, laidKinds := [.data, .data], laidTests := true, laidLooks := .later }
def MediaChoosesCardSaid : Prop := Claim7.holds Tryz.pinned (.plain (OpenSpec.ofChange mediaChoosesSpec)) mediaChoosesCard

/-- THE TIED CARD OF 'chaselaw39.MediaGrants'. -/
def mediaGrantsCard : Claim7 := { stood := { row := mediaGrantsRow, standIns := [], harness := (true, "c1a4e6ef0812ddccd3756545ba7dab153d716b70fc5f46b64ce237f712d8ea40"), looks := false }, kinds := [], alts := [], laidByText := true, laidKinds := [.data, .data], laidTests := true, laidLooks := .later }
def MediaGrantsCardSaid : Prop := Claim7.holds Tryz.pinned (.plain (OpenSpec.ofChange mediaGrantsSpec)) mediaGrantsCard

/-- THE SECOND FORM's CARD OF 'chaselaw40.FaultNames'. -/
def faultNamesUptoCard : Claim7 := { stood := { row := faultNamesUptoRow, standIns := [], harness := (true, "c1a4e6ef0812ddccd3756545ba7dab153d716b70fc5f46b64ce237f712d8ea40"), looks := false }, kinds := [], alts := [], laidByText := true, laidKinds := [.data, .data, .data, .data, .data], laidTests := true, laidLooks := .later }
def FaultNamesUptoCardSaid : Prop := Claim7.holds Tryz.pinned (.plain (OpenSpec.upto faultNamesSpec)) faultNamesUptoCard

/-- THE SECOND FORM's CARD OF 'chaselaw39.MediaChooses'. -/
def mediaChoosesUptoCard : Claim7 := { stood := { row := mediaChoosesUptoRow, standIns := [], harness := (true, "c1a4e6ef0812ddccd3756545ba7dab153d716b70fc5f46b64ce237f712d8ea40"), looks := false }, kinds := [], alts := [], laidByText := true, laidKinds := [.data, .data], laidTests := true, laidLooks := .later }
def MediaChoosesUptoCardSaid : Prop := Claim7.holds Tryz.pinned (.plain (OpenSpec.upto mediaChoosesSpec)) mediaChoosesUptoCard

/-- THE SECOND FORM's CARD OF 'chaselaw39.MediaGrants'. -/
def mediaGrantsUptoCard : Claim7 := { stood := { row := mediaGrantsUptoRow, standIns := [], harness := (true, "c1a4e6ef0812ddccd3756545ba7dab153d716b70fc5f46b64ce237f712d8ea40"), looks := false }, kinds := [], alts := [], laidByText := true, laidKinds := [.data, .data], laidTests := true, laidLooks := .later }
def MediaGrantsUptoCardSaid : Prop := Claim7.holds Tryz.pinned (.plain (OpenSpec.upto mediaGrantsSpec)) mediaGrantsUptoCard
end Rows
end Go.Proofs.YtnablhjgnenkoaaGreatDoor
