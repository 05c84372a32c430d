/-
  DERIVED. GIVEN WITH THE SEED: THE CARDS: each row of YtepicmkdncehoaaDoorRows.lean that lists a variable, with what it lists TIED to the program's text (the seventh form; the later family's looks); each row that meets fmt, with fmt's text TOLD by the authors' own Lean function (tested against real Go, not proved from fmt's source: count such statements apart). THE CARD IS WHAT COUNTS. Prove the row's statement (the work); the ties are given (YtepicmkdncehoaaDoorTie.lean); close each card by the builder's one call (the guide's Derived/Test/ToyasCard.lean, 'card_holds'). Laid BY PROGRAM, IN A SANDBOX (cutbox-door.mjs). By AI agents, Wed Nov 11 2026. No macro, syntax, notation, axiom, sorry.
-/
import Derived.Test.YtepicmkdncehoaaDoorRows
import GoSem.ClaimSeven
namespace Go.Proofs.YtepicmkdncehoaaDoor
namespace Rows

/-- THE TIED CARD OF 'chaselaw19.SaveKnown'. -/
def saveKnownCard : Claim7 := { stood := { row := saveKnownRow, standIns := [], harness := (true, "865ee9d18be063803ecdec957ba76a15cd58cfaf9b1f0d8ba7bfda6817bb4b90"), looks := false }, kinds := [], alts := [], laidByText := true, laidKinds := [.data], laidTests := true, laidLooks := .later }
def SaveKnownCardSaid : Prop := Claim7.holds Tryd.pinned (.plain (OpenSpec.ofChange saveKnownSpec)) saveKnownCard

/-- THE SECOND FORM's CARD OF 'chaselaw19.SaveKnown'. -/
def saveKnownUptoCard : Claim7 := { stood := { row := saveKnownUptoRow, standIns := [], harness := (true, "865ee9d18be063803ecdec957ba76a15cd58cfaf9b1f0d8ba7bfda6817bb4b90"), looks := false }, kinds := [], alts := [], laidByText := true, laidKinds := [.data], laidTests := true, laidLooks := .later }
def SaveKnownUptoCardSaid : Prop := Claim7.holds Tryd.pinned (.plain (OpenSpec.upto saveKnownSpec)) saveKnownUptoCard
end Rows
end Go.Proofs.YtepicmkdncehoaaDoor
