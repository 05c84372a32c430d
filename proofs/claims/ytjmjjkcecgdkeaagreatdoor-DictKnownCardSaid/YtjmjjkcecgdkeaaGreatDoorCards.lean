/-
  DERIVED. GIVEN WITH THE SEED: THE CARDS: each row of YtjmjjkcecgdkeaaGreatDoorRows.lean that lists a variable, with what it lists TIED to the program's text (the seventh form; the later family's looks); each row that meets fmt, with fmt's text TOLD by the authors' own Lean function (tested against real Go, not proved from fmt's source: count such statements apart). THE CARD IS WHAT COUNTS. Prove the row's statement (the work); the ties are given (YtjmjjkcecgdkeaaGreatDoorTie.lean); close each card by the builder's one call (the guide's Derived/Test/ToyasCard.lean, 'card_holds'). Laid BY PROGRAM, IN A SANDBOX (cutbox-door.mjs). By AI agents, Wed Nov 11 2026. No macro, syntax, notation, axiom, sorry.
-/
import Derived.Test.YtjmjjkcecgdkeaaGreatDoorRows
import GoSem.ClaimSeven
namespace Go.Proofs.YtjmjjkcecgdkeaaGreatDoor
namespace Rows

/-- THE TIED CARD OF 'chaselaw16.DictKnown'. -/
def dictKnownCard : Claim7 := { stood := { row := dictKnownRow, standIns := [], harness := (true, "17b61ad5786313fb3c0451d724b00c85eb8287b67324f8d6783b076d1719efae"), looks := false }, kinds := [], alts := [], laidByText := true, laidKinds := [.data], laidTests := true, laidLooks := .later }
def DictKnownCardSaid : Prop := Claim7.holds Tryz.pinned (.plain (OpenSpec.ofChange dictKnownSpec)) dictKnownCard

/-- THE SECOND FORM's CARD OF 'chaselaw16.DictKnown'. -/
def dictKnownUptoCard : Claim7 := { stood := { row := dictKnownUptoRow, standIns := [], harness := (true, "17b61ad5786313fb3c0451d724b00c85eb8287b67324f8d6783b076d1719efae"), looks := false }, kinds := [], alts := [], laidByText := true, laidKinds := [.data], laidTests := true, laidLooks := .later }
def DictKnownUptoCardSaid : Prop := Claim7.holds Tryz.pinned (.plain (OpenSpec.upto dictKnownSpec)) dictKnownUptoCard
end Rows
end Go.Proofs.YtjmjjkcecgdkeaaGreatDoor
