/-
  DERIVED. GIVEN WITH THE SEED: THE CARDS: each row of YtlblafmcemmjoaaDoorRows.lean that lists a variable, with what it lists TIED to the program's text (the seventh form; the later family's looks); each row that meets fmt, with fmt's text TOLD by the authors' own Lean function (tested against real Go, not proved from fmt's source: count such statements apart). THE CARD IS WHAT COUNTS. Prove the row's statement (the work); the ties are given (YtlblafmcemmjoaaDoorTie.lean); close each card by the builder's one call (the guide's Derived/Test/ToyasCard.lean, 'card_holds'). Laid BY PROGRAM, IN A SANDBOX (cutbox-door.mjs). By AI agents, Wed Nov 11 2026. No macro, syntax, notation, axiom, sorry.
-/
import Derived.Test.YtlblafmcemmjoaaDoorRows
import GoSem.ClaimSeven
namespace Go.Proofs.YtlblafmcemmjoaaDoor
namespace Rows

/-- THE TIED CARD OF 'chaselaw10.ObjectKnown'. -/
def objectKnownCard : Claim7 := { stood := { row := objectKnownRow, standIns := [], harness := (true, "e354a2ac64a4060efecdbe43d7e49cd03a0342d50f740dcf17cc750775e17a82"), looks := false }, kinds := [], alts := [], laidByText := true, laidKinds := [.data], laidTests := true, laidLooks := .later }
def ObjectKnownCardSaid : Prop := Claim7.holds Tryd.pinned (.plain (OpenSpec.ofChange objectKnownSpec)) objectKnownCard

/-- THE TIED CARD OF 'chaselaw13.ArithKnown'. -/
def arithKnownCard : Claim7 := { stood := { row := arithKnownRow, standIns := [], harness := (true, "e354a2ac64a4060efecdbe43d7e49cd03a0342d50f740dcf17cc750775e17a82"), looks := false }, kinds := [], alts := [], laidByText := true, laidKinds := [.data], laidTests := true, laidLooks := .later }
def ArithKnownCardSaid : Prop := Claim7.holds Tryd.pinned (.plain (OpenSpec.ofChange arithKnownSpec)) arithKnownCard

/-- THE SECOND FORM's CARD OF 'chaselaw10.ObjectKnown'. -/
def objectKnownUptoCard : Claim7 := { stood := { row := objectKnownUptoRow, standIns := [], harness := (true, "e354a2ac64a4060efecdbe43d7e49cd03a0342d50f740dcf17cc750775e17a82"), looks := false }, kinds := [], alts := [], laidByText := true, laidKinds := [.data], laidTests := true, laidLooks := .later }
def ObjectKnownUptoCardSaid : Prop := Claim7.holds Tryd.pinned (.plain (OpenSpec.upto objectKnownSpec)) objectKnownUptoCard

/-- THE SECOND FORM's CARD OF 'chaselaw13.ArithKnown'. -/
def arithKnownUptoCard : Claim7 := { stood := { row := arithKnownUptoRow, standIns := [], harness := (true, "e354a2ac64a4060efecdbe43d7e49cd03a0342d50f740dcf17cc750775e17a82"), looks := false }, kinds := [], alts := [], laidByText := true, laidKinds := [.data], laidTests := true, laidLooks := .later }
def ArithKnownUptoCardSaid : Prop := Claim7.holds Tryd.pinned (.plain (OpenSpec.upto arithKnownSpec)) arithKnownUptoCard
end Rows
end Go.Proofs.YtlblafmcemmjoaaDoor
