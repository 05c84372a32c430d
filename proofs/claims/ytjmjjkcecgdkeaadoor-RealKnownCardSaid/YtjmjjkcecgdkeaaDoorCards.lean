/-
  DERIVED. GIVEN WITH THE SEED: THE CARDS: each row of YtjmjjkcecgdkeaaDoorRows.lean that lists a variable, with what it lists TIED to the program's text (the seventh form; the later family's looks); each row that meets fmt, with fmt's text TOLD by the authors' own Lean function (tested against real Go, not proved from fmt's source: count such statements apart). THE CARD IS WHAT COUNTS. Prove the row's statement (the work); the ties are given (YtjmjjkcecgdkeaaDoorTie.lean); close each card by the builder's one call (the guide's Derived/Test/ToyasCard.lean, 'card_holds'). Laid BY PROGRAM, IN A SANDBOX (cutbox-door.mjs). By AI agents, Wed Nov 11 2026. No macro, syntax, notation, axiom, sorry.
-/
import Derived.Test.YtjmjjkcecgdkeaaDoorRows
import GoSem.ClaimSeven
namespace Go.Proofs.YtjmjjkcecgdkeaaDoor
namespace Rows

/-- THE TIED CARD OF 'chaselaw01.RealKnown'. -/
def realKnownCard : Claim7 := { stood := { row := realKnownRow, standIns := [], harness := (true, "f5d9ed0326e24e68be92104dfbb56a992a4bc47cd84a2a85d8b97ee8c65ad7e5"), looks := false }, kinds := [], alts := [], laidByText := true, laidKinds := [.data, .data, .data], laidTests := true, laidLooks := .later }
def RealKnownCardSaid : Prop := Claim7.holds Tryd.pinned (.plain (OpenSpec.ofChange realKnownSpec)) realKnownCard

/-- THE TIED CARD OF 'chaselaw11.HeapKnown'. -/
def heapKnownCard : Claim7 := { stood := { row := heapKnownRow, standIns := [], harness := (true, "f5d9ed0326e24e68be92104dfbb56a992a4bc47cd84a2a85d8b97ee8c65ad7e5"), looks := false }, kinds := [], alts := [], laidByText := true, laidKinds := [.data], laidTests := true, laidLooks := .later }
def HeapKnownCardSaid : Prop := Claim7.holds Tryd.pinned (.plain (OpenSpec.ofChange heapKnownSpec)) heapKnownCard

/-- THE TIED CARD OF 'chaselaw18.ResourceKnown'. -/
def resourceKnownCard : Claim7 := { stood := { row := resourceKnownRow, standIns := [], harness := (true, "f5d9ed0326e24e68be92104dfbb56a992a4bc47cd84a2a85d8b97ee8c65ad7e5"), looks := false }, kinds := [], alts := [], laidByText := true, laidKinds := [.data], laidTests := true, laidLooks := .later }
def ResourceKnownCardSaid : Prop := Claim7.holds Tryd.pinned (.plain (OpenSpec.ofChange resourceKnownSpec)) resourceKnownCard

/-- THE SECOND FORM's CARD OF 'chaselaw01.RealKnown'. -/
def realKnownUptoCard : Claim7 := { stood := { row := realKnownUptoRow, standIns := [], harness := (true, "f5d9ed0326e24e68be92104dfbb56a992a4bc47cd84a2a85d8b97ee8c65ad7e5"), looks := false }, kinds := [], alts := [], laidByText := true, laidKinds := [.data, .data, .data], laidTests := true, laidLooks := .later }
def RealKnownUptoCardSaid : Prop := Claim7.holds Tryd.pinned (.plain (OpenSpec.upto realKnownSpec)) realKnownUptoCard

/-- THE SECOND FORM's CARD OF 'chaselaw11.HeapKnown'. -/
def heapKnownUptoCard : Claim7 := { stood := { row := heapKnownUptoRow, standIns := [], harness := (true, "f5d9ed0326e24e68be92104dfbb56a992a4bc47cd84a2a85d8b97ee8c65ad7e5"), looks := false }, kinds := [], alts := [], laidByText := true, laidKinds := [.data], laidTests := true, laidLooks := .later }
def HeapKnownUptoCardSaid : Prop := Claim7.holds Tryd.pinned (.plain (OpenSpec.upto heapKnownSpec)) heapKnownUptoCard

/-- THE SECOND FORM's CARD OF 'chaselaw18.ResourceKnown'. -/
def resourceKnownUptoCard : Claim7 := { stood := { row := resourceKnownUptoRow, standIns := [], harness := (true, "f5d9ed0326e24e68be92104dfbb56a992a4bc47cd84a2a85d8b97ee8c65ad7e5"), looks := false }, kinds := [], alts := [], laidByText := true, laidKinds := [.data], laidTests := true, laidLooks := .later }
def ResourceKnownUptoCardSaid : Prop := Claim7.holds Tryd.pinned (.plain (OpenSpec.upto resourceKnownSpec)) resourceKnownUptoCard
end Rows
end Go.Proofs.YtjmjjkcecgdkeaaDoor
