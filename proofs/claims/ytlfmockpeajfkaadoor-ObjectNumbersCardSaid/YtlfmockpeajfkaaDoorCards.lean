/-
  DERIVED. GIVEN WITH THE SEED: THE CARDS: each row of YtlfmockpeajfkaaDoorRows.lean that lists a variable, with what it lists TIED to the program's text (the seventh form; the later family's looks); each row that meets fmt, with fmt's text TOLD by the authors' own Lean function (tested against real Go, not proved from fmt's source: count such statements apart). THE CARD IS WHAT COUNTS. Prove the row's statement (the work); the ties are given (YtlfmockpeajfkaaDoorTie.lean); close each card by the builder's one call (the guide's Derived/Test/ToyasCard.lean, 'card_holds'). Laid BY PROGRAM, IN A SANDBOX (cutbox-door.mjs). By AI agents, Wed Nov 11 2026. No macro, syntax, notation, axiom, sorry.
-/
import Derived.Test.YtlfmockpeajfkaaDoorRows
import GoSem.ClaimSeven
namespace Go.Proofs.YtlfmockpeajfkaaDoor
namespace Rows

/-- THE TIED CARD OF 'chaselaw10.ObjectChecks'. -/
def objectChecksCard : Claim7 := { stood := { row := objectChecksRow, standIns := [], harness := (true, "625803d9e46ed6c5c7ff007678473fc5283fec0f97fee5d5d679f304751626d4"), looks := false }, kinds := [], alts := [], laidByText := true, laidKinds := [.data], laidTests := true, laidLooks := .later }
def ObjectChecksCardSaid : Prop := Claim7.holds Tryd.pinned (.plain (OpenSpec.ofChange objectChecksSpec)) objectChecksCard

/-- THE TIED CARD OF 'chaselaw10.ObjectMakes'. -/
def objectMakesCard : Claim7 := { stood := { row := objectMakesRow, standIns := [], harness := (true, "625803d9e46ed6c5c7ff007678473fc5283fec0f97fee5d5d679f304751626d4"), looks := false }, kinds := [], alts := [], laidByText := true, laidKinds := [.data], laidTests := true, laidLooks := .later }
def ObjectMakesCardSaid : Prop := Claim7.holds Tryd.pinned (.plain (OpenSpec.ofChange objectMakesSpec)) objectMakesCard

/-- THE TIED CARD OF 'chaselaw10.ObjectNumbers'. -/
def objectNumbersCard : Claim7 := { stood := { row := objectNumbersRow, standIns := [], harness := (true, "625803d9e46ed6c5c7ff007678473fc5283fec0f97fee5d5d679f304751626d4"), looks := false }, kinds := [], alts := [], laidByText := true, laidKinds := [.data], laidTests := true, laidLooks := .later }
def ObjectNumbersCardSaid : Prop := Claim7.holds Tryd.pinned (.plain (OpenSpec.ofChange objectNumbersSpec)) objectNumbersCard

/-- THE TIED CARD OF 'chaselaw10.ObjectKeys'. -/
def objectKeysCard : Claim7 := { stood := { row := objectKeysRow, standIns := [], harness := (true, "625803d9e46ed6c5c7ff007678473fc5283fec0f97fee5d5d679f304751626d4"), looks := false }, kinds := [], alts := [], laidByText := true, laidKinds := [.data], laidTests := true, laidLooks := .later }
def ObjectKeysCardSaid : Prop := Claim7.holds Tryd.pinned (.plain (OpenSpec.ofChange objectKeysSpec)) objectKeysCard

/-- THE TIED CARD OF 'chaselaw10.ObjectAlike'. -/
def objectAlikeCard : Claim7 := { stood := { row := objectAlikeRow, standIns := [], harness := (true, "625803d9e46ed6c5c7ff007678473fc5283fec0f97fee5d5d679f304751626d4"), looks := false }, kinds := [], alts := [], laidByText := true, laidKinds := [.data], laidTests := true, laidLooks := .later }
def ObjectAlikeCardSaid : Prop := Claim7.holds Tryd.pinned (.plain (OpenSpec.ofChange objectAlikeSpec)) objectAlikeCard

/-- THE SECOND FORM's CARD OF 'chaselaw10.ObjectChecks'. -/
def objectChecksUptoCard : Claim7 := { stood := { row := objectChecksUptoRow, standIns := [], harness := (true, "625803d9e46ed6c5c7ff007678473fc5283fec0f97fee5d5d679f304751626d4"), looks := false }, kinds := [], alts := [], laidByText := true, laidKinds := [.data], laidTests := true, laidLooks := .later }
def ObjectChecksUptoCardSaid : Prop := Claim7.holds Tryd.pinned (.plain (OpenSpec.upto objectChecksSpec)) objectChecksUptoCard

/-- THE SECOND FORM's CARD OF 'chaselaw10.ObjectMakes'. -/
def objectMakesUptoCard : Claim7 := { stood := { row := objectMakesUptoRow, standIns := [], harness := (true, "625803d9e46ed6c5c7ff007678473fc5283fec0f97fee5d5d679f304751626d4"), looks := false }, kinds := [], alts := [], laidByText := true, laidKinds := [.data], laidTests := true, laidLooks := .later }
def ObjectMakesUptoCardSaid : Prop := Claim7.holds Tryd.pinned (.plain (OpenSpec.upto objectMakesSpec)) objectMakesUptoCard

/-- THE SECOND FORM's CARD OF 'chaselaw10.ObjectNumbers'. -/
def objectNumbersUptoCard : Claim7 := { stood := { row := objectNumbersUptoRow, standIns := [], harness := (true, "625803d9e46ed6c5c7ff007678473fc5283fec0f97fee5d5d679f304751626d4"), looks := false }, kinds := [], alts := [], laidByText := true, laidKinds := [.data], laidTests := true, laidLooks := .later }
def ObjectNumbersUptoCardSaid : Prop := Claim7.holds Tryd.pinned (.plain (OpenSpec.upto objectNumbersSpec)) objectNumbersUptoCard

/-- THE SECOND FORM's CARD OF 'chaselaw10.ObjectKeys'. -/
def objectKeysUptoCard : Claim7 := { stood := { row := objectKeysUptoRow, standIns := [], harness := (true, "625803d9e46ed6c5c7ff007678473fc5283fec0f97fee5d5d679f304751626d4"), looks := false }, kinds := [], alts := [], laidByText := true, laidKinds := [.data], laidTests := true, laidLooks := .later }
def ObjectKeysUptoCardSaid : Prop := Claim7.holds Tryd.pinned (.plain (OpenSpec.upto objectKeysSpec)) objectKeysUptoCard

/-- THE SECOND FORM's CARD OF 'chaselaw10.ObjectAlike'. -/
def objectAlikeUptoCard : Claim7 := { stood := { row := objectAlikeUptoRow, standIns := [], harness := (true, "625803d9e46ed6c5c7ff007678473fc5283fec0f97fee5d5d679f304751626d4"), looks := false }, kinds := [], alts := [], laidByText := true, laidKinds := [.data], laidTests := true, laidLooks := .later }
def ObjectAlikeUptoCardSaid : Prop := Claim7.holds Tryd.pinned (.plain (OpenSpec.upto objectAlikeSpec)) objectAlikeUptoCard
end Rows
end Go.Proofs.YtlfmockpeajfkaaDoor
