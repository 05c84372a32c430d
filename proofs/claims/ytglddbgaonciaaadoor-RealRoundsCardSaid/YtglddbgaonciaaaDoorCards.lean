/-
  DERIVED. GIVEN WITH THE SEED: THE CARDS: each row of YtglddbgaonciaaaDoorRows.lean that lists a variable, with what it lists TIED to the program's text (the seventh form; the later family's looks); each row that meets fmt, with fmt's text TOLD by the authors' own Lean function (tested against real Go, not proved from fmt's source: count such statements apart). THE CARD IS WHAT COUNTS. Prove the row's statement (the work); the ties are given (YtglddbgaonciaaaDoorTie.lean); close each card by the builder's one call (the guide's Derived/Test/ToyasCard.lean, 'card_holds'). Laid BY PROGRAM, IN A SANDBOX (cutbox-door.mjs). By AI agents, Wed Nov 11 2026. No macro, syntax, notation, axiom, sorry.
-/
import Derived.Test.YtglddbgaonciaaaDoorRows
import GoSem.ClaimSeven
namespace Go.Proofs.YtglddbgaonciaaaDoor
namespace Rows

/-- THE TIED CARD OF 'chaselaw01.RealSums'. -/
def realSumsCard : Claim7 := { stood := { row := realSumsRow, standIns := [], harness := (true, "6bb3bf17aa11547aa6681b340682b41d7ccfe301ed5df77c173ed9e7f240872f"), looks := false }, kinds := [], alts := [], laidByText := true, laidKinds := [.data, .data, .data], laidTests := true, laidLooks := .later }
def RealSumsCardSaid : Prop := Claim7.holds Tryd.pinned (.plain (OpenSpec.ofChange realSumsSpec)) realSumsCard

/-- THE TIED CARD OF 'chaselaw01.RealProducts'. -/
def realProductsCard : Claim7 := { stood := { row := realProductsRow, standIns := [], harness := (true, "6bb3bf17aa11547aa6681b340682b41d7ccfe301ed5df77c173ed9e7f240872f"), looks := false }, kinds := [], alts := [], laidByText := true, laidKinds := [.data, .data, .data], laidTests := true, laidLooks := .later }
def RealProductsCardSaid : Prop := Claim7.holds Tryd.pinned (.plain (OpenSpec.ofChange realProductsSpec)) realProductsCard

/-- THE TIED CARD OF 'chaselaw01.RealRounds'. -/
def realRoundsCard : Claim7 := { stood := { row := realRoundsRow, standIns := [], harness := (true, "6bb3bf17aa11547aa6681b340682b41d7ccfe301ed5df77c173ed9e7f240872f"), looks := false }, kinds := [], alts := [], laidByText := true, laidKinds := [.data, .data, .data], laidTests := true, laidLooks := .later }
def RealRoundsCardSaid : Prop := Claim7.holds Tryd.pinned (.plain (OpenSpec.ofChange realRoundsSpec)) realRoundsCard

/-- THE TIED CARD OF 'chaselaw01.RealTexts'. -/
def realTextsCard : Claim7 := { stood := { row := realTextsRow, standIns := [], harness := (true, "6bb3bf17aa11547aa6681b340682b41d7ccfe301ed5df77c173ed9e7f240872f"), looks := false }, kinds := [], alts := [], laidByText := true, laidKinds := [.data, .data, .data], laidTests := true, laidLooks := .later }
def RealTextsCardSaid : Prop := Claim7.holds Tryd.pinned (.plain (OpenSpec.ofChange realTextsSpec)) realTextsCard

/-- THE TIED CARD OF 'chaselaw01.RealBack'. -/
def realBackCard : Claim7 := { stood := { row := realBackRow, standIns := [], harness := (true, "6bb3bf17aa11547aa6681b340682b41d7ccfe301ed5df77c173ed9e7f240872f"), looks := false }, kinds := [], alts := [], laidByText := true, laidKinds := [.data, .data, .data], laidTests := true, laidLooks := .later }
def RealBackCardSaid : Prop := Claim7.holds Tryd.pinned (.plain (OpenSpec.ofChange realBackSpec)) realBackCard

/-- THE TIED CARD OF 'chaselaw01.RealField'. -/
def realFieldCard : Claim7 := { stood := { row := realFieldRow, standIns := [], harness := (true, "6bb3bf17aa11547aa6681b340682b41d7ccfe301ed5df77c173ed9e7f240872f"), looks := false }, kinds := [], alts := [], laidByText := true, laidKinds := [.data, .data, .data], laidTests := true, laidLooks := .later }
def RealFieldCardSaid : Prop := Claim7.holds Tryd.pinned (.plain (OpenSpec.ofChange realFieldSpec)) realFieldCard

/-- THE TIED CARD OF 'chaselaw01.RealOrders'. -/
def realOrdersCard : Claim7 := { stood := { row := realOrdersRow, standIns := [], harness := (true, "6bb3bf17aa11547aa6681b340682b41d7ccfe301ed5df77c173ed9e7f240872f"), looks := false }, kinds := [], alts := [], laidByText := true, laidKinds := [.data, .data, .data], laidTests := true, laidLooks := .later }
def RealOrdersCardSaid : Prop := Claim7.holds Tryd.pinned (.plain (OpenSpec.ofChange realOrdersSpec)) realOrdersCard

/-- THE SECOND FORM's CARD OF 'chaselaw01.RealSums'. -/
def realSumsUptoCard : Claim7 := { stood := { row := realSumsUptoRow, standIns := [], harness := (true, "6bb3bf17aa11547aa6681b340682b41d7ccfe301ed5df77c173ed9e7f240872f"), looks := false }, kinds := [], alts := [], laidByText := true, laidKinds := [.data, .data, .data], laidTests := true, laidLooks := .later }
def RealSumsUptoCardSaid : Prop := Claim7.holds Tryd.pinned (.plain (OpenSpec.upto realSumsSpec)) realSumsUptoCard

/-- THE SECOND FORM's CARD OF 'chaselaw01.RealProducts'. -/
def realProductsUptoCard : Claim7 := { stood := { row := realProductsUptoRow, standIns := [], harness := (true, "6bb3bf17aa11547aa6681b340682b41d7ccfe301ed5df77c173ed9e7f240872f"), looks := false }, kinds := [], alts := [], laidByText := true, laidKinds := [.data, .data, .data], laidTests := true, laidLooks := .later }
def RealProductsUptoCardSaid : Prop := Claim7.holds Tryd.pinned (.plain (OpenSpec.upto realProductsSpec)) realProductsUptoCard

/-- THE SECOND FORM's CARD OF 'chaselaw01.RealRounds'. -/
def realRoundsUptoCard : Claim7 := { stood := { row := realRoundsUptoRow, standIns := [], harness := (true, "6bb3bf17aa11547aa6681b340682b41d7ccfe301ed5df77c173ed9e7f240872f"), looks := false }, kinds := [], alts := [], laidByText := true, laidKinds := [.data, .data, .data], laidTests := true, laidLooks := .later }
def RealRoundsUptoCardSaid : Prop := Claim7.holds Tryd.pinned (.plain (OpenSpec.upto realRoundsSpec)) realRoundsUptoCard

/-- THE SECOND FORM's CARD OF 'chaselaw01.RealTexts'. -/
def realTextsUptoCard : Claim7 := { stood := { row := realTextsUptoRow, standIns := [], harness := (true, "6bb3bf17aa11547aa6681b340682b41d7ccfe301ed5df77c173ed9e7f240872f"), looks := false }, kinds := [], alts := [], laidByText := true, laidKinds := [.data, .data, .data], laidTests := true, laidLooks := .later }
def RealTextsUptoCardSaid : Prop := Claim7.holds Tryd.pinned (.plain (OpenSpec.upto realTextsSpec)) realTextsUptoCard

/-- THE SECOND FORM's CARD OF 'chaselaw01.RealBack'. -/
def realBackUptoCard : Claim7 := { stood := { row := realBackUptoRow, standIns := [], harness := (true, "6bb3bf17aa11547aa6681b340682b41d7ccfe301ed5df77c173ed9e7f240872f"), looks := false }, kinds := [], alts := [], laidByText := true, laidKinds := [.data, .data, .data], laidTests := true, laidLooks := .later }
def RealBackUptoCardSaid : Prop := Claim7.holds Tryd.pinned (.plain (OpenSpec.upto realBackSpec)) realBackUptoCard

/-- THE SECOND FORM's CARD OF 'chaselaw01.RealField'. -/
def realFieldUptoCard : Claim7 := { stood := { row := realFieldUptoRow, standIns := [], harness := (true, "6bb3bf17aa11547aa6681b340682b41d7ccfe301ed5df77c173ed9e7f240872f"), looks := false }, kinds := [], alts := [], laidByText := true, laidKinds := [.data, .data, .data], laidTests := true, laidLooks := .later }
def RealFieldUptoCardSaid : Prop := Claim7.holds Tryd.pinned (.plain (OpenSpec.upto realFieldSpec)) realFieldUptoCard

/-- THE SECOND FORM's CARD OF 'chaselaw01.RealOrders'. -/
def realOrdersUptoCard : Claim7 := { stood := { row := realOrdersUptoRow, standIns := [], harness := (true, "6bb3bf17aa11547aa6681b340682b41d7ccfe301ed5df77c173ed9e7f240872f"), looks := false }, kinds := [], alts := [], laidByText := true, laidKinds := [.data, .data, .data], laidTests := true, laidLooks := .later }
def RealOrdersUptoCardSaid : Prop := Claim7.holds Tryd.pinned (.plain (OpenSpec.upto realOrdersSpec)) realOrdersUptoCard
end Rows
end Go.Proofs.YtglddbgaonciaaaDoor
