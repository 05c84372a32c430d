/-
  NARROWER THAN 'FOR EVERY INPUT', by the rows' own cells (each row's printed sentence says how): SaveNewer: laid · ArithDivides: laid · ArithUndoes: laid · ArithRounds: laid · ArithSeeds: laid.
  DERIVED. THE GIVEN ROWS OF THIS SEAT. 5 by the template 'for every input the law returns true; each argument reads behind the call as it read before'; 0 by the template 'total and deterministic' (their statements: YtgfpkhhbpnnjjaaDoorTotals.lean).
  GIVEN WITH THE SEED: the statements are not yours to turn. If you find one false, say at which input.
  Laid BY PROGRAM, IN A SANDBOX (cutbox-rows.mjs): the forced cells as the released guide's own fill.sh prints them over the translation 1316aea64ec65e70… (all of the seat's roots in one cut). By AI agents, Wed Nov 11 2026. No macro, syntax, notation, axiom, sorry.
-/
import Derived.Test.YtgfpkhhbpnnjjaaDoorChecked
import GoSem.Claim
import GoSem.ClaimJoined
import GoSem.ClaimMapViews
import Derived.JoinedTies
import Derived.KernelRfl
namespace Go.Proofs.YtgfpkhhbpnnjjaaDoor
/- THE CELL 'sum', in the pinned program and in every row, IS THE sha256 OF THE DUMP (.gsa) THAT YtgfpkhhbpnnjjaaDoorProg.lean LOADS. Nothing in Lean hashes anything: it is a label: what it is worth is what the hold of that sum in a sandbox is worth. -/
noncomputable def Tryd.pinned : Pinned := { name := "ytgfpkhhbpnnjjaadoor", sum := "1316aea64ec65e702906a24657d3fa68ee7a83ad8be70b61f5a8b2ebe3ff3952", checked := Tryd.checked }
namespace Rows
def none {H : Type} : Left H := { results := [], args := [] }

/- WHAT THE LISTED PACKAGE-LEVEL VARIABLES READ AS WHEN THE CALL BEGINS. Each datum BY PROGRAM (the guide's laid-datum.mjs) off the statement by which the dump's own 'gosem.cut.vars' lays the variable. In a bare row this is a premise. The card (YtgfpkhhbpnnjjaaDoorCards.lean) ties it to the program's text. -/
def laid_chase_object_kinds {H : Type} : DataW H := .agg [.agg [.lit (.string [110, 117, 108, 108, 116, 121, 112, 101]), .agg [.lit (.int .i64 0), .lit (.int .i64 0)], .agg [.lit (.int .i64 0), .lit (.int .i64 0)], .agg [.lit (.int .i64 0), .lit (.int .i64 0)], .lit (.int .i64 0)], .agg [.lit (.string [109, 97, 114, 107, 116, 121, 112, 101]), .agg [.lit (.int .i64 0), .lit (.int .i64 0)], .agg [.lit (.int .i64 0), .lit (.int .i64 0)], .agg [.lit (.int .i64 0), .lit (.int .i64 0)], .lit (.int .i64 0)], .agg [.lit (.string [98, 111, 111, 108, 101, 97, 110, 116, 121, 112, 101]), .agg [.lit (.int .i64 0), .lit (.int .i64 1)], .agg [.lit (.int .i64 0), .lit (.int .i64 0)], .agg [.lit (.int .i64 0), .lit (.int .i64 0)], .lit (.int .i64 0)], .agg [.lit (.string [105, 110, 116, 101, 103, 101, 114, 116, 121, 112, 101]), .agg [.lit (.int .i64 (-2147483648)), .lit (.int .i64 2147483647)], .agg [.lit (.int .i64 0), .lit (.int .i64 0)], .agg [.lit (.int .i64 0), .lit (.int .i64 0)], .lit (.int .i64 0)], .agg [.lit (.string [114, 101, 97, 108, 116, 121, 112, 101]), .agg [.lit (.int .i64 (-2147483648)), .lit (.int .i64 2147483648)], .agg [.lit (.int .i64 0), .lit (.int .i64 0)], .agg [.lit (.int .i64 0), .lit (.int .i64 0)], .lit (.int .i64 0)], .agg [.lit (.string [110, 97, 109, 101, 116, 121, 112, 101]), .agg [.lit (.int .i64 0), .lit (.int .i64 0)], .agg [.lit (.int .i64 0), .lit (.int .i64 100)], .agg [.lit (.int .i64 0), .lit (.int .i64 0)], .lit (.int .i64 0)], .agg [.lit (.string [115, 116, 114, 105, 110, 103, 116, 121, 112, 101]), .agg [.lit (.int .i64 0), .lit (.int .i64 0)], .agg [.lit (.int .i64 0), .lit (.int .i64 0)], .agg [.lit (.int .i64 0), .lit (.int .i64 20000)], .lit (.int .i64 1000)], .agg [.lit (.string [97, 114, 114, 97, 121, 116, 121, 112, 101]), .agg [.lit (.int .i64 0), .lit (.int .i64 0)], .agg [.lit (.int .i64 0), .lit (.int .i64 0)], .agg [.lit (.int .i64 0), .lit (.int .i64 20000)], .lit (.int .i64 1000)], .agg [.lit (.string [112, 97, 99, 107, 101, 100, 97, 114, 114, 97, 121, 116, 121, 112, 101]), .agg [.lit (.int .i64 0), .lit (.int .i64 0)], .agg [.lit (.int .i64 0), .lit (.int .i64 0)], .agg [.lit (.int .i64 0), .lit (.int .i64 20000)], .lit (.int .i64 1000)], .agg [.lit (.string [100, 105, 99, 116, 116, 121, 112, 101]), .agg [.lit (.int .i64 0), .lit (.int .i64 0)], .agg [.lit (.int .i64 0), .lit (.int .i64 0)], .agg [.lit (.int .i64 0), .lit (.int .i64 20000)], .lit (.int .i64 0)], .agg [.lit (.string [111, 112, 101, 114, 97, 116, 111, 114, 116, 121, 112, 101]), .agg [.lit (.int .i64 0), .lit (.int .i64 0)], .agg [.lit (.int .i64 1), .lit (.int .i64 100)], .agg [.lit (.int .i64 0), .lit (.int .i64 0)], .lit (.int .i64 0)], .agg [.lit (.string [102, 105, 108, 101, 116, 121, 112, 101]), .agg [.lit (.int .i64 0), .lit (.int .i64 0)], .agg [.lit (.int .i64 0), .lit (.int .i64 0)], .agg [.lit (.int .i64 0), .lit (.int .i64 20000)], .lit (.int .i64 0)], .agg [.lit (.string [115, 97, 118, 101, 116, 121, 112, 101]), .agg [.lit (.int .i64 1), .lit (.int .i64 9223372036854775807)], .agg [.lit (.int .i64 0), .lit (.int .i64 0)], .agg [.lit (.int .i64 0), .lit (.int .i64 0)], .lit (.int .i64 0)]]

/-- 'chaselaw19.SaveNewer': WHATEVER THE INPUT: true; the input reads as it did. -/
def saveNewerSpec : ChangeSpec := { name := "saveNewer", fn := fun _ => fun
  | [d1, d2] => { results := [.lit (.bool true)], args := [d1, d2] }
  | _ => none }
def saveNewerRow : OpenClaim := { program := "ytgfpkhhbpnnjjaadoor", sum := "1316aea64ec65e702906a24657d3fa68ee7a83ad8be70b61f5a8b2ebe3ff3952", func := "chase/chaselaw19.SaveNewer", spec := "saveNewer", unfollowed := true, recurses := true, named := ["chase/object.kinds"], apart := false, laid := [("chase/object.kinds", laid_chase_object_kinds)] }
def SaveNewerSaid : Prop := saveNewerRow.holds Tryd.pinned (OpenSpec.ofChange saveNewerSpec)

/-- ITS FALSE NEIGHBOUR: 'it returns false'. Refute it at one input. -/
def saveNewerWrong : ChangeSpec := { name := "saveNewer", fn := fun _ => fun
  | [d1, d2] => { results := [.lit (.bool false)], args := [d1, d2] }
  | _ => none }
def SaveNewerWrongFalsely : Prop := saveNewerRow.holds Tryd.pinned (OpenSpec.ofChange saveNewerWrong)

/-- 'chaselaw13.ArithDivides': WHATEVER THE INPUT: true; the input reads as it did. -/
def arithDividesSpec : ChangeSpec := { name := "arithDivides", fn := fun _ => fun
  | [d1, d2] => { results := [.lit (.bool true)], args := [d1, d2] }
  | _ => none }
def arithDividesRow : OpenClaim := { program := "ytgfpkhhbpnnjjaadoor", sum := "1316aea64ec65e702906a24657d3fa68ee7a83ad8be70b61f5a8b2ebe3ff3952", func := "chase/chaselaw13.ArithDivides", spec := "arithDivides", unfollowed := true, recurses := true, named := ["chase/object.kinds"], apart := false, laid := [("chase/object.kinds", laid_chase_object_kinds)] }
def ArithDividesSaid : Prop := arithDividesRow.holds Tryd.pinned (OpenSpec.ofChange arithDividesSpec)

/-- ITS FALSE NEIGHBOUR: 'it returns false'. Refute it at one input. -/
def arithDividesWrong : ChangeSpec := { name := "arithDivides", fn := fun _ => fun
  | [d1, d2] => { results := [.lit (.bool false)], args := [d1, d2] }
  | _ => none }
def ArithDividesWrongFalsely : Prop := arithDividesRow.holds Tryd.pinned (OpenSpec.ofChange arithDividesWrong)

/-- 'chaselaw13.ArithUndoes': WHATEVER THE INPUT: true; the input reads as it did. -/
def arithUndoesSpec : ChangeSpec := { name := "arithUndoes", fn := fun _ => fun
  | [d1, d2] => { results := [.lit (.bool true)], args := [d1, d2] }
  | _ => none }
def arithUndoesRow : OpenClaim := { program := "ytgfpkhhbpnnjjaadoor", sum := "1316aea64ec65e702906a24657d3fa68ee7a83ad8be70b61f5a8b2ebe3ff3952", func := "chase/chaselaw13.ArithUndoes", spec := "arithUndoes", unfollowed := true, recurses := true, named := ["chase/object.kinds"], apart := false, laid := [("chase/object.kinds", laid_chase_object_kinds)] }
def ArithUndoesSaid : Prop := arithUndoesRow.holds Tryd.pinned (OpenSpec.ofChange arithUndoesSpec)

/-- ITS FALSE NEIGHBOUR: 'it returns false'. Refute it at one input. -/
def arithUndoesWrong : ChangeSpec := { name := "arithUndoes", fn := fun _ => fun
  | [d1, d2] => { results := [.lit (.bool false)], args := [d1, d2] }
  | _ => none }
def ArithUndoesWrongFalsely : Prop := arithUndoesRow.holds Tryd.pinned (OpenSpec.ofChange arithUndoesWrong)

/-- 'chaselaw13.ArithRounds': WHATEVER THE INPUT: true; the input reads as it did. -/
def arithRoundsSpec : ChangeSpec := { name := "arithRounds", fn := fun _ => fun
  | [d] => { results := [.lit (.bool true)], args := [d] }
  | _ => none }
def arithRoundsRow : OpenClaim := { program := "ytgfpkhhbpnnjjaadoor", sum := "1316aea64ec65e702906a24657d3fa68ee7a83ad8be70b61f5a8b2ebe3ff3952", func := "chase/chaselaw13.ArithRounds", spec := "arithRounds", unfollowed := true, recurses := true, named := ["chase/object.kinds"], apart := false, laid := [("chase/object.kinds", laid_chase_object_kinds)] }
def ArithRoundsSaid : Prop := arithRoundsRow.holds Tryd.pinned (OpenSpec.ofChange arithRoundsSpec)

/-- ITS FALSE NEIGHBOUR: 'it returns false'. Refute it at one input. -/
def arithRoundsWrong : ChangeSpec := { name := "arithRounds", fn := fun _ => fun
  | [d] => { results := [.lit (.bool false)], args := [d] }
  | _ => none }
def ArithRoundsWrongFalsely : Prop := arithRoundsRow.holds Tryd.pinned (OpenSpec.ofChange arithRoundsWrong)

/-- 'chaselaw13.ArithSeeds': WHATEVER THE INPUT: true; the input reads as it did. -/
def arithSeedsSpec : ChangeSpec := { name := "arithSeeds", fn := fun _ => fun
  | [d1, d2] => { results := [.lit (.bool true)], args := [d1, d2] }
  | _ => none }
def arithSeedsRow : OpenClaim := { program := "ytgfpkhhbpnnjjaadoor", sum := "1316aea64ec65e702906a24657d3fa68ee7a83ad8be70b61f5a8b2ebe3ff3952", func := "chase/chaselaw13.ArithSeeds", spec := "arithSeeds", unfollowed := true, recurses := true, named := ["chase/object.kinds"], apart := false, laid := [("chase/object.kinds", laid_chase_object_kinds)] }
def ArithSeedsSaid : Prop := arithSeedsRow.holds Tryd.pinned (OpenSpec.ofChange arithSeedsSpec)

/-- ITS FALSE NEIGHBOUR: 'it returns false'. Refute it at one input. -/
def arithSeedsWrong : ChangeSpec := { name := "arithSeeds", fn := fun _ => fun
  | [d1, d2] => { results := [.lit (.bool false)], args := [d1, d2] }
  | _ => none }
def ArithSeedsWrongFalsely : Prop := arithSeedsRow.holds Tryd.pinned (OpenSpec.ofChange arithSeedsWrong)

/- THE SECOND FORM. 'bulk': how many values and letters a reading holds, each counted each time it is reached (what is shared counts as often as it is met; a slice's spare places count too). A statement '..UptoSaid' is the law's where the arguments, and the package variables that the reading takes, are together of bulk at most 1048576: NARROWER than '..Said'. Prove '..Said' where nothing that the law and all that it calls make is longer than what came in: it says more and counts as full. Else prove '..UptoSaid'. A law counts once. -/
mutual
def uptoBulk {H : Type} : DataW H → Nat
  | .lit (.string bytes) => bytes.length + 1
  | .lit _ => 1
  | .nil => 1
  | .ptr d => uptoBulk d + 1
  | .slice elems spare => uptoBulkAll elems + uptoBulkAll spare + 1
  | .agg parts => uptoBulkAll parts + 1
  | .iface _ d => uptoBulk d + 1
  | .map entries => uptoBulkEntries entries + 1
  | .held _ => 1
def uptoBulkAll {H : Type} : List (DataW H) → Nat
  | [] => 0
  | d :: r => uptoBulk d + uptoBulkAll r
def uptoBulkEntries {H : Type} : List (Lit × DataW H) → Nat
  | [] => 0
  | x :: r => uptoBulkEntry x + uptoBulkEntries r
def uptoBulkEntry {H : Type} : Lit × DataW H → Nat
  | (.string bytes, d) => bytes.length + uptoBulk d + 1
  | (_, d) => uptoBulk d + 1
 end
def uptoSmall : (H : Type) → List (DataW H) → Bool := fun _ ds => decide (uptoBulkAll ds ≤ 1048576)
def OpenSpec.upto (s : _root_.Go.ChangeSpec) : _root_.Go.OpenSpec := { _root_.Go.OpenSpec.ofChange s with cond := some uptoSmall }

/-- 'chaselaw19.SaveNewer', WHERE WHAT IT READS IS OF BULK AT MOST 1048576: true; the input reads as it did. -/
def saveNewerUptoRow : OpenClaim := { program := "ytgfpkhhbpnnjjaadoor", sum := "1316aea64ec65e702906a24657d3fa68ee7a83ad8be70b61f5a8b2ebe3ff3952", func := "chase/chaselaw19.SaveNewer", spec := "saveNewer", unfollowed := true, recurses := true, named := ["chase/object.kinds"], apart := false, laid := [("chase/object.kinds", laid_chase_object_kinds)], narrowed := true }
def SaveNewerUptoSaid : Prop := saveNewerUptoRow.holds Tryd.pinned (OpenSpec.upto saveNewerSpec)

/-- 'chaselaw13.ArithDivides', WHERE WHAT IT READS IS OF BULK AT MOST 1048576: true; the input reads as it did. -/
def arithDividesUptoRow : OpenClaim := { program := "ytgfpkhhbpnnjjaadoor", sum := "1316aea64ec65e702906a24657d3fa68ee7a83ad8be70b61f5a8b2ebe3ff3952", func := "chase/chaselaw13.ArithDivides", spec := "arithDivides", unfollowed := true, recurses := true, named := ["chase/object.kinds"], apart := false, laid := [("chase/object.kinds", laid_chase_object_kinds)], narrowed := true }
def ArithDividesUptoSaid : Prop := arithDividesUptoRow.holds Tryd.pinned (OpenSpec.upto arithDividesSpec)

/-- 'chaselaw13.ArithUndoes', WHERE WHAT IT READS IS OF BULK AT MOST 1048576: true; the input reads as it did. -/
def arithUndoesUptoRow : OpenClaim := { program := "ytgfpkhhbpnnjjaadoor", sum := "1316aea64ec65e702906a24657d3fa68ee7a83ad8be70b61f5a8b2ebe3ff3952", func := "chase/chaselaw13.ArithUndoes", spec := "arithUndoes", unfollowed := true, recurses := true, named := ["chase/object.kinds"], apart := false, laid := [("chase/object.kinds", laid_chase_object_kinds)], narrowed := true }
def ArithUndoesUptoSaid : Prop := arithUndoesUptoRow.holds Tryd.pinned (OpenSpec.upto arithUndoesSpec)

/-- 'chaselaw13.ArithRounds', WHERE WHAT IT READS IS OF BULK AT MOST 1048576: true; the input reads as it did. -/
def arithRoundsUptoRow : OpenClaim := { program := "ytgfpkhhbpnnjjaadoor", sum := "1316aea64ec65e702906a24657d3fa68ee7a83ad8be70b61f5a8b2ebe3ff3952", func := "chase/chaselaw13.ArithRounds", spec := "arithRounds", unfollowed := true, recurses := true, named := ["chase/object.kinds"], apart := false, laid := [("chase/object.kinds", laid_chase_object_kinds)], narrowed := true }
def ArithRoundsUptoSaid : Prop := arithRoundsUptoRow.holds Tryd.pinned (OpenSpec.upto arithRoundsSpec)

/-- 'chaselaw13.ArithSeeds', WHERE WHAT IT READS IS OF BULK AT MOST 1048576: true; the input reads as it did. -/
def arithSeedsUptoRow : OpenClaim := { program := "ytgfpkhhbpnnjjaadoor", sum := "1316aea64ec65e702906a24657d3fa68ee7a83ad8be70b61f5a8b2ebe3ff3952", func := "chase/chaselaw13.ArithSeeds", spec := "arithSeeds", unfollowed := true, recurses := true, named := ["chase/object.kinds"], apart := false, laid := [("chase/object.kinds", laid_chase_object_kinds)], narrowed := true }
def ArithSeedsUptoSaid : Prop := arithSeedsUptoRow.holds Tryd.pinned (OpenSpec.upto arithSeedsSpec)

end Rows
end Go.Proofs.YtgfpkhhbpnnjjaaDoor
