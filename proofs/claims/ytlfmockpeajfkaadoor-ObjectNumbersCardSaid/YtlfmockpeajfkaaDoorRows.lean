/-
  NARROWER THAN 'FOR EVERY INPUT', by the rows' own cells (each row's printed sentence says how): ObjectChecks: laid · ObjectMakes: laid · ObjectNumbers: laid · ObjectKeys: laid · ObjectAlike: laid.
  DERIVED. THE GIVEN ROWS OF THIS SEAT. 5 by the template 'for every input the law returns true; each argument reads behind the call as it read before'; 0 by the template 'total and deterministic' (their statements: YtlfmockpeajfkaaDoorTotals.lean).
  GIVEN WITH THE SEED: the statements are not yours to turn. If you find one false, say at which input.
  Laid BY PROGRAM, IN A SANDBOX (cutbox-rows.mjs): the forced cells as the released guide's own fill.sh prints them over the translation cced196f032f1e5d… (all of the seat's roots in one cut). By AI agents, Wed Nov 11 2026. No macro, syntax, notation, axiom, sorry.
-/
import Derived.Test.YtlfmockpeajfkaaDoorChecked
import GoSem.Claim
import GoSem.ClaimJoined
import GoSem.ClaimMapViews
import Derived.JoinedTies
import Derived.KernelRfl
namespace Go.Proofs.YtlfmockpeajfkaaDoor
/- THE CELL 'sum', in the pinned program and in every row, IS THE sha256 OF THE DUMP (.gsa) THAT YtlfmockpeajfkaaDoorProg.lean LOADS. Nothing in Lean hashes anything: it is a label: what it is worth is what the hold of that sum in a sandbox is worth. -/
noncomputable def Tryd.pinned : Pinned := { name := "ytlfmockpeajfkaadoor", sum := "cced196f032f1e5d2d36308319879951f5c28c31f5a5d95c5e1759a1ca32420a", checked := Tryd.checked }
namespace Rows
def none {H : Type} : Left H := { results := [], args := [] }

/- WHAT THE LISTED PACKAGE-LEVEL VARIABLES READ AS WHEN THE CALL BEGINS. Each datum BY PROGRAM (the guide's laid-datum.mjs) off the statement by which the dump's own 'gosem.cut.vars' lays the variable. In a bare row this is a premise. The card (YtlfmockpeajfkaaDoorCards.lean) ties it to the program's text. -/
def laid_chase_object_kinds {H : Type} : DataW H := .agg [.agg [.lit (.string [110, 117, 108, 108, 116, 121, 112, 101]), .agg [.lit (.int .i64 0), .lit (.int .i64 0)], .agg [.lit (.int .i64 0), .lit (.int .i64 0)], .agg [.lit (.int .i64 0), .lit (.int .i64 0)], .lit (.int .i64 0)], .agg [.lit (.string [109, 97, 114, 107, 116, 121, 112, 101]), .agg [.lit (.int .i64 0), .lit (.int .i64 0)], .agg [.lit (.int .i64 0), .lit (.int .i64 0)], .agg [.lit (.int .i64 0), .lit (.int .i64 0)], .lit (.int .i64 0)], .agg [.lit (.string [98, 111, 111, 108, 101, 97, 110, 116, 121, 112, 101]), .agg [.lit (.int .i64 0), .lit (.int .i64 1)], .agg [.lit (.int .i64 0), .lit (.int .i64 0)], .agg [.lit (.int .i64 0), .lit (.int .i64 0)], .lit (.int .i64 0)], .agg [.lit (.string [105, 110, 116, 101, 103, 101, 114, 116, 121, 112, 101]), .agg [.lit (.int .i64 (-2147483648)), .lit (.int .i64 2147483647)], .agg [.lit (.int .i64 0), .lit (.int .i64 0)], .agg [.lit (.int .i64 0), .lit (.int .i64 0)], .lit (.int .i64 0)], .agg [.lit (.string [114, 101, 97, 108, 116, 121, 112, 101]), .agg [.lit (.int .i64 (-2147483648)), .lit (.int .i64 2147483648)], .agg [.lit (.int .i64 0), .lit (.int .i64 0)], .agg [.lit (.int .i64 0), .lit (.int .i64 0)], .lit (.int .i64 0)], .agg [.lit (.string [110, 97, 109, 101, 116, 121, 112, 101]), .agg [.lit (.int .i64 0), .lit (.int .i64 0)], .agg [.lit (.int .i64 0), .lit (.int .i64 100)], .agg [.lit (.int .i64 0), .lit (.int .i64 0)], .lit (.int .i64 0)], .agg [.lit (.string [115, 116, 114, 105, 110, 103, 116, 121, 112, 101]), .agg [.lit (.int .i64 0), .lit (.int .i64 0)], .agg [.lit (.int .i64 0), .lit (.int .i64 0)], .agg [.lit (.int .i64 0), .lit (.int .i64 20000)], .lit (.int .i64 1000)], .agg [.lit (.string [97, 114, 114, 97, 121, 116, 121, 112, 101]), .agg [.lit (.int .i64 0), .lit (.int .i64 0)], .agg [.lit (.int .i64 0), .lit (.int .i64 0)], .agg [.lit (.int .i64 0), .lit (.int .i64 20000)], .lit (.int .i64 1000)], .agg [.lit (.string [112, 97, 99, 107, 101, 100, 97, 114, 114, 97, 121, 116, 121, 112, 101]), .agg [.lit (.int .i64 0), .lit (.int .i64 0)], .agg [.lit (.int .i64 0), .lit (.int .i64 0)], .agg [.lit (.int .i64 0), .lit (.int .i64 20000)], .lit (.int .i64 1000)], .agg [.lit (.string [100, 105, 99, 116, 116, 121, 112, 101]), .agg [.lit (.int .i64 0), .lit (.int .i64 0)], .agg [.lit (.int .i64 0), .lit (.int .i64 0)], .agg [.lit (.int .i64 0), .lit (.int .i64 20000)], .lit (.int .i64 0)], .agg [.lit (.string [111, 112, 101, 114, 97, 116, 111, 114, 116, 121, 112, 101]), .agg [.lit (.int .i64 0), .lit (.int .i64 0)], .agg [.lit (.int .i64 1), .lit (.int .i64 100)], .agg [.lit (.int .i64 0), .lit (.int .i64 0)], .lit (.int .i64 0)], .agg [.lit (.string [102, 105, 108, 101, 116, 121, 112, 101]), .agg [.lit (.int .i64 0), .lit (.int .i64 0)], .agg [.lit (.int .i64 0), .lit (.int .i64 0)], .agg [.lit (.int .i64 0), .lit (.int .i64 20000)], .lit (.int .i64 0)], .agg [.lit (.string [115, 97, 118, 101, 116, 121, 112, 101]), .agg [.lit (.int .i64 1), .lit (.int .i64 9223372036854775807)], .agg [.lit (.int .i64 0), .lit (.int .i64 0)], .agg [.lit (.int .i64 0), .lit (.int .i64 0)], .lit (.int .i64 0)]]

/-- 'chaselaw10.ObjectChecks': WHATEVER THE INPUT: true; the input reads as it did. -/
def objectChecksSpec : ChangeSpec := { name := "objectChecks", fn := fun _ => fun
  | [d] => { results := [.lit (.bool true)], args := [d] }
  | _ => none }
def objectChecksRow : OpenClaim := { program := "ytlfmockpeajfkaadoor", sum := "cced196f032f1e5d2d36308319879951f5c28c31f5a5d95c5e1759a1ca32420a", func := "chase/chaselaw10.ObjectChecks", spec := "objectChecks", unfollowed := true, recurses := true, named := ["chase/object.kinds"], apart := false, laid := [("chase/object.kinds", laid_chase_object_kinds)] }
def ObjectChecksSaid : Prop := objectChecksRow.holds Tryd.pinned (OpenSpec.ofChange objectChecksSpec)

/-- ITS FALSE NEIGHBOUR: 'it returns false'. Refute it at one input. -/
def objectChecksWrong : ChangeSpec := { name := "objectChecks", fn := fun _ => fun
  | [d] => { results := [.lit (.bool false)], args := [d] }
  | _ => none }
def ObjectChecksWrongFalsely : Prop := objectChecksRow.holds Tryd.pinned (OpenSpec.ofChange objectChecksWrong)

/-- 'chaselaw10.ObjectMakes': WHATEVER THE INPUT: true; the input reads as it did. -/
def objectMakesSpec : ChangeSpec := { name := "objectMakes", fn := fun _ => fun
  | [d1, d2, d3] => { results := [.lit (.bool true)], args := [d1, d2, d3] }
  | _ => none }
def objectMakesRow : OpenClaim := { program := "ytlfmockpeajfkaadoor", sum := "cced196f032f1e5d2d36308319879951f5c28c31f5a5d95c5e1759a1ca32420a", func := "chase/chaselaw10.ObjectMakes", spec := "objectMakes", unfollowed := true, recurses := true, named := ["chase/object.kinds"], apart := false, laid := [("chase/object.kinds", laid_chase_object_kinds)] }
def ObjectMakesSaid : Prop := objectMakesRow.holds Tryd.pinned (OpenSpec.ofChange objectMakesSpec)

/-- ITS FALSE NEIGHBOUR: 'it returns false'. Refute it at one input. -/
def objectMakesWrong : ChangeSpec := { name := "objectMakes", fn := fun _ => fun
  | [d1, d2, d3] => { results := [.lit (.bool false)], args := [d1, d2, d3] }
  | _ => none }
def ObjectMakesWrongFalsely : Prop := objectMakesRow.holds Tryd.pinned (OpenSpec.ofChange objectMakesWrong)

/-- 'chaselaw10.ObjectNumbers': WHATEVER THE INPUT: true; the input reads as it did. -/
def objectNumbersSpec : ChangeSpec := { name := "objectNumbers", fn := fun _ => fun
  | [d1, d2] => { results := [.lit (.bool true)], args := [d1, d2] }
  | _ => none }
def objectNumbersRow : OpenClaim := { program := "ytlfmockpeajfkaadoor", sum := "cced196f032f1e5d2d36308319879951f5c28c31f5a5d95c5e1759a1ca32420a", func := "chase/chaselaw10.ObjectNumbers", spec := "objectNumbers", unfollowed := true, recurses := true, named := ["chase/object.kinds"], apart := false, laid := [("chase/object.kinds", laid_chase_object_kinds)] }
def ObjectNumbersSaid : Prop := objectNumbersRow.holds Tryd.pinned (OpenSpec.ofChange objectNumbersSpec)

/-- ITS FALSE NEIGHBOUR: 'it returns false'. Refute it at one input. -/
def objectNumbersWrong : ChangeSpec := { name := "objectNumbers", fn := fun _ => fun
  | [d1, d2] => { results := [.lit (.bool false)], args := [d1, d2] }
  | _ => none }
def ObjectNumbersWrongFalsely : Prop := objectNumbersRow.holds Tryd.pinned (OpenSpec.ofChange objectNumbersWrong)

/-- 'chaselaw10.ObjectKeys': WHATEVER THE INPUT: true; the input reads as it did. -/
def objectKeysSpec : ChangeSpec := { name := "objectKeys", fn := fun _ => fun
  | [d] => { results := [.lit (.bool true)], args := [d] }
  | _ => none }
def objectKeysRow : OpenClaim := { program := "ytlfmockpeajfkaadoor", sum := "cced196f032f1e5d2d36308319879951f5c28c31f5a5d95c5e1759a1ca32420a", func := "chase/chaselaw10.ObjectKeys", spec := "objectKeys", unfollowed := true, recurses := true, named := ["chase/object.kinds"], apart := false, laid := [("chase/object.kinds", laid_chase_object_kinds)] }
def ObjectKeysSaid : Prop := objectKeysRow.holds Tryd.pinned (OpenSpec.ofChange objectKeysSpec)

/-- ITS FALSE NEIGHBOUR: 'it returns false'. Refute it at one input. -/
def objectKeysWrong : ChangeSpec := { name := "objectKeys", fn := fun _ => fun
  | [d] => { results := [.lit (.bool false)], args := [d] }
  | _ => none }
def ObjectKeysWrongFalsely : Prop := objectKeysRow.holds Tryd.pinned (OpenSpec.ofChange objectKeysWrong)

/-- 'chaselaw10.ObjectAlike': WHATEVER THE INPUT: true; the input reads as it did. -/
def objectAlikeSpec : ChangeSpec := { name := "objectAlike", fn := fun _ => fun
  | [d] => { results := [.lit (.bool true)], args := [d] }
  | _ => none }
def objectAlikeRow : OpenClaim := { program := "ytlfmockpeajfkaadoor", sum := "cced196f032f1e5d2d36308319879951f5c28c31f5a5d95c5e1759a1ca32420a", func := "chase/chaselaw10.ObjectAlike", spec := "objectAlike", unfollowed := true, recurses := true, named := ["chase/object.kinds"], apart := false, laid := [("chase/object.kinds", laid_chase_object_kinds)] }
def ObjectAlikeSaid : Prop := objectAlikeRow.holds Tryd.pinned (OpenSpec.ofChange objectAlikeSpec)

/-- ITS FALSE NEIGHBOUR: 'it returns false'. Refute it at one input. -/
def objectAlikeWrong : ChangeSpec := { name := "objectAlike", fn := fun _ => fun
  | [d] => { results := [.lit (.bool false)], args := [d] }
  | _ => none }
def ObjectAlikeWrongFalsely : Prop := objectAlikeRow.holds Tryd.pinned (OpenSpec.ofChange objectAlikeWrong)

/- THE SECOND FORM. 'bulk': how many values and letters a reading holds, each counted each time it is reached (what is shared counts as often as it is met; a slice's spare places count too). A statement '..UptoSaid' is the law's where the arguments, and the package variables that the reading takes, are together of bulk at most 1048576: NARROWER than '..Said'. Prove '..Said' where nothing that the law and all that it calls make is longer than what came in: it says more and counts as full. Else prove '..UptoSaid'. A law counts once. -/
mutual
def uptoBulk {H : Type} : DataW H → Nat
  | .lit (.string bytes) => bytes.length + 1
  | .lit _ => 1
  | .nil => 1
  | .ptr d => uptoBulk d + 1
  | .slice elems spare => uptoBulkAll elems + uptoBulkAll spare + 1
  | .agg parts => uptoBulkAll parts + 1
  | .iface _ d => uptoBulk d + 1
  | .map entries => uptoBulkEntries entries + 1
  | .held _ => 1
def uptoBulkAll {H : Type} : List (DataW H) → Nat
  | [] => 0
  | d :: r => uptoBulk d + uptoBulkAll r
def uptoBulkEntries {H : Type} : List (Lit × DataW H) → Nat
  | [] => 0
  | x :: r => uptoBulkEntry x + uptoBulkEntries r
def uptoBulkEntry {H : Type} : Lit × DataW H → Nat
  | (.string bytes, d) => bytes.length + uptoBulk d + 1
  | (_, d) => uptoBulk d + 1
 end
def uptoSmall : (H : Type) → List (DataW H) → Bool := fun _ ds => decide (uptoBulkAll ds ≤ 1048576)
def OpenSpec.upto (s : _root_.Go.ChangeSpec) : _root_.Go.OpenSpec := { _root_.Go.OpenSpec.ofChange s with cond := some uptoSmall }

/-- 'chaselaw10.ObjectChecks', WHERE WHAT IT READS IS OF BULK AT MOST 1048576: true; the input reads as it did. -/
def objectChecksUptoRow : OpenClaim := { program := "ytlfmockpeajfkaadoor", sum := "cced196f032f1e5d2d36308319879951f5c28c31f5a5d95c5e1759a1ca32420a", func := "chase/chaselaw10.ObjectChecks", spec := "objectChecks", unfollowed := true, recurses := true, named := ["chase/object.kinds"], apart := false, laid := [("chase/object.kinds", laid_chase_object_kinds)], narrowed := true }
def ObjectChecksUptoSaid : Prop := objectChecksUptoRow.holds Tryd.pinned (OpenSpec.upto objectChecksSpec)

/-- 'chaselaw10.ObjectMakes', WHERE WHAT IT READS IS OF BULK AT MOST 1048576: true; the input reads as it did. -/
def objectMakesUptoRow : OpenClaim := { program := "ytlfmockpeajfkaadoor", sum := "cced196f032f1e5d2d36308319879951f5c28c31f5a5d95c5e1759a1ca32420a", func := "chase/chaselaw10.ObjectMakes", spec := "objectMakes", unfollowed := true, recurses := true, named := ["chase/object.kinds"], apart := false, laid := [("chase/object.kinds", laid_chase_object_kinds)], narrowed := true }
def ObjectMakesUptoSaid : Prop := objectMakesUptoRow.holds Tryd.pinned (OpenSpec.upto objectMakesSpec)

/-- 'chaselaw10.ObjectNumbers', WHERE WHAT IT READS IS OF BULK AT MOST 1048576: true; the input reads as it did. -/
def objectNumbersUptoRow : OpenClaim := { program := "ytlfmockpeajfkaadoor", sum := "cced196f032f1e5d2d36308319879951f5c28c31f5a5d95c5e1759a1ca32420a", func := "chase/chaselaw10.ObjectNumbers", spec := "objectNumbers", unfollowed := true, recurses := true, named := ["chase/object.kinds"], apart := false, laid := [("chase/object.kinds", laid_chase_object_kinds)], narrowed := true }
def ObjectNumbersUptoSaid : Prop := objectNumbersUptoRow.holds Tryd.pinned (OpenSpec.upto objectNumbersSpec)

/-- 'chaselaw10.ObjectKeys', WHERE WHAT IT READS IS OF BULK AT MOST 1048576: true; the input reads as it did. -/
def objectKeysUptoRow : OpenClaim := { program := "ytlfmockpeajfkaadoor", sum := "cced196f032f1e5d2d36308319879951f5c28c31f5a5d95c5e1759a1ca32420a", func := "chase/chaselaw10.ObjectKeys", spec := "objectKeys", unfollowed := true, recurses := true, named := ["chase/object.kinds"], apart := false, laid := [("chase/object.kinds", laid_chase_object_kinds)], narrowed := true }
def ObjectKeysUptoSaid : Prop := objectKeysUptoRow.holds Tryd.pinned (OpenSpec.upto objectKeysSpec)

/-- 'chaselaw10.ObjectAlike', WHERE WHAT IT READS IS OF BULK AT MOST 1048576: true; the input reads as it did. -/
def objectAlikeUptoRow : OpenClaim := { program := "ytlfmockpeajfkaadoor", sum := "cced196f032f1e5d2d36308319879951f5c28c31f5a5d95c5e1759a1ca32420a", func := "chase/chaselaw10.ObjectAlike", spec := "objectAlike", unfollowed := true, recurses := true, named := ["chase/object.kinds"], apart := false, laid := [("chase/object.kinds", laid_chase_object_kinds)], narrowed := true }
def ObjectAlikeUptoSaid : Prop := objectAlikeUptoRow.holds Tryd.pinned (OpenSpec.upto objectAlikeSpec)

end Rows
end Go.Proofs.YtlfmockpeajfkaaDoor
