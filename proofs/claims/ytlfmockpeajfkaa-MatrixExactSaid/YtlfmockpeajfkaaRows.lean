/-
  No cell of these rows narrows 'for every input' (looked for: loops, veiled, ifaces, maps, wideKeys, modest, calm, conditions, laid).
  DERIVED. THE GIVEN ROWS OF THIS SEAT. 7 by the template 'for every input the law returns true; each argument reads behind the call as it read before'; 0 by the template 'total and deterministic' (their statements: YtlfmockpeajfkaaTotals.lean).
  GIVEN WITH THE SEED: the statements are not yours to turn. If you find one false, say at which input.
  Laid BY PROGRAM, IN A SANDBOX (cutbox-rows.mjs): the forced cells as the released guide's own fill.sh prints them over the translation 8d7b3b3e009de87d… (all of the seat's roots in one cut). By AI agents, Wed Nov 11 2026. No macro, syntax, notation, axiom, sorry.
-/
import Derived.Test.YtlfmockpeajfkaaChecked
import GoSem.Claim
import GoSem.ClaimJoined
import GoSem.ClaimMapViews
import Derived.JoinedTies
import Derived.KernelRfl
namespace Go.Proofs.Ytlfmockpeajfkaa
/- THE CELL 'sum', in the pinned program and in every row, IS THE sha256 OF THE DUMP (.gsa) THAT YtlfmockpeajfkaaProg.lean LOADS. Nothing in Lean hashes anything: it is a label: what it is worth is what the hold of that sum in a sandbox is worth. -/
noncomputable def Try.pinned : Pinned := { name := "ytlfmockpeajfkaa", sum := "8d7b3b3e009de87d4866aa17a10b62097ceae660d0453034d6972c70e503358c", checked := Try.checked }
namespace Rows
def none {H : Type} : Left H := { results := [], args := [] }

/-- 'chaselaw20.MatrixMaps': WHATEVER THE INPUT: true; the input reads as it did. -/
def matrixMapsSpec : ChangeSpec := { name := "matrixMaps", fn := fun _ => fun
  | [d] => { results := [.lit (.bool true)], args := [d] }
  | _ => none }
def matrixMapsRow : OpenClaim := { program := "ytlfmockpeajfkaa", sum := "8d7b3b3e009de87d4866aa17a10b62097ceae660d0453034d6972c70e503358c", func := "chase/chaselaw20.MatrixMaps", spec := "matrixMaps", unfollowed := true, recurses := true, named := ["math/bits.divideError", "math/bits.overflowError"], apart := false }
def MatrixMapsSaid : Prop := matrixMapsRow.holds Try.pinned (OpenSpec.ofChange matrixMapsSpec)

/-- ITS FALSE NEIGHBOUR: 'it returns false'. Refute it at one input. -/
def matrixMapsWrong : ChangeSpec := { name := "matrixMaps", fn := fun _ => fun
  | [d] => { results := [.lit (.bool false)], args := [d] }
  | _ => none }
def MatrixMapsWrongFalsely : Prop := matrixMapsRow.holds Try.pinned (OpenSpec.ofChange matrixMapsWrong)

/-- 'chaselaw20.MatrixJoins': WHATEVER THE INPUT: true; the input reads as it did. -/
def matrixJoinsSpec : ChangeSpec := { name := "matrixJoins", fn := fun _ => fun
  | [d] => { results := [.lit (.bool true)], args := [d] }
  | _ => none }
def matrixJoinsRow : OpenClaim := { program := "ytlfmockpeajfkaa", sum := "8d7b3b3e009de87d4866aa17a10b62097ceae660d0453034d6972c70e503358c", func := "chase/chaselaw20.MatrixJoins", spec := "matrixJoins", unfollowed := true, recurses := true, named := ["math/bits.divideError", "math/bits.overflowError"], apart := false }
def MatrixJoinsSaid : Prop := matrixJoinsRow.holds Try.pinned (OpenSpec.ofChange matrixJoinsSpec)

/-- ITS FALSE NEIGHBOUR: 'it returns false'. Refute it at one input. -/
def matrixJoinsWrong : ChangeSpec := { name := "matrixJoins", fn := fun _ => fun
  | [d] => { results := [.lit (.bool false)], args := [d] }
  | _ => none }
def MatrixJoinsWrongFalsely : Prop := matrixJoinsRow.holds Try.pinned (OpenSpec.ofChange matrixJoinsWrong)

/-- 'chaselaw20.MatrixTurns': WHATEVER THE INPUT: true; the input reads as it did. -/
def matrixTurnsSpec : ChangeSpec := { name := "matrixTurns", fn := fun _ => fun
  | [d] => { results := [.lit (.bool true)], args := [d] }
  | _ => none }
def matrixTurnsRow : OpenClaim := { program := "ytlfmockpeajfkaa", sum := "8d7b3b3e009de87d4866aa17a10b62097ceae660d0453034d6972c70e503358c", func := "chase/chaselaw20.MatrixTurns", spec := "matrixTurns", unfollowed := true, recurses := true, named := ["math/bits.divideError", "math/bits.overflowError"], apart := false }
def MatrixTurnsSaid : Prop := matrixTurnsRow.holds Try.pinned (OpenSpec.ofChange matrixTurnsSpec)

/-- ITS FALSE NEIGHBOUR: 'it returns false'. Refute it at one input. -/
def matrixTurnsWrong : ChangeSpec := { name := "matrixTurns", fn := fun _ => fun
  | [d] => { results := [.lit (.bool false)], args := [d] }
  | _ => none }
def MatrixTurnsWrongFalsely : Prop := matrixTurnsRow.holds Try.pinned (OpenSpec.ofChange matrixTurnsWrong)

/-- 'chaselaw20.MatrixExact': WHATEVER THE INPUT: true; the input reads as it did. -/
def matrixExactSpec : ChangeSpec := { name := "matrixExact", fn := fun _ => fun
  | [d] => { results := [.lit (.bool true)], args := [d] }
  | _ => none }
def matrixExactRow : OpenClaim := { program := "ytlfmockpeajfkaa", sum := "8d7b3b3e009de87d4866aa17a10b62097ceae660d0453034d6972c70e503358c", func := "chase/chaselaw20.MatrixExact", spec := "matrixExact", unfollowed := true, recurses := true, named := ["math/bits.divideError", "math/bits.overflowError"], apart := false }
def MatrixExactSaid : Prop := matrixExactRow.holds Try.pinned (OpenSpec.ofChange matrixExactSpec)

/-- ITS FALSE NEIGHBOUR: 'it returns false'. Refute it at one input. -/
def matrixExactWrong : ChangeSpec := { name := "matrixExact", fn := fun _ => fun
  | [d] => { results := [.lit (.bool false)], args := [d] }
  | _ => none }
def MatrixExactWrongFalsely : Prop := matrixExactRow.holds Try.pinned (OpenSpec.ofChange matrixExactWrong)

/-- 'chaselaw20.MatrixUnits': WHATEVER THE INPUT: true; the input reads as it did. -/
def matrixUnitsSpec : ChangeSpec := { name := "matrixUnits", fn := fun _ => fun
  | [d1, d2] => { results := [.lit (.bool true)], args := [d1, d2] }
  | _ => none }
def matrixUnitsRow : OpenClaim := { program := "ytlfmockpeajfkaa", sum := "8d7b3b3e009de87d4866aa17a10b62097ceae660d0453034d6972c70e503358c", func := "chase/chaselaw20.MatrixUnits", spec := "matrixUnits", unfollowed := true, recurses := true, named := ["math/bits.divideError", "math/bits.overflowError"], apart := false }
def MatrixUnitsSaid : Prop := matrixUnitsRow.holds Try.pinned (OpenSpec.ofChange matrixUnitsSpec)

/-- ITS FALSE NEIGHBOUR: 'it returns false'. Refute it at one input. -/
def matrixUnitsWrong : ChangeSpec := { name := "matrixUnits", fn := fun _ => fun
  | [d1, d2] => { results := [.lit (.bool false)], args := [d1, d2] }
  | _ => none }
def MatrixUnitsWrongFalsely : Prop := matrixUnitsRow.holds Try.pinned (OpenSpec.ofChange matrixUnitsWrong)

/-- 'chaselaw20.MatrixSines': WHATEVER THE INPUT: true; the input reads as it did. -/
def matrixSinesSpec : ChangeSpec := { name := "matrixSines", fn := fun _ => fun
  | [d1, d2] => { results := [.lit (.bool true)], args := [d1, d2] }
  | _ => none }
def matrixSinesRow : OpenClaim := { program := "ytlfmockpeajfkaa", sum := "8d7b3b3e009de87d4866aa17a10b62097ceae660d0453034d6972c70e503358c", func := "chase/chaselaw20.MatrixSines", spec := "matrixSines", unfollowed := true, recurses := true, named := ["math/bits.divideError", "math/bits.overflowError"], apart := false }
def MatrixSinesSaid : Prop := matrixSinesRow.holds Try.pinned (OpenSpec.ofChange matrixSinesSpec)

/-- ITS FALSE NEIGHBOUR: 'it returns false'. Refute it at one input. -/
def matrixSinesWrong : ChangeSpec := { name := "matrixSines", fn := fun _ => fun
  | [d1, d2] => { results := [.lit (.bool false)], args := [d1, d2] }
  | _ => none }
def MatrixSinesWrongFalsely : Prop := matrixSinesRow.holds Try.pinned (OpenSpec.ofChange matrixSinesWrong)

/-- 'chaselaw20.MatrixBack': WHATEVER THE INPUT: true; the input reads as it did. -/
def matrixBackSpec : ChangeSpec := { name := "matrixBack", fn := fun _ => fun
  | [d1, d2, d3, d4, d5, d6, d7, d8] => { results := [.lit (.bool true)], args := [d1, d2, d3, d4, d5, d6, d7, d8] }
  | _ => none }
def matrixBackRow : OpenClaim := { program := "ytlfmockpeajfkaa", sum := "8d7b3b3e009de87d4866aa17a10b62097ceae660d0453034d6972c70e503358c", func := "chase/chaselaw20.MatrixBack", spec := "matrixBack", unfollowed := true, recurses := true, named := ["math/bits.divideError", "math/bits.overflowError"], apart := false }
def MatrixBackSaid : Prop := matrixBackRow.holds Try.pinned (OpenSpec.ofChange matrixBackSpec)

/-- ITS FALSE NEIGHBOUR: 'it returns false'. Refute it at one input. -/
def matrixBackWrong : ChangeSpec := { name := "matrixBack", fn := fun _ => fun
  | [d1, d2, d3, d4, d5, d6, d7, d8] => { results := [.lit (.bool false)], args := [d1, d2, d3, d4, d5, d6, d7, d8] }
  | _ => none }
def MatrixBackWrongFalsely : Prop := matrixBackRow.holds Try.pinned (OpenSpec.ofChange matrixBackWrong)

/- THE SECOND FORM. 'bulk': how many values and letters a reading holds, each counted each time it is reached (what is shared counts as often as it is met; a slice's spare places count too). A statement '..UptoSaid' is the law's where the arguments, and the package variables that the reading takes, are together of bulk at most 1048576: NARROWER than '..Said'. Prove '..Said' where nothing that the law and all that it calls make is longer than what came in: it says more and counts as full. Else prove '..UptoSaid'. A law counts once. -/
mutual
def uptoBulk {H : Type} : DataW H → Nat
  | .lit (.string bytes) => bytes.length + 1
  | .lit _ => 1
  | .nil => 1
  | .ptr d => uptoBulk d + 1
  | .slice elems spare => uptoBulkAll elems + uptoBulkAll spare + 1
  | .agg parts => uptoBulkAll parts + 1
  | .iface _ d => uptoBulk d + 1
  | .map entries => uptoBulkEntries entries + 1
  | .held _ => 1
def uptoBulkAll {H : Type} : List (DataW H) → Nat
  | [] => 0
  | d :: r => uptoBulk d + uptoBulkAll r
def uptoBulkEntries {H : Type} : List (Lit × DataW H) → Nat
  | [] => 0
  | x :: r => uptoBulkEntry x + uptoBulkEntries r
def uptoBulkEntry {H : Type} : Lit × DataW H → Nat
  | (.string bytes, d) => bytes.length + uptoBulk d + 1
  | (_, d) => uptoBulk d + 1
 end
def uptoSmall : (H : Type) → List (DataW H) → Bool := fun _ ds => decide (uptoBulkAll ds ≤ 1048576)
def OpenSpec.upto (s : _root_.Go.ChangeSpec) : _root_.Go.OpenSpec := { _root_.Go.OpenSpec.ofChange s with cond := some uptoSmall }

/-- 'chaselaw20.MatrixMaps', WHERE WHAT IT READS IS OF BULK AT MOST 1048576: true; the input reads as it did. -/
def matrixMapsUptoRow : OpenClaim := { program := "ytlfmockpeajfkaa", sum := "8d7b3b3e009de87d4866aa17a10b62097ceae660d0453034d6972c70e503358c", func := "chase/chaselaw20.MatrixMaps", spec := "matrixMaps", unfollowed := true, recurses := true, named := ["math/bits.divideError", "math/bits.overflowError"], apart := false, narrowed := true }
def MatrixMapsUptoSaid : Prop := matrixMapsUptoRow.holds Try.pinned (OpenSpec.upto matrixMapsSpec)

/-- 'chaselaw20.MatrixJoins', WHERE WHAT IT READS IS OF BULK AT MOST 1048576: true; the input reads as it did. -/
def matrixJoinsUptoRow : OpenClaim := { program := "ytlfmockpeajfkaa", sum := "8d7b3b3e009de87d4866aa17a10b62097ceae660d0453034d6972c70e503358c", func := "chase/chaselaw20.MatrixJoins", spec := "matrixJoins", unfollowed := true, recurses := true, named := ["math/bits.divideError", "math/bits.overflowError"], apart := false, narrowed := true }
def MatrixJoinsUptoSaid : Prop := matrixJoinsUptoRow.holds Try.pinned (OpenSpec.upto matrixJoinsSpec)

/-- 'chaselaw20.MatrixTurns', WHERE WHAT IT READS IS OF BULK AT MOST 1048576: true; the input reads as it did. -/
def matrixTurnsUptoRow : OpenClaim := { program := "ytlfmockpeajfkaa", sum := "8d7b3b3e009de87d4866aa17a10b62097ceae660d0453034d6972c70e503358c", func := "chase/chaselaw20.MatrixTurns", spec := "matrixTurns", unfollowed := true, recurses := true, named := ["math/bits.divideError", "math/bits.overflowError"], apart := false, narrowed := true }
def MatrixTurnsUptoSaid : Prop := matrixTurnsUptoRow.holds Try.pinned (OpenSpec.upto matrixTurnsSpec)

/-- 'chaselaw20.MatrixExact', WHERE WHAT IT READS IS OF BULK AT MOST 1048576: true; the input reads as it did. -/
def matrixExactUptoRow : OpenClaim := { program := "ytlfmockpeajfkaa", sum := "8d7b3b3e009de87d4866aa17a10b62097ceae660d0453034d6972c70e503358c", func := "chase/chaselaw20.MatrixExact", spec := "matrixExact", unfollowed := true, recurses := true, named := ["math/bits.divideError", "math/bits.overflowError"], apart := false, narrowed := true }
def MatrixExactUptoSaid : Prop := matrixExactUptoRow.holds Try.pinned (OpenSpec.upto matrixExactSpec)

/-- 'chaselaw20.MatrixUnits', WHERE WHAT IT READS IS OF BULK AT MOST 1048576: true; the input reads as it did. -/
def matrixUnitsUptoRow : OpenClaim := { program := "ytlfmockpeajfkaa", sum := "8d7b3b3e009de87d4866aa17a10b62097ceae660d0453034d6972c70e503358c", func := "chase/chaselaw20.MatrixUnits", spec := "matrixUnits", unfollowed := true, recurses := true, named := ["math/bits.divideError", "math/bits.overflowError"], apart := false, narrowed := true }
def MatrixUnitsUptoSaid : Prop := matrixUnitsUptoRow.holds Try.pinned (OpenSpec.upto matrixUnitsSpec)

/-- 'chaselaw20.MatrixSines', WHERE WHAT IT READS IS OF BULK AT MOST 1048576: true; the input reads as it did. -/
def matrixSinesUptoRow : OpenClaim := { program := "ytlfmockpeajfkaa", sum := "8d7b3b3e009de87d4866aa17a10b62097ceae660d0453034d6972c70e503358c", func := "chase/chaselaw20.MatrixSines", spec := "matrixSines", unfollowed := true, recurses := true, named := ["math/bits.divideError", "math/bits.overflowError"], apart := false, narrowed := true }
def MatrixSinesUptoSaid : Prop := matrixSinesUptoRow.holds Try.pinned (OpenSpec.upto matrixSinesSpec)

/-- 'chaselaw20.MatrixBack', WHERE WHAT IT READS IS OF BULK AT MOST 1048576: true; the input reads as it did. -/
def matrixBackUptoRow : OpenClaim := { program := "ytlfmockpeajfkaa", sum := "8d7b3b3e009de87d4866aa17a10b62097ceae660d0453034d6972c70e503358c", func := "chase/chaselaw20.MatrixBack", spec := "matrixBack", unfollowed := true, recurses := true, named := ["math/bits.divideError", "math/bits.overflowError"], apart := false, narrowed := true }
def MatrixBackUptoSaid : Prop := matrixBackUptoRow.holds Try.pinned (OpenSpec.upto matrixBackSpec)

end Rows
end Go.Proofs.Ytlfmockpeajfkaa
