/-
  NARROWER THAN 'FOR EVERY INPUT', by the rows' own cells (each row's printed sentence says how): StackTurns: loops.
  DERIVED. THE GIVEN ROWS OF THIS SEAT. 9 by the template 'for every input the law returns true; each argument reads behind the call as it read before'; 0 by the template 'total and deterministic' (their statements: YtldghibpecmpjaaTotals.lean).
  GIVEN WITH THE SEED: the statements are not yours to turn. If you find one false, say at which input.
  Laid BY PROGRAM, IN A SANDBOX (cutbox-rows.mjs): the forced cells as the released guide's own fill.sh prints them over the translation b715c45570ed14b6… (all of the seat's roots in one cut). By AI agents, Wed Nov 11 2026. No macro, syntax, notation, axiom, sorry.
-/
import Derived.Test.YtldghibpecmpjaaChecked
import GoSem.Claim
import GoSem.ClaimJoined
import GoSem.ClaimMapViews
import Derived.JoinedTies
import Derived.KernelRfl
namespace Go.Proofs.Ytldghibpecmpjaa
/- THE CELL 'sum', in the pinned program and in every row, IS THE sha256 OF THE DUMP (.gsa) THAT YtldghibpecmpjaaProg.lean LOADS. Nothing in Lean hashes anything: it is a label: what it is worth is what the hold of that sum in a sandbox is worth. -/
noncomputable def Try.pinned : Pinned := { name := "ytldghibpecmpjaa", sum := "b715c45570ed14b6f49d4373df1d8090ab57e39b01553ad3d52b044c80b3f300", checked := Try.checked }
namespace Rows
def none {H : Type} : Left H := { results := [], args := [] }

/-- 'chaselaw23.WindRectangles': WHATEVER THE INPUT: true; the input reads as it did. -/
def windRectanglesSpec : ChangeSpec := { name := "windRectangles", fn := fun _ => fun
  | [d1, d2, d3, d4, d5] => { results := [.lit (.bool true)], args := [d1, d2, d3, d4, d5] }
  | _ => none }
def windRectanglesRow : OpenClaim := { program := "ytldghibpecmpjaa", sum := "b715c45570ed14b6f49d4373df1d8090ab57e39b01553ad3d52b044c80b3f300", func := "chase/chaselaw23.WindRectangles", spec := "windRectangles", unfollowed := true, recurses := true, apart := false }
def WindRectanglesSaid : Prop := windRectanglesRow.holds Try.pinned (OpenSpec.ofChange windRectanglesSpec)

/-- ITS FALSE NEIGHBOUR: 'it returns false'. Refute it at one input. -/
def windRectanglesWrong : ChangeSpec := { name := "windRectangles", fn := fun _ => fun
  | [d1, d2, d3, d4, d5] => { results := [.lit (.bool false)], args := [d1, d2, d3, d4, d5] }
  | _ => none }
def WindRectanglesWrongFalsely : Prop := windRectanglesRow.holds Try.pinned (OpenSpec.ofChange windRectanglesWrong)

/-- 'chaselaw20.MatrixMaps': WHATEVER THE INPUT: true; the input reads as it did. -/
def matrixMapsSpec : ChangeSpec := { name := "matrixMaps", fn := fun _ => fun
  | [d] => { results := [.lit (.bool true)], args := [d] }
  | _ => none }
def matrixMapsRow : OpenClaim := { program := "ytldghibpecmpjaa", sum := "b715c45570ed14b6f49d4373df1d8090ab57e39b01553ad3d52b044c80b3f300", func := "chase/chaselaw20.MatrixMaps", spec := "matrixMaps", unfollowed := true, recurses := true, named := ["math/bits.divideError", "math/bits.overflowError"], apart := false }
def MatrixMapsSaid : Prop := matrixMapsRow.holds Try.pinned (OpenSpec.ofChange matrixMapsSpec)

/-- ITS FALSE NEIGHBOUR: 'it returns false'. Refute it at one input. -/
def matrixMapsWrong : ChangeSpec := { name := "matrixMaps", fn := fun _ => fun
  | [d] => { results := [.lit (.bool false)], args := [d] }
  | _ => none }
def MatrixMapsWrongFalsely : Prop := matrixMapsRow.holds Try.pinned (OpenSpec.ofChange matrixMapsWrong)

/-- 'chaselaw20.MatrixTurns': WHATEVER THE INPUT: true; the input reads as it did. -/
def matrixTurnsSpec : ChangeSpec := { name := "matrixTurns", fn := fun _ => fun
  | [d] => { results := [.lit (.bool true)], args := [d] }
  | _ => none }
def matrixTurnsRow : OpenClaim := { program := "ytldghibpecmpjaa", sum := "b715c45570ed14b6f49d4373df1d8090ab57e39b01553ad3d52b044c80b3f300", func := "chase/chaselaw20.MatrixTurns", spec := "matrixTurns", unfollowed := true, recurses := true, named := ["math/bits.divideError", "math/bits.overflowError"], apart := false }
def MatrixTurnsSaid : Prop := matrixTurnsRow.holds Try.pinned (OpenSpec.ofChange matrixTurnsSpec)

/-- ITS FALSE NEIGHBOUR: 'it returns false'. Refute it at one input. -/
def matrixTurnsWrong : ChangeSpec := { name := "matrixTurns", fn := fun _ => fun
  | [d] => { results := [.lit (.bool false)], args := [d] }
  | _ => none }
def MatrixTurnsWrongFalsely : Prop := matrixTurnsRow.holds Try.pinned (OpenSpec.ofChange matrixTurnsWrong)

/-- 'chaselaw20.MatrixBack': WHATEVER THE INPUT: true; the input reads as it did. -/
def matrixBackSpec : ChangeSpec := { name := "matrixBack", fn := fun _ => fun
  | [d1, d2, d3, d4, d5, d6, d7, d8] => { results := [.lit (.bool true)], args := [d1, d2, d3, d4, d5, d6, d7, d8] }
  | _ => none }
def matrixBackRow : OpenClaim := { program := "ytldghibpecmpjaa", sum := "b715c45570ed14b6f49d4373df1d8090ab57e39b01553ad3d52b044c80b3f300", func := "chase/chaselaw20.MatrixBack", spec := "matrixBack", unfollowed := true, recurses := true, named := ["math/bits.divideError", "math/bits.overflowError"], apart := false }
def MatrixBackSaid : Prop := matrixBackRow.holds Try.pinned (OpenSpec.ofChange matrixBackSpec)

/-- ITS FALSE NEIGHBOUR: 'it returns false'. Refute it at one input. -/
def matrixBackWrong : ChangeSpec := { name := "matrixBack", fn := fun _ => fun
  | [d1, d2, d3, d4, d5, d6, d7, d8] => { results := [.lit (.bool false)], args := [d1, d2, d3, d4, d5, d6, d7, d8] }
  | _ => none }
def MatrixBackWrongFalsely : Prop := matrixBackRow.holds Try.pinned (OpenSpec.ofChange matrixBackWrong)

/-- 'chaselaw28.SampleExact': WHATEVER THE INPUT: true; the input reads as it did. -/
def sampleExactSpec : ChangeSpec := { name := "sampleExact", fn := fun _ => fun
  | [d1, d2, d3] => { results := [.lit (.bool true)], args := [d1, d2, d3] }
  | _ => none }
def sampleExactRow : OpenClaim := { program := "ytldghibpecmpjaa", sum := "b715c45570ed14b6f49d4373df1d8090ab57e39b01553ad3d52b044c80b3f300", func := "chase/chaselaw28.SampleExact", spec := "sampleExact", unfollowed := true, recurses := true, apart := false }
def SampleExactSaid : Prop := sampleExactRow.holds Try.pinned (OpenSpec.ofChange sampleExactSpec)

/-- ITS FALSE NEIGHBOUR: 'it returns false'. Refute it at one input. -/
def sampleExactWrong : ChangeSpec := { name := "sampleExact", fn := fun _ => fun
  | [d1, d2, d3] => { results := [.lit (.bool false)], args := [d1, d2, d3] }
  | _ => none }
def SampleExactWrongFalsely : Prop := sampleExactRow.holds Try.pinned (OpenSpec.ofChange sampleExactWrong)

/-- 'chaselaw28.SampleMoves': WHATEVER THE INPUT: true; the input reads as it did. -/
def sampleMovesSpec : ChangeSpec := { name := "sampleMoves", fn := fun _ => fun
  | [d1, d2, d3, d4] => { results := [.lit (.bool true)], args := [d1, d2, d3, d4] }
  | _ => none }
def sampleMovesRow : OpenClaim := { program := "ytldghibpecmpjaa", sum := "b715c45570ed14b6f49d4373df1d8090ab57e39b01553ad3d52b044c80b3f300", func := "chase/chaselaw28.SampleMoves", spec := "sampleMoves", unfollowed := true, recurses := true, apart := false }
def SampleMovesSaid : Prop := sampleMovesRow.holds Try.pinned (OpenSpec.ofChange sampleMovesSpec)

/-- ITS FALSE NEIGHBOUR: 'it returns false'. Refute it at one input. -/
def sampleMovesWrong : ChangeSpec := { name := "sampleMoves", fn := fun _ => fun
  | [d1, d2, d3, d4] => { results := [.lit (.bool false)], args := [d1, d2, d3, d4] }
  | _ => none }
def SampleMovesWrongFalsely : Prop := sampleMovesRow.holds Try.pinned (OpenSpec.ofChange sampleMovesWrong)

/-- 'chaselaw28.SampleScales': WHATEVER THE INPUT: true; the input reads as it did. -/
def sampleScalesSpec : ChangeSpec := { name := "sampleScales", fn := fun _ => fun
  | [d1, d2, d3, d4, d5] => { results := [.lit (.bool true)], args := [d1, d2, d3, d4, d5] }
  | _ => none }
def sampleScalesRow : OpenClaim := { program := "ytldghibpecmpjaa", sum := "b715c45570ed14b6f49d4373df1d8090ab57e39b01553ad3d52b044c80b3f300", func := "chase/chaselaw28.SampleScales", spec := "sampleScales", unfollowed := true, recurses := true, apart := false }
def SampleScalesSaid : Prop := sampleScalesRow.holds Try.pinned (OpenSpec.ofChange sampleScalesSpec)

/-- ITS FALSE NEIGHBOUR: 'it returns false'. Refute it at one input. -/
def sampleScalesWrong : ChangeSpec := { name := "sampleScales", fn := fun _ => fun
  | [d1, d2, d3, d4, d5] => { results := [.lit (.bool false)], args := [d1, d2, d3, d4, d5] }
  | _ => none }
def SampleScalesWrongFalsely : Prop := sampleScalesRow.holds Try.pinned (OpenSpec.ofChange sampleScalesWrong)

/-- 'chaselaw27.ToneInks': WHATEVER THE INPUT: true; the input reads as it did. -/
def toneInksSpec : ChangeSpec := { name := "toneInks", fn := fun _ => fun
  | [d1, d2, d3, d4] => { results := [.lit (.bool true)], args := [d1, d2, d3, d4] }
  | _ => none }
def toneInksRow : OpenClaim := { program := "ytldghibpecmpjaa", sum := "b715c45570ed14b6f49d4373df1d8090ab57e39b01553ad3d52b044c80b3f300", func := "chase/chaselaw27.ToneInks", spec := "toneInks", unfollowed := true, recurses := true, apart := false }
def ToneInksSaid : Prop := toneInksRow.holds Try.pinned (OpenSpec.ofChange toneInksSpec)

/-- ITS FALSE NEIGHBOUR: 'it returns false'. Refute it at one input. -/
def toneInksWrong : ChangeSpec := { name := "toneInks", fn := fun _ => fun
  | [d1, d2, d3, d4] => { results := [.lit (.bool false)], args := [d1, d2, d3, d4] }
  | _ => none }
def ToneInksWrongFalsely : Prop := toneInksRow.holds Try.pinned (OpenSpec.ofChange toneInksWrong)

/-- 'chaselaw12.StackTurns': WHATEVER THE INPUT: true; the input reads as it did. -/
def stackTurnsSpec : ChangeSpec := { name := "stackTurns", fn := fun _ => fun
  | [d1, d2, d3] => { results := [.lit (.bool true)], args := [d1, d2, d3] }
  | _ => none }
def stackTurnsRow : OpenClaim := { program := "ytldghibpecmpjaa", sum := "b715c45570ed14b6f49d4373df1d8090ab57e39b01553ad3d52b044c80b3f300", func := "chase/chaselaw12.StackTurns", spec := "stackTurns", unfollowed := true, recurses := true, loops := true, apart := false }
def StackTurnsSaid : Prop := stackTurnsRow.holds Try.pinned (OpenSpec.ofChange stackTurnsSpec)

/-- ITS FALSE NEIGHBOUR: 'it returns false'. Refute it at one input. -/
def stackTurnsWrong : ChangeSpec := { name := "stackTurns", fn := fun _ => fun
  | [d1, d2, d3] => { results := [.lit (.bool false)], args := [d1, d2, d3] }
  | _ => none }
def StackTurnsWrongFalsely : Prop := stackTurnsRow.holds Try.pinned (OpenSpec.ofChange stackTurnsWrong)

/- THE SECOND FORM. 'bulk': how many values and letters a reading holds, each counted each time it is reached (what is shared counts as often as it is met; a slice's spare places count too). A statement '..UptoSaid' is the law's where the arguments, and the package variables that the reading takes, are together of bulk at most 1048576: NARROWER than '..Said'. Prove '..Said' where nothing that the law and all that it calls make is longer than what came in: it says more and counts as full. Else prove '..UptoSaid'. A law counts once. -/
mutual
def uptoBulk {H : Type} : DataW H → Nat
  | .lit (.string bytes) => bytes.length + 1
  | .lit _ => 1
  | .nil => 1
  | .ptr d => uptoBulk d + 1
  | .slice elems spare => uptoBulkAll elems + uptoBulkAll spare + 1
  | .agg parts => uptoBulkAll parts + 1
  | .iface _ d => uptoBulk d + 1
  | .map entries => uptoBulkEntries entries + 1
  | .held _ => 1
def uptoBulkAll {H : Type} : List (DataW H) → Nat
  | [] => 0
  | d :: r => uptoBulk d + uptoBulkAll r
def uptoBulkEntries {H : Type} : List (Lit × DataW H) → Nat
  | [] => 0
  | x :: r => uptoBulkEntry x + uptoBulkEntries r
def uptoBulkEntry {H : Type} : Lit × DataW H → Nat
  | (.string bytes, d) => bytes.length + uptoBulk d + 1
  | (_, d) => uptoBulk d + 1
 end
def uptoSmall : (H : Type) → List (DataW H) → Bool := fun _ ds => decide (uptoBulkAll ds ≤ 1048576)
def OpenSpec.upto (s : _root_.Go.ChangeSpec) : _root_.Go.OpenSpec := { _root_.Go.OpenSpec.ofChange s with cond := some uptoSmall }

/-- 'chaselaw23.WindRectangles', WHERE WHAT IT READS IS OF BULK AT MOST 1048576: true; the input reads as it did. -/
def windRectanglesUptoRow : OpenClaim := { program := "ytldghibpecmpjaa", sum := "b715c45570ed14b6f49d4373df1d8090ab57e39b01553ad3d52b044c80b3f300", func := "chase/chaselaw23.WindRectangles", spec := "windRectangles", unfollowed := true, recurses := true, apart := false, narrowed := true }
def WindRectanglesUptoSaid : Prop := windRectanglesUptoRow.holds Try.pinned (OpenSpec.upto windRectanglesSpec)

/-- 'chaselaw20.MatrixMaps', WHERE WHAT IT READS IS OF BULK AT MOST 1048576: true; the input reads as it did. -/
def matrixMapsUptoRow : OpenClaim := { program := "ytldghibpecmpjaa", sum := "b715c45570ed14b6f49d4373df1d8090ab57e39b01553ad3d52b044c80b3f300", func := "chase/chaselaw20.MatrixMaps", spec := "matrixMaps", unfollowed := true, recurses := true, named := ["math/bits.divideError", "math/bits.overflowError"], apart := false, narrowed := true }
def MatrixMapsUptoSaid : Prop := matrixMapsUptoRow.holds Try.pinned (OpenSpec.upto matrixMapsSpec)

/-- 'chaselaw20.MatrixTurns', WHERE WHAT IT READS IS OF BULK AT MOST 1048576: true; the input reads as it did. -/
def matrixTurnsUptoRow : OpenClaim := { program := "ytldghibpecmpjaa", sum := "b715c45570ed14b6f49d4373df1d8090ab57e39b01553ad3d52b044c80b3f300", func := "chase/chaselaw20.MatrixTurns", spec := "matrixTurns", unfollowed := true, recurses := true, named := ["math/bits.divideError", "math/bits.overflowError"], apart := false, narrowed := true }
def MatrixTurnsUptoSaid : Prop := matrixTurnsUptoRow.holds Try.pinned (OpenSpec.upto matrixTurnsSpec)

/-- 'chaselaw20.MatrixBack', WHERE WHAT IT READS IS OF BULK AT MOST 1048576: true; the input reads as it did. -/
def matrixBackUptoRow : OpenClaim := { program := "ytldghibpecmpjaa", sum := "b715c45570ed14b6f49d4373df1d8090ab57e39b01553ad3d52b044c80b3f300", func := "chase/chaselaw20.MatrixBack", spec := "matrixBack", unfollowed := true, recurses := true, named := ["math/bits.divideError", "math/bits.overflowError"], apart := false, narrowed := true }
def MatrixBackUptoSaid : Prop := matrixBackUptoRow.holds Try.pinned (OpenSpec.upto matrixBackSpec)

/-- 'chaselaw28.SampleExact', WHERE WHAT IT READS IS OF BULK AT MOST 1048576: true; the input reads as it did. -/
def sampleExactUptoRow : OpenClaim := { program := "ytldghibpecmpjaa", sum := "b715c45570ed14b6f49d4373df1d8090ab57e39b01553ad3d52b044c80b3f300", func := "chase/chaselaw28.SampleExact", spec := "sampleExact", unfollowed := true, recurses := true, apart := false, narrowed := true }
def SampleExactUptoSaid : Prop := sampleExactUptoRow.holds Try.pinned (OpenSpec.upto sampleExactSpec)

/-- 'chaselaw28.SampleMoves', WHERE WHAT IT READS IS OF BULK AT MOST 1048576: true; the input reads as it did. -/
def sampleMovesUptoRow : OpenClaim := { program := "ytldghibpecmpjaa", sum := "b715c45570ed14b6f49d4373df1d8090ab57e39b01553ad3d52b044c80b3f300", func := "chase/chaselaw28.SampleMoves", spec := "sampleMoves", unfollowed := true, recurses := true, apart := false, narrowed := true }
def SampleMovesUptoSaid : Prop := sampleMovesUptoRow.holds Try.pinned (OpenSpec.upto sampleMovesSpec)

/-- 'chaselaw28.SampleScales', WHERE WHAT IT READS IS OF BULK AT MOST 1048576: true; the input reads as it did. -/
def sampleScalesUptoRow : OpenClaim := { program := "ytldghibpecmpjaa", sum := "b715c45570ed14b6f49d4373df1d8090ab57e39b01553ad3d52b044c80b3f300", func := "chase/chaselaw28.SampleScales", spec := "sampleScales", unfollowed := true, recurses := true, apart := false, narrowed := true }
def SampleScalesUptoSaid : Prop := sampleScalesUptoRow.holds Try.pinned (OpenSpec.upto sampleScalesSpec)

/-- 'chaselaw27.ToneInks', WHERE WHAT IT READS IS OF BULK AT MOST 1048576: true; the input reads as it did. -/
def toneInksUptoRow : OpenClaim := { program := "ytldghibpecmpjaa", sum := "b715c45570ed14b6f49d4373df1d8090ab57e39b01553ad3d52b044c80b3f300", func := "chase/chaselaw27.ToneInks", spec := "toneInks", unfollowed := true, recurses := true, apart := false, narrowed := true }
def ToneInksUptoSaid : Prop := toneInksUptoRow.holds Try.pinned (OpenSpec.upto toneInksSpec)

/-- 'chaselaw12.StackTurns', WHERE WHAT IT READS IS OF BULK AT MOST 1048576: true; the input reads as it did. -/
def stackTurnsUptoRow : OpenClaim := { program := "ytldghibpecmpjaa", sum := "b715c45570ed14b6f49d4373df1d8090ab57e39b01553ad3d52b044c80b3f300", func := "chase/chaselaw12.StackTurns", spec := "stackTurns", unfollowed := true, recurses := true, loops := true, apart := false, narrowed := true }
def StackTurnsUptoSaid : Prop := stackTurnsUptoRow.holds Try.pinned (OpenSpec.upto stackTurnsSpec)

end Rows
end Go.Proofs.Ytldghibpecmpjaa
