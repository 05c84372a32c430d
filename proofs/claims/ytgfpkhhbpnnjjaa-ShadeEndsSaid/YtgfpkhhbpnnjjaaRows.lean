/-
  No cell of these rows narrows 'for every input' (looked for: loops, veiled, ifaces, maps, wideKeys, modest, calm, conditions, laid).
  DERIVED. THE GIVEN ROWS OF THIS SEAT. 6 by the template 'for every input the law returns true; each argument reads behind the call as it read before'; 0 by the template 'total and deterministic' (their statements: YtgfpkhhbpnnjjaaTotals.lean).
  GIVEN WITH THE SEED: the statements are not yours to turn. If you find one false, say at which input.
  Laid BY PROGRAM, IN A SANDBOX (cutbox-rows.mjs): the forced cells as the released guide's own fill.sh prints them over the translation e0ae0560e9115e43… (all of the seat's roots in one cut). By AI agents, Wed Nov 11 2026. No macro, syntax, notation, axiom, sorry.
-/
import Derived.Test.YtgfpkhhbpnnjjaaChecked
import GoSem.Claim
import GoSem.ClaimJoined
import GoSem.ClaimMapViews
import Derived.JoinedTies
import Derived.KernelRfl
namespace Go.Proofs.Ytgfpkhhbpnnjjaa
/- THE CELL 'sum', in the pinned program and in every row, IS THE sha256 OF THE DUMP (.gsa) THAT YtgfpkhhbpnnjjaaProg.lean LOADS. Nothing in Lean hashes anything: it is a label: what it is worth is what the hold of that sum in a sandbox is worth. -/
noncomputable def Try.pinned : Pinned := { name := "ytgfpkhhbpnnjjaa", sum := "e0ae0560e9115e433bd3b7e1e337ce8d2e4b84d1f58d593d59186e6db37ad60f", checked := Try.checked }
namespace Rows
def none {H : Type} : Left H := { results := [], args := [] }

/-- 'chaselaw29.ShadeTells': WHATEVER THE INPUT: true; the input reads as it did. -/
def shadeTellsSpec : ChangeSpec := { name := "shadeTells", fn := fun _ => fun
  | [d1, d2, d3] => { results := [.lit (.bool true)], args := [d1, d2, d3] }
  | _ => none }
def shadeTellsRow : OpenClaim := { program := "ytgfpkhhbpnnjjaa", sum := "e0ae0560e9115e433bd3b7e1e337ce8d2e4b84d1f58d593d59186e6db37ad60f", func := "chase/chaselaw29.ShadeTells", spec := "shadeTells", unfollowed := true, recurses := true, apart := false }
def ShadeTellsSaid : Prop := shadeTellsRow.holds Try.pinned (OpenSpec.ofChange shadeTellsSpec)

/-- ITS FALSE NEIGHBOUR: 'it returns false'. Refute it at one input. -/
def shadeTellsWrong : ChangeSpec := { name := "shadeTells", fn := fun _ => fun
  | [d1, d2, d3] => { results := [.lit (.bool false)], args := [d1, d2, d3] }
  | _ => none }
def ShadeTellsWrongFalsely : Prop := shadeTellsRow.holds Try.pinned (OpenSpec.ofChange shadeTellsWrong)

/-- 'chaselaw29.ShadeEnds': WHATEVER THE INPUT: true; the input reads as it did. -/
def shadeEndsSpec : ChangeSpec := { name := "shadeEnds", fn := fun _ => fun
  | [d1, d2, d3] => { results := [.lit (.bool true)], args := [d1, d2, d3] }
  | _ => none }
def shadeEndsRow : OpenClaim := { program := "ytgfpkhhbpnnjjaa", sum := "e0ae0560e9115e433bd3b7e1e337ce8d2e4b84d1f58d593d59186e6db37ad60f", func := "chase/chaselaw29.ShadeEnds", spec := "shadeEnds", unfollowed := true, recurses := true, apart := false }
def ShadeEndsSaid : Prop := shadeEndsRow.holds Try.pinned (OpenSpec.ofChange shadeEndsSpec)

/-- ITS FALSE NEIGHBOUR: 'it returns false'. Refute it at one input. -/
def shadeEndsWrong : ChangeSpec := { name := "shadeEnds", fn := fun _ => fun
  | [d1, d2, d3] => { results := [.lit (.bool false)], args := [d1, d2, d3] }
  | _ => none }
def ShadeEndsWrongFalsely : Prop := shadeEndsRow.holds Try.pinned (OpenSpec.ofChange shadeEndsWrong)

/-- 'chaselaw29.ShadeTurns': WHATEVER THE INPUT: true; the input reads as it did. -/
def shadeTurnsSpec : ChangeSpec := { name := "shadeTurns", fn := fun _ => fun
  | [d1, d2, d3] => { results := [.lit (.bool true)], args := [d1, d2, d3] }
  | _ => none }
def shadeTurnsRow : OpenClaim := { program := "ytgfpkhhbpnnjjaa", sum := "e0ae0560e9115e433bd3b7e1e337ce8d2e4b84d1f58d593d59186e6db37ad60f", func := "chase/chaselaw29.ShadeTurns", spec := "shadeTurns", unfollowed := true, recurses := true, apart := false }
def ShadeTurnsSaid : Prop := shadeTurnsRow.holds Try.pinned (OpenSpec.ofChange shadeTurnsSpec)

/-- ITS FALSE NEIGHBOUR: 'it returns false'. Refute it at one input. -/
def shadeTurnsWrong : ChangeSpec := { name := "shadeTurns", fn := fun _ => fun
  | [d1, d2, d3] => { results := [.lit (.bool false)], args := [d1, d2, d3] }
  | _ => none }
def ShadeTurnsWrongFalsely : Prop := shadeTurnsRow.holds Try.pinned (OpenSpec.ofChange shadeTurnsWrong)

/-- 'chaselaw25.DashLengths': WHATEVER THE INPUT: true; the input reads as it did. -/
def dashLengthsSpec : ChangeSpec := { name := "dashLengths", fn := fun _ => fun
  | [d1, d2] => { results := [.lit (.bool true)], args := [d1, d2] }
  | _ => none }
def dashLengthsRow : OpenClaim := { program := "ytgfpkhhbpnnjjaa", sum := "e0ae0560e9115e433bd3b7e1e337ce8d2e4b84d1f58d593d59186e6db37ad60f", func := "chase/chaselaw25.DashLengths", spec := "dashLengths", unfollowed := true, recurses := true, apart := false }
def DashLengthsSaid : Prop := dashLengthsRow.holds Try.pinned (OpenSpec.ofChange dashLengthsSpec)

/-- ITS FALSE NEIGHBOUR: 'it returns false'. Refute it at one input. -/
def dashLengthsWrong : ChangeSpec := { name := "dashLengths", fn := fun _ => fun
  | [d1, d2] => { results := [.lit (.bool false)], args := [d1, d2] }
  | _ => none }
def DashLengthsWrongFalsely : Prop := dashLengthsRow.holds Try.pinned (OpenSpec.ofChange dashLengthsWrong)

/-- 'chaselaw27.ToneCounts': WHATEVER THE INPUT: true; the input reads as it did. -/
def toneCountsSpec : ChangeSpec := { name := "toneCounts", fn := fun _ => fun
  | [d1, d2, d3, d4] => { results := [.lit (.bool true)], args := [d1, d2, d3, d4] }
  | _ => none }
def toneCountsRow : OpenClaim := { program := "ytgfpkhhbpnnjjaa", sum := "e0ae0560e9115e433bd3b7e1e337ce8d2e4b84d1f58d593d59186e6db37ad60f", func := "chase/chaselaw27.ToneCounts", spec := "toneCounts", unfollowed := true, recurses := true, apart := false }
def ToneCountsSaid : Prop := toneCountsRow.holds Try.pinned (OpenSpec.ofChange toneCountsSpec)

/-- ITS FALSE NEIGHBOUR: 'it returns false'. Refute it at one input. -/
def toneCountsWrong : ChangeSpec := { name := "toneCounts", fn := fun _ => fun
  | [d1, d2, d3, d4] => { results := [.lit (.bool false)], args := [d1, d2, d3, d4] }
  | _ => none }
def ToneCountsWrongFalsely : Prop := toneCountsRow.holds Try.pinned (OpenSpec.ofChange toneCountsWrong)

/-- 'chaselaw23.WindRectangles': WHATEVER THE INPUT: true; the input reads as it did. -/
def windRectanglesSpec : ChangeSpec := { name := "windRectangles", fn := fun _ => fun
  | [d1, d2, d3, d4, d5] => { results := [.lit (.bool true)], args := [d1, d2, d3, d4, d5] }
  | _ => none }
def windRectanglesRow : OpenClaim := { program := "ytgfpkhhbpnnjjaa", sum := "e0ae0560e9115e433bd3b7e1e337ce8d2e4b84d1f58d593d59186e6db37ad60f", func := "chase/chaselaw23.WindRectangles", spec := "windRectangles", unfollowed := true, recurses := true, apart := false }
def WindRectanglesSaid : Prop := windRectanglesRow.holds Try.pinned (OpenSpec.ofChange windRectanglesSpec)

/-- ITS FALSE NEIGHBOUR: 'it returns false'. Refute it at one input. -/
def windRectanglesWrong : ChangeSpec := { name := "windRectangles", fn := fun _ => fun
  | [d1, d2, d3, d4, d5] => { results := [.lit (.bool false)], args := [d1, d2, d3, d4, d5] }
  | _ => none }
def WindRectanglesWrongFalsely : Prop := windRectanglesRow.holds Try.pinned (OpenSpec.ofChange windRectanglesWrong)

/- THE SECOND FORM. 'bulk': how many values and letters a reading holds, each counted each time it is reached (what is shared counts as often as it is met; a slice's spare places count too). A statement '..UptoSaid' is the law's where the arguments, and the package variables that the reading takes, are together of bulk at most 1048576: NARROWER than '..Said'. Prove '..Said' where nothing that the law and all that it calls make is longer than what came in: it says more and counts as full. Else prove '..UptoSaid'. A law counts once. -/
mutual
def uptoBulk {H : Type} : DataW H → Nat
  | .lit (.string bytes) => bytes.length + 1
  | .lit _ => 1
  | .nil => 1
  | .ptr d => uptoBulk d + 1
  | .slice elems spare => uptoBulkAll elems + uptoBulkAll spare + 1
  | .agg parts => uptoBulkAll parts + 1
  | .iface _ d => uptoBulk d + 1
  | .map entries => uptoBulkEntries entries + 1
  | .held _ => 1
def uptoBulkAll {H : Type} : List (DataW H) → Nat
  | [] => 0
  | d :: r => uptoBulk d + uptoBulkAll r
def uptoBulkEntries {H : Type} : List (Lit × DataW H) → Nat
  | [] => 0
  | x :: r => uptoBulkEntry x + uptoBulkEntries r
def uptoBulkEntry {H : Type} : Lit × DataW H → Nat
  | (.string bytes, d) => bytes.length + uptoBulk d + 1
  | (_, d) => uptoBulk d + 1
 end
def uptoSmall : (H : Type) → List (DataW H) → Bool := fun _ ds => decide (uptoBulkAll ds ≤ 1048576)
def OpenSpec.upto (s : _root_.Go.ChangeSpec) : _root_.Go.OpenSpec := { _root_.Go.OpenSpec.ofChange s with cond := some uptoSmall }

/-- 'chaselaw29.ShadeTells', WHERE WHAT IT READS IS OF BULK AT MOST 1048576: true; the input reads as it did. -/
def shadeTellsUptoRow : OpenClaim := { program := "ytgfpkhhbpnnjjaa", sum := "e0ae0560e9115e433bd3b7e1e337ce8d2e4b84d1f58d593d59186e6db37ad60f", func := "chase/chaselaw29.ShadeTells", spec := "shadeTells", unfollowed := true, recurses := true, apart := false, narrowed := true }
def ShadeTellsUptoSaid : Prop := shadeTellsUptoRow.holds Try.pinned (OpenSpec.upto shadeTellsSpec)

/-- 'chaselaw29.ShadeEnds', WHERE WHAT IT READS IS OF BULK AT MOST 1048576: true; the input reads as it did. -/
def shadeEndsUptoRow : OpenClaim := { program := "ytgfpkhhbpnnjjaa", sum := "e0ae0560e9115e433bd3b7e1e337ce8d2e4b84d1f58d593d59186e6db37ad60f", func := "chase/chaselaw29.ShadeEnds", spec := "shadeEnds", unfollowed := true, recurses := true, apart := false, narrowed := true }
def ShadeEndsUptoSaid : Prop := shadeEndsUptoRow.holds Try.pinned (OpenSpec.upto shadeEndsSpec)

/-- 'chaselaw29.ShadeTurns', WHERE WHAT IT READS IS OF BULK AT MOST 1048576: true; the input reads as it did. -/
def shadeTurnsUptoRow : OpenClaim := { program := "ytgfpkhhbpnnjjaa", sum := "e0ae0560e9115e433bd3b7e1e337ce8d2e4b84d1f58d593d59186e6db37ad60f", func := "chase/chaselaw29.ShadeTurns", spec := "shadeTurns", unfollowed := true, recurses := true, apart := false, narrowed := true }
def ShadeTurnsUptoSaid : Prop := shadeTurnsUptoRow.holds Try.pinned (OpenSpec.upto shadeTurnsSpec)

/-- 'chaselaw25.DashLengths', WHERE WHAT IT READS IS OF BULK AT MOST 1048576: true; the input reads as it did. -/
def dashLengthsUptoRow : OpenClaim := { program := "ytgfpkhhbpnnjjaa", sum := "e0ae0560e9115e433bd3b7e1e337ce8d2e4b84d1f58d593d59186e6db37ad60f", func := "chase/chaselaw25.DashLengths", spec := "dashLengths", unfollowed := true, recurses := true, apart := false, narrowed := true }
def DashLengthsUptoSaid : Prop := dashLengthsUptoRow.holds Try.pinned (OpenSpec.upto dashLengthsSpec)

/-- 'chaselaw27.ToneCounts', WHERE WHAT IT READS IS OF BULK AT MOST 1048576: true; the input reads as it did. -/
def toneCountsUptoRow : OpenClaim := { program := "ytgfpkhhbpnnjjaa", sum := "e0ae0560e9115e433bd3b7e1e337ce8d2e4b84d1f58d593d59186e6db37ad60f", func := "chase/chaselaw27.ToneCounts", spec := "toneCounts", unfollowed := true, recurses := true, apart := false, narrowed := true }
def ToneCountsUptoSaid : Prop := toneCountsUptoRow.holds Try.pinned (OpenSpec.upto toneCountsSpec)

/-- 'chaselaw23.WindRectangles', WHERE WHAT IT READS IS OF BULK AT MOST 1048576: true; the input reads as it did. -/
def windRectanglesUptoRow : OpenClaim := { program := "ytgfpkhhbpnnjjaa", sum := "e0ae0560e9115e433bd3b7e1e337ce8d2e4b84d1f58d593d59186e6db37ad60f", func := "chase/chaselaw23.WindRectangles", spec := "windRectangles", unfollowed := true, recurses := true, apart := false, narrowed := true }
def WindRectanglesUptoSaid : Prop := windRectanglesUptoRow.holds Try.pinned (OpenSpec.upto windRectanglesSpec)

end Rows
end Go.Proofs.Ytgfpkhhbpnnjjaa
