/-
  No cell of these rows narrows 'for every input' (looked for: loops, veiled, ifaces, maps, wideKeys, modest, calm, conditions, laid).
  DERIVED. THE GIVEN ROWS OF THIS SEAT. 4 by the template 'for every input the law returns true; each argument reads behind the call as it read before'; 0 by the template 'total and deterministic' (their statements: YtlblafmcemmjoaaTotals.lean).
  GIVEN WITH THE SEED: the statements are not yours to turn. If you find one false, say at which input.
  Laid BY PROGRAM, IN A SANDBOX (cutbox-rows.mjs): the forced cells as the released guide's own fill.sh prints them over the translation 7db99d6ea58142ea… (all of the seat's roots in one cut). By AI agents, Wed Nov 11 2026. No macro, syntax, notation, axiom, sorry.
-/
import Derived.Test.YtlblafmcemmjoaaChecked
import GoSem.Claim
import GoSem.ClaimJoined
import GoSem.ClaimMapViews
import Derived.JoinedTies
import Derived.KernelRfl
namespace Go.Proofs.Ytlblafmcemmjoaa
/- THE CELL 'sum', in the pinned program and in every row, IS THE sha256 OF THE DUMP (.gsa) THAT YtlblafmcemmjoaaProg.lean LOADS. Nothing in Lean hashes anything: it is a label: what it is worth is what the hold of that sum in a sandbox is worth. -/
noncomputable def Try.pinned : Pinned := { name := "ytlblafmcemmjoaa", sum := "7db99d6ea58142eac6cb0663e75a44788f94186c3a9da3678aa1a462f810e1af", checked := Try.checked }
namespace Rows
def none {H : Type} : Left H := { results := [], args := [] }

/-- 'chaselaw12.StackKnown': WHATEVER THE INPUT: true; the input reads as it did. -/
def stackKnownSpec : ChangeSpec := { name := "stackKnown", fn := fun _ => fun
  | [] => { results := [.lit (.bool true)], args := [] }
  | _ => none }
def stackKnownRow : OpenClaim := { program := "ytlblafmcemmjoaa", sum := "7db99d6ea58142eac6cb0663e75a44788f94186c3a9da3678aa1a462f810e1af", func := "chase/chaselaw12.StackKnown", spec := "stackKnown", unfollowed := true, recurses := true, apart := false }
def StackKnownSaid : Prop := stackKnownRow.holds Try.pinned (OpenSpec.ofChange stackKnownSpec)

/-- ITS FALSE NEIGHBOUR: 'it returns false'. Refute it at one input. -/
def stackKnownWrong : ChangeSpec := { name := "stackKnown", fn := fun _ => fun
  | [] => { results := [.lit (.bool false)], args := [] }
  | _ => none }
def StackKnownWrongFalsely : Prop := stackKnownRow.holds Try.pinned (OpenSpec.ofChange stackKnownWrong)

/-- 'chaselaw20.MatrixKnown': WHATEVER THE INPUT: true; the input reads as it did. -/
def matrixKnownSpec : ChangeSpec := { name := "matrixKnown", fn := fun _ => fun
  | [] => { results := [.lit (.bool true)], args := [] }
  | _ => none }
def matrixKnownRow : OpenClaim := { program := "ytlblafmcemmjoaa", sum := "7db99d6ea58142eac6cb0663e75a44788f94186c3a9da3678aa1a462f810e1af", func := "chase/chaselaw20.MatrixKnown", spec := "matrixKnown", unfollowed := true, recurses := true, named := ["math/bits.divideError", "math/bits.overflowError"], apart := false }
def MatrixKnownSaid : Prop := matrixKnownRow.holds Try.pinned (OpenSpec.ofChange matrixKnownSpec)

/-- ITS FALSE NEIGHBOUR: 'it returns false'. Refute it at one input. -/
def matrixKnownWrong : ChangeSpec := { name := "matrixKnown", fn := fun _ => fun
  | [] => { results := [.lit (.bool false)], args := [] }
  | _ => none }
def MatrixKnownWrongFalsely : Prop := matrixKnownRow.holds Try.pinned (OpenSpec.ofChange matrixKnownWrong)

/-- 'chaselaw23.WindKnown': WHATEVER THE INPUT: true; the input reads as it did. -/
def windKnownSpec : ChangeSpec := { name := "windKnown", fn := fun _ => fun
  | [] => { results := [.lit (.bool true)], args := [] }
  | _ => none }
def windKnownRow : OpenClaim := { program := "ytlblafmcemmjoaa", sum := "7db99d6ea58142eac6cb0663e75a44788f94186c3a9da3678aa1a462f810e1af", func := "chase/chaselaw23.WindKnown", spec := "windKnown", unfollowed := true, recurses := true, apart := false }
def WindKnownSaid : Prop := windKnownRow.holds Try.pinned (OpenSpec.ofChange windKnownSpec)

/-- ITS FALSE NEIGHBOUR: 'it returns false'. Refute it at one input. -/
def windKnownWrong : ChangeSpec := { name := "windKnown", fn := fun _ => fun
  | [] => { results := [.lit (.bool false)], args := [] }
  | _ => none }
def WindKnownWrongFalsely : Prop := windKnownRow.holds Try.pinned (OpenSpec.ofChange windKnownWrong)

/-- 'chaselaw26.ColorKnown': WHATEVER THE INPUT: true; the input reads as it did. -/
def colorKnownSpec : ChangeSpec := { name := "colorKnown", fn := fun _ => fun
  | [] => { results := [.lit (.bool true)], args := [] }
  | _ => none }
def colorKnownRow : OpenClaim := { program := "ytlblafmcemmjoaa", sum := "7db99d6ea58142eac6cb0663e75a44788f94186c3a9da3678aa1a462f810e1af", func := "chase/chaselaw26.ColorKnown", spec := "colorKnown", unfollowed := true, recurses := true, apart := false }
def ColorKnownSaid : Prop := colorKnownRow.holds Try.pinned (OpenSpec.ofChange colorKnownSpec)

/-- ITS FALSE NEIGHBOUR: 'it returns false'. Refute it at one input. -/
def colorKnownWrong : ChangeSpec := { name := "colorKnown", fn := fun _ => fun
  | [] => { results := [.lit (.bool false)], args := [] }
  | _ => none }
def ColorKnownWrongFalsely : Prop := colorKnownRow.holds Try.pinned (OpenSpec.ofChange colorKnownWrong)

/- THE SECOND FORM. 'bulk': how many values and letters a reading holds, each counted each time it is reached (what is shared counts as often as it is met; a slice's spare places count too). A statement '..UptoSaid' is the law's where the arguments, and the package variables that the reading takes, are together of bulk at most 1048576: NARROWER than '..Said'. Prove '..Said' where nothing that the law and all that it calls make is longer than what came in: it says more and counts as full. Else prove '..UptoSaid'. A law counts once. -/
mutual
def uptoBulk {H : Type} : DataW H → Nat
  | .lit (.string bytes) => bytes.length + 1
  | .lit _ => 1
  | .nil => 1
  | .ptr d => uptoBulk d + 1
  | .slice elems spare => uptoBulkAll elems + uptoBulkAll spare + 1
  | .agg parts => uptoBulkAll parts + 1
  | .iface _ d => uptoBulk d + 1
  | .map entries => uptoBulkEntries entries + 1
  | .held _ => 1
def uptoBulkAll {H : Type} : List (DataW H) → Nat
  | [] => 0
  | d :: r => uptoBulk d + uptoBulkAll r
def uptoBulkEntries {H : Type} : List (Lit × DataW H) → Nat
  | [] => 0
  | x :: r => uptoBulkEntry x + uptoBulkEntries r
def uptoBulkEntry {H : Type} : Lit × DataW H → Nat
  | (.string bytes, d) => bytes.length + uptoBulk d + 1
  | (_, d) => uptoBulk d + 1
 end
def uptoSmall : (H : Type) → List (DataW H) → Bool := fun _ ds => decide (uptoBulkAll ds ≤ 1048576)
def OpenSpec.upto (s : _root_.Go.ChangeSpec) : _root_.Go.OpenSpec := { _root_.Go.OpenSpec.ofChange s with cond := some uptoSmall }

/-- 'chaselaw12.StackKnown', WHERE WHAT IT READS IS OF BULK AT MOST 1048576: true; the input reads as it did. -/
def stackKnownUptoRow : OpenClaim := { program := "ytlblafmcemmjoaa", sum := "7db99d6ea58142eac6cb0663e75a44788f94186c3a9da3678aa1a462f810e1af", func := "chase/chaselaw12.StackKnown", spec := "stackKnown", unfollowed := true, recurses := true, apart := false, narrowed := true }
def StackKnownUptoSaid : Prop := stackKnownUptoRow.holds Try.pinned (OpenSpec.upto stackKnownSpec)

/-- 'chaselaw20.MatrixKnown', WHERE WHAT IT READS IS OF BULK AT MOST 1048576: true; the input reads as it did. -/
def matrixKnownUptoRow : OpenClaim := { program := "ytlblafmcemmjoaa", sum := "7db99d6ea58142eac6cb0663e75a44788f94186c3a9da3678aa1a462f810e1af", func := "chase/chaselaw20.MatrixKnown", spec := "matrixKnown", unfollowed := true, recurses := true, named := ["math/bits.divideError", "math/bits.overflowError"], apart := false, narrowed := true }
def MatrixKnownUptoSaid : Prop := matrixKnownUptoRow.holds Try.pinned (OpenSpec.upto matrixKnownSpec)

/-- 'chaselaw23.WindKnown', WHERE WHAT IT READS IS OF BULK AT MOST 1048576: true; the input reads as it did. -/
def windKnownUptoRow : OpenClaim := { program := "ytlblafmcemmjoaa", sum := "7db99d6ea58142eac6cb0663e75a44788f94186c3a9da3678aa1a462f810e1af", func := "chase/chaselaw23.WindKnown", spec := "windKnown", unfollowed := true, recurses := true, apart := false, narrowed := true }
def WindKnownUptoSaid : Prop := windKnownUptoRow.holds Try.pinned (OpenSpec.upto windKnownSpec)

/-- 'chaselaw26.ColorKnown', WHERE WHAT IT READS IS OF BULK AT MOST 1048576: true; the input reads as it did. -/
def colorKnownUptoRow : OpenClaim := { program := "ytlblafmcemmjoaa", sum := "7db99d6ea58142eac6cb0663e75a44788f94186c3a9da3678aa1a462f810e1af", func := "chase/chaselaw26.ColorKnown", spec := "colorKnown", unfollowed := true, recurses := true, apart := false, narrowed := true }
def ColorKnownUptoSaid : Prop := colorKnownUptoRow.holds Try.pinned (OpenSpec.upto colorKnownSpec)

end Rows
end Go.Proofs.Ytlblafmcemmjoaa
