/-
  No cell of these rows narrows 'for every input' (looked for: loops, veiled, ifaces, maps, wideKeys, modest, calm, conditions, laid).
  DERIVED. THE GIVEN ROWS OF THIS SEAT. 4 by the template 'for every input the law returns true; each argument reads behind the call as it read before'; 0 by the template 'total and deterministic' (their statements: YtepicmkdncehoaaTotals.lean).
  GIVEN WITH THE SEED: the statements are not yours to turn. If you find one false, say at which input.
  Laid BY PROGRAM, IN A SANDBOX (cutbox-rows.mjs): the forced cells as the released guide's own fill.sh prints them over the translation 5d4badd1bcf2db8e… (all of the seat's roots in one cut). By AI agents, Wed Nov 11 2026. No macro, syntax, notation, axiom, sorry.
-/
import Derived.Test.YtepicmkdncehoaaChecked
import GoSem.Claim
import GoSem.ClaimJoined
import GoSem.ClaimMapViews
import Derived.JoinedTies
import Derived.KernelRfl
namespace Go.Proofs.Ytepicmkdncehoaa
/- THE CELL 'sum', in the pinned program and in every row, IS THE sha256 OF THE DUMP (.gsa) THAT YtepicmkdncehoaaProg.lean LOADS. Nothing in Lean hashes anything: it is a label: what it is worth is what the hold of that sum in a sandbox is worth. -/
noncomputable def Try.pinned : Pinned := { name := "ytepicmkdncehoaa", sum := "5d4badd1bcf2db8ed58d850a72165e76f1e0f8f56d9a4357ddb26c32c423ca9f", checked := Try.checked }
namespace Rows
def none {H : Type} : Left H := { results := [], args := [] }

/-- 'chaselaw24.LineKnown': WHATEVER THE INPUT: true; the input reads as it did. -/
def lineKnownSpec : ChangeSpec := { name := "lineKnown", fn := fun _ => fun
  | [] => { results := [.lit (.bool true)], args := [] }
  | _ => none }
def lineKnownRow : OpenClaim := { program := "ytepicmkdncehoaa", sum := "5d4badd1bcf2db8ed58d850a72165e76f1e0f8f56d9a4357ddb26c32c423ca9f", func := "chase/chaselaw24.LineKnown", spec := "lineKnown", unfollowed := true, recurses := true, apart := false }
def LineKnownSaid : Prop := lineKnownRow.holds Try.pinned (OpenSpec.ofChange lineKnownSpec)

/-- ITS FALSE NEIGHBOUR: 'it returns false'. Refute it at one input. -/
def lineKnownWrong : ChangeSpec := { name := "lineKnown", fn := fun _ => fun
  | [] => { results := [.lit (.bool false)], args := [] }
  | _ => none }
def LineKnownWrongFalsely : Prop := lineKnownRow.holds Try.pinned (OpenSpec.ofChange lineKnownWrong)

/-- 'chaselaw28.SampleKnown': WHATEVER THE INPUT: true; the input reads as it did. -/
def sampleKnownSpec : ChangeSpec := { name := "sampleKnown", fn := fun _ => fun
  | [] => { results := [.lit (.bool true)], args := [] }
  | _ => none }
def sampleKnownRow : OpenClaim := { program := "ytepicmkdncehoaa", sum := "5d4badd1bcf2db8ed58d850a72165e76f1e0f8f56d9a4357ddb26c32c423ca9f", func := "chase/chaselaw28.SampleKnown", spec := "sampleKnown", unfollowed := true, recurses := true, apart := false }
def SampleKnownSaid : Prop := sampleKnownRow.holds Try.pinned (OpenSpec.ofChange sampleKnownSpec)

/-- ITS FALSE NEIGHBOUR: 'it returns false'. Refute it at one input. -/
def sampleKnownWrong : ChangeSpec := { name := "sampleKnown", fn := fun _ => fun
  | [] => { results := [.lit (.bool false)], args := [] }
  | _ => none }
def SampleKnownWrongFalsely : Prop := sampleKnownRow.holds Try.pinned (OpenSpec.ofChange sampleKnownWrong)

/-- 'chaselaw29.ShadeKnown': WHATEVER THE INPUT: true; the input reads as it did. -/
def shadeKnownSpec : ChangeSpec := { name := "shadeKnown", fn := fun _ => fun
  | [] => { results := [.lit (.bool true)], args := [] }
  | _ => none }
def shadeKnownRow : OpenClaim := { program := "ytepicmkdncehoaa", sum := "5d4badd1bcf2db8ed58d850a72165e76f1e0f8f56d9a4357ddb26c32c423ca9f", func := "chase/chaselaw29.ShadeKnown", spec := "shadeKnown", unfollowed := true, recurses := true, apart := false }
def ShadeKnownSaid : Prop := shadeKnownRow.holds Try.pinned (OpenSpec.ofChange shadeKnownSpec)

/-- ITS FALSE NEIGHBOUR: 'it returns false'. Refute it at one input. -/
def shadeKnownWrong : ChangeSpec := { name := "shadeKnown", fn := fun _ => fun
  | [] => { results := [.lit (.bool false)], args := [] }
  | _ => none }
def ShadeKnownWrongFalsely : Prop := shadeKnownRow.holds Try.pinned (OpenSpec.ofChange shadeKnownWrong)

/-- 'chaselaw34.HintKnown': WHATEVER THE INPUT: true; the input reads as it did. -/
def hintKnownSpec : ChangeSpec := { name := "hintKnown", fn := fun _ => fun
  | [] => { results := [.lit (.bool true)], args := [] }
  | _ => none }
def hintKnownRow : OpenClaim := { program := "ytepicmkdncehoaa", sum := "5d4badd1bcf2db8ed58d850a72165e76f1e0f8f56d9a4357ddb26c32c423ca9f", func := "chase/chaselaw34.HintKnown", spec := "hintKnown", unfollowed := true, recurses := true, apart := false }
def HintKnownSaid : Prop := hintKnownRow.holds Try.pinned (OpenSpec.ofChange hintKnownSpec)

/-- ITS FALSE NEIGHBOUR: 'it returns false'. Refute it at one input. -/
def hintKnownWrong : ChangeSpec := { name := "hintKnown", fn := fun _ => fun
  | [] => { results := [.lit (.bool false)], args := [] }
  | _ => none }
def HintKnownWrongFalsely : Prop := hintKnownRow.holds Try.pinned (OpenSpec.ofChange hintKnownWrong)

/- THE SECOND FORM. 'bulk': how many values and letters a reading holds, each counted each time it is reached (what is shared counts as often as it is met; a slice's spare places count too). A statement '..UptoSaid' is the law's where the arguments, and the package variables that the reading takes, are together of bulk at most 1048576: NARROWER than '..Said'. Prove '..Said' where nothing that the law and all that it calls make is longer than what came in: it says more and counts as full. Else prove '..UptoSaid'. A law counts once. -/
mutual
def uptoBulk {H : Type} : DataW H → Nat
  | .lit (.string bytes) => bytes.length + 1
  | .lit _ => 1
  | .nil => 1
  | .ptr d => uptoBulk d + 1
  | .slice elems spare => uptoBulkAll elems + uptoBulkAll spare + 1
  | .agg parts => uptoBulkAll parts + 1
  | .iface _ d => uptoBulk d + 1
  | .map entries => uptoBulkEntries entries + 1
  | .held _ => 1
def uptoBulkAll {H : Type} : List (DataW H) → Nat
  | [] => 0
  | d :: r => uptoBulk d + uptoBulkAll r
def uptoBulkEntries {H : Type} : List (Lit × DataW H) → Nat
  | [] => 0
  | x :: r => uptoBulkEntry x + uptoBulkEntries r
def uptoBulkEntry {H : Type} : Lit × DataW H → Nat
  | (.string bytes, d) => bytes.length + uptoBulk d + 1
  | (_, d) => uptoBulk d + 1
 end
def uptoSmall : (H : Type) → List (DataW H) → Bool := fun _ ds => decide (uptoBulkAll ds ≤ 1048576)
def OpenSpec.upto (s : _root_.Go.ChangeSpec) : _root_.Go.OpenSpec := { _root_.Go.OpenSpec.ofChange s with cond := some uptoSmall }

/-- 'chaselaw24.LineKnown', WHERE WHAT IT READS IS OF BULK AT MOST 1048576: true; the input reads as it did. -/
def lineKnownUptoRow : OpenClaim := { program := "ytepicmkdncehoaa", sum := "5d4badd1bcf2db8ed58d850a72165e76f1e0f8f56d9a4357ddb26c32c423ca9f", func := "chase/chaselaw24.LineKnown", spec := "lineKnown", unfollowed := true, recurses := true, apart := false, narrowed := true }
def LineKnownUptoSaid : Prop := lineKnownUptoRow.holds Try.pinned (OpenSpec.upto lineKnownSpec)

/-- 'chaselaw28.SampleKnown', WHERE WHAT IT READS IS OF BULK AT MOST 1048576: true; the input reads as it did. -/
def sampleKnownUptoRow : OpenClaim := { program := "ytepicmkdncehoaa", sum := "5d4badd1bcf2db8ed58d850a72165e76f1e0f8f56d9a4357ddb26c32c423ca9f", func := "chase/chaselaw28.SampleKnown", spec := "sampleKnown", unfollowed := true, recurses := true, apart := false, narrowed := true }
def SampleKnownUptoSaid : Prop := sampleKnownUptoRow.holds Try.pinned (OpenSpec.upto sampleKnownSpec)

/-- 'chaselaw29.ShadeKnown', WHERE WHAT IT READS IS OF BULK AT MOST 1048576: true; the input reads as it did. -/
def shadeKnownUptoRow : OpenClaim := { program := "ytepicmkdncehoaa", sum := "5d4badd1bcf2db8ed58d850a72165e76f1e0f8f56d9a4357ddb26c32c423ca9f", func := "chase/chaselaw29.ShadeKnown", spec := "shadeKnown", unfollowed := true, recurses := true, apart := false, narrowed := true }
def ShadeKnownUptoSaid : Prop := shadeKnownUptoRow.holds Try.pinned (OpenSpec.upto shadeKnownSpec)

/-- 'chaselaw34.HintKnown', WHERE WHAT IT READS IS OF BULK AT MOST 1048576: true; the input reads as it did. -/
def hintKnownUptoRow : OpenClaim := { program := "ytepicmkdncehoaa", sum := "5d4badd1bcf2db8ed58d850a72165e76f1e0f8f56d9a4357ddb26c32c423ca9f", func := "chase/chaselaw34.HintKnown", spec := "hintKnown", unfollowed := true, recurses := true, apart := false, narrowed := true }
def HintKnownUptoSaid : Prop := hintKnownUptoRow.holds Try.pinned (OpenSpec.upto hintKnownSpec)

end Rows
end Go.Proofs.Ytepicmkdncehoaa
