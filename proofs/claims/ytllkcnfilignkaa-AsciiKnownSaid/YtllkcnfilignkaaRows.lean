/-
  No cell of these rows narrows 'for every input' (looked for: loops, veiled, ifaces, maps, wideKeys, modest, calm, conditions, laid).
  DERIVED. THE GIVEN ROWS OF THIS SEAT. 6 by the template 'for every input the law returns true; each argument reads behind the call as it read before'; 0 by the template 'total and deterministic' (their statements: YtllkcnfilignkaaTotals.lean).
  GIVEN WITH THE SEED: the statements are not yours to turn. If you find one false, say at which input.
  Laid BY PROGRAM, IN A SANDBOX (cutbox-rows.mjs): the forced cells as the released guide's own fill.sh prints them over the translation 0c734da7d20bd9fb… (all of the seat's roots in one cut). By AI agents, Wed Nov 11 2026. No macro, syntax, notation, axiom, sorry.
-/
import Derived.Test.YtllkcnfilignkaaChecked
import GoSem.Claim
import GoSem.ClaimJoined
import GoSem.ClaimMapViews
import Derived.JoinedTies
import Derived.KernelRfl
namespace Go.Proofs.Ytllkcnfilignkaa
/- THE CELL 'sum', in the pinned program and in every row, IS THE sha256 OF THE DUMP (.gsa) THAT YtllkcnfilignkaaProg.lean LOADS. Nothing in Lean hashes anything: it is a label: what it is worth is what the hold of that sum in a sandbox is worth. -/
noncomputable def Try.pinned : Pinned := { name := "ytllkcnfilignkaa", sum := "0c734da7d20bd9fbeec8381dd629f654a4e11c6ce4171ca7d8b6eaf016760918", checked := Try.checked }
namespace Rows
def none {H : Type} : Left H := { results := [], args := [] }

/-- 'chaselaw02.AsciiHexes': WHATEVER THE INPUT: true; the input reads as it did. -/
def asciiHexesSpec : ChangeSpec := { name := "asciiHexes", fn := fun _ => fun
  | [d1, d2] => { results := [.lit (.bool true)], args := [d1, d2] }
  | _ => none }
def asciiHexesRow : OpenClaim := { program := "ytllkcnfilignkaa", sum := "0c734da7d20bd9fbeec8381dd629f654a4e11c6ce4171ca7d8b6eaf016760918", func := "chase/chaselaw02.AsciiHexes", spec := "asciiHexes", unfollowed := true, recurses := true, apart := false }
def AsciiHexesSaid : Prop := asciiHexesRow.holds Try.pinned (OpenSpec.ofChange asciiHexesSpec)

/-- ITS FALSE NEIGHBOUR: 'it returns false'. Refute it at one input. -/
def asciiHexesWrong : ChangeSpec := { name := "asciiHexes", fn := fun _ => fun
  | [d1, d2] => { results := [.lit (.bool false)], args := [d1, d2] }
  | _ => none }
def AsciiHexesWrongFalsely : Prop := asciiHexesRow.holds Try.pinned (OpenSpec.ofChange asciiHexesWrong)

/-- 'chaselaw02.AsciiBases': WHATEVER THE INPUT: true; the input reads as it did. -/
def asciiBasesSpec : ChangeSpec := { name := "asciiBases", fn := fun _ => fun
  | [d1, d2] => { results := [.lit (.bool true)], args := [d1, d2] }
  | _ => none }
def asciiBasesRow : OpenClaim := { program := "ytllkcnfilignkaa", sum := "0c734da7d20bd9fbeec8381dd629f654a4e11c6ce4171ca7d8b6eaf016760918", func := "chase/chaselaw02.AsciiBases", spec := "asciiBases", unfollowed := true, recurses := true, apart := false }
def AsciiBasesSaid : Prop := asciiBasesRow.holds Try.pinned (OpenSpec.ofChange asciiBasesSpec)

/-- ITS FALSE NEIGHBOUR: 'it returns false'. Refute it at one input. -/
def asciiBasesWrong : ChangeSpec := { name := "asciiBases", fn := fun _ => fun
  | [d1, d2] => { results := [.lit (.bool false)], args := [d1, d2] }
  | _ => none }
def AsciiBasesWrongFalsely : Prop := asciiBasesRow.holds Try.pinned (OpenSpec.ofChange asciiBasesWrong)

/-- 'chaselaw02.AsciiChanges': WHATEVER THE INPUT: true; the input reads as it did. -/
def asciiChangesSpec : ChangeSpec := { name := "asciiChanges", fn := fun _ => fun
  | [d1, d2, d3] => { results := [.lit (.bool true)], args := [d1, d2, d3] }
  | _ => none }
def asciiChangesRow : OpenClaim := { program := "ytllkcnfilignkaa", sum := "0c734da7d20bd9fbeec8381dd629f654a4e11c6ce4171ca7d8b6eaf016760918", func := "chase/chaselaw02.AsciiChanges", spec := "asciiChanges", unfollowed := true, recurses := true, apart := false }
def AsciiChangesSaid : Prop := asciiChangesRow.holds Try.pinned (OpenSpec.ofChange asciiChangesSpec)

/-- ITS FALSE NEIGHBOUR: 'it returns false'. Refute it at one input. -/
def asciiChangesWrong : ChangeSpec := { name := "asciiChanges", fn := fun _ => fun
  | [d1, d2, d3] => { results := [.lit (.bool false)], args := [d1, d2, d3] }
  | _ => none }
def AsciiChangesWrongFalsely : Prop := asciiChangesRow.holds Try.pinned (OpenSpec.ofChange asciiChangesWrong)

/-- 'chaselaw02.AsciiBack': WHATEVER THE INPUT: true; the input reads as it did. -/
def asciiBackSpec : ChangeSpec := { name := "asciiBack", fn := fun _ => fun
  | [d1, d2] => { results := [.lit (.bool true)], args := [d1, d2] }
  | _ => none }
def asciiBackRow : OpenClaim := { program := "ytllkcnfilignkaa", sum := "0c734da7d20bd9fbeec8381dd629f654a4e11c6ce4171ca7d8b6eaf016760918", func := "chase/chaselaw02.AsciiBack", spec := "asciiBack", unfollowed := true, recurses := true, apart := false }
def AsciiBackSaid : Prop := asciiBackRow.holds Try.pinned (OpenSpec.ofChange asciiBackSpec)

/-- ITS FALSE NEIGHBOUR: 'it returns false'. Refute it at one input. -/
def asciiBackWrong : ChangeSpec := { name := "asciiBack", fn := fun _ => fun
  | [d1, d2] => { results := [.lit (.bool false)], args := [d1, d2] }
  | _ => none }
def AsciiBackWrongFalsely : Prop := asciiBackRow.holds Try.pinned (OpenSpec.ofChange asciiBackWrong)

/-- 'chaselaw02.AsciiJoins': WHATEVER THE INPUT: true; the input reads as it did. -/
def asciiJoinsSpec : ChangeSpec := { name := "asciiJoins", fn := fun _ => fun
  | [d1, d2] => { results := [.lit (.bool true)], args := [d1, d2] }
  | _ => none }
def asciiJoinsRow : OpenClaim := { program := "ytllkcnfilignkaa", sum := "0c734da7d20bd9fbeec8381dd629f654a4e11c6ce4171ca7d8b6eaf016760918", func := "chase/chaselaw02.AsciiJoins", spec := "asciiJoins", unfollowed := true, recurses := true, apart := false }
def AsciiJoinsSaid : Prop := asciiJoinsRow.holds Try.pinned (OpenSpec.ofChange asciiJoinsSpec)

/-- ITS FALSE NEIGHBOUR: 'it returns false'. Refute it at one input. -/
def asciiJoinsWrong : ChangeSpec := { name := "asciiJoins", fn := fun _ => fun
  | [d1, d2] => { results := [.lit (.bool false)], args := [d1, d2] }
  | _ => none }
def AsciiJoinsWrongFalsely : Prop := asciiJoinsRow.holds Try.pinned (OpenSpec.ofChange asciiJoinsWrong)

/-- 'chaselaw02.AsciiKnown': WHATEVER THE INPUT: true; the input reads as it did. -/
def asciiKnownSpec : ChangeSpec := { name := "asciiKnown", fn := fun _ => fun
  | [] => { results := [.lit (.bool true)], args := [] }
  | _ => none }
def asciiKnownRow : OpenClaim := { program := "ytllkcnfilignkaa", sum := "0c734da7d20bd9fbeec8381dd629f654a4e11c6ce4171ca7d8b6eaf016760918", func := "chase/chaselaw02.AsciiKnown", spec := "asciiKnown", inPlace := ["internal/abi.NoEscape", "internal/bytealg.MakeNoZero"], unfollowed := true, recurses := true, apart := false }
def AsciiKnownSaid : Prop := asciiKnownRow.holds Try.pinned (OpenSpec.ofChange asciiKnownSpec)

/-- ITS FALSE NEIGHBOUR: 'it returns false'. Refute it at one input. -/
def asciiKnownWrong : ChangeSpec := { name := "asciiKnown", fn := fun _ => fun
  | [] => { results := [.lit (.bool false)], args := [] }
  | _ => none }
def AsciiKnownWrongFalsely : Prop := asciiKnownRow.holds Try.pinned (OpenSpec.ofChange asciiKnownWrong)

/- THE SECOND FORM. 'bulk': how many values and letters a reading holds, each counted each time it is reached (what is shared counts as often as it is met; a slice's spare places count too). A statement '..UptoSaid' is the law's where the arguments, and the package variables that the reading takes, are together of bulk at most 1048576: NARROWER than '..Said'. Prove '..Said' where nothing that the law and all that it calls make is longer than what came in: it says more and counts as full. Else prove '..UptoSaid'. A law counts once. -/
mutual
def uptoBulk {H : Type} : DataW H → Nat
  | .lit (.string bytes) => bytes.length + 1
  | .lit _ => 1
  | .nil => 1
  | .ptr d => uptoBulk d + 1
  | .slice elems spare => uptoBulkAll elems + uptoBulkAll spare + 1
  | .agg parts => uptoBulkAll parts + 1
  | .iface _ d => uptoBulk d + 1
  | .map entries => uptoBulkEntries entries + 1
  | .held _ => 1
def uptoBulkAll {H : Type} : List (DataW H) → Nat
  | [] => 0
  | d :: r => uptoBulk d + uptoBulkAll r
def uptoBulkEntries {H : Type} : List (Lit × DataW H) → Nat
  | [] => 0
  | x :: r => uptoBulkEntry x + uptoBulkEntries r
def uptoBulkEntry {H : Type} : Lit × DataW H → Nat
  | (.string bytes, d) => bytes.length + uptoBulk d + 1
  | (_, d) => uptoBulk d + 1
 end
def uptoSmall : (H : Type) → List (DataW H) → Bool := fun _ ds => decide (uptoBulkAll ds ≤ 1048576)
def OpenSpec.upto (s : _root_.Go.ChangeSpec) : _root_.Go.OpenSpec := { _root_.Go.OpenSpec.ofChange s with cond := some uptoSmall }

/-- 'chaselaw02.AsciiHexes', WHERE WHAT IT READS IS OF BULK AT MOST 1048576: true; the input reads as it did. -/
def asciiHexesUptoRow : OpenClaim := { program := "ytllkcnfilignkaa", sum := "0c734da7d20bd9fbeec8381dd629f654a4e11c6ce4171ca7d8b6eaf016760918", func := "chase/chaselaw02.AsciiHexes", spec := "asciiHexes", unfollowed := true, recurses := true, apart := false, narrowed := true }
def AsciiHexesUptoSaid : Prop := asciiHexesUptoRow.holds Try.pinned (OpenSpec.upto asciiHexesSpec)

/-- 'chaselaw02.AsciiBases', WHERE WHAT IT READS IS OF BULK AT MOST 1048576: true; the input reads as it did. -/
def asciiBasesUptoRow : OpenClaim := { program := "ytllkcnfilignkaa", sum := "0c734da7d20bd9fbeec8381dd629f654a4e11c6ce4171ca7d8b6eaf016760918", func := "chase/chaselaw02.AsciiBases", spec := "asciiBases", unfollowed := true, recurses := true, apart := false, narrowed := true }
def AsciiBasesUptoSaid : Prop := asciiBasesUptoRow.holds Try.pinned (OpenSpec.upto asciiBasesSpec)

/-- 'chaselaw02.AsciiChanges', WHERE WHAT IT READS IS OF BULK AT MOST 1048576: true; the input reads as it did. -/
def asciiChangesUptoRow : OpenClaim := { program := "ytllkcnfilignkaa", sum := "0c734da7d20bd9fbeec8381dd629f654a4e11c6ce4171ca7d8b6eaf016760918", func := "chase/chaselaw02.AsciiChanges", spec := "asciiChanges", unfollowed := true, recurses := true, apart := false, narrowed := true }
def AsciiChangesUptoSaid : Prop := asciiChangesUptoRow.holds Try.pinned (OpenSpec.upto asciiChangesSpec)

/-- 'chaselaw02.AsciiBack', WHERE WHAT IT READS IS OF BULK AT MOST 1048576: true; the input reads as it did. -/
def asciiBackUptoRow : OpenClaim := { program := "ytllkcnfilignkaa", sum := "0c734da7d20bd9fbeec8381dd629f654a4e11c6ce4171ca7d8b6eaf016760918", func := "chase/chaselaw02.AsciiBack", spec := "asciiBack", unfollowed := true, recurses := true, apart := false, narrowed := true }
def AsciiBackUptoSaid : Prop := asciiBackUptoRow.holds Try.pinned (OpenSpec.upto asciiBackSpec)

/-- 'chaselaw02.AsciiJoins', WHERE WHAT IT READS IS OF BULK AT MOST 1048576: true; the input reads as it did. -/
def asciiJoinsUptoRow : OpenClaim := { program := "ytllkcnfilignkaa", sum := "0c734da7d20bd9fbeec8381dd629f654a4e11c6ce4171ca7d8b6eaf016760918", func := "chase/chaselaw02.AsciiJoins", spec := "asciiJoins", unfollowed := true, recurses := true, apart := false, narrowed := true }
def AsciiJoinsUptoSaid : Prop := asciiJoinsUptoRow.holds Try.pinned (OpenSpec.upto asciiJoinsSpec)

/-- 'chaselaw02.AsciiKnown', WHERE WHAT IT READS IS OF BULK AT MOST 1048576: true; the input reads as it did. -/
def asciiKnownUptoRow : OpenClaim := { program := "ytllkcnfilignkaa", sum := "0c734da7d20bd9fbeec8381dd629f654a4e11c6ce4171ca7d8b6eaf016760918", func := "chase/chaselaw02.AsciiKnown", spec := "asciiKnown", inPlace := ["internal/abi.NoEscape", "internal/bytealg.MakeNoZero"], unfollowed := true, recurses := true, apart := false, narrowed := true }
def AsciiKnownUptoSaid : Prop := asciiKnownUptoRow.holds Try.pinned (OpenSpec.upto asciiKnownSpec)

end Rows
end Go.Proofs.Ytllkcnfilignkaa
