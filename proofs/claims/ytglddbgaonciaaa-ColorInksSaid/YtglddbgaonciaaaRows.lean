/-
  No cell of these rows narrows 'for every input' (looked for: loops, veiled, ifaces, maps, wideKeys, modest, calm, conditions, laid).
  DERIVED. THE GIVEN ROWS OF THIS SEAT. 5 by the template 'for every input the law returns true; each argument reads behind the call as it read before'; 0 by the template 'total and deterministic' (their statements: YtglddbgaonciaaaTotals.lean).
  GIVEN WITH THE SEED: the statements are not yours to turn. If you find one false, say at which input.
  Laid BY PROGRAM, IN A SANDBOX (cutbox-rows.mjs): the forced cells as the released guide's own fill.sh prints them over the translation 21d137f7eb4195af… (all of the seat's roots in one cut). By AI agents, Wed Nov 11 2026. No macro, syntax, notation, axiom, sorry.
-/
import Derived.Test.YtglddbgaonciaaaChecked
import GoSem.Claim
import GoSem.ClaimJoined
import GoSem.ClaimMapViews
import Derived.JoinedTies
import Derived.KernelRfl
namespace Go.Proofs.Ytglddbgaonciaaa
/- THE CELL 'sum', in the pinned program and in every row, IS THE sha256 OF THE DUMP (.gsa) THAT YtglddbgaonciaaaProg.lean LOADS. Nothing in Lean hashes anything: it is a label: what it is worth is what the hold of that sum in a sandbox is worth. -/
noncomputable def Try.pinned : Pinned := { name := "ytglddbgaonciaaa", sum := "21d137f7eb4195afc927d87959a5eff74ea2111289d4a6d8988f4caecce9a71b", checked := Try.checked }
namespace Rows
def none {H : Type} : Left H := { results := [], args := [] }

/-- 'chaselaw26.ColorReals': WHATEVER THE INPUT: true; the input reads as it did. -/
def colorRealsSpec : ChangeSpec := { name := "colorReals", fn := fun _ => fun
  | [d] => { results := [.lit (.bool true)], args := [d] }
  | _ => none }
def colorRealsRow : OpenClaim := { program := "ytglddbgaonciaaa", sum := "21d137f7eb4195afc927d87959a5eff74ea2111289d4a6d8988f4caecce9a71b", func := "chase/chaselaw26.ColorReals", spec := "colorReals", unfollowed := true, recurses := true, apart := false }
def ColorRealsSaid : Prop := colorRealsRow.holds Try.pinned (OpenSpec.ofChange colorRealsSpec)

/-- ITS FALSE NEIGHBOUR: 'it returns false'. Refute it at one input. -/
def colorRealsWrong : ChangeSpec := { name := "colorReals", fn := fun _ => fun
  | [d] => { results := [.lit (.bool false)], args := [d] }
  | _ => none }
def ColorRealsWrongFalsely : Prop := colorRealsRow.holds Try.pinned (OpenSpec.ofChange colorRealsWrong)

/-- 'chaselaw26.ColorStrings': WHATEVER THE INPUT: true; the input reads as it did. -/
def colorStringsSpec : ChangeSpec := { name := "colorStrings", fn := fun _ => fun
  | [d1, d2, d3, d4, d5] => { results := [.lit (.bool true)], args := [d1, d2, d3, d4, d5] }
  | _ => none }
def colorStringsRow : OpenClaim := { program := "ytglddbgaonciaaa", sum := "21d137f7eb4195afc927d87959a5eff74ea2111289d4a6d8988f4caecce9a71b", func := "chase/chaselaw26.ColorStrings", spec := "colorStrings", unfollowed := true, recurses := true, apart := false }
def ColorStringsSaid : Prop := colorStringsRow.holds Try.pinned (OpenSpec.ofChange colorStringsSpec)

/-- ITS FALSE NEIGHBOUR: 'it returns false'. Refute it at one input. -/
def colorStringsWrong : ChangeSpec := { name := "colorStrings", fn := fun _ => fun
  | [d1, d2, d3, d4, d5] => { results := [.lit (.bool false)], args := [d1, d2, d3, d4, d5] }
  | _ => none }
def ColorStringsWrongFalsely : Prop := colorStringsRow.holds Try.pinned (OpenSpec.ofChange colorStringsWrong)

/-- 'chaselaw26.ColorInks': WHATEVER THE INPUT: true; the input reads as it did. -/
def colorInksSpec : ChangeSpec := { name := "colorInks", fn := fun _ => fun
  | [d1, d2, d3, d4, d5] => { results := [.lit (.bool true)], args := [d1, d2, d3, d4, d5] }
  | _ => none }
def colorInksRow : OpenClaim := { program := "ytglddbgaonciaaa", sum := "21d137f7eb4195afc927d87959a5eff74ea2111289d4a6d8988f4caecce9a71b", func := "chase/chaselaw26.ColorInks", spec := "colorInks", unfollowed := true, recurses := true, apart := false }
def ColorInksSaid : Prop := colorInksRow.holds Try.pinned (OpenSpec.ofChange colorInksSpec)

/-- ITS FALSE NEIGHBOUR: 'it returns false'. Refute it at one input. -/
def colorInksWrong : ChangeSpec := { name := "colorInks", fn := fun _ => fun
  | [d1, d2, d3, d4, d5] => { results := [.lit (.bool false)], args := [d1, d2, d3, d4, d5] }
  | _ => none }
def ColorInksWrongFalsely : Prop := colorInksRow.holds Try.pinned (OpenSpec.ofChange colorInksWrong)

/-- 'chaselaw26.ColorBack': WHATEVER THE INPUT: true; the input reads as it did. -/
def colorBackSpec : ChangeSpec := { name := "colorBack", fn := fun _ => fun
  | [d] => { results := [.lit (.bool true)], args := [d] }
  | _ => none }
def colorBackRow : OpenClaim := { program := "ytglddbgaonciaaa", sum := "21d137f7eb4195afc927d87959a5eff74ea2111289d4a6d8988f4caecce9a71b", func := "chase/chaselaw26.ColorBack", spec := "colorBack", unfollowed := true, recurses := true, apart := false }
def ColorBackSaid : Prop := colorBackRow.holds Try.pinned (OpenSpec.ofChange colorBackSpec)

/-- ITS FALSE NEIGHBOUR: 'it returns false'. Refute it at one input. -/
def colorBackWrong : ChangeSpec := { name := "colorBack", fn := fun _ => fun
  | [d] => { results := [.lit (.bool false)], args := [d] }
  | _ => none }
def ColorBackWrongFalsely : Prop := colorBackRow.holds Try.pinned (OpenSpec.ofChange colorBackWrong)

/-- 'chaselaw26.ColorMixes': WHATEVER THE INPUT: true; the input reads as it did. -/
def colorMixesSpec : ChangeSpec := { name := "colorMixes", fn := fun _ => fun
  | [d1, d2, d3, d4, d5] => { results := [.lit (.bool true)], args := [d1, d2, d3, d4, d5] }
  | _ => none }
def colorMixesRow : OpenClaim := { program := "ytglddbgaonciaaa", sum := "21d137f7eb4195afc927d87959a5eff74ea2111289d4a6d8988f4caecce9a71b", func := "chase/chaselaw26.ColorMixes", spec := "colorMixes", unfollowed := true, recurses := true, apart := false }
def ColorMixesSaid : Prop := colorMixesRow.holds Try.pinned (OpenSpec.ofChange colorMixesSpec)

/-- ITS FALSE NEIGHBOUR: 'it returns false'. Refute it at one input. -/
def colorMixesWrong : ChangeSpec := { name := "colorMixes", fn := fun _ => fun
  | [d1, d2, d3, d4, d5] => { results := [.lit (.bool false)], args := [d1, d2, d3, d4, d5] }
  | _ => none }
def ColorMixesWrongFalsely : Prop := colorMixesRow.holds Try.pinned (OpenSpec.ofChange colorMixesWrong)

/- THE SECOND FORM. 'bulk': how many values and letters a reading holds, each counted each time it is reached (what is shared counts as often as it is met; a slice's spare places count too). A statement '..UptoSaid' is the law's where the arguments, and the package variables that the reading takes, are together of bulk at most 1048576: NARROWER than '..Said'. Prove '..Said' where nothing that the law and all that it calls make is longer than what came in: it says more and counts as full. Else prove '..UptoSaid'. A law counts once. -/
mutual
def uptoBulk {H : Type} : DataW H → Nat
  | .lit (.string bytes) => bytes.length + 1
  | .lit _ => 1
  | .nil => 1
  | .ptr d => uptoBulk d + 1
  | .slice elems spare => uptoBulkAll elems + uptoBulkAll spare + 1
  | .agg parts => uptoBulkAll parts + 1
  | .iface _ d => uptoBulk d + 1
  | .map entries => uptoBulkEntries entries + 1
  | .held _ => 1
def uptoBulkAll {H : Type} : List (DataW H) → Nat
  | [] => 0
  | d :: r => uptoBulk d + uptoBulkAll r
def uptoBulkEntries {H : Type} : List (Lit × DataW H) → Nat
  | [] => 0
  | x :: r => uptoBulkEntry x + uptoBulkEntries r
def uptoBulkEntry {H : Type} : Lit × DataW H → Nat
  | (.string bytes, d) => bytes.length + uptoBulk d + 1
  | (_, d) => uptoBulk d + 1
 end
def uptoSmall : (H : Type) → List (DataW H) → Bool := fun _ ds => decide (uptoBulkAll ds ≤ 1048576)
def OpenSpec.upto (s : _root_.Go.ChangeSpec) : _root_.Go.OpenSpec := { _root_.Go.OpenSpec.ofChange s with cond := some uptoSmall }

/-- 'chaselaw26.ColorReals', WHERE WHAT IT READS IS OF BULK AT MOST 1048576: true; the input reads as it did. -/
def colorRealsUptoRow : OpenClaim := { program := "ytglddbgaonciaaa", sum := "21d137f7eb4195afc927d87959a5eff74ea2111289d4a6d8988f4caecce9a71b", func := "chase/chaselaw26.ColorReals", spec := "colorReals", unfollowed := true, recurses := true, apart := false, narrowed := true }
def ColorRealsUptoSaid : Prop := colorRealsUptoRow.holds Try.pinned (OpenSpec.upto colorRealsSpec)

/-- 'chaselaw26.ColorStrings', WHERE WHAT IT READS IS OF BULK AT MOST 1048576: true; the input reads as it did. -/
def colorStringsUptoRow : OpenClaim := { program := "ytglddbgaonciaaa", sum := "21d137f7eb4195afc927d87959a5eff74ea2111289d4a6d8988f4caecce9a71b", func := "chase/chaselaw26.ColorStrings", spec := "colorStrings", unfollowed := true, recurses := true, apart := false, narrowed := true }
def ColorStringsUptoSaid : Prop := colorStringsUptoRow.holds Try.pinned (OpenSpec.upto colorStringsSpec)

/-- 'chaselaw26.ColorInks', WHERE WHAT IT READS IS OF BULK AT MOST 1048576: true; the input reads as it did. -/
def colorInksUptoRow : OpenClaim := { program := "ytglddbgaonciaaa", sum := "21d137f7eb4195afc927d87959a5eff74ea2111289d4a6d8988f4caecce9a71b", func := "chase/chaselaw26.ColorInks", spec := "colorInks", unfollowed := true, recurses := true, apart := false, narrowed := true }
def ColorInksUptoSaid : Prop := colorInksUptoRow.holds Try.pinned (OpenSpec.upto colorInksSpec)

/-- 'chaselaw26.ColorBack', WHERE WHAT IT READS IS OF BULK AT MOST 1048576: true; the input reads as it did. -/
def colorBackUptoRow : OpenClaim := { program := "ytglddbgaonciaaa", sum := "21d137f7eb4195afc927d87959a5eff74ea2111289d4a6d8988f4caecce9a71b", func := "chase/chaselaw26.ColorBack", spec := "colorBack", unfollowed := true, recurses := true, apart := false, narrowed := true }
def ColorBackUptoSaid : Prop := colorBackUptoRow.holds Try.pinned (OpenSpec.upto colorBackSpec)

/-- 'chaselaw26.ColorMixes', WHERE WHAT IT READS IS OF BULK AT MOST 1048576: true; the input reads as it did. -/
def colorMixesUptoRow : OpenClaim := { program := "ytglddbgaonciaaa", sum := "21d137f7eb4195afc927d87959a5eff74ea2111289d4a6d8988f4caecce9a71b", func := "chase/chaselaw26.ColorMixes", spec := "colorMixes", unfollowed := true, recurses := true, apart := false, narrowed := true }
def ColorMixesUptoSaid : Prop := colorMixesUptoRow.holds Try.pinned (OpenSpec.upto colorMixesSpec)

end Rows
end Go.Proofs.Ytglddbgaonciaaa
