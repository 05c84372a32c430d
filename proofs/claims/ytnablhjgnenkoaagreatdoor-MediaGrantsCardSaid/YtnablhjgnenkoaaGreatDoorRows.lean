/-
  NARROWER THAN 'FOR EVERY INPUT', by the rows' own cells (each row's printed sentence says how): FaultNames: laid · MediaChooses: laid · MediaGrants: laid.
  DERIVED. THE GIVEN ROWS OF THIS SEAT. 3 by the template 'for every input the law returns true; each argument reads behind the call as it read before'; 0 by the template 'total and deterministic' (their statements: YtnablhjgnenkoaaGreatDoorTotals.lean).
  GIVEN WITH THE SEED: the statements are not yours to turn. If you find one false, say at which input.
  Laid BY PROGRAM, IN A SANDBOX (cutbox-rows.mjs): the forced cells as the released guide's own fill.sh prints them over the translation 11f18c5541ada0de… (all of the seat's roots in one cut). By AI agents, Wed Nov 11 2026. No macro, syntax, notation, axiom, sorry.
-/
import Derived.Test.YtnablhjgnenkoaaGreatDoorChecked
import GoSem.Claim
import GoSem.ClaimJoined
import GoSem.ClaimMapViews
import Derived.JoinedTies
import Derived.KernelRfl
namespace Go.Proofs.YtnablhjgnenkoaaGreatDoor
/- THE CELL 'sum', in the pinned program and in every row, IS THE sha256 OF THE DUMP (.gsa) THAT YtnablhjgnenkoaaGreatDoorProg.lean LOADS. Nothing in Lean hashes anything: it is a label: what it is worth is what the hold of that sum in a sandbox is worth. -/
noncomputable def Tryz.pinned : Pinned := { name := "ytnablhjgnenkoaagreatdoor", sum := "11f18c5541ada0de15b0270179b6a9107404e4aa4389f03fc6340efbf4c91fef", checked := Tryz.checked }
namespace Rows
def none {H : Type} : Left H := { results := [], args := [] }

/- WHAT THE LISTED PACKAGE-LEVEL VARIABLES READ AS WHEN THE CALL BEGINS. Each datum BY PROGRAM (the guide's laid-datum.mjs) off the statement by which the dump's own 'gosem.cut.vars' lays the variable. In a bare row this is a premise. The card (YtnablhjgnenkoaaGreatDoorCards.lean) ties it to the program's text. -/
def laid_math_bits_deBruijn32tab {H : Type} : DataW H := .agg [.lit (.int .u8 0), .lit (.int .u8 1), .lit (.int .u8 28), .lit (.int .u8 2), .lit (.int .u8 29), .lit (.int .u8 14), .lit (.int .u8 24), .lit (.int .u8 3), .lit (.int .u8 30), .lit (.int .u8 22), .lit (.int .u8 20), .lit (.int .u8 15), .lit (.int .u8 25), .lit (.int .u8 17), .lit (.int .u8 4), .lit (.int .u8 8), .lit (.int .u8 31), .lit (.int .u8 27), .lit (.int .u8 13), .lit (.int .u8 23), .lit (.int .u8 21), .lit (.int .u8 19), .lit (.int .u8 16), .lit (.int .u8 7), .lit (.int .u8 26), .lit (.int .u8 12), .lit (.int .u8 18), .lit (.int .u8 6), .lit (.int .u8 11), .lit (.int .u8 5), .lit (.int .u8 10), .lit (.int .u8 9)]
def laid_math_bits_deBruijn64tab {H : Type} : DataW H := .agg [.lit (.int .u8 0), .lit (.int .u8 1), .lit (.int .u8 56), .lit (.int .u8 2), .lit (.int .u8 57), .lit (.int .u8 49), .lit (.int .u8 28), .lit (.int .u8 3), .lit (.int .u8 61), .lit (.int .u8 58), .lit (.int .u8 42), .lit (.int .u8 50), .lit (.int .u8 38), .lit (.int .u8 29), .lit (.int .u8 17), .lit (.int .u8 4), .lit (.int .u8 62), .lit (.int .u8 47), .lit (.int .u8 59), .lit (.int .u8 36), .lit (.int .u8 45), .lit (.int .u8 43), .lit (.int .u8 51), .lit (.int .u8 22), .lit (.int .u8 53), .lit (.int .u8 39), .lit (.int .u8 33), .lit (.int .u8 30), .lit (.int .u8 24), .lit (.int .u8 18), .lit (.int .u8 12), .lit (.int .u8 5), .lit (.int .u8 63), .lit (.int .u8 55), .lit (.int .u8 48), .lit (.int .u8 27), .lit (.int .u8 60), .lit (.int .u8 41), .lit (.int .u8 37), .lit (.int .u8 16), .lit (.int .u8 46), .lit (.int .u8 35), .lit (.int .u8 44), .lit (.int .u8 21), .lit (.int .u8 52), .lit (.int .u8 32), .lit (.int .u8 23), .lit (.int .u8 11), .lit (.int .u8 54), .lit (.int .u8 26), .lit (.int .u8 40), .lit (.int .u8 15), .lit (.int .u8 34), .lit (.int .u8 20), .lit (.int .u8 31), .lit (.int .u8 10), .lit (.int .u8 25), .lit (.int .u8 14), .lit (.int .u8 19), .lit (.int .u8 9), .lit (.int .u8 13), .lit (.int .u8 8), .lit (.int .u8 7), .lit (.int .u8 6)]
def laid_internal_strconv_uint64pow10 {H : Type} : DataW H := .agg [.lit (.int .u64 1), .lit (.int .u64 10), .lit (.int .u64 100), .lit (.int .u64 1000), .lit (.int .u64 10000), .lit (.int .u64 100000), .lit (.int .u64 1000000), .lit (.int .u64 10000000), .lit (.int .u64 100000000), .lit (.int .u64 1000000000), .lit (.int .u64 10000000000), .lit (.int .u64 100000000000), .lit (.int .u64 1000000000000), .lit (.int .u64 10000000000000), .lit (.int .u64 100000000000000), .lit (.int .u64 1000000000000000), .lit (.int .u64 10000000000000000), .lit (.int .u64 100000000000000000), .lit (.int .u64 1000000000000000000), .lit (.int .u64 10000000000000000000)]
def laid_chase_object_kinds {H : Type} : DataW H := .agg [.agg [.lit (.string [110, 117, 108, 108, 116, 121, 112, 101]), .agg [.lit (.int .i64 0), .lit (.int .i64 0)], .agg [.lit (.int .i64 0), .lit (.int .i64 0)], .agg [.lit (.int .i64 0), .lit (.int .i64 0)], .lit (.int .i64 0)], .agg [.lit (.string [109, 97, 114, 107, 116, 121, 112, 101]), .agg [.lit (.int .i64 0), .lit (.int .i64 0)], .agg [.lit (.int .i64 0), .lit (.int .i64 0)], .agg [.lit (.int .i64 0), .lit (.int .i64 0)], .lit (.int .i64 0)], .agg [.lit (.string [98, 111, 111, 108, 101, 97, 110, 116, 121, 112, 101]), .agg [.lit (.int .i64 0), .lit (.int .i64 1)], .agg [.lit (.int .i64 0), .lit (.int .i64 0)], .agg [.lit (.int .i64 0), .lit (.int .i64 0)], .lit (.int .i64 0)], .agg [.lit (.string [105, 110, 116, 101, 103, 101, 114, 116, 121, 112, 101]), .agg [.lit (.int .i64 (-2147483648)), .lit (.int .i64 2147483647)], .agg [.lit (.int .i64 0), .lit (.int .i64 0)], .agg [.lit (.int .i64 0), .lit (.int .i64 0)], .lit (.int .i64 0)], .agg [.lit (.string [114, 101, 97, 108, 116, 121, 112, 101]), .agg [.lit (.int .i64 (-2147483648)), .lit (.int .i64 2147483648)], .agg [.lit (.int .i64 0), .lit (.int .i64 0)], .agg [.lit (.int .i64 0), .lit (.int .i64 0)], .lit (.int .i64 0)], .agg [.lit (.string [110, 97, 109, 101, 116, 121, 112, 101]), .agg [.lit (.int .i64 0), .lit (.int .i64 0)], .agg [.lit (.int .i64 0), .lit (.int .i64 100)], .agg [.lit (.int .i64 0), .lit (.int .i64 0)], .lit (.int .i64 0)], .agg [.lit (.string [115, 116, 114, 105, 110, 103, 116, 121, 112, 101]), .agg [.lit (.int .i64 0), .lit (.int .i64 0)], .agg [.lit (.int .i64 0), .lit (.int .i64 0)], .agg [.lit (.int .i64 0), .lit (.int .i64 20000)], .lit (.int .i64 1000)], .agg [.lit (.string [97, 114, 114, 97, 121, 116, 121, 112, 101]), .agg [.lit (.int .i64 0), .lit (.int .i64 0)], .agg [.lit (.int .i64 0), .lit (.int .i64 0)], .agg [.lit (.int .i64 0), .lit (.int .i64 20000)], .lit (.int .i64 1000)], .agg [.lit (.string [112, 97, 99, 107, 101, 100, 97, 114, 114, 97, 121, 116, 121, 112, 101]), .agg [.lit (.int .i64 0), .lit (.int .i64 0)], .agg [.lit (.int .i64 0), .lit (.int .i64 0)], .agg [.lit (.int .i64 0), .lit (.int .i64 20000)], .lit (.int .i64 1000)], .agg [.lit (.string [100, 105, 99, 116, 116, 121, 112, 101]), .agg [.lit (.int .i64 0), .lit (.int .i64 0)], .agg [.lit (.int .i64 0), .lit (.int .i64 0)], .agg [.lit (.int .i64 0), .lit (.int .i64 20000)], .lit (.int .i64 0)], .agg [.lit (.string [111, 112, 101, 114, 97, 116, 111, 114, 116, 121, 112, 101]), .agg [.lit (.int .i64 0), .lit (.int .i64 0)], .agg [.lit (.int .i64 1), .lit (.int .i64 100)], .agg [.lit (.int .i64 0), .lit (.int .i64 0)], .lit (.int .i64 0)], .agg [.lit (.string [102, 105, 108, 101, 116, 121, 112, 101]), .agg [.lit (.int .i64 0), .lit (.int .i64 0)], .agg [.lit (.int .i64 0), .lit (.int .i64 0)], .agg [.lit (.int .i64 0), .lit (.int .i64 20000)], .lit (.int .i64 0)], .agg [.lit (.string [115, 97, 118, 101, 116, 121, 112, 101]), .agg [.lit (.int .i64 1), .lit (.int .i64 9223372036854775807)], .agg [.lit (.int .i64 0), .lit (.int .i64 0)], .agg [.lit (.int .i64 0), .lit (.int .i64 0)], .lit (.int .i64 0)]]
def laid_chase_fault_names {H : Type} : DataW H := .agg [.lit (.string [115, 116, 97, 99, 107, 117, 110, 100, 101, 114, 102, 108, 111, 119]), .lit (.string [115, 116, 97, 99, 107, 111, 118, 101, 114, 102, 108, 111, 119]), .lit (.string [116, 121, 112, 101, 99, 104, 101, 99, 107]), .lit (.string [114, 97, 110, 103, 101, 99, 104, 101, 99, 107]), .lit (.string [117, 110, 100, 101, 102, 105, 110, 101, 100]), .lit (.string [117, 110, 100, 101, 102, 105, 110, 101, 100, 114, 101, 115, 117, 108, 116]), .lit (.string [108, 105, 109, 105, 116, 99, 104, 101, 99, 107]), .lit (.string [86, 77, 101, 114, 114, 111, 114]), .lit (.string [100, 105, 99, 116, 115, 116, 97, 99, 107, 117, 110, 100, 101, 114, 102, 108, 111, 119]), .lit (.string [100, 105, 99, 116, 115, 116, 97, 99, 107, 111, 118, 101, 114, 102, 108, 111, 119]), .lit (.string [100, 105, 99, 116, 102, 117, 108, 108]), .lit (.string [105, 110, 118, 97, 108, 105, 100, 97, 99, 99, 101, 115, 115]), .lit (.string [117, 110, 109, 97, 116, 99, 104, 101, 100, 109, 97, 114, 107]), .lit (.string [105, 110, 118, 97, 108, 105, 100, 101, 120, 105, 116]), .lit (.string [105, 110, 118, 97, 108, 105, 100, 114, 101, 115, 116, 111, 114, 101]), .lit (.string [101, 120, 101, 99, 115, 116, 97, 99, 107, 111, 118, 101, 114, 102, 108, 111, 119]), .lit (.string [105, 111, 101, 114, 114, 111, 114]), .lit (.string [115, 121, 110, 116, 97, 120, 101, 114, 114, 111, 114]), .lit (.string [110, 111, 99, 117, 114, 114, 101, 110, 116, 112, 111, 105, 110, 116]), .lit (.string [105, 110, 118, 97, 108, 105, 100, 102, 111, 110, 116]), .lit (.string [117, 110, 100, 101, 102, 105, 110, 101, 100, 114, 101, 115, 111, 117, 114, 99, 101]), .lit (.string [99, 111, 110, 102, 105, 103, 117, 114, 97, 116, 105, 111, 110, 101, 114, 114, 111, 114]), .lit (.string [116, 105, 109, 101, 111, 117, 116])]
def laid_chase_chaseref11_Words {H : Type} : DataW H := .agg [.lit (.string [97]), .lit (.string [98]), .lit (.string [97, 100, 100]), .lit (.string [120]), .lit (.string [102, 111, 111]), .lit (.string []), .lit (.string [112, 111, 112]), .lit (.string [70, 111, 110, 116])]

/-- 'chaselaw40.FaultNames': WHATEVER THE INPUT: true; the input reads as it did. -/
def faultNamesSpec : ChangeSpec := { name := "faultNames", fn := fun _ => fun
  | [d1, d2, d3] => { results := [.lit (.bool true)], args := [d1, d2, d3] }
  | _ => none }
def faultNamesRow : OpenClaim := { program := "ytnablhjgnenkoaagreatdoor", sum := "11f18c5541ada0de15b0270179b6a9107404e4aa4389f03fc6340efbf4c91fef", func := "chase/chaselaw40.FaultNames", spec := "faultNames", unfollowed := true, recurses := true, named := ["chase/object.kinds", "chase/fault.names", "internal/strconv.uint64pow10", "math/bits.deBruijn32tab", "math/bits.deBruijn64tab"], plainKeys := false, apart := false, laid := [("math/bits.deBruijn32tab", laid_math_bits_deBruijn32tab), ("math/bits.deBruijn64tab", laid_math_bits_deBruijn64tab), ("internal/strconv.uint64pow10", laid_internal_strconv_uint64pow10), ("chase/object.kinds", laid_chase_object_kinds), ("chase/fault.names", laid_chase_fault_names)] }
def FaultNamesSaid : Prop := faultNamesRow.holds Tryz.pinned (OpenSpec.ofChange faultNamesSpec)

/-- ITS FALSE NEIGHBOUR: 'it returns false'. Refute it at one input. -/
def faultNamesWrong : ChangeSpec := { name := "faultNames", fn := fun _ => fun
  | [d1, d2, d3] => { results := [.lit (.bool false)], args := [d1, d2, d3] }
  | _ => none }
def FaultNamesWrongFalsely : Prop := faultNamesRow.holds Tryz.pinned (OpenSpec.ofChange faultNamesWrong)

/-- 'chaselaw39.MediaChooses': WHATEVER THE INPUT: true; the input reads as it did. -/
def mediaChoosesSpec : ChangeSpec := { name := "mediaChooses", fn := fun _ => fun
  | [d1, d2, d3] => { results := [.lit (.bool true)], args := [d1, d2, d3] }
  | _ => none }
def mediaChoosesRow : OpenClaim := { program := "ytnablhjgnenkoaagreatdoor", sum := "11f18c5541ada0de15b0270179b6a9107404e4aa4389f03fc6340efbf4c91fef", func := "chase/chaselaw39.MediaChooses", spec := "mediaChooses", unfollowed := true, recurses := true, named := ["chase/chaseref11.Words", "chase/object.kinds"], plainKeys := false, apart := false, laid := [("chase/chaseref11.Words", laid_chase_chaseref11_Words), ("chase/object.kinds", laid_chase_object_kinds)] }
def MediaChoosesSaid : Prop := mediaChoosesRow.holds Tryz.pinned (OpenSpec.ofChange mediaChoosesSpec)

/-- ITS FALSE NEIGHBOUR: 'it returns false'. Refute it at one input. -/
def mediaChoosesWrong : ChangeSpec := { name := "mediaChooses", fn := fun _ => fun
  | [d1, d2, d3] => { results := [.lit (.bool false)], args := [d1, d2, d3] }
  | _ => none }
def MediaChoosesWrongFalsely : Prop := mediaChoosesRow.holds Tryz.pinned (OpenSpec.ofChange mediaChoosesWrong)

/-- 'chaselaw39.MediaGrants': WHATEVER THE INPUT: true; the input reads as it did. -/
def mediaGrantsSpec : ChangeSpec := { name := "mediaGrants", fn := fun _ => fun
  | [d1, d2] => { results := [.lit (.bool true)], args := [d1, d2] }
  | _ => none }
def mediaGrantsRow : OpenClaim := { program := "ytnablhjgnenkoaagreatdoor", sum := "11f18c5541ada0de15b0270179b6a9107404e4aa4389f03fc6340efbf4c91fef", func := "chase/chaselaw39.MediaGrants", spec := "mediaGrants", unfollowed := true, recurses := true, named := ["chase/chaseref11.Words", "chase/object.kinds"], plainKeys := false, apart := false, laid := [("chase/chaseref11.Words", laid_chase_chaseref11_Words), ("chase/object.kinds", laid_chase_object_kinds)] }
def MediaGrantsSaid : Prop := mediaGrantsRow.holds Tryz.pinned (OpenSpec.ofChange mediaGrantsSpec)

/-- ITS FALSE NEIGHBOUR: 'it returns false'. Refute it at one input. -/
def mediaGrantsWrong : ChangeSpec := { name := "mediaGrants", fn := fun _ => fun
  | [d1, d2] => { results := [.lit (.bool false)], args := [d1, d2] }
  | _ => none }
def MediaGrantsWrongFalsely : Prop := mediaGrantsRow.holds Tryz.pinned (OpenSpec.ofChange mediaGrantsWrong)

/- THE SECOND FORM. 'bulk': how many values and letters a reading holds, each counted each time it is reached (what is shared counts as often as it is met; a slice's spare places count too). A statement '..UptoSaid' is the law's where the arguments, and the package variables that the reading takes, are together of bulk at most 1048576: NARROWER than '..Said'. Prove '..Said' where nothing that the law and all that it calls make is longer than what came in: it says more and counts as full. Else prove '..UptoSaid'. A law counts once. -/
mutual
def uptoBulk {H : Type} : DataW H → Nat
  | .lit (.string bytes) => bytes.length + 1
  | .lit _ => 1
  | .nil => 1
  | .ptr d => uptoBulk d + 1
  | .slice elems spare => uptoBulkAll elems + uptoBulkAll spare + 1
  | .agg parts => uptoBulkAll parts + 1
  | .iface _ d => uptoBulk d + 1
  | .map entries => uptoBulkEntries entries + 1
  | .held _ => 1
def uptoBulkAll {H : Type} : List (DataW H) → Nat
  | [] => 0
  | d :: r => uptoBulk d + uptoBulkAll r
def uptoBulkEntries {H : Type} : List (Lit × DataW H) → Nat
  | [] => 0
  | x :: r => uptoBulkEntry x + uptoBulkEntries r
def uptoBulkEntry {H : Type} : Lit × DataW H → Nat
  | (.string bytes, d) => bytes.length + uptoBulk d + 1
  | (_, d) => uptoBulk d + 1
 end
def uptoSmall : (H : Type) → List (DataW H) → Bool := fun _ ds => decide (uptoBulkAll ds ≤ 1048576)
def OpenSpec.upto (s : _root_.Go.ChangeSpec) : _root_.Go.OpenSpec := { _root_.Go.OpenSpec.ofChange s with cond := some uptoSmall }

/-- 'chaselaw40.FaultNames', WHERE WHAT IT READS IS OF BULK AT MOST 1048576: true; the input reads as it did. -/
def faultNamesUptoRow : OpenClaim := { program := "ytnablhjgnenkoaagreatdoor", sum := "11f18c5541ada0de15b0270179b6a9107404e4aa4389f03fc6340efbf4c91fef", func := "chase/chaselaw40.FaultNames", spec := "faultNames", unfollowed := true, recurses := true, named := ["chase/object.kinds", "chase/fault.names", "internal/strconv.uint64pow10", "math/bits.deBruijn32tab", "math/bits.deBruijn64tab"], plainKeys := false, apart := false, laid := [("math/bits.deBruijn32tab", laid_math_bits_deBruijn32tab), ("math/bits.deBruijn64tab", laid_math_bits_deBruijn64tab), ("internal/strconv.uint64pow10", laid_internal_strconv_uint64pow10), ("chase/object.kinds", laid_chase_object_kinds), ("chase/fault.names", laid_chase_fault_names)], narrowed := true }
def FaultNamesUptoSaid : Prop := faultNamesUptoRow.holds Tryz.pinned (OpenSpec.upto faultNamesSpec)

/-- 'chaselaw39.MediaChooses', WHERE WHAT IT READS IS OF BULK AT MOST 1048576: true; the input reads as it did. -/
def mediaChoosesUptoRow : OpenClaim := { program := "ytnablhjgnenkoaagreatdoor", sum := "11f18c5541ada0de15b0270179b6a9107404e4aa4389f03fc6340efbf4c91fef", func := "chase/chaselaw39.MediaChooses", spec := "mediaChooses", unfollowed := true, recurses := true, named := ["chase/chaseref11.Words", "chase/object.kinds"], plainKeys := false, apart := false, laid := [("chase/chaseref11.Words", laid_chase_chaseref11_Words), ("chase/object.kinds", laid_chase_object_kinds)], narrowed := true }
def MediaChoosesUptoSaid : Prop := mediaChoosesUptoRow.holds Tryz.pinned (OpenSpec.upto mediaChoosesSpec)

/-- 'chaselaw39.MediaGrants', WHERE WHAT IT READS IS OF BULK AT MOST 1048576: true; the input reads as it did. -/
def mediaGrantsUptoRow : OpenClaim := { program := "ytnablhjgnenkoaagreatdoor", sum := "11f18c5541ada0de15b0270179b6a9107404e4aa4389f03fc6340efbf4c91fef", func := "chase/chaselaw39.MediaGrants", spec := "mediaGrants", unfollowed := true, recurses := true, named := ["chase/chaseref11.Words", "chase/object.kinds"], plainKeys := false, apart := false, laid := [("chase/chaseref11.Words", laid_chase_chaseref11_Words), ("chase/object.kinds", laid_chase_object_kinds)], narrowed := true }
def MediaGrantsUptoSaid : Prop := mediaGrantsUptoRow.holds Tryz.pinned (OpenSpec.upto mediaGrantsSpec)

end Rows
end Go.Proofs.YtnablhjgnenkoaaGreatDoor
