/-
  No cell of these rows narrows 'for every input' (looked for: loops, veiled, ifaces, maps, wideKeys, modest, calm, conditions, laid).
  DERIVED. THE GIVEN ROWS OF THIS SEAT. 5 by the template 'for every input the law returns true; each argument reads behind the call as it read before'; 0 by the template 'total and deterministic' (their statements: YtgngcjomeolpeaaTotals.lean).
  GIVEN WITH THE SEED: the statements are not yours to turn. If you find one false, say at which input.
  Laid BY PROGRAM, IN A SANDBOX (cutbox-rows.mjs): the forced cells as the released guide's own fill.sh prints them over the translation 6ef0b8d719564d49… (all of the seat's roots in one cut). By AI agents, Wed Nov 11 2026. No macro, syntax, notation, axiom, sorry.
-/
import Derived.Test.YtgngcjomeolpeaaChecked
import GoSem.Claim
import GoSem.ClaimJoined
import GoSem.ClaimMapViews
import Derived.JoinedTies
import Derived.KernelRfl
namespace Go.Proofs.Ytgngcjomeolpeaa
/- THE CELL 'sum', in the pinned program and in every row, IS THE sha256 OF THE DUMP (.gsa) THAT YtgngcjomeolpeaaProg.lean LOADS. Nothing in Lean hashes anything: it is a label: what it is worth is what the hold of that sum in a sandbox is worth. -/
noncomputable def Try.pinned : Pinned := { name := "ytgngcjomeolpeaa", sum := "6ef0b8d719564d497b3a1c1a8e78af381a0d18c7e116b3678b436f5d47456377", checked := Try.checked }
namespace Rows
def none {H : Type} : Left H := { results := [], args := [] }

/-- 'chaselaw33.OutlineNumbers': WHATEVER THE INPUT: true; the input reads as it did. -/
def outlineNumbersSpec : ChangeSpec := { name := "outlineNumbers", fn := fun _ => fun
  | [d1, d2] => { results := [.lit (.bool true)], args := [d1, d2] }
  | _ => none }
def outlineNumbersRow : OpenClaim := { program := "ytgngcjomeolpeaa", sum := "6ef0b8d719564d497b3a1c1a8e78af381a0d18c7e116b3678b436f5d47456377", func := "chase/chaselaw33.OutlineNumbers", spec := "outlineNumbers", unfollowed := true, recurses := true, apart := false }
def OutlineNumbersSaid : Prop := outlineNumbersRow.holds Try.pinned (OpenSpec.ofChange outlineNumbersSpec)

/-- ITS FALSE NEIGHBOUR: 'it returns false'. Refute it at one input. -/
def outlineNumbersWrong : ChangeSpec := { name := "outlineNumbers", fn := fun _ => fun
  | [d1, d2] => { results := [.lit (.bool false)], args := [d1, d2] }
  | _ => none }
def OutlineNumbersWrongFalsely : Prop := outlineNumbersRow.holds Try.pinned (OpenSpec.ofChange outlineNumbersWrong)

/-- 'chaselaw33.OutlineShorts': WHATEVER THE INPUT: true; the input reads as it did. -/
def outlineShortsSpec : ChangeSpec := { name := "outlineShorts", fn := fun _ => fun
  | [d1, d2] => { results := [.lit (.bool true)], args := [d1, d2] }
  | _ => none }
def outlineShortsRow : OpenClaim := { program := "ytgngcjomeolpeaa", sum := "6ef0b8d719564d497b3a1c1a8e78af381a0d18c7e116b3678b436f5d47456377", func := "chase/chaselaw33.OutlineShorts", spec := "outlineShorts", inPlace := ["internal/abi.NoEscape"], unfollowed := true, recurses := true, apart := false }
def OutlineShortsSaid : Prop := outlineShortsRow.holds Try.pinned (OpenSpec.ofChange outlineShortsSpec)

/-- ITS FALSE NEIGHBOUR: 'it returns false'. Refute it at one input. -/
def outlineShortsWrong : ChangeSpec := { name := "outlineShorts", fn := fun _ => fun
  | [d1, d2] => { results := [.lit (.bool false)], args := [d1, d2] }
  | _ => none }
def OutlineShortsWrongFalsely : Prop := outlineShortsRow.holds Try.pinned (OpenSpec.ofChange outlineShortsWrong)

/-- 'chaselaw03.LexNumbers': WHATEVER THE INPUT: true; the input reads as it did. -/
def lexNumbersSpec : ChangeSpec := { name := "lexNumbers", fn := fun _ => fun
  | [d1, d2, d3] => { results := [.lit (.bool true)], args := [d1, d2, d3] }
  | _ => none }
def lexNumbersRow : OpenClaim := { program := "ytgngcjomeolpeaa", sum := "6ef0b8d719564d497b3a1c1a8e78af381a0d18c7e116b3678b436f5d47456377", func := "chase/chaselaw03.LexNumbers", spec := "lexNumbers", inPlace := ["internal/bytealg.IndexByteString", "internal/bytealg.IndexString"], unfollowed := true, recurses := true, named := ["internal/bytealg.MaxLen"], apart := false }
def LexNumbersSaid : Prop := lexNumbersRow.holds Try.pinned (OpenSpec.ofChange lexNumbersSpec)

/-- ITS FALSE NEIGHBOUR: 'it returns false'. Refute it at one input. -/
def lexNumbersWrong : ChangeSpec := { name := "lexNumbers", fn := fun _ => fun
  | [d1, d2, d3] => { results := [.lit (.bool false)], args := [d1, d2, d3] }
  | _ => none }
def LexNumbersWrongFalsely : Prop := lexNumbersRow.holds Try.pinned (OpenSpec.ofChange lexNumbersWrong)

/-- 'chaselaw03.LexQuotes': WHATEVER THE INPUT: true; the input reads as it did. -/
def lexQuotesSpec : ChangeSpec := { name := "lexQuotes", fn := fun _ => fun
  | [d1, d2] => { results := [.lit (.bool true)], args := [d1, d2] }
  | _ => none }
def lexQuotesRow : OpenClaim := { program := "ytgngcjomeolpeaa", sum := "6ef0b8d719564d497b3a1c1a8e78af381a0d18c7e116b3678b436f5d47456377", func := "chase/chaselaw03.LexQuotes", spec := "lexQuotes", inPlace := ["internal/bytealg.IndexByteString", "internal/bytealg.IndexString"], unfollowed := true, recurses := true, named := ["internal/bytealg.MaxLen"], apart := false }
def LexQuotesSaid : Prop := lexQuotesRow.holds Try.pinned (OpenSpec.ofChange lexQuotesSpec)

/-- ITS FALSE NEIGHBOUR: 'it returns false'. Refute it at one input. -/
def lexQuotesWrong : ChangeSpec := { name := "lexQuotes", fn := fun _ => fun
  | [d1, d2] => { results := [.lit (.bool false)], args := [d1, d2] }
  | _ => none }
def LexQuotesWrongFalsely : Prop := lexQuotesRow.holds Try.pinned (OpenSpec.ofChange lexQuotesWrong)

/-- 'chaselaw03.LexNests': WHATEVER THE INPUT: true; the input reads as it did. -/
def lexNestsSpec : ChangeSpec := { name := "lexNests", fn := fun _ => fun
  | [d] => { results := [.lit (.bool true)], args := [d] }
  | _ => none }
def lexNestsRow : OpenClaim := { program := "ytgngcjomeolpeaa", sum := "6ef0b8d719564d497b3a1c1a8e78af381a0d18c7e116b3678b436f5d47456377", func := "chase/chaselaw03.LexNests", spec := "lexNests", inPlace := ["internal/bytealg.IndexByteString", "internal/bytealg.IndexString", "internal/abi.NoEscape", "internal/bytealg.MakeNoZero"], unfollowed := true, recurses := true, named := ["internal/bytealg.MaxLen"], apart := false }
def LexNestsSaid : Prop := lexNestsRow.holds Try.pinned (OpenSpec.ofChange lexNestsSpec)

/-- ITS FALSE NEIGHBOUR: 'it returns false'. Refute it at one input. -/
def lexNestsWrong : ChangeSpec := { name := "lexNests", fn := fun _ => fun
  | [d] => { results := [.lit (.bool false)], args := [d] }
  | _ => none }
def LexNestsWrongFalsely : Prop := lexNestsRow.holds Try.pinned (OpenSpec.ofChange lexNestsWrong)

/- THE SECOND FORM. 'bulk': how many values and letters a reading holds, each counted each time it is reached (what is shared counts as often as it is met; a slice's spare places count too). A statement '..UptoSaid' is the law's where the arguments, and the package variables that the reading takes, are together of bulk at most 1048576: NARROWER than '..Said'. Prove '..Said' where nothing that the law and all that it calls make is longer than what came in: it says more and counts as full. Else prove '..UptoSaid'. A law counts once. -/
mutual
def uptoBulk {H : Type} : DataW H → Nat
  | .lit (.string bytes) => bytes.length + 1
  | .lit _ => 1
  | .nil => 1
  | .ptr d => uptoBulk d + 1
  | .slice elems spare => uptoBulkAll elems + uptoBulkAll spare + 1
  | .agg parts => uptoBulkAll parts + 1
  | .iface _ d => uptoBulk d + 1
  | .map entries => uptoBulkEntries entries + 1
  | .held _ => 1
def uptoBulkAll {H : Type} : List (DataW H) → Nat
  | [] => 0
  | d :: r => uptoBulk d + uptoBulkAll r
def uptoBulkEntries {H : Type} : List (Lit × DataW H) → Nat
  | [] => 0
  | x :: r => uptoBulkEntry x + uptoBulkEntries r
def uptoBulkEntry {H : Type} : Lit × DataW H → Nat
  | (.string bytes, d) => bytes.length + uptoBulk d + 1
  | (_, d) => uptoBulk d + 1
 end
def uptoSmall : (H : Type) → List (DataW H) → Bool := fun _ ds => decide (uptoBulkAll ds ≤ 1048576)
def OpenSpec.upto (s : _root_.Go.ChangeSpec) : _root_.Go.OpenSpec := { _root_.Go.OpenSpec.ofChange s with cond := some uptoSmall }

/-- 'chaselaw33.OutlineNumbers', WHERE WHAT IT READS IS OF BULK AT MOST 1048576: true; the input reads as it did. -/
def outlineNumbersUptoRow : OpenClaim := { program := "ytgngcjomeolpeaa", sum := "6ef0b8d719564d497b3a1c1a8e78af381a0d18c7e116b3678b436f5d47456377", func := "chase/chaselaw33.OutlineNumbers", spec := "outlineNumbers", unfollowed := true, recurses := true, apart := false, narrowed := true }
def OutlineNumbersUptoSaid : Prop := outlineNumbersUptoRow.holds Try.pinned (OpenSpec.upto outlineNumbersSpec)

/-- 'chaselaw33.OutlineShorts', WHERE WHAT IT READS IS OF BULK AT MOST 1048576: true; the input reads as it did. -/
def outlineShortsUptoRow : OpenClaim := { program := "ytgngcjomeolpeaa", sum := "6ef0b8d719564d497b3a1c1a8e78af381a0d18c7e116b3678b436f5d47456377", func := "chase/chaselaw33.OutlineShorts", spec := "outlineShorts", inPlace := ["internal/abi.NoEscape"], unfollowed := true, recurses := true, apart := false, narrowed := true }
def OutlineShortsUptoSaid : Prop := outlineShortsUptoRow.holds Try.pinned (OpenSpec.upto outlineShortsSpec)

/-- 'chaselaw03.LexNumbers', WHERE WHAT IT READS IS OF BULK AT MOST 1048576: true; the input reads as it did. -/
def lexNumbersUptoRow : OpenClaim := { program := "ytgngcjomeolpeaa", sum := "6ef0b8d719564d497b3a1c1a8e78af381a0d18c7e116b3678b436f5d47456377", func := "chase/chaselaw03.LexNumbers", spec := "lexNumbers", inPlace := ["internal/bytealg.IndexByteString", "internal/bytealg.IndexString"], unfollowed := true, recurses := true, named := ["internal/bytealg.MaxLen"], apart := false, narrowed := true }
def LexNumbersUptoSaid : Prop := lexNumbersUptoRow.holds Try.pinned (OpenSpec.upto lexNumbersSpec)

/-- 'chaselaw03.LexQuotes', WHERE WHAT IT READS IS OF BULK AT MOST 1048576: true; the input reads as it did. -/
def lexQuotesUptoRow : OpenClaim := { program := "ytgngcjomeolpeaa", sum := "6ef0b8d719564d497b3a1c1a8e78af381a0d18c7e116b3678b436f5d47456377", func := "chase/chaselaw03.LexQuotes", spec := "lexQuotes", inPlace := ["internal/bytealg.IndexByteString", "internal/bytealg.IndexString"], unfollowed := true, recurses := true, named := ["internal/bytealg.MaxLen"], apart := false, narrowed := true }
def LexQuotesUptoSaid : Prop := lexQuotesUptoRow.holds Try.pinned (OpenSpec.upto lexQuotesSpec)

/-- 'chaselaw03.LexNests', WHERE WHAT IT READS IS OF BULK AT MOST 1048576: true; the input reads as it did. -/
def lexNestsUptoRow : OpenClaim := { program := "ytgngcjomeolpeaa", sum := "6ef0b8d719564d497b3a1c1a8e78af381a0d18c7e116b3678b436f5d47456377", func := "chase/chaselaw03.LexNests", spec := "lexNests", inPlace := ["internal/bytealg.IndexByteString", "internal/bytealg.IndexString", "internal/abi.NoEscape", "internal/bytealg.MakeNoZero"], unfollowed := true, recurses := true, named := ["internal/bytealg.MaxLen"], apart := false, narrowed := true }
def LexNestsUptoSaid : Prop := lexNestsUptoRow.holds Try.pinned (OpenSpec.upto lexNestsSpec)

end Rows
end Go.Proofs.Ytgngcjomeolpeaa
