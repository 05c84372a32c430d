/- 'chase/chaselaw18.ResourceKnown' returns true, and nothing that was there is changed. Condition: the package variables that the row lists hold what the program's text gives them. The call takes no argument: it is run by an executor that is proved sound against the model. -/
import Derived.Test.YtjmjjkcecgdkeaaDoorRows
import Derived.Test.YtjmjjkcecgdkeaaDoorCards
import Derived.Test.YtjmjjkcecgdkeaaDoorTie
import Derived.WalkKit
import Derived.ProofKit
import Derived.LaidMore
import Derived.OpenShut
import Derived.Stop.Joined
import Derived.SevenTiedAt
import Derived.Test.YtjmjjkcecgdkeaaDoorSxF
namespace Go.Proofs.YtjmjjkcecgdkeaaDoor.resourceKnown
open Go.ChangeShapes Go.WideShapes Go.ChangeAt Go.WideMaps Go.WideElems Go.RowKit
set_option linter.unusedVariables false

theorem own : ownKnob Tryd.prog.godebug = none := by kernel_rfl
theorem okayed : Go.Sx.okProg Tryd.prog = true := by kernel_rfl

noncomputable def laid : List (String × DataW Unit) := [("chase/object.kinds", Rows.laid_chase_object_kinds)]
noncomputable def vars : List (Nat × List Go.Sx.AV) := (Go.Sx.laidOf Tryd.prog laid).getD []
theorem some_getD {α : Type} {x : Option α} {d : α} (h : x.isSome = true) : x = some (x.getD d) := by
  cases x with
  | none => cases h
  | some y => rfl
theorem vars_eq : Go.Sx.laidOf Tryd.prog laid = some vars := some_getD (by kernel_rfl)

noncomputable def body : Code := (Tryd.f5.body).getD .skip
theorem body_eq : Tryd.f5.body = some body := some_getD (by kernel_rfl)
noncomputable def stm0 : List Code := Go.Sx.flat body
def st1 : Go.Sx.St :=
  ⟨240, [(0, .bool false),
  (17, .bool false)], 2945, []⟩
noncomputable def stm1 : List Code := stm0.drop 2
def st2 : Go.Sx.St :=
  ⟨240, [(0, .bool false),
  (6, .ptr 3940 0),
  (7, .ptr 4088 0),
  (9, .int .i64 (.ofNat 24)),
  (11, .int .i64 (.ofNat 24)),
  (12, .ptr 4210 0),
  (13, .ptr 4341 0),
  (14, .bool true)], 7911, [(3939, .cells 33 [.int .i64 (.ofNat 9), .bool false, .int .i64 (.ofNat 0), .str [], .int .i64 (.ofNat 0), .int .i64 (.ofNat 0), .int .i64 (.ofNat 0), .int .i64 (.ofNat 9), .bool false, .int .i64 (.ofNat 0), .str [], .int .i64 (.ofNat 1), .int .i64 (.ofNat 0), .int .i64 (.ofNat 0)] false),
  (3940, .cells 77 [.nils, .slc 3939 0 2 (.exact 2), .slc 3942 0 12 (.upto 7 12), .nils, .int .i64 (.ofNat 0), .int .i64 (.ofNat 0), .int .i64 (.ofNat 0), .int .i64 (.ofNat 0), .int .i64 (.ofNat 0), .int .i64 (.ofNat 0), .int .i64 (.ofNat 0), .nils, .int .i64 (.ofNat 0), .int .i64 (.ofNat 0), .int .i64 (.ofNat 0), .int .i64 (.ofNat 0), .int .i64 (.ofNat 0), .int .i64 (.ofNat 0), .int .i64 (.ofNat 0), .int .i64 (.ofNat 0), .int .i64 (.ofNat 0), .int .i64 (.ofNat 0), .int .i64 (.ofNat 0), .int .i64 (.ofNat 0), .int .i64 (.ofNat 0), .int .i64 (.ofNat 0), .int .i64 (.ofNat 0), .int .i64 (.ofNat 0), .int .i64 (.ofNat 0), .int .i64 (.ofNat 0), .int .i64 (.ofNat 0), .int .i64 (.ofNat 0), .bool false, .bool false, .nils, .int .i64 (.ofNat 0), .int .i64 (.ofNat 0), .int .i64 (.ofNat 0), .int .i64 (.ofNat 0), .int .i64 (.ofNat 0), .int .i64 (.ofNat 0), .int .i64 (.ofNat 0), .int .i64 (.ofNat 0), .nils, .int .i64 (.ofNat 0), .int .i64 (.ofNat 0), .nils, .int .i64 (.ofNat 0), .bool false, .int .i64 (.ofNat 0), .str [], .int .i64 (.ofNat 0), .int .i64 (.ofNat 0), .int .i64 (.ofNat 0), .int .i64 (.ofNat 0), .int .i64 (.ofNat 0), .int .i64 (.ofNat 0), .int .i64 (.ofNat 0), .int .i64 (.ofNat 0), .int .i64 (.ofNat 0), .int .i64 (.ofNat 0), .int .i64 (.ofNat 0), .nils, .nils, .nils, .str [], .int .i64 (.ofNat 0)] false),
  (3942, .cells 46 [.int .i64 (.ofNat 3), .str [], .nils, .nils, .nils, .int .i64 (.ofNat 200), .int .i64 (.ofNat 0), .int .i64 (.ofNat 3), .str [], .nils, .nils, .nils, .int .i64 (.ofNat 50), .int .i64 (.ofNat 0), .int .i64 (.ofNat 3), .str [], .nils, .nils, .nils, .int .i64 (.ofNat 30), .int .i64 (.ofNat 0), .int .i64 (.ofNat 3), .str [], .nils, .nils, .nils, .int .i64 (.ofNat 12), .int .i64 (.ofNat 0), .int .i64 (.ofNat 3), .str [], .nils, .slc 3947 0 1 (.exact 1), .slc 3951 0 1 (.exact 1), .int .i64 (.ofNat 1), .int .i64 (.ofNat 0), .int .i64 (.ofNat 3), .str [], .nils, .nils, .nils, .int .i64 (.ofNat 10), .int .i64 (.ofNat 0), .int .i64 (.ofNat 3), .str [], .nils, .nils, .nils, .int .i64 (.ofNat 10), .int .i64 (.ofNat 0), .int .i64 (.ofNat 3), .str [], .nils, .nils, .nils, .int .i64 (.ofNat 10), .int .i64 (.ofNat 0), .int .i64 (.ofNat 3), .str [], .nils, .nils, .nils, .int .i64 (.ofNat 10), .int .i64 (.ofNat 0), .int .i64 (.ofNat 3), .str [], .nils, .nils, .nils, .int .i64 (.ofNat 10), .int .i64 (.ofNat 0), .int .i64 (.ofNat 3), .str [], .nils, .nils, .nils, .int .i64 (.ofNat 3), .int .i64 (.ofNat 0), .int .i64 (.ofNat 1), .str [70, 70, 111, 110, 116], .nils, .nils, .nils, .int .i64 (.ofNat 0), .int .i64 (.ofNat 0)] true),
  (3947, .cells 33 [.int .i64 (.ofNat 5), .bool false, .int .i64 (.ofNat 0), .str [70, 111, 110, 116], .int .i64 (.ofNat 0), .int .i64 (.ofNat 0), .int .i64 (.ofNat 0)] false),
  (3951, .cells 33 [.int .i64 (.ofNat 3), .bool false, .int .i64 (.ofNat 1), .str [], .int .i64 (.ofNat 0), .int .i64 (.ofNat 0), .int .i64 (.ofNat 0)] false),
  (3959, .cells 33 [.int .i64 (.ofNat 5), .bool false, .int .i64 (.ofNat 0), .str [70], .int .i64 (.ofNat 0), .int .i64 (.ofNat 0), .int .i64 (.ofNat 0), .int .i64 (.ofNat 9), .bool false, .int .i64 (.ofNat 0), .str [], .int .i64 (.ofNat 10), .int .i64 (.ofNat 0), .int .i64 (.ofNat 0), .int .i64 (.ofNat 5), .bool false, .int .i64 (.ofNat 0), .str [70, 111, 110, 116], .int .i64 (.ofNat 0), .int .i64 (.ofNat 0), .int .i64 (.ofNat 0)] false),
  (4073, .cells 33 [.int .i64 (.ofNat 5), .bool false, .int .i64 (.ofNat 0), .str [70, 111, 110, 116], .int .i64 (.ofNat 0), .int .i64 (.ofNat 0), .int .i64 (.ofNat 0), .int .i64 (.ofNat 5), .bool false, .int .i64 (.ofNat 0), .str [80, 97, 116, 116, 101, 114, 110], .int .i64 (.ofNat 0), .int .i64 (.ofNat 0), .int .i64 (.ofNat 0), .int .i64 (.ofNat 5), .bool false, .int .i64 (.ofNat 0), .str [69, 110, 99, 111, 100, 105, 110, 103], .int .i64 (.ofNat 0), .int .i64 (.ofNat 0), .int .i64 (.ofNat 0), .int .i64 (.ofNat 5), .bool false, .int .i64 (.ofNat 0), .str [70, 111, 114, 109], .int .i64 (.ofNat 0), .int .i64 (.ofNat 0), .int .i64 (.ofNat 0), .int .i64 (.ofNat 5), .bool false, .int .i64 (.ofNat 0), .str [71, 101, 110, 101, 114, 105, 99], .int .i64 (.ofNat 0), .int .i64 (.ofNat 0), .int .i64 (.ofNat 0)] true),
  (4079, .cells 33 [.int .i64 (.ofNat 9), .bool false, .int .i64 (.ofNat 0), .str [], .int .i64 (.ofNat 5), .int .i64 (.ofNat 0), .int .i64 (.ofNat 0), .int .i64 (.ofNat 9), .bool false, .int .i64 (.ofNat 0), .str [], .int .i64 (.ofNat 6), .int .i64 (.ofNat 0), .int .i64 (.ofNat 0), .int .i64 (.ofNat 9), .bool false, .int .i64 (.ofNat 0), .str [], .int .i64 (.ofNat 7), .int .i64 (.ofNat 0), .int .i64 (.ofNat 0), .int .i64 (.ofNat 9), .bool false, .int .i64 (.ofNat 0), .str [], .int .i64 (.ofNat 8), .int .i64 (.ofNat 0), .int .i64 (.ofNat 0), .int .i64 (.ofNat 9), .bool false, .int .i64 (.ofNat 0), .str [], .int .i64 (.ofNat 9), .int .i64 (.ofNat 0), .int .i64 (.ofNat 0)] true),
  (4087, .cells 33 [.int .i64 (.ofNat 9), .bool false, .int .i64 (.ofNat 0), .str [], .int .i64 (.ofNat 0), .int .i64 (.ofNat 0), .int .i64 (.ofNat 0), .int .i64 (.ofNat 9), .bool false, .int .i64 (.ofNat 0), .str [], .int .i64 (.ofNat 1), .int .i64 (.ofNat 0), .int .i64 (.ofNat 0)] false),
  (4088, .cells 77 [.slc 3959 0 3 (.exact 3), .slc 4087 0 2 (.exact 2), .slc 4090 0 12 (.upto 7 12), .nils, .int .i64 (.ofNat 0), .int .i64 (.ofNat 0), .int .i64 (.ofNat 0), .int .i64 (.ofNat 0), .int .i64 (.ofNat 0), .int .i64 (.ofNat 0), .int .i64 (.ofNat 0), .nils, .int .i64 (.ofNat 0), .int .i64 (.ofNat 0), .int .i64 (.ofNat 0), .int .i64 (.ofNat 0), .int .i64 (.ofNat 0), .int .i64 (.ofNat 0), .int .i64 (.ofNat 0), .int .i64 (.ofNat 0), .int .i64 (.ofNat 0), .int .i64 (.ofNat 0), .int .i64 (.ofNat 0), .int .i64 (.ofNat 0), .int .i64 (.ofNat 0), .int .i64 (.ofNat 0), .int .i64 (.ofNat 0), .int .i64 (.ofNat 0), .int .i64 (.ofNat 0), .int .i64 (.ofNat 0), .int .i64 (.ofNat 0), .int .i64 (.ofNat 0), .bool false, .bool false, .nils, .int .i64 (.ofNat 0), .int .i64 (.ofNat 0), .int .i64 (.ofNat 0), .int .i64 (.ofNat 0), .int .i64 (.ofNat 0), .int .i64 (.ofNat 0), .int .i64 (.ofNat 0), .int .i64 (.ofNat 0), .nils, .int .i64 (.ofNat 0), .int .i64 (.ofNat 0), .nils, .int .i64 (.ofNat 0), .bool false, .int .i64 (.ofNat 0), .str [], .int .i64 (.ofNat 0), .int .i64 (.ofNat 0), .int .i64 (.ofNat 0), .int .i64 (.ofNat 0), .int .i64 (.ofNat 0), .int .i64 (.ofNat 0), .int .i64 (.ofNat 0), .int .i64 (.ofNat 0), .int .i64 (.ofNat 0), .int .i64 (.ofNat 0), .int .i64 (.ofNat 0), .nils, .nils, .nils, .str [], .int .i64 (.ofNat 0)] false),
  (4090, .cells 46 [.int .i64 (.ofNat 3), .str [], .nils, .nils, .nils, .int .i64 (.ofNat 200), .int .i64 (.ofNat 0), .int .i64 (.ofNat 3), .str [], .nils, .nils, .nils, .int .i64 (.ofNat 50), .int .i64 (.ofNat 0), .int .i64 (.ofNat 3), .str [], .nils, .nils, .nils, .int .i64 (.ofNat 30), .int .i64 (.ofNat 0), .int .i64 (.ofNat 3), .str [], .nils, .nils, .nils, .int .i64 (.ofNat 12), .int .i64 (.ofNat 0), .int .i64 (.ofNat 3), .str [], .nils, .slc 4073 0 5 (.upto 7 5), .slc 4079 0 5 (.upto 7 5), .int .i64 (.ofNat 5), .int .i64 (.ofNat 0), .int .i64 (.ofNat 3), .str [], .nils, .nils, .nils, .int .i64 (.ofNat 0), .int .i64 (.ofNat 0), .int .i64 (.ofNat 3), .str [], .nils, .nils, .nils, .int .i64 (.ofNat 10), .int .i64 (.ofNat 0), .int .i64 (.ofNat 3), .str [], .nils, .nils, .nils, .int .i64 (.ofNat 10), .int .i64 (.ofNat 0), .int .i64 (.ofNat 3), .str [], .nils, .nils, .nils, .int .i64 (.ofNat 10), .int .i64 (.ofNat 0), .int .i64 (.ofNat 3), .str [], .nils, .nils, .nils, .int .i64 (.ofNat 10), .int .i64 (.ofNat 0), .int .i64 (.ofNat 3), .str [], .nils, .nils, .nils, .int .i64 (.ofNat 3), .int .i64 (.ofNat 0), .int .i64 (.ofNat 1), .str [70, 70, 111, 110, 116], .nils, .nils, .nils, .int .i64 (.ofNat 0), .int .i64 (.ofNat 0)] true),
  (4210, .cells 33 [.int .i64 (.ofNat 0), .bool false, .int .i64 (.ofNat 0), .str [], .int .i64 (.ofNat 0), .int .i64 (.ofNat 0), .int .i64 (.ofNat 0)] false),
  (4212, .cells 33 [.int .i64 (.ofNat 5), .bool false, .int .i64 (.ofNat 0), .str [70], .int .i64 (.ofNat 0), .int .i64 (.ofNat 0), .int .i64 (.ofNat 0), .int .i64 (.ofNat 6), .bool false, .int .i64 (.ofNat 0), .str [], .int .i64 (.ofNat 12), .int .i64 (.ofNat 0), .int .i64 (.ofNat 101)] false),
  (4326, .cells 33 [.int .i64 (.ofNat 5), .bool false, .int .i64 (.ofNat 0), .str [70, 111, 110, 116], .int .i64 (.ofNat 0), .int .i64 (.ofNat 0), .int .i64 (.ofNat 0), .int .i64 (.ofNat 5), .bool false, .int .i64 (.ofNat 0), .str [80, 97, 116, 116, 101, 114, 110], .int .i64 (.ofNat 0), .int .i64 (.ofNat 0), .int .i64 (.ofNat 0), .int .i64 (.ofNat 5), .bool false, .int .i64 (.ofNat 0), .str [69, 110, 99, 111, 100, 105, 110, 103], .int .i64 (.ofNat 0), .int .i64 (.ofNat 0), .int .i64 (.ofNat 0), .int .i64 (.ofNat 5), .bool false, .int .i64 (.ofNat 0), .str [70, 111, 114, 109], .int .i64 (.ofNat 0), .int .i64 (.ofNat 0), .int .i64 (.ofNat 0), .int .i64 (.ofNat 5), .bool false, .int .i64 (.ofNat 0), .str [71, 101, 110, 101, 114, 105, 99], .int .i64 (.ofNat 0), .int .i64 (.ofNat 0), .int .i64 (.ofNat 0)] true),
  (4332, .cells 33 [.int .i64 (.ofNat 9), .bool false, .int .i64 (.ofNat 0), .str [], .int .i64 (.ofNat 5), .int .i64 (.ofNat 0), .int .i64 (.ofNat 0), .int .i64 (.ofNat 9), .bool false, .int .i64 (.ofNat 0), .str [], .int .i64 (.ofNat 6), .int .i64 (.ofNat 0), .int .i64 (.ofNat 0), .int .i64 (.ofNat 9), .bool false, .int .i64 (.ofNat 0), .str [], .int .i64 (.ofNat 7), .int .i64 (.ofNat 0), .int .i64 (.ofNat 0), .int .i64 (.ofNat 9), .bool false, .int .i64 (.ofNat 0), .str [], .int .i64 (.ofNat 8), .int .i64 (.ofNat 0), .int .i64 (.ofNat 0), .int .i64 (.ofNat 9), .bool false, .int .i64 (.ofNat 0), .str [], .int .i64 (.ofNat 9), .int .i64 (.ofNat 0), .int .i64 (.ofNat 0)] true),
  (4340, .cells 33 [.int .i64 (.ofNat 9), .bool false, .int .i64 (.ofNat 0), .str [], .int .i64 (.ofNat 0), .int .i64 (.ofNat 0), .int .i64 (.ofNat 0), .int .i64 (.ofNat 9), .bool false, .int .i64 (.ofNat 0), .str [], .int .i64 (.ofNat 1), .int .i64 (.ofNat 0), .int .i64 (.ofNat 0)] false),
  (4341, .cells 77 [.slc 4212 0 2 (.exact 2), .slc 4340 0 2 (.exact 2), .slc 4350 0 13 (.upto 7 13), .nils, .int .i64 (.ofNat 0), .int .i64 (.ofNat 0), .int .i64 (.ofNat 0), .int .i64 (.ofNat 0), .int .i64 (.ofNat 0), .int .i64 (.ofNat 0), .int .i64 (.ofNat 0), .nils, .int .i64 (.ofNat 0), .int .i64 (.ofNat 0), .int .i64 (.ofNat 0), .int .i64 (.ofNat 0), .int .i64 (.ofNat 0), .int .i64 (.ofNat 0), .int .i64 (.ofNat 0), .int .i64 (.ofNat 0), .int .i64 (.ofNat 0), .int .i64 (.ofNat 0), .int .i64 (.ofNat 0), .int .i64 (.ofNat 0), .int .i64 (.ofNat 0), .int .i64 (.ofNat 0), .int .i64 (.ofNat 0), .int .i64 (.ofNat 0), .int .i64 (.ofNat 0), .int .i64 (.ofNat 0), .int .i64 (.ofNat 0), .int .i64 (.ofNat 0), .bool false, .bool false, .nils, .int .i64 (.ofNat 0), .int .i64 (.ofNat 0), .int .i64 (.ofNat 0), .int .i64 (.ofNat 0), .int .i64 (.ofNat 0), .int .i64 (.ofNat 0), .int .i64 (.ofNat 0), .int .i64 (.ofNat 0), .nils, .int .i64 (.ofNat 0), .int .i64 (.ofNat 0), .nils, .int .i64 (.ofNat 0), .bool false, .int .i64 (.ofNat 0), .str [], .int .i64 (.ofNat 0), .int .i64 (.ofNat 0), .int .i64 (.ofNat 0), .int .i64 (.ofNat 0), .int .i64 (.ofNat 0), .int .i64 (.ofNat 0), .int .i64 (.ofNat 0), .int .i64 (.ofNat 0), .int .i64 (.ofNat 0), .int .i64 (.ofNat 0), .int .i64 (.ofNat 0), .nils, .nils, .nils, .str [], .int .i64 (.ofNat 0)] false),
  (4350, .cells 46 [.int .i64 (.ofNat 3), .str [], .nils, .nils, .nils, .int .i64 (.ofNat 200), .int .i64 (.ofNat 0), .int .i64 (.ofNat 3), .str [], .nils, .nils, .nils, .int .i64 (.ofNat 50), .int .i64 (.ofNat 0), .int .i64 (.ofNat 3), .str [], .nils, .nils, .nils, .int .i64 (.ofNat 30), .int .i64 (.ofNat 0), .int .i64 (.ofNat 3), .str [], .nils, .nils, .nils, .int .i64 (.ofNat 12), .int .i64 (.ofNat 0), .int .i64 (.ofNat 3), .str [], .nils, .slc 4326 0 5 (.upto 7 5), .slc 4332 0 5 (.upto 7 5), .int .i64 (.ofNat 5), .int .i64 (.ofNat 0), .int .i64 (.ofNat 3), .str [], .nils, .nils, .nils, .int .i64 (.ofNat 10), .int .i64 (.ofNat 0), .int .i64 (.ofNat 3), .str [], .nils, .nils, .nils, .int .i64 (.ofNat 10), .int .i64 (.ofNat 0), .int .i64 (.ofNat 3), .str [], .nils, .nils, .nils, .int .i64 (.ofNat 10), .int .i64 (.ofNat 0), .int .i64 (.ofNat 3), .str [], .nils, .nils, .nils, .int .i64 (.ofNat 10), .int .i64 (.ofNat 0), .int .i64 (.ofNat 3), .str [], .nils, .nils, .nils, .int .i64 (.ofNat 10), .int .i64 (.ofNat 0), .int .i64 (.ofNat 3), .str [], .nils, .nils, .nils, .int .i64 (.ofNat 3), .int .i64 (.ofNat 0), .int .i64 (.ofNat 1), .str [70, 70, 111, 110, 116], .nils, .nils, .nils, .int .i64 (.ofNat 0), .int .i64 (.ofNat 0), .int .i64 (.ofNat 1), .str [0, 0, 0, 0, 0, 0, 0, 0, 0, 0, 0, 0, 0, 0, 0, 0, 0, 0, 0, 0, 0, 0, 0, 0, 0, 0, 0, 0, 0, 0, 0, 0, 0, 0, 0, 0, 0, 0, 0, 0, 0, 0, 0, 0, 0, 0, 0, 0, 0, 0, 0, 0, 0, 0, 0, 0, 0, 0, 0, 0, 0, 0, 0, 0, 0, 0, 0, 0, 0, 0, 0, 0, 0, 0, 0, 0, 0, 0, 0, 0, 0, 0, 0, 0, 0, 0, 0, 0, 0, 0, 0, 0, 0, 0, 0, 0, 0, 0, 0, 0, 0], .nils, .nils, .nils, .int .i64 (.ofNat 0), .int .i64 (.ofNat 0)] true)]⟩
noncomputable def stm2 : List Code := stm1.drop 18
def st3 : Go.Sx.St :=
  ⟨240, [(0, .bool false),
  (9, .int .i64 (.ofNat 24)),
  (11, .int .i64 (.ofNat 24)),
  (14, .bool true),
  (15, .bool true)], 12955, []⟩
noncomputable def stm3 : List Code := stm2.drop 1
set_option maxRecDepth 1000000 in
theorem piece0 : Go.Sx.pieceB vars st1 ((Go.Sx.chainS Tryd.prog (stm0.take 2)).f (Go.Sx.runS Tryd.prog 100000) 100000 { n := Tryd.f5.ntmps, dflt := true, t := .leaf } (Go.Sx.laidHeap vars)) = true := by kernel_rfl
set_option maxRecDepth 1000000 in
theorem piece1 : Go.Sx.pieceB vars st2 ((Go.Sx.chainS Tryd.prog (stm1.take 18)).f (Go.Sx.runS Tryd.prog 100000) 100000 (Go.Sx.stT st1) (Go.Sx.stH vars st1)) = true := by kernel_rfl
set_option maxRecDepth 1000000 in
theorem piece2 : Go.Sx.pieceB vars st3 ((Go.Sx.chainS Tryd.prog (stm2.take 1)).f (Go.Sx.runS Tryd.prog 100000) 100000 (Go.Sx.stT st2) (Go.Sx.stH vars st2)) = true := by kernel_rfl
set_option maxRecDepth 1000000 in
theorem piece3 : Go.Sx.lastB Tryd.prog Tryd.f5 vars ((Go.Sx.chainS Tryd.prog stm3).f (Go.Sx.runS Tryd.prog 100000) 100000 (Go.Sx.stT st3) (Go.Sx.stH vars st3)) = true := by kernel_rfl
theorem run3 : Go.Sx.Pieces Tryd.prog 100000 Tryd.f5 vars stm3 (Go.Sx.stT st3) (Go.Sx.stH vars st3) := Go.Sx.piece_last piece3
theorem run2 : Go.Sx.Pieces Tryd.prog 100000 Tryd.f5 vars stm2 (Go.Sx.stT st2) (Go.Sx.stH vars st2) := by
  have h := Go.Sx.piece_more (cs := stm2.take 1) (ds := stm3) piece2 run3
  rwa [show stm2.take 1 ++ stm3 = stm2 from List.take_append_drop 1 stm2] at h
theorem run1 : Go.Sx.Pieces Tryd.prog 100000 Tryd.f5 vars stm1 (Go.Sx.stT st1) (Go.Sx.stH vars st1) := by
  have h := Go.Sx.piece_more (cs := stm1.take 18) (ds := stm2) piece1 run2
  rwa [show stm1.take 18 ++ stm2 = stm1 from List.take_append_drop 18 stm1] at h
theorem run0 : Go.Sx.Pieces Tryd.prog 100000 Tryd.f5 vars stm0 { n := Tryd.f5.ntmps, dflt := true, t := .leaf } (Go.Sx.laidHeap vars) := by
  have h := Go.Sx.piece_more (cs := stm0.take 2) (ds := stm1) piece0 run1
  rwa [show stm0.take 2 ++ stm1 = stm0 from List.take_append_drop 2 stm0] at h
theorem walk {w : World} (h : Go.Sx.LaidIn w vars) :
    Calls Tryd.prog 5 #[] w fun e w' => e = .returned (.bool true) ∧ Below w.heap.size w w' :=
  Go.Sx.call_pieces okayed Tryd.func5 body_eq run0 h

theorem door_met (os : Os) (args : Array Value) : laidMetH Tryd.prog laid ((World.doorLaid Tryd.prog 400 os).forCall (fun _ _ => 0) ⟨#[], args, []⟩).memory :=
  laidMetH_of_parts3 (fuel := 8) (laidMet_of_run' 8 (by kernel_rfl) (by kernel_rfl)) (by kernel_rfl) (by kernel_rfl)

set_option maxRecDepth 100000 in
theorem lifted (os : Os) (started : os.Started) (H : Type) (enc : TypeId × Value → H) :
    ReturnsInHanded {} Tryd.checked os 5 .any (fun w args => (Rows.resourceKnownSpec.pre enc Tryd.prog Tryd.f5 [] false w args ∧ laidMetH Tryd.prog laid w) ∧ sizedMet enc Tryd.prog Tryd.f5 (OpenSpec.ofChange Rows.resourceKnownSpec) false w args)
      (Rows.resourceKnownSpec.post enc Tryd.prog Tryd.f5 false true false false) := by
  refine returnsInHanded_of_change_and (C := Tryd.checked) (X := fun w _ => laidMetH Tryd.prog laid w) (fun _ _ _ hh h => h.of_heap hh) own started (by kernel_rfl) Tryd.func5
    (ChangeSpec.witness_shaped (enc := enc) (C := Tryd.checked) (os := os) (X := fun w _ => laidMetH Tryd.prog laid w) false (World.doorLaid Tryd.prog 400 os) #[] 8 rfl (World.shaped_of_RefB (by kernel_rfl) (by kernel_rfl)) (by kernel_rfl) (by kernel_rfl) (by kernel_rfl) (door_met os _)) ?_
  intro W base args ds gs before hval0 hW _ _ hL _
  have hval : ∀ (j : Nat) t v, Tryd.f5.params[j]? = some t → args[j]? = some v → Value.okWide Tryd.prog W .any base t v := hval0
  have hW' := hW
  obtain ⟨p, q, hA0, hV, rfl, hfz, hnd⟩ := hW
  have hA : DataW.TrodAll enc Tryd.prog W 0 (fun _ => true) true Tryd.f5.params.toList args.toList ds p := hA0
  rw [Tryd.params5] at hA hval
  obtain ⟨rfl, rfl, rfl⟩ := trodAll_none hA
  obtain ⟨rfl, rfl⟩ := trodVars_none hV
  clear hA0 hval0
  simp only [List.append_nil] at hW'
  refine (walk (Go.Sx.laidIn_of hL (by kernel_rfl) vars_eq)).mono fun e W' ⟨he, hg⟩ => ?_
  subst he
  exact ⟨_, rfl, Go.Sx.post_of_below (pa := []) (pv := []) hW' (fun _ _ _ => (trodAll_cons_mk (shut_bool Tryd.underlying4 _) trodAll_mk0)) (fun sp _ => rfl) (fun _ _ => rfl) rfl
    hg (ok_one (by kernel_rfl) rfl (okWide_bool_mk Tryd.underlying4 _))⟩

theorem over : Rows.ResourceKnownSaid :=
  OpenClaim.holds_of_wide 5 Tryd.f5 rfl rfl rfl rfl rfl rfl rfl ⟨rfl, rfl, rfl, rfl, rfl⟩ rfl rfl rfl rfl rfl (by kernel_rfl) Tryd.func5 (by kernel_rfl)
    (of_decide_eq_true (by kernel_rfl)) (by unfold Func.isWrapper; first | (rw [if_pos (by decide +kernel)]; kernel_rfl) | (rw [if_neg (by decide +kernel)]; exact ⟨rfl, rfl⟩))
    (fun os started H enc _ => lifted os started H enc)

theorem proved : Rows.ResourceKnownCardSaid :=
  Claim7.holds_tied_plain_at .later [] [.data] true (true, "f5d9ed0326e24e68be92104dfbb56a992a4bc47cd84a2a85d8b97ee8c65ad7e5") false
    over (fun _ h => by cases h) (by kernel_rfl) (fun _ h => by cases h) resourceKnown_row_tie rfl ⟨rfl, rfl⟩ (by kernel_rfl) rfl
    (fun f fn hf hfn => by
      obtain rfl : f = 5 := Option.some.inj ((show Tryd.prog.funcNamed "chase/chaselaw18.ResourceKnown" = some 5 by kernel_rfl).symm.trans hf) |>.symm
      obtain rfl : fn = Tryd.f5 := (Option.some.inj (Tryd.func5.symm.trans hfn)).symm
      exact ⟨by kernel_rfl, fun j t ht => by
        rw [Tryd.params5] at ht
        simp at ht⟩)
    (by kernel_rfl)
#print axioms proved
end Go.Proofs.YtjmjjkcecgdkeaaDoor.resourceKnown
