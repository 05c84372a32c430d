/- 'chase/chaselaw16.DictKnown' returns true, and nothing that was there is changed. Condition: the package variables that the row lists hold what the program's text gives them. The call takes no argument: it is run by an executor that is proved sound against the model. -/
import Derived.Test.YtjmjjkcecgdkeaaGreatDoorRows
import Derived.Test.YtjmjjkcecgdkeaaGreatDoorCards
import Derived.Test.YtjmjjkcecgdkeaaGreatDoorTie
import Derived.WalkKit
import Derived.ProofKit
import Derived.LaidMore
import Derived.OpenShut
import Derived.Stop.Joined
import Derived.SevenTiedAt
import Derived.Test.YtjmjjkcecgdkeaaGreatDoorSxF
namespace Go.Proofs.YtjmjjkcecgdkeaaGreatDoor.dictKnown
open Go.ChangeShapes Go.WideShapes Go.ChangeAt Go.WideMaps Go.WideElems Go.RowKit
set_option linter.unusedVariables false

theorem own : ownKnob Tryz.prog.godebug = none := by kernel_rfl
theorem okayed : Go.Sx.okProg Tryz.prog = true := by kernel_rfl

noncomputable def laid : List (String × DataW Unit) := [("chase/object.kinds", Rows.laid_chase_object_kinds)]
noncomputable def vars : List (Nat × List Go.Sx.AV) := (Go.Sx.laidOf Tryz.prog laid).getD []
theorem some_getD {α : Type} {x : Option α} {d : α} (h : x.isSome = true) : x = some (x.getD d) := by
  cases x with
  | none => cases h
  | some y => rfl
theorem vars_eq : Go.Sx.laidOf Tryz.prog laid = some vars := some_getD (by kernel_rfl)

noncomputable def body : Code := (Tryz.f3.body).getD .skip
theorem body_eq : Tryz.f3.body = some body := some_getD (by kernel_rfl)
noncomputable def stm0 : List Code := Go.Sx.flat body
def st1 : Go.Sx.St :=
  ⟨523, [(0, .bool false),
  (41, .bool false)], 2908, []⟩
noncomputable def stm1 : List Code := stm0.drop 2
def st2 : Go.Sx.St :=
  ⟨523, [(0, .bool false),
  (1, .ptr 2908 0),
  (2, .ptr 2909 0),
  (3, .ptr 2910 0),
  (4, .ptr 2998 0),
  (6, .ptr 3441 0),
  (8, .ptr 3964 0),
  (10, .ptr 4265 0),
  (12, .ptr 4538 0),
  (14, .ptr 4800 0),
  (17, .int .i64 (.ofNat 30))], 5024, [(2908, .cells 24 [.int .i64 (.ofNat 0), .bool false, .int .i64 (.ofNat 0), .str [], .int .i64 (.ofNat 0), .int .i64 (.ofNat 0), .int .i64 (.ofNat 0)] false),
  (2909, .cells 24 [.int .i64 (.ofNat 1), .bool false, .int .i64 (.ofNat 0), .str [], .int .i64 (.ofNat 0), .int .i64 (.ofNat 0), .int .i64 (.ofNat 0)] false),
  (2910, .cells 24 [.int .i64 (.ofNat 6), .bool false, .int .i64 (.ofNat 0), .str [], .int .i64 (.ofNat 3), .int .i64 (.ofNat 0), .int .i64 (.ofNat 1)] false),
  (2915, .cells 24 [.int .i64 (.ofNat 5), .bool false, .int .i64 (.ofNat 0), .str [120], .int .i64 (.ofNat 0), .int .i64 (.ofNat 0), .int .i64 (.ofNat 0)] false),
  (2917, .cells 24 [.int .i64 (.ofNat 3), .bool false, .int .i64 (.ofNat 5), .str [], .int .i64 (.ofNat 0), .int .i64 (.ofNat 0), .int .i64 (.ofNat 0)] false),
  (2919, .cells 24 [.int .i64 (.ofNat 5), .bool false, .int .i64 (.ofNat 0), .str [97], .int .i64 (.ofNat 0), .int .i64 (.ofNat 0), .int .i64 (.ofNat 0)] false),
  (2921, .cells 24 [.int .i64 (.ofNat 3), .bool false, .int .i64 (.ofNat 7), .str [], .int .i64 (.ofNat 0), .int .i64 (.ofNat 0), .int .i64 (.ofNat 0)] false),
  (2926, .cells 24 [.int .i64 (.ofNat 9), .bool false, .int .i64 (.ofNat 0), .str [], .int .i64 (.ofNat 0), .int .i64 (.ofNat 0), .int .i64 (.ofNat 0), .int .i64 (.ofNat 9), .bool false, .int .i64 (.ofNat 0), .str [], .int .i64 (.ofNat 1), .int .i64 (.ofNat 0), .int .i64 (.ofNat 0), .int .i64 (.ofNat 9), .bool false, .int .i64 (.ofNat 0), .str [], .int .i64 (.ofNat 2), .int .i64 (.ofNat 0), .int .i64 (.ofNat 0)] false),
  (2978, .cells 59 [.int .i64 (.ofNat 3), .str [], .nils, .nils, .nils, .int .i64 (.ofNat 9), .int .i64 (.ofNat 0), .int .i64 (.ofNat 3), .str [], .nils, .slc 2915 0 1 (.exact 1), .slc 2917 0 1 (.exact 1), .int .i64 (.ofNat 9), .int .i64 (.ofNat 0), .int .i64 (.ofNat 3), .str [], .nils, .slc 2919 0 1 (.exact 1), .slc 2921 0 1 (.exact 1), .int .i64 (.ofNat 2), .int .i64 (.ofNat 0), .int .i64 (.ofNat 1), .str [97], .nils, .nils, .nils, .int .i64 (.ofNat 0), .int .i64 (.ofNat 0), .int .i64 (.ofNat 3), .str [], .nils, .nils, .nils, .int .i64 (.ofNat 3), .int .i64 (.ofNat 0)] true),
  (2996, .cells 24 [.int .i64 (.ofNat 9), .bool false, .int .i64 (.ofNat 0), .str [], .int .i64 (.ofNat 4), .int .i64 (.ofNat 0), .int .i64 (.ofNat 0)] true),
  (2998, .cells 50 [.slc 2996 0 1 (.upto 7 1), .slc 2926 0 3 (.exact 3), .slc 2978 0 5 (.upto 7 5), .nils, .int .i64 (.ofNat 0), .int .i64 (.ofNat 0), .int .i64 (.ofNat 0), .int .i64 (.ofNat 0), .int .i64 (.ofNat 0), .int .i64 (.ofNat 0), .int .i64 (.ofNat 0), .nils, .int .i64 (.ofNat 0), .int .i64 (.ofNat 0), .int .i64 (.ofNat 0), .int .i64 (.ofNat 0), .int .i64 (.ofNat 0), .int .i64 (.ofNat 0), .int .i64 (.ofNat 0), .int .i64 (.ofNat 0), .int .i64 (.ofNat 0), .int .i64 (.ofNat 0), .int .i64 (.ofNat 0), .int .i64 (.ofNat 0), .int .i64 (.ofNat 0), .int .i64 (.ofNat 0), .int .i64 (.ofNat 0), .int .i64 (.ofNat 0), .int .i64 (.ofNat 0), .int .i64 (.ofNat 0), .int .i64 (.ofNat 0), .int .i64 (.ofNat 0), .bool false, .bool false, .nils, .int .i64 (.ofNat 0), .int .i64 (.ofNat 0), .int .i64 (.ofNat 0), .int .i64 (.ofNat 0), .int .i64 (.ofNat 0), .int .i64 (.ofNat 0), .int .i64 (.ofNat 0), .int .i64 (.ofNat 0), .nils, .int .i64 (.ofNat 0), .int .i64 (.ofNat 0), .nils, .int .i64 (.ofNat 0), .bool false, .int .i64 (.ofNat 0), .str [], .int .i64 (.ofNat 0), .int .i64 (.ofNat 0), .int .i64 (.ofNat 0), .int .i64 (.ofNat 0), .int .i64 (.ofNat 0), .int .i64 (.ofNat 0), .int .i64 (.ofNat 0), .int .i64 (.ofNat 0), .int .i64 (.ofNat 0), .int .i64 (.ofNat 0), .int .i64 (.ofNat 0), .nils, .nils, .nils, .str [], .int .i64 (.ofNat 0)] false),
  (3001, .cells 24 [.int .i64 (.ofNat 5), .bool false, .int .i64 (.ofNat 0), .str [120], .int .i64 (.ofNat 0), .int .i64 (.ofNat 0), .int .i64 (.ofNat 0), .int .i64 (.ofNat 3), .bool false, .int .i64 (.ofNat 6), .str [], .int .i64 (.ofNat 0), .int .i64 (.ofNat 0), .int .i64 (.ofNat 0)] false),
  (3004, .cells 24 [.int .i64 (.ofNat 5), .bool false, .int .i64 (.ofNat 0), .str [120], .int .i64 (.ofNat 0), .int .i64 (.ofNat 0), .int .i64 (.ofNat 0)] false),
  (3008, .cells 24 [.int .i64 (.ofNat 5), .bool false, .int .i64 (.ofNat 0), .str [97], .int .i64 (.ofNat 0), .int .i64 (.ofNat 0), .int .i64 (.ofNat 0)] false),
  (3010, .cells 24 [.int .i64 (.ofNat 3), .bool false, .int .i64 (.ofNat 7), .str [], .int .i64 (.ofNat 0), .int .i64 (.ofNat 0), .int .i64 (.ofNat 0)] false),
  (3015, .cells 24 [.int .i64 (.ofNat 9), .bool false, .int .i64 (.ofNat 0), .str [], .int .i64 (.ofNat 0), .int .i64 (.ofNat 0), .int .i64 (.ofNat 0), .int .i64 (.ofNat 9), .bool false, .int .i64 (.ofNat 0), .str [], .int .i64 (.ofNat 1), .int .i64 (.ofNat 0), .int .i64 (.ofNat 0), .int .i64 (.ofNat 9), .bool false, .int .i64 (.ofNat 0), .str [], .int .i64 (.ofNat 2), .int .i64 (.ofNat 0), .int .i64 (.ofNat 0)] false),
  (3419, .cells 24 [.int .i64 (.ofNat 3), .bool false, .int .i64 (.ofNat 6), .str [], .int .i64 (.ofNat 0), .int .i64 (.ofNat 0), .int .i64 (.ofNat 0)] false),
  (3424, .cells 59 [.int .i64 (.ofNat 3), .str [], .nils, .nils, .nils, .int .i64 (.ofNat 9), .int .i64 (.ofNat 0), .int .i64 (.ofNat 3), .str [], .nils, .slc 3004 0 1 (.exact 1), .slc 3419 0 1 (.exact 1), .int .i64 (.ofNat 9), .int .i64 (.ofNat 0), .int .i64 (.ofNat 3), .str [], .nils, .slc 3008 0 1 (.exact 1), .slc 3010 0 1 (.exact 1), .int .i64 (.ofNat 2), .int .i64 (.ofNat 0), .int .i64 (.ofNat 1), .str [97], .nils, .nils, .nils, .int .i64 (.ofNat 0), .int .i64 (.ofNat 0)] false),
  (3441, .cells 50 [.slc 3001 0 0 (.exact 0), .slc 3015 0 3 (.exact 3), .slc 3424 0 4 (.exact 4), .nils, .int .i64 (.ofNat 0), .int .i64 (.ofNat 0), .int .i64 (.ofNat 0), .int .i64 (.ofNat 0), .int .i64 (.ofNat 0), .int .i64 (.ofNat 0), .int .i64 (.ofNat 0), .nils, .int .i64 (.ofNat 0), .int .i64 (.ofNat 0), .int .i64 (.ofNat 0), .int .i64 (.ofNat 0), .int .i64 (.ofNat 0), .int .i64 (.ofNat 0), .int .i64 (.ofNat 0), .int .i64 (.ofNat 0), .int .i64 (.ofNat 0), .int .i64 (.ofNat 0), .int .i64 (.ofNat 0), .int .i64 (.ofNat 0), .int .i64 (.ofNat 0), .int .i64 (.ofNat 0), .int .i64 (.ofNat 0), .int .i64 (.ofNat 0), .int .i64 (.ofNat 0), .int .i64 (.ofNat 0), .int .i64 (.ofNat 0), .int .i64 (.ofNat 0), .bool false, .bool false, .nils, .int .i64 (.ofNat 0), .int .i64 (.ofNat 0), .int .i64 (.ofNat 0), .int .i64 (.ofNat 0), .int .i64 (.ofNat 0), .int .i64 (.ofNat 0), .int .i64 (.ofNat 0), .int .i64 (.ofNat 0), .nils, .int .i64 (.ofNat 0), .int .i64 (.ofNat 0), .nils, .int .i64 (.ofNat 0), .bool false, .int .i64 (.ofNat 0), .str [], .int .i64 (.ofNat 0), .int .i64 (.ofNat 0), .int .i64 (.ofNat 0), .int .i64 (.ofNat 0), .int .i64 (.ofNat 0), .int .i64 (.ofNat 0), .int .i64 (.ofNat 0), .int .i64 (.ofNat 0), .int .i64 (.ofNat 0), .int .i64 (.ofNat 0), .int .i64 (.ofNat 0), .nils, .nils, .nils, .str [], .int .i64 (.ofNat 0)] false),
  (3444, .cells 24 [.int .i64 (.ofNat 5), .bool false, .int .i64 (.ofNat 0), .str [121], .int .i64 (.ofNat 0), .int .i64 (.ofNat 0), .int .i64 (.ofNat 0), .int .i64 (.ofNat 3), .bool false, .int .i64 (.ofNat 6), .str [], .int .i64 (.ofNat 0), .int .i64 (.ofNat 0), .int .i64 (.ofNat 0)] false),
  (3447, .cells 24 [.int .i64 (.ofNat 5), .bool false, .int .i64 (.ofNat 0), .str [120], .int .i64 (.ofNat 0), .int .i64 (.ofNat 0), .int .i64 (.ofNat 0)] false),
  (3449, .cells 24 [.int .i64 (.ofNat 3), .bool false, .int .i64 (.ofNat 5), .str [], .int .i64 (.ofNat 0), .int .i64 (.ofNat 0), .int .i64 (.ofNat 0)] false),
  (3458, .cells 24 [.int .i64 (.ofNat 9), .bool false, .int .i64 (.ofNat 0), .str [], .int .i64 (.ofNat 0), .int .i64 (.ofNat 0), .int .i64 (.ofNat 0), .int .i64 (.ofNat 9), .bool false, .int .i64 (.ofNat 0), .str [], .int .i64 (.ofNat 1), .int .i64 (.ofNat 0), .int .i64 (.ofNat 0), .int .i64 (.ofNat 9), .bool false, .int .i64 (.ofNat 0), .str [], .int .i64 (.ofNat 2), .int .i64 (.ofNat 0), .int .i64 (.ofNat 0)] false),
  (3933, .cells 24 [.int .i64 (.ofNat 5), .bool false, .int .i64 (.ofNat 0), .str [97], .int .i64 (.ofNat 0), .int .i64 (.ofNat 0), .int .i64 (.ofNat 0), .int .i64 (.ofNat 5), .bool false, .int .i64 (.ofNat 0), .str [121], .int .i64 (.ofNat 0), .int .i64 (.ofNat 0), .int .i64 (.ofNat 0)] true),
  (3942, .cells 24 [.int .i64 (.ofNat 3), .bool false, .int .i64 (.ofNat 7), .str [], .int .i64 (.ofNat 0), .int .i64 (.ofNat 0), .int .i64 (.ofNat 0), .int .i64 (.ofNat 3), .bool false, .int .i64 (.ofNat 6), .str [], .int .i64 (.ofNat 0), .int .i64 (.ofNat 0), .int .i64 (.ofNat 0)] true),
  (3947, .cells 59 [.int .i64 (.ofNat 3), .str [], .nils, .nils, .nils, .int .i64 (.ofNat 9), .int .i64 (.ofNat 0), .int .i64 (.ofNat 3), .str [], .nils, .slc 3447 0 1 (.exact 1), .slc 3449 0 1 (.exact 1), .int .i64 (.ofNat 9), .int .i64 (.ofNat 0), .int .i64 (.ofNat 3), .str [], .nils, .slc 3933 0 2 (.upto 7 2), .slc 3942 0 2 (.upto 7 2), .int .i64 (.ofNat 2), .int .i64 (.ofNat 0), .int .i64 (.ofNat 1), .str [97], .nils, .nils, .nils, .int .i64 (.ofNat 0), .int .i64 (.ofNat 0)] false),
  (3964, .cells 50 [.slc 3444 0 0 (.exact 0), .slc 3458 0 3 (.exact 3), .slc 3947 0 4 (.exact 4), .nils, .int .i64 (.ofNat 0), .int .i64 (.ofNat 0), .int .i64 (.ofNat 0), .int .i64 (.ofNat 0), .int .i64 (.ofNat 0), .int .i64 (.ofNat 0), .int .i64 (.ofNat 0), .nils, .int .i64 (.ofNat 0), .int .i64 (.ofNat 0), .int .i64 (.ofNat 0), .int .i64 (.ofNat 0), .int .i64 (.ofNat 0), .int .i64 (.ofNat 0), .int .i64 (.ofNat 0), .int .i64 (.ofNat 0), .int .i64 (.ofNat 0), .int .i64 (.ofNat 0), .int .i64 (.ofNat 0), .int .i64 (.ofNat 0), .int .i64 (.ofNat 0), .int .i64 (.ofNat 0), .int .i64 (.ofNat 0), .int .i64 (.ofNat 0), .int .i64 (.ofNat 0), .int .i64 (.ofNat 0), .int .i64 (.ofNat 0), .int .i64 (.ofNat 0), .bool false, .bool false, .nils, .int .i64 (.ofNat 0), .int .i64 (.ofNat 0), .int .i64 (.ofNat 0), .int .i64 (.ofNat 0), .int .i64 (.ofNat 0), .int .i64 (.ofNat 0), .int .i64 (.ofNat 0), .int .i64 (.ofNat 0), .nils, .int .i64 (.ofNat 0), .int .i64 (.ofNat 0), .nils, .int .i64 (.ofNat 0), .bool false, .int .i64 (.ofNat 0), .str [], .int .i64 (.ofNat 0), .int .i64 (.ofNat 0), .int .i64 (.ofNat 0), .int .i64 (.ofNat 0), .int .i64 (.ofNat 0), .int .i64 (.ofNat 0), .int .i64 (.ofNat 0), .int .i64 (.ofNat 0), .int .i64 (.ofNat 0), .int .i64 (.ofNat 0), .int .i64 (.ofNat 0), .nils, .nils, .nils, .str [], .int .i64 (.ofNat 0)] false),
  (3974, .cells 24 [.int .i64 (.ofNat 5), .bool false, .int .i64 (.ofNat 0), .str [97], .int .i64 (.ofNat 0), .int .i64 (.ofNat 0), .int .i64 (.ofNat 0)] false),
  (3976, .cells 24 [.int .i64 (.ofNat 3), .bool false, .int .i64 (.ofNat 7), .str [], .int .i64 (.ofNat 0), .int .i64 (.ofNat 0), .int .i64 (.ofNat 0)] false),
  (3981, .cells 24 [.int .i64 (.ofNat 9), .bool false, .int .i64 (.ofNat 0), .str [], .int .i64 (.ofNat 0), .int .i64 (.ofNat 0), .int .i64 (.ofNat 0), .int .i64 (.ofNat 9), .bool false, .int .i64 (.ofNat 0), .str [], .int .i64 (.ofNat 1), .int .i64 (.ofNat 0), .int .i64 (.ofNat 0), .int .i64 (.ofNat 9), .bool false, .int .i64 (.ofNat 0), .str [], .int .i64 (.ofNat 2), .int .i64 (.ofNat 0), .int .i64 (.ofNat 0)] false),
  (4219, .cells 24 [.int .i64 (.ofNat 5), .bool false, .int .i64 (.ofNat 0), .str [120], .int .i64 (.ofNat 0), .int .i64 (.ofNat 0), .int .i64 (.ofNat 0), .int .i64 (.ofNat 5), .bool false, .int .i64 (.ofNat 0), .str [97], .int .i64 (.ofNat 0), .int .i64 (.ofNat 0), .int .i64 (.ofNat 0)] true),
  (4228, .cells 24 [.int .i64 (.ofNat 3), .bool false, .int .i64 (.ofNat 5), .str [], .int .i64 (.ofNat 0), .int .i64 (.ofNat 0), .int .i64 (.ofNat 0), .int .i64 (.ofNat 3), .bool false, .int .i64 (.ofNat 7), .str [], .int .i64 (.ofNat 0), .int .i64 (.ofNat 0), .int .i64 (.ofNat 0)] true),
  (4233, .cells 59 [.int .i64 (.ofNat 3), .str [], .nils, .nils, .nils, .int .i64 (.ofNat 9), .int .i64 (.ofNat 0), .int .i64 (.ofNat 3), .str [], .nils, .slc 4219 0 2 (.upto 7 2), .slc 4228 0 2 (.upto 7 2), .int .i64 (.ofNat 9), .int .i64 (.ofNat 0), .int .i64 (.ofNat 3), .str [], .nils, .slc 3974 0 1 (.exact 1), .slc 3976 0 1 (.exact 1), .int .i64 (.ofNat 2), .int .i64 (.ofNat 0), .int .i64 (.ofNat 1), .str [97], .nils, .nils, .nils, .int .i64 (.ofNat 0), .int .i64 (.ofNat 0)] false),
  (4258, .cells 24 [.int .i64 (.ofNat 9), .bool false, .int .i64 (.ofNat 0), .str [], .int .i64 (.ofNat 1), .int .i64 (.ofNat 0), .int .i64 (.ofNat 0)] true),
  (4265, .cells 50 [.slc 4258 0 1 (.upto 7 1), .slc 3981 0 3 (.exact 3), .slc 4233 0 4 (.exact 4), .nils, .int .i64 (.ofNat 0), .int .i64 (.ofNat 0), .int .i64 (.ofNat 0), .int .i64 (.ofNat 0), .int .i64 (.ofNat 0), .int .i64 (.ofNat 0), .int .i64 (.ofNat 0), .nils, .int .i64 (.ofNat 0), .int .i64 (.ofNat 0), .int .i64 (.ofNat 0), .int .i64 (.ofNat 0), .int .i64 (.ofNat 0), .int .i64 (.ofNat 0), .int .i64 (.ofNat 0), .int .i64 (.ofNat 0), .int .i64 (.ofNat 0), .int .i64 (.ofNat 0), .int .i64 (.ofNat 0), .int .i64 (.ofNat 0), .int .i64 (.ofNat 0), .int .i64 (.ofNat 0), .int .i64 (.ofNat 0), .int .i64 (.ofNat 0), .int .i64 (.ofNat 0), .int .i64 (.ofNat 0), .int .i64 (.ofNat 0), .int .i64 (.ofNat 0), .bool false, .bool false, .nils, .int .i64 (.ofNat 0), .int .i64 (.ofNat 0), .int .i64 (.ofNat 0), .int .i64 (.ofNat 0), .int .i64 (.ofNat 0), .int .i64 (.ofNat 0), .int .i64 (.ofNat 0), .int .i64 (.ofNat 0), .nils, .int .i64 (.ofNat 0), .int .i64 (.ofNat 0), .nils, .int .i64 (.ofNat 0), .bool false, .int .i64 (.ofNat 0), .str [], .int .i64 (.ofNat 0), .int .i64 (.ofNat 0), .int .i64 (.ofNat 0), .int .i64 (.ofNat 0), .int .i64 (.ofNat 0), .int .i64 (.ofNat 0), .int .i64 (.ofNat 0), .int .i64 (.ofNat 0), .int .i64 (.ofNat 0), .int .i64 (.ofNat 0), .int .i64 (.ofNat 0), .nils, .nils, .nils, .str [], .int .i64 (.ofNat 0)] false),
  (4268, .cells 24 [.int .i64 (.ofNat 9), .bool false, .int .i64 (.ofNat 0), .str [], .int .i64 (.ofNat 2), .int .i64 (.ofNat 0), .int .i64 (.ofNat 0), .int .i64 (.ofNat 5), .bool false, .int .i64 (.ofNat 0), .str [97], .int .i64 (.ofNat 0), .int .i64 (.ofNat 0), .int .i64 (.ofNat 0)] false),
  (4271, .cells 24 [.int .i64 (.ofNat 5), .bool false, .int .i64 (.ofNat 0), .str [120], .int .i64 (.ofNat 0), .int .i64 (.ofNat 0), .int .i64 (.ofNat 0)] false),
  (4273, .cells 24 [.int .i64 (.ofNat 3), .bool false, .int .i64 (.ofNat 5), .str [], .int .i64 (.ofNat 0), .int .i64 (.ofNat 0), .int .i64 (.ofNat 0)] false),
  (4282, .cells 24 [.int .i64 (.ofNat 9), .bool false, .int .i64 (.ofNat 0), .str [], .int .i64 (.ofNat 0), .int .i64 (.ofNat 0), .int .i64 (.ofNat 0), .int .i64 (.ofNat 9), .bool false, .int .i64 (.ofNat 0), .str [], .int .i64 (.ofNat 1), .int .i64 (.ofNat 0), .int .i64 (.ofNat 0), .int .i64 (.ofNat 9), .bool false, .int .i64 (.ofNat 0), .str [], .int .i64 (.ofNat 2), .int .i64 (.ofNat 0), .int .i64 (.ofNat 0)] false),
  (4485, .cells 24 [.int .i64 (.ofNat 0), .bool false, .int .i64 (.ofNat 0), .str [], .int .i64 (.ofNat 0), .int .i64 (.ofNat 0), .int .i64 (.ofNat 0)] true),
  (4503, .cells 24 [.int .i64 (.ofNat 0), .bool false, .int .i64 (.ofNat 0), .str [], .int .i64 (.ofNat 0), .int .i64 (.ofNat 0), .int .i64 (.ofNat 0)] true),
  (4520, .cells 59 [.int .i64 (.ofNat 3), .str [], .nils, .nils, .nils, .int .i64 (.ofNat 9), .int .i64 (.ofNat 0), .int .i64 (.ofNat 3), .str [], .nils, .slc 4271 0 1 (.exact 1), .slc 4273 0 1 (.exact 1), .int .i64 (.ofNat 9), .int .i64 (.ofNat 0), .int .i64 (.ofNat 3), .str [], .nils, .slc 4485 0 0 (.upto 7 1), .slc 4503 0 0 (.upto 7 1), .int .i64 (.ofNat 2), .int .i64 (.ofNat 0), .int .i64 (.ofNat 1), .str [97], .nils, .nils, .nils, .int .i64 (.ofNat 0), .int .i64 (.ofNat 0)] false),
  (4538, .cells 50 [.slc 4268 0 0 (.exact 0), .slc 4282 0 3 (.exact 3), .slc 4520 0 4 (.exact 4), .nils, .int .i64 (.ofNat 0), .int .i64 (.ofNat 0), .int .i64 (.ofNat 0), .int .i64 (.ofNat 0), .int .i64 (.ofNat 0), .int .i64 (.ofNat 0), .int .i64 (.ofNat 0), .nils, .int .i64 (.ofNat 0), .int .i64 (.ofNat 0), .int .i64 (.ofNat 0), .int .i64 (.ofNat 0), .int .i64 (.ofNat 0), .int .i64 (.ofNat 0), .int .i64 (.ofNat 0), .int .i64 (.ofNat 0), .int .i64 (.ofNat 0), .int .i64 (.ofNat 0), .int .i64 (.ofNat 0), .int .i64 (.ofNat 0), .int .i64 (.ofNat 0), .int .i64 (.ofNat 0), .int .i64 (.ofNat 0), .int .i64 (.ofNat 0), .int .i64 (.ofNat 0), .int .i64 (.ofNat 0), .int .i64 (.ofNat 0), .int .i64 (.ofNat 0), .bool false, .bool false, .nils, .int .i64 (.ofNat 0), .int .i64 (.ofNat 0), .int .i64 (.ofNat 0), .int .i64 (.ofNat 0), .int .i64 (.ofNat 0), .int .i64 (.ofNat 0), .int .i64 (.ofNat 0), .int .i64 (.ofNat 0), .nils, .int .i64 (.ofNat 0), .int .i64 (.ofNat 0), .nils, .int .i64 (.ofNat 0), .bool false, .int .i64 (.ofNat 0), .str [], .int .i64 (.ofNat 0), .int .i64 (.ofNat 0), .int .i64 (.ofNat 0), .int .i64 (.ofNat 0), .int .i64 (.ofNat 0), .int .i64 (.ofNat 0), .int .i64 (.ofNat 0), .int .i64 (.ofNat 0), .int .i64 (.ofNat 0), .int .i64 (.ofNat 0), .int .i64 (.ofNat 0), .nils, .nils, .nils, .str [], .int .i64 (.ofNat 0)] false),
  (4544, .cells 24 [.int .i64 (.ofNat 5), .bool false, .int .i64 (.ofNat 0), .str [120], .int .i64 (.ofNat 0), .int .i64 (.ofNat 0), .int .i64 (.ofNat 0)] false),
  (4546, .cells 24 [.int .i64 (.ofNat 3), .bool false, .int .i64 (.ofNat 5), .str [], .int .i64 (.ofNat 0), .int .i64 (.ofNat 0), .int .i64 (.ofNat 0)] false),
  (4555, .cells 24 [.int .i64 (.ofNat 9), .bool false, .int .i64 (.ofNat 0), .str [], .int .i64 (.ofNat 0), .int .i64 (.ofNat 0), .int .i64 (.ofNat 0), .int .i64 (.ofNat 9), .bool false, .int .i64 (.ofNat 0), .str [], .int .i64 (.ofNat 1), .int .i64 (.ofNat 0), .int .i64 (.ofNat 0), .int .i64 (.ofNat 9), .bool false, .int .i64 (.ofNat 0), .str [], .int .i64 (.ofNat 2), .int .i64 (.ofNat 0), .int .i64 (.ofNat 0)] false),
  (4769, .cells 24 [.int .i64 (.ofNat 5), .bool false, .int .i64 (.ofNat 0), .str [97], .int .i64 (.ofNat 0), .int .i64 (.ofNat 0), .int .i64 (.ofNat 0), .int .i64 (.ofNat 5), .bool false, .int .i64 (.ofNat 0), .str [98], .int .i64 (.ofNat 0), .int .i64 (.ofNat 0), .int .i64 (.ofNat 0)] true),
  (4778, .cells 24 [.int .i64 (.ofNat 3), .bool false, .int .i64 (.ofNat 7), .str [], .int .i64 (.ofNat 0), .int .i64 (.ofNat 0), .int .i64 (.ofNat 0), .int .i64 (.ofNat 3), .bool false, .int .i64 (.ofNat 8), .str [], .int .i64 (.ofNat 0), .int .i64 (.ofNat 0), .int .i64 (.ofNat 0)] true),
  (4783, .cells 59 [.int .i64 (.ofNat 3), .str [], .nils, .nils, .nils, .int .i64 (.ofNat 9), .int .i64 (.ofNat 0), .int .i64 (.ofNat 3), .str [], .nils, .slc 4544 0 1 (.exact 1), .slc 4546 0 1 (.exact 1), .int .i64 (.ofNat 9), .int .i64 (.ofNat 0), .int .i64 (.ofNat 3), .str [], .nils, .slc 4769 0 2 (.upto 7 2), .slc 4778 0 2 (.upto 7 2), .int .i64 (.ofNat 2), .int .i64 (.ofNat 0), .int .i64 (.ofNat 1), .str [97], .nils, .nils, .nils, .int .i64 (.ofNat 0), .int .i64 (.ofNat 0)] false),
  (4800, .cells 50 [.slc 4803 0 2 (.exact 2), .slc 4555 0 3 (.exact 3), .slc 4783 0 4 (.exact 4), .nils, .int .i64 (.ofNat 0), .int .i64 (.ofNat 0), .int .i64 (.ofNat 0), .int .i64 (.ofNat 0), .int .i64 (.ofNat 0), .int .i64 (.ofNat 0), .int .i64 (.ofNat 0), .nils, .int .i64 (.ofNat 0), .int .i64 (.ofNat 0), .int .i64 (.ofNat 0), .int .i64 (.ofNat 0), .int .i64 (.ofNat 0), .int .i64 (.ofNat 0), .int .i64 (.ofNat 0), .int .i64 (.ofNat 0), .int .i64 (.ofNat 0), .int .i64 (.ofNat 0), .int .i64 (.ofNat 0), .int .i64 (.ofNat 0), .int .i64 (.ofNat 0), .int .i64 (.ofNat 0), .int .i64 (.ofNat 0), .int .i64 (.ofNat 0), .int .i64 (.ofNat 0), .int .i64 (.ofNat 0), .int .i64 (.ofNat 0), .int .i64 (.ofNat 0), .bool false, .bool false, .nils, .int .i64 (.ofNat 0), .int .i64 (.ofNat 0), .int .i64 (.ofNat 0), .int .i64 (.ofNat 0), .int .i64 (.ofNat 0), .int .i64 (.ofNat 0), .int .i64 (.ofNat 0), .int .i64 (.ofNat 0), .nils, .int .i64 (.ofNat 0), .int .i64 (.ofNat 0), .nils, .int .i64 (.ofNat 0), .bool false, .int .i64 (.ofNat 0), .str [], .int .i64 (.ofNat 0), .int .i64 (.ofNat 0), .int .i64 (.ofNat 0), .int .i64 (.ofNat 0), .int .i64 (.ofNat 0), .int .i64 (.ofNat 0), .int .i64 (.ofNat 0), .int .i64 (.ofNat 0), .int .i64 (.ofNat 0), .int .i64 (.ofNat 0), .int .i64 (.ofNat 0), .nils, .nils, .nils, .str [], .int .i64 (.ofNat 0)] false),
  (4803, .cells 24 [.int .i64 (.ofNat 5), .bool false, .int .i64 (.ofNat 0), .str [99], .int .i64 (.ofNat 0), .int .i64 (.ofNat 0), .int .i64 (.ofNat 0), .int .i64 (.ofNat 3), .bool false, .int .i64 (.ofNat 9), .str [], .int .i64 (.ofNat 0), .int .i64 (.ofNat 0), .int .i64 (.ofNat 0)] false)]⟩
noncomputable def stm2 : List Code := stm1.drop 12
def st3 : Go.Sx.St :=
  ⟨523, [(0, .bool false),
  (1, .ptr 2908 0),
  (2, .ptr 2909 0),
  (3, .ptr 2910 0),
  (37, .bool true),
  (38, .bool true)], 8621, [(2908, .cells 24 [.int .i64 (.ofNat 0), .bool false, .int .i64 (.ofNat 0), .str [], .int .i64 (.ofNat 0), .int .i64 (.ofNat 0), .int .i64 (.ofNat 0)] false),
  (2909, .cells 24 [.int .i64 (.ofNat 1), .bool false, .int .i64 (.ofNat 0), .str [], .int .i64 (.ofNat 0), .int .i64 (.ofNat 0), .int .i64 (.ofNat 0)] false),
  (2910, .cells 24 [.int .i64 (.ofNat 6), .bool false, .int .i64 (.ofNat 0), .str [], .int .i64 (.ofNat 3), .int .i64 (.ofNat 0), .int .i64 (.ofNat 1)] false)]⟩
noncomputable def stm3 : List Code := stm2.drop 18
def st4 : Go.Sx.St :=
  ⟨523, [(0, .bool false),
  (37, .bool true),
  (38, .bool true),
  (39, .bool true)], 12472, []⟩
noncomputable def stm4 : List Code := stm3.drop 1
set_option maxRecDepth 1000000 in
theorem piece0 : Go.Sx.pieceB vars st1 ((Go.Sx.chainS Tryz.prog (stm0.take 2)).f (Go.Sx.runS Tryz.prog 100000) 100000 { n := Tryz.f3.ntmps, dflt := true, t := .leaf } (Go.Sx.laidHeap vars)) = true := by kernel_rfl
set_option maxRecDepth 1000000 in
theorem piece1 : Go.Sx.pieceB vars st2 ((Go.Sx.chainS Tryz.prog (stm1.take 12)).f (Go.Sx.runS Tryz.prog 100000) 100000 (Go.Sx.stT st1) (Go.Sx.stH vars st1)) = true := by kernel_rfl
set_option maxRecDepth 1000000 in
theorem piece2 : Go.Sx.pieceB vars st3 ((Go.Sx.chainS Tryz.prog (stm2.take 18)).f (Go.Sx.runS Tryz.prog 100000) 100000 (Go.Sx.stT st2) (Go.Sx.stH vars st2)) = true := by kernel_rfl
set_option maxRecDepth 1000000 in
theorem piece3 : Go.Sx.pieceB vars st4 ((Go.Sx.chainS Tryz.prog (stm3.take 1)).f (Go.Sx.runS Tryz.prog 100000) 100000 (Go.Sx.stT st3) (Go.Sx.stH vars st3)) = true := by kernel_rfl
set_option maxRecDepth 1000000 in
theorem piece4 : Go.Sx.lastB Tryz.prog Tryz.f3 vars ((Go.Sx.chainS Tryz.prog stm4).f (Go.Sx.runS Tryz.prog 100000) 100000 (Go.Sx.stT st4) (Go.Sx.stH vars st4)) = true := by kernel_rfl
theorem run4 : Go.Sx.Pieces Tryz.prog 100000 Tryz.f3 vars stm4 (Go.Sx.stT st4) (Go.Sx.stH vars st4) := Go.Sx.piece_last piece4
theorem run3 : Go.Sx.Pieces Tryz.prog 100000 Tryz.f3 vars stm3 (Go.Sx.stT st3) (Go.Sx.stH vars st3) := by
  have h := Go.Sx.piece_more (cs := stm3.take 1) (ds := stm4) piece3 run4
  rwa [show stm3.take 1 ++ stm4 = stm3 from List.take_append_drop 1 stm3] at h
theorem run2 : Go.Sx.Pieces Tryz.prog 100000 Tryz.f3 vars stm2 (Go.Sx.stT st2) (Go.Sx.stH vars st2) := by
  have h := Go.Sx.piece_more (cs := stm2.take 18) (ds := stm3) piece2 run3
  rwa [show stm2.take 18 ++ stm3 = stm2 from List.take_append_drop 18 stm2] at h
theorem run1 : Go.Sx.Pieces Tryz.prog 100000 Tryz.f3 vars stm1 (Go.Sx.stT st1) (Go.Sx.stH vars st1) := by
  have h := Go.Sx.piece_more (cs := stm1.take 12) (ds := stm2) piece1 run2
  rwa [show stm1.take 12 ++ stm2 = stm1 from List.take_append_drop 12 stm1] at h
theorem run0 : Go.Sx.Pieces Tryz.prog 100000 Tryz.f3 vars stm0 { n := Tryz.f3.ntmps, dflt := true, t := .leaf } (Go.Sx.laidHeap vars) := by
  have h := Go.Sx.piece_more (cs := stm0.take 2) (ds := stm1) piece0 run1
  rwa [show stm0.take 2 ++ stm1 = stm0 from List.take_append_drop 2 stm0] at h
theorem walk {w : World} (h : Go.Sx.LaidIn w vars) :
    Calls Tryz.prog 3 #[] w fun e w' => e = .returned (.bool true) ∧ Below w.heap.size w w' :=
  Go.Sx.call_pieces okayed Tryz.func3 body_eq run0 h

theorem door_met (os : Os) (args : Array Value) : laidMetH Tryz.prog laid ((World.doorLaid Tryz.prog 400 os).forCall (fun _ _ => 0) ⟨#[], args, []⟩).memory :=
  laidMetH_of_parts3 (fuel := 8) (laidMet_of_run' 8 (by kernel_rfl) (by kernel_rfl)) (by kernel_rfl) (by kernel_rfl)

set_option maxRecDepth 100000 in
theorem lifted (os : Os) (started : os.Started) (H : Type) (enc : TypeId × Value → H) :
    ReturnsInHanded {} Tryz.checked os 3 .any (fun w args => (Rows.dictKnownSpec.pre enc Tryz.prog Tryz.f3 [] false w args ∧ laidMetH Tryz.prog laid w) ∧ sizedMet enc Tryz.prog Tryz.f3 (OpenSpec.ofChange Rows.dictKnownSpec) false w args)
      (Rows.dictKnownSpec.post enc Tryz.prog Tryz.f3 false true false false) := by
  refine returnsInHanded_of_change_and (C := Tryz.checked) (X := fun w _ => laidMetH Tryz.prog laid w) (fun _ _ _ hh h => h.of_heap hh) own started (by kernel_rfl) Tryz.func3
    (ChangeSpec.witness_shaped (enc := enc) (C := Tryz.checked) (os := os) (X := fun w _ => laidMetH Tryz.prog laid w) false (World.doorLaid Tryz.prog 400 os) #[] 8 rfl (World.shaped_of_RefB (by kernel_rfl) (by kernel_rfl)) (by kernel_rfl) (by kernel_rfl) (by kernel_rfl) (door_met os _)) ?_
  intro W base args ds gs before hval0 hW _ _ hL _
  have hval : ∀ (j : Nat) t v, Tryz.f3.params[j]? = some t → args[j]? = some v → Value.okWide Tryz.prog W .any base t v := hval0
  have hW' := hW
  obtain ⟨p, q, hA0, hV, rfl, hfz, hnd⟩ := hW
  have hA : DataW.TrodAll enc Tryz.prog W 0 (fun _ => true) true Tryz.f3.params.toList args.toList ds p := hA0
  rw [Tryz.params3] at hA hval
  obtain ⟨rfl, rfl, rfl⟩ := trodAll_none hA
  obtain ⟨rfl, rfl⟩ := trodVars_none hV
  clear hA0 hval0
  simp only [List.append_nil] at hW'
  refine (walk (Go.Sx.laidIn_of hL (by kernel_rfl) vars_eq)).mono fun e W' ⟨he, hg⟩ => ?_
  subst he
  exact ⟨_, rfl, Go.Sx.post_of_below (pa := []) (pv := []) hW' (fun _ _ _ => (trodAll_cons_mk (shut_bool Tryz.underlying4 _) trodAll_mk0)) (fun sp _ => rfl) (fun _ _ => rfl) rfl
    hg (ok_one (by kernel_rfl) rfl (okWide_bool_mk Tryz.underlying4 _))⟩

theorem over : Rows.DictKnownSaid :=
  OpenClaim.holds_of_wide 3 Tryz.f3 rfl rfl rfl rfl rfl rfl rfl ⟨rfl, rfl, rfl, rfl, rfl⟩ rfl rfl rfl rfl rfl (by kernel_rfl) Tryz.func3 (by kernel_rfl)
    (of_decide_eq_true (by kernel_rfl)) (by unfold Func.isWrapper; first | (rw [if_pos (by decide +kernel)]; kernel_rfl) | (rw [if_neg (by decide +kernel)]; exact ⟨rfl, rfl⟩))
    (fun os started H enc _ => lifted os started H enc)

theorem proved : Rows.DictKnownCardSaid :=
  Claim7.holds_tied_plain_at .later [] [.data] true (true, "17b61ad5786313fb3c0451d724b00c85eb8287b67324f8d6783b076d1719efae") false
    over (fun _ h => by cases h) (by kernel_rfl) (fun _ h => by cases h) dictKnown_row_tie rfl ⟨rfl, rfl⟩ (by kernel_rfl) rfl
    (fun f fn hf hfn => by
      obtain rfl : f = 3 := Option.some.inj ((show Tryz.prog.funcNamed "chase/chaselaw16.DictKnown" = some 3 by kernel_rfl).symm.trans hf) |>.symm
      obtain rfl : fn = Tryz.f3 := (Option.some.inj (Tryz.func3.symm.trans hfn)).symm
      exact ⟨by kernel_rfl, fun j t ht => by
        rw [Tryz.params3] at ht
        simp at ht⟩)
    (by kernel_rfl)
#print axioms proved
end Go.Proofs.YtjmjjkcecgdkeaaGreatDoor.dictKnown
