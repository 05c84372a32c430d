/- 'chase/chaselaw11.HeapKnown' returns true, and nothing that was there is changed. Condition: the package variables that the row lists hold what the program's text gives them. The call takes no argument: it is run by an executor that is proved sound against the model. -/
import Derived.Test.YtjmjjkcecgdkeaaDoorRows
import Derived.Test.YtjmjjkcecgdkeaaDoorCards
import Derived.Test.YtjmjjkcecgdkeaaDoorTie
import Derived.WalkKit
import Derived.ProofKit
import Derived.LaidMore
import Derived.OpenShut
import Derived.Stop.Joined
import Derived.SevenTiedAt
import Derived.Test.YtjmjjkcecgdkeaaDoorSxF
namespace Go.Proofs.YtjmjjkcecgdkeaaDoor.heapKnown
open Go.ChangeShapes Go.WideShapes Go.ChangeAt Go.WideMaps Go.WideElems Go.RowKit
set_option linter.unusedVariables false

theorem own : ownKnob Tryd.prog.godebug = none := by kernel_rfl
theorem okayed : Go.Sx.okProg Tryd.prog = true := by kernel_rfl

noncomputable def laid : List (String × DataW Unit) := [("chase/object.kinds", Rows.laid_chase_object_kinds)]
noncomputable def vars : List (Nat × List Go.Sx.AV) := (Go.Sx.laidOf Tryd.prog laid).getD []
theorem some_getD {α : Type} {x : Option α} {d : α} (h : x.isSome = true) : x = some (x.getD d) := by
  cases x with
  | none => cases h
  | some y => rfl
theorem vars_eq : Go.Sx.laidOf Tryd.prog laid = some vars := some_getD (by kernel_rfl)

noncomputable def body : Code := (Tryd.f4.body).getD .skip
theorem body_eq : Tryd.f4.body = some body := some_getD (by kernel_rfl)
noncomputable def stm0 : List Code := Go.Sx.flat body
def st1 : Go.Sx.St :=
  ⟨310, [(0, .bool false),
  (1, .slc 1404 0 3 (.exact 3)),
  (2, .ptr 1405 0),
  (3, .ptr 1428 0),
  (4, .int .i64 (.ofNat 0)),
  (6, .int .i64 (.ofNat 23)),
  (8, .int .i64 (.ofNat 23)),
  (10, .int .i64 (.ofNat 22)),
  (12, .int .i64 (.ofNat 23)),
  (14, .int .i64 (.ofNat 31)),
  (15, .int .i64 (.ofNat 1)),
  (16, .int .i64 (.ofNat 0)),
  (17, .int .i64 (.ofNat 3)),
  (18, .int .i64 (.ofNat 0)),
  (20, .int .i64 (.ofNat 22)),
  (22, .int .i64 (.ofNat 22)),
  (25, .int .i64 (.ofNat 23)),
  (29, .int .i64 (.ofNat 0)),
  (32, .int .i64 (.ofNat 27))], 2030, [(1401, .cells 33 [.int .i64 (.ofNat 3), .bool false, .int .i64 (.ofNat 1), .str [], .int .i64 (.ofNat 0), .int .i64 (.ofNat 0), .int .i64 (.ofNat 0), .int .i64 (.ofNat 6), .bool false, .int .i64 (.ofNat 0), .str [], .int .i64 (.ofNat 0), .int .i64 (.ofNat 2), .int .i64 (.ofNat 2), .int .i64 (.ofNat 0), .bool false, .int .i64 (.ofNat 0), .str [], .int .i64 (.ofNat 0), .int .i64 (.ofNat 0), .int .i64 (.ofNat 0)] false),
  (1402, .cells 33 [.int .i64 (.ofNat 5), .bool false, .int .i64 (.ofNat 0), .str [97], .int .i64 (.ofNat 0), .int .i64 (.ofNat 0), .int .i64 (.ofNat 0)] false),
  (1403, .cells 33 [.int .i64 (.ofNat 3), .bool false, .int .i64 (.ofNat 7), .str [], .int .i64 (.ofNat 0), .int .i64 (.ofNat 0), .int .i64 (.ofNat 0)] false),
  (1404, .cells 46 [.int .i64 (.ofNat 1), .str [97, 98, 99, 100, 101, 102], .nils, .nils, .nils, .int .i64 (.ofNat 0), .int .i64 (.ofNat 0), .int .i64 (.ofNat 2), .str [], .slc 1401 0 3 (.exact 3), .nils, .nils, .int .i64 (.ofNat 0), .int .i64 (.ofNat 0), .int .i64 (.ofNat 3), .str [], .nils, .slc 1402 0 1 (.exact 1), .slc 1403 0 1 (.exact 1), .int .i64 (.ofNat 2), .int .i64 (.ofNat 0)] false),
  (1405, .cells 33 [.int .i64 (.ofNat 7), .bool false, .int .i64 (.ofNat 0), .str [], .int .i64 (.ofNat 1), .int .i64 (.ofNat 0), .int .i64 (.ofNat 3)] false),
  (1428, .cells 33 [.int .i64 (.ofNat 6), .bool false, .int .i64 (.ofNat 0), .str [], .int .i64 (.ofNat 0), .int .i64 (.ofNat 3), .int .i64 (.ofNat 2)] false)]⟩
noncomputable def stm1 : List Code := stm0.drop 22
def st2 : Go.Sx.St :=
  ⟨310, [(0, .bool false),
  (1, .slc 1404 0 3 (.exact 3)),
  (2, .ptr 1405 0),
  (3, .ptr 1428 0),
  (4, .int .i64 (.ofNat 0)),
  (6, .int .i64 (.ofNat 23)),
  (8, .int .i64 (.ofNat 23)),
  (10, .int .i64 (.ofNat 22)),
  (12, .int .i64 (.ofNat 23)),
  (14, .int .i64 (.ofNat 31)),
  (15, .int .i64 (.ofNat 1)),
  (16, .int .i64 (.ofNat 0)),
  (17, .int .i64 (.ofNat 3)),
  (18, .int .i64 (.ofNat 0)),
  (20, .int .i64 (.ofNat 22)),
  (22, .int .i64 (.ofNat 22)),
  (25, .int .i64 (.ofNat 23)),
  (29, .int .i64 (.ofNat 0)),
  (32, .int .i64 (.ofNat 27))], 7271, [(1401, .cells 33 [.int .i64 (.ofNat 3), .bool false, .int .i64 (.ofNat 1), .str [], .int .i64 (.ofNat 0), .int .i64 (.ofNat 0), .int .i64 (.ofNat 0), .int .i64 (.ofNat 6), .bool false, .int .i64 (.ofNat 0), .str [], .int .i64 (.ofNat 0), .int .i64 (.ofNat 2), .int .i64 (.ofNat 2), .int .i64 (.ofNat 0), .bool false, .int .i64 (.ofNat 0), .str [], .int .i64 (.ofNat 0), .int .i64 (.ofNat 0), .int .i64 (.ofNat 0)] false),
  (1402, .cells 33 [.int .i64 (.ofNat 5), .bool false, .int .i64 (.ofNat 0), .str [97], .int .i64 (.ofNat 0), .int .i64 (.ofNat 0), .int .i64 (.ofNat 0)] false),
  (1403, .cells 33 [.int .i64 (.ofNat 3), .bool false, .int .i64 (.ofNat 7), .str [], .int .i64 (.ofNat 0), .int .i64 (.ofNat 0), .int .i64 (.ofNat 0)] false),
  (1404, .cells 46 [.int .i64 (.ofNat 1), .str [97, 98, 99, 100, 101, 102], .nils, .nils, .nils, .int .i64 (.ofNat 0), .int .i64 (.ofNat 0), .int .i64 (.ofNat 2), .str [], .slc 1401 0 3 (.exact 3), .nils, .nils, .int .i64 (.ofNat 0), .int .i64 (.ofNat 0), .int .i64 (.ofNat 3), .str [], .nils, .slc 1402 0 1 (.exact 1), .slc 1403 0 1 (.exact 1), .int .i64 (.ofNat 2), .int .i64 (.ofNat 0)] false),
  (1405, .cells 33 [.int .i64 (.ofNat 7), .bool false, .int .i64 (.ofNat 0), .str [], .int .i64 (.ofNat 1), .int .i64 (.ofNat 0), .int .i64 (.ofNat 3)] false),
  (1428, .cells 33 [.int .i64 (.ofNat 6), .bool false, .int .i64 (.ofNat 0), .str [], .int .i64 (.ofNat 0), .int .i64 (.ofNat 3), .int .i64 (.ofNat 2)] false)]⟩
noncomputable def stm2 : List Code := stm1.drop 3
set_option maxRecDepth 1000000 in
theorem piece0 : Go.Sx.pieceB vars st1 ((Go.Sx.chainS Tryd.prog (stm0.take 22)).f (Go.Sx.runS Tryd.prog 100000) 100000 { n := Tryd.f4.ntmps, dflt := true, t := .leaf } (Go.Sx.laidHeap vars)) = true := by kernel_rfl
set_option maxRecDepth 1000000 in
theorem piece1 : Go.Sx.pieceB vars st2 ((Go.Sx.chainS Tryd.prog (stm1.take 3)).f (Go.Sx.runS Tryd.prog 100000) 100000 (Go.Sx.stT st1) (Go.Sx.stH vars st1)) = true := by kernel_rfl
set_option maxRecDepth 1000000 in
theorem piece2 : Go.Sx.lastB Tryd.prog Tryd.f4 vars ((Go.Sx.chainS Tryd.prog stm2).f (Go.Sx.runS Tryd.prog 100000) 100000 (Go.Sx.stT st2) (Go.Sx.stH vars st2)) = true := by kernel_rfl
theorem run2 : Go.Sx.Pieces Tryd.prog 100000 Tryd.f4 vars stm2 (Go.Sx.stT st2) (Go.Sx.stH vars st2) := Go.Sx.piece_last piece2
theorem run1 : Go.Sx.Pieces Tryd.prog 100000 Tryd.f4 vars stm1 (Go.Sx.stT st1) (Go.Sx.stH vars st1) := by
  have h := Go.Sx.piece_more (cs := stm1.take 3) (ds := stm2) piece1 run2
  rwa [show stm1.take 3 ++ stm2 = stm1 from List.take_append_drop 3 stm1] at h
theorem run0 : Go.Sx.Pieces Tryd.prog 100000 Tryd.f4 vars stm0 { n := Tryd.f4.ntmps, dflt := true, t := .leaf } (Go.Sx.laidHeap vars) := by
  have h := Go.Sx.piece_more (cs := stm0.take 22) (ds := stm1) piece0 run1
  rwa [show stm0.take 22 ++ stm1 = stm0 from List.take_append_drop 22 stm0] at h
theorem walk {w : World} (h : Go.Sx.LaidIn w vars) :
    Calls Tryd.prog 4 #[] w fun e w' => e = .returned (.bool true) ∧ Below w.heap.size w w' :=
  Go.Sx.call_pieces okayed Tryd.func4 body_eq run0 h

theorem door_met (os : Os) (args : Array Value) : laidMetH Tryd.prog laid ((World.doorLaid Tryd.prog 400 os).forCall (fun _ _ => 0) ⟨#[], args, []⟩).memory :=
  laidMetH_of_parts3 (fuel := 8) (laidMet_of_run' 8 (by kernel_rfl) (by kernel_rfl)) (by kernel_rfl) (by kernel_rfl)

set_option maxRecDepth 100000 in
theorem lifted (os : Os) (started : os.Started) (H : Type) (enc : TypeId × Value → H) :
    ReturnsInHanded {} Tryd.checked os 4 .any (fun w args => (Rows.heapKnownSpec.pre enc Tryd.prog Tryd.f4 [] false w args ∧ laidMetH Tryd.prog laid w) ∧ sizedMet enc Tryd.prog Tryd.f4 (OpenSpec.ofChange Rows.heapKnownSpec) false w args)
      (Rows.heapKnownSpec.post enc Tryd.prog Tryd.f4 false true false false) := by
  refine returnsInHanded_of_change_and (C := Tryd.checked) (X := fun w _ => laidMetH Tryd.prog laid w) (fun _ _ _ hh h => h.of_heap hh) own started (by kernel_rfl) Tryd.func4
    (ChangeSpec.witness_shaped (enc := enc) (C := Tryd.checked) (os := os) (X := fun w _ => laidMetH Tryd.prog laid w) false (World.doorLaid Tryd.prog 400 os) #[] 8 rfl (World.shaped_of_RefB (by kernel_rfl) (by kernel_rfl)) (by kernel_rfl) (by kernel_rfl) (by kernel_rfl) (door_met os _)) ?_
  intro W base args ds gs before hval0 hW _ _ hL _
  have hval : ∀ (j : Nat) t v, Tryd.f4.params[j]? = some t → args[j]? = some v → Value.okWide Tryd.prog W .any base t v := hval0
  have hW' := hW
  obtain ⟨p, q, hA0, hV, rfl, hfz, hnd⟩ := hW
  have hA : DataW.TrodAll enc Tryd.prog W 0 (fun _ => true) true Tryd.f4.params.toList args.toList ds p := hA0
  rw [Tryd.params4] at hA hval
  obtain ⟨rfl, rfl, rfl⟩ := trodAll_none hA
  obtain ⟨rfl, rfl⟩ := trodVars_none hV
  clear hA0 hval0
  simp only [List.append_nil] at hW'
  refine (walk (Go.Sx.laidIn_of hL (by kernel_rfl) vars_eq)).mono fun e W' ⟨he, hg⟩ => ?_
  subst he
  exact ⟨_, rfl, Go.Sx.post_of_below (pa := []) (pv := []) hW' (fun _ _ _ => (trodAll_cons_mk (shut_bool Tryd.underlying4 _) trodAll_mk0)) (fun sp _ => rfl) (fun _ _ => rfl) rfl
    hg (ok_one (by kernel_rfl) rfl (okWide_bool_mk Tryd.underlying4 _))⟩

theorem over : Rows.HeapKnownSaid :=
  OpenClaim.holds_of_wide 4 Tryd.f4 rfl rfl rfl rfl rfl rfl rfl ⟨rfl, rfl, rfl, rfl, rfl⟩ rfl rfl rfl rfl rfl (by kernel_rfl) Tryd.func4 (by kernel_rfl)
    (of_decide_eq_true (by kernel_rfl)) (by unfold Func.isWrapper; first | (rw [if_pos (by decide +kernel)]; kernel_rfl) | (rw [if_neg (by decide +kernel)]; exact ⟨rfl, rfl⟩))
    (fun os started H enc _ => lifted os started H enc)

theorem proved : Rows.HeapKnownCardSaid :=
  Claim7.holds_tied_plain_at .later [] [.data] true (true, "f5d9ed0326e24e68be92104dfbb56a992a4bc47cd84a2a85d8b97ee8c65ad7e5") false
    over (fun _ h => by cases h) (by kernel_rfl) (fun _ h => by cases h) heapKnown_row_tie rfl ⟨rfl, rfl⟩ (by kernel_rfl) rfl
    (fun f fn hf hfn => by
      obtain rfl : f = 4 := Option.some.inj ((show Tryd.prog.funcNamed "chase/chaselaw11.HeapKnown" = some 4 by kernel_rfl).symm.trans hf) |>.symm
      obtain rfl : fn = Tryd.f4 := (Option.some.inj (Tryd.func4.symm.trans hfn)).symm
      exact ⟨by kernel_rfl, fun j t ht => by
        rw [Tryd.params4] at ht
        simp at ht⟩)
    (by kernel_rfl)
#print axioms proved
end Go.Proofs.YtjmjjkcecgdkeaaDoor.heapKnown
