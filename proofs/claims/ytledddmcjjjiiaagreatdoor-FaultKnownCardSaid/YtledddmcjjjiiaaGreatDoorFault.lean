/- 'chase/chaselaw40.FaultKnown' returns true, and nothing that was there is changed. Condition: the package variables that the row lists hold what the program's text gives them. The call takes no argument: it is run by an executor that is proved sound against the model. -/
import Derived.Test.YtledddmcjjjiiaaGreatDoorRows
import Derived.Test.YtledddmcjjjiiaaGreatDoorCards
import Derived.Test.YtledddmcjjjiiaaGreatDoorTie
import Derived.WalkKit
import Derived.ProofKit
import Derived.LaidMore
import Derived.OpenShut
import Derived.Stop.Joined
import Derived.SevenTiedAt
import Derived.Test.YtledddmcjjjiiaaGreatDoorSxF
import Derived.Test.YtledddmcjjjiiaaGreatDoorFaultPt1
import Derived.Test.YtledddmcjjjiiaaGreatDoorFaultPt2
namespace Go.Proofs.YtledddmcjjjiiaaGreatDoor.faultKnown
open Go.Sx (zt zf zi zn zu)
open Go.ChangeShapes Go.WideShapes Go.ChangeAt Go.WideMaps Go.WideElems Go.RowKit
set_option linter.unusedVariables false

theorem own : ownKnob Tryz.prog.godebug = none := by kernel_rfl
theorem okayed : Go.Sx.okProg Tryz.prog = true := by kernel_rfl

noncomputable def laid : List (String × DataW Unit) := [("math/bits.deBruijn32tab", Rows.laid_math_bits_deBruijn32tab), ("math/bits.deBruijn64tab", Rows.laid_math_bits_deBruijn64tab), ("internal/strconv.uint64pow10", Rows.laid_internal_strconv_uint64pow10), ("chase/object.kinds", Rows.laid_chase_object_kinds), ("chase/fault.names", Rows.laid_chase_fault_names)]
noncomputable def vars : List (Nat × List Go.Sx.AV) := (Go.Sx.laidOf Tryz.prog laid).getD []
theorem some_getD {α : Type} {x : Option α} {d : α} (h : x.isSome = true) : x = some (x.getD d) := by
  cases x with
  | none => cases h
  | some y => rfl
theorem vars_eq : Go.Sx.laidOf Tryz.prog laid = some vars := some_getD (by kernel_rfl)

noncomputable def body : Code := (Tryz.f3.body).getD .skip
theorem body_eq : Tryz.f3.body = some body := some_getD (by kernel_rfl)
noncomputable def sk1 : List Go.Sx.FC × Go.Sx.CC := (Go.Sx.skelAt Tryz.prog [(3, [.r, .l, .l, .op 0]), (4, [.r, .l, .op 4]), (5, [.r, .l, .op 1]), (10, [.r, .r, .l, .r, .i, .i])] []).getD ([], .code .skip)
noncomputable def sk2 : List Go.Sx.FC × Go.Sx.CC := (Go.Sx.skelAt Tryz.prog [(3, [.r, .l, .l, .op 0]), (4, [.r, .r, .l, .l, .op 5]), (17, [.r])] []).getD ([], .code .skip)
noncomputable def sk3 : List Go.Sx.FC × Go.Sx.CC := (Go.Sx.skelAt Tryz.prog [(3, [.r, .l, .l, .op 0]), (4, [.r, .r, .l, .l, .op 6])] []).getD ([], .code .skip)
noncomputable def sk4 : List Go.Sx.FC × Go.Sx.CC := (Go.Sx.skelAt Tryz.prog [(3, [.r, .r, .l, .op 4]), (5, [.r, .l, .op 1]), (10, [.r, .r, .l, .r, .i, .i])] []).getD ([], .code .skip)
noncomputable def sk5 : List Go.Sx.FC × Go.Sx.CC := (Go.Sx.skelAt Tryz.prog [(3, [.r, .r, .r, .r, .r, .r, .r, .r, .r, .r, .r, .r, .r, .r, .l, .op 1]), (10, [.r, .r, .l, .r, .i, .i])] []).getD ([], .code .skip)
noncomputable def sk6 : List Go.Sx.FC × Go.Sx.CC := (Go.Sx.skelAt Tryz.prog [(3, [.r, .r, .r, .r, .r, .r, .r, .r, .r, .r, .r, .r, .r, .r, .l, .op 1]), (10, [.r, .r, .l, .r, .i, .i])] []).getD ([], .code .skip)
noncomputable def sk7 : List Go.Sx.FC × Go.Sx.CC := (Go.Sx.skelAt Tryz.prog [(3, [.r, .r, .r, .r, .r, .r, .r, .r, .r, .r, .r, .r, .r, .r, .r, .l, .op 4]), (5, [.r, .l, .op 1]), (10, [.r, .r, .l, .r, .i, .i])] []).getD ([], .code .skip)
noncomputable def sk8 : List Go.Sx.FC × Go.Sx.CC := (Go.Sx.skelAt Tryz.prog [(3, [.r, .r, .r, .r, .r, .r, .r, .r, .r, .r, .r, .r, .r, .r, .r, .r, .r, .r, .r, .r, .r, .l, .op 4]), (5, [.r, .l, .op 1]), (10, [.r, .r, .l, .r, .i, .i])] []).getD ([], .code .skip)
noncomputable def sk9 : List Go.Sx.FC × Go.Sx.CC := (Go.Sx.skelAt Tryz.prog [(3, [.r, .r, .r, .r, .r, .r, .r, .r, .r, .r, .r, .r, .r, .r, .r, .r, .r, .r, .r, .r, .r, .l, .op 4]), (5, [.r, .l, .op 1]), (10, [.r, .r, .l, .r, .i, .i])] []).getD ([], .code .skip)
noncomputable def sk10 : List Go.Sx.FC × Go.Sx.CC := (Go.Sx.skelAt Tryz.prog [(3, [.r, .r, .r, .r, .r, .r, .r, .r, .r, .r, .r, .r, .r, .r, .r, .r, .r, .r, .r, .r, .r, .r, .r, .r, .l, .op 4]), (5, [.r, .l, .op 1]), (10, [.r, .r, .l, .r, .i, .i])] []).getD ([], .code .skip)
noncomputable def sk11 : List Go.Sx.FC × Go.Sx.CC := (Go.Sx.skelAt Tryz.prog [(3, [.r, .r, .r, .r, .r, .r, .r, .r, .r, .r, .r, .r, .r, .r, .r, .r, .r, .r, .r, .r, .r, .r, .r, .r, .r, .l])] []).getD ([], .code .skip)
set_option maxRecDepth 1000000 in
theorem piece0 : Go.Sx.skel vars pt1 (Go.Sx.go Tryz.prog 100000 vars (Go.Sx.script [0, 2, 0, 0, 0, 0, 2, 0, 4, 0, 2, 0, 1, 0, 2, 2, 0, 2, 0, 55]) [] (.code body { n := Tryz.f3.ntmps, dflt := true, t := .leaf } (Go.Sx.laidHeap vars))) = some sk1 := by kernel_rfl
set_option maxRecDepth 1000000 in
theorem piece1 : Go.Sx.skel vars pt2 (Go.Sx.go Tryz.prog 100000 vars (Go.Sx.script [16, 11, 12, 0, 0, 5, 0, 2]) (Go.Sx.mkK sk1.1 pt1.frs.tail) (Go.Sx.mkC vars pt1 sk1.2)) = some sk2 := by kernel_rfl
set_option maxRecDepth 1000000 in
theorem piece2 : Go.Sx.skel vars pt3 (Go.Sx.go Tryz.prog 100000 vars (Go.Sx.script [2]) (Go.Sx.mkK sk2.1 pt2.frs.tail) (Go.Sx.mkC vars pt2 sk2.2)) = some sk3 := by kernel_rfl
set_option maxRecDepth 1000000 in
theorem piece3 : Go.Sx.skel vars pt4 (Go.Sx.go Tryz.prog 100000 vars (Go.Sx.script [6, 2, 2, 2, 2, 2, 2, 2, 9, 0, 4, 0, 2, 0, 1, 0, 2, 2, 0, 2, 0, 31]) (Go.Sx.mkK sk3.1 pt3.frs.tail) (Go.Sx.mkC vars pt3 sk3.2)) = some sk4 := by kernel_rfl
set_option maxRecDepth 1000000 in
theorem piece4 : Go.Sx.skel vars pt5 (Go.Sx.go Tryz.prog 100000 vars (Go.Sx.script [40, 11, 12, 2, 2, 2, 2, 2, 2, 2, 2, 2, 2, 2, 0, 1, 0, 2, 2, 0, 2, 0, 4]) (Go.Sx.mkK sk4.1 pt4.frs.tail) (Go.Sx.mkC vars pt4 sk4.2)) = some sk5 := by kernel_rfl
set_option maxRecDepth 1000000 in
theorem piece5 : Go.Sx.skel vars pt6 (Go.Sx.go Tryz.prog 100000 vars (Go.Sx.script [51]) (Go.Sx.mkK sk5.1 pt5.frs.tail) (Go.Sx.mkC vars pt5 sk5.2)) = some sk6 := by kernel_rfl
set_option maxRecDepth 1000000 in
theorem piece6 : Go.Sx.skel vars pt7 (Go.Sx.go Tryz.prog 100000 vars (Go.Sx.script [21, 0, 4, 0, 2, 0, 1, 0, 2, 2, 0, 2, 0, 40]) (Go.Sx.mkK sk6.1 pt6.frs.tail) (Go.Sx.mkC vars pt6 sk6.2)) = some sk7 := by kernel_rfl
set_option maxRecDepth 1000000 in
theorem piece7 : Go.Sx.skel vars pt8 (Go.Sx.go Tryz.prog 100000 vars (Go.Sx.script [31, 11, 12, 2, 2, 2, 2, 2, 0, 4, 0, 2, 0, 1, 0, 2, 2, 0, 2, 0, 10]) (Go.Sx.mkK sk7.1 pt7.frs.tail) (Go.Sx.mkC vars pt7 sk7.2)) = some sk8 := by kernel_rfl
set_option maxRecDepth 1000000 in
theorem piece8 : Go.Sx.skel vars pt9 (Go.Sx.go Tryz.prog 100000 vars (Go.Sx.script [48]) (Go.Sx.mkK sk8.1 pt8.frs.tail) (Go.Sx.mkC vars pt8 sk8.2)) = some sk9 := by kernel_rfl
set_option maxRecDepth 1000000 in
theorem piece9 : Go.Sx.skel vars pt10 (Go.Sx.go Tryz.prog 100000 vars (Go.Sx.script [13, 11, 12, 2, 2, 0, 4, 0, 2, 0, 1, 0, 2, 2, 0, 2, 0, 25]) (Go.Sx.mkK sk9.1 pt9.frs.tail) (Go.Sx.mkC vars pt9 sk9.2)) = some sk10 := by kernel_rfl
set_option maxRecDepth 1000000 in
theorem piece10 : Go.Sx.skel vars pt11 (Go.Sx.go Tryz.prog 100000 vars (Go.Sx.script [46, 11, 12, 0]) (Go.Sx.mkK sk10.1 pt10.frs.tail) (Go.Sx.mkC vars pt10 sk10.2)) = some sk11 := by kernel_rfl
set_option maxRecDepth 1000000 in
theorem piece11 : Go.Sx.endB Tryz.prog Tryz.f3 (Go.Sx.go Tryz.prog 100000 vars (Go.Sx.script [2, 2, 2, 2, 2, 2, 2, 2, 3]) (Go.Sx.mkK sk11.1 pt11.frs.tail) (Go.Sx.mkC vars pt11 sk11.2)) = true := by kernel_rfl
theorem run11 : Go.Sx.Run Tryz.prog Tryz.f3 vars (Go.Sx.mkK sk11.1 pt11.frs.tail) (Go.Sx.mkC vars pt11 sk11.2) := Go.Sx.run_end piece11
theorem run10 : Go.Sx.Run Tryz.prog Tryz.f3 vars (Go.Sx.mkK sk10.1 pt10.frs.tail) (Go.Sx.mkC vars pt10 sk10.2) := Go.Sx.run_piece piece10 run11
theorem run9 : Go.Sx.Run Tryz.prog Tryz.f3 vars (Go.Sx.mkK sk9.1 pt9.frs.tail) (Go.Sx.mkC vars pt9 sk9.2) := Go.Sx.run_piece piece9 run10
theorem run8 : Go.Sx.Run Tryz.prog Tryz.f3 vars (Go.Sx.mkK sk8.1 pt8.frs.tail) (Go.Sx.mkC vars pt8 sk8.2) := Go.Sx.run_piece piece8 run9
theorem run7 : Go.Sx.Run Tryz.prog Tryz.f3 vars (Go.Sx.mkK sk7.1 pt7.frs.tail) (Go.Sx.mkC vars pt7 sk7.2) := Go.Sx.run_piece piece7 run8
theorem run6 : Go.Sx.Run Tryz.prog Tryz.f3 vars (Go.Sx.mkK sk6.1 pt6.frs.tail) (Go.Sx.mkC vars pt6 sk6.2) := Go.Sx.run_piece piece6 run7
theorem run5 : Go.Sx.Run Tryz.prog Tryz.f3 vars (Go.Sx.mkK sk5.1 pt5.frs.tail) (Go.Sx.mkC vars pt5 sk5.2) := Go.Sx.run_piece piece5 run6
theorem run4 : Go.Sx.Run Tryz.prog Tryz.f3 vars (Go.Sx.mkK sk4.1 pt4.frs.tail) (Go.Sx.mkC vars pt4 sk4.2) := Go.Sx.run_piece piece4 run5
theorem run3 : Go.Sx.Run Tryz.prog Tryz.f3 vars (Go.Sx.mkK sk3.1 pt3.frs.tail) (Go.Sx.mkC vars pt3 sk3.2) := Go.Sx.run_piece piece3 run4
theorem run2 : Go.Sx.Run Tryz.prog Tryz.f3 vars (Go.Sx.mkK sk2.1 pt2.frs.tail) (Go.Sx.mkC vars pt2 sk2.2) := Go.Sx.run_piece piece2 run3
theorem run1 : Go.Sx.Run Tryz.prog Tryz.f3 vars (Go.Sx.mkK sk1.1 pt1.frs.tail) (Go.Sx.mkC vars pt1 sk1.2) := Go.Sx.run_piece piece1 run2
theorem run0 : Go.Sx.Run Tryz.prog Tryz.f3 vars [] (.code body { n := Tryz.f3.ntmps, dflt := true, t := .leaf } (Go.Sx.laidHeap vars)) := Go.Sx.run_piece piece0 run1
theorem walk {w : World} (h : Go.Sx.LaidIn w vars) :
    Calls Tryz.prog 3 #[] w fun e w' => e = .returned (.bool true) ∧ Below w.heap.size w w' :=
  Go.Sx.call_run okayed Tryz.func3 body_eq run0 h

theorem door_met (os : Os) (args : Array Value) : laidMetH Tryz.prog laid ((World.doorLaid Tryz.prog 400 os).forCall (fun _ _ => 0) ⟨#[], args, []⟩).memory :=
  laidMetH_of_parts3 (fuel := 8) (laidMet_of_run' 8 (by kernel_rfl) (by kernel_rfl)) (by kernel_rfl) (by kernel_rfl)

set_option maxRecDepth 100000 in
theorem lifted (os : Os) (started : os.Started) (H : Type) (enc : TypeId × Value → H) :
    ReturnsInHanded {} Tryz.checked os 3 .any (fun w args => (Rows.faultKnownSpec.pre enc Tryz.prog Tryz.f3 [] false w args ∧ laidMetH Tryz.prog laid w) ∧ sizedMet enc Tryz.prog Tryz.f3 (OpenSpec.ofChange Rows.faultKnownSpec) false w args)
      (Rows.faultKnownSpec.post enc Tryz.prog Tryz.f3 false true false false) := by
  refine returnsInHanded_of_change_and (C := Tryz.checked) (X := fun w _ => laidMetH Tryz.prog laid w) (fun _ _ _ hh h => h.of_heap hh) own started (by kernel_rfl) Tryz.func3
    (ChangeSpec.witness_shaped (enc := enc) (C := Tryz.checked) (os := os) (X := fun w _ => laidMetH Tryz.prog laid w) false (World.doorLaid Tryz.prog 400 os) #[] 8 rfl (World.shaped_of_RefB (by kernel_rfl) (by kernel_rfl)) (by kernel_rfl) (by kernel_rfl) (by kernel_rfl) (door_met os _)) ?_
  intro W base args ds gs before hval0 hW _ _ hL _
  have hval : ∀ (j : Nat) t v, Tryz.f3.params[j]? = some t → args[j]? = some v → Value.okWide Tryz.prog W .any base t v := hval0
  have hW' := hW
  obtain ⟨p, q, hA0, hV, rfl, hfz, hnd⟩ := hW
  have hA : DataW.TrodAll enc Tryz.prog W 0 (fun _ => true) true Tryz.f3.params.toList args.toList ds p := hA0
  rw [Tryz.params3] at hA hval
  obtain ⟨rfl, rfl, rfl⟩ := trodAll_none hA
  obtain ⟨rfl, rfl⟩ := trodVars_none hV
  clear hA0 hval0
  simp only [List.append_nil] at hW'
  refine (walk (Go.Sx.laidIn_of hL (by kernel_rfl) vars_eq)).mono fun e W' ⟨he, hg⟩ => ?_
  subst he
  exact ⟨_, rfl, Go.Sx.post_of_below (pa := []) (pv := []) hW' (fun _ _ _ => (trodAll_cons_mk (shut_bool Tryz.underlying4 _) trodAll_mk0)) (fun sp _ => rfl) (fun _ _ => rfl) rfl
    hg (ok_one (by kernel_rfl) rfl (okWide_bool_mk Tryz.underlying4 _))⟩

theorem over : Rows.FaultKnownSaid :=
  OpenClaim.holds_of_wide 3 Tryz.f3 rfl rfl rfl rfl rfl rfl rfl ⟨rfl, rfl, rfl, rfl, rfl⟩ rfl rfl rfl rfl rfl (by kernel_rfl) Tryz.func3 (by kernel_rfl)
    (of_decide_eq_true (by kernel_rfl)) (by unfold Func.isWrapper; first | (rw [if_pos (by decide +kernel)]; kernel_rfl) | (rw [if_neg (by decide +kernel)]; exact ⟨rfl, rfl⟩))
    (fun os started H enc _ => lifted os started H enc)

theorem proved : Rows.FaultKnownCardSaid :=
  Claim7.holds_tied_plain_at .later [] [.data, .data, .data, .data, .data] true (true, "ffc0c9572e9584d15d40d7292b63c4cd10055d1420dc13674b77d261a3da02e7") false
    over (fun _ h => by cases h) (by kernel_rfl) (fun _ h => by cases h) faultKnown_row_tie rfl ⟨rfl, rfl⟩ (by kernel_rfl) rfl
    (fun f fn hf hfn => by
      obtain rfl : f = 3 := Option.some.inj ((show Tryz.prog.funcNamed "chase/chaselaw40.FaultKnown" = some 3 by kernel_rfl).symm.trans hf) |>.symm
      obtain rfl : fn = Tryz.f3 := (Option.some.inj (Tryz.func3.symm.trans hfn)).symm
      exact ⟨by kernel_rfl, fun j t ht => by
        rw [Tryz.params3] at ht
        simp at ht⟩)
    (by kernel_rfl)
#print axioms proved
end Go.Proofs.YtledddmcjjjiiaaGreatDoor.faultKnown
