/- 'chase/chaselaw01.RealKnown' returns true, and nothing that was there is changed. Condition: the package variables that the row lists hold what the program's text gives them. The call takes no argument: it is run by an executor that is proved sound against the model. -/
import Derived.Test.YtjmjjkcecgdkeaaDoorRows
import Derived.Test.YtjmjjkcecgdkeaaDoorCards
import Derived.Test.YtjmjjkcecgdkeaaDoorTie
import Derived.WalkKit
import Derived.ProofKit
import Derived.LaidMore
import Derived.OpenShut
import Derived.Stop.Joined
import Derived.SevenTiedAt
import Derived.Test.YtjmjjkcecgdkeaaDoorSxF
namespace Go.Proofs.YtjmjjkcecgdkeaaDoor.realKnown
open Go.ChangeShapes Go.WideShapes Go.ChangeAt Go.WideMaps Go.WideElems Go.RowKit
set_option linter.unusedVariables false

theorem own : ownKnob Tryd.prog.godebug = none := by kernel_rfl
theorem okayed : Go.Sx.okProg Tryd.prog = true := by kernel_rfl

noncomputable def laid : List (String × DataW Unit) := [("math/bits.deBruijn32tab", Rows.laid_math_bits_deBruijn32tab), ("math/bits.deBruijn64tab", Rows.laid_math_bits_deBruijn64tab), ("internal/strconv.uint64pow10", Rows.laid_internal_strconv_uint64pow10)]
noncomputable def vars : List (Nat × List Go.Sx.AV) := (Go.Sx.laidOf Tryd.prog laid).getD []
theorem some_getD {α : Type} {x : Option α} {d : α} (h : x.isSome = true) : x = some (x.getD d) := by
  cases x with
  | none => cases h
  | some y => rfl
theorem vars_eq : Go.Sx.laidOf Tryd.prog laid = some vars := some_getD (by kernel_rfl)

noncomputable def body : Code := (Tryd.f3.body).getD .skip
theorem body_eq : Tryd.f3.body = some body := some_getD (by kernel_rfl)
noncomputable def stm0 : List Code := Go.Sx.flat body
def st1 : Go.Sx.St :=
  ⟨180, [(0, .bool false),
  (26, .bool false)], 548, []⟩
noncomputable def stm1 : List Code := stm0.drop 2
def st2 : Go.Sx.St :=
  ⟨180, [(0, .bool false)], 6058, []⟩
noncomputable def stm2 : List Code := stm1.drop 3
def st3 : Go.Sx.St :=
  ⟨180, [(0, .bool true)], 6606, []⟩
noncomputable def stm3 : List Code := stm2.drop 11
set_option maxRecDepth 1000000 in
theorem piece0 : Go.Sx.pieceB vars st1 ((Go.Sx.chainS Tryd.prog (stm0.take 2)).f (Go.Sx.runS Tryd.prog 100000) 100000 { n := Tryd.f3.ntmps, dflt := true, t := .leaf } (Go.Sx.laidHeap vars)) = true := by kernel_rfl
set_option maxRecDepth 1000000 in
theorem piece1 : Go.Sx.pieceB vars st2 ((Go.Sx.chainS Tryd.prog (stm1.take 3)).f (Go.Sx.runS Tryd.prog 100000) 100000 (Go.Sx.stT st1) (Go.Sx.stH vars st1)) = true := by kernel_rfl
set_option maxRecDepth 1000000 in
theorem piece2 : Go.Sx.pieceB vars st3 ((Go.Sx.chainS Tryd.prog (stm2.take 11)).f (Go.Sx.runS Tryd.prog 100000) 100000 (Go.Sx.stT st2) (Go.Sx.stH vars st2)) = true := by kernel_rfl
set_option maxRecDepth 1000000 in
theorem piece3 : Go.Sx.lastB Tryd.prog Tryd.f3 vars ((Go.Sx.chainS Tryd.prog stm3).f (Go.Sx.runS Tryd.prog 100000) 100000 (Go.Sx.stT st3) (Go.Sx.stH vars st3)) = true := by kernel_rfl
theorem run3 : Go.Sx.Pieces Tryd.prog 100000 Tryd.f3 vars stm3 (Go.Sx.stT st3) (Go.Sx.stH vars st3) := Go.Sx.piece_last piece3
theorem run2 : Go.Sx.Pieces Tryd.prog 100000 Tryd.f3 vars stm2 (Go.Sx.stT st2) (Go.Sx.stH vars st2) := by
  have h := Go.Sx.piece_more (cs := stm2.take 11) (ds := stm3) piece2 run3
  rwa [show stm2.take 11 ++ stm3 = stm2 from List.take_append_drop 11 stm2] at h
theorem run1 : Go.Sx.Pieces Tryd.prog 100000 Tryd.f3 vars stm1 (Go.Sx.stT st1) (Go.Sx.stH vars st1) := by
  have h := Go.Sx.piece_more (cs := stm1.take 3) (ds := stm2) piece1 run2
  rwa [show stm1.take 3 ++ stm2 = stm1 from List.take_append_drop 3 stm1] at h
theorem run0 : Go.Sx.Pieces Tryd.prog 100000 Tryd.f3 vars stm0 { n := Tryd.f3.ntmps, dflt := true, t := .leaf } (Go.Sx.laidHeap vars) := by
  have h := Go.Sx.piece_more (cs := stm0.take 2) (ds := stm1) piece0 run1
  rwa [show stm0.take 2 ++ stm1 = stm0 from List.take_append_drop 2 stm0] at h
theorem walk {w : World} (h : Go.Sx.LaidIn w vars) :
    Calls Tryd.prog 3 #[] w fun e w' => e = .returned (.bool true) ∧ Below w.heap.size w w' :=
  Go.Sx.call_pieces okayed Tryd.func3 body_eq run0 h

theorem door_met (os : Os) (args : Array Value) : laidMetH Tryd.prog laid ((World.doorLaid Tryd.prog 400 os).forCall (fun _ _ => 0) ⟨#[], args, []⟩).memory :=
  laidMetH_of_parts3 (fuel := 8) (laidMet_of_run' 8 (by kernel_rfl) (by kernel_rfl)) (by kernel_rfl) (by kernel_rfl)

set_option maxRecDepth 100000 in
theorem lifted (os : Os) (started : os.Started) (H : Type) (enc : TypeId × Value → H) :
    ReturnsInHanded {} Tryd.checked os 3 .any (fun w args => (Rows.realKnownSpec.pre enc Tryd.prog Tryd.f3 [] false w args ∧ laidMetH Tryd.prog laid w) ∧ sizedMet enc Tryd.prog Tryd.f3 (OpenSpec.ofChange Rows.realKnownSpec) false w args)
      (Rows.realKnownSpec.post enc Tryd.prog Tryd.f3 false true false false) := by
  refine returnsInHanded_of_change_and (C := Tryd.checked) (X := fun w _ => laidMetH Tryd.prog laid w) (fun _ _ _ hh h => h.of_heap hh) own started (by kernel_rfl) Tryd.func3
    (ChangeSpec.witness_shaped (enc := enc) (C := Tryd.checked) (os := os) (X := fun w _ => laidMetH Tryd.prog laid w) false (World.doorLaid Tryd.prog 400 os) #[] 8 rfl (World.shaped_of_RefB (by kernel_rfl) (by kernel_rfl)) (by kernel_rfl) (by kernel_rfl) (by kernel_rfl) (door_met os _)) ?_
  intro W base args ds gs before hval0 hW _ _ hL _
  have hval : ∀ (j : Nat) t v, Tryd.f3.params[j]? = some t → args[j]? = some v → Value.okWide Tryd.prog W .any base t v := hval0
  have hW' := hW
  obtain ⟨p, q, hA0, hV, rfl, hfz, hnd⟩ := hW
  have hA : DataW.TrodAll enc Tryd.prog W 0 (fun _ => true) true Tryd.f3.params.toList args.toList ds p := hA0
  rw [Tryd.params3] at hA hval
  obtain ⟨rfl, rfl, rfl⟩ := trodAll_none hA
  obtain ⟨rfl, rfl⟩ := trodVars_none hV
  clear hA0 hval0
  simp only [List.append_nil] at hW'
  refine (walk (Go.Sx.laidIn_of hL (by kernel_rfl) vars_eq)).mono fun e W' ⟨he, hg⟩ => ?_
  subst he
  exact ⟨_, rfl, Go.Sx.post_of_below (pa := []) (pv := []) hW' (fun _ _ _ => (trodAll_cons_mk (shut_bool Tryd.underlying4 _) trodAll_mk0)) (fun sp _ => rfl) (fun _ _ => rfl) rfl
    hg (ok_one (by kernel_rfl) rfl (okWide_bool_mk Tryd.underlying4 _))⟩

theorem over : Rows.RealKnownSaid :=
  OpenClaim.holds_of_wide 3 Tryd.f3 rfl rfl rfl rfl rfl rfl rfl ⟨rfl, rfl, rfl, rfl, rfl⟩ rfl rfl rfl rfl rfl (by kernel_rfl) Tryd.func3 (by kernel_rfl)
    (of_decide_eq_true (by kernel_rfl)) (by unfold Func.isWrapper; first | (rw [if_pos (by decide +kernel)]; kernel_rfl) | (rw [if_neg (by decide +kernel)]; exact ⟨rfl, rfl⟩))
    (fun os started H enc _ => lifted os started H enc)

theorem proved : Rows.RealKnownCardSaid :=
  Claim7.holds_tied_plain_at .later [] [.data, .data, .data] true (true, "f5d9ed0326e24e68be92104dfbb56a992a4bc47cd84a2a85d8b97ee8c65ad7e5") false
    over (fun _ h => by cases h) (by kernel_rfl) (fun _ h => by cases h) realKnown_row_tie rfl ⟨rfl, rfl⟩ (by kernel_rfl) rfl
    (fun f fn hf hfn => by
      obtain rfl : f = 3 := Option.some.inj ((show Tryd.prog.funcNamed "chase/chaselaw01.RealKnown" = some 3 by kernel_rfl).symm.trans hf) |>.symm
      obtain rfl : fn = Tryd.f3 := (Option.some.inj (Tryd.func3.symm.trans hfn)).symm
      exact ⟨by kernel_rfl, fun j t ht => by
        rw [Tryd.params3] at ht
        simp at ht⟩)
    (by kernel_rfl)
#print axioms proved
end Go.Proofs.YtjmjjkcecgdkeaaDoor.realKnown
