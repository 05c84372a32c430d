/- 'chase/chaselaw24.LineKnown' returns true, and nothing that was there is changed. No condition. The call takes no argument: it is run by an executor that is proved sound against the model. -/
import Derived.Test.YtbfgcmmmnbjcgaaRows
import Derived.WalkKit
import Derived.ProofKit
import Derived.OpenShut
import Derived.Test.YtbfgcmmmnbjcgaaSxF
import Derived.Test.YtbfgcmmmnbjcgaaLinePt1
namespace Go.Proofs.Ytbfgcmmmnbjcgaa.lineKnown
open Go.Sx (zt zf zi zn zu)
open Go.ChangeShapes Go.WideShapes Go.ChangeAt Go.RowKit
set_option linter.unusedVariables false      -- a walk need not use every 'w<i>' (that an integer argument fits its kind)

theorem own : ownKnob Try.prog.godebug = none := by kernel_rfl

theorem okayed : Go.Sx.okProg Try.prog = true := by kernel_rfl
theorem some_getD {α : Type} {x : Option α} {d : α} (h : x.isSome = true) : x = some (x.getD d) := by
  cases x with
  | none => cases h
  | some y => rfl
noncomputable def body : Code := (Try.f3.body).getD .skip
theorem body_eq : Try.f3.body = some body := some_getD (by kernel_rfl)
noncomputable def sk1 : List Go.Sx.FC × Go.Sx.CC := (Go.Sx.skelAt Try.prog [.fn 3 [.r, .r, .r, .r, .r, .r, .r, .l]] []).getD ([], .code .skip)
noncomputable def sk2 : List Go.Sx.FC × Go.Sx.CC := (Go.Sx.skelAt Try.prog [.fn 3 [.r, .r, .r, .r, .r, .r, .r, .r, .r, .r, .r, .r, .r, .r, .r, .r, .r, .r, .r, .r, .r, .r, .l, .op 1], .fn 10 [.r, .r, .r, .r, .r, .l, .op 31]] []).getD ([], .code .skip)
noncomputable def sk3 : List Go.Sx.FC × Go.Sx.CC := (Go.Sx.skelAt Try.prog [.fn 3 [.r, .r, .r, .r, .r, .r, .r, .r, .r, .r, .r, .r, .r, .r, .r, .r, .r, .r, .r, .r, .r, .r, .l, .op 1], .fn 10 [.r, .r, .r, .r, .r, .r, .l, .op 36]] []).getD ([], .code .skip)
set_option maxRecDepth 1000000 in
theorem piece0 : Go.Sx.skel [] pt1 (Go.Sx.go Try.prog 100000 [] (Go.Sx.script [0, 2, 2, 2, 2, 2, 2, 2, 0]) [] (.code body { n := Try.f3.ntmps, dflt := true, t := .leaf } (Go.Sx.laidHeap []))) = some sk1 := by kernel_rfl
set_option maxRecDepth 1000000 in
theorem piece1 : Go.Sx.skel [] pt2 (Go.Sx.go Try.prog 100000 [] (Go.Sx.script [2, 2, 2, 2, 2, 2, 2, 2, 2, 2, 2, 2, 2, 2, 0, 5, 0, 1, 0, 2, 2, 2, 2, 2, 0, 31]) (Go.Sx.mkK sk1.1 pt1.frs.tail) (Go.Sx.mkC [] pt1 sk1.1 sk1.2)) = some sk2 := by kernel_rfl
set_option maxRecDepth 1000000 in
theorem piece2 : Go.Sx.skel [] pt3 (Go.Sx.go Try.prog 100000 [] (Go.Sx.script [10, 0, 36]) (Go.Sx.mkK sk2.1 pt2.frs.tail) (Go.Sx.mkC [] pt2 sk2.1 sk2.2)) = some sk3 := by kernel_rfl
set_option maxRecDepth 1000000 in
theorem piece3 : Go.Sx.endB Try.prog Try.f3 (Go.Sx.go Try.prog 100000 [] (Go.Sx.script [5, 2, 2, 2, 2, 52]) (Go.Sx.mkK sk3.1 pt3.frs.tail) (Go.Sx.mkC [] pt3 sk3.1 sk3.2)) = true := by kernel_rfl
theorem run3 : Go.Sx.Run Try.prog Try.f3 [] (Go.Sx.mkK sk3.1 pt3.frs.tail) (Go.Sx.mkC [] pt3 sk3.1 sk3.2) := Go.Sx.run_end piece3
theorem run2 : Go.Sx.Run Try.prog Try.f3 [] (Go.Sx.mkK sk2.1 pt2.frs.tail) (Go.Sx.mkC [] pt2 sk2.1 sk2.2) := Go.Sx.run_piece piece2 run3
theorem run1 : Go.Sx.Run Try.prog Try.f3 [] (Go.Sx.mkK sk1.1 pt1.frs.tail) (Go.Sx.mkC [] pt1 sk1.1 sk1.2) := Go.Sx.run_piece piece1 run2
theorem run0 : Go.Sx.Run Try.prog Try.f3 [] [] (.code body { n := Try.f3.ntmps, dflt := true, t := .leaf } (Go.Sx.laidHeap [])) := Go.Sx.run_piece piece0 run1
theorem walk (w : World) :
    Calls Try.prog 3 #[] w fun e w' => e = .returned (.bool true) ∧ Below w.heap.size w w' :=
  Go.Sx.call_run okayed Try.func3 body_eq run0 (fun _ _ h => by cases h)

set_option maxRecDepth 100000 in
theorem lifted (os : Os) (started : os.Started) (H : Type) (enc : TypeId × Value → H) :
    ReturnsInHanded {} Try.checked os 3 .any (Rows.lineKnownSpec.pre6 enc Try.prog Try.f3 Rows.lineKnownRow.domain false) (Rows.lineKnownSpec.post enc Try.prog Try.f3 false true false false) := by
  refine returnsInHanded_of_change (C := Try.checked) own started (by kernel_rfl) Try.func3
    (ChangeSpec.witness6 (enc := enc) (C := Try.checked) false ⟨#[], #[], []⟩ 8 (by kernel_rfl) (by kernel_rfl) (by kernel_rfl) (by kernel_rfl)) ?_
  intro W base args ds gs before hval0 hW hcnd _
  have hval : ∀ (j : Nat) t v, Try.f3.params[j]? = some t → args[j]? = some v → Value.okWide Try.prog W .any base t v := hval0
  have hW' := hW
  obtain ⟨p, q, hA0, hV, rfl, hfz, hnd⟩ := hW
  have hA : DataW.TrodAll enc Try.prog W 0 (fun _ => true) true Try.f3.params.toList args.toList ds p := hA0
  rw [Try.params3] at hA hval
  obtain ⟨rfl, rfl, rfl⟩ := trodAll_none hA
  obtain ⟨rfl, rfl⟩ := trodVars_none hV
  clear hA0 hval0
  simp only [List.append_nil] at hW'
  refine (walk  W).mono fun e W' ⟨he, hg⟩ => ?_
  subst he
  exact ⟨_, rfl, Go.Sx.post_of_below (pa := []) (pv := []) hW' (fun _ _ _ => (trodAll_cons_mk (shut_bool Try.underlying4 _) trodAll_mk0)) (fun sp _ => rfl) (fun _ _ => rfl) rfl
    hg (ok_one (by kernel_rfl) rfl (okWide_bool_mk Try.underlying4 _))⟩

theorem over : Rows.lineKnownRow.holds Try.pinned (OpenSpec.ofChange Rows.lineKnownSpec) :=
  OpenClaim.holds_of_wide 3 Try.f3 rfl rfl rfl rfl rfl rfl rfl ⟨rfl, rfl, rfl, rfl, rfl⟩ rfl rfl rfl rfl rfl (by kernel_rfl) Try.func3 (by kernel_rfl)
    (of_decide_eq_true (by kernel_rfl)) (by unfold Func.isWrapper; first | (rw [if_pos (by decide +kernel)]; kernel_rfl) | (rw [if_neg (by decide +kernel)]; exact ⟨rfl, rfl⟩))
    (fun os started H enc _ => lifted os started H enc)

theorem proved : Rows.LineKnownSaid := over
#print axioms proved
end Go.Proofs.Ytbfgcmmmnbjcgaa.lineKnown
