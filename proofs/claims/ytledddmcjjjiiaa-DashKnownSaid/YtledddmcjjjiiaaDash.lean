/- 'chase/chaselaw25.DashKnown' returns true, and nothing that was there is changed. No condition. The call takes no argument: it is run by an executor that is proved sound against the model. -/
import Derived.Test.YtledddmcjjjiiaaRows
import Derived.WalkKit
import Derived.ProofKit
import Derived.OpenShut
import Derived.Test.YtledddmcjjjiiaaSxF
import Derived.Test.YtledddmcjjjiiaaDashPt1
import Derived.Test.YtledddmcjjjiiaaDashPt2
namespace Go.Proofs.Ytledddmcjjjiiaa.dashKnown
open Go.Sx (zt zf zi zn zu)
open Go.ChangeShapes Go.WideShapes Go.ChangeAt Go.RowKit
set_option linter.unusedVariables false      -- a walk need not use every 'w<i>' (that an integer argument fits its kind)

theorem own : ownKnob Try.prog.godebug = none := by kernel_rfl

theorem okayed : Go.Sx.okProg Try.prog = true := by kernel_rfl
theorem some_getD {α : Type} {x : Option α} {d : α} (h : x.isSome = true) : x = some (x.getD d) := by
  cases x with
  | none => cases h
  | some y => rfl
noncomputable def body : Code := (Try.f4.body).getD .skip
theorem body_eq : Try.f4.body = some body := some_getD (by kernel_rfl)
noncomputable def sk1 : List Go.Sx.FC × Go.Sx.CC := (Go.Sx.skelAt Try.prog [.fn 4 [.r, .r, .r, .l, .op 3], .fn 20 [.r, .r, .r, .r, .r, .r, .r, .r, .r, .l, .r, .i, .i, .r, .r, .l, .i, .r, .l, .r, .r, .r, .op 5], .fn 49 [.r, .r, .r, .r, .i, .rg 249 true], .fn 70 [.r, .i, .i, .r, .l, .i, .l, .op 21], .round 49 [.r, .r, .r, .r, .i, .i] [.i, .r, .i, .i] 249] []).getD ([], .code .skip)
noncomputable def sk2 : List Go.Sx.FC × Go.Sx.CC := (Go.Sx.skelAt Try.prog [.fn 4 [.r, .r, .r, .l, .op 3], .fn 20 [.r, .r, .r, .r, .r, .r, .r, .r, .r, .l, .r, .i, .i, .r, .r, .l, .i, .r, .l, .r, .r, .r, .op 5], .fn 49 [.r, .r, .r, .r, .i, .rg 249 true], .fn 70 [.r, .i, .i, .r, .l, .i, .l, .op 21], .round 49 [.r, .r, .r, .r, .i, .i] [.i, .r, .i, .i] 249] []).getD ([], .code .skip)
noncomputable def sk3 : List Go.Sx.FC × Go.Sx.CC := (Go.Sx.skelAt Try.prog [.fn 4 [.r, .r, .r, .l, .op 3], .fn 20 [.r, .r, .r, .r, .r, .r, .r, .r, .r, .l, .r, .i, .i, .r, .r, .l, .i, .r, .l, .r, .r, .r, .op 5], .fn 49 [.r, .r, .r, .r, .i, .rg 249 true], .fn 70 [.r, .i, .i, .r, .l, .i, .l, .op 21], .round 49 [.r, .r, .r, .r, .i, .i] [.i, .r, .i, .i] 249] []).getD ([], .code .skip)
noncomputable def sk4 : List Go.Sx.FC × Go.Sx.CC := (Go.Sx.skelAt Try.prog [.fn 4 [.r, .r, .r, .r, .l, .op 3], .fn 20 [.r, .r, .r, .r, .r, .r, .r, .r, .r, .l, .r, .i, .i, .r, .r, .l, .i, .r, .l, .r, .r, .r, .op 5], .fn 49 [.r, .r, .r, .r, .i, .rg 27471 true], .fn 70 [.r, .i, .i, .r, .l, .i, .l, .op 21], .round 49 [.r, .r, .r, .r, .i, .i] [.i, .r, .i, .i] 27471] []).getD ([], .code .skip)
noncomputable def sk5 : List Go.Sx.FC × Go.Sx.CC := (Go.Sx.skelAt Try.prog [.fn 4 [.r, .r, .r, .r, .l, .op 3], .fn 20 [.r, .r, .r, .r, .r, .r, .r, .r, .r, .l, .r, .i, .i, .r, .r, .l, .i, .r, .l, .r, .r, .r, .op 5], .fn 49 [.r, .r, .r, .r, .i, .rg 27471 true], .fn 70 [.r, .i, .i, .r, .l, .i, .l, .op 21], .round 49 [.r, .r, .r, .r, .i, .i] [.i, .r, .i, .i] 27471] []).getD ([], .code .skip)
noncomputable def sk6 : List Go.Sx.FC × Go.Sx.CC := (Go.Sx.skelAt Try.prog [.fn 4 [.r, .r, .r, .r, .l, .op 3], .fn 20 [.r, .r, .r, .r, .r, .r, .r, .r, .r, .l, .r, .i, .i, .r, .r, .l, .i, .r, .l, .r, .r, .r, .op 5], .fn 49 [.r, .r, .r, .r, .i, .rg 27471 true], .fn 70 [.r, .i, .i, .r, .l, .i, .l, .op 21], .round 49 [.r, .r, .r, .r, .i, .i] [.i, .r, .i, .i] 27471] []).getD ([], .code .skip)
noncomputable def sk7 : List Go.Sx.FC × Go.Sx.CC := (Go.Sx.skelAt Try.prog [.fn 4 [.r, .r, .r, .r, .r, .l, .op 5], .fn 20 [.r, .r, .r, .r, .r, .r, .r, .r, .r, .l, .r, .i, .i, .r, .r, .l, .i, .r, .l, .r, .r, .r, .op 5], .fn 49 [.r, .r, .r, .r, .i, .rg 54684 true], .fn 70 [.r, .i, .i, .r, .l, .i, .l, .op 21], .round 49 [.r, .r, .r, .r, .i, .i] [.i, .r, .i, .i] 54684] []).getD ([], .code .skip)
noncomputable def sk8 : List Go.Sx.FC × Go.Sx.CC := (Go.Sx.skelAt Try.prog [.fn 4 [.r, .r, .r, .r, .r, .l, .op 5], .fn 20 [.r, .r, .r, .r, .r, .r, .r, .r, .r, .l, .r, .i, .i, .r, .r, .l, .i, .r, .l, .r, .r, .r, .op 5], .fn 49 [.r, .r, .r, .r, .i, .rg 54684 true], .fn 70 [.r, .i, .i, .r, .l, .i, .l, .op 21], .round 49 [.r, .r, .r, .r, .i, .i] [.i, .r, .i, .i] 54684] []).getD ([], .code .skip)
noncomputable def sk9 : List Go.Sx.FC × Go.Sx.CC := (Go.Sx.skelAt Try.prog [.fn 4 [.r, .r, .r, .r, .r, .l, .op 5], .fn 20 [.r, .r, .r, .r, .r, .r, .r, .r, .r, .l, .r, .i, .i, .r, .r, .l, .i, .r, .l, .r, .r, .r, .op 5], .fn 49 [.r, .r, .r, .r, .i, .rg 54684 true], .fn 70 [.r, .i, .i, .r, .l, .i, .l, .op 21], .round 49 [.r, .r, .r, .r, .i, .i] [.i, .r, .i, .i] 54684] []).getD ([], .code .skip)
noncomputable def sk10 : List Go.Sx.FC × Go.Sx.CC := (Go.Sx.skelAt Try.prog [.fn 4 [.r, .r, .r, .r, .r, .l, .op 5], .fn 20 [.r, .r, .r, .r, .r, .r, .r, .r, .r, .l, .r, .i, .i, .r, .r, .l, .i, .r, .l, .r, .r, .r, .op 5], .fn 49 [.r, .r, .r, .r, .i, .rg 54684 true], .fn 70 [.r, .i, .i, .r, .l, .i, .l, .op 21], .round 49 [.r, .r, .r, .r, .i, .i] [.i, .r, .i, .i] 54684] []).getD ([], .code .skip)
noncomputable def sk11 : List Go.Sx.FC × Go.Sx.CC := (Go.Sx.skelAt Try.prog [.fn 4 [.r, .r, .r, .r, .r, .r, .r, .r, .r, .r, .r, .l]] []).getD ([], .code .skip)
noncomputable def sk12 : List Go.Sx.FC × Go.Sx.CC := (Go.Sx.skelAt Try.prog [.fn 4 [.r, .r, .r, .r, .r, .r, .r, .r, .r, .r, .r, .r, .r, .l, .op 1], .fn 24 [.r, .r, .r, .l, .op 5], .fn 20 [.r, .r, .r, .r, .r, .r, .r, .r, .r, .l, .r, .i, .i, .r, .r, .l, .i, .r, .l, .r, .r, .r, .op 5], .fn 49 [.r, .r, .r, .r, .i, .rg 86352 true], .fn 70 [.r, .i, .i, .r, .l, .i, .l, .op 21], .round 49 [.r, .r, .r, .r, .i, .i] [.i, .r, .i, .i] 86352] []).getD ([], .code .skip)
noncomputable def sk13 : List Go.Sx.FC × Go.Sx.CC := (Go.Sx.skelAt Try.prog [.fn 4 [.r, .r, .r, .r, .r, .r, .r, .r, .r, .r, .r, .r, .r, .l, .op 1], .fn 24 [.r, .r, .r, .l, .op 5], .fn 20 [.r, .r, .r, .r, .r, .r, .r, .r, .r, .l, .r, .i, .i, .r, .r, .l, .i, .r, .l, .r, .r, .r, .op 5], .fn 49 [.r, .r, .r, .r, .i, .rg 86352 true], .fn 70 [.r, .i, .i, .r, .l, .i, .l, .op 21], .round 49 [.r, .r, .r, .r, .i, .i] [.i, .r, .i, .i] 86352] []).getD ([], .code .skip)
noncomputable def sk14 : List Go.Sx.FC × Go.Sx.CC := (Go.Sx.skelAt Try.prog [.fn 4 [.r, .r, .r, .r, .r, .r, .r, .r, .r, .r, .r, .r, .r, .l, .op 1], .fn 24 [.r, .r, .r, .l, .op 5], .fn 20 [.r, .r, .r, .r, .r, .r, .r, .r, .r, .l, .r, .i, .i, .r, .r, .l, .i, .r, .l, .r, .r, .r, .op 5], .fn 49 [.r, .r, .r, .r, .i, .rg 86352 true], .fn 70 [.r, .i, .i, .r, .l, .i, .l, .op 21], .round 49 [.r, .r, .r, .r, .i, .i] [.i, .r, .i, .i] 86352] []).getD ([], .code .skip)
noncomputable def sk15 : List Go.Sx.FC × Go.Sx.CC := (Go.Sx.skelAt Try.prog [.fn 4 [.r, .r, .r, .r, .r, .r, .r, .r, .r, .r, .r, .r, .r, .l, .op 1], .fn 24 [.r, .r, .r, .l, .op 5], .fn 20 [.r, .r, .r, .r, .r, .r, .r, .r, .r, .l, .r, .i, .i, .r, .r, .l, .i, .r, .l, .r, .r, .r, .op 5], .fn 49 [.r, .r, .r, .r, .i, .rg 86352 true], .fn 70 [.r, .i, .i, .r, .l, .i, .l, .op 21], .round 49 [.r, .r, .r, .r, .i, .i] [.i, .r, .i, .i] 86352] []).getD ([], .code .skip)
noncomputable def sk16 : List Go.Sx.FC × Go.Sx.CC := (Go.Sx.skelAt Try.prog [.fn 4 [.r, .r, .r, .r, .r, .r, .r, .r, .r, .r, .r, .r, .r, .l, .op 1], .fn 24 [.r, .r, .r, .r, .r, .r, .l]] []).getD ([], .code .skip)
set_option maxRecDepth 1000000 in
theorem piece0 : Go.Sx.skel [] pt1 (Go.Sx.go Try.prog 100000 [] (Go.Sx.script [0, 2, 2, 2, 0, 3, 0, 2, 2, 2, 2, 2, 2, 2, 2, 2, 0, 2, 0, 1, 2, 2, 0, 0, 2, 0, 2, 2, 0, 0, 0, 2, 2, 2, 2, 0, 0, 2, 0, 1, 2, 0, 0, 0, 0, 0, 0, 2, 0, 265]) [] (.code body { n := Try.f4.ntmps, dflt := true, t := .leaf } (Go.Sx.laidHeap []))) = some sk1 := by kernel_rfl
set_option maxRecDepth 1000000 in
theorem piece1 : Go.Sx.skel [] pt2 (Go.Sx.go Try.prog 100000 [] (Go.Sx.script [270]) (Go.Sx.mkK sk1.1 pt1.frs.tail) (Go.Sx.mkC [] pt1 sk1.1 sk1.2)) = some sk2 := by kernel_rfl
set_option maxRecDepth 1000000 in
theorem piece2 : Go.Sx.skel [] pt3 (Go.Sx.go Try.prog 100000 [] (Go.Sx.script [267]) (Go.Sx.mkK sk2.1 pt2.frs.tail) (Go.Sx.mkC [] pt2 sk2.1 sk2.2)) = some sk3 := by kernel_rfl
set_option maxRecDepth 1000000 in
theorem piece3 : Go.Sx.skel [] pt4 (Go.Sx.go Try.prog 100000 [] (Go.Sx.script [121, 12, 11, 0, 3, 0, 2, 2, 2, 2, 2, 2, 2, 2, 2, 0, 2, 0, 1, 2, 2, 0, 0, 2, 0, 2, 2, 0, 0, 0, 2, 2, 2, 2, 0, 0, 2, 0, 1, 2, 0, 0, 0, 0, 0, 0, 2, 0, 160]) (Go.Sx.mkK sk3.1 pt3.frs.tail) (Go.Sx.mkC [] pt3 sk3.1 sk3.2)) = some sk4 := by kernel_rfl
set_option maxRecDepth 1000000 in
theorem piece4 : Go.Sx.skel [] pt5 (Go.Sx.go Try.prog 100000 [] (Go.Sx.script [258]) (Go.Sx.mkK sk4.1 pt4.frs.tail) (Go.Sx.mkC [] pt4 sk4.1 sk4.2)) = some sk5 := by kernel_rfl
set_option maxRecDepth 1000000 in
theorem piece5 : Go.Sx.skel [] pt6 (Go.Sx.go Try.prog 100000 [] (Go.Sx.script [252]) (Go.Sx.mkK sk5.1 pt5.frs.tail) (Go.Sx.mkC [] pt5 sk5.1 sk5.2)) = some sk6 := by kernel_rfl
set_option maxRecDepth 1000000 in
theorem piece6 : Go.Sx.skel [] pt7 (Go.Sx.go Try.prog 100000 [] (Go.Sx.script [253, 12, 11, 0, 5, 0, 2, 2, 2, 2, 2, 2, 2, 2, 2, 0, 2, 0, 1, 2, 2, 0, 0, 2, 0, 2, 2, 0, 0, 0, 2, 2, 2, 2, 0, 0, 2, 0, 1, 2, 0, 0, 0, 0, 0, 0, 2, 0, 7]) (Go.Sx.mkK sk6.1 pt6.frs.tail) (Go.Sx.mkC [] pt6 sk6.1 sk6.2)) = some sk7 := by kernel_rfl
set_option maxRecDepth 1000000 in
theorem piece7 : Go.Sx.skel [] pt8 (Go.Sx.go Try.prog 100000 [] (Go.Sx.script [258]) (Go.Sx.mkK sk7.1 pt7.frs.tail) (Go.Sx.mkC [] pt7 sk7.1 sk7.2)) = some sk8 := by kernel_rfl
set_option maxRecDepth 1000000 in
theorem piece8 : Go.Sx.skel [] pt9 (Go.Sx.go Try.prog 100000 [] (Go.Sx.script [252]) (Go.Sx.mkK sk8.1 pt8.frs.tail) (Go.Sx.mkC [] pt8 sk8.1 sk8.2)) = some sk9 := by kernel_rfl
set_option maxRecDepth 1000000 in
theorem piece9 : Go.Sx.skel [] pt10 (Go.Sx.go Try.prog 100000 [] (Go.Sx.script [252]) (Go.Sx.mkK sk9.1 pt9.frs.tail) (Go.Sx.mkC [] pt9 sk9.1 sk9.2)) = some sk10 := by kernel_rfl
set_option maxRecDepth 1000000 in
theorem piece10 : Go.Sx.skel [] pt11 (Go.Sx.go Try.prog 100000 [] (Go.Sx.script [157, 16, 2, 2, 2, 2, 2, 0]) (Go.Sx.mkK sk10.1 pt10.frs.tail) (Go.Sx.mkC [] pt10 sk10.1 sk10.2)) = some sk11 := by kernel_rfl
set_option maxRecDepth 1000000 in
theorem piece11 : Go.Sx.skel [] pt12 (Go.Sx.go Try.prog 100000 [] (Go.Sx.script [2, 2, 0, 1, 0, 2, 2, 2, 0, 5, 0, 2, 2, 2, 2, 2, 2, 2, 2, 2, 0, 2, 0, 1, 2, 2, 0, 0, 2, 0, 2, 2, 0, 0, 0, 2, 2, 2, 2, 0, 0, 2, 0, 1, 2, 0, 0, 0, 0, 0, 0, 2, 0, 37]) (Go.Sx.mkK sk11.1 pt11.frs.tail) (Go.Sx.mkC [] pt11 sk11.1 sk11.2)) = some sk12 := by kernel_rfl
set_option maxRecDepth 1000000 in
theorem piece12 : Go.Sx.skel [] pt13 (Go.Sx.go Try.prog 100000 [] (Go.Sx.script [258]) (Go.Sx.mkK sk12.1 pt12.frs.tail) (Go.Sx.mkC [] pt12 sk12.1 sk12.2)) = some sk13 := by kernel_rfl
set_option maxRecDepth 1000000 in
theorem piece13 : Go.Sx.skel [] pt14 (Go.Sx.go Try.prog 100000 [] (Go.Sx.script [258]) (Go.Sx.mkK sk13.1 pt13.frs.tail) (Go.Sx.mkC [] pt13 sk13.1 sk13.2)) = some sk14 := by kernel_rfl
set_option maxRecDepth 1000000 in
theorem piece14 : Go.Sx.skel [] pt15 (Go.Sx.go Try.prog 100000 [] (Go.Sx.script [258]) (Go.Sx.mkK sk14.1 pt14.frs.tail) (Go.Sx.mkC [] pt14 sk14.1 sk14.2)) = some sk15 := by kernel_rfl
set_option maxRecDepth 1000000 in
theorem piece15 : Go.Sx.skel [] pt16 (Go.Sx.go Try.prog 100000 [] (Go.Sx.script [115, 16, 2, 2, 0]) (Go.Sx.mkK sk15.1 pt15.frs.tail) (Go.Sx.mkC [] pt15 sk15.1 sk15.2)) = some sk16 := by kernel_rfl
set_option maxRecDepth 1000000 in
theorem piece16 : Go.Sx.endB Try.prog Try.f4 (Go.Sx.go Try.prog 100000 [] (Go.Sx.script [57]) (Go.Sx.mkK sk16.1 pt16.frs.tail) (Go.Sx.mkC [] pt16 sk16.1 sk16.2)) = true := by kernel_rfl
theorem run16 : Go.Sx.Run Try.prog Try.f4 [] (Go.Sx.mkK sk16.1 pt16.frs.tail) (Go.Sx.mkC [] pt16 sk16.1 sk16.2) := Go.Sx.run_end piece16
theorem run15 : Go.Sx.Run Try.prog Try.f4 [] (Go.Sx.mkK sk15.1 pt15.frs.tail) (Go.Sx.mkC [] pt15 sk15.1 sk15.2) := Go.Sx.run_piece piece15 run16
theorem run14 : Go.Sx.Run Try.prog Try.f4 [] (Go.Sx.mkK sk14.1 pt14.frs.tail) (Go.Sx.mkC [] pt14 sk14.1 sk14.2) := Go.Sx.run_piece piece14 run15
theorem run13 : Go.Sx.Run Try.prog Try.f4 [] (Go.Sx.mkK sk13.1 pt13.frs.tail) (Go.Sx.mkC [] pt13 sk13.1 sk13.2) := Go.Sx.run_piece piece13 run14
theorem run12 : Go.Sx.Run Try.prog Try.f4 [] (Go.Sx.mkK sk12.1 pt12.frs.tail) (Go.Sx.mkC [] pt12 sk12.1 sk12.2) := Go.Sx.run_piece piece12 run13
theorem run11 : Go.Sx.Run Try.prog Try.f4 [] (Go.Sx.mkK sk11.1 pt11.frs.tail) (Go.Sx.mkC [] pt11 sk11.1 sk11.2) := Go.Sx.run_piece piece11 run12
theorem run10 : Go.Sx.Run Try.prog Try.f4 [] (Go.Sx.mkK sk10.1 pt10.frs.tail) (Go.Sx.mkC [] pt10 sk10.1 sk10.2) := Go.Sx.run_piece piece10 run11
theorem run9 : Go.Sx.Run Try.prog Try.f4 [] (Go.Sx.mkK sk9.1 pt9.frs.tail) (Go.Sx.mkC [] pt9 sk9.1 sk9.2) := Go.Sx.run_piece piece9 run10
theorem run8 : Go.Sx.Run Try.prog Try.f4 [] (Go.Sx.mkK sk8.1 pt8.frs.tail) (Go.Sx.mkC [] pt8 sk8.1 sk8.2) := Go.Sx.run_piece piece8 run9
theorem run7 : Go.Sx.Run Try.prog Try.f4 [] (Go.Sx.mkK sk7.1 pt7.frs.tail) (Go.Sx.mkC [] pt7 sk7.1 sk7.2) := Go.Sx.run_piece piece7 run8
theorem run6 : Go.Sx.Run Try.prog Try.f4 [] (Go.Sx.mkK sk6.1 pt6.frs.tail) (Go.Sx.mkC [] pt6 sk6.1 sk6.2) := Go.Sx.run_piece piece6 run7
theorem run5 : Go.Sx.Run Try.prog Try.f4 [] (Go.Sx.mkK sk5.1 pt5.frs.tail) (Go.Sx.mkC [] pt5 sk5.1 sk5.2) := Go.Sx.run_piece piece5 run6
theorem run4 : Go.Sx.Run Try.prog Try.f4 [] (Go.Sx.mkK sk4.1 pt4.frs.tail) (Go.Sx.mkC [] pt4 sk4.1 sk4.2) := Go.Sx.run_piece piece4 run5
theorem run3 : Go.Sx.Run Try.prog Try.f4 [] (Go.Sx.mkK sk3.1 pt3.frs.tail) (Go.Sx.mkC [] pt3 sk3.1 sk3.2) := Go.Sx.run_piece piece3 run4
theorem run2 : Go.Sx.Run Try.prog Try.f4 [] (Go.Sx.mkK sk2.1 pt2.frs.tail) (Go.Sx.mkC [] pt2 sk2.1 sk2.2) := Go.Sx.run_piece piece2 run3
theorem run1 : Go.Sx.Run Try.prog Try.f4 [] (Go.Sx.mkK sk1.1 pt1.frs.tail) (Go.Sx.mkC [] pt1 sk1.1 sk1.2) := Go.Sx.run_piece piece1 run2
theorem run0 : Go.Sx.Run Try.prog Try.f4 [] [] (.code body { n := Try.f4.ntmps, dflt := true, t := .leaf } (Go.Sx.laidHeap [])) := Go.Sx.run_piece piece0 run1
theorem walk (w : World) :
    Calls Try.prog 4 #[] w fun e w' => e = .returned (.bool true) ∧ Below w.heap.size w w' :=
  Go.Sx.call_run okayed Try.func4 body_eq run0 (fun _ _ h => by cases h)

set_option maxRecDepth 100000 in
theorem lifted (os : Os) (started : os.Started) (H : Type) (enc : TypeId × Value → H) :
    ReturnsInHanded {} Try.checked os 4 .any (Rows.dashKnownSpec.pre6 enc Try.prog Try.f4 Rows.dashKnownRow.domain false) (Rows.dashKnownSpec.post enc Try.prog Try.f4 false true false false) := by
  refine returnsInHanded_of_change (C := Try.checked) own started (by kernel_rfl) Try.func4
    (ChangeSpec.witness6 (enc := enc) (C := Try.checked) false ⟨#[], #[], []⟩ 8 (by kernel_rfl) (by kernel_rfl) (by kernel_rfl) (by kernel_rfl)) ?_
  intro W base args ds gs before hval0 hW hcnd _
  have hval : ∀ (j : Nat) t v, Try.f4.params[j]? = some t → args[j]? = some v → Value.okWide Try.prog W .any base t v := hval0
  have hW' := hW
  obtain ⟨p, q, hA0, hV, rfl, hfz, hnd⟩ := hW
  have hA : DataW.TrodAll enc Try.prog W 0 (fun _ => true) true Try.f4.params.toList args.toList ds p := hA0
  rw [Try.params4] at hA hval
  obtain ⟨rfl, rfl, rfl⟩ := trodAll_none hA
  obtain ⟨rfl, rfl⟩ := trodVars_none hV
  clear hA0 hval0
  simp only [List.append_nil] at hW'
  refine (walk  W).mono fun e W' ⟨he, hg⟩ => ?_
  subst he
  exact ⟨_, rfl, Go.Sx.post_of_below (pa := []) (pv := []) hW' (fun _ _ _ => (trodAll_cons_mk (shut_bool Try.underlying4 _) trodAll_mk0)) (fun sp _ => rfl) (fun _ _ => rfl) rfl
    hg (ok_one (by kernel_rfl) rfl (okWide_bool_mk Try.underlying4 _))⟩

theorem over : Rows.dashKnownRow.holds Try.pinned (OpenSpec.ofChange Rows.dashKnownSpec) :=
  OpenClaim.holds_of_wide 4 Try.f4 rfl rfl rfl rfl rfl rfl rfl ⟨rfl, rfl, rfl, rfl, rfl⟩ rfl rfl rfl rfl rfl (by kernel_rfl) Try.func4 (by kernel_rfl)
    (of_decide_eq_true (by kernel_rfl)) (by unfold Func.isWrapper; first | (rw [if_pos (by decide +kernel)]; kernel_rfl) | (rw [if_neg (by decide +kernel)]; exact ⟨rfl, rfl⟩))
    (fun os started H enc _ => lifted os started H enc)

theorem proved : Rows.DashKnownSaid := over
#print axioms proved
end Go.Proofs.Ytledddmcjjjiiaa.dashKnown
