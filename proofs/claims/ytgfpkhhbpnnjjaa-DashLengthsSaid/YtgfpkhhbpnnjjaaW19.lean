/- 'chase/chaselaw25.works' returns true: no condition. The call takes no argument: it is run in pieces by an executor that is proved sound against the model. -/
import Derived.Test.YtgfpkhhbpnnjjaaRows
import Derived.Test.YtgfpkhhbpnnjjaaSxF
import Derived.Test.YtgfpkhhbpnnjjaaW19Pt1
namespace Go.Proofs.Ytgfpkhhbpnnjjaa.works19
open Go.Sx (zt zf zi zn zu)
set_option linter.unusedVariables false
noncomputable def bodyw19 : Go.Code := (Try.f19.body).getD .skip
theorem bodyw19_eq : Try.f19.body = some bodyw19 := Go.Sx.some_getD (by kernel_rfl)
theorem okayed : Go.Sx.okProg Try.prog = true := by kernel_rfl
noncomputable def skw19_1 : List Go.Sx.FC × Go.Sx.CC := (Go.Sx.skelAt Try.prog [.fn 19 [.r, .r, .r, .l, .op 5], .fn 45 [.r, .r, .r, .r, .r, .r, .r, .r, .r, .l, .r, .i, .i, .r, .r, .l, .i, .r, .l, .r, .r, .r, .op 5], .fn 81 [.r, .r, .r, .r, .i, .rg 251 true], .fn 104 [.r, .i, .i, .r, .l, .i, .l, .op 21], .round 81 [.r, .r, .r, .r, .i, .i] [.i, .r, .i, .i] 251] []).getD ([], .code .skip)
noncomputable def skw19_2 : List Go.Sx.FC × Go.Sx.CC := (Go.Sx.skelAt Try.prog [.fn 19 [.r, .r, .r, .l, .op 5], .fn 45 [.r, .r, .r, .r, .r, .r, .r, .r, .r, .l, .r, .i, .i, .r, .r, .l, .i, .r, .l, .r, .r, .r, .op 5], .fn 81 [.r, .r, .r, .r, .i, .rg 251 true], .fn 104 [.r, .i, .i, .r, .l, .i, .l, .op 21], .round 81 [.r, .r, .r, .r, .i, .i] [.i, .r, .i, .i] 251] []).getD ([], .code .skip)
set_option maxRecDepth 1000000 in
theorem piecew19_0 : Go.Sx.skel [] ptw19_1 (Go.Sx.go Try.prog 100000 [] (Go.Sx.script [0, 2, 2, 2, 0, 5, 0, 2, 2, 2, 2, 2, 2, 2, 2, 2, 0, 2, 0, 1, 2, 2, 0, 0, 2, 0, 2, 2, 0, 0, 0, 2, 2, 2, 2, 0, 0, 2, 0, 1, 2, 0, 0, 0, 0, 0, 0, 2, 0, 373]) [] (.code bodyw19 (Go.Sx.startA [] Try.f19) (Go.Sx.laidHeap []))) = some skw19_1 := by kernel_rfl
set_option maxRecDepth 1000000 in
theorem piecew19_1 : Go.Sx.skel [] ptw19_2 (Go.Sx.go Try.prog 100000 [] (Go.Sx.script [372]) (Go.Sx.mkK skw19_1.1 ptw19_1.frs.tail) (Go.Sx.mkC [] ptw19_1 skw19_1.1 skw19_1.2)) = some skw19_2 := by kernel_rfl
set_option maxRecDepth 1000000 in
theorem piecew19_2 : Go.Sx.endB Try.prog Try.f19 (Go.Sx.go Try.prog 100000 [] (Go.Sx.script [181, 16, 2, 2, 3]) (Go.Sx.mkK skw19_2.1 ptw19_2.frs.tail) (Go.Sx.mkC [] ptw19_2 skw19_2.1 skw19_2.2)) = true := by kernel_rfl
theorem runw19_2 : Go.Sx.Run Try.prog Try.f19 [] (.bool true) (Go.Sx.mkK skw19_2.1 ptw19_2.frs.tail) (Go.Sx.mkC [] ptw19_2 skw19_2.1 skw19_2.2) := Go.Sx.run_end piecew19_2
theorem runw19_1 : Go.Sx.Run Try.prog Try.f19 [] (.bool true) (Go.Sx.mkK skw19_1.1 ptw19_1.frs.tail) (Go.Sx.mkC [] ptw19_1 skw19_1.1 skw19_1.2) := Go.Sx.run_piece piecew19_1 runw19_2
theorem runw19_0 : Go.Sx.Run Try.prog Try.f19 [] (.bool true) [] (.code bodyw19 (Go.Sx.startA [] Try.f19) (Go.Sx.laidHeap [])) := Go.Sx.run_piece piecew19_0 runw19_1
theorem done : Go.Sx.Fact Try.prog [] 19 [] (.bool true) := Go.Sx.fact_of_run okayed (by kernel_rfl) (by kernel_rfl) (by kernel_rfl) Try.func19 bodyw19_eq runw19_0
#print axioms done
end Go.Proofs.Ytgfpkhhbpnnjjaa.works19
