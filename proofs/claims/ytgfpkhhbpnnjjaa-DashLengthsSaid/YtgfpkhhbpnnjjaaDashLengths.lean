/- 'chase/chaselaw25.DashLengths' returns true for every argument, and nothing that was there is changed. Its run, with unknown arguments, is worked out by an executor that is proved sound against the model: so each function is a term; the rest is arithmetic. -/
import Derived.Test.YtgfpkhhbpnnjjaaRows
import Derived.WalkKit
import Derived.ProofKit
import Derived.OpenShut
import Derived.Test.YtgfpkhhbpnnjjaaSxF
import Derived.Test.YtgfpkhhbpnnjjaaW19
namespace Go.Proofs.Ytgfpkhhbpnnjjaa.dashLengths
open Go.ChangeShapes Go.WideShapes Go.ChangeAt Go.WideMaps Go.WideElems Go.RowKit
set_option linter.unusedVariables false

theorem own : ownKnob Try.prog.godebug = none := by kernel_rfl
theorem okayed : Go.Sx.okProg Try.prog = true := by kernel_rfl
theorem laidOut : laidOutB Try.prog = true := by kernel_rfl
section
open Go.Sx
set_option maxRecDepth 1000000

theorem fact19 : Go.Sx.Fact Try.prog [] 19 [] (.bool true) := works19.done
noncomputable def body37 : Go.Code := (Try.f37.body).getD .skip
theorem body37_eq : Try.f37.body = some body37 := Go.Sx.some_getD (by kernel_rfl)
noncomputable def F37 (qx : Int) (qy : Int) : Option (Bool) := (bif (!Go.Sx.ltI qx ((-16384))) then (bif (!Go.Sx.ltI 16384 qx) then (bif (!Go.Sx.ltI qy ((-16384))) then (some (!Go.Sx.ltI 16384 qy)) else (some false)) else (some false)) else (some false))
set_option maxHeartbeats 4000000 in
theorem form37 (n : Nat) (qx : Int) (qy : Int) (vz : Go.Sx.AV) : Go.Sx.wpS Try.prog Try.f37 [] vz (.st [0, 0, 2, 2, 0, 0, 0, 0, 2, 2, 2, 2] (.br 6 (.st [2, 2, 2, 2, 2] (.br 11 (.st [2, 2, 2, 2, 2] (.br 16 (.st [2, 2, 2, 2, 2, 0, 0, 2] .ans) (.st [2, 2, 2, 2, 2, 0, 0, 2] .ans))) (.st [2, 2, 2, 2, 2, 2, 2, 2, 2, 2, 0, 0, 2] .ans))) (.st [2, 2, 2, 2, 2, 2, 2, 2, 2, 2, 2, 2, 2, 2, 2, 0, 0, 2] .ans))) [] (.code body37 (Go.Sx.startA [.agg [.int .i64 qx, .int .i64 qy]] Try.f37) (Go.Sx.laidHeap [])) = (Go.Sx.BR (!Go.Sx.ltI qx ((-16384))) (Go.Sx.BR (!Go.Sx.ltI 16384 qx) (Go.Sx.BR (!Go.Sx.ltI qy ((-16384))) (vz = .bool (!Go.Sx.ltI 16384 qy)) (vz = .bool false)) (vz = .bool false)) (vz = .bool false)) := by kernel_rfl
theorem run37 (n : Nat) (qx : Int) (qy : Int) (r : Bool) (h : F37 qx qy = some r) : Go.Sx.Run Try.prog Try.f37 [] (.bool r) [] (.code body37 (Go.Sx.startA [.agg [.int .i64 qx, .int .i64 qy]] Try.f37) (Go.Sx.laidHeap [])) := by
  exact Go.Sx.wpS_run (L := []) (by kernel_rfl) (form37 n qx qy (.bool r)) ((Go.Sx.br_of (fun h0 => (Go.Sx.br_of (fun h1 => (Go.Sx.br_of (fun h2 => (fun h => by cases h; rfl)) (fun h2 => (fun h => by cases h; rfl)))) (fun h1 => (fun h => by cases h; rfl)))) (fun h0 => (fun h => by cases h; rfl))) h)
noncomputable def F37_0 (qx : Int) (qy : Int) : Bool := ((F37 qx qy).getD default)
theorem F37_some (qx : Int) (qy : Int) : (F37 qx qy).isSome = true := by
  unfold F37
  repeat' (first | rfl | apply Go.Sx.some_br)
theorem fact37 (qx : Int) (qy : Int) : Go.Sx.Fact Try.prog [] 37 [.agg [.int .i64 qx, .int .i64 qy]] (.bool (F37_0 qx qy)) := Go.Sx.fact_of_run okayed (by kernel_rfl) (by kernel_rfl) (by kernel_rfl) Try.func37 body37_eq (run37 0 qx qy ((F37 qx qy).getD default) (Go.Sx.getD_some (F37_some qx qy)))
noncomputable def body41 : Go.Code := (Try.f41.body).getD .skip
theorem body41_eq : Try.f41.body = some body41 := Go.Sx.some_getD (by kernel_rfl)
noncomputable def sk41_0 : List Go.Sx.FC × Go.Sx.CC := (Go.Sx.skelAt Try.prog [.fn 41 [.r, .r, .r, .l, .op 1], .fn 74 [.r, .r, .l, .i, .h]] []).getD ([], .code .skip)
noncomputable def t41_7 (px : (Int)) (py : (Int)) (qx : (Int)) (qy : (Int)) : Int := (Go.Sx.wrapA Go.IntKind.i64 (Int.add (Go.Sx.wrapA Go.IntKind.i64 (Int.mul (Go.Sx.wrapA Go.IntKind.i64 (Int.sub qx px)) (Go.Sx.wrapA Go.IntKind.i64 (Int.sub qx px)))) (Go.Sx.wrapA Go.IntKind.i64 (Int.mul (Go.Sx.wrapA Go.IntKind.i64 (Int.sub qy py)) (Go.Sx.wrapA Go.IntKind.i64 (Int.sub qy py))))))
noncomputable def c41_8 (v0 : (Int)) (v1 : (Int)) (v2 : (Int)) : Bool := (!Go.Sx.ltI v2 (Go.Sx.wrapA Go.IntKind.i64 (Int.mul (Go.Sx.wrapA Go.IntKind.i64 (Int.add (Go.Sx.wrapA Go.IntKind.i64 (Int.fdiv (Go.Sx.wrapA Go.IntKind.u64 (Go.Sx.wrapA Go.IntKind.i64 (Int.add v0 v1))) (2))) 1)) (Go.Sx.wrapA Go.IntKind.i64 (Int.add (Go.Sx.wrapA Go.IntKind.i64 (Int.fdiv (Go.Sx.wrapA Go.IntKind.u64 (Go.Sx.wrapA Go.IntKind.i64 (Int.add v0 v1))) (2))) 1)))))
noncomputable def t41_9 (v0 : (Int)) (v1 : (Int)) : Int := (Go.Sx.wrapA Go.IntKind.i64 (Int.add (Go.Sx.wrapA Go.IntKind.i64 (Int.fdiv (Go.Sx.wrapA Go.IntKind.u64 (Go.Sx.wrapA Go.IntKind.i64 (Int.add v0 v1))) (2))) 1))
noncomputable def pt41_0 (px : Int) (py : Int) (qx : Int) (qy : Int) (v0 : Int) (v1 : Int) (v2 : Int) : Go.Sx.Pt := ⟨[(26, [(1, .fn (.func 75) [] [.ptr 13 0]), (5, .int .i64 (v0)), (6, .int .i64 (v1))]), (27, [])], [], 14, [(13, .cells 3 [.int .i64 (v2)] false)]⟩
mutual
noncomputable def L41_0 (px : Int) (py : Int) (qx : Int) (qy : Int) : Nat → Int → Int → Int → Option (Int)
  | 0, _, _, _ => none
  | n + 1, v0, v1, v2 => (bif (Go.Sx.ltI v0 v1) then (bif (c41_8 v0 v1 v2) then (L41_0 px py qx qy n (t41_9 v0 v1) (v1) (v2)) else (L41_0 px py qx qy n (v0) (Go.Sx.wrapA Go.IntKind.i64 (Int.fdiv (Go.Sx.wrapA Go.IntKind.u64 (Go.Sx.wrapA Go.IntKind.i64 (Int.add v0 v1))) (2))) (v2))) else (some (v0)))
termination_by structural n => n
end
theorem L41_0_succ (px : Int) (py : Int) (qx : Int) (qy : Int) (n : Nat) (v0 : Int) (v1 : Int) (v2 : Int) : L41_0 px py qx qy (n + 1) v0 v1 v2 = (bif (Go.Sx.ltI v0 v1) then (bif (c41_8 v0 v1 v2) then (L41_0 px py qx qy n (t41_9 v0 v1) (v1) (v2)) else (L41_0 px py qx qy n (v0) (Go.Sx.wrapA Go.IntKind.i64 (Int.fdiv (Go.Sx.wrapA Go.IntKind.u64 (Go.Sx.wrapA Go.IntKind.i64 (Int.add v0 v1))) (2))) (v2))) else (some (v0))) := rfl
set_option maxHeartbeats 4000000 in
theorem form41_0 (n : Nat) (px : Int) (py : Int) (qx : Int) (qy : Int) (v0 : Int) (v1 : Int) (v2 : Int) (vz : Go.Sx.AV) : Go.Sx.wpS Try.prog Try.f41 [] vz (.st [0, 0, 0, 0, 2, 2, 2, 0, 0] (.br 11 (.st [0, 2, 0, 0, 0, 0, 2, 2, 2, 2, 2, 2, 2, 0, 0, 0, 0, 2, 2, 0, 0, 0, 2, 0, 0, 0, 0, 2, 2, 2, 2, 2, 2, 2, 2, 0, 0, 2, 0, 2, 0, 0] (.br 21 (.st [0, 0, 2, 2, 2, 0, 0, 0] (.stop ⟨[[1, 5, 6], []], [], [13]⟩ [(13, 13)] 14 [])) (.st [0, 0, 2, 2, 0, 0, 0] (.stop ⟨[[1, 5, 6], []], [], [13]⟩ [(13, 13)] 14 [])))) (.st [0, 2, 0, 0, 0, 0, 0, 0, 2, 2, 0, 0, 2, 0, 2, 0, 0, 2] .ans))) (Go.Sx.mkK sk41_0.1 (pt41_0 px py qx qy v0 v1 v2).frs.tail) (Go.Sx.mkC [] (pt41_0 px py qx qy v0 v1 v2) sk41_0.1 sk41_0.2) = (Go.Sx.BR (Go.Sx.ltI v0 v1) (Go.Sx.BR (c41_8 v0 v1 v2) (Go.Sx.RunAt Try.prog Try.f41 [] vz sk41_0 (pt41_0 px py qx qy (t41_9 v0 v1) (v1) (v2))) (Go.Sx.RunAt Try.prog Try.f41 [] vz sk41_0 (pt41_0 px py qx qy (v0) (Go.Sx.wrapA Go.IntKind.i64 (Int.fdiv (Go.Sx.wrapA Go.IntKind.u64 (Go.Sx.wrapA Go.IntKind.i64 (Int.add v0 v1))) (2))) (v2)))) (vz = .int .i64 (v0))) := by kernel_rfl
theorem runs41 (px : Int) (py : Int) (qx : Int) (qy : Int) : ∀ (n : Nat), (∀ (v0 : Int) (v1 : Int) (v2 : Int) (r : Int), L41_0 px py qx qy n v0 v1 v2 = some r → Go.Sx.RunAt Try.prog Try.f41 [] (.int .i64 r) sk41_0 (pt41_0 px py qx qy v0 v1 v2)) := by
  intro n
  induction n with
  | zero => exact (fun _ _ _ r h => by cases h)
  | succ n ih =>
    have ih0 := ih
    exact (fun v0 v1 v2 r h => Go.Sx.wpS_run (L := []) (by kernel_rfl) (form41_0 n px py qx qy v0 v1 v2 (.int .i64 r)) ((Go.Sx.br_of (fun h0 => (Go.Sx.br_of (fun h1 => (fun h => ih0 (t41_9 v0 v1) (v1) (v2) r h)) (fun h1 => (fun h => ih0 (v0) (Go.Sx.wrapA Go.IntKind.i64 (Int.fdiv (Go.Sx.wrapA Go.IntKind.u64 (Go.Sx.wrapA Go.IntKind.i64 (Int.add v0 v1))) (2))) (v2) r h)))) (fun h0 => (fun h => by cases h; rfl))) ((L41_0_succ px py qx qy n v0 v1 v2).symm.trans h)))
noncomputable def F41 (n : Nat) (px : Int) (py : Int) (qx : Int) (qy : Int) : Option (Int) := (L41_0 px py qx qy n 0 65536 (t41_7 px py qx qy))
set_option maxHeartbeats 4000000 in
theorem form41 (n : Nat) (px : Int) (py : Int) (qx : Int) (qy : Int) (vz : Go.Sx.AV) : Go.Sx.wpS Try.prog Try.f41 [] vz (.st [0, 0, 2, 2, 2, 0, 0, 0, 3, 2, 0, 0, 0, 0, 2, 2, 2, 2, 2, 2, 2, 2, 2, 0, 0, 0, 0, 2, 0, 0, 0, 2, 0, 0, 0, 0, 2, 2, 2, 0, 0, 0, 0, 0] (.stop ⟨[[1, 5, 6], []], [], [13]⟩ [(13, 13)] 14 [])) [] (.code body41 (Go.Sx.startA [.agg [.int .i64 px, .int .i64 py], .agg [.int .i64 qx, .int .i64 qy]] Try.f41) (Go.Sx.laidHeap [])) = (Go.Sx.RunAt Try.prog Try.f41 [] vz sk41_0 (pt41_0 px py qx qy 0 65536 (t41_7 px py qx qy))) := by kernel_rfl
theorem run41 (n : Nat) (px : Int) (py : Int) (qx : Int) (qy : Int) (r : Int) (h : F41 n px py qx qy = some r) : Go.Sx.Run Try.prog Try.f41 [] (.int .i64 r) [] (.code body41 (Go.Sx.startA [.agg [.int .i64 px, .int .i64 py], .agg [.int .i64 qx, .int .i64 qy]] Try.f41) (Go.Sx.laidHeap [])) := by
  have ih0 := runs41 px py qx qy n
  exact Go.Sx.wpS_run (L := []) (by kernel_rfl) (form41 n px py qx qy (.int .i64 r)) ((fun h => ih0 0 65536 (t41_7 px py qx qy) r h) h)
noncomputable def F41_0 (n : Nat) (px : Int) (py : Int) (qx : Int) (qy : Int) : Int := ((F41 n px py qx qy).getD default)
theorem fact41 (n : Nat) (px : Int) (py : Int) (qx : Int) (qy : Int) (h : (F41 n px py qx qy).isSome = true) : Go.Sx.Fact Try.prog [] 41 [.agg [.int .i64 px, .int .i64 py], .agg [.int .i64 qx, .int .i64 qy]] (.int .i64 (F41_0 n px py qx qy)) := Go.Sx.fact_of_run okayed (by kernel_rfl) (by kernel_rfl) (by kernel_rfl) Try.func41 body41_eq (run41 n px py qx qy ((F41 n px py qx qy).getD default) (Go.Sx.getD_some h))
noncomputable def body76 : Go.Code := (Try.f76.body).getD .skip
theorem body76_eq : Try.f76.body = some body76 := Go.Sx.some_getD (by kernel_rfl)
noncomputable def sk76_0 : List Go.Sx.FC × Go.Sx.CC := (Go.Sx.skelAt Try.prog [.fn 76 [.r, .r, .l, .r, .i, .i, .r, .r]] []).getD ([], .code .skip)
noncomputable def c76_2 (x : (Int)) (v0 : (Int)) (v1 : (Int)) : Bool := (!Go.Sx.ltI x (Go.Sx.wrapA Go.IntKind.i64 (Int.mul (Go.Sx.wrapA Go.IntKind.i64 (Int.add v0 (Go.Sx.wrapA Go.IntKind.i64 (Int.tdiv v1 2)))) (Go.Sx.wrapA Go.IntKind.i64 (Int.add v0 (Go.Sx.wrapA Go.IntKind.i64 (Int.tdiv v1 2)))))))
noncomputable def pt76_0 (x : Int) (v0 : Int) (v1 : Int) : Go.Sx.Pt := ⟨[(22, [(0, .int .i64 (x)), (3, .int .i64 (v0)), (4, .int .i64 (v1))])], [], 0, []⟩
mutual
noncomputable def L76_0 (x : Int) : Nat → Int → Int → Option (Int)
  | 0, _, _ => none
  | n + 1, v0, v1 => (bif (Go.Sx.ltI 0 (Go.Sx.wrapA Go.IntKind.i64 (Int.tdiv v1 2))) then (bif (c76_2 x v0 v1) then (L76_0 x n (Go.Sx.wrapA Go.IntKind.i64 (Int.add v0 (Go.Sx.wrapA Go.IntKind.i64 (Int.tdiv v1 2)))) (Go.Sx.wrapA Go.IntKind.i64 (Int.tdiv v1 2))) else (L76_0 x n (v0) (Go.Sx.wrapA Go.IntKind.i64 (Int.tdiv v1 2)))) else (some (v0)))
termination_by structural n => n
end
theorem L76_0_succ (x : Int) (n : Nat) (v0 : Int) (v1 : Int) : L76_0 x (n + 1) v0 v1 = (bif (Go.Sx.ltI 0 (Go.Sx.wrapA Go.IntKind.i64 (Int.tdiv v1 2))) then (bif (c76_2 x v0 v1) then (L76_0 x n (Go.Sx.wrapA Go.IntKind.i64 (Int.add v0 (Go.Sx.wrapA Go.IntKind.i64 (Int.tdiv v1 2)))) (Go.Sx.wrapA Go.IntKind.i64 (Int.tdiv v1 2))) else (L76_0 x n (v0) (Go.Sx.wrapA Go.IntKind.i64 (Int.tdiv v1 2)))) else (some (v0))) := rfl
set_option maxHeartbeats 4000000 in
theorem form76_0 (n : Nat) (x : Int) (v0 : Int) (v1 : Int) (vz : Go.Sx.AV) : Go.Sx.wpS Try.prog Try.f76 [] vz (.st [0, 2, 2, 2, 0, 0, 0, 0, 0, 0, 2, 2, 0, 0] (.br 6 (.st [0, 2, 0, 0, 0, 0, 0, 2, 2, 2, 2, 2, 2, 2, 2, 2, 0, 0] (.br 17 (.st [0, 0, 2, 2, 2, 2, 0, 0, 0] (.stop ⟨[[0, 3, 4]], [], []⟩ [] 0 [])) (.st [0, 2, 0, 0] (.stop ⟨[[0, 3, 4]], [], []⟩ [] 0 [])))) (.st [0, 2, 0, 0, 0, 0, 0, 0, 2, 2, 0, 0, 2] .ans))) (Go.Sx.mkK sk76_0.1 (pt76_0 x v0 v1).frs.tail) (Go.Sx.mkC [] (pt76_0 x v0 v1) sk76_0.1 sk76_0.2) = (Go.Sx.BR (Go.Sx.ltI 0 (Go.Sx.wrapA Go.IntKind.i64 (Int.tdiv v1 2))) (Go.Sx.BR (c76_2 x v0 v1) (Go.Sx.RunAt Try.prog Try.f76 [] vz sk76_0 (pt76_0 x (Go.Sx.wrapA Go.IntKind.i64 (Int.add v0 (Go.Sx.wrapA Go.IntKind.i64 (Int.tdiv v1 2)))) (Go.Sx.wrapA Go.IntKind.i64 (Int.tdiv v1 2)))) (Go.Sx.RunAt Try.prog Try.f76 [] vz sk76_0 (pt76_0 x (v0) (Go.Sx.wrapA Go.IntKind.i64 (Int.tdiv v1 2))))) (vz = .int .i64 (v0))) := by kernel_rfl
theorem runs76 (x : Int) : ∀ (n : Nat), (∀ (v0 : Int) (v1 : Int) (r : Int), L76_0 x n v0 v1 = some r → Go.Sx.RunAt Try.prog Try.f76 [] (.int .i64 r) sk76_0 (pt76_0 x v0 v1)) := by
  intro n
  induction n with
  | zero => exact (fun _ _ r h => by cases h)
  | succ n ih =>
    have ih0 := ih
    exact (fun v0 v1 r h => Go.Sx.wpS_run (L := []) (by kernel_rfl) (form76_0 n x v0 v1 (.int .i64 r)) ((Go.Sx.br_of (fun h1 => (Go.Sx.br_of (fun h2 => (fun h => ih0 (Go.Sx.wrapA Go.IntKind.i64 (Int.add v0 (Go.Sx.wrapA Go.IntKind.i64 (Int.tdiv v1 2)))) (Go.Sx.wrapA Go.IntKind.i64 (Int.tdiv v1 2)) r h)) (fun h2 => (fun h => ih0 (v0) (Go.Sx.wrapA Go.IntKind.i64 (Int.tdiv v1 2)) r h)))) (fun h1 => (fun h => by cases h; rfl))) ((L76_0_succ x n v0 v1).symm.trans h)))
noncomputable def F76 (n : Nat) (x : Int) : Option (Int) := (bif (!Go.Sx.ltI x (1152921504606846976)) then (L76_0 x n 1073741824 1073741824) else (L76_0 x n 0 1073741824))
set_option maxHeartbeats 4000000 in
theorem form76 (n : Nat) (x : Int) (vz : Go.Sx.AV) : Go.Sx.wpS Try.prog Try.f76 [] vz (.st [0, 0, 2, 0, 0, 0, 0, 2, 0, 0, 0, 0, 0, 2, 0, 0, 0, 0, 0, 0, 0, 0, 2, 2, 0, 0, 0, 2, 0, 0, 0, 0, 0, 2, 2, 2, 2, 2, 2, 2, 2, 2, 0, 0] (.br 17 (.st [0, 0, 2, 2, 2, 2, 0, 0, 0] (.stop ⟨[[0, 3, 4]], [], []⟩ [] 0 [])) (.st [0, 2, 0, 0] (.stop ⟨[[0, 3, 4]], [], []⟩ [] 0 [])))) [] (.code body76 (Go.Sx.startA [.int .i64 x] Try.f76) (Go.Sx.laidHeap [])) = (Go.Sx.BR (!Go.Sx.ltI x (1152921504606846976)) (Go.Sx.RunAt Try.prog Try.f76 [] vz sk76_0 (pt76_0 x 1073741824 1073741824)) (Go.Sx.RunAt Try.prog Try.f76 [] vz sk76_0 (pt76_0 x 0 1073741824))) := by kernel_rfl
theorem run76 (n : Nat) (x : Int) (r : Int) (h : F76 n x = some r) : Go.Sx.Run Try.prog Try.f76 [] (.int .i64 r) [] (.code body76 (Go.Sx.startA [.int .i64 x] Try.f76) (Go.Sx.laidHeap [])) := by
  have ih0 := runs76 x n
  exact Go.Sx.wpS_run (L := []) (by kernel_rfl) (form76 n x (.int .i64 r)) ((Go.Sx.br_of (fun h0 => (fun h => ih0 1073741824 1073741824 r h)) (fun h0 => (fun h => ih0 0 1073741824 r h))) h)
noncomputable def F76_0 (n : Nat) (x : Int) : Int := ((F76 n x).getD default)
theorem fact76 (n : Nat) (x : Int) (h : (F76 n x).isSome = true) : Go.Sx.Fact Try.prog [] 76 [.int .i64 x] (.int .i64 (F76_0 n x)) := Go.Sx.fact_of_run okayed (by kernel_rfl) (by kernel_rfl) (by kernel_rfl) Try.func76 body76_eq (run76 n x ((F76 n x).getD default) (Go.Sx.getD_some h))
noncomputable def body42 : Go.Code := (Try.f42.body).getD .skip
theorem body42_eq : Try.f42.body = some body42 := Go.Sx.some_getD (by kernel_rfl)
noncomputable def t42_0 (px : (Int)) (py : (Int)) (qx : (Int)) (qy : (Int)) : Int := (Go.Sx.wrapA Go.IntKind.i64 (Int.add (Go.Sx.wrapA Go.IntKind.i64 (Int.mul (Go.Sx.wrapA Go.IntKind.i64 (Int.sub qx px)) (Go.Sx.wrapA Go.IntKind.i64 (Int.sub qx px)))) (Go.Sx.wrapA Go.IntKind.i64 (Int.mul (Go.Sx.wrapA Go.IntKind.i64 (Int.sub qy py)) (Go.Sx.wrapA Go.IntKind.i64 (Int.sub qy py))))))
noncomputable def F42 (n : Nat) (px : Int) (py : Int) (qx : Int) (qy : Int) : Option (Int) := (bif (Option.isSome (F76 n (t42_0 px py qx qy))) then (some (F76_0 n (t42_0 px py qx qy))) else none)
set_option maxHeartbeats 4000000 in
theorem form42 (n : Nat) (px : Int) (py : Int) (qx : Int) (qy : Int) (vz : Go.Sx.AV) : Go.Sx.wpS Try.prog Try.f42 [] vz (.st [0, 0, 2, 2, 2, 0, 0, 0, 3, 2, 0, 0, 0, 0, 2, 2, 2, 2, 2, 2, 2] (.use (.int .i64 (F76_0 n (t42_0 px py qx qy))) (.st [2, 0, 0, 2] .ans))) [] (.code body42 (Go.Sx.startA [.agg [.int .i64 px, .int .i64 py], .agg [.int .i64 qx, .int .i64 qy]] Try.f42) (Go.Sx.laidHeap [])) = (Go.Sx.Fact Try.prog [] 76 [.int .i64 (t42_0 px py qx qy)] (.int .i64 (F76_0 n (t42_0 px py qx qy))) ∧ (vz = .int .i64 (F76_0 n (t42_0 px py qx qy)))) := by kernel_rfl
theorem run42 (n : Nat) (px : Int) (py : Int) (qx : Int) (qy : Int) (r : Int) (h : F42 n px py qx qy = some r) : Go.Sx.Run Try.prog Try.f42 [] (.int .i64 r) [] (.code body42 (Go.Sx.startA [.agg [.int .i64 px, .int .i64 py], .agg [.int .i64 qx, .int .i64 qy]] Try.f42) (Go.Sx.laidHeap [])) := by
  exact Go.Sx.wpS_run (L := []) (by kernel_rfl) (form42 n px py qx qy (.int .i64 r)) ((Go.Sx.guard_of fun h0 => (fun h => ⟨fact76 (n) (t42_0 px py qx qy) h0, (fun h => by cases h; rfl) h⟩)) h)
noncomputable def F42_0 (n : Nat) (px : Int) (py : Int) (qx : Int) (qy : Int) : Int := ((F42 n px py qx qy).getD default)
theorem fact42 (n : Nat) (px : Int) (py : Int) (qx : Int) (qy : Int) (h : (F42 n px py qx qy).isSome = true) : Go.Sx.Fact Try.prog [] 42 [.agg [.int .i64 px, .int .i64 py], .agg [.int .i64 qx, .int .i64 qy]] (.int .i64 (F42_0 n px py qx qy)) := Go.Sx.fact_of_run okayed (by kernel_rfl) (by kernel_rfl) (by kernel_rfl) Try.func42 body42_eq (run42 n px py qx qy ((F42 n px py qx qy).getD default) (Go.Sx.getD_some h))
noncomputable def body17 : Go.Code := (Try.f17.body).getD .skip
theorem body17_eq : Try.f17.body = some body17 := Go.Sx.some_getD (by kernel_rfl)
noncomputable def F17 (n : Nat) (px : Int) (py : Int) (qx : Int) (qy : Int) : Option (Int × Int) := (bif (Go.Sx.ltI px ((-16384))) then (some (0, 2)) else (bif (Go.Sx.ltI 16384 px) then (some (0, 2)) else (bif (Go.Sx.ltI py ((-16384))) then (some (0, 2)) else (bif (Go.Sx.ltI 16384 py) then (some (0, 2)) else (bif (Go.Sx.ltI qx ((-16384))) then (some (0, 2)) else (bif (Go.Sx.ltI 16384 qx) then (some (0, 2)) else (bif (Go.Sx.ltI qy ((-16384))) then (some (0, 2)) else (bif (Go.Sx.ltI 16384 qy) then (some (0, 2)) else (bif (Option.isSome (F41 n px py qx qy)) then (some ((F41_0 n px py qx qy), 0)) else none)))))))))
set_option maxHeartbeats 4000000 in
theorem form17 (n : Nat) (px : Int) (py : Int) (qx : Int) (qy : Int) (vz : Go.Sx.AV) : Go.Sx.wpS Try.prog Try.f17 [] vz (.st [0, 0, 2, 2, 2, 2, 0, 0, 0, 0, 0, 2, 2, 2, 2, 2, 2, 2, 2, 2, 2, 0, 0, 0, 0, 0, 0, 0, 2, 0, 0, 0, 0, 2, 0, 0, 0, 0, 0, 2, 2, 0, 0, 0, 0, 2, 2, 2] (.br 22 (.st [2, 2, 2, 0, 0, 0, 0, 0, 2, 2, 0, 0, 2, 0, 0, 0, 0, 0] .ans) (.st [2, 2, 2, 0, 0] (.br 25 (.st [0, 0, 0, 2, 2, 0, 0, 2, 0, 0, 0, 0, 0] .ans) (.st [0, 2, 0, 0, 0, 2, 2, 0, 0, 0, 0, 0, 2, 0, 0, 0, 0, 2, 0, 0, 0, 0, 0, 2, 2, 0, 0, 0, 0, 2, 2, 2] (.br 22 (.st [2, 2, 2, 0, 0, 0, 0, 0, 2, 2, 0, 0, 2, 0, 0, 0, 0, 0] .ans) (.st [2, 2, 2, 0, 0] (.br 25 (.st [0, 0, 0, 2, 2, 0, 0, 2, 0, 0, 0, 0, 0] .ans) (.st [0, 2, 0, 0, 0, 2, 2, 0, 0, 0, 0, 0, 2, 0, 0, 0, 0, 2, 0, 0, 0, 0, 0, 2, 2, 0, 0, 0, 0, 2, 2, 2] (.br 22 (.st [2, 2, 2, 0, 0, 0, 0, 0, 2, 2, 0, 0, 2, 0, 0, 0, 0, 0] .ans) (.st [2, 2, 2, 0, 0] (.br 25 (.st [0, 0, 0, 2, 2, 0, 0, 2, 0, 0, 0, 0, 0] .ans) (.st [0, 2, 0, 0, 0, 2, 2, 0, 0, 0, 0, 0, 2, 0, 0, 0, 0, 2, 0, 0, 0, 0, 0, 2, 2, 0, 0, 0, 0, 2, 2, 2] (.br 22 (.st [2, 2, 2, 0, 0, 0, 0, 0, 2, 2, 0, 0, 2, 0, 0, 0, 0, 0] .ans) (.st [2, 2, 2, 0, 0] (.br 25 (.st [0, 0, 0, 2, 2, 0, 0, 2, 0, 0, 0, 0, 0] .ans) (.st [0, 2, 0, 0, 0, 2, 2, 0, 0, 0, 0, 0, 2, 0, 0, 0, 0, 2, 0, 0, 0, 0, 0, 0, 2, 2] (.use (.int .i64 (F41_0 n px py qx qy)) (.st [2, 2, 0, 0, 2] .ans))))))))))))))))))) [] (.code body17 (Go.Sx.startA [.agg [.int .i64 px, .int .i64 py], .agg [.int .i64 qx, .int .i64 qy]] Try.f17) (Go.Sx.laidHeap [])) = (Go.Sx.BR (Go.Sx.ltI px ((-16384))) (vz = .tup [.int .i64 (.ofNat 0), .int .i64 (.ofNat 2)]) (Go.Sx.BR (Go.Sx.ltI 16384 px) (vz = .tup [.int .i64 (.ofNat 0), .int .i64 (.ofNat 2)]) (Go.Sx.BR (Go.Sx.ltI py ((-16384))) (vz = .tup [.int .i64 (.ofNat 0), .int .i64 (.ofNat 2)]) (Go.Sx.BR (Go.Sx.ltI 16384 py) (vz = .tup [.int .i64 (.ofNat 0), .int .i64 (.ofNat 2)]) (Go.Sx.BR (Go.Sx.ltI qx ((-16384))) (vz = .tup [.int .i64 (.ofNat 0), .int .i64 (.ofNat 2)]) (Go.Sx.BR (Go.Sx.ltI 16384 qx) (vz = .tup [.int .i64 (.ofNat 0), .int .i64 (.ofNat 2)]) (Go.Sx.BR (Go.Sx.ltI qy ((-16384))) (vz = .tup [.int .i64 (.ofNat 0), .int .i64 (.ofNat 2)]) (Go.Sx.BR (Go.Sx.ltI 16384 qy) (vz = .tup [.int .i64 (.ofNat 0), .int .i64 (.ofNat 2)]) (Go.Sx.Fact Try.prog [] 41 [.agg [.int .i64 (px), .int .i64 (py)], .agg [.int .i64 (qx), .int .i64 (qy)]] (.int .i64 (F41_0 n px py qx qy)) ∧ (vz = .tup [.int .i64 (F41_0 n px py qx qy), .int .i64 (.ofNat 0)])))))))))) := by kernel_rfl
theorem run17 (n : Nat) (px : Int) (py : Int) (qx : Int) (qy : Int) (r : Int × Int) (h : F17 n px py qx qy = some r) : Go.Sx.Run Try.prog Try.f17 [] (.tup [.int .i64 r.1, .int .i64 r.2]) [] (.code body17 (Go.Sx.startA [.agg [.int .i64 px, .int .i64 py], .agg [.int .i64 qx, .int .i64 qy]] Try.f17) (Go.Sx.laidHeap [])) := by
  exact Go.Sx.wpS_run (L := []) (by kernel_rfl) (form17 n px py qx qy (.tup [.int .i64 r.1, .int .i64 r.2])) ((Go.Sx.br_of (fun h0 => (fun h => by cases h; rfl)) (fun h0 => (Go.Sx.br_of (fun h1 => (fun h => by cases h; rfl)) (fun h1 => (Go.Sx.br_of (fun h2 => (fun h => by cases h; rfl)) (fun h2 => (Go.Sx.br_of (fun h3 => (fun h => by cases h; rfl)) (fun h3 => (Go.Sx.br_of (fun h4 => (fun h => by cases h; rfl)) (fun h4 => (Go.Sx.br_of (fun h5 => (fun h => by cases h; rfl)) (fun h5 => (Go.Sx.br_of (fun h6 => (fun h => by cases h; rfl)) (fun h6 => (Go.Sx.br_of (fun h7 => (fun h => by cases h; rfl)) (fun h7 => (Go.Sx.guard_of fun h8 => (fun h => ⟨fact41 (n) (px) (py) (qx) (qy) h8, (fun h => by cases h; rfl) h⟩)))))))))))))))))) h)
noncomputable def F17_0 (n : Nat) (px : Int) (py : Int) (qx : Int) (qy : Int) : Int := ((F17 n px py qx qy).getD default).1
noncomputable def F17_1 (n : Nat) (px : Int) (py : Int) (qx : Int) (qy : Int) : Int := ((F17 n px py qx qy).getD default).2
theorem fact17 (n : Nat) (px : Int) (py : Int) (qx : Int) (qy : Int) (h : (F17 n px py qx qy).isSome = true) : Go.Sx.Fact Try.prog [] 17 [.agg [.int .i64 px, .int .i64 py], .agg [.int .i64 qx, .int .i64 qy]] (.tup [.int .i64 (F17_0 n px py qx qy), .int .i64 (F17_1 n px py qx qy)]) := Go.Sx.fact_of_run okayed (by kernel_rfl) (by kernel_rfl) (by kernel_rfl) Try.func17 body17_eq (run17 n px py qx qy ((F17 n px py qx qy).getD default) (Go.Sx.getD_some h))
noncomputable def body18 : Go.Code := (Try.f18.body).getD .skip
theorem body18_eq : Try.f18.body = some body18 := Go.Sx.some_getD (by kernel_rfl)
noncomputable def F18 (n : Nat) (px : Int) (py : Int) (qx : Int) (qy : Int) : Option (Int × Int) := (bif (!F37_0 px py) then (some (0, 2)) else (bif (!F37_0 qx qy) then (some (0, 2)) else (bif (Option.isSome (F42 n px py qx qy)) then (some ((F42_0 n px py qx qy), 0)) else none)))
set_option maxHeartbeats 4000000 in
theorem form18 (n : Nat) (px : Int) (py : Int) (qx : Int) (qy : Int) (vz : Go.Sx.AV) : Go.Sx.wpS Try.prog Try.f18 [] vz (.st [0, 0, 2, 2, 2, 2, 0, 0, 0, 0, 0, 2] (.use (.bool (F37_0 px py)) (.st [2, 2] (.br 9 (.st [2, 2, 2, 2, 0, 0, 0, 0, 0, 2, 2, 0, 0, 2, 0] .ans) (.st [2] (.use (.bool (F37_0 qx qy)) (.st [2, 2, 0, 0] (.br 13 (.st [0, 0, 0, 2, 2, 0, 0, 2, 0] .ans) (.st [0, 2, 0, 0, 0, 2, 2] (.use (.int .i64 (F42_0 n px py qx qy)) (.st [2, 2, 0, 0, 2] .ans))))))))))) [] (.code body18 (Go.Sx.startA [.agg [.int .i64 px, .int .i64 py], .agg [.int .i64 qx, .int .i64 qy]] Try.f18) (Go.Sx.laidHeap [])) = (Go.Sx.Fact Try.prog [] 37 [.agg [.int .i64 (px), .int .i64 (py)]] (.bool (F37_0 px py)) ∧ (Go.Sx.BR (!F37_0 px py) (vz = .tup [.int .i64 (.ofNat 0), .int .i64 (.ofNat 2)]) (Go.Sx.Fact Try.prog [] 37 [.agg [.int .i64 (qx), .int .i64 (qy)]] (.bool (F37_0 qx qy)) ∧ (Go.Sx.BR (!F37_0 qx qy) (vz = .tup [.int .i64 (.ofNat 0), .int .i64 (.ofNat 2)]) (Go.Sx.Fact Try.prog [] 42 [.agg [.int .i64 (px), .int .i64 (py)], .agg [.int .i64 (qx), .int .i64 (qy)]] (.int .i64 (F42_0 n px py qx qy)) ∧ (vz = .tup [.int .i64 (F42_0 n px py qx qy), .int .i64 (.ofNat 0)])))))) := by kernel_rfl
theorem run18 (n : Nat) (px : Int) (py : Int) (qx : Int) (qy : Int) (r : Int × Int) (h : F18 n px py qx qy = some r) : Go.Sx.Run Try.prog Try.f18 [] (.tup [.int .i64 r.1, .int .i64 r.2]) [] (.code body18 (Go.Sx.startA [.agg [.int .i64 px, .int .i64 py], .agg [.int .i64 qx, .int .i64 qy]] Try.f18) (Go.Sx.laidHeap [])) := by
  exact Go.Sx.wpS_run (L := []) (by kernel_rfl) (form18 n px py qx qy (.tup [.int .i64 r.1, .int .i64 r.2])) ((fun h => ⟨fact37 (px) (py), (Go.Sx.br_of (fun h0 => (fun h => by cases h; rfl)) (fun h0 => (fun h => ⟨fact37 (qx) (qy), (Go.Sx.br_of (fun h1 => (fun h => by cases h; rfl)) (fun h1 => (Go.Sx.guard_of fun h2 => (fun h => ⟨fact42 (n) (px) (py) (qx) (qy) h2, (fun h => by cases h; rfl) h⟩)))) h⟩))) h⟩) h)
noncomputable def F18_0 (n : Nat) (px : Int) (py : Int) (qx : Int) (qy : Int) : Int := ((F18 n px py qx qy).getD default).1
noncomputable def F18_1 (n : Nat) (px : Int) (py : Int) (qx : Int) (qy : Int) : Int := ((F18 n px py qx qy).getD default).2
theorem fact18 (n : Nat) (px : Int) (py : Int) (qx : Int) (qy : Int) (h : (F18 n px py qx qy).isSome = true) : Go.Sx.Fact Try.prog [] 18 [.agg [.int .i64 px, .int .i64 py], .agg [.int .i64 qx, .int .i64 qy]] (.tup [.int .i64 (F18_0 n px py qx qy), .int .i64 (F18_1 n px py qx qy)]) := Go.Sx.fact_of_run okayed (by kernel_rfl) (by kernel_rfl) (by kernel_rfl) Try.func18 body18_eq (run18 n px py qx qy ((F18 n px py qx qy).getD default) (Go.Sx.getD_some h))
noncomputable def body6 : Go.Code := (Try.f6.body).getD .skip
theorem body6_eq : Try.f6.body = some body6 := Go.Sx.some_getD (by kernel_rfl)
noncomputable def t6_0 (n : (Nat)) (a0_0 : (Int)) (a0_1 : (Int)) (a1_0 : (Int)) (a1_1 : (Int)) : Int := (F17_1 n (Int.tmod a0_0 4611686018427387904) (Int.tmod a0_1 4611686018427387904) (Int.tmod a1_0 4611686018427387904) (Int.tmod a1_1 4611686018427387904))
noncomputable def t6_1 (n : (Nat)) (a0_0 : (Int)) (a0_1 : (Int)) (a1_0 : (Int)) (a1_1 : (Int)) : Int := (F18_1 n (Int.tmod a0_0 4611686018427387904) (Int.tmod a0_1 4611686018427387904) (Int.tmod a1_0 4611686018427387904) (Int.tmod a1_1 4611686018427387904))
noncomputable def c6_2 (n : (Nat)) (a0_0 : (Int)) (a0_1 : (Int)) (a1_0 : (Int)) (a1_1 : (Int)) : Bool := (!Go.Sx.eqI (F17_0 n (Int.tmod a0_0 4611686018427387904) (Int.tmod a0_1 4611686018427387904) (Int.tmod a1_0 4611686018427387904) (Int.tmod a1_1 4611686018427387904)) (F18_0 n (Int.tmod a0_0 4611686018427387904) (Int.tmod a0_1 4611686018427387904) (Int.tmod a1_0 4611686018427387904) (Int.tmod a1_1 4611686018427387904)))
noncomputable def t6_3 (n : (Nat)) (a0_0 : (Int)) (a0_1 : (Int)) (a1_0 : (Int)) (a1_1 : (Int)) : Int := (F17_1 n (Int.tmod a0_0 (16385)) (Int.tmod a0_1 (16385)) (Int.tmod a1_0 (16385)) (Int.tmod a1_1 (16385)))
noncomputable def t6_4 (n : (Nat)) (a0_0 : (Int)) (a0_1 : (Int)) (a1_0 : (Int)) (a1_1 : (Int)) : Int := (F18_1 n (Int.tmod a0_0 (16385)) (Int.tmod a0_1 (16385)) (Int.tmod a1_0 (16385)) (Int.tmod a1_1 (16385)))
noncomputable def c6_5 (n : (Nat)) (a0_0 : (Int)) (a0_1 : (Int)) (a1_0 : (Int)) (a1_1 : (Int)) : Bool := (!Go.Sx.eqI (F17_0 n (Int.tmod a0_0 (16385)) (Int.tmod a0_1 (16385)) (Int.tmod a1_0 (16385)) (Int.tmod a1_1 (16385))) (F18_0 n (Int.tmod a0_0 (16385)) (Int.tmod a0_1 (16385)) (Int.tmod a1_0 (16385)) (Int.tmod a1_1 (16385))))
noncomputable def t6_6 (n : (Nat)) (a0_0 : (Int)) (a0_1 : (Int)) (a1_0 : (Int)) (a1_1 : (Int)) : Int := (F17_1 n (Int.tmod a0_0 (300)) (Int.tmod a0_1 (300)) (Int.tmod a1_0 (300)) (Int.tmod a1_1 (300)))
noncomputable def t6_7 (n : (Nat)) (a0_0 : (Int)) (a0_1 : (Int)) (a1_0 : (Int)) (a1_1 : (Int)) : Int := (F18_1 n (Int.tmod a0_0 (300)) (Int.tmod a0_1 (300)) (Int.tmod a1_0 (300)) (Int.tmod a1_1 (300)))
noncomputable def c6_8 (n : (Nat)) (a0_0 : (Int)) (a0_1 : (Int)) (a1_0 : (Int)) (a1_1 : (Int)) : Bool := (!Go.Sx.eqI (F17_0 n (Int.tmod a0_0 (300)) (Int.tmod a0_1 (300)) (Int.tmod a1_0 (300)) (Int.tmod a1_1 (300))) (F18_0 n (Int.tmod a0_0 (300)) (Int.tmod a0_1 (300)) (Int.tmod a1_0 (300)) (Int.tmod a1_1 (300))))
noncomputable def F6 (n : Nat) (a0_0 : Int) (a0_1 : Int) (a1_0 : Int) (a1_1 : Int) : Option (Bool) := (bif (Option.isSome (F17 n (Int.tmod a0_0 4611686018427387904) (Int.tmod a0_1 4611686018427387904) (Int.tmod a1_0 4611686018427387904) (Int.tmod a1_1 4611686018427387904))) then (bif (Option.isSome (F18 n (Int.tmod a0_0 4611686018427387904) (Int.tmod a0_1 4611686018427387904) (Int.tmod a1_0 4611686018427387904) (Int.tmod a1_1 4611686018427387904))) then (bif (c6_2 n a0_0 a0_1 a1_0 a1_1) then (some false) else (bif (!Go.Sx.eqI (t6_0 n a0_0 a0_1 a1_0 a1_1) (t6_1 n a0_0 a0_1 a1_0 a1_1)) then (some false) else (bif (Option.isSome (F17 n (Int.tmod a0_0 16385) (Int.tmod a0_1 16385) (Int.tmod a1_0 16385) (Int.tmod a1_1 16385))) then (bif (Option.isSome (F18 n (Int.tmod a0_0 16385) (Int.tmod a0_1 16385) (Int.tmod a1_0 16385) (Int.tmod a1_1 16385))) then (bif (c6_5 n a0_0 a0_1 a1_0 a1_1) then (some false) else (bif (!Go.Sx.eqI (t6_3 n a0_0 a0_1 a1_0 a1_1) (t6_4 n a0_0 a0_1 a1_0 a1_1)) then (some false) else (bif (Option.isSome (F17 n (Int.tmod a0_0 300) (Int.tmod a0_1 300) (Int.tmod a1_0 300) (Int.tmod a1_1 300))) then (bif (Option.isSome (F18 n (Int.tmod a0_0 300) (Int.tmod a0_1 300) (Int.tmod a1_0 300) (Int.tmod a1_1 300))) then (bif (c6_8 n a0_0 a0_1 a1_0 a1_1) then (some false) else (bif (!Go.Sx.eqI (t6_6 n a0_0 a0_1 a1_0 a1_1) (t6_7 n a0_0 a0_1 a1_0 a1_1)) then (some false) else (some true))) else none) else none))) else none) else none))) else none) else none)
set_option maxHeartbeats 4000000 in
theorem form6 (n : Nat) (a0_0 : Int) (a0_1 : Int) (a1_0 : Int) (a1_1 : Int) (vz : Go.Sx.AV) : Go.Sx.wpS Try.prog Try.f6 [] vz (.st [0, 0, 2, 2, 2, 0, 0, 0, 0, 0, 2, 2, 0, 0, 0, 0, 0, 0, 0, 2, 0, 0, 0, 0, 2, 0, 0, 0, 0, 0, 2, 2, 0, 0, 0, 3, 2, 0, 0, 0, 0, 2, 2] (.use (.tup [.int .i64 (F17_0 n (Int.tmod a0_0 4611686018427387904) (Int.tmod a0_1 4611686018427387904) (Int.tmod a1_0 4611686018427387904) (Int.tmod a1_1 4611686018427387904)), .int .i64 (F17_1 n (Int.tmod a0_0 4611686018427387904) (Int.tmod a0_1 4611686018427387904) (Int.tmod a1_0 4611686018427387904) (Int.tmod a1_1 4611686018427387904))]) (.st [2, 2, 2, 2, 2, 0, 0, 0, 0, 2, 2] (.use (.tup [.int .i64 (F18_0 n (Int.tmod a0_0 4611686018427387904) (Int.tmod a0_1 4611686018427387904) (Int.tmod a1_0 4611686018427387904) (Int.tmod a1_1 4611686018427387904)), .int .i64 (F18_1 n (Int.tmod a0_0 4611686018427387904) (Int.tmod a0_1 4611686018427387904) (Int.tmod a1_0 4611686018427387904) (Int.tmod a1_1 4611686018427387904))]) (.st [2, 2, 2, 2, 2, 0, 0, 0, 0, 2, 2, 2, 2] (.br 50 (.st [2, 2, 2, 2, 0, 0, 0, 0, 0, 2, 0, 0, 2, 0, 0, 0, 0, 0] .ans) (.st [2, 2, 2, 2, 0, 0] (.br 54 (.st [0, 0, 0, 2, 0, 0, 2, 0, 0, 0, 0, 0] .ans) (.st [0, 2, 0, 0, 0, 2, 2, 0, 0, 0, 0, 0, 2, 0, 0, 0, 0, 2, 0, 0, 0, 0, 0, 2, 2, 0, 0, 0, 3, 2, 0, 0, 0, 0, 2, 2] (.use (.tup [.int .i64 (F17_0 n (Int.tmod a0_0 (Int.ofNat 16385)) (Int.tmod a0_1 (Int.ofNat 16385)) (Int.tmod a1_0 (Int.ofNat 16385)) (Int.tmod a1_1 (Int.ofNat 16385))), .int .i64 (F17_1 n (Int.tmod a0_0 (Int.ofNat 16385)) (Int.tmod a0_1 (Int.ofNat 16385)) (Int.tmod a1_0 (Int.ofNat 16385)) (Int.tmod a1_1 (Int.ofNat 16385)))]) (.st [2, 2, 2, 2, 2, 0, 0, 0, 0, 2, 2] (.use (.tup [.int .i64 (F18_0 n (Int.tmod a0_0 (Int.ofNat 16385)) (Int.tmod a0_1 (Int.ofNat 16385)) (Int.tmod a1_0 (Int.ofNat 16385)) (Int.tmod a1_1 (Int.ofNat 16385))), .int .i64 (F18_1 n (Int.tmod a0_0 (Int.ofNat 16385)) (Int.tmod a0_1 (Int.ofNat 16385)) (Int.tmod a1_0 (Int.ofNat 16385)) (Int.tmod a1_1 (Int.ofNat 16385)))]) (.st [2, 2, 2, 2, 2, 0, 0, 0, 0, 2, 2, 2, 2] (.br 50 (.st [2, 2, 2, 2, 0, 0, 0, 0, 0, 2, 0, 0, 2, 0, 0, 0, 0, 0] .ans) (.st [2, 2, 2, 2, 0, 0] (.br 54 (.st [0, 0, 0, 2, 0, 0, 2, 0, 0, 0, 0, 0] .ans) (.st [0, 2, 0, 0, 0, 2, 2, 0, 0, 0, 0, 0, 2, 0, 0, 0, 0, 2, 0, 0, 0, 0, 0, 2, 2, 0, 0, 0, 3, 2, 0, 0, 0, 0, 2, 2] (.use (.tup [.int .i64 (F17_0 n (Int.tmod a0_0 (Int.ofNat 300)) (Int.tmod a0_1 (Int.ofNat 300)) (Int.tmod a1_0 (Int.ofNat 300)) (Int.tmod a1_1 (Int.ofNat 300))), .int .i64 (F17_1 n (Int.tmod a0_0 (Int.ofNat 300)) (Int.tmod a0_1 (Int.ofNat 300)) (Int.tmod a1_0 (Int.ofNat 300)) (Int.tmod a1_1 (Int.ofNat 300)))]) (.st [2, 2, 2, 2, 2, 0, 0, 0, 0, 2, 2] (.use (.tup [.int .i64 (F18_0 n (Int.tmod a0_0 (Int.ofNat 300)) (Int.tmod a0_1 (Int.ofNat 300)) (Int.tmod a1_0 (Int.ofNat 300)) (Int.tmod a1_1 (Int.ofNat 300))), .int .i64 (F18_1 n (Int.tmod a0_0 (Int.ofNat 300)) (Int.tmod a0_1 (Int.ofNat 300)) (Int.tmod a1_0 (Int.ofNat 300)) (Int.tmod a1_1 (Int.ofNat 300)))]) (.st [2, 2, 2, 2, 2, 0, 0, 0, 0, 2, 2, 2, 2] (.br 50 (.st [2, 2, 2, 2, 0, 0, 0, 0, 0, 2, 0, 0, 2, 0, 0, 0, 0, 0] .ans) (.st [2, 2, 2, 2, 0, 0] (.br 54 (.st [0, 0, 0, 2, 0, 0, 2, 0, 0, 0, 0, 0] .ans) (.st [0, 2, 0, 0, 0, 2, 2, 0, 0, 0, 0, 0, 2, 0, 0, 0, 0, 2, 0, 0, 0, 0, 0, 0] (.use (.bool true) (.st [2, 0, 0, 2] .ans))))))))))))))))))))))))))) [] (.code body6 (Go.Sx.startA [.agg [.int .i64 a0_0, .int .i64 a0_1], .agg [.int .i64 a1_0, .int .i64 a1_1]] Try.f6) (Go.Sx.laidHeap [])) = (Go.Sx.Fact Try.prog [] 17 [.agg [.int .i64 (Int.tmod a0_0 4611686018427387904), .int .i64 (Int.tmod a0_1 4611686018427387904)], .agg [.int .i64 (Int.tmod a1_0 4611686018427387904), .int .i64 (Int.tmod a1_1 4611686018427387904)]] (.tup [.int .i64 (F17_0 n (Int.tmod a0_0 4611686018427387904) (Int.tmod a0_1 4611686018427387904) (Int.tmod a1_0 4611686018427387904) (Int.tmod a1_1 4611686018427387904)), .int .i64 (F17_1 n (Int.tmod a0_0 4611686018427387904) (Int.tmod a0_1 4611686018427387904) (Int.tmod a1_0 4611686018427387904) (Int.tmod a1_1 4611686018427387904))]) ∧ (Go.Sx.Fact Try.prog [] 18 [.agg [.int .i64 (Int.tmod a0_0 4611686018427387904), .int .i64 (Int.tmod a0_1 4611686018427387904)], .agg [.int .i64 (Int.tmod a1_0 4611686018427387904), .int .i64 (Int.tmod a1_1 4611686018427387904)]] (.tup [.int .i64 (F18_0 n (Int.tmod a0_0 4611686018427387904) (Int.tmod a0_1 4611686018427387904) (Int.tmod a1_0 4611686018427387904) (Int.tmod a1_1 4611686018427387904)), .int .i64 (F18_1 n (Int.tmod a0_0 4611686018427387904) (Int.tmod a0_1 4611686018427387904) (Int.tmod a1_0 4611686018427387904) (Int.tmod a1_1 4611686018427387904))]) ∧ (Go.Sx.BR (c6_2 n a0_0 a0_1 a1_0 a1_1) (vz = .bool false) (Go.Sx.BR (!Go.Sx.eqI (t6_0 n a0_0 a0_1 a1_0 a1_1) (t6_1 n a0_0 a0_1 a1_0 a1_1)) (vz = .bool false) (Go.Sx.Fact Try.prog [] 17 [.agg [.int .i64 (Int.tmod a0_0 (Int.ofNat 16385)), .int .i64 (Int.tmod a0_1 (Int.ofNat 16385))], .agg [.int .i64 (Int.tmod a1_0 (Int.ofNat 16385)), .int .i64 (Int.tmod a1_1 (Int.ofNat 16385))]] (.tup [.int .i64 (F17_0 n (Int.tmod a0_0 (Int.ofNat 16385)) (Int.tmod a0_1 (Int.ofNat 16385)) (Int.tmod a1_0 (Int.ofNat 16385)) (Int.tmod a1_1 (Int.ofNat 16385))), .int .i64 (F17_1 n (Int.tmod a0_0 (Int.ofNat 16385)) (Int.tmod a0_1 (Int.ofNat 16385)) (Int.tmod a1_0 (Int.ofNat 16385)) (Int.tmod a1_1 (Int.ofNat 16385)))]) ∧ (Go.Sx.Fact Try.prog [] 18 [.agg [.int .i64 (Int.tmod a0_0 (Int.ofNat 16385)), .int .i64 (Int.tmod a0_1 (Int.ofNat 16385))], .agg [.int .i64 (Int.tmod a1_0 (Int.ofNat 16385)), .int .i64 (Int.tmod a1_1 (Int.ofNat 16385))]] (.tup [.int .i64 (F18_0 n (Int.tmod a0_0 (Int.ofNat 16385)) (Int.tmod a0_1 (Int.ofNat 16385)) (Int.tmod a1_0 (Int.ofNat 16385)) (Int.tmod a1_1 (Int.ofNat 16385))), .int .i64 (F18_1 n (Int.tmod a0_0 (Int.ofNat 16385)) (Int.tmod a0_1 (Int.ofNat 16385)) (Int.tmod a1_0 (Int.ofNat 16385)) (Int.tmod a1_1 (Int.ofNat 16385)))]) ∧ (Go.Sx.BR (c6_5 n a0_0 a0_1 a1_0 a1_1) (vz = .bool false) (Go.Sx.BR (!Go.Sx.eqI (t6_3 n a0_0 a0_1 a1_0 a1_1) (t6_4 n a0_0 a0_1 a1_0 a1_1)) (vz = .bool false) (Go.Sx.Fact Try.prog [] 17 [.agg [.int .i64 (Int.tmod a0_0 (Int.ofNat 300)), .int .i64 (Int.tmod a0_1 (Int.ofNat 300))], .agg [.int .i64 (Int.tmod a1_0 (Int.ofNat 300)), .int .i64 (Int.tmod a1_1 (Int.ofNat 300))]] (.tup [.int .i64 (F17_0 n (Int.tmod a0_0 (Int.ofNat 300)) (Int.tmod a0_1 (Int.ofNat 300)) (Int.tmod a1_0 (Int.ofNat 300)) (Int.tmod a1_1 (Int.ofNat 300))), .int .i64 (F17_1 n (Int.tmod a0_0 (Int.ofNat 300)) (Int.tmod a0_1 (Int.ofNat 300)) (Int.tmod a1_0 (Int.ofNat 300)) (Int.tmod a1_1 (Int.ofNat 300)))]) ∧ (Go.Sx.Fact Try.prog [] 18 [.agg [.int .i64 (Int.tmod a0_0 (Int.ofNat 300)), .int .i64 (Int.tmod a0_1 (Int.ofNat 300))], .agg [.int .i64 (Int.tmod a1_0 (Int.ofNat 300)), .int .i64 (Int.tmod a1_1 (Int.ofNat 300))]] (.tup [.int .i64 (F18_0 n (Int.tmod a0_0 (Int.ofNat 300)) (Int.tmod a0_1 (Int.ofNat 300)) (Int.tmod a1_0 (Int.ofNat 300)) (Int.tmod a1_1 (Int.ofNat 300))), .int .i64 (F18_1 n (Int.tmod a0_0 (Int.ofNat 300)) (Int.tmod a0_1 (Int.ofNat 300)) (Int.tmod a1_0 (Int.ofNat 300)) (Int.tmod a1_1 (Int.ofNat 300)))]) ∧ (Go.Sx.BR (c6_8 n a0_0 a0_1 a1_0 a1_1) (vz = .bool false) (Go.Sx.BR (!Go.Sx.eqI (t6_6 n a0_0 a0_1 a1_0 a1_1) (t6_7 n a0_0 a0_1 a1_0 a1_1)) (vz = .bool false) (Go.Sx.Fact Try.prog [] 19 [] (.bool true) ∧ (vz = .bool true)))))))))))))) := by kernel_rfl
theorem run6 (n : Nat) (a0_0 : Int) (a0_1 : Int) (a1_0 : Int) (a1_1 : Int) (r : Bool) (h : F6 n a0_0 a0_1 a1_0 a1_1 = some r) : Go.Sx.Run Try.prog Try.f6 [] (.bool r) [] (.code body6 (Go.Sx.startA [.agg [.int .i64 a0_0, .int .i64 a0_1], .agg [.int .i64 a1_0, .int .i64 a1_1]] Try.f6) (Go.Sx.laidHeap [])) := by
  exact Go.Sx.wpS_run (L := []) (by kernel_rfl) (form6 n a0_0 a0_1 a1_0 a1_1 (.bool r)) ((Go.Sx.guard_of fun h0 => (fun h => ⟨fact17 (n) (Int.tmod a0_0 4611686018427387904) (Int.tmod a0_1 4611686018427387904) (Int.tmod a1_0 4611686018427387904) (Int.tmod a1_1 4611686018427387904) h0, (Go.Sx.guard_of fun h1 => (fun h => ⟨fact18 (n) (Int.tmod a0_0 4611686018427387904) (Int.tmod a0_1 4611686018427387904) (Int.tmod a1_0 4611686018427387904) (Int.tmod a1_1 4611686018427387904) h1, (Go.Sx.br_of (fun h2 => (fun h => by cases h; rfl)) (fun h2 => (Go.Sx.br_of (fun h3 => (fun h => by cases h; rfl)) (fun h3 => (Go.Sx.guard_of fun h4 => (fun h => ⟨fact17 (n) (Int.tmod a0_0 (16385)) (Int.tmod a0_1 (16385)) (Int.tmod a1_0 (16385)) (Int.tmod a1_1 (16385)) h4, (Go.Sx.guard_of fun h5 => (fun h => ⟨fact18 (n) (Int.tmod a0_0 (16385)) (Int.tmod a0_1 (16385)) (Int.tmod a1_0 (16385)) (Int.tmod a1_1 (16385)) h5, (Go.Sx.br_of (fun h6 => (fun h => by cases h; rfl)) (fun h6 => (Go.Sx.br_of (fun h7 => (fun h => by cases h; rfl)) (fun h7 => (Go.Sx.guard_of fun h8 => (fun h => ⟨fact17 (n) (Int.tmod a0_0 (300)) (Int.tmod a0_1 (300)) (Int.tmod a1_0 (300)) (Int.tmod a1_1 (300)) h8, (Go.Sx.guard_of fun h9 => (fun h => ⟨fact18 (n) (Int.tmod a0_0 (300)) (Int.tmod a0_1 (300)) (Int.tmod a1_0 (300)) (Int.tmod a1_1 (300)) h9, (Go.Sx.br_of (fun h10 => (fun h => by cases h; rfl)) (fun h10 => (Go.Sx.br_of (fun h11 => (fun h => by cases h; rfl)) (fun h11 => (fun h => ⟨fact19 , (fun h => by cases h; rfl) h⟩))))) h⟩)) h⟩)))))) h⟩)) h⟩)))))) h⟩)) h⟩)) h)

set_option maxRecDepth 100000
theorem cS {α : Type} (b : Bool) (x y : α) : (bif b then some x else some y) = some (bif b then x else y) := by cases b <;> rfl
theorem condP (b x y : Bool) : ((bif b then x else y) = true) = ((b = true ∧ x = true) ∨ (b = false ∧ y = true)) := by cases b <;> simp
theorem condF (b x y : Bool) : ((bif b then x else y) = false) = ((b = true ∧ x = false) ∨ (b = false ∧ y = false)) := by cases b <;> simp
theorem nneg_f (b : Bool) : ((!b) = false) = (b = true) := by cases b <;> simp
theorem andB_t (a b : Bool) : (andB a b = true) = (a = true ∧ b = true) := by cases a <;> simp [andB]
theorem andB_f (a b : Bool) : (andB a b = false) = (a = false ∨ b = false) := by cases a <;> simp [andB]
theorem strNil_t (s : List Nat) : (strEq s [] = true) = (s.length = 0) := by cases s <;> simp [strEq]
theorem strNil_f (s : List Nat) : (strEq s [] = false) = (s.length ≠ 0) := by cases s <;> simp [strEq]
theorem strEq_same (s : List Nat) : strEq s s = true := by simp [strEq]
theorem eqI_same (n : Int) : eqI n n = true := by rw [eqI_t]
def IsRoot (r s : Int) : Prop := 0 ≤ r ∧ r * r ≤ s ∧ s < (r + 1) * (r + 1)
theorem sq_le {a b : Int} (h0 : 0 ≤ a) (h : a ≤ b) : a * a ≤ b * b := Int.mul_le_mul h h h0 (by omega)
theorem root_uniq {r t s : Int} (h : IsRoot r s) (g : IsRoot t s) : r = t := by
  obtain ⟨h1, h2, h3⟩ := h
  obtain ⟨g1, g2, g3⟩ := g
  rcases Int.lt_trichotomy r t with q | q | q
  · have := sq_le (a := r + 1) (b := t) (by omega) (by omega); omega
  · exact q
  · have := sq_le (a := t + 1) (b := r) (by omega) (by omega); omega
theorem wu64 {n : Int} (h1 : 0 ≤ n) (h2 : n ≤ 18446744073709551615) : wrapA .u64 n = n := wrap_in (by simpa [IntKind.min, IntKind.signed] using h1) (by simpa [IntKind.max, IntKind.signed, IntKind.bits] using h2)
theorem half_ok {a b : Int} (h1 : 0 ≤ a) (h2 : a ≤ 1000000) (h3 : 0 ≤ b) (h4 : b ≤ 1000000) : wrapA .i64 (Int.fdiv (wrapA .u64 (wrapA .i64 (Int.add a b))) 2) = (a + b) / 2 := by
  simp only [add_int]
  rw [wrap64 (n := a + b) (by omega) (by omega), wu64 (by omega) (by omega), fdiv_pos _ (by decide), wrap64 (by omega) (by omega)]
theorem bs_ok (px py qx qy s : Int) (k n : Nat) : ∀ (v0 v1 : Int), 0 ≤ v0 → v0 ≤ v1 → v1 ≤ 65536 → v1 - v0 < 2 ^ k → v0 * v0 ≤ s → s < (v1 + 1) * (v1 + 1) → ∃ r, L41_0 px py qx qy (n + k + 1) v0 v1 s = some r ∧ IsRoot r s ∧ r ≤ 65536 := by
  induction k with
  | zero =>
    intro v0 v1 h0 h1 h2 h3 h4 h5
    have e : v0 = v1 := by have : (2 : Int) ^ 0 = 1 := rfl; omega
    subst e
    have l : ltI v0 v0 = false := by rw [ltI_f]; omega
    exact ⟨v0, by rw [L41_0_succ, l]; rfl, ⟨h0, h4, h5⟩, h2⟩
  | succ k ih =>
    intro v0 v1 h0 h1 h2 h3 h4 h5
    by_cases q : v0 < v1
    · have l : ltI v0 v1 = true := by rw [ltI_t]; exact q
      have hh := half_ok (a := v0) (b := v1) h0 (by omega) (by omega) (by omega)
      obtain ⟨h, hd⟩ : ∃ h, (v0 + v1) / 2 = h := ⟨_, rfl⟩
      rw [hd] at hh
      have hb : v0 ≤ h ∧ h < v1 := by omega
      have p2 : (2 : Int) ^ (k + 1) = 2 * 2 ^ k := by rw [Int.pow_succ]; omega
      have w1 : wrapA .i64 (Int.add h 1) = h + 1 := by simp only [add_int]; exact wrap64 (by omega) (by omega)
      have sq := sq_le (a := h + 1) (b := 65536) (by omega) (by omega)
      have nn : 0 ≤ (h + 1) * (h + 1) := Int.mul_nonneg (by omega) (by omega)
      have w2 : wrapA .i64 (Int.mul (h + 1) (h + 1)) = (h + 1) * (h + 1) := by simp only [mul_int]; exact wrap64 (by omega) (by omega)
      rw [show n + (k + 1) + 1 = (n + k + 1) + 1 by omega, L41_0_succ, l, cond_true]
      unfold c41_8 t41_9
      rw [hh, w1, w2]
      by_cases g : (h + 1) * (h + 1) ≤ s
      · rw [(ltI_f _ _).mpr g]
        exact ih (h + 1) v1 (by omega) (by omega) h2 (by omega) g h5
      · rw [(ltI_t _ _).mpr (by omega)]
        exact ih v0 h h0 (by omega) (by omega) (by omega) h4 (by omega)
    · have e : v0 = v1 := by omega
      subst e
      have l : ltI v0 v0 = false := by rw [ltI_f]; omega
      exact ⟨v0, by rw [L41_0_succ, l]; rfl, ⟨h0, h4, h5⟩, h2⟩
theorem rt_ok (x : Int) (j n : Nat) : ∀ (v0 : Int), 0 ≤ v0 → v0 + 2 ^ j ≤ 1073741824 → v0 * v0 ≤ x → x < (v0 + 2 ^ j) * (v0 + 2 ^ j) → ∃ r, L76_0 x (n + j + 1) v0 (2 ^ j) = some r ∧ IsRoot r x := by
  induction j with
  | zero =>
    intro v0 h0 h1 h2 h3
    have e : (2 : Int) ^ 0 = 1 := rfl
    rw [e] at h3 ⊢
    have d : ltI 0 (wrapA .i64 (Int.tdiv 1 2)) = false := rfl
    exact ⟨v0, by rw [L76_0_succ, d]; rfl, ⟨h0, h2, h3⟩⟩
  | succ j ih =>
    intro v0 h0 h1 h2 h3
    have p2 : (2 : Int) ^ (j + 1) = 2 * 2 ^ j := by rw [Int.pow_succ]; omega
    have pp : (0 : Int) < 2 ^ j := Int.pow_pos (by decide)
    obtain ⟨b, hb⟩ : ∃ b, (2 : Int) ^ j = b := ⟨_, rfl⟩
    rw [p2] at h1 h3 ⊢
    rw [hb] at h1 h3 pp ⊢
    rw [hb] at ih
    have d : wrapA .i64 (Int.tdiv (2 * b) 2) = b := by
      rw [tdiv_pos (by omega), show 2 * b / 2 = b by omega]; exact wrap64 (by omega) (by omega)
    have l : ltI 0 b = true := by rw [ltI_t]; exact pp
    have w1 : wrapA .i64 (Int.add v0 b) = v0 + b := by simp only [add_int]; exact wrap64 (by omega) (by omega)
    have sq := sq_le (a := v0 + b) (b := 1073741824) (by omega) (by omega)
    have nn : 0 ≤ (v0 + b) * (v0 + b) := Int.mul_nonneg (by omega) (by omega)
    have w2 : wrapA .i64 (Int.mul (v0 + b) (v0 + b)) = (v0 + b) * (v0 + b) := by simp only [mul_int]; exact wrap64 (by omega) (by omega)
    rw [show n + (j + 1) + 1 = (n + j + 1) + 1 by omega, L76_0_succ]
    unfold c76_2
    rw [d, l, w1, w2, cond_true]
    by_cases g : (v0 + b) * (v0 + b) ≤ x
    · rw [(ltI_f _ _).mpr g]
      exact ih (v0 + b) (by omega) (by omega) g (by rw [show v0 + b + b = v0 + 2 * b by omega]; exact h3)
    · rw [(ltI_t _ _).mpr (by omega)]
      exact ih v0 h0 (by omega) h2 (by omega)
theorem diff_sq {a b : Int} (h1 : -16384 ≤ a ∧ a ≤ 16384) (h2 : -16384 ≤ b ∧ b ≤ 16384) : wrapA .i64 (Int.mul (wrapA .i64 (Int.sub a b)) (wrapA .i64 (Int.sub a b))) = (a - b) * (a - b) ∧ 0 ≤ (a - b) * (a - b) ∧ (a - b) * (a - b) ≤ 1073741824 := by
  have m := mul_bd (x := a - b) (y := a - b) (a := 32768) (b := 32768) (by omega) (by omega) (by omega) (by omega)
  have nn : 0 ≤ (a - b) * (a - b) := by
    rcases Int.le_total 0 (a - b) with q | q
    · exact Int.mul_nonneg q q
    · have := Int.mul_nonneg (show 0 ≤ -(a - b) by omega) (show 0 ≤ -(a - b) by omega)
      rw [Int.neg_mul_neg] at this; exact this
  simp only [sub_int, mul_int]
  rw [wrap64 (n := a - b) (by omega) (by omega)]
  exact ⟨wrap64 (by omega) (by omega), nn, by omega⟩
theorem pt_t (x y : Int) : (F37_0 x y = true) = ((-16384 ≤ x ∧ x ≤ 16384) ∧ (-16384 ≤ y ∧ y ≤ 16384)) := by
  unfold F37_0 F37
  simp only [cS, Option.getD_some, condP, condF, nneg_n, nneg_f, ltI_t, ltI_f, Bool.false_eq_true, and_false, or_false]
  simp only [eq_iff_iff]; omega
theorem long_ok {px py qx qy : Int} (h1 : F37_0 px py = true) (h2 : F37_0 qx qy = true) (n : Nat) : ∃ r, F41 (n + 40) px py qx qy = some r ∧ F42 (n + 40) px py qx qy = some r ∧ IsRoot r ((qx - px) * (qx - px) + (qy - py) * (qy - py)) ∧ r ≤ 65536 := by
  rw [pt_t] at h1 h2
  obtain ⟨a1, a2, a3⟩ := diff_sq h2.1 h1.1
  obtain ⟨b1, b2, b3⟩ := diff_sq h2.2 h1.2
  obtain ⟨s, hs⟩ : ∃ s, (qx - px) * (qx - px) + (qy - py) * (qy - py) = s := ⟨_, rfl⟩
  have w : wrapA .i64 (Int.add ((qx - px) * (qx - px)) ((qy - py) * (qy - py))) = s := by simp only [add_int]; rw [hs]; exact wrap64 (by omega) (by omega)
  obtain ⟨r, e1, e2, e3⟩ := bs_ok px py qx qy s 17 (n + 22) 0 65536 (by decide) (by decide) (by decide) (by decide) (by omega) (by omega)
  obtain ⟨t, f1, f2⟩ := rt_ok s 30 (n + 9) 0 (by decide) (by decide) (by omega) (by
    have : (2 : Int) ^ 30 = 1073741824 := by decide
    rw [this]; omega)
  have : r = t := root_uniq e2 f2
  subst this
  have l : ltI s 1152921504606846976 = true := by rw [ltI_t]; omega
  rw [hs]
  refine ⟨r, ?_, ?_, e2, e3⟩
  · unfold F41 t41_7; rw [a1, b1, w, show n + 40 = n + 22 + 17 + 1 by omega]; exact e1
  · have f1 : L76_0 s (n + 40) 0 1073741824 = some r := by
      rw [show n + 40 = n + 9 + 30 + 1 by omega]; exact f1
    have e : F76 (n + 40) s = some r := by unfold F76; rw [l]; exact f1
    unfold F42 F76_0 t42_0; rw [a1, b1, w, e]; rfl
theorem both (px py qx qy : Int) : ∃ r e, F17 40 px py qx qy = some (r, e) ∧ F18 40 px py qx qy = some (r, e) := by
  by_cases h1 : F37_0 px py = true
  · by_cases h2 : F37_0 qx qy = true
    · obtain ⟨r, e1, e2, _⟩ := long_ok h1 h2 0
      refine ⟨r, 0, ?_, ?_⟩
      · rw [pt_t] at h1 h2
        have l1 : ltI px (-16384) = false := by rw [ltI_f]; omega
        have l2 : ltI 16384 px = false := by rw [ltI_f]; omega
        have l3 : ltI py (-16384) = false := by rw [ltI_f]; omega
        have l4 : ltI 16384 py = false := by rw [ltI_f]; omega
        have l5 : ltI qx (-16384) = false := by rw [ltI_f]; omega
        have l6 : ltI 16384 qx = false := by rw [ltI_f]; omega
        have l7 : ltI qy (-16384) = false := by rw [ltI_f]; omega
        have l8 : ltI 16384 qy = false := by rw [ltI_f]; omega
        unfold F17 F41_0; rw [l1, l2, l3, l4, l5, l6, l7, l8, e1]; rfl
      · unfold F18 F42_0; rw [h1, h2, e2]; rfl
    · refine ⟨0, 2, ?_, ?_⟩
      · rw [pt_t] at h2
        unfold F17
        have : ltI qx (-16384) = true ∨ ltI 16384 qx = true ∨ ltI qy (-16384) = true ∨ ltI 16384 qy = true := by simp only [ltI_t]; omega
        rcases this with g | g | g | g <;> rw [g] <;> cases ltI px (-16384) <;> cases ltI 16384 px <;> cases ltI py (-16384) <;> cases ltI 16384 py <;> (try rfl) <;> cases ltI qx (-16384) <;> (try rfl) <;> cases ltI 16384 qx <;> (try rfl) <;> cases ltI qy (-16384) <;> rfl
      · have : F37_0 qx qy = false := by cases q : F37_0 qx qy with | true => exact absurd q h2 | false => rfl
        unfold F18; rw [h1, this]; rfl
  · refine ⟨0, 2, ?_, ?_⟩
    · rw [pt_t] at h1
      unfold F17
      have : ltI px (-16384) = true ∨ ltI 16384 px = true ∨ ltI py (-16384) = true ∨ ltI 16384 py = true := by simp only [ltI_t]; omega
      rcases this with g | g | g | g <;> rw [g] <;> cases ltI px (-16384) <;> (try rfl) <;> cases ltI 16384 px <;> (try rfl) <;> cases ltI py (-16384) <;> rfl
    · have : F37_0 px py = false := by cases q : F37_0 px py with | true => exact absurd q h1 | false => rfl
      unfold F18; rw [this]; rfl
theorem law_ok (a0_0 a0_1 a1_0 a1_1 : Int) (_ : (Lit.int .i64 a0_0).wf = true) (_ : (Lit.int .i64 a0_1).wf = true) (_ : (Lit.int .i64 a1_0).wf = true) (_ : (Lit.int .i64 a1_1).wf = true) : ∃ n : Nat, F6 n a0_0 a0_1 a1_0 a1_1 = some true := by
  refine ⟨40, ?_⟩
  obtain ⟨r, e, h1, h2⟩ := both (Int.tmod a0_0 4611686018427387904) (Int.tmod a0_1 4611686018427387904) (Int.tmod a1_0 4611686018427387904) (Int.tmod a1_1 4611686018427387904)
  obtain ⟨r', e', h3, h4⟩ := both (Int.tmod a0_0 16385) (Int.tmod a0_1 16385) (Int.tmod a1_0 16385) (Int.tmod a1_1 16385)
  obtain ⟨r2, e2, h5, h6⟩ := both (Int.tmod a0_0 300) (Int.tmod a0_1 300) (Int.tmod a1_0 300) (Int.tmod a1_1 300)
  unfold F6; simp only [t6_0, t6_1, c6_2, t6_3, t6_4, c6_5, t6_6, t6_7, c6_8, h1, h2, h3, h4, h5, h6, F17_0, F17_1, F18_0, F18_1, eqI_same, Option.isSome_some, Option.getD_some, Bool.not_true, cond_true, cond_false]

end

theorem walk (a0_0 : Int) (a0_1 : Int) (a1_0 : Int) (a1_1 : Int) (wa0_0 : (Lit.int .i64 a0_0).wf = true) (wa0_1 : (Lit.int .i64 a0_1).wf = true) (wa1_0 : (Lit.int .i64 a1_0).wf = true) (wa1_1 : (Lit.int .i64 a1_1).wf = true) {w : World} {ARGS : List Value} (ha : Go.Sx.RelL (fun _ => none) [.agg [.int .i64 a0_0, .int .i64 a0_1], .agg [.int .i64 a1_0, .int .i64 a1_1]] ARGS) :
    Calls Try.prog 6 ARGS.toArray w fun e w' => e = .returned (.bool true) ∧ Below w.heap.size w w' := by
  obtain ⟨n, hn⟩ := law_ok a0_0 a0_1 a1_0 a1_1 wa0_0 wa0_1 wa1_0 wa1_1
  exact Go.Sx.call_args okayed rfl ha Try.func6 body6_eq (run6 n a0_0 a0_1 a1_0 a1_1 true hn) (fun _ _ h => by cases h)

set_option maxRecDepth 100000 in
theorem lifted (os : Os) (started : os.Started) (H : Type) (enc : TypeId × Value → H) :
    ReturnsInHanded {} Try.checked os 6 .any (Rows.dashLengthsSpec.pre6 enc Try.prog Try.f6 Rows.dashLengthsRow.domain false) (Rows.dashLengthsSpec.post enc Try.prog Try.f6 false true false false) := by
  refine returnsInHanded_of_change (C := Try.checked) own started (by kernel_rfl) Try.func6
    (ChangeSpec.witness6 (enc := enc) (C := Try.checked) false ⟨#[], #[.agg #[.int .i64 0, .int .i64 0], .agg #[.int .i64 0, .int .i64 0]], []⟩ 8 (by kernel_rfl) (by kernel_rfl) (by kernel_rfl) (by kernel_rfl)) ?_
  intro W base args ds gs before hval0 hW hcnd _
  have hval : ∀ (j : Nat) t v, Try.f6.params[j]? = some t → args[j]? = some v → Value.okWide Try.prog W .any base t v := hval0
  have hW' := hW
  obtain ⟨p, q, hA0, hV, rfl, hfz, hnd⟩ := hW
  have hA : DataW.TrodAll enc Try.prog W 0 (fun _ => true) true Try.f6.params.toList args.toList ds p := hA0
  rw [Try.params6] at hA hval
  obtain ⟨v0, vs0, d0, ds0, p0, q0, hargs, rfl, rfl, h0, r0⟩ := trodAll_cons hA
  obtain ⟨v1, vs1, d1, ds1, p1, q1, rfl, rfl, rfl, h1, r1⟩ := trodAll_cons r0
  obtain ⟨rfl, rfl, rfl⟩ := trodAll_nil r1
  obtain rfl : args = #[v0, v1] := by cases args; simp_all
  obtain ⟨rfl, rfl⟩ := trodVars_none hV
  obtain ⟨rfl, as0, k0, e0⟩ := Go.Sx.open_kinds (ks := [.int .i64, .int .i64]) (by kernel_rfl) h0
  obtain ⟨a0_0, r0, rfl, wa0_0, k0⟩ := k0
  obtain ⟨a0_1, r0, rfl, wa0_1, k0⟩ := k0
  obtain rfl := k0
  obtain ⟨rfl, as1, k1, e1⟩ := Go.Sx.open_kinds (ks := [.int .i64, .int .i64]) (by kernel_rfl) h1
  obtain ⟨a1_0, r1, rfl, wa1_0, k1⟩ := k1
  obtain ⟨a1_1, r1, rfl, wa1_1, k1⟩ := k1
  obtain rfl := k1
  clear hA0
  simp only [List.append_nil] at hW'
  have hrel : Go.Sx.RelL (fun _ => none) [.agg [.int .i64 a0_0, .int .i64 a0_1], .agg [.int .i64 a1_0, .int .i64 a1_1]] [v0, v1] := ⟨_, _, Go.Sx.rel_agg (.inl ⟨_, Try.underlying29⟩) (hval 0 29 v0 rfl rfl) e0, ⟨_, _, Go.Sx.rel_agg (.inl ⟨_, Try.underlying29⟩) (hval 1 29 v1 rfl rfl) e1, rfl, rfl⟩, rfl⟩
  refine (walk a0_0 a0_1 a1_0 a1_1 wa0_0 wa0_1 wa1_0 wa1_1  hrel).mono fun e W' ⟨he, hg⟩ => ?_
  subst he
  exact ⟨_, rfl, Go.Sx.post_of_below (pa := []) (pv := []) hW' (fun _ _ _ => (trodAll_cons_mk (shut_bool Try.underlying4 _) trodAll_mk0)) (fun sp _ => (trodAll_cons_mk (Go.Sx.stays laidOut (by kernel_rfl) (Nat.le_of_ble_eq_true (by kernel_rfl)) h0) (trodAll_cons_mk (Go.Sx.stays laidOut (by kernel_rfl) (Nat.le_of_ble_eq_true (by kernel_rfl)) h1) trodAll_mk0))) (fun _ _ => rfl) rfl
    hg (ok_one (by kernel_rfl) rfl (okWide_bool_mk Try.underlying4 _))⟩

theorem over : Rows.dashLengthsRow.holds Try.pinned (OpenSpec.ofChange Rows.dashLengthsSpec) :=
  OpenClaim.holds_of_wide 6 Try.f6 rfl rfl rfl rfl rfl rfl rfl ⟨rfl, rfl, rfl, rfl, rfl⟩ rfl rfl rfl rfl rfl (by kernel_rfl) Try.func6 (by kernel_rfl)
    (of_decide_eq_true (by kernel_rfl)) (by unfold Func.isWrapper; first | (rw [if_pos (by decide +kernel)]; kernel_rfl) | (rw [if_neg (by decide +kernel)]; exact ⟨rfl, rfl⟩))
    (fun os started H enc _ => lifted os started H enc)

theorem proved : Rows.DashLengthsSaid := over
#print axioms proved
end Go.Proofs.Ytgfpkhhbpnnjjaa.dashLengths
