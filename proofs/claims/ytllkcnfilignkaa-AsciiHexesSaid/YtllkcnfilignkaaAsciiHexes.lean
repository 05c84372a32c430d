/- 'chase/chaselaw02.AsciiHexes' returns true for every argument, and nothing that was there is changed. Its run, with unknown arguments, is worked out by an executor that is proved sound against the model: so each function is a term; the rest is arithmetic. -/
import Derived.Test.YtllkcnfilignkaaRows
import Derived.WalkKit
import Derived.ProofKit
import Derived.OpenShut
import Derived.Test.YtllkcnfilignkaaSxF
import Derived.Test.YtllkcnfilignkaaLib
namespace Go.Proofs.Ytllkcnfilignkaa.asciiHexes
open Go.ChangeShapes Go.WideShapes Go.ChangeAt Go.WideMaps Go.WideElems Go.RowKit
set_option linter.unusedVariables false

theorem own : ownKnob Try.prog.godebug = none := by kernel_rfl
theorem okayed : Go.Sx.okProg Try.prog = true := by kernel_rfl
theorem laidOut : laidOutB Try.prog = true := by kernel_rfl
section
open Go.Sx
set_option maxRecDepth 1000000

noncomputable def body21 : Go.Code := (Try.f21.body).getD .skip
theorem body21_eq : Try.f21.body = some body21 := Go.Sx.some_getD (by kernel_rfl)
noncomputable def t21_0 (pa : (Int)) : Int := (Go.Sx.wrapA Go.IntKind.u8 (Go.Sx.wrapA Go.IntKind.i64 (Int.sub (Go.Sx.wrapA Go.IntKind.i64 (Int.add 65 pa)) 10)))
noncomputable def F21 (pa : Int) : Option (Int) := (bif (Go.Sx.ltI pa 10) then (some (Go.Sx.wrapA Go.IntKind.u8 (Go.Sx.wrapA Go.IntKind.i64 (Int.add 48 pa)))) else (some (t21_0 pa)))
set_option maxHeartbeats 4000000 in
theorem form21 (n : Nat) (pa : Int) (vz : Go.Sx.AV) : Go.Sx.wpS Try.prog Try.f21 [] vz (.st [0, 0, 2, 0, 0, 0, 0, 0, 2, 2, 0, 0] (.br 4 (.st [0, 0, 0, 2, 2, 2, 2, 0, 0, 2, 0] .ans) (.st [0, 2, 0, 0, 0, 2, 2, 2, 2, 2, 0, 0, 2] .ans))) [] (.code body21 (Go.Sx.startA [.int .i64 pa] Try.f21) (Go.Sx.laidHeap [])) = (Go.Sx.BR (Go.Sx.ltI pa 10) (vz = .int .u8 (Go.Sx.wrapA Go.IntKind.u8 (Go.Sx.wrapA Go.IntKind.i64 (Int.add 48 pa)))) (vz = .int .u8 (t21_0 pa))) := by kernel_rfl
set_option maxHeartbeats 4000000 in
theorem run21 (n : Nat) (pa : Int)  (r : Int) (h : F21 pa = some r) : Go.Sx.Run Try.prog Try.f21 [] (.int .u8 r) [] (.code body21 (Go.Sx.startA [.int .i64 pa] Try.f21) (Go.Sx.laidHeap [])) := by
  exact Go.Sx.wpS_run (L := []) (by kernel_rfl) (form21 n pa (.int .u8 r)) ((Go.Sx.br_of (fun h0 => (fun h => by cases h; rfl)) (fun h0 => (fun h => by cases h; rfl))) h)
noncomputable def F21_0 (pa : Int) : Int := ((F21 pa).getD default)
theorem F21_some (pa : Int) : (F21 pa).isSome = true := by
  unfold F21
  repeat' (first | rfl | apply Go.Sx.some_br)
theorem fact21 (pa : Int)  : Go.Sx.Fact Try.prog [] 21 [.int .i64 pa] (.int .u8 (F21_0 pa)) := Go.Sx.fact_of_run okayed (by kernel_rfl) (by kernel_rfl) Try.func21 body21_eq (run21 0 pa  ((F21 pa).getD default) (Go.Sx.getD_some (F21_some pa)))
noncomputable def body24 : Go.Code := (Try.f24.body).getD .skip
theorem body24_eq : Try.f24.body = some body24 := Go.Sx.some_getD (by kernel_rfl)
noncomputable def F24 (pa : Int) : Option (Bool) := (bif (Go.Sx.eqI pa 0) then (some true) else (bif (Go.Sx.eqI pa 9) then (some true) else (bif (Go.Sx.eqI pa 10) then (some true) else (bif (Go.Sx.eqI pa 12) then (some true) else (bif (Go.Sx.eqI pa 13) then (some true) else (some (Go.Sx.eqI pa 32)))))))
set_option maxHeartbeats 4000000 in
theorem form24 (n : Nat) (pa : Int) (vz : Go.Sx.AV) : Go.Sx.wpS Try.prog Try.f24 [] vz (.st [0, 0, 2, 0, 0, 0, 0, 2, 2, 2] (.br 5 (.st [2, 2, 2, 2, 2, 2, 2, 2, 2, 2, 2, 2, 2, 2, 2, 2, 2, 2, 2, 2, 0, 0, 2] .ans) (.st [2, 2, 2, 2] (.br 9 (.st [2, 2, 2, 2, 2, 2, 2, 2, 2, 2, 2, 2, 2, 2, 2, 2, 0, 0, 2] .ans) (.st [2, 2, 2, 2] (.br 13 (.st [2, 2, 2, 2, 2, 2, 2, 2, 2, 2, 2, 2, 0, 0, 2] .ans) (.st [2, 2, 2, 2] (.br 17 (.st [2, 2, 2, 2, 2, 2, 2, 2, 0, 0, 2] .ans) (.st [2, 2, 2, 2] (.br 21 (.st [2, 2, 2, 2, 0, 0, 2] .ans) (.st [2, 2, 2, 2, 0, 0, 2] .ans))))))))))) [] (.code body24 (Go.Sx.startA [.int .u8 pa] Try.f24) (Go.Sx.laidHeap [])) = (Go.Sx.BR (Go.Sx.eqI pa 0) (vz = .bool true) (Go.Sx.BR (Go.Sx.eqI pa 9) (vz = .bool true) (Go.Sx.BR (Go.Sx.eqI pa 10) (vz = .bool true) (Go.Sx.BR (Go.Sx.eqI pa 12) (vz = .bool true) (Go.Sx.BR (Go.Sx.eqI pa 13) (vz = .bool true) (vz = .bool (Go.Sx.eqI pa 32))))))) := by kernel_rfl
set_option maxHeartbeats 4000000 in
theorem run24 (n : Nat) (pa : Int)  (r : Bool) (h : F24 pa = some r) : Go.Sx.Run Try.prog Try.f24 [] (.bool r) [] (.code body24 (Go.Sx.startA [.int .u8 pa] Try.f24) (Go.Sx.laidHeap [])) := by
  exact Go.Sx.wpS_run (L := []) (by kernel_rfl) (form24 n pa (.bool r)) ((Go.Sx.br_of (fun h0 => (fun h => by cases h; rfl)) (fun h0 => (Go.Sx.br_of (fun h1 => (fun h => by cases h; rfl)) (fun h1 => (Go.Sx.br_of (fun h2 => (fun h => by cases h; rfl)) (fun h2 => (Go.Sx.br_of (fun h3 => (fun h => by cases h; rfl)) (fun h3 => (Go.Sx.br_of (fun h4 => (fun h => by cases h; rfl)) (fun h4 => (fun h => by cases h; rfl))))))))))) h)
noncomputable def F24_0 (pa : Int) : Bool := ((F24 pa).getD default)
theorem F24_some (pa : Int) : (F24 pa).isSome = true := by
  unfold F24
  repeat' (first | rfl | apply Go.Sx.some_br)
theorem fact24 (pa : Int)  : Go.Sx.Fact Try.prog [] 24 [.int .u8 pa] (.bool (F24_0 pa)) := Go.Sx.fact_of_run okayed (by kernel_rfl) (by kernel_rfl) Try.func24 body24_eq (run24 0 pa  ((F24 pa).getD default) (Go.Sx.getD_some (F24_some pa)))
noncomputable def body25 : Go.Code := (Try.f25.body).getD .skip
theorem body25_eq : Try.f25.body = some body25 := Go.Sx.some_getD (by kernel_rfl)
noncomputable def t25_0 (pa : (Int)) : Int := (Go.Sx.wrapA Go.IntKind.i64 (Int.add (Go.Sx.wrapA Go.IntKind.i64 (Go.Sx.wrapA Go.IntKind.u8 (Int.sub pa 65))) 10))
noncomputable def t25_1 (pa : (Int)) : Int := (Go.Sx.wrapA Go.IntKind.i64 (Int.add (Go.Sx.wrapA Go.IntKind.i64 (Go.Sx.wrapA Go.IntKind.u8 (Int.sub pa 97))) 10))
noncomputable def F25 (pa : Int) : Option (Int) := (bif (!Go.Sx.ltI pa 48) then (bif (!Go.Sx.ltI 57 pa) then (some (Go.Sx.wrapA Go.IntKind.i64 (Go.Sx.wrapA Go.IntKind.u8 (Int.sub pa 48)))) else (bif (!Go.Sx.ltI pa 65) then (bif (!Go.Sx.ltI 70 pa) then (some (t25_0 pa)) else (bif (!Go.Sx.ltI pa 97) then (bif (!Go.Sx.ltI 102 pa) then (some (t25_1 pa)) else (some (-1))) else (some (-1)))) else (bif (!Go.Sx.ltI pa 97) then (bif (!Go.Sx.ltI 102 pa) then (some (t25_1 pa)) else (some (-1))) else (some (-1))))) else (bif (!Go.Sx.ltI pa 65) then (bif (!Go.Sx.ltI 70 pa) then (some (t25_0 pa)) else (bif (!Go.Sx.ltI pa 97) then (bif (!Go.Sx.ltI 102 pa) then (some (t25_1 pa)) else (some (-1))) else (some (-1)))) else (bif (!Go.Sx.ltI pa 97) then (bif (!Go.Sx.ltI 102 pa) then (some (t25_1 pa)) else (some (-1))) else (some (-1)))))
set_option maxHeartbeats 4000000 in
theorem form25 (n : Nat) (pa : Int) (vz : Go.Sx.AV) : Go.Sx.wpS Try.prog Try.f25 [] vz (.st [0, 0, 2, 0, 0, 0, 0, 0, 2, 2, 2] (.br 5 (.st [2, 2, 2, 0, 0] (.br 8 (.st [0, 0, 0, 2, 2, 2, 2, 0, 0, 2, 0] .ans) (.st [0, 2, 0, 0, 0, 0, 2, 2, 2] (.br 14 (.st [2, 2, 2, 0, 0] (.br 17 (.st [0, 0, 0, 2, 2, 2, 2, 2, 0, 0, 2, 0] .ans) (.st [0, 2, 0, 0, 0, 0, 2, 2, 2] (.br 24 (.st [2, 2, 2, 0, 0] (.br 27 (.st [0, 0, 0, 2, 2, 2, 2, 2, 0, 0, 2, 0] .ans) (.st [0, 2, 0, 0, 0, 2, 0, 0, 2] .ans))) (.st [2, 2, 2, 0, 0, 0, 2, 0, 0, 0, 2, 0, 0, 2] .ans))))) (.st [2, 2, 2, 0, 0, 0, 2, 0, 0, 0, 0, 2, 2, 2] (.br 24 (.st [2, 2, 2, 0, 0] (.br 27 (.st [0, 0, 0, 2, 2, 2, 2, 2, 0, 0, 2, 0] .ans) (.st [0, 2, 0, 0, 0, 2, 0, 0, 2] .ans))) (.st [2, 2, 2, 0, 0, 0, 2, 0, 0, 0, 2, 0, 0, 2] .ans))))))) (.st [2, 2, 2, 0, 0, 0, 2, 0, 0, 0, 0, 2, 2, 2] (.br 14 (.st [2, 2, 2, 0, 0] (.br 17 (.st [0, 0, 0, 2, 2, 2, 2, 2, 0, 0, 2, 0] .ans) (.st [0, 2, 0, 0, 0, 0, 2, 2, 2] (.br 24 (.st [2, 2, 2, 0, 0] (.br 27 (.st [0, 0, 0, 2, 2, 2, 2, 2, 0, 0, 2, 0] .ans) (.st [0, 2, 0, 0, 0, 2, 0, 0, 2] .ans))) (.st [2, 2, 2, 0, 0, 0, 2, 0, 0, 0, 2, 0, 0, 2] .ans))))) (.st [2, 2, 2, 0, 0, 0, 2, 0, 0, 0, 0, 2, 2, 2] (.br 24 (.st [2, 2, 2, 0, 0] (.br 27 (.st [0, 0, 0, 2, 2, 2, 2, 2, 0, 0, 2, 0] .ans) (.st [0, 2, 0, 0, 0, 2, 0, 0, 2] .ans))) (.st [2, 2, 2, 0, 0, 0, 2, 0, 0, 0, 2, 0, 0, 2] .ans))))))) [] (.code body25 (Go.Sx.startA [.int .u8 pa] Try.f25) (Go.Sx.laidHeap [])) = (Go.Sx.BR (!Go.Sx.ltI pa 48) (Go.Sx.BR (!Go.Sx.ltI 57 pa) (vz = .int .i64 (Go.Sx.wrapA Go.IntKind.i64 (Go.Sx.wrapA Go.IntKind.u8 (Int.sub pa 48)))) (Go.Sx.BR (!Go.Sx.ltI pa 65) (Go.Sx.BR (!Go.Sx.ltI 70 pa) (vz = .int .i64 (t25_0 pa)) (Go.Sx.BR (!Go.Sx.ltI pa 97) (Go.Sx.BR (!Go.Sx.ltI 102 pa) (vz = .int .i64 (t25_1 pa)) (vz = .int .i64 (.negSucc 0))) (vz = .int .i64 (.negSucc 0)))) (Go.Sx.BR (!Go.Sx.ltI pa 97) (Go.Sx.BR (!Go.Sx.ltI 102 pa) (vz = .int .i64 (t25_1 pa)) (vz = .int .i64 (.negSucc 0))) (vz = .int .i64 (.negSucc 0))))) (Go.Sx.BR (!Go.Sx.ltI pa 65) (Go.Sx.BR (!Go.Sx.ltI 70 pa) (vz = .int .i64 (t25_0 pa)) (Go.Sx.BR (!Go.Sx.ltI pa 97) (Go.Sx.BR (!Go.Sx.ltI 102 pa) (vz = .int .i64 (t25_1 pa)) (vz = .int .i64 (.negSucc 0))) (vz = .int .i64 (.negSucc 0)))) (Go.Sx.BR (!Go.Sx.ltI pa 97) (Go.Sx.BR (!Go.Sx.ltI 102 pa) (vz = .int .i64 (t25_1 pa)) (vz = .int .i64 (.negSucc 0))) (vz = .int .i64 (.negSucc 0))))) := by kernel_rfl
set_option maxHeartbeats 4000000 in
theorem run25 (n : Nat) (pa : Int)  (r : Int) (h : F25 pa = some r) : Go.Sx.Run Try.prog Try.f25 [] (.int .i64 r) [] (.code body25 (Go.Sx.startA [.int .u8 pa] Try.f25) (Go.Sx.laidHeap [])) := by
  exact Go.Sx.wpS_run (L := []) (by kernel_rfl) (form25 n pa (.int .i64 r)) ((Go.Sx.br_of (fun h0 => (Go.Sx.br_of (fun h1 => (fun h => by cases h; rfl)) (fun h1 => (Go.Sx.br_of (fun h2 => (Go.Sx.br_of (fun h3 => (fun h => by cases h; rfl)) (fun h3 => (Go.Sx.br_of (fun h4 => (Go.Sx.br_of (fun h5 => (fun h => by cases h; rfl)) (fun h5 => (fun h => by cases h; rfl)))) (fun h4 => (fun h => by cases h; rfl)))))) (fun h2 => (Go.Sx.br_of (fun h6 => (Go.Sx.br_of (fun h7 => (fun h => by cases h; rfl)) (fun h7 => (fun h => by cases h; rfl)))) (fun h6 => (fun h => by cases h; rfl)))))))) (fun h0 => (Go.Sx.br_of (fun h8 => (Go.Sx.br_of (fun h9 => (fun h => by cases h; rfl)) (fun h9 => (Go.Sx.br_of (fun h10 => (Go.Sx.br_of (fun h11 => (fun h => by cases h; rfl)) (fun h11 => (fun h => by cases h; rfl)))) (fun h10 => (fun h => by cases h; rfl)))))) (fun h8 => (Go.Sx.br_of (fun h12 => (Go.Sx.br_of (fun h13 => (fun h => by cases h; rfl)) (fun h13 => (fun h => by cases h; rfl)))) (fun h12 => (fun h => by cases h; rfl))))))) h)
noncomputable def F25_0 (pa : Int) : Int := ((F25 pa).getD default)
theorem F25_some (pa : Int) : (F25 pa).isSome = true := by
  unfold F25
  repeat' (first | rfl | apply Go.Sx.some_br)
theorem fact25 (pa : Int)  : Go.Sx.Fact Try.prog [] 25 [.int .u8 pa] (.int .i64 (F25_0 pa)) := Go.Sx.fact_of_run okayed (by kernel_rfl) (by kernel_rfl) Try.func25 body25_eq (run25 0 pa  ((F25 pa).getD default) (Go.Sx.getD_some (F25_some pa)))
noncomputable def body43 : Go.Code := (Try.f43.body).getD .skip
theorem body43_eq : Try.f43.body = some body43 := Go.Sx.some_getD (by kernel_rfl)
noncomputable def t43_0 (pa : (Int)) : Int := (Go.Sx.wrapA Go.IntKind.i64 (Int.add (Go.Sx.wrapA Go.IntKind.i64 (Go.Sx.wrapA Go.IntKind.u8 (Int.sub pa 97))) 10))
noncomputable def t43_1 (pa : (Int)) : Int := (Go.Sx.wrapA Go.IntKind.i64 (Int.add (Go.Sx.wrapA Go.IntKind.i64 (Go.Sx.wrapA Go.IntKind.u8 (Int.sub pa 65))) 10))
noncomputable def F43 (pa : Int) : Option (Int) := (bif (!Go.Sx.ltI pa 48) then (bif (!Go.Sx.ltI 57 pa) then (some (Go.Sx.wrapA Go.IntKind.i64 (Go.Sx.wrapA Go.IntKind.u8 (Int.sub pa 48)))) else (bif (!Go.Sx.ltI pa 97) then (bif (!Go.Sx.ltI 102 pa) then (some (t43_0 pa)) else (bif (!Go.Sx.ltI pa 65) then (bif (!Go.Sx.ltI 70 pa) then (some (t43_1 pa)) else (some (-1))) else (some (-1)))) else (bif (!Go.Sx.ltI pa 65) then (bif (!Go.Sx.ltI 70 pa) then (some (t43_1 pa)) else (some (-1))) else (some (-1))))) else (bif (!Go.Sx.ltI pa 97) then (bif (!Go.Sx.ltI 102 pa) then (some (t43_0 pa)) else (bif (!Go.Sx.ltI pa 65) then (bif (!Go.Sx.ltI 70 pa) then (some (t43_1 pa)) else (some (-1))) else (some (-1)))) else (bif (!Go.Sx.ltI pa 65) then (bif (!Go.Sx.ltI 70 pa) then (some (t43_1 pa)) else (some (-1))) else (some (-1)))))
set_option maxHeartbeats 4000000 in
theorem form43 (n : Nat) (pa : Int) (vz : Go.Sx.AV) : Go.Sx.wpS Try.prog Try.f43 [] vz (.st [0, 0, 2, 0, 0, 0, 0, 0, 0, 2, 2, 2] (.br 6 (.st [2, 2, 2, 2, 0, 0] (.br 3 (.st [0, 0, 0, 2, 2, 2, 2, 0, 0, 2, 0, 0] .ans) (.st [0, 0, 0, 2, 2, 2] (.br 16 (.st [2, 2, 2, 2, 0, 0] (.br 13 (.st [0, 0, 0, 2, 2, 2, 2, 2, 0, 0, 2, 0, 0] .ans) (.st [0, 0, 0, 2, 2, 2] (.br 27 (.st [2, 2, 2, 2, 0, 0] (.br 24 (.st [0, 0, 0, 2, 2, 2, 2, 2, 0, 0, 2, 0, 0] .ans) (.st [0, 2, 0, 0, 0, 0, 2, 0, 0, 2] .ans))) (.st [2, 2, 2, 2, 0, 0, 0, 2, 0, 0, 0, 0, 2, 0, 0, 2] .ans))))) (.st [2, 2, 2, 2, 0, 0, 0, 0, 0, 2, 2, 2] (.br 27 (.st [2, 2, 2, 2, 0, 0] (.br 24 (.st [0, 0, 0, 2, 2, 2, 2, 2, 0, 0, 2, 0, 0] .ans) (.st [0, 2, 0, 0, 0, 0, 2, 0, 0, 2] .ans))) (.st [2, 2, 2, 2, 0, 0, 0, 2, 0, 0, 0, 0, 2, 0, 0, 2] .ans))))))) (.st [2, 2, 2, 2, 0, 0, 0, 0, 0, 2, 2, 2] (.br 16 (.st [2, 2, 2, 2, 0, 0] (.br 13 (.st [0, 0, 0, 2, 2, 2, 2, 2, 0, 0, 2, 0, 0] .ans) (.st [0, 0, 0, 2, 2, 2] (.br 27 (.st [2, 2, 2, 2, 0, 0] (.br 24 (.st [0, 0, 0, 2, 2, 2, 2, 2, 0, 0, 2, 0, 0] .ans) (.st [0, 2, 0, 0, 0, 0, 2, 0, 0, 2] .ans))) (.st [2, 2, 2, 2, 0, 0, 0, 2, 0, 0, 0, 0, 2, 0, 0, 2] .ans))))) (.st [2, 2, 2, 2, 0, 0, 0, 0, 0, 2, 2, 2] (.br 27 (.st [2, 2, 2, 2, 0, 0] (.br 24 (.st [0, 0, 0, 2, 2, 2, 2, 2, 0, 0, 2, 0, 0] .ans) (.st [0, 2, 0, 0, 0, 0, 2, 0, 0, 2] .ans))) (.st [2, 2, 2, 2, 0, 0, 0, 2, 0, 0, 0, 0, 2, 0, 0, 2] .ans))))))) [] (.code body43 (Go.Sx.startA [.int .u8 pa] Try.f43) (Go.Sx.laidHeap [])) = (Go.Sx.BR (!Go.Sx.ltI pa 48) (Go.Sx.BR (!Go.Sx.ltI 57 pa) (vz = .int .i64 (Go.Sx.wrapA Go.IntKind.i64 (Go.Sx.wrapA Go.IntKind.u8 (Int.sub pa 48)))) (Go.Sx.BR (!Go.Sx.ltI pa 97) (Go.Sx.BR (!Go.Sx.ltI 102 pa) (vz = .int .i64 (t43_0 pa)) (Go.Sx.BR (!Go.Sx.ltI pa 65) (Go.Sx.BR (!Go.Sx.ltI 70 pa) (vz = .int .i64 (t43_1 pa)) (vz = .int .i64 (.negSucc 0))) (vz = .int .i64 (.negSucc 0)))) (Go.Sx.BR (!Go.Sx.ltI pa 65) (Go.Sx.BR (!Go.Sx.ltI 70 pa) (vz = .int .i64 (t43_1 pa)) (vz = .int .i64 (.negSucc 0))) (vz = .int .i64 (.negSucc 0))))) (Go.Sx.BR (!Go.Sx.ltI pa 97) (Go.Sx.BR (!Go.Sx.ltI 102 pa) (vz = .int .i64 (t43_0 pa)) (Go.Sx.BR (!Go.Sx.ltI pa 65) (Go.Sx.BR (!Go.Sx.ltI 70 pa) (vz = .int .i64 (t43_1 pa)) (vz = .int .i64 (.negSucc 0))) (vz = .int .i64 (.negSucc 0)))) (Go.Sx.BR (!Go.Sx.ltI pa 65) (Go.Sx.BR (!Go.Sx.ltI 70 pa) (vz = .int .i64 (t43_1 pa)) (vz = .int .i64 (.negSucc 0))) (vz = .int .i64 (.negSucc 0))))) := by kernel_rfl
set_option maxHeartbeats 4000000 in
theorem run43 (n : Nat) (pa : Int)  (r : Int) (h : F43 pa = some r) : Go.Sx.Run Try.prog Try.f43 [] (.int .i64 r) [] (.code body43 (Go.Sx.startA [.int .u8 pa] Try.f43) (Go.Sx.laidHeap [])) := by
  exact Go.Sx.wpS_run (L := []) (by kernel_rfl) (form43 n pa (.int .i64 r)) ((Go.Sx.br_of (fun h0 => (Go.Sx.br_of (fun h1 => (fun h => by cases h; rfl)) (fun h1 => (Go.Sx.br_of (fun h2 => (Go.Sx.br_of (fun h3 => (fun h => by cases h; rfl)) (fun h3 => (Go.Sx.br_of (fun h4 => (Go.Sx.br_of (fun h5 => (fun h => by cases h; rfl)) (fun h5 => (fun h => by cases h; rfl)))) (fun h4 => (fun h => by cases h; rfl)))))) (fun h2 => (Go.Sx.br_of (fun h6 => (Go.Sx.br_of (fun h7 => (fun h => by cases h; rfl)) (fun h7 => (fun h => by cases h; rfl)))) (fun h6 => (fun h => by cases h; rfl)))))))) (fun h0 => (Go.Sx.br_of (fun h8 => (Go.Sx.br_of (fun h9 => (fun h => by cases h; rfl)) (fun h9 => (Go.Sx.br_of (fun h10 => (Go.Sx.br_of (fun h11 => (fun h => by cases h; rfl)) (fun h11 => (fun h => by cases h; rfl)))) (fun h10 => (fun h => by cases h; rfl)))))) (fun h8 => (Go.Sx.br_of (fun h12 => (Go.Sx.br_of (fun h13 => (fun h => by cases h; rfl)) (fun h13 => (fun h => by cases h; rfl)))) (fun h12 => (fun h => by cases h; rfl))))))) h)
noncomputable def F43_0 (pa : Int) : Int := ((F43 pa).getD default)
theorem F43_some (pa : Int) : (F43 pa).isSome = true := by
  unfold F43
  repeat' (first | rfl | apply Go.Sx.some_br)
theorem fact43 (pa : Int)  : Go.Sx.Fact Try.prog [] 43 [.int .u8 pa] (.int .i64 (F43_0 pa)) := Go.Sx.fact_of_run okayed (by kernel_rfl) (by kernel_rfl) Try.func43 body43_eq (run43 0 pa  ((F43 pa).getD default) (Go.Sx.getD_some (F43_some pa)))
noncomputable def body10 : Go.Code := (Try.f10.body).getD .skip
theorem body10_eq : Try.f10.body = some body10 := Go.Sx.some_getD (by kernel_rfl)
noncomputable def sk10_0 : List Go.Sx.FC × Go.Sx.CC := (Go.Sx.skelAt Try.prog [.fn 10 [.r, .r, .l, .r, .i, .h]] []).getD ([], .code .skip)
noncomputable def pt10_0 (tt : List Nat) (pa : Int) (v0 : List Nat) (v1 : Int) : Go.Sx.Pt := ⟨[(19, [(5, .str (v0)), (8, .int .u8 (Int.tmod pa 16)), (9, .int .u8 (v1))])], [], 0, []⟩
mutual
noncomputable def L10_0 (tt : List Nat) (pa : Int) : Nat → (List Nat) → Int → Option (List Nat)
  | 0, _, _ => none
  | n + 1, v0, v1 => (bif (Go.Sx.ltI v1 (Int.tmod pa 16)) then (bif (Go.Sx.ltI 40000 (↑(List.length v0) : Int)) then (some (v0)) else (bif (Nat.blt (List.length v0 + List.length v0) 9223372036854775808) then (L10_0 tt pa n (v0 ++ v0) (Go.Sx.wrapA Go.IntKind.u8 (Int.add v1 1))) else none)) else (some (v0)))
termination_by structural n => n
end
theorem L10_0_succ (tt : List Nat) (pa : Int) (n : Nat) (v0 : List Nat) (v1 : Int) : L10_0 tt pa (n + 1) v0 v1 = (bif (Go.Sx.ltI v1 (Int.tmod pa 16)) then (bif (Go.Sx.ltI 40000 (↑(List.length v0) : Int)) then (some (v0)) else (bif (Nat.blt (List.length v0 + List.length v0) 9223372036854775808) then (L10_0 tt pa n (v0 ++ v0) (Go.Sx.wrapA Go.IntKind.u8 (Int.add v1 1))) else none)) else (some (v0))) := rfl
set_option maxHeartbeats 4000000 in
theorem form10_0 (n : Nat) (tt : List Nat) (pa : Int) (v0 : List Nat) (v1 : Int) (vz : Go.Sx.AV) : Go.Sx.wpS Try.prog Try.f10 [] vz (.st [0, 0, 0, 2, 0, 0, 0] (.br 10 (.st [0, 2, 0, 0, 0, 0, 0, 0, 2, 2, 2, 0, 0] (.br 13 (.st [0, 2, 0, 0, 0, 0, 0, 0, 0, 0, 2, 2, 0, 0, 2] .ans) (.st [0, 2, 0, 0, 2, 2] (.sp 2 (.st [2, 0, 0, 0, 0, 2, 2, 0, 0] (.stop ⟨[[5, 8, 9]], [], []⟩ [] 0 [])))))) (.st [0, 2, 0, 0, 0, 0, 0, 0, 2, 2, 0, 0, 2] .ans))) (Go.Sx.mkK sk10_0.1 (pt10_0 tt pa v0 v1).frs.tail) (Go.Sx.mkC [] (pt10_0 tt pa v0 v1) sk10_0.1 sk10_0.2) = (Go.Sx.BR (Go.Sx.ltI v1 (Int.tmod pa 16)) (Go.Sx.BR (Go.Sx.ltI 40000 (↑(List.length v0) : Int)) (vz = .str (v0)) (Go.Sx.AN (Nat.blt (List.length v0 + List.length v0) 9223372036854775808) (Go.Sx.RunAt Try.prog Try.f10 [] vz sk10_0 (pt10_0 tt pa (v0 ++ v0) (Go.Sx.wrapA Go.IntKind.u8 (Int.add v1 1)))))) (vz = .str (v0))) := by kernel_rfl
set_option maxHeartbeats 4000000 in
theorem runs10 (tt : List Nat) (pa : Int)  : ∀ (n : Nat), (∀ (v0 : List Nat) (v1 : Int) (r : List Nat), L10_0 tt pa n v0 v1 = some r → Go.Sx.RunAt Try.prog Try.f10 [] (.str r) sk10_0 (pt10_0 tt pa v0 v1)) := by
  intro n
  induction n with
  | zero => exact (fun _ _ r h => by cases h)
  | succ n ih =>
    have ih0 := ih
    exact (fun v0 v1 r h => Go.Sx.wpS_run (L := []) (by kernel_rfl) (form10_0 n tt pa v0 v1 (.str r)) ((Go.Sx.br_of (fun h0 => (Go.Sx.br_of (fun h1 => (fun h => by cases h; rfl)) (fun h1 => (Go.Sx.guard_of fun h2 => (fun h => ⟨h2, (fun h => ih0 (v0 ++ v0) (Go.Sx.wrapA Go.IntKind.u8 (Int.add v1 1)) r h) h⟩))))) (fun h0 => (fun h => by cases h; rfl))) ((L10_0_succ tt pa n v0 v1).symm.trans h)))
noncomputable def F10 (n : Nat) (tt : List Nat) (pa : Int) : Option (List Nat) := (L10_0 tt pa n (tt) 0)
set_option maxHeartbeats 4000000 in
theorem form10 (n : Nat) (tt : List Nat) (pa : Int) (vz : Go.Sx.AV) : Go.Sx.wpS Try.prog Try.f10 [] vz (.st [0, 0, 2, 0, 0, 0, 0, 2, 2, 0, 0, 0, 0, 0, 2, 2, 2, 0, 0, 0, 0] (.stop ⟨[[5, 8, 9]], [], []⟩ [] 0 [])) [] (.code body10 (Go.Sx.startA [.str tt, .int .u8 pa] Try.f10) (Go.Sx.laidHeap [])) = (Go.Sx.RunAt Try.prog Try.f10 [] vz sk10_0 (pt10_0 tt pa (tt) 0)) := by kernel_rfl
set_option maxHeartbeats 4000000 in
theorem run10 (n : Nat) (tt : List Nat) (pa : Int)  (r : List Nat) (h : F10 n tt pa = some r) : Go.Sx.Run Try.prog Try.f10 [] (.str r) [] (.code body10 (Go.Sx.startA [.str tt, .int .u8 pa] Try.f10) (Go.Sx.laidHeap [])) := by
  have ih0 := runs10 tt pa  n
  exact Go.Sx.wpS_run (L := []) (by kernel_rfl) (form10 n tt pa (.str r)) ((fun h => ih0 (tt) 0 r h) h)
noncomputable def F10_0 (n : Nat) (tt : List Nat) (pa : Int) : List Nat := ((F10 n tt pa).getD default)
theorem fact10 (n : Nat) (tt : List Nat) (pa : Int)  (h : (F10 n tt pa).isSome = true) : Go.Sx.Fact Try.prog [] 10 [.str tt, .int .u8 pa] (.str (F10_0 n tt pa)) := Go.Sx.fact_of_run okayed (by kernel_rfl) (by kernel_rfl) Try.func10 body10_eq (run10 n tt pa  ((F10 n tt pa).getD default) (Go.Sx.getD_some h))
noncomputable def body11 : Go.Code := (Try.f11.body).getD .skip
theorem body11_eq : Try.f11.body = some body11 := Go.Sx.some_getD (by kernel_rfl)
noncomputable def sk11_0 : List Go.Sx.FC × Go.Sx.CC := (Go.Sx.skelAt Try.prog [.fn 11 [.r, .r, .r, .l, .r, .i, .h]] []).getD ([], .code .skip)
noncomputable def t11_29 (tt : (List Nat)) : Int := (Go.Sx.wrapA Go.IntKind.i64 (Int.add (Go.Sx.wrapA Go.IntKind.i64 (Int.mul 2 (↑(List.length tt) : Int))) 1))
noncomputable def t11_30 (tt : (List Nat)) (v2 : (Int)) : Int := (Go.Sx.byteI (List.map UInt8.toNat (Array.toList (ByteArray.data { data := #[48, 49, 50, 51, 52, 53, 54, 55, 56, 57, 65, 66, 67, 68, 69, 70] }))) (Int.fdiv (Go.Sx.byteI tt v2) (16)))
noncomputable def t11_31 (tt : (List Nat)) (v2 : (Int)) : Int := (Go.Sx.byteI (List.map UInt8.toNat (Array.toList (ByteArray.data { data := #[48, 49, 50, 51, 52, 53, 54, 55, 56, 57, 65, 66, 67, 68, 69, 70] }))) (Go.IntKind.wrap Go.IntKind.u8 (↑(BitVec.toNat (BitVec.ofInt 8 (Go.Sx.byteI tt v2) &&& BitVec.ofInt 8 15)) : Int)))
noncomputable def l11_32 (tt : (List Nat)) (v0 : (Nat)) (v2 : (Int)) (v3 : (List Go.Sx.AV)) : List Go.Sx.AV := (List.take (v0 * 1) v3 ++ [Go.Sx.AV.int Go.IntKind.u8 (t11_30 tt v2), Go.Sx.AV.int Go.IntKind.u8 (t11_31 tt v2)])
noncomputable def l11_33 (tt : (List Nat)) (v0 : (Nat)) (v2 : (Int)) (v3 : (List Go.Sx.AV)) : List Go.Sx.AV := (Go.Sx.putL v3 (0 + v0 * 1) [Go.Sx.AV.int Go.IntKind.u8 (t11_30 tt v2), Go.Sx.AV.int Go.IntKind.u8 (t11_31 tt v2)])
noncomputable def c11_34 (v0 : (Nat)) : Bool := (Go.Sx.ltI 65536 (↑(v0 + 1) : Int))
noncomputable def l11_35 (v0 : (Nat)) (v3 : (List Go.Sx.AV)) : List Go.Sx.AV := (List.take (v0 * 1) v3 ++ [Go.Sx.AV.int Go.IntKind.u8 (62)])
noncomputable def l11_36 (v0 : (Nat)) (v3 : (List Go.Sx.AV)) : List Go.Sx.AV := (List.take (v0 * 1) v3 ++ [Go.Sx.AV.int Go.IntKind.u8 (62)])
noncomputable def l11_37 (v0 : (Nat)) (v3 : (List Go.Sx.AV)) : List Go.Sx.AV := (Go.Sx.putL v3 (0 + v0 * 1) [Go.Sx.AV.int Go.IntKind.u8 (62)])
noncomputable def l11_38 (v0 : (Nat)) (v3 : (List Go.Sx.AV)) : List Go.Sx.AV := (Go.Sx.putL v3 (0 + v0 * 1) [Go.Sx.AV.int Go.IntKind.u8 (62)])
noncomputable def t11_39 (tt : (List Nat)) (v1 : (Int)) : Int := (Go.Sx.byteI (List.map UInt8.toNat (Array.toList (ByteArray.data { data := #[48, 49, 50, 51, 52, 53, 54, 55, 56, 57, 65, 66, 67, 68, 69, 70] }))) (Int.fdiv (Go.Sx.byteI tt v1) (16)))
noncomputable def t11_40 (tt : (List Nat)) (v1 : (Int)) : Int := (Go.Sx.byteI (List.map UInt8.toNat (Array.toList (ByteArray.data { data := #[48, 49, 50, 51, 52, 53, 54, 55, 56, 57, 65, 66, 67, 68, 69, 70] }))) (Go.IntKind.wrap Go.IntKind.u8 (↑(BitVec.toNat (BitVec.ofInt 8 (Go.Sx.byteI tt v1) &&& BitVec.ofInt 8 15)) : Int)))
noncomputable def l11_41 (tt : (List Nat)) (v1 : (Int)) (v2 : (List Go.Sx.AV)) : List Go.Sx.AV := (v2 ++ [Go.Sx.AV.int Go.IntKind.u8 (t11_39 tt v1), Go.Sx.AV.int Go.IntKind.u8 (t11_40 tt v1)])
noncomputable def c11_42 (v0 : (Nat)) : Bool := (Go.Sx.ltI 65536 (↑(v0 + 1) : Int))
noncomputable def l11_43 (v2 : (List Go.Sx.AV)) : List Go.Sx.AV := (v2 ++ [Go.Sx.AV.int Go.IntKind.u8 (62)])
noncomputable def pt11_0 (tt : List Nat) (v0 : Nat) (v1 : Nat) (v2 : Int) (v3 : List Go.Sx.AV) : Go.Sx.Pt := ⟨[(39, [(0, .str (tt)), (4, .slc 0 0 (v0) (.exact (v1))), (15, .int .i64 ((↑(List.length tt) : Int))), (16, .int .i64 (v2))])], [], 1, [(0, .cells 5 (v3) false)]⟩
noncomputable def pt11_1 (tt : List Nat) (v0 : Nat) (v1 : Int) (v2 : List Go.Sx.AV) : Go.Sx.Pt := ⟨[(39, [(0, .str (tt)), (4, .slc 14 0 (v0) (.upto 1 (v0))), (15, .int .i64 ((↑(List.length tt) : Int))), (16, .int .i64 (v1))])], [], 15, [(14, .cells 5 (v2) true)]⟩
mutual
noncomputable def L11_0 (tt : List Nat) : Nat → Nat → Nat → Int → (List Go.Sx.AV) → Option (List Nat × Int)
  | 0, _, _, _, _ => none
  | n + 1, v0, v1, v2, v3 => (bif (Go.Sx.ltI v2 (↑(List.length tt) : Int)) then (bif (Go.Sx.inB v2 (List.length tt)) then (bif (Go.Sx.inB (Int.fdiv (Go.Sx.byteI tt v2) (16)) 16) then (bif (Go.Sx.inB (Go.IntKind.wrap Go.IntKind.u8 (↑(BitVec.toNat (BitVec.ofInt 8 (Go.Sx.byteI tt v2) &&& BitVec.ofInt 8 15)) : Int)) 16) then (bif (Nat.blt v1 (v0 + 2)) then (bif (Nat.ble v0 1000000) then (bif (Nat.ble (0 + v0 * 1) (List.length v3)) then (bif (Go.Sx.pureAVs (l11_32 tt v0 v2 v3)) then (L11_1 tt n (v0 + 2) (Go.Sx.wrapA Go.IntKind.i64 (Int.add v2 1)) (l11_32 tt v0 v2 v3)) else none) else none) else none) else (bif (Nat.ble (v0 + 2) v1) then (bif (Go.Sx.putOk v3 (0 + v0 * 1) (List.length (List.take 2 (List.drop 0 [Go.Sx.AV.int Go.IntKind.u8 (t11_30 tt v2), Go.Sx.AV.int Go.IntKind.u8 (t11_31 tt v2)])))) then (bif (Go.Sx.pureAVs (l11_33 tt v0 v2 v3)) then (L11_0 tt n (v0 + 2) (v1) (Go.Sx.wrapA Go.IntKind.i64 (Int.add v2 1)) (l11_33 tt v0 v2 v3)) else none) else none) else none)) else none) else none) else none) else (bif (Nat.blt v1 (v0 + 1)) then (bif (Nat.ble v0 1000000) then (bif (Nat.ble (0 + v0 * 1) (List.length v3)) then (bif (c11_34 v0) then (some ([], 3)) else (bif (Go.Sx.strOk (l11_36 v0 v3) 0 (v0 + 1)) then (some ((Go.Sx.strOf (l11_36 v0 v3) 0 (v0 + 1)), 0)) else none)) else none) else none) else (bif (Nat.ble (v0 + 1) v1) then (bif (Go.Sx.putOk v3 (0 + v0 * 1) 1) then (bif (c11_34 v0) then (some ([], 3)) else (bif (Go.Sx.strOk (l11_38 v0 v3) 0 (v0 + 1)) then (some ((Go.Sx.strOf (l11_38 v0 v3) 0 (v0 + 1)), 0)) else none)) else none) else none)))
termination_by structural n => n
noncomputable def L11_1 (tt : List Nat) : Nat → Nat → Int → (List Go.Sx.AV) → Option (List Nat × Int)
  | 0, _, _, _ => none
  | n + 1, v0, v1, v2 => (bif (Go.Sx.ltI v1 (↑(List.length tt) : Int)) then (bif (Go.Sx.inB v1 (List.length tt)) then (bif (Go.Sx.inB (Int.fdiv (Go.Sx.byteI tt v1) (16)) 16) then (bif (Go.Sx.inB (Go.IntKind.wrap Go.IntKind.u8 (↑(BitVec.toNat (BitVec.ofInt 8 (Go.Sx.byteI tt v1) &&& BitVec.ofInt 8 15)) : Int)) 16) then (bif (Nat.blt v0 (v0 + 2)) then (bif (Nat.ble v0 1000000) then (bif (Nat.beq (List.length v2) (0 + v0 * 1)) then (bif (Go.Sx.pureAVs (l11_41 tt v1 v2)) then (L11_1 tt n (v0 + 2) (Go.Sx.wrapA Go.IntKind.i64 (Int.add v1 1)) (l11_41 tt v1 v2)) else none) else none) else none) else none) else none) else none) else none) else (bif (Nat.blt v0 (v0 + 1)) then (bif (Nat.ble v0 1000000) then (bif (Nat.beq (List.length v2) (0 + v0 * 1)) then (bif (c11_42 v0) then (some ([], 3)) else (bif (Go.Sx.strOk (l11_43 v2) 0 (v0 + 1)) then (some ((Go.Sx.strOf (l11_43 v2) 0 (v0 + 1)), 0)) else none)) else none) else none) else none))
termination_by structural n => n
end
theorem L11_0_succ (tt : List Nat) (n : Nat) (v0 : Nat) (v1 : Nat) (v2 : Int) (v3 : List Go.Sx.AV) : L11_0 tt (n + 1) v0 v1 v2 v3 = (bif (Go.Sx.ltI v2 (↑(List.length tt) : Int)) then (bif (Go.Sx.inB v2 (List.length tt)) then (bif (Go.Sx.inB (Int.fdiv (Go.Sx.byteI tt v2) (16)) 16) then (bif (Go.Sx.inB (Go.IntKind.wrap Go.IntKind.u8 (↑(BitVec.toNat (BitVec.ofInt 8 (Go.Sx.byteI tt v2) &&& BitVec.ofInt 8 15)) : Int)) 16) then (bif (Nat.blt v1 (v0 + 2)) then (bif (Nat.ble v0 1000000) then (bif (Nat.ble (0 + v0 * 1) (List.length v3)) then (bif (Go.Sx.pureAVs (l11_32 tt v0 v2 v3)) then (L11_1 tt n (v0 + 2) (Go.Sx.wrapA Go.IntKind.i64 (Int.add v2 1)) (l11_32 tt v0 v2 v3)) else none) else none) else none) else (bif (Nat.ble (v0 + 2) v1) then (bif (Go.Sx.putOk v3 (0 + v0 * 1) (List.length (List.take 2 (List.drop 0 [Go.Sx.AV.int Go.IntKind.u8 (t11_30 tt v2), Go.Sx.AV.int Go.IntKind.u8 (t11_31 tt v2)])))) then (bif (Go.Sx.pureAVs (l11_33 tt v0 v2 v3)) then (L11_0 tt n (v0 + 2) (v1) (Go.Sx.wrapA Go.IntKind.i64 (Int.add v2 1)) (l11_33 tt v0 v2 v3)) else none) else none) else none)) else none) else none) else none) else (bif (Nat.blt v1 (v0 + 1)) then (bif (Nat.ble v0 1000000) then (bif (Nat.ble (0 + v0 * 1) (List.length v3)) then (bif (c11_34 v0) then (some ([], 3)) else (bif (Go.Sx.strOk (l11_36 v0 v3) 0 (v0 + 1)) then (some ((Go.Sx.strOf (l11_36 v0 v3) 0 (v0 + 1)), 0)) else none)) else none) else none) else (bif (Nat.ble (v0 + 1) v1) then (bif (Go.Sx.putOk v3 (0 + v0 * 1) 1) then (bif (c11_34 v0) then (some ([], 3)) else (bif (Go.Sx.strOk (l11_38 v0 v3) 0 (v0 + 1)) then (some ((Go.Sx.strOf (l11_38 v0 v3) 0 (v0 + 1)), 0)) else none)) else none) else none))) := rfl
theorem L11_1_succ (tt : List Nat) (n : Nat) (v0 : Nat) (v1 : Int) (v2 : List Go.Sx.AV) : L11_1 tt (n + 1) v0 v1 v2 = (bif (Go.Sx.ltI v1 (↑(List.length tt) : Int)) then (bif (Go.Sx.inB v1 (List.length tt)) then (bif (Go.Sx.inB (Int.fdiv (Go.Sx.byteI tt v1) (16)) 16) then (bif (Go.Sx.inB (Go.IntKind.wrap Go.IntKind.u8 (↑(BitVec.toNat (BitVec.ofInt 8 (Go.Sx.byteI tt v1) &&& BitVec.ofInt 8 15)) : Int)) 16) then (bif (Nat.blt v0 (v0 + 2)) then (bif (Nat.ble v0 1000000) then (bif (Nat.beq (List.length v2) (0 + v0 * 1)) then (bif (Go.Sx.pureAVs (l11_41 tt v1 v2)) then (L11_1 tt n (v0 + 2) (Go.Sx.wrapA Go.IntKind.i64 (Int.add v1 1)) (l11_41 tt v1 v2)) else none) else none) else none) else none) else none) else none) else none) else (bif (Nat.blt v0 (v0 + 1)) then (bif (Nat.ble v0 1000000) then (bif (Nat.beq (List.length v2) (0 + v0 * 1)) then (bif (c11_42 v0) then (some ([], 3)) else (bif (Go.Sx.strOk (l11_43 v2) 0 (v0 + 1)) then (some ((Go.Sx.strOf (l11_43 v2) 0 (v0 + 1)), 0)) else none)) else none) else none) else none)) := rfl
set_option maxHeartbeats 4000000 in
theorem form11_0 (n : Nat) (tt : List Nat) (v0 : Nat) (v1 : Nat) (v2 : Int) (v3 : List Go.Sx.AV) (vz : Go.Sx.AV) : Go.Sx.wpS Try.prog Try.f11 [] vz (.st [0, 0, 0, 2, 0, 0, 0] (.br 17 (.st [0, 2, 0, 0, 0, 0, 0, 2, 2, 0, 0] (.dr [.run, .run, .run, .sp 0, .run, .sp 0, .run, .run, .sp 0, .run, .sp 0, .run] (.split (Nat.blt v1 (v0 + 2)) (.sp 2 (.st [2, 0, 0, 0, 0, 2, 2, 0, 0] (.stop ⟨[[0, 4, 15, 16]], [], [14]⟩ [(14, 14)] 15 [14]))) (.sp 1 (.st [2, 0, 0, 0, 0, 2, 2, 0, 0] (.stop ⟨[[0, 4, 15, 16]], [], [0]⟩ [(0, 0)] 1 [0])))))) (.st [0, 2, 0, 0, 0, 0, 0, 0, 2, 2] (.split (Nat.blt v1 (v0 + 1)) (.sp 2 (.st [0, 0, 0, 2, 2, 0, 0, 0, 0, 0, 2, 2, 2, 0, 0] (.br 6 (.st [0, 0, 0, 2, 2, 0, 0, 2, 0, 0, 2, 2, 2, 2, 0, 0, 2] .ans) (.st [0, 2, 0, 0, 0, 2] (.sp 2 (.st [2, 2, 0, 0, 2, 0, 2, 2, 2, 2, 0, 0, 2] .ans)))))) (.sp 1 (.st [0, 0, 0, 2, 2, 0, 0, 0, 0, 0, 2, 2, 2, 0, 0] (.br 6 (.st [0, 0, 0, 2, 2, 0, 0, 2, 0, 0, 2, 2, 2, 2, 0, 0, 2] .ans) (.st [0, 2, 0, 0, 0, 2] (.sp 2 (.st [2, 2, 0, 0, 2, 0, 2, 2, 2, 2, 0, 0, 2] .ans)))))))))) (Go.Sx.mkK sk11_0.1 (pt11_0 tt v0 v1 v2 v3).frs.tail) (Go.Sx.mkC [] (pt11_0 tt v0 v1 v2 v3) sk11_0.1 sk11_0.2) = (Go.Sx.BR (Go.Sx.ltI v2 (↑(List.length tt) : Int)) (Go.Sx.AN (Go.Sx.andB (Go.Sx.inB v2 (List.length tt)) (Go.Sx.andB (Go.Sx.inB (Int.fdiv (Go.Sx.byteI tt v2) (16)) 16) (Go.Sx.andB (Go.Sx.inB v2 (List.length tt)) (Go.Sx.andB (Go.Sx.inB (Go.IntKind.wrap Go.IntKind.u8 (↑(BitVec.toNat (BitVec.ofInt 8 (Go.Sx.byteI tt v2) &&& BitVec.ofInt 8 15)) : Int)) 16) Bool.true)))) (Go.Sx.BR (Nat.blt v1 (v0 + 2)) (Go.Sx.AN (Go.Sx.andB (Nat.blt v1 (v0 + 2)) (Go.Sx.andB (Nat.ble v0 1000000) (Nat.ble (0 + v0 * 1) (List.length v3)))) (Go.Sx.AN (Go.Sx.pureAVs (l11_32 tt v0 v2 v3)) (Go.Sx.RunAt Try.prog Try.f11 [] vz sk11_0 (pt11_1 tt (v0 + 2) (Go.Sx.wrapA Go.IntKind.i64 (Int.add v2 1)) (l11_32 tt v0 v2 v3))))) (Go.Sx.AN (Go.Sx.andB (Nat.ble (v0 + 2) v1) (Go.Sx.putOk v3 (0 + v0 * 1) (List.length (List.take 2 (List.drop 0 [Go.Sx.AV.int Go.IntKind.u8 (t11_30 tt v2), Go.Sx.AV.int Go.IntKind.u8 (t11_31 tt v2)]))))) (Go.Sx.AN (Go.Sx.pureAVs (l11_33 tt v0 v2 v3)) (Go.Sx.RunAt Try.prog Try.f11 [] vz sk11_0 (pt11_0 tt (v0 + 2) (v1) (Go.Sx.wrapA Go.IntKind.i64 (Int.add v2 1)) (l11_33 tt v0 v2 v3))))))) (Go.Sx.BR (Nat.blt v1 (v0 + 1)) (Go.Sx.AN (Go.Sx.andB (Nat.blt v1 (v0 + 1)) (Go.Sx.andB (Nat.ble v0 1000000) (Nat.ble (0 + v0 * 1) (List.length v3)))) (Go.Sx.BR (c11_34 v0) (vz = .tup [.str [], .int .i64 (.ofNat 3)]) (Go.Sx.AN (Go.Sx.strOk (l11_36 v0 v3) 0 (v0 + 1)) (vz = .tup [.str (Go.Sx.strOf (l11_36 v0 v3) 0 (v0 + 1)), .int .i64 (.ofNat 0)])))) (Go.Sx.AN (Go.Sx.andB (Nat.ble (v0 + 1) v1) (Go.Sx.putOk v3 (0 + v0 * 1) 1)) (Go.Sx.BR (c11_34 v0) (vz = .tup [.str [], .int .i64 (.ofNat 3)]) (Go.Sx.AN (Go.Sx.strOk (l11_38 v0 v3) 0 (v0 + 1)) (vz = .tup [.str (Go.Sx.strOf (l11_38 v0 v3) 0 (v0 + 1)), .int .i64 (.ofNat 0)])))))) := by kernel_rfl
set_option maxHeartbeats 4000000 in
theorem form11_1 (n : Nat) (tt : List Nat) (v0 : Nat) (v1 : Int) (v2 : List Go.Sx.AV) (vz : Go.Sx.AV) : Go.Sx.wpS Try.prog Try.f11 [] vz (.st [0, 0, 0, 2, 0, 0, 0] (.br 17 (.st [0, 2, 0, 0, 0, 0, 0, 2, 2, 0, 0] (.dr [.run, .run, .run, .sp 0, .run, .sp 0, .run, .run, .sp 0, .run, .sp 0, .run] (.sp 2 (.st [2, 0, 0, 0, 0, 2, 2, 0, 0] (.stop ⟨[[0, 4, 15, 16]], [], [28]⟩ [(28, 14)] 15 [28]))))) (.st [0, 2, 0, 0, 0, 0, 0, 0, 2, 2] (.sp 2 (.st [0, 0, 0, 2, 2, 0, 0, 0, 0, 0, 2, 2, 2, 0, 0] (.br 6 (.st [0, 0, 0, 2, 2, 0, 0, 2, 0, 0, 2, 2, 2, 2, 0, 0, 2] .ans) (.st [0, 2, 0, 0, 0, 2] (.sp 2 (.st [2, 2, 0, 0, 2, 0, 2, 2, 2, 2, 0, 0, 2] .ans))))))))) (Go.Sx.mkK sk11_0.1 (pt11_1 tt v0 v1 v2).frs.tail) (Go.Sx.mkC [] (pt11_1 tt v0 v1 v2) sk11_0.1 sk11_0.2) = (Go.Sx.BR (Go.Sx.ltI v1 (↑(List.length tt) : Int)) (Go.Sx.AN (Go.Sx.andB (Go.Sx.inB v1 (List.length tt)) (Go.Sx.andB (Go.Sx.inB (Int.fdiv (Go.Sx.byteI tt v1) (16)) 16) (Go.Sx.andB (Go.Sx.inB v1 (List.length tt)) (Go.Sx.andB (Go.Sx.inB (Go.IntKind.wrap Go.IntKind.u8 (↑(BitVec.toNat (BitVec.ofInt 8 (Go.Sx.byteI tt v1) &&& BitVec.ofInt 8 15)) : Int)) 16) Bool.true)))) (Go.Sx.AN (Go.Sx.andB (Nat.blt v0 (v0 + 2)) (Go.Sx.andB (Nat.ble v0 1000000) (Nat.beq (List.length v2) (0 + v0 * 1)))) (Go.Sx.AN (Go.Sx.pureAVs (l11_41 tt v1 v2)) (Go.Sx.RunAt Try.prog Try.f11 [] vz sk11_0 (pt11_1 tt (v0 + 2) (Go.Sx.wrapA Go.IntKind.i64 (Int.add v1 1)) (l11_41 tt v1 v2)))))) (Go.Sx.AN (Go.Sx.andB (Nat.blt v0 (v0 + 1)) (Go.Sx.andB (Nat.ble v0 1000000) (Nat.beq (List.length v2) (0 + v0 * 1)))) (Go.Sx.BR (c11_42 v0) (vz = .tup [.str [], .int .i64 (.ofNat 3)]) (Go.Sx.AN (Go.Sx.strOk (l11_43 v2) 0 (v0 + 1)) (vz = .tup [.str (Go.Sx.strOf (l11_43 v2) 0 (v0 + 1)), .int .i64 (.ofNat 0)]))))) := by kernel_rfl
set_option maxHeartbeats 4000000 in
theorem runs11 (tt : List Nat)  : ∀ (n : Nat), (∀ (v0 : Nat) (v1 : Nat) (v2 : Int) (v3 : List Go.Sx.AV) (r : List Nat × Int), L11_0 tt n v0 v1 v2 v3 = some r → Go.Sx.RunAt Try.prog Try.f11 [] (.tup [.str r.1, .int .i64 r.2]) sk11_0 (pt11_0 tt v0 v1 v2 v3)) ∧ (∀ (v0 : Nat) (v1 : Int) (v2 : List Go.Sx.AV) (r : List Nat × Int), L11_1 tt n v0 v1 v2 = some r → Go.Sx.RunAt Try.prog Try.f11 [] (.tup [.str r.1, .int .i64 r.2]) sk11_0 (pt11_1 tt v0 v1 v2)) := by
  intro n
  induction n with
  | zero => exact ⟨(fun _ _ _ _ r h => by cases h), (fun _ _ _ r h => by cases h)⟩
  | succ n ih =>
    obtain ⟨ih0, ih1⟩ := ih
    exact ⟨(fun v0 v1 v2 v3 r h => Go.Sx.wpS_run (L := []) (by kernel_rfl) (form11_0 n tt v0 v1 v2 v3 (.tup [.str r.1, .int .i64 r.2])) ((Go.Sx.br_of (fun h4 => (Go.Sx.guard_of fun h5 => (Go.Sx.guard_of fun h6 => (Go.Sx.guard_of fun h7 => (fun h => ⟨(Go.Sx.and_t h5 (Go.Sx.and_t h6 (Go.Sx.and_t h5 (Go.Sx.and_t h7 rfl)))), (Go.Sx.br_of (fun h8 => (Go.Sx.guard_of fun h9 => (Go.Sx.guard_of fun h10 => (fun h => ⟨(Go.Sx.and_t h8 (Go.Sx.and_t h9 h10)), (Go.Sx.guard_of fun h11 => (fun h => ⟨h11, (fun h => ih1 (v0 + 2) (Go.Sx.wrapA Go.IntKind.i64 (Int.add v2 1)) (l11_32 tt v0 v2 v3) r h) h⟩)) h⟩)))) (fun h8 => (Go.Sx.guard_of fun h12 => (Go.Sx.guard_of fun h13 => (fun h => ⟨(Go.Sx.and_t h12 h13), (Go.Sx.guard_of fun h14 => (fun h => ⟨h14, (fun h => ih0 (v0 + 2) (v1) (Go.Sx.wrapA Go.IntKind.i64 (Int.add v2 1)) (l11_33 tt v0 v2 v3) r h) h⟩)) h⟩))))) h⟩))))) (fun h4 => (Go.Sx.br_of (fun h15 => (Go.Sx.guard_of fun h16 => (Go.Sx.guard_of fun h17 => (fun h => ⟨(Go.Sx.and_t h15 (Go.Sx.and_t h16 h17)), (Go.Sx.br_of (fun h18 => (fun h => by cases h; rfl)) (fun h18 => (Go.Sx.guard_of fun h19 => (fun h => ⟨h19, (fun h => by cases h; rfl) h⟩)))) h⟩)))) (fun h15 => (Go.Sx.guard_of fun h20 => (Go.Sx.guard_of fun h21 => (fun h => ⟨(Go.Sx.and_t h20 h21), (Go.Sx.br_of (fun h22 => (fun h => by cases h; rfl)) (fun h22 => (Go.Sx.guard_of fun h23 => (fun h => ⟨h23, (fun h => by cases h; rfl) h⟩)))) h⟩))))))) ((L11_0_succ tt n v0 v1 v2 v3).symm.trans h))), (fun v0 v1 v2 r h => Go.Sx.wpS_run (L := []) (by kernel_rfl) (form11_1 n tt v0 v1 v2 (.tup [.str r.1, .int .i64 r.2])) ((Go.Sx.br_of (fun h24 => (Go.Sx.guard_of fun h25 => (Go.Sx.guard_of fun h26 => (Go.Sx.guard_of fun h27 => (fun h => ⟨(Go.Sx.and_t h25 (Go.Sx.and_t h26 (Go.Sx.and_t h25 (Go.Sx.and_t h27 rfl)))), (Go.Sx.guard_of fun h28 => (Go.Sx.guard_of fun h29 => (Go.Sx.guard_of fun h30 => (fun h => ⟨(Go.Sx.and_t h28 (Go.Sx.and_t h29 h30)), (Go.Sx.guard_of fun h31 => (fun h => ⟨h31, (fun h => ih1 (v0 + 2) (Go.Sx.wrapA Go.IntKind.i64 (Int.add v1 1)) (l11_41 tt v1 v2) r h) h⟩)) h⟩)))) h⟩))))) (fun h24 => (Go.Sx.guard_of fun h32 => (Go.Sx.guard_of fun h33 => (Go.Sx.guard_of fun h34 => (fun h => ⟨(Go.Sx.and_t h32 (Go.Sx.and_t h33 h34)), (Go.Sx.br_of (fun h35 => (fun h => by cases h; rfl)) (fun h35 => (Go.Sx.guard_of fun h36 => (fun h => ⟨h36, (fun h => by cases h; rfl) h⟩)))) h⟩)))))) ((L11_1_succ tt n v0 v1 v2).symm.trans h)))⟩
noncomputable def F11 (n : Nat) (tt : List Nat) : Option (List Nat × Int) := (bif (Go.Sx.ltI 65536 (↑(List.length tt) : Int)) then (some ([], 3)) else (bif (!Go.Sx.ltI (t11_29 tt) 0) then (bif (!Go.Sx.ltI 1000000 (t11_29 tt)) then (bif (Go.Sx.pureAVs (Go.Sx.repeatL (Int.toNat (t11_29 tt)) [Go.Sx.AV.int Go.IntKind.u8 (0)])) then (L11_0 tt n 0 (Int.toNat (t11_29 tt)) 0 (Go.Sx.repeatL (Int.toNat (t11_29 tt)) [Go.Sx.AV.int Go.IntKind.u8 (0)])) else none) else none) else none))
set_option maxHeartbeats 4000000 in
theorem form11 (n : Nat) (tt : List Nat) (vz : Go.Sx.AV) : Go.Sx.wpS Try.prog Try.f11 [] vz (.st [0, 0, 2, 2, 0, 0, 0, 0, 0, 2, 2, 2, 0, 0] (.br 8 (.st [0, 0, 0, 2, 2, 0, 0, 2, 0] .ans) (.st [0, 2, 0, 0, 0, 2, 2, 2, 2] (.sp 2 (.st [2, 0, 0, 0, 0, 0, 2, 2, 2, 0, 0, 0, 0] (.stop ⟨[[0, 4, 15, 16]], [], [0]⟩ [(0, 0)] 1 [0])))))) [] (.code body11 (Go.Sx.startA [.str tt] Try.f11) (Go.Sx.laidHeap [])) = (Go.Sx.BR (Go.Sx.ltI 65536 (↑(List.length tt) : Int)) (vz = .tup [.str [], .int .i64 (.ofNat 3)]) (Go.Sx.AN (Go.Sx.andB (!Go.Sx.ltI (t11_29 tt) 0) !Go.Sx.ltI 1000000 (t11_29 tt)) (Go.Sx.AN (Go.Sx.pureAVs (Go.Sx.repeatL (Int.toNat (t11_29 tt)) [Go.Sx.AV.int Go.IntKind.u8 (0)])) (Go.Sx.RunAt Try.prog Try.f11 [] vz sk11_0 (pt11_0 tt 0 (Int.toNat (t11_29 tt)) 0 (Go.Sx.repeatL (Int.toNat (t11_29 tt)) [Go.Sx.AV.int Go.IntKind.u8 (0)])))))) := by kernel_rfl
set_option maxHeartbeats 4000000 in
theorem run11 (n : Nat) (tt : List Nat)  (r : List Nat × Int) (h : F11 n tt = some r) : Go.Sx.Run Try.prog Try.f11 [] (.tup [.str r.1, .int .i64 r.2]) [] (.code body11 (Go.Sx.startA [.str tt] Try.f11) (Go.Sx.laidHeap [])) := by
  obtain ⟨ih0, ih1⟩ := runs11 tt  n
  exact Go.Sx.wpS_run (L := []) (by kernel_rfl) (form11 n tt (.tup [.str r.1, .int .i64 r.2])) ((Go.Sx.br_of (fun h0 => (fun h => by cases h; rfl)) (fun h0 => (Go.Sx.guard_of fun h1 => (Go.Sx.guard_of fun h2 => (fun h => ⟨(Go.Sx.and_t h1 h2), (Go.Sx.guard_of fun h3 => (fun h => ⟨h3, (fun h => ih0 0 (Int.toNat (t11_29 tt)) 0 (Go.Sx.repeatL (Int.toNat (t11_29 tt)) [Go.Sx.AV.int Go.IntKind.u8 (0)]) r h) h⟩)) h⟩))))) h)
noncomputable def F11_0 (n : Nat) (tt : List Nat) : List Nat := ((F11 n tt).getD default).1
noncomputable def F11_1 (n : Nat) (tt : List Nat) : Int := ((F11 n tt).getD default).2
theorem fact11 (n : Nat) (tt : List Nat)  (h : (F11 n tt).isSome = true) : Go.Sx.Fact Try.prog [] 11 [.str tt] (.tup [.str (F11_0 n tt), .int .i64 (F11_1 n tt)]) := Go.Sx.fact_of_run okayed (by kernel_rfl) (by kernel_rfl) Try.func11 body11_eq (run11 n tt  ((F11 n tt).getD default) (Go.Sx.getD_some h))
noncomputable def body12 : Go.Code := (Try.f12.body).getD .skip
theorem body12_eq : Try.f12.body = some body12 := Go.Sx.some_getD (by kernel_rfl)
noncomputable def sk12_0 : List Go.Sx.FC × Go.Sx.CC := (Go.Sx.skelAt Try.prog [.fn 12 [.r, .r, .r, .l, .r, .i, .h]] []).getD ([], .code .skip)
noncomputable def c12_8 (tt : (List Nat)) : Bool := (Go.Sx.ltI 65536 (Go.Sx.wrapA Go.IntKind.i64 (Int.add (Go.Sx.wrapA Go.IntKind.i64 (Int.mul 2 (↑(List.length tt) : Int))) 1)))
noncomputable def l12_9 (tt : (List Nat)) : List Go.Sx.AV := ([Go.Sx.AV.int Go.IntKind.u8 (F21_0 (Go.Sx.wrapA Go.IntKind.i64 (Int.tdiv (Go.Sx.wrapA Go.IntKind.i64 (Go.Sx.byteI tt (0))) 16))), Go.Sx.AV.int Go.IntKind.u8 (F21_0 (Int.tmod (Go.Sx.wrapA Go.IntKind.i64 (Go.Sx.byteI tt (0))) 16))])
noncomputable def l12_10 (tt : (List Nat)) (v1 : (Int)) (v2 : (List Go.Sx.AV)) : List Go.Sx.AV := (v2 ++ [Go.Sx.AV.int Go.IntKind.u8 (F21_0 (Go.Sx.wrapA Go.IntKind.i64 (Int.tdiv (Go.Sx.wrapA Go.IntKind.i64 (Go.Sx.byteI tt v1)) 16))), Go.Sx.AV.int Go.IntKind.u8 (F21_0 (Int.tmod (Go.Sx.wrapA Go.IntKind.i64 (Go.Sx.byteI tt v1)) 16))])
noncomputable def l12_11 (v2 : (List Go.Sx.AV)) : List Go.Sx.AV := (v2 ++ [Go.Sx.AV.int Go.IntKind.u8 (62)])
noncomputable def pt12_0 (tt : List Nat)  : Go.Sx.Pt := ⟨[(36, [(0, .str (tt)), (4, .nils), (5, .int .i64 (.ofNat 0))])], [], 0, []⟩
noncomputable def pt12_1 (tt : List Nat) (v0 : Nat) (v1 : Int) (v2 : List Go.Sx.AV) : Go.Sx.Pt := ⟨[(36, [(0, .str (tt)), (4, .slc 15 0 (v0) (.upto 1 (v0))), (5, .int .i64 (v1))])], [], 16, [(15, .cells 5 (v2) true)]⟩
mutual
noncomputable def L12_0 (tt : List Nat) : Nat → Option (List Nat × Int)
  | 0 => none
  | n + 1 => (bif (Go.Sx.ltI (0) (↑(List.length tt) : Int)) then (bif (Go.Sx.inB (0) (List.length tt)) then (L12_1 tt n 2 1 (l12_9 tt)) else none) else (some ([62], 0)))
noncomputable def L12_1 (tt : List Nat) : Nat → Nat → Int → (List Go.Sx.AV) → Option (List Nat × Int)
  | 0, _, _, _ => none
  | n + 1, v0, v1, v2 => (bif (Go.Sx.ltI v1 (↑(List.length tt) : Int)) then (bif (Go.Sx.inB v1 (List.length tt)) then (bif (Nat.blt v0 (v0 + 2)) then (bif (Nat.ble v0 1000000) then (bif (Nat.beq (List.length v2) (0 + v0 * 1)) then (bif (Go.Sx.pureAVs (l12_10 tt v1 v2)) then (L12_1 tt n (v0 + 2) (Go.Sx.wrapA Go.IntKind.i64 (Int.add v1 1)) (l12_10 tt v1 v2)) else none) else none) else none) else none) else none) else (bif (Nat.blt v0 (v0 + 1)) then (bif (Nat.ble v0 1000000) then (bif (Nat.beq (List.length v2) (0 + v0 * 1)) then (bif (Go.Sx.strOk (l12_11 v2) 0 (v0 + 1)) then (some ((Go.Sx.strOf (l12_11 v2) 0 (v0 + 1)), 0)) else none) else none) else none) else none))
termination_by structural n => n
end
theorem L12_0_succ (tt : List Nat) (n : Nat)  : L12_0 tt (n + 1)  = (bif (Go.Sx.ltI (0) (↑(List.length tt) : Int)) then (bif (Go.Sx.inB (0) (List.length tt)) then (L12_1 tt n 2 1 (l12_9 tt)) else none) else (some ([62], 0))) := rfl
theorem L12_1_succ (tt : List Nat) (n : Nat) (v0 : Nat) (v1 : Int) (v2 : List Go.Sx.AV) : L12_1 tt (n + 1) v0 v1 v2 = (bif (Go.Sx.ltI v1 (↑(List.length tt) : Int)) then (bif (Go.Sx.inB v1 (List.length tt)) then (bif (Nat.blt v0 (v0 + 2)) then (bif (Nat.ble v0 1000000) then (bif (Nat.beq (List.length v2) (0 + v0 * 1)) then (bif (Go.Sx.pureAVs (l12_10 tt v1 v2)) then (L12_1 tt n (v0 + 2) (Go.Sx.wrapA Go.IntKind.i64 (Int.add v1 1)) (l12_10 tt v1 v2)) else none) else none) else none) else none) else none) else (bif (Nat.blt v0 (v0 + 1)) then (bif (Nat.ble v0 1000000) then (bif (Nat.beq (List.length v2) (0 + v0 * 1)) then (bif (Go.Sx.strOk (l12_11 v2) 0 (v0 + 1)) then (some ((Go.Sx.strOf (l12_11 v2) 0 (v0 + 1)), 0)) else none) else none) else none) else none)) := rfl
set_option maxHeartbeats 4000000 in
theorem form12_0 (n : Nat) (tt : List Nat)  (vz : Go.Sx.AV) : Go.Sx.wpS Try.prog Try.f12 [] vz (.st [0, 0, 0, 0, 2, 2, 2, 2, 0, 0] (.br 14 (.st [0, 2, 0, 0, 0] (.dr [.run, .run, .run, .sp 0, .run, .run, .use (.int .u8 (F21_0 (Go.Sx.wrapA Go.IntKind.i64 (Int.tdiv (Go.Sx.wrapA Go.IntKind.i64 (Go.Sx.byteI tt (Int.ofNat 0))) 16)))) [], .run, .run, .sp 0, .run, .run, .use (.int .u8 (F21_0 (Int.tmod (Go.Sx.wrapA Go.IntKind.i64 (Go.Sx.byteI tt (Int.ofNat 0))) 16))) [], .run] (.st [2, 2, 0, 0, 0, 0, 2, 2, 2, 0, 0] (.stop ⟨[[0, 4, 5]], [], [15]⟩ [(15, 15)] 16 [15])))) (.st [0, 2, 0, 0, 0, 0, 0, 0, 2, 2, 2, 2, 2, 2, 0, 0, 2] .ans))) (Go.Sx.mkK sk12_0.1 (pt12_0 tt ).frs.tail) (Go.Sx.mkC [] (pt12_0 tt ) sk12_0.1 sk12_0.2) = (Go.Sx.BR (Go.Sx.ltI (0) (↑(List.length tt) : Int)) (Go.Sx.AN (Go.Sx.andB (Go.Sx.inB (0) (List.length tt)) (Go.Sx.andB (Go.Sx.inB (0) (List.length tt)) Bool.true)) (Go.Sx.Fact Try.prog [] 21 [.int .i64 (Go.Sx.wrapA Go.IntKind.i64 (Int.tdiv (Go.Sx.wrapA Go.IntKind.i64 (Go.Sx.byteI tt (Int.ofNat 0))) 16))] (.int .u8 (F21_0 (Go.Sx.wrapA Go.IntKind.i64 (Int.tdiv (Go.Sx.wrapA Go.IntKind.i64 (Go.Sx.byteI tt (Int.ofNat 0))) 16)))) ∧ (Go.Sx.Fact Try.prog [] 21 [.int .i64 (Int.tmod (Go.Sx.wrapA Go.IntKind.i64 (Go.Sx.byteI tt (Int.ofNat 0))) 16)] (.int .u8 (F21_0 (Int.tmod (Go.Sx.wrapA Go.IntKind.i64 (Go.Sx.byteI tt (Int.ofNat 0))) 16))) ∧ (Go.Sx.AN (Go.Sx.pureAVs (l12_9 tt)) (Go.Sx.RunAt Try.prog Try.f12 [] vz sk12_0 (pt12_1 tt 2 1 (l12_9 tt))))))) (vz = .tup [.str [62], .int .i64 (.ofNat 0)])) := by kernel_rfl
set_option maxHeartbeats 4000000 in
theorem form12_1 (n : Nat) (tt : List Nat) (v0 : Nat) (v1 : Int) (v2 : List Go.Sx.AV) (vz : Go.Sx.AV) : Go.Sx.wpS Try.prog Try.f12 [] vz (.st [0, 0, 0, 0, 2, 2, 2, 2, 0, 0] (.br 14 (.st [0, 2, 0, 0, 0] (.dr [.run, .run, .run, .sp 0, .run, .run, .use (.int .u8 (F21_0 (Go.Sx.wrapA Go.IntKind.i64 (Int.tdiv (Go.Sx.wrapA Go.IntKind.i64 (Go.Sx.byteI tt v1)) 16)))) [], .run, .run, .sp 0, .run, .run, .use (.int .u8 (F21_0 (Int.tmod (Go.Sx.wrapA Go.IntKind.i64 (Go.Sx.byteI tt v1)) 16))) [], .run] (.sp 2 (.st [2, 0, 0, 0, 0, 2, 2, 2, 0, 0] (.stop ⟨[[0, 4, 5]], [], [31]⟩ [(31, 15)] 16 [31]))))) (.st [0, 2, 0, 0, 0, 0, 0, 0, 2, 2] (.sp 2 (.sp 2 (.st [2, 2, 0, 0, 2] .ans)))))) (Go.Sx.mkK sk12_0.1 (pt12_1 tt v0 v1 v2).frs.tail) (Go.Sx.mkC [] (pt12_1 tt v0 v1 v2) sk12_0.1 sk12_0.2) = (Go.Sx.BR (Go.Sx.ltI v1 (↑(List.length tt) : Int)) (Go.Sx.AN (Go.Sx.andB (Go.Sx.inB v1 (List.length tt)) (Go.Sx.andB (Go.Sx.inB v1 (List.length tt)) Bool.true)) (Go.Sx.Fact Try.prog [] 21 [.int .i64 (Go.Sx.wrapA Go.IntKind.i64 (Int.tdiv (Go.Sx.wrapA Go.IntKind.i64 (Go.Sx.byteI tt v1)) 16))] (.int .u8 (F21_0 (Go.Sx.wrapA Go.IntKind.i64 (Int.tdiv (Go.Sx.wrapA Go.IntKind.i64 (Go.Sx.byteI tt v1)) 16)))) ∧ (Go.Sx.Fact Try.prog [] 21 [.int .i64 (Int.tmod (Go.Sx.wrapA Go.IntKind.i64 (Go.Sx.byteI tt v1)) 16)] (.int .u8 (F21_0 (Int.tmod (Go.Sx.wrapA Go.IntKind.i64 (Go.Sx.byteI tt v1)) 16))) ∧ (Go.Sx.AN (Go.Sx.andB (Nat.blt v0 (v0 + 2)) (Go.Sx.andB (Nat.ble v0 1000000) (Nat.beq (List.length v2) (0 + v0 * 1)))) (Go.Sx.AN (Go.Sx.pureAVs (l12_10 tt v1 v2)) (Go.Sx.RunAt Try.prog Try.f12 [] vz sk12_0 (pt12_1 tt (v0 + 2) (Go.Sx.wrapA Go.IntKind.i64 (Int.add v1 1)) (l12_10 tt v1 v2)))))))) (Go.Sx.AN (Go.Sx.andB (Nat.blt v0 (v0 + 1)) (Go.Sx.andB (Nat.ble v0 1000000) (Nat.beq (List.length v2) (0 + v0 * 1)))) (Go.Sx.AN (Go.Sx.strOk (l12_11 v2) 0 (v0 + 1)) (vz = .tup [.str (Go.Sx.strOf (l12_11 v2) 0 (v0 + 1)), .int .i64 (.ofNat 0)])))) := by kernel_rfl
set_option maxHeartbeats 4000000 in
theorem runs12 (tt : List Nat)  : ∀ (n : Nat), (∀  (r : List Nat × Int), L12_0 tt n  = some r → Go.Sx.RunAt Try.prog Try.f12 [] (.tup [.str r.1, .int .i64 r.2]) sk12_0 (pt12_0 tt )) ∧ (∀ (v0 : Nat) (v1 : Int) (v2 : List Go.Sx.AV) (r : List Nat × Int), L12_1 tt n v0 v1 v2 = some r → Go.Sx.RunAt Try.prog Try.f12 [] (.tup [.str r.1, .int .i64 r.2]) sk12_0 (pt12_1 tt v0 v1 v2)) := by
  intro n
  induction n with
  | zero => exact ⟨(fun r h => by cases h), (fun _ _ _ r h => by cases h)⟩
  | succ n ih =>
    obtain ⟨ih0, ih1⟩ := ih
    exact ⟨(fun  r h => Go.Sx.wpS_run (L := []) (by kernel_rfl) (form12_0 n tt  (.tup [.str r.1, .int .i64 r.2])) ((Go.Sx.br_of (fun h1 => (Go.Sx.guard_of fun h2 => (fun h => ⟨(Go.Sx.and_t h2 (Go.Sx.and_t h2 rfl)), (fun h => ⟨fact21 (Go.Sx.wrapA Go.IntKind.i64 (Int.tdiv (Go.Sx.wrapA Go.IntKind.i64 (Go.Sx.byteI tt (0))) 16)), (fun h => ⟨fact21 (Int.tmod (Go.Sx.wrapA Go.IntKind.i64 (Go.Sx.byteI tt (0))) 16), (fun h => ⟨rfl, (fun h => ih1 2 1 (l12_9 tt) r h) h⟩) h⟩) h⟩) h⟩))) (fun h1 => (fun h => by cases h; rfl))) ((L12_0_succ tt n ).symm.trans h))), (fun v0 v1 v2 r h => Go.Sx.wpS_run (L := []) (by kernel_rfl) (form12_1 n tt v0 v1 v2 (.tup [.str r.1, .int .i64 r.2])) ((Go.Sx.br_of (fun h3 => (Go.Sx.guard_of fun h4 => (fun h => ⟨(Go.Sx.and_t h4 (Go.Sx.and_t h4 rfl)), (fun h => ⟨fact21 (Go.Sx.wrapA Go.IntKind.i64 (Int.tdiv (Go.Sx.wrapA Go.IntKind.i64 (Go.Sx.byteI tt v1)) 16)), (fun h => ⟨fact21 (Int.tmod (Go.Sx.wrapA Go.IntKind.i64 (Go.Sx.byteI tt v1)) 16), (Go.Sx.guard_of fun h5 => (Go.Sx.guard_of fun h6 => (Go.Sx.guard_of fun h7 => (fun h => ⟨(Go.Sx.and_t h5 (Go.Sx.and_t h6 h7)), (Go.Sx.guard_of fun h8 => (fun h => ⟨h8, (fun h => ih1 (v0 + 2) (Go.Sx.wrapA Go.IntKind.i64 (Int.add v1 1)) (l12_10 tt v1 v2) r h) h⟩)) h⟩)))) h⟩) h⟩) h⟩))) (fun h3 => (Go.Sx.guard_of fun h9 => (Go.Sx.guard_of fun h10 => (Go.Sx.guard_of fun h11 => (fun h => ⟨(Go.Sx.and_t h9 (Go.Sx.and_t h10 h11)), (Go.Sx.guard_of fun h12 => (fun h => ⟨h12, (fun h => by cases h; rfl) h⟩)) h⟩)))))) ((L12_1_succ tt n v0 v1 v2).symm.trans h)))⟩
noncomputable def F12 (n : Nat) (tt : List Nat) : Option (List Nat × Int) := (bif (c12_8 tt) then (some ([], 3)) else (L12_0 tt n ))
set_option maxHeartbeats 4000000 in
theorem form12 (n : Nat) (tt : List Nat) (vz : Go.Sx.AV) : Go.Sx.wpS Try.prog Try.f12 [] vz (.st [0, 0, 2, 2, 0, 0, 0, 0, 0, 2, 2, 2, 2, 2, 0, 0] (.br 10 (.st [0, 0, 0, 2, 2, 0, 0, 2, 0] .ans) (.st [0, 2, 0, 0, 0, 2, 0, 0, 0, 0, 0, 2, 0, 0, 0, 0] (.stop ⟨[[0, 4, 5]], [], []⟩ [] 0 [])))) [] (.code body12 (Go.Sx.startA [.str tt] Try.f12) (Go.Sx.laidHeap [])) = (Go.Sx.BR (c12_8 tt) (vz = .tup [.str [], .int .i64 (.ofNat 3)]) (Go.Sx.RunAt Try.prog Try.f12 [] vz sk12_0 (pt12_0 tt ))) := by kernel_rfl
set_option maxHeartbeats 4000000 in
theorem run12 (n : Nat) (tt : List Nat)  (r : List Nat × Int) (h : F12 n tt = some r) : Go.Sx.Run Try.prog Try.f12 [] (.tup [.str r.1, .int .i64 r.2]) [] (.code body12 (Go.Sx.startA [.str tt] Try.f12) (Go.Sx.laidHeap [])) := by
  obtain ⟨ih0, ih1⟩ := runs12 tt  n
  exact Go.Sx.wpS_run (L := []) (by kernel_rfl) (form12 n tt (.tup [.str r.1, .int .i64 r.2])) ((Go.Sx.br_of (fun h0 => (fun h => by cases h; rfl)) (fun h0 => (fun h => ih0  r h))) h)
noncomputable def F12_0 (n : Nat) (tt : List Nat) : List Nat := ((F12 n tt).getD default).1
noncomputable def F12_1 (n : Nat) (tt : List Nat) : Int := ((F12 n tt).getD default).2
theorem fact12 (n : Nat) (tt : List Nat)  (h : (F12 n tt).isSome = true) : Go.Sx.Fact Try.prog [] 12 [.str tt] (.tup [.str (F12_0 n tt), .int .i64 (F12_1 n tt)]) := Go.Sx.fact_of_run okayed (by kernel_rfl) (by kernel_rfl) Try.func12 body12_eq (run12 n tt  ((F12 n tt).getD default) (Go.Sx.getD_some h))
noncomputable def body14 : Go.Code := (Try.f14.body).getD .skip
theorem body14_eq : Try.f14.body = some body14 := Go.Sx.some_getD (by kernel_rfl)
noncomputable def sk14_0 : List Go.Sx.FC × Go.Sx.CC := (Go.Sx.skelAt Try.prog [.fn 14 [.r, .r, .r, .l, .r, .i, .h]] []).getD ([], .code .skip)
noncomputable def sk14_1 : List Go.Sx.FC × Go.Sx.CC := (Go.Sx.skelAt Try.prog [.fn 14 [.r, .r, .r, .l, .r, .i, .i, .r, .l, .i, .l, .r, .l, .r, .r, .l, .r, .i, .h]] []).getD ([], .code .skip)
noncomputable def c14_27 (v0 : (Nat)) : Bool := (Go.Sx.eqI (Int.tmod (↑v0 : Int) 2) 1)
noncomputable def l14_28 (v2 : (List Go.Sx.AV)) : List Go.Sx.AV := (v2 ++ [Go.Sx.AV.int Go.IntKind.i64 (0)])
noncomputable def l14_29 (tt : (List Nat)) (v1 : (Int)) (v2 : (List Go.Sx.AV)) : List Go.Sx.AV := (v2 ++ [Go.Sx.AV.int Go.IntKind.i64 (F25_0 (Go.Sx.byteI tt v1))])
noncomputable def l14_30 (v2 : (List Go.Sx.AV)) : List Go.Sx.AV := ([Go.Sx.AV.int Go.IntKind.u8 (Go.Sx.wrapA Go.IntKind.u8 (Go.Sx.wrapA Go.IntKind.i64 (Int.add (Go.Sx.wrapA Go.IntKind.i64 (Int.mul 16 (Go.Sx.intC v2 0))) (Go.Sx.intC v2 1))))])
noncomputable def t14_31 (v3 : (Int)) (v4 : (List Go.Sx.AV)) : Int := (Go.Sx.wrapA Go.IntKind.u8 (Go.Sx.wrapA Go.IntKind.i64 (Int.add (Go.Sx.wrapA Go.IntKind.i64 (Int.mul 16 (Go.Sx.intC v4 (Go.Sx.atI 0 v3 1)))) (Go.Sx.intC v4 (Go.Sx.atI 0 (Go.Sx.wrapA Go.IntKind.i64 (Int.add v3 1)) 1)))))
noncomputable def l14_32 (v3 : (Int)) (v4 : (List Go.Sx.AV)) (v5 : (List Go.Sx.AV)) : List Go.Sx.AV := (v5 ++ [Go.Sx.AV.int Go.IntKind.u8 (t14_31 v3 v4)])
noncomputable def pt14_0 (tt : List Nat) (v0 : Int) : Go.Sx.Pt := ⟨[(70, [(0, .str (tt)), (5, .nils), (6, .int .i64 (v0))])], [], 0, []⟩
noncomputable def pt14_1 (tt : List Nat) (v0 : Int) : Go.Sx.Pt := ⟨[(70, [(5, .nils), (6, .int .i64 (v0)), (7, .nils), (8, .int .i64 (.ofNat 0))])], [], 0, []⟩
noncomputable def pt14_2 (tt : List Nat) (v0 : Nat) (v1 : Int) (v2 : List Go.Sx.AV) : Go.Sx.Pt := ⟨[(70, [(0, .str (tt)), (5, .slc 1 0 (v0) (.upto 1 (v0))), (6, .int .i64 (v1))])], [], 2, [(1, .cells 3 (v2) true)]⟩
noncomputable def pt14_3 (tt : List Nat) (v0 : Nat) (v1 : Int) (v2 : List Go.Sx.AV) : Go.Sx.Pt := ⟨[(70, [(5, .slc 3 0 (v0) (.upto 1 (v0))), (6, .int .i64 (v1)), (7, .nils), (8, .int .i64 (.ofNat 0))])], [], 4, [(3, .cells 3 (v2) true)]⟩
noncomputable def pt14_4 (tt : List Nat) (v0 : Nat) (v1 : Int) (v2 : Nat) (v3 : Int) (v4 : List Go.Sx.AV) (v5 : List Go.Sx.AV) : Go.Sx.Pt := ⟨[(70, [(5, .slc 3 0 (v0) (.upto 1 (v0))), (6, .int .i64 (v1)), (7, .slc 19 0 (v2) (.upto 1 (v2))), (8, .int .i64 (v3))])], [], 20, [(3, .cells 3 (v4) true), (19, .cells 5 (v5) true)]⟩
mutual
noncomputable def L14_0 (tt : List Nat) : Nat → Int → Option (List Nat × Int × Int)
  | 0, _ => none
  | n + 1, v0 => (bif (Go.Sx.ltI v0 (↑(List.length tt) : Int)) then (bif (Go.Sx.inB v0 (List.length tt)) then (bif (Go.Sx.eqI (Go.Sx.byteI tt v0) 62) then (L14_1 tt n (v0)) else (bif (F24_0 (Go.Sx.byteI tt v0)) then (L14_0 tt n (Go.Sx.wrapA Go.IntKind.i64 (Int.add v0 1))) else (bif (Go.Sx.ltI (F25_0 (Go.Sx.byteI tt v0)) 0) then (some ([], 0, 5)) else (L14_2 tt n 1 (Go.Sx.wrapA Go.IntKind.i64 (Int.add v0 1)) [.int .i64 (F25_0 (Go.Sx.byteI tt v0))])))) else none) else (some ([], 0, 5)))
termination_by structural n => n
noncomputable def L14_1 (tt : List Nat) : Nat → Int → Option (List Nat × Int × Int)
  | 0, _ => none
  | n + 1, v0 => (some ([], (Go.Sx.wrapA Go.IntKind.i64 (Int.add v0 1)), 0))
noncomputable def L14_2 (tt : List Nat) : Nat → Nat → Int → (List Go.Sx.AV) → Option (List Nat × Int × Int)
  | 0, _, _, _ => none
  | n + 1, v0, v1, v2 => (bif (Go.Sx.ltI v1 (↑(List.length tt) : Int)) then (bif (Go.Sx.inB v1 (List.length tt)) then (bif (Go.Sx.eqI (Go.Sx.byteI tt v1) 62) then (bif (c14_27 v0) then (bif (Nat.blt v0 (v0 + 1)) then (bif (Nat.ble v0 1000000) then (bif (Nat.beq (List.length v2) (0 + v0 * 1)) then (bif (Go.Sx.pureAVs (l14_28 v2)) then (L14_3 tt n (v0 + 1) (v1) (l14_28 v2)) else none) else none) else none) else none) else (bif (Go.Sx.pureAVs v2) then (L14_3 tt n (v0) (v1) (v2)) else none)) else (bif (F24_0 (Go.Sx.byteI tt v1)) then (bif (Go.Sx.pureAVs v2) then (L14_2 tt n (v0) (Go.Sx.wrapA Go.IntKind.i64 (Int.add v1 1)) (v2)) else none) else (bif (Go.Sx.ltI (F25_0 (Go.Sx.byteI tt v1)) 0) then (some ([], 0, 5)) else (bif (Nat.blt v0 (v0 + 1)) then (bif (Nat.ble v0 1000000) then (bif (Nat.beq (List.length v2) (0 + v0 * 1)) then (bif (Go.Sx.pureAVs (l14_29 tt v1 v2)) then (L14_2 tt n (v0 + 1) (Go.Sx.wrapA Go.IntKind.i64 (Int.add v1 1)) (l14_29 tt v1 v2)) else none) else none) else none) else none)))) else none) else (some ([], 0, 5)))
termination_by structural n => n
noncomputable def L14_3 (tt : List Nat) : Nat → Nat → Int → (List Go.Sx.AV) → Option (List Nat × Int × Int)
  | 0, _, _, _ => none
  | n + 1, v0, v1, v2 => (bif (Go.Sx.ltI (0) (↑v0 : Int)) then (bif (Go.Sx.inB (0) v0) then (bif (Go.Sx.cellB v2 0 (Go.Sx.CK.int Go.IntKind.i64)) then (bif (Go.Sx.inB (1) v0) then (bif (Go.Sx.cellB v2 1 (Go.Sx.CK.int Go.IntKind.i64)) then (bif (Go.Sx.pureAVs v2) then (L14_4 tt n (v0) (v1) 1 2 (v2) (l14_30 v2)) else none) else none) else none) else none) else none) else (some ([], (Go.Sx.wrapA Go.IntKind.i64 (Int.add v1 1)), 0)))
noncomputable def L14_4 (tt : List Nat) : Nat → Nat → Int → Nat → Int → (List Go.Sx.AV) → (List Go.Sx.AV) → Option (List Nat × Int × Int)
  | 0, _, _, _, _, _, _ => none
  | n + 1, v0, v1, v2, v3, v4, v5 => (bif (Go.Sx.ltI v3 (↑v0 : Int)) then (bif (Go.Sx.inB v3 v0) then (bif (Go.Sx.cellB v4 (Go.Sx.atI 0 v3 1) (Go.Sx.CK.int Go.IntKind.i64)) then (bif (Go.Sx.inB (Go.Sx.wrapA Go.IntKind.i64 (Int.add v3 1)) v0) then (bif (Go.Sx.cellB v4 (Go.Sx.atI 0 (Go.Sx.wrapA Go.IntKind.i64 (Int.add v3 1)) 1) (Go.Sx.CK.int Go.IntKind.i64)) then (bif (Nat.blt v2 (v2 + 1)) then (bif (Nat.ble v2 1000000) then (bif (Nat.beq (List.length v5) (0 + v2 * 1)) then (bif (Go.Sx.pureAVs v4) then (bif (Go.Sx.pureAVs (l14_32 v3 v4 v5)) then (L14_4 tt n (v0) (v1) (v2 + 1) (Go.Sx.wrapA Go.IntKind.i64 (Int.add v3 2)) (v4) (l14_32 v3 v4 v5)) else none) else none) else none) else none) else none) else none) else none) else none) else none) else (bif (Go.Sx.strOk v5 0 v2) then (some ((Go.Sx.strOf v5 0 v2), (Go.Sx.wrapA Go.IntKind.i64 (Int.add v1 1)), 0)) else none))
termination_by structural n => n
end
theorem L14_0_succ (tt : List Nat) (n : Nat) (v0 : Int) : L14_0 tt (n + 1) v0 = (bif (Go.Sx.ltI v0 (↑(List.length tt) : Int)) then (bif (Go.Sx.inB v0 (List.length tt)) then (bif (Go.Sx.eqI (Go.Sx.byteI tt v0) 62) then (L14_1 tt n (v0)) else (bif (F24_0 (Go.Sx.byteI tt v0)) then (L14_0 tt n (Go.Sx.wrapA Go.IntKind.i64 (Int.add v0 1))) else (bif (Go.Sx.ltI (F25_0 (Go.Sx.byteI tt v0)) 0) then (some ([], 0, 5)) else (L14_2 tt n 1 (Go.Sx.wrapA Go.IntKind.i64 (Int.add v0 1)) [.int .i64 (F25_0 (Go.Sx.byteI tt v0))])))) else none) else (some ([], 0, 5))) := rfl
theorem L14_1_succ (tt : List Nat) (n : Nat) (v0 : Int) : L14_1 tt (n + 1) v0 = (some ([], (Go.Sx.wrapA Go.IntKind.i64 (Int.add v0 1)), 0)) := rfl
theorem L14_2_succ (tt : List Nat) (n : Nat) (v0 : Nat) (v1 : Int) (v2 : List Go.Sx.AV) : L14_2 tt (n + 1) v0 v1 v2 = (bif (Go.Sx.ltI v1 (↑(List.length tt) : Int)) then (bif (Go.Sx.inB v1 (List.length tt)) then (bif (Go.Sx.eqI (Go.Sx.byteI tt v1) 62) then (bif (c14_27 v0) then (bif (Nat.blt v0 (v0 + 1)) then (bif (Nat.ble v0 1000000) then (bif (Nat.beq (List.length v2) (0 + v0 * 1)) then (bif (Go.Sx.pureAVs (l14_28 v2)) then (L14_3 tt n (v0 + 1) (v1) (l14_28 v2)) else none) else none) else none) else none) else (bif (Go.Sx.pureAVs v2) then (L14_3 tt n (v0) (v1) (v2)) else none)) else (bif (F24_0 (Go.Sx.byteI tt v1)) then (bif (Go.Sx.pureAVs v2) then (L14_2 tt n (v0) (Go.Sx.wrapA Go.IntKind.i64 (Int.add v1 1)) (v2)) else none) else (bif (Go.Sx.ltI (F25_0 (Go.Sx.byteI tt v1)) 0) then (some ([], 0, 5)) else (bif (Nat.blt v0 (v0 + 1)) then (bif (Nat.ble v0 1000000) then (bif (Nat.beq (List.length v2) (0 + v0 * 1)) then (bif (Go.Sx.pureAVs (l14_29 tt v1 v2)) then (L14_2 tt n (v0 + 1) (Go.Sx.wrapA Go.IntKind.i64 (Int.add v1 1)) (l14_29 tt v1 v2)) else none) else none) else none) else none)))) else none) else (some ([], 0, 5))) := rfl
theorem L14_3_succ (tt : List Nat) (n : Nat) (v0 : Nat) (v1 : Int) (v2 : List Go.Sx.AV) : L14_3 tt (n + 1) v0 v1 v2 = (bif (Go.Sx.ltI (0) (↑v0 : Int)) then (bif (Go.Sx.inB (0) v0) then (bif (Go.Sx.cellB v2 0 (Go.Sx.CK.int Go.IntKind.i64)) then (bif (Go.Sx.inB (1) v0) then (bif (Go.Sx.cellB v2 1 (Go.Sx.CK.int Go.IntKind.i64)) then (bif (Go.Sx.pureAVs v2) then (L14_4 tt n (v0) (v1) 1 2 (v2) (l14_30 v2)) else none) else none) else none) else none) else none) else (some ([], (Go.Sx.wrapA Go.IntKind.i64 (Int.add v1 1)), 0))) := rfl
theorem L14_4_succ (tt : List Nat) (n : Nat) (v0 : Nat) (v1 : Int) (v2 : Nat) (v3 : Int) (v4 : List Go.Sx.AV) (v5 : List Go.Sx.AV) : L14_4 tt (n + 1) v0 v1 v2 v3 v4 v5 = (bif (Go.Sx.ltI v3 (↑v0 : Int)) then (bif (Go.Sx.inB v3 v0) then (bif (Go.Sx.cellB v4 (Go.Sx.atI 0 v3 1) (Go.Sx.CK.int Go.IntKind.i64)) then (bif (Go.Sx.inB (Go.Sx.wrapA Go.IntKind.i64 (Int.add v3 1)) v0) then (bif (Go.Sx.cellB v4 (Go.Sx.atI 0 (Go.Sx.wrapA Go.IntKind.i64 (Int.add v3 1)) 1) (Go.Sx.CK.int Go.IntKind.i64)) then (bif (Nat.blt v2 (v2 + 1)) then (bif (Nat.ble v2 1000000) then (bif (Nat.beq (List.length v5) (0 + v2 * 1)) then (bif (Go.Sx.pureAVs v4) then (bif (Go.Sx.pureAVs (l14_32 v3 v4 v5)) then (L14_4 tt n (v0) (v1) (v2 + 1) (Go.Sx.wrapA Go.IntKind.i64 (Int.add v3 2)) (v4) (l14_32 v3 v4 v5)) else none) else none) else none) else none) else none) else none) else none) else none) else none) else (bif (Go.Sx.strOk v5 0 v2) then (some ((Go.Sx.strOf v5 0 v2), (Go.Sx.wrapA Go.IntKind.i64 (Int.add v1 1)), 0)) else none)) := rfl
set_option maxHeartbeats 4000000 in
theorem form14_0 (n : Nat) (tt : List Nat) (v0 : Int) (vz : Go.Sx.AV) : Go.Sx.wpS Try.prog Try.f14 [] vz (.st [0, 0, 0, 0, 2, 2, 2, 2, 0, 0] (.br 15 (.st [0, 2, 0, 0, 0, 0, 0, 0, 2, 2] (.sp 2 (.st [2, 0, 0] (.br 21 (.st [0, 0, 0, 0, 2, 2, 2, 2, 0, 0, 0, 2, 0, 0, 0, 2, 0, 0, 0, 0, 0, 2, 0, 0, 0, 0] (.stop ⟨[[5, 6, 7, 8]], [], []⟩ [] 0 [])) (.st [0, 2, 0, 0, 0, 0, 2, 2] (.sp 2 (.use [] (.bool (F24_0 (Go.Sx.byteI tt v0))) (.st [0, 0] (.br 57 (.st [0, 2, 0, 0, 0, 0, 2, 2, 2, 0, 0] (.stop ⟨[[0, 5, 6]], [], []⟩ [] 0 [])) (.st [0, 2, 0, 0, 0, 0, 2, 2] (.sp 2 (.use [] (.int .i64 (F25_0 (Go.Sx.byteI tt v0))) (.st [2, 0, 0] (.br 62 (.st [0, 0, 0, 2, 2, 2, 0, 0, 2, 0, 0, 0, 0, 0, 0] .ans) (.st [0, 2, 0, 0, 2, 2, 2] (.sp 2 (.use [] (.int .i64 (F25_0 (Go.Sx.byteI tt v0))) (.st [2, 2, 2, 0, 0, 0, 0, 2, 2, 2, 0, 0] (.stop ⟨[[0, 5, 6]], [], [1]⟩ [(1, 1)] 2 [1]))))))))))))))))))) (.st [0, 2, 0, 0, 0, 0, 0, 0, 2, 2, 2, 0, 0, 2] .ans))) (Go.Sx.mkK sk14_0.1 (pt14_0 tt v0).frs.tail) (Go.Sx.mkC [] (pt14_0 tt v0) sk14_0.1 sk14_0.2) = (Go.Sx.BR (Go.Sx.ltI v0 (↑(List.length tt) : Int)) (Go.Sx.AN (Go.Sx.inB v0 (List.length tt)) (Go.Sx.BR (Go.Sx.eqI (Go.Sx.byteI tt v0) 62) (Go.Sx.RunAt Try.prog Try.f14 [] vz sk14_1 (pt14_1 tt (v0))) (Go.Sx.AN (Go.Sx.inB v0 (List.length tt)) (Go.Sx.Fact Try.prog [] 24 [.int .u8 (Go.Sx.byteI tt v0)] (.bool (F24_0 (Go.Sx.byteI tt v0))) ∧ (Go.Sx.BR (F24_0 (Go.Sx.byteI tt v0)) (Go.Sx.RunAt Try.prog Try.f14 [] vz sk14_0 (pt14_0 tt (Go.Sx.wrapA Go.IntKind.i64 (Int.add v0 1)))) (Go.Sx.AN (Go.Sx.inB v0 (List.length tt)) (Go.Sx.Fact Try.prog [] 25 [.int .u8 (Go.Sx.byteI tt v0)] (.int .i64 (F25_0 (Go.Sx.byteI tt v0))) ∧ (Go.Sx.BR (Go.Sx.ltI (F25_0 (Go.Sx.byteI tt v0)) 0) (vz = .tup [.str [], .int .i64 (.ofNat 0), .int .i64 (.ofNat 5)]) (Go.Sx.AN (Go.Sx.inB v0 (List.length tt)) (Go.Sx.Fact Try.prog [] 25 [.int .u8 (Go.Sx.byteI tt v0)] (.int .i64 (F25_0 (Go.Sx.byteI tt v0))) ∧ (Go.Sx.AN (Go.Sx.pureAVs [Go.Sx.AV.int Go.IntKind.i64 (F25_0 (Go.Sx.byteI tt v0))]) (Go.Sx.RunAt Try.prog Try.f14 [] vz sk14_0 (pt14_2 tt 1 (Go.Sx.wrapA Go.IntKind.i64 (Int.add v0 1)) [.int .i64 (F25_0 (Go.Sx.byteI tt v0))]))))))))))))) (vz = .tup [.str [], .int .i64 (.ofNat 0), .int .i64 (.ofNat 5)])) := by kernel_rfl
set_option maxHeartbeats 4000000 in
theorem form14_1 (n : Nat) (tt : List Nat) (v0 : Int) (vz : Go.Sx.AV) : Go.Sx.wpS Try.prog Try.f14 [] vz (.st [0, 0, 0, 0, 2, 2, 2, 2, 0, 0, 0, 2, 0, 0, 0, 0, 0, 0, 2, 2, 2, 2, 2, 2, 2, 0, 0, 2, 0, 0, 0, 0, 0, 0] .ans) (Go.Sx.mkK sk14_1.1 (pt14_1 tt v0).frs.tail) (Go.Sx.mkC [] (pt14_1 tt v0) sk14_1.1 sk14_1.2) = (vz = .tup [.str [], .int .i64 (Go.Sx.wrapA Go.IntKind.i64 (Int.add v0 1)), .int .i64 (.ofNat 0)]) := by kernel_rfl
set_option maxHeartbeats 4000000 in
theorem form14_2 (n : Nat) (tt : List Nat) (v0 : Nat) (v1 : Int) (v2 : List Go.Sx.AV) (vz : Go.Sx.AV) : Go.Sx.wpS Try.prog Try.f14 [] vz (.st [0, 0, 0, 0, 2, 2, 2, 2, 0, 0] (.br 15 (.st [0, 2, 0, 0, 0, 0, 0, 0, 2, 2] (.sp 2 (.st [2, 0, 0] (.br 21 (.st [0, 0, 0, 0, 2, 2, 2, 2, 0, 0] (.br 25 (.st [0, 0, 2, 2] (.sp 2 (.st [2, 0, 0, 0, 0, 2, 0, 0, 0, 0, 0, 2, 0, 0, 0, 0] (.stop ⟨[[5, 6, 7, 8]], [], [3]⟩ [(3, 3)] 4 [3])))) (.st [0, 2, 0, 0, 0, 2, 0, 0, 0, 0, 0, 2, 0, 0, 0, 0] (.stop ⟨[[5, 6, 7, 8]], [], [1]⟩ [(1, 3)] 4 [1])))) (.st [0, 2, 0, 0, 0, 0, 2, 2] (.sp 2 (.use [] (.bool (F24_0 (Go.Sx.byteI tt v1))) (.st [0, 0] (.br 57 (.st [0, 2, 0, 0, 0, 0, 2, 2, 2, 0, 0] (.stop ⟨[[0, 5, 6]], [], [1]⟩ [(1, 1)] 2 [1])) (.st [0, 2, 0, 0, 0, 0, 2, 2] (.sp 2 (.use [] (.int .i64 (F25_0 (Go.Sx.byteI tt v1))) (.st [2, 0, 0] (.br 62 (.st [0, 0, 0, 2, 2, 2, 0, 0, 2, 0, 0, 0, 0, 0, 0] .ans) (.st [0, 2, 0, 0, 2, 2, 2] (.sp 2 (.use [] (.int .i64 (F25_0 (Go.Sx.byteI tt v1))) (.st [2] (.sp 2 (.st [2, 0, 0, 0, 0, 2, 2, 2, 0, 0] (.stop ⟨[[0, 5, 6]], [], [3]⟩ [(3, 1)] 2 [3]))))))))))))))))))))) (.st [0, 2, 0, 0, 0, 0, 0, 0, 2, 2, 2, 0, 0, 2] .ans))) (Go.Sx.mkK sk14_0.1 (pt14_2 tt v0 v1 v2).frs.tail) (Go.Sx.mkC [] (pt14_2 tt v0 v1 v2) sk14_0.1 sk14_0.2) = (Go.Sx.BR (Go.Sx.ltI v1 (↑(List.length tt) : Int)) (Go.Sx.AN (Go.Sx.inB v1 (List.length tt)) (Go.Sx.BR (Go.Sx.eqI (Go.Sx.byteI tt v1) 62) (Go.Sx.BR (c14_27 v0) (Go.Sx.AN (Go.Sx.andB (Nat.blt v0 (v0 + 1)) (Go.Sx.andB (Nat.ble v0 1000000) (Nat.beq (List.length v2) (0 + v0 * 1)))) (Go.Sx.AN (Go.Sx.pureAVs (l14_28 v2)) (Go.Sx.RunAt Try.prog Try.f14 [] vz sk14_1 (pt14_3 tt (v0 + 1) (v1) (l14_28 v2))))) (Go.Sx.AN (Go.Sx.pureAVs v2) (Go.Sx.RunAt Try.prog Try.f14 [] vz sk14_1 (pt14_3 tt (v0) (v1) (v2))))) (Go.Sx.AN (Go.Sx.inB v1 (List.length tt)) (Go.Sx.Fact Try.prog [] 24 [.int .u8 (Go.Sx.byteI tt v1)] (.bool (F24_0 (Go.Sx.byteI tt v1))) ∧ (Go.Sx.BR (F24_0 (Go.Sx.byteI tt v1)) (Go.Sx.AN (Go.Sx.pureAVs v2) (Go.Sx.RunAt Try.prog Try.f14 [] vz sk14_0 (pt14_2 tt (v0) (Go.Sx.wrapA Go.IntKind.i64 (Int.add v1 1)) (v2)))) (Go.Sx.AN (Go.Sx.inB v1 (List.length tt)) (Go.Sx.Fact Try.prog [] 25 [.int .u8 (Go.Sx.byteI tt v1)] (.int .i64 (F25_0 (Go.Sx.byteI tt v1))) ∧ (Go.Sx.BR (Go.Sx.ltI (F25_0 (Go.Sx.byteI tt v1)) 0) (vz = .tup [.str [], .int .i64 (.ofNat 0), .int .i64 (.ofNat 5)]) (Go.Sx.AN (Go.Sx.inB v1 (List.length tt)) (Go.Sx.Fact Try.prog [] 25 [.int .u8 (Go.Sx.byteI tt v1)] (.int .i64 (F25_0 (Go.Sx.byteI tt v1))) ∧ (Go.Sx.AN (Go.Sx.andB (Nat.blt v0 (v0 + 1)) (Go.Sx.andB (Nat.ble v0 1000000) (Nat.beq (List.length v2) (0 + v0 * 1)))) (Go.Sx.AN (Go.Sx.pureAVs (l14_29 tt v1 v2)) (Go.Sx.RunAt Try.prog Try.f14 [] vz sk14_0 (pt14_2 tt (v0 + 1) (Go.Sx.wrapA Go.IntKind.i64 (Int.add v1 1)) (l14_29 tt v1 v2))))))))))))))) (vz = .tup [.str [], .int .i64 (.ofNat 0), .int .i64 (.ofNat 5)])) := by kernel_rfl
set_option maxHeartbeats 4000000 in
theorem form14_3 (n : Nat) (tt : List Nat) (v0 : Nat) (v1 : Int) (v2 : List Go.Sx.AV) (vz : Go.Sx.AV) : Go.Sx.wpS Try.prog Try.f14 [] vz (.st [0, 0, 0, 0, 2, 2, 2, 2, 0, 0] (.br 32 (.st [0, 2, 0, 0, 0] (.dr [.run, .run, .run, .sp 0, .sp 0, .run, .run, .run, .run, .sp 0, .sp 0, .run, .run, .run] (.st [2, 2, 0, 0, 0, 0, 2, 2, 2, 0, 0] (.stop ⟨[[5, 6, 7, 8]], [], [3, 19]⟩ [(3, 3), (19, 19)] 20 [3, 19])))) (.st [0, 2, 0, 0, 0, 0, 0, 0, 2, 2, 2, 2, 2, 2, 2, 0, 0, 2, 0, 0, 0, 0, 0, 0] .ans))) (Go.Sx.mkK sk14_1.1 (pt14_3 tt v0 v1 v2).frs.tail) (Go.Sx.mkC [] (pt14_3 tt v0 v1 v2) sk14_1.1 sk14_1.2) = (Go.Sx.BR (Go.Sx.ltI (0) (↑v0 : Int)) (Go.Sx.AN (Go.Sx.andB (Go.Sx.inB (0) v0) (Go.Sx.andB (Go.Sx.cellB v2 0 (Go.Sx.CK.int Go.IntKind.i64)) (Go.Sx.andB (Go.Sx.inB (1) v0) (Go.Sx.andB (Go.Sx.cellB v2 1 (Go.Sx.CK.int Go.IntKind.i64)) Bool.true)))) (Go.Sx.AN (Go.Sx.pureAVs v2) (Go.Sx.AN (Go.Sx.pureAVs (l14_30 v2)) (Go.Sx.RunAt Try.prog Try.f14 [] vz sk14_1 (pt14_4 tt (v0) (v1) 1 2 (v2) (l14_30 v2)))))) (vz = .tup [.str [], .int .i64 (Go.Sx.wrapA Go.IntKind.i64 (Int.add v1 1)), .int .i64 (.ofNat 0)])) := by kernel_rfl
set_option maxHeartbeats 4000000 in
theorem form14_4 (n : Nat) (tt : List Nat) (v0 : Nat) (v1 : Int) (v2 : Nat) (v3 : Int) (v4 : List Go.Sx.AV) (v5 : List Go.Sx.AV) (vz : Go.Sx.AV) : Go.Sx.wpS Try.prog Try.f14 [] vz (.st [0, 0, 0, 0, 2, 2, 2, 2, 0, 0] (.br 32 (.st [0, 2, 0, 0, 0] (.dr [.run, .run, .run, .sp 0, .sp 0, .run, .run, .run, .run, .sp 0, .sp 0, .run, .run, .run] (.sp 2 (.st [2, 0, 0, 0, 0, 2, 2, 2, 0, 0] (.stop ⟨[[5, 6, 7, 8]], [], [3, 35]⟩ [(3, 3), (35, 19)] 20 [3, 35]))))) (.st [0, 2, 0, 0, 0, 0, 0, 0, 2] (.sp 2 (.st [2, 2, 2, 2, 2, 0, 0, 2, 0, 0, 0, 0, 0, 0] .ans))))) (Go.Sx.mkK sk14_1.1 (pt14_4 tt v0 v1 v2 v3 v4 v5).frs.tail) (Go.Sx.mkC [] (pt14_4 tt v0 v1 v2 v3 v4 v5) sk14_1.1 sk14_1.2) = (Go.Sx.BR (Go.Sx.ltI v3 (↑v0 : Int)) (Go.Sx.AN (Go.Sx.andB (Go.Sx.inB v3 v0) (Go.Sx.andB (Go.Sx.cellB v4 (Go.Sx.atI 0 v3 1) (Go.Sx.CK.int Go.IntKind.i64)) (Go.Sx.andB (Go.Sx.inB (Go.Sx.wrapA Go.IntKind.i64 (Int.add v3 1)) v0) (Go.Sx.andB (Go.Sx.cellB v4 (Go.Sx.atI 0 (Go.Sx.wrapA Go.IntKind.i64 (Int.add v3 1)) 1) (Go.Sx.CK.int Go.IntKind.i64)) Bool.true)))) (Go.Sx.AN (Go.Sx.andB (Nat.blt v2 (v2 + 1)) (Go.Sx.andB (Nat.ble v2 1000000) (Nat.beq (List.length v5) (0 + v2 * 1)))) (Go.Sx.AN (Go.Sx.pureAVs v4) (Go.Sx.AN (Go.Sx.pureAVs (l14_32 v3 v4 v5)) (Go.Sx.RunAt Try.prog Try.f14 [] vz sk14_1 (pt14_4 tt (v0) (v1) (v2 + 1) (Go.Sx.wrapA Go.IntKind.i64 (Int.add v3 2)) (v4) (l14_32 v3 v4 v5))))))) (Go.Sx.AN (Go.Sx.strOk v5 0 v2) (vz = .tup [.str (Go.Sx.strOf v5 0 v2), .int .i64 (Go.Sx.wrapA Go.IntKind.i64 (Int.add v1 1)), .int .i64 (.ofNat 0)]))) := by kernel_rfl
set_option maxHeartbeats 4000000 in
theorem runs14 (tt : List Nat)  : ∀ (n : Nat), (∀ (v0 : Int) (r : List Nat × Int × Int), L14_0 tt n v0 = some r → Go.Sx.RunAt Try.prog Try.f14 [] (.tup [.str r.1, .int .i64 r.2.1, .int .i64 r.2.2]) sk14_0 (pt14_0 tt v0)) ∧ (∀ (v0 : Int) (r : List Nat × Int × Int), L14_1 tt n v0 = some r → Go.Sx.RunAt Try.prog Try.f14 [] (.tup [.str r.1, .int .i64 r.2.1, .int .i64 r.2.2]) sk14_1 (pt14_1 tt v0)) ∧ (∀ (v0 : Nat) (v1 : Int) (v2 : List Go.Sx.AV) (r : List Nat × Int × Int), L14_2 tt n v0 v1 v2 = some r → Go.Sx.RunAt Try.prog Try.f14 [] (.tup [.str r.1, .int .i64 r.2.1, .int .i64 r.2.2]) sk14_0 (pt14_2 tt v0 v1 v2)) ∧ (∀ (v0 : Nat) (v1 : Int) (v2 : List Go.Sx.AV) (r : List Nat × Int × Int), L14_3 tt n v0 v1 v2 = some r → Go.Sx.RunAt Try.prog Try.f14 [] (.tup [.str r.1, .int .i64 r.2.1, .int .i64 r.2.2]) sk14_1 (pt14_3 tt v0 v1 v2)) ∧ (∀ (v0 : Nat) (v1 : Int) (v2 : Nat) (v3 : Int) (v4 : List Go.Sx.AV) (v5 : List Go.Sx.AV) (r : List Nat × Int × Int), L14_4 tt n v0 v1 v2 v3 v4 v5 = some r → Go.Sx.RunAt Try.prog Try.f14 [] (.tup [.str r.1, .int .i64 r.2.1, .int .i64 r.2.2]) sk14_1 (pt14_4 tt v0 v1 v2 v3 v4 v5)) := by
  intro n
  induction n with
  | zero => exact ⟨(fun _ r h => by cases h), (fun _ r h => by cases h), (fun _ _ _ r h => by cases h), (fun _ _ _ r h => by cases h), (fun _ _ _ _ _ _ r h => by cases h)⟩
  | succ n ih =>
    obtain ⟨ih0, ih1, ih2, ih3, ih4⟩ := ih
    exact ⟨(fun v0 r h => Go.Sx.wpS_run (L := []) (by kernel_rfl) (form14_0 n tt v0 (.tup [.str r.1, .int .i64 r.2.1, .int .i64 r.2.2])) ((Go.Sx.br_of (fun h1 => (Go.Sx.guard_of fun h2 => (fun h => ⟨h2, (Go.Sx.br_of (fun h3 => (fun h => ih1 (v0) r h)) (fun h3 => (fun h => ⟨h2, (fun h => ⟨fact24 (Go.Sx.byteI tt v0), (Go.Sx.br_of (fun h4 => (fun h => ih0 (Go.Sx.wrapA Go.IntKind.i64 (Int.add v0 1)) r h)) (fun h4 => (fun h => ⟨h2, (fun h => ⟨fact25 (Go.Sx.byteI tt v0), (Go.Sx.br_of (fun h5 => (fun h => by cases h; rfl)) (fun h5 => (fun h => ⟨h2, (fun h => ⟨fact25 (Go.Sx.byteI tt v0), (fun h => ⟨rfl, (fun h => ih2 1 (Go.Sx.wrapA Go.IntKind.i64 (Int.add v0 1)) [.int .i64 (F25_0 (Go.Sx.byteI tt v0))] r h) h⟩) h⟩) h⟩))) h⟩) h⟩))) h⟩) h⟩))) h⟩))) (fun h1 => (fun h => by cases h; rfl))) ((L14_0_succ tt n v0).symm.trans h))), (fun v0 r h => Go.Sx.wpS_run (L := []) (by kernel_rfl) (form14_1 n tt v0 (.tup [.str r.1, .int .i64 r.2.1, .int .i64 r.2.2])) ((fun h => by cases h; rfl) ((L14_1_succ tt n v0).symm.trans h))), (fun v0 v1 v2 r h => Go.Sx.wpS_run (L := []) (by kernel_rfl) (form14_2 n tt v0 v1 v2 (.tup [.str r.1, .int .i64 r.2.1, .int .i64 r.2.2])) ((Go.Sx.br_of (fun h6 => (Go.Sx.guard_of fun h7 => (fun h => ⟨h7, (Go.Sx.br_of (fun h8 => (Go.Sx.br_of (fun h9 => (Go.Sx.guard_of fun h10 => (Go.Sx.guard_of fun h11 => (Go.Sx.guard_of fun h12 => (fun h => ⟨(Go.Sx.and_t h10 (Go.Sx.and_t h11 h12)), (Go.Sx.guard_of fun h13 => (fun h => ⟨h13, (fun h => ih3 (v0 + 1) (v1) (l14_28 v2) r h) h⟩)) h⟩))))) (fun h9 => (Go.Sx.guard_of fun h14 => (fun h => ⟨h14, (fun h => ih3 (v0) (v1) (v2) r h) h⟩))))) (fun h8 => (fun h => ⟨h7, (fun h => ⟨fact24 (Go.Sx.byteI tt v1), (Go.Sx.br_of (fun h15 => (Go.Sx.guard_of fun h16 => (fun h => ⟨h16, (fun h => ih2 (v0) (Go.Sx.wrapA Go.IntKind.i64 (Int.add v1 1)) (v2) r h) h⟩))) (fun h15 => (fun h => ⟨h7, (fun h => ⟨fact25 (Go.Sx.byteI tt v1), (Go.Sx.br_of (fun h17 => (fun h => by cases h; rfl)) (fun h17 => (fun h => ⟨h7, (fun h => ⟨fact25 (Go.Sx.byteI tt v1), (Go.Sx.guard_of fun h18 => (Go.Sx.guard_of fun h19 => (Go.Sx.guard_of fun h20 => (fun h => ⟨(Go.Sx.and_t h18 (Go.Sx.and_t h19 h20)), (Go.Sx.guard_of fun h21 => (fun h => ⟨h21, (fun h => ih2 (v0 + 1) (Go.Sx.wrapA Go.IntKind.i64 (Int.add v1 1)) (l14_29 tt v1 v2) r h) h⟩)) h⟩)))) h⟩) h⟩))) h⟩) h⟩))) h⟩) h⟩))) h⟩))) (fun h6 => (fun h => by cases h; rfl))) ((L14_2_succ tt n v0 v1 v2).symm.trans h))), (fun v0 v1 v2 r h => Go.Sx.wpS_run (L := []) (by kernel_rfl) (form14_3 n tt v0 v1 v2 (.tup [.str r.1, .int .i64 r.2.1, .int .i64 r.2.2])) ((Go.Sx.br_of (fun h22 => (Go.Sx.guard_of fun h23 => (Go.Sx.guard_of fun h24 => (Go.Sx.guard_of fun h25 => (Go.Sx.guard_of fun h26 => (fun h => ⟨(Go.Sx.and_t h23 (Go.Sx.and_t h24 (Go.Sx.and_t h25 (Go.Sx.and_t h26 rfl)))), (Go.Sx.guard_of fun h27 => (fun h => ⟨h27, (fun h => ⟨rfl, (fun h => ih4 (v0) (v1) 1 2 (v2) (l14_30 v2) r h) h⟩) h⟩)) h⟩)))))) (fun h22 => (fun h => by cases h; rfl))) ((L14_3_succ tt n v0 v1 v2).symm.trans h))), (fun v0 v1 v2 v3 v4 v5 r h => Go.Sx.wpS_run (L := []) (by kernel_rfl) (form14_4 n tt v0 v1 v2 v3 v4 v5 (.tup [.str r.1, .int .i64 r.2.1, .int .i64 r.2.2])) ((Go.Sx.br_of (fun h28 => (Go.Sx.guard_of fun h29 => (Go.Sx.guard_of fun h30 => (Go.Sx.guard_of fun h31 => (Go.Sx.guard_of fun h32 => (fun h => ⟨(Go.Sx.and_t h29 (Go.Sx.and_t h30 (Go.Sx.and_t h31 (Go.Sx.and_t h32 rfl)))), (Go.Sx.guard_of fun h33 => (Go.Sx.guard_of fun h34 => (Go.Sx.guard_of fun h35 => (fun h => ⟨(Go.Sx.and_t h33 (Go.Sx.and_t h34 h35)), (Go.Sx.guard_of fun h36 => (fun h => ⟨h36, (Go.Sx.guard_of fun h37 => (fun h => ⟨h37, (fun h => ih4 (v0) (v1) (v2 + 1) (Go.Sx.wrapA Go.IntKind.i64 (Int.add v3 2)) (v4) (l14_32 v3 v4 v5) r h) h⟩)) h⟩)) h⟩)))) h⟩)))))) (fun h28 => (Go.Sx.guard_of fun h38 => (fun h => ⟨h38, (fun h => by cases h; rfl) h⟩)))) ((L14_4_succ tt n v0 v1 v2 v3 v4 v5).symm.trans h)))⟩
noncomputable def F14 (n : Nat) (tt : List Nat) : Option (List Nat × Int × Int) := (bif (Go.Sx.ltI 65536 (↑(List.length tt) : Int)) then (some ([], 0, 3)) else (L14_0 tt n 0))
set_option maxHeartbeats 4000000 in
theorem form14 (n : Nat) (tt : List Nat) (vz : Go.Sx.AV) : Go.Sx.wpS Try.prog Try.f14 [] vz (.st [0, 0, 2, 2, 2, 0, 0, 0, 0, 0, 2, 2, 2, 0, 0] (.br 11 (.st [0, 0, 0, 2, 2, 2, 0, 0, 2, 0] .ans) (.st [0, 2, 0, 0, 0, 2, 0, 0, 0, 0, 0, 2, 0, 0, 0, 0] (.stop ⟨[[0, 5, 6]], [], []⟩ [] 0 [])))) [] (.code body14 (Go.Sx.startA [.str tt] Try.f14) (Go.Sx.laidHeap [])) = (Go.Sx.BR (Go.Sx.ltI 65536 (↑(List.length tt) : Int)) (vz = .tup [.str [], .int .i64 (.ofNat 0), .int .i64 (.ofNat 3)]) (Go.Sx.RunAt Try.prog Try.f14 [] vz sk14_0 (pt14_0 tt 0))) := by kernel_rfl
set_option maxHeartbeats 4000000 in
theorem run14 (n : Nat) (tt : List Nat)  (r : List Nat × Int × Int) (h : F14 n tt = some r) : Go.Sx.Run Try.prog Try.f14 [] (.tup [.str r.1, .int .i64 r.2.1, .int .i64 r.2.2]) [] (.code body14 (Go.Sx.startA [.str tt] Try.f14) (Go.Sx.laidHeap [])) := by
  obtain ⟨ih0, ih1, ih2, ih3, ih4⟩ := runs14 tt  n
  exact Go.Sx.wpS_run (L := []) (by kernel_rfl) (form14 n tt (.tup [.str r.1, .int .i64 r.2.1, .int .i64 r.2.2])) ((Go.Sx.br_of (fun h0 => (fun h => by cases h; rfl)) (fun h0 => (fun h => ih0 0 r h))) h)
noncomputable def F14_0 (n : Nat) (tt : List Nat) : List Nat := ((F14 n tt).getD default).1
noncomputable def F14_1 (n : Nat) (tt : List Nat) : Int := ((F14 n tt).getD default).2.1
noncomputable def F14_2 (n : Nat) (tt : List Nat) : Int := ((F14 n tt).getD default).2.2
theorem fact14 (n : Nat) (tt : List Nat)  (h : (F14 n tt).isSome = true) : Go.Sx.Fact Try.prog [] 14 [.str tt] (.tup [.str (F14_0 n tt), .int .i64 (F14_1 n tt), .int .i64 (F14_2 n tt)]) := Go.Sx.fact_of_run okayed (by kernel_rfl) (by kernel_rfl) Try.func14 body14_eq (run14 n tt  ((F14 n tt).getD default) (Go.Sx.getD_some h))
noncomputable def body13 : Go.Code := (Try.f13.body).getD .skip
theorem body13_eq : Try.f13.body = some body13 := Go.Sx.some_getD (by kernel_rfl)
noncomputable def sk13_0 : List Go.Sx.FC × Go.Sx.CC := (Go.Sx.skelAt Try.prog [.fn 13 [.r, .l, .op 1], .fn 22 [.r, .i, .r, .r, .r, .r, .r, .r, .l, .r, .i, .rg 7 false], .fn 52 [.r, .i, .h]] []).getD ([], .code .skip)
noncomputable def l13_9 (tt : (List Nat)) (v0 : (Int)) (v2 : (Int)) : List Go.Sx.AV := ([Go.Sx.AV.int Go.IntKind.u8 (Go.Sx.wrapA Go.IntKind.u8 (Go.IntKind.wrap Go.IntKind.i64 (↑(BitVec.toNat (BitVec.ofInt 64 (Go.Sx.wrapA Go.IntKind.i64 (Int.mul v2 (16))) ||| BitVec.ofInt 64 (F43_0 (Go.Sx.byteI tt v0)))) : Int)))])
noncomputable def l13_10 (tt : (List Nat)) (v0 : (Int)) (v2 : (Int)) : List Go.Sx.AV := ([Go.Sx.AV.int Go.IntKind.u8 (Go.Sx.wrapA Go.IntKind.u8 (Go.IntKind.wrap Go.IntKind.i64 (↑(BitVec.toNat (BitVec.ofInt 64 (Go.Sx.wrapA Go.IntKind.i64 (Int.mul v2 (16))) ||| BitVec.ofInt 64 (F43_0 (Go.Sx.byteI tt v0)))) : Int)))])
noncomputable def l13_11 (v3 : (Int)) (v4 : (List Go.Sx.AV)) : List Go.Sx.AV := (v4 ++ [Go.Sx.AV.int Go.IntKind.u8 (Go.Sx.wrapA Go.IntKind.u8 (Go.Sx.wrapA Go.IntKind.i64 (Int.mul v3 (16))))])
noncomputable def c13_12 (v1 : (Nat)) : Bool := (Go.Sx.ltI 65536 (↑(v1 + 1) : Int))
noncomputable def t13_13 (tt : (List Nat)) (v0 : (Int)) (v3 : (Int)) : Int := (Go.Sx.wrapA Go.IntKind.u8 (Go.IntKind.wrap Go.IntKind.i64 (↑(BitVec.toNat (BitVec.ofInt 64 (Go.Sx.wrapA Go.IntKind.i64 (Int.mul v3 (16))) ||| BitVec.ofInt 64 (F43_0 (Go.Sx.byteI tt v0)))) : Int)))
noncomputable def l13_14 (tt : (List Nat)) (v0 : (Int)) (v3 : (Int)) (v4 : (List Go.Sx.AV)) : List Go.Sx.AV := (v4 ++ [Go.Sx.AV.int Go.IntKind.u8 (t13_13 tt v0 v3)])
noncomputable def pt13_0 (tt : List Nat) (v0 : Int) (v1 : Int) (v2 : Int) : Go.Sx.Pt := ⟨[(27, [(0, .fn (.yield 7) [] []), (1, .ptr 6 0), (5, .int .i64 ((↑(List.length tt) : Int))), (6, .int .i64 (v0))]), (46, [(4, .str []), (5, .int .i64 (.ofNat 0)), (6, .int .i64 (.ofNat 0)), (7, .ptr 2 0), (10, .ptr 5 0)]), (10, [])], [(46, [(3, .ptr 0 0), (8, .ptr 3 0), (9, .ptr 4 0), (10, .ptr 5 0)])], 8, [(6, .cells 9 [.str (tt)] false), (2, .cells 32 [.slc 1 0 0 (.exact 0)] false), (5, .cells 3 [.int .i64 (.negSucc 0)] false), (0, .cells 43 [.fn (.func 23) [] []] false), (3, .cells 72 [.fn (.func 41) [] [.ptr 2 0]] false), (4, .cells 42 [.int .i64 (v1), .int .i64 (v2)] false), (1, .cells 5 [] false)]⟩
noncomputable def pt13_1 (tt : List Nat) (v0 : Int) (v1 : Nat) (v2 : Int) (v3 : Int) (v4 : List Go.Sx.AV) : Go.Sx.Pt := ⟨[(27, [(0, .fn (.yield 7) [] []), (1, .ptr 6 0), (5, .int .i64 ((↑(List.length tt) : Int))), (6, .int .i64 (v0))]), (46, [(4, .str []), (5, .int .i64 (.ofNat 0)), (6, .int .i64 (.ofNat 0)), (7, .ptr 2 0), (10, .ptr 5 0)]), (10, [])], [(46, [(3, .ptr 0 0), (8, .ptr 3 0), (9, .ptr 4 0), (10, .ptr 5 0)])], 10, [(6, .cells 9 [.str (tt)] false), (2, .cells 32 [.slc 9 0 (v1) (.upto 1 (v1))] false), (5, .cells 3 [.int .i64 (.negSucc 0)] false), (0, .cells 43 [.fn (.func 23) [] []] false), (3, .cells 72 [.fn (.func 41) [] [.ptr 2 0]] false), (4, .cells 42 [.int .i64 (v2), .int .i64 (v3)] false), (9, .cells 5 (v4) true)]⟩
mutual
noncomputable def L13_0 (tt : List Nat) : Nat → Int → Int → Int → Option (List Nat × Int × Int)
  | 0, _, _, _ => none
  | n + 1, v0, v1, v2 => (bif (Go.Sx.ltI v0 (↑(List.length tt) : Int)) then (bif (Go.Sx.inB v0 (List.length tt)) then (bif (Go.Sx.eqI (Go.Sx.byteI tt v0) 0) then (L13_0 tt n (Go.Sx.wrapA Go.IntKind.i64 (Int.add v0 1)) (v1) (v2)) else (bif (Go.Sx.eqI (Go.Sx.byteI tt v0) 9) then (L13_0 tt n (Go.Sx.wrapA Go.IntKind.i64 (Int.add v0 1)) (v1) (v2)) else (bif (Go.Sx.eqI (Go.Sx.byteI tt v0) 10) then (L13_0 tt n (Go.Sx.wrapA Go.IntKind.i64 (Int.add v0 1)) (v1) (v2)) else (bif (Go.Sx.eqI (Go.Sx.byteI tt v0) 12) then (L13_0 tt n (Go.Sx.wrapA Go.IntKind.i64 (Int.add v0 1)) (v1) (v2)) else (bif (Go.Sx.eqI (Go.Sx.byteI tt v0) 13) then (L13_0 tt n (Go.Sx.wrapA Go.IntKind.i64 (Int.add v0 1)) (v1) (v2)) else (bif (Go.Sx.eqI (Go.Sx.byteI tt v0) 32) then (L13_0 tt n (Go.Sx.wrapA Go.IntKind.i64 (Int.add v0 1)) (v1) (v2)) else (bif (Go.Sx.eqI (Go.Sx.byteI tt v0) 62) then (bif (Go.Sx.eqI v1 1) then (bif (Go.Sx.ltI (Go.Sx.wrapA Go.IntKind.i64 (Int.add v0 1)) 0) then (some ([], 0, 5)) else (some ([(Int.toNat (Go.Sx.wrapA Go.IntKind.u8 (Go.Sx.wrapA Go.IntKind.i64 (Int.mul v2 (16)))))], (Go.Sx.wrapA Go.IntKind.i64 (Int.add v0 1)), 0))) else (bif (Go.Sx.ltI (Go.Sx.wrapA Go.IntKind.i64 (Int.add v0 1)) 0) then (some ([], 0, 5)) else (some ([], (Go.Sx.wrapA Go.IntKind.i64 (Int.add v0 1)), 0)))) else (bif (Go.Sx.ltI (F43_0 (Go.Sx.byteI tt v0)) 0) then (some ([], 0, 5)) else (bif (Go.Sx.eqI v1 0) then (L13_0 tt n (Go.Sx.wrapA Go.IntKind.i64 (Int.add v0 1)) 1 (F43_0 (Go.Sx.byteI tt v0))) else (L13_1 tt n (Go.Sx.wrapA Go.IntKind.i64 (Int.add v0 1)) 1 0 0 (l13_10 tt v0 v2))))))))))) else none) else (some ([], 0, 5)))
termination_by structural n => n
noncomputable def L13_1 (tt : List Nat) : Nat → Int → Nat → Int → Int → (List Go.Sx.AV) → Option (List Nat × Int × Int)
  | 0, _, _, _, _, _ => none
  | n + 1, v0, v1, v2, v3, v4 => (bif (Go.Sx.ltI v0 (↑(List.length tt) : Int)) then (bif (Go.Sx.inB v0 (List.length tt)) then (bif (Go.Sx.eqI (Go.Sx.byteI tt v0) 0) then (bif (Go.Sx.pureAVs v4) then (L13_1 tt n (Go.Sx.wrapA Go.IntKind.i64 (Int.add v0 1)) (v1) (v2) (v3) (v4)) else none) else (bif (Go.Sx.eqI (Go.Sx.byteI tt v0) 9) then (bif (Go.Sx.pureAVs v4) then (L13_1 tt n (Go.Sx.wrapA Go.IntKind.i64 (Int.add v0 1)) (v1) (v2) (v3) (v4)) else none) else (bif (Go.Sx.eqI (Go.Sx.byteI tt v0) 10) then (bif (Go.Sx.pureAVs v4) then (L13_1 tt n (Go.Sx.wrapA Go.IntKind.i64 (Int.add v0 1)) (v1) (v2) (v3) (v4)) else none) else (bif (Go.Sx.eqI (Go.Sx.byteI tt v0) 12) then (bif (Go.Sx.pureAVs v4) then (L13_1 tt n (Go.Sx.wrapA Go.IntKind.i64 (Int.add v0 1)) (v1) (v2) (v3) (v4)) else none) else (bif (Go.Sx.eqI (Go.Sx.byteI tt v0) 13) then (bif (Go.Sx.pureAVs v4) then (L13_1 tt n (Go.Sx.wrapA Go.IntKind.i64 (Int.add v0 1)) (v1) (v2) (v3) (v4)) else none) else (bif (Go.Sx.eqI (Go.Sx.byteI tt v0) 32) then (bif (Go.Sx.pureAVs v4) then (L13_1 tt n (Go.Sx.wrapA Go.IntKind.i64 (Int.add v0 1)) (v1) (v2) (v3) (v4)) else none) else (bif (Go.Sx.eqI (Go.Sx.byteI tt v0) 62) then (bif (Go.Sx.eqI v2 1) then (bif (Nat.blt v1 (v1 + 1)) then (bif (Nat.ble v1 1000000) then (bif (Nat.beq (List.length v4) (0 + v1 * 1)) then (bif (Go.Sx.ltI (Go.Sx.wrapA Go.IntKind.i64 (Int.add v0 1)) 0) then (some ([], 0, 5)) else (bif (c13_12 v1) then (some ([], 0, 3)) else (bif (Go.Sx.strOk (l13_11 v3 v4) 0 (v1 + 1)) then (some ((Go.Sx.strOf (l13_11 v3 v4) 0 (v1 + 1)), (Go.Sx.wrapA Go.IntKind.i64 (Int.add v0 1)), 0)) else none))) else none) else none) else none) else (bif (Go.Sx.ltI (Go.Sx.wrapA Go.IntKind.i64 (Int.add v0 1)) 0) then (some ([], 0, 5)) else (bif (Go.Sx.ltI 65536 (↑v1 : Int)) then (some ([], 0, 3)) else (bif (Go.Sx.strOk v4 0 v1) then (some ((Go.Sx.strOf v4 0 v1), (Go.Sx.wrapA Go.IntKind.i64 (Int.add v0 1)), 0)) else none)))) else (bif (Go.Sx.ltI (F43_0 (Go.Sx.byteI tt v0)) 0) then (some ([], 0, 5)) else (bif (Go.Sx.eqI v2 0) then (bif (Go.Sx.pureAVs v4) then (L13_1 tt n (Go.Sx.wrapA Go.IntKind.i64 (Int.add v0 1)) (v1) 1 (F43_0 (Go.Sx.byteI tt v0)) (v4)) else none) else (bif (Nat.blt v1 (v1 + 1)) then (bif (Nat.ble v1 1000000) then (bif (Nat.beq (List.length v4) (0 + v1 * 1)) then (bif (Go.Sx.pureAVs (l13_14 tt v0 v3 v4)) then (L13_1 tt n (Go.Sx.wrapA Go.IntKind.i64 (Int.add v0 1)) (v1 + 1) 0 0 (l13_14 tt v0 v3 v4)) else none) else none) else none) else none)))))))))) else none) else (some ([], 0, 5)))
termination_by structural n => n
end
theorem L13_0_succ (tt : List Nat) (n : Nat) (v0 : Int) (v1 : Int) (v2 : Int) : L13_0 tt (n + 1) v0 v1 v2 = (bif (Go.Sx.ltI v0 (↑(List.length tt) : Int)) then (bif (Go.Sx.inB v0 (List.length tt)) then (bif (Go.Sx.eqI (Go.Sx.byteI tt v0) 0) then (L13_0 tt n (Go.Sx.wrapA Go.IntKind.i64 (Int.add v0 1)) (v1) (v2)) else (bif (Go.Sx.eqI (Go.Sx.byteI tt v0) 9) then (L13_0 tt n (Go.Sx.wrapA Go.IntKind.i64 (Int.add v0 1)) (v1) (v2)) else (bif (Go.Sx.eqI (Go.Sx.byteI tt v0) 10) then (L13_0 tt n (Go.Sx.wrapA Go.IntKind.i64 (Int.add v0 1)) (v1) (v2)) else (bif (Go.Sx.eqI (Go.Sx.byteI tt v0) 12) then (L13_0 tt n (Go.Sx.wrapA Go.IntKind.i64 (Int.add v0 1)) (v1) (v2)) else (bif (Go.Sx.eqI (Go.Sx.byteI tt v0) 13) then (L13_0 tt n (Go.Sx.wrapA Go.IntKind.i64 (Int.add v0 1)) (v1) (v2)) else (bif (Go.Sx.eqI (Go.Sx.byteI tt v0) 32) then (L13_0 tt n (Go.Sx.wrapA Go.IntKind.i64 (Int.add v0 1)) (v1) (v2)) else (bif (Go.Sx.eqI (Go.Sx.byteI tt v0) 62) then (bif (Go.Sx.eqI v1 1) then (bif (Go.Sx.ltI (Go.Sx.wrapA Go.IntKind.i64 (Int.add v0 1)) 0) then (some ([], 0, 5)) else (some ([(Int.toNat (Go.Sx.wrapA Go.IntKind.u8 (Go.Sx.wrapA Go.IntKind.i64 (Int.mul v2 (16)))))], (Go.Sx.wrapA Go.IntKind.i64 (Int.add v0 1)), 0))) else (bif (Go.Sx.ltI (Go.Sx.wrapA Go.IntKind.i64 (Int.add v0 1)) 0) then (some ([], 0, 5)) else (some ([], (Go.Sx.wrapA Go.IntKind.i64 (Int.add v0 1)), 0)))) else (bif (Go.Sx.ltI (F43_0 (Go.Sx.byteI tt v0)) 0) then (some ([], 0, 5)) else (bif (Go.Sx.eqI v1 0) then (L13_0 tt n (Go.Sx.wrapA Go.IntKind.i64 (Int.add v0 1)) 1 (F43_0 (Go.Sx.byteI tt v0))) else (L13_1 tt n (Go.Sx.wrapA Go.IntKind.i64 (Int.add v0 1)) 1 0 0 (l13_10 tt v0 v2))))))))))) else none) else (some ([], 0, 5))) := rfl
theorem L13_1_succ (tt : List Nat) (n : Nat) (v0 : Int) (v1 : Nat) (v2 : Int) (v3 : Int) (v4 : List Go.Sx.AV) : L13_1 tt (n + 1) v0 v1 v2 v3 v4 = (bif (Go.Sx.ltI v0 (↑(List.length tt) : Int)) then (bif (Go.Sx.inB v0 (List.length tt)) then (bif (Go.Sx.eqI (Go.Sx.byteI tt v0) 0) then (bif (Go.Sx.pureAVs v4) then (L13_1 tt n (Go.Sx.wrapA Go.IntKind.i64 (Int.add v0 1)) (v1) (v2) (v3) (v4)) else none) else (bif (Go.Sx.eqI (Go.Sx.byteI tt v0) 9) then (bif (Go.Sx.pureAVs v4) then (L13_1 tt n (Go.Sx.wrapA Go.IntKind.i64 (Int.add v0 1)) (v1) (v2) (v3) (v4)) else none) else (bif (Go.Sx.eqI (Go.Sx.byteI tt v0) 10) then (bif (Go.Sx.pureAVs v4) then (L13_1 tt n (Go.Sx.wrapA Go.IntKind.i64 (Int.add v0 1)) (v1) (v2) (v3) (v4)) else none) else (bif (Go.Sx.eqI (Go.Sx.byteI tt v0) 12) then (bif (Go.Sx.pureAVs v4) then (L13_1 tt n (Go.Sx.wrapA Go.IntKind.i64 (Int.add v0 1)) (v1) (v2) (v3) (v4)) else none) else (bif (Go.Sx.eqI (Go.Sx.byteI tt v0) 13) then (bif (Go.Sx.pureAVs v4) then (L13_1 tt n (Go.Sx.wrapA Go.IntKind.i64 (Int.add v0 1)) (v1) (v2) (v3) (v4)) else none) else (bif (Go.Sx.eqI (Go.Sx.byteI tt v0) 32) then (bif (Go.Sx.pureAVs v4) then (L13_1 tt n (Go.Sx.wrapA Go.IntKind.i64 (Int.add v0 1)) (v1) (v2) (v3) (v4)) else none) else (bif (Go.Sx.eqI (Go.Sx.byteI tt v0) 62) then (bif (Go.Sx.eqI v2 1) then (bif (Nat.blt v1 (v1 + 1)) then (bif (Nat.ble v1 1000000) then (bif (Nat.beq (List.length v4) (0 + v1 * 1)) then (bif (Go.Sx.ltI (Go.Sx.wrapA Go.IntKind.i64 (Int.add v0 1)) 0) then (some ([], 0, 5)) else (bif (c13_12 v1) then (some ([], 0, 3)) else (bif (Go.Sx.strOk (l13_11 v3 v4) 0 (v1 + 1)) then (some ((Go.Sx.strOf (l13_11 v3 v4) 0 (v1 + 1)), (Go.Sx.wrapA Go.IntKind.i64 (Int.add v0 1)), 0)) else none))) else none) else none) else none) else (bif (Go.Sx.ltI (Go.Sx.wrapA Go.IntKind.i64 (Int.add v0 1)) 0) then (some ([], 0, 5)) else (bif (Go.Sx.ltI 65536 (↑v1 : Int)) then (some ([], 0, 3)) else (bif (Go.Sx.strOk v4 0 v1) then (some ((Go.Sx.strOf v4 0 v1), (Go.Sx.wrapA Go.IntKind.i64 (Int.add v0 1)), 0)) else none)))) else (bif (Go.Sx.ltI (F43_0 (Go.Sx.byteI tt v0)) 0) then (some ([], 0, 5)) else (bif (Go.Sx.eqI v2 0) then (bif (Go.Sx.pureAVs v4) then (L13_1 tt n (Go.Sx.wrapA Go.IntKind.i64 (Int.add v0 1)) (v1) 1 (F43_0 (Go.Sx.byteI tt v0)) (v4)) else none) else (bif (Nat.blt v1 (v1 + 1)) then (bif (Nat.ble v1 1000000) then (bif (Nat.beq (List.length v4) (0 + v1 * 1)) then (bif (Go.Sx.pureAVs (l13_14 tt v0 v3 v4)) then (L13_1 tt n (Go.Sx.wrapA Go.IntKind.i64 (Int.add v0 1)) (v1 + 1) 0 0 (l13_14 tt v0 v3 v4)) else none) else none) else none) else none)))))))))) else none) else (some ([], 0, 5))) := rfl
set_option maxHeartbeats 4000000 in
theorem form13_0 (n : Nat) (tt : List Nat) (v0 : Int) (v1 : Int) (v2 : Int) (vz : Go.Sx.AV) : Go.Sx.wpS Try.prog Try.f13 [] vz (.st [0, 0, 0, 2, 0, 0, 0] (.br 7 (.st [0, 2, 0, 0, 0, 0, 0, 2, 2, 0, 0, 0, 0, 2, 2] (.sp 2 (.st [0, 0, 0, 0, 0, 0, 2, 2, 0, 0] (.br 19 (.st [0, 2, 0, 0, 2, 0, 0, 0, 0, 2, 2, 0, 0] (.stop ⟨[[0, 1, 5, 6], [4, 5, 6, 7, 10], []], [[3, 8, 9, 10]], [6, 2, 5, 0, 3, 4, 1]⟩ [(7, 7), (6, 6), (2, 2), (5, 5), (0, 0), (3, 3), (4, 4), (1, 1)] 8 [])) (.st [0, 0, 0, 2, 2, 0, 0] (.br 19 (.st [0, 2, 0, 0, 2, 0, 0, 0, 0, 2, 2, 0, 0] (.stop ⟨[[0, 1, 5, 6], [4, 5, 6, 7, 10], []], [[3, 8, 9, 10]], [6, 2, 5, 0, 3, 4, 1]⟩ [(7, 7), (6, 6), (2, 2), (5, 5), (0, 0), (3, 3), (4, 4), (1, 1)] 8 [])) (.st [0, 0, 0, 2, 2, 0, 0] (.br 19 (.st [0, 2, 0, 0, 2, 0, 0, 0, 0, 2, 2, 0, 0] (.stop ⟨[[0, 1, 5, 6], [4, 5, 6, 7, 10], []], [[3, 8, 9, 10]], [6, 2, 5, 0, 3, 4, 1]⟩ [(7, 7), (6, 6), (2, 2), (5, 5), (0, 0), (3, 3), (4, 4), (1, 1)] 8 [])) (.st [0, 0, 0, 2, 2, 0, 0] (.br 19 (.st [0, 2, 0, 0, 2, 0, 0, 0, 0, 2, 2, 0, 0] (.stop ⟨[[0, 1, 5, 6], [4, 5, 6, 7, 10], []], [[3, 8, 9, 10]], [6, 2, 5, 0, 3, 4, 1]⟩ [(7, 7), (6, 6), (2, 2), (5, 5), (0, 0), (3, 3), (4, 4), (1, 1)] 8 [])) (.st [0, 0, 0, 2, 2, 0, 0] (.br 19 (.st [0, 2, 0, 0, 2, 0, 0, 0, 0, 2, 2, 0, 0] (.stop ⟨[[0, 1, 5, 6], [4, 5, 6, 7, 10], []], [[3, 8, 9, 10]], [6, 2, 5, 0, 3, 4, 1]⟩ [(7, 7), (6, 6), (2, 2), (5, 5), (0, 0), (3, 3), (4, 4), (1, 1)] 8 [])) (.st [0, 0, 2, 2, 0, 0] (.br 19 (.st [0, 2, 0, 0, 0, 0, 2, 2, 0, 0] (.stop ⟨[[0, 1, 5, 6], [4, 5, 6, 7, 10], []], [[3, 8, 9, 10]], [6, 2, 5, 0, 3, 4, 1]⟩ [(7, 7), (6, 6), (2, 2), (5, 5), (0, 0), (3, 3), (4, 4), (1, 1)] 8 [])) (.st [0, 0, 0, 2, 2, 2, 2] (.sp 2 (.st [0, 0, 0, 0, 2, 2, 2, 0, 0, 0, 2, 0, 0, 0, 0, 0, 2, 2, 0, 0] (.br 9 (.st [0, 0, 0, 0, 2, 2, 2, 2, 2, 0, 0] (.br 14 (.st [0, 0, 2, 2, 2, 2, 2, 2, 2, 2, 0, 0, 2, 2, 2, 2, 0, 0, 0, 0, 0, 0, 2, 0, 0, 2, 0, 0, 0, 0, 0, 0, 0, 2, 2, 0, 0, 0, 0, 0, 2, 2, 2, 0, 0, 2, 0, 0, 0, 2, 0, 0, 0, 2, 0, 0, 0, 0, 0, 0, 0, 0, 0, 0, 0, 2, 2, 0, 0] (.br 35 (.st [0, 0, 0, 2, 2, 2, 0, 0, 2, 0, 0, 0, 2, 2, 2, 2, 2, 2, 0, 0, 2] .ans) (.st [0, 2, 0, 0, 0, 2, 0, 0, 0, 2, 2, 0, 0, 0, 0, 0, 2, 2, 2, 0, 0, 0, 2, 0, 0, 0, 2, 2, 2, 2, 0, 0, 2, 0, 2, 2, 2, 2, 2, 0, 0, 0, 0, 0, 2, 2, 0, 0, 0, 2, 0, 0, 3, 2, 2, 0, 0, 2, 0, 0, 2, 2, 2, 2, 2, 2, 0, 0, 2] .ans))) (.st [0, 2, 0, 0, 0, 2, 0, 0, 2, 0, 0, 0, 0, 0, 0, 0, 2, 2, 0, 0, 0, 0, 0, 2, 2, 2, 0, 0, 2, 0, 0, 0, 2, 0, 0, 0, 2, 0, 0, 0, 0, 0, 0, 0, 0, 0, 0, 0, 2, 2, 0, 0] (.br 35 (.st [0, 0, 0, 2, 2, 2, 0, 0, 2, 0, 0, 0, 2, 2, 2, 2, 2, 2, 0, 0, 2] .ans) (.st [0, 2, 0, 0, 0, 2, 0, 0, 0, 2, 2, 0, 0, 0, 0, 0, 2, 2, 2, 0, 0, 0, 2, 0, 0, 0, 2, 2, 2, 2, 0, 0, 2, 0, 2, 2, 2, 2, 2, 0, 0, 0, 0, 0, 2, 2, 0, 0, 0, 2, 0, 0, 3, 2, 2, 0, 0, 2, 0, 0, 2, 2, 2, 2, 2, 2, 0, 0, 2] .ans))))) (.st [0, 2, 0, 0, 0, 2] (.use [] (.int .i64 (F43_0 (Go.Sx.byteI tt v0))) (.st [2, 0, 0, 0, 0, 0, 2, 2, 0, 0] (.br 27 (.st [0, 0, 0, 2, 0, 0, 2, 0, 0, 0, 0, 0, 0, 0, 2, 2, 0, 0, 0, 0, 0, 2, 2, 0, 0, 0, 2, 0, 0, 0, 2, 0, 0, 0, 2, 0, 0, 0, 0, 0, 0, 0, 0, 0, 0, 0, 2, 2, 0, 0, 0, 0, 0, 2, 2, 2, 0, 0, 2, 0, 0, 0, 2, 2, 2, 2, 2, 2, 0, 0, 2] .ans) (.st [0, 2, 0, 0, 0, 0, 2, 2, 2, 2, 2, 0, 0] (.br 32 (.st [0, 0, 0, 2, 2, 2, 2, 2, 0, 0, 0, 0, 2, 0, 0, 2, 0, 0, 0, 0, 0, 0, 0, 2, 2, 0, 0, 0, 0, 0, 2, 2, 0, 0, 0, 2, 0, 0, 0, 2, 0, 0, 0, 2, 0, 0, 0, 0, 2, 2, 0, 0] (.stop ⟨[[0, 1, 5, 6], [4, 5, 6, 7, 10], []], [[3, 8, 9, 10]], [6, 2, 5, 0, 3, 4, 1]⟩ [(7, 7), (6, 6), (2, 2), (5, 5), (0, 0), (3, 3), (4, 4), (1, 1)] 8 [])) (.st [0, 2, 0, 0, 0, 2, 2, 2, 2, 2, 2, 2, 2, 2, 2, 0, 0, 2, 2, 2, 2, 0, 0, 0, 0, 0, 0, 2, 2, 2, 2, 0, 0, 0, 0, 2, 0, 0, 2, 0, 0, 0, 0, 0, 0, 2, 2, 0, 0, 0, 0, 0, 2, 2, 0, 0, 0, 2, 0, 0, 0, 2, 0, 0, 0, 2, 0, 0, 0, 0, 2, 2, 0, 0] (.stop ⟨[[0, 1, 5, 6], [4, 5, 6, 7, 10], []], [[3, 8, 9, 10]], [6, 2, 5, 0, 3, 4, 9]⟩ [(7, 7), (6, 6), (2, 2), (5, 5), (0, 0), (3, 3), (4, 4), (9, 9)] 10 [9])))))))))))))))))))))))))) (.st [0, 2, 0, 0, 0, 0, 0, 0, 0, 0, 0, 2, 2, 0, 0, 0, 0, 0, 2, 2, 2, 0, 0, 2, 0, 0, 0, 2, 2, 2, 2, 2, 2, 0, 0, 2] .ans))) (Go.Sx.mkK sk13_0.1 (pt13_0 tt v0 v1 v2).frs.tail) (Go.Sx.mkC [] (pt13_0 tt v0 v1 v2) sk13_0.1 sk13_0.2) = (Go.Sx.BR (Go.Sx.ltI v0 (↑(List.length tt) : Int)) (Go.Sx.AN (Go.Sx.inB v0 (List.length tt)) (Go.Sx.BR (Go.Sx.eqI (Go.Sx.byteI tt v0) 0) (Go.Sx.RunAt Try.prog Try.f13 [] vz sk13_0 (pt13_0 tt (Go.Sx.wrapA Go.IntKind.i64 (Int.add v0 1)) (v1) (v2))) (Go.Sx.BR (Go.Sx.eqI (Go.Sx.byteI tt v0) 9) (Go.Sx.RunAt Try.prog Try.f13 [] vz sk13_0 (pt13_0 tt (Go.Sx.wrapA Go.IntKind.i64 (Int.add v0 1)) (v1) (v2))) (Go.Sx.BR (Go.Sx.eqI (Go.Sx.byteI tt v0) 10) (Go.Sx.RunAt Try.prog Try.f13 [] vz sk13_0 (pt13_0 tt (Go.Sx.wrapA Go.IntKind.i64 (Int.add v0 1)) (v1) (v2))) (Go.Sx.BR (Go.Sx.eqI (Go.Sx.byteI tt v0) 12) (Go.Sx.RunAt Try.prog Try.f13 [] vz sk13_0 (pt13_0 tt (Go.Sx.wrapA Go.IntKind.i64 (Int.add v0 1)) (v1) (v2))) (Go.Sx.BR (Go.Sx.eqI (Go.Sx.byteI tt v0) 13) (Go.Sx.RunAt Try.prog Try.f13 [] vz sk13_0 (pt13_0 tt (Go.Sx.wrapA Go.IntKind.i64 (Int.add v0 1)) (v1) (v2))) (Go.Sx.BR (Go.Sx.eqI (Go.Sx.byteI tt v0) 32) (Go.Sx.RunAt Try.prog Try.f13 [] vz sk13_0 (pt13_0 tt (Go.Sx.wrapA Go.IntKind.i64 (Int.add v0 1)) (v1) (v2))) (Go.Sx.AN (Go.Sx.inB v0 (List.length tt)) (Go.Sx.BR (Go.Sx.eqI (Go.Sx.byteI tt v0) 62) (Go.Sx.BR (Go.Sx.eqI v1 1) (Go.Sx.BR (Go.Sx.ltI (Go.Sx.wrapA Go.IntKind.i64 (Int.add v0 1)) 0) (vz = .tup [.str [], .int .i64 (.ofNat 0), .int .i64 (.ofNat 5)]) (vz = .tup [.str [(Int.toNat (Go.Sx.wrapA Go.IntKind.u8 (Go.Sx.wrapA Go.IntKind.i64 (Int.mul v2 (16)))))], .int .i64 (Go.Sx.wrapA Go.IntKind.i64 (Int.add v0 1)), .int .i64 (.ofNat 0)])) (Go.Sx.BR (Go.Sx.ltI (Go.Sx.wrapA Go.IntKind.i64 (Int.add v0 1)) 0) (vz = .tup [.str [], .int .i64 (.ofNat 0), .int .i64 (.ofNat 5)]) (vz = .tup [.str [], .int .i64 (Go.Sx.wrapA Go.IntKind.i64 (Int.add v0 1)), .int .i64 (.ofNat 0)]))) (Go.Sx.Fact Try.prog [] 43 [.int .u8 (Go.Sx.byteI tt v0)] (.int .i64 (F43_0 (Go.Sx.byteI tt v0))) ∧ (Go.Sx.BR (Go.Sx.ltI (F43_0 (Go.Sx.byteI tt v0)) 0) (vz = .tup [.str [], .int .i64 (.ofNat 0), .int .i64 (.ofNat 5)]) (Go.Sx.BR (Go.Sx.eqI v1 0) (Go.Sx.RunAt Try.prog Try.f13 [] vz sk13_0 (pt13_0 tt (Go.Sx.wrapA Go.IntKind.i64 (Int.add v0 1)) 1 (F43_0 (Go.Sx.byteI tt v0)))) (Go.Sx.AN (Go.Sx.pureAVs (l13_10 tt v0 v2)) (Go.Sx.RunAt Try.prog Try.f13 [] vz sk13_0 (pt13_1 tt (Go.Sx.wrapA Go.IntKind.i64 (Int.add v0 1)) 1 0 0 (l13_10 tt v0 v2)))))))))))))))) (vz = .tup [.str [], .int .i64 (.ofNat 0), .int .i64 (.ofNat 5)])) := by kernel_rfl
set_option maxHeartbeats 4000000 in
theorem form13_1 (n : Nat) (tt : List Nat) (v0 : Int) (v1 : Nat) (v2 : Int) (v3 : Int) (v4 : List Go.Sx.AV) (vz : Go.Sx.AV) : Go.Sx.wpS Try.prog Try.f13 [] vz (.st [0, 0, 0, 2, 0, 0, 0] (.br 7 (.st [0, 2, 0, 0, 0, 0, 0, 2, 2, 0, 0, 0, 0, 2, 2] (.sp 2 (.st [0, 0, 0, 0, 0, 0, 2, 2, 0, 0] (.br 19 (.st [0, 2, 0, 0, 2, 0, 0, 0, 0, 2, 2, 0, 0] (.stop ⟨[[0, 1, 5, 6], [4, 5, 6, 7, 10], []], [[3, 8, 9, 10]], [6, 2, 5, 0, 3, 4, 9]⟩ [(7, 7), (6, 6), (2, 2), (5, 5), (0, 0), (3, 3), (4, 4), (9, 9)] 10 [9])) (.st [0, 0, 0, 2, 2, 0, 0] (.br 19 (.st [0, 2, 0, 0, 2, 0, 0, 0, 0, 2, 2, 0, 0] (.stop ⟨[[0, 1, 5, 6], [4, 5, 6, 7, 10], []], [[3, 8, 9, 10]], [6, 2, 5, 0, 3, 4, 9]⟩ [(7, 7), (6, 6), (2, 2), (5, 5), (0, 0), (3, 3), (4, 4), (9, 9)] 10 [9])) (.st [0, 0, 0, 2, 2, 0, 0] (.br 19 (.st [0, 2, 0, 0, 2, 0, 0, 0, 0, 2, 2, 0, 0] (.stop ⟨[[0, 1, 5, 6], [4, 5, 6, 7, 10], []], [[3, 8, 9, 10]], [6, 2, 5, 0, 3, 4, 9]⟩ [(7, 7), (6, 6), (2, 2), (5, 5), (0, 0), (3, 3), (4, 4), (9, 9)] 10 [9])) (.st [0, 0, 0, 2, 2, 0, 0] (.br 19 (.st [0, 2, 0, 0, 2, 0, 0, 0, 0, 2, 2, 0, 0] (.stop ⟨[[0, 1, 5, 6], [4, 5, 6, 7, 10], []], [[3, 8, 9, 10]], [6, 2, 5, 0, 3, 4, 9]⟩ [(7, 7), (6, 6), (2, 2), (5, 5), (0, 0), (3, 3), (4, 4), (9, 9)] 10 [9])) (.st [0, 0, 0, 2, 2, 0, 0] (.br 19 (.st [0, 2, 0, 0, 2, 0, 0, 0, 0, 2, 2, 0, 0] (.stop ⟨[[0, 1, 5, 6], [4, 5, 6, 7, 10], []], [[3, 8, 9, 10]], [6, 2, 5, 0, 3, 4, 9]⟩ [(7, 7), (6, 6), (2, 2), (5, 5), (0, 0), (3, 3), (4, 4), (9, 9)] 10 [9])) (.st [0, 0, 2, 2, 0, 0] (.br 19 (.st [0, 2, 0, 0, 0, 0, 2, 2, 0, 0] (.stop ⟨[[0, 1, 5, 6], [4, 5, 6, 7, 10], []], [[3, 8, 9, 10]], [6, 2, 5, 0, 3, 4, 9]⟩ [(7, 7), (6, 6), (2, 2), (5, 5), (0, 0), (3, 3), (4, 4), (9, 9)] 10 [9])) (.st [0, 0, 0, 2, 2, 2, 2] (.sp 2 (.st [0, 0, 0, 0, 2, 2, 2, 0, 0, 0, 2, 0, 0, 0, 0, 0, 2, 2, 0, 0] (.br 9 (.st [0, 0, 0, 0, 2, 2, 2, 2, 2, 0, 0] (.br 14 (.st [0, 0, 2, 2, 2, 2, 2, 2, 2, 2, 0, 0, 2, 2] (.sp 2 (.st [2, 0, 0, 0, 0, 0, 0, 2, 0, 0, 2, 0, 0, 0, 0, 0, 0, 0, 2, 2, 0, 0, 0, 0, 0, 2, 2, 2, 0, 0, 2, 0, 0, 0, 2, 0, 0, 0, 2, 0, 0, 0, 0, 0, 0, 0, 0, 0, 0, 0, 2, 2, 0, 0] (.br 35 (.st [0, 0, 0, 2, 2, 2, 0, 0, 2, 0, 0, 0, 2, 2, 2, 2, 2, 2, 0, 0, 2] .ans) (.st [0, 2, 0, 0, 0, 2, 0, 0, 0, 2, 2, 0, 0, 0, 0, 0, 2, 2, 2, 0, 0] (.br 6 (.st [0, 0, 0, 2, 2, 0, 0, 2, 0, 0, 2, 2, 2, 2, 2, 0, 0, 0, 0, 0, 2, 2, 0, 0, 0, 0, 0, 2, 2, 2, 2, 0, 0, 2, 0, 0, 0, 2, 2, 2, 2, 2, 2, 0, 0, 2] .ans) (.st [0, 2, 0, 0, 0, 2] (.sp 2 (.st [2, 2, 0, 0, 2, 0, 2, 2, 2, 2, 2, 0, 0, 0, 0, 0, 2, 2, 0, 0, 0, 2, 0, 0, 3, 2, 2, 0, 0, 2, 0, 0, 2, 2, 2, 2, 2, 2, 0, 0, 2] .ans))))))))) (.st [0, 2, 0, 0, 0, 2, 0, 0, 2, 0, 0, 0, 0, 0, 0, 0, 2, 2, 0, 0, 0, 0, 0, 2, 2, 2, 0, 0, 2, 0, 0, 0, 2, 0, 0, 0, 2, 0, 0, 0, 0, 0, 0, 0, 0, 0, 0, 0, 2, 2, 0, 0] (.br 35 (.st [0, 0, 0, 2, 2, 2, 0, 0, 2, 0, 0, 0, 2, 2, 2, 2, 2, 2, 0, 0, 2] .ans) (.st [0, 2, 0, 0, 0, 2, 0, 0, 0, 2, 2, 0, 0, 0, 0, 0, 2, 2, 2, 0, 0] (.br 6 (.st [0, 0, 0, 2, 2, 0, 0, 2, 0, 0, 2, 2, 2, 2, 2, 0, 0, 0, 0, 0, 2, 2, 0, 0, 0, 0, 0, 2, 2, 2, 2, 0, 0, 2, 0, 0, 0, 2, 2, 2, 2, 2, 2, 0, 0, 2] .ans) (.st [0, 2, 0, 0, 0, 2] (.sp 2 (.st [2, 2, 0, 0, 2, 0, 2, 2, 2, 2, 2, 0, 0, 0, 0, 0, 2, 2, 0, 0, 0, 2, 0, 0, 3, 2, 2, 0, 0, 2, 0, 0, 2, 2, 2, 2, 2, 2, 0, 0, 2] .ans))))))))) (.st [0, 2, 0, 0, 0, 2] (.use [] (.int .i64 (F43_0 (Go.Sx.byteI tt v0))) (.st [2, 0, 0, 0, 0, 0, 2, 2, 0, 0] (.br 27 (.st [0, 0, 0, 2, 0, 0, 2, 0, 0, 0, 0, 0, 0, 0, 2, 2, 0, 0, 0, 0, 0, 2, 2, 0, 0, 0, 2, 0, 0, 0, 2, 0, 0, 0, 2, 0, 0, 0, 0, 0, 0, 0, 0, 0, 0, 0, 2, 2, 0, 0, 0, 0, 0, 2, 2, 2, 0, 0, 2, 0, 0, 0, 2, 2, 2, 2, 2, 2, 0, 0, 2] .ans) (.st [0, 2, 0, 0, 0, 0, 2, 2, 2, 2, 2, 0, 0] (.br 32 (.st [0, 0, 0, 2, 2, 2, 2, 2, 0, 0, 0, 0, 2, 0, 0, 2, 0, 0, 0, 0, 0, 0, 0, 2, 2, 0, 0, 0, 0, 0, 2, 2, 0, 0, 0, 2, 0, 0, 0, 2, 0, 0, 0, 2, 0, 0, 0, 0, 2, 2, 0, 0] (.stop ⟨[[0, 1, 5, 6], [4, 5, 6, 7, 10], []], [[3, 8, 9, 10]], [6, 2, 5, 0, 3, 4, 9]⟩ [(7, 7), (6, 6), (2, 2), (5, 5), (0, 0), (3, 3), (4, 4), (9, 9)] 10 [9])) (.st [0, 2, 0, 0, 0, 2, 2, 2, 2, 2, 2, 2, 2, 2, 2, 0, 0, 2, 2] (.sp 2 (.st [2, 0, 0, 0, 0, 0, 0, 2, 2, 2, 2, 0, 0, 0, 0, 2, 0, 0, 2, 0, 0, 0, 0, 0, 0, 2, 2, 0, 0, 0, 0, 0, 2, 2, 0, 0, 0, 2, 0, 0, 0, 2, 0, 0, 0, 2, 0, 0, 0, 0, 2, 2, 0, 0] (.stop ⟨[[0, 1, 5, 6], [4, 5, 6, 7, 10], []], [[3, 8, 9, 10]], [6, 2, 5, 0, 3, 4, 11]⟩ [(7, 7), (6, 6), (2, 2), (5, 5), (0, 0), (3, 3), (4, 4), (11, 9)] 10 [11])))))))))))))))))))))))))))) (.st [0, 2, 0, 0, 0, 0, 0, 0, 0, 0, 0, 2, 2, 0, 0, 0, 0, 0, 2, 2, 2, 0, 0, 2, 0, 0, 0, 2, 2, 2, 2, 2, 2, 0, 0, 2] .ans))) (Go.Sx.mkK sk13_0.1 (pt13_1 tt v0 v1 v2 v3 v4).frs.tail) (Go.Sx.mkC [] (pt13_1 tt v0 v1 v2 v3 v4) sk13_0.1 sk13_0.2) = (Go.Sx.BR (Go.Sx.ltI v0 (↑(List.length tt) : Int)) (Go.Sx.AN (Go.Sx.inB v0 (List.length tt)) (Go.Sx.BR (Go.Sx.eqI (Go.Sx.byteI tt v0) 0) (Go.Sx.AN (Go.Sx.pureAVs v4) (Go.Sx.RunAt Try.prog Try.f13 [] vz sk13_0 (pt13_1 tt (Go.Sx.wrapA Go.IntKind.i64 (Int.add v0 1)) (v1) (v2) (v3) (v4)))) (Go.Sx.BR (Go.Sx.eqI (Go.Sx.byteI tt v0) 9) (Go.Sx.AN (Go.Sx.pureAVs v4) (Go.Sx.RunAt Try.prog Try.f13 [] vz sk13_0 (pt13_1 tt (Go.Sx.wrapA Go.IntKind.i64 (Int.add v0 1)) (v1) (v2) (v3) (v4)))) (Go.Sx.BR (Go.Sx.eqI (Go.Sx.byteI tt v0) 10) (Go.Sx.AN (Go.Sx.pureAVs v4) (Go.Sx.RunAt Try.prog Try.f13 [] vz sk13_0 (pt13_1 tt (Go.Sx.wrapA Go.IntKind.i64 (Int.add v0 1)) (v1) (v2) (v3) (v4)))) (Go.Sx.BR (Go.Sx.eqI (Go.Sx.byteI tt v0) 12) (Go.Sx.AN (Go.Sx.pureAVs v4) (Go.Sx.RunAt Try.prog Try.f13 [] vz sk13_0 (pt13_1 tt (Go.Sx.wrapA Go.IntKind.i64 (Int.add v0 1)) (v1) (v2) (v3) (v4)))) (Go.Sx.BR (Go.Sx.eqI (Go.Sx.byteI tt v0) 13) (Go.Sx.AN (Go.Sx.pureAVs v4) (Go.Sx.RunAt Try.prog Try.f13 [] vz sk13_0 (pt13_1 tt (Go.Sx.wrapA Go.IntKind.i64 (Int.add v0 1)) (v1) (v2) (v3) (v4)))) (Go.Sx.BR (Go.Sx.eqI (Go.Sx.byteI tt v0) 32) (Go.Sx.AN (Go.Sx.pureAVs v4) (Go.Sx.RunAt Try.prog Try.f13 [] vz sk13_0 (pt13_1 tt (Go.Sx.wrapA Go.IntKind.i64 (Int.add v0 1)) (v1) (v2) (v3) (v4)))) (Go.Sx.AN (Go.Sx.inB v0 (List.length tt)) (Go.Sx.BR (Go.Sx.eqI (Go.Sx.byteI tt v0) 62) (Go.Sx.BR (Go.Sx.eqI v2 1) (Go.Sx.AN (Go.Sx.andB (Nat.blt v1 (v1 + 1)) (Go.Sx.andB (Nat.ble v1 1000000) (Nat.beq (List.length v4) (0 + v1 * 1)))) (Go.Sx.BR (Go.Sx.ltI (Go.Sx.wrapA Go.IntKind.i64 (Int.add v0 1)) 0) (vz = .tup [.str [], .int .i64 (.ofNat 0), .int .i64 (.ofNat 5)]) (Go.Sx.BR (c13_12 v1) (vz = .tup [.str [], .int .i64 (.ofNat 0), .int .i64 (.ofNat 3)]) (Go.Sx.AN (Go.Sx.strOk (l13_11 v3 v4) 0 (v1 + 1)) (vz = .tup [.str (Go.Sx.strOf (l13_11 v3 v4) 0 (v1 + 1)), .int .i64 (Go.Sx.wrapA Go.IntKind.i64 (Int.add v0 1)), .int .i64 (.ofNat 0)]))))) (Go.Sx.BR (Go.Sx.ltI (Go.Sx.wrapA Go.IntKind.i64 (Int.add v0 1)) 0) (vz = .tup [.str [], .int .i64 (.ofNat 0), .int .i64 (.ofNat 5)]) (Go.Sx.BR (Go.Sx.ltI 65536 (↑v1 : Int)) (vz = .tup [.str [], .int .i64 (.ofNat 0), .int .i64 (.ofNat 3)]) (Go.Sx.AN (Go.Sx.strOk v4 0 v1) (vz = .tup [.str (Go.Sx.strOf v4 0 v1), .int .i64 (Go.Sx.wrapA Go.IntKind.i64 (Int.add v0 1)), .int .i64 (.ofNat 0)]))))) (Go.Sx.Fact Try.prog [] 43 [.int .u8 (Go.Sx.byteI tt v0)] (.int .i64 (F43_0 (Go.Sx.byteI tt v0))) ∧ (Go.Sx.BR (Go.Sx.ltI (F43_0 (Go.Sx.byteI tt v0)) 0) (vz = .tup [.str [], .int .i64 (.ofNat 0), .int .i64 (.ofNat 5)]) (Go.Sx.BR (Go.Sx.eqI v2 0) (Go.Sx.AN (Go.Sx.pureAVs v4) (Go.Sx.RunAt Try.prog Try.f13 [] vz sk13_0 (pt13_1 tt (Go.Sx.wrapA Go.IntKind.i64 (Int.add v0 1)) (v1) 1 (F43_0 (Go.Sx.byteI tt v0)) (v4)))) (Go.Sx.AN (Go.Sx.andB (Nat.blt v1 (v1 + 1)) (Go.Sx.andB (Nat.ble v1 1000000) (Nat.beq (List.length v4) (0 + v1 * 1)))) (Go.Sx.AN (Go.Sx.pureAVs (l13_14 tt v0 v3 v4)) (Go.Sx.RunAt Try.prog Try.f13 [] vz sk13_0 (pt13_1 tt (Go.Sx.wrapA Go.IntKind.i64 (Int.add v0 1)) (v1 + 1) 0 0 (l13_14 tt v0 v3 v4))))))))))))))))) (vz = .tup [.str [], .int .i64 (.ofNat 0), .int .i64 (.ofNat 5)])) := by kernel_rfl
set_option maxHeartbeats 4000000 in
theorem runs13 (tt : List Nat)  : ∀ (n : Nat), (∀ (v0 : Int) (v1 : Int) (v2 : Int) (r : List Nat × Int × Int), L13_0 tt n v0 v1 v2 = some r → Go.Sx.RunAt Try.prog Try.f13 [] (.tup [.str r.1, .int .i64 r.2.1, .int .i64 r.2.2]) sk13_0 (pt13_0 tt v0 v1 v2)) ∧ (∀ (v0 : Int) (v1 : Nat) (v2 : Int) (v3 : Int) (v4 : List Go.Sx.AV) (r : List Nat × Int × Int), L13_1 tt n v0 v1 v2 v3 v4 = some r → Go.Sx.RunAt Try.prog Try.f13 [] (.tup [.str r.1, .int .i64 r.2.1, .int .i64 r.2.2]) sk13_0 (pt13_1 tt v0 v1 v2 v3 v4)) := by
  intro n
  induction n with
  | zero => exact ⟨(fun _ _ _ r h => by cases h), (fun _ _ _ _ _ r h => by cases h)⟩
  | succ n ih =>
    obtain ⟨ih0, ih1⟩ := ih
    exact ⟨(fun v0 v1 v2 r h => Go.Sx.wpS_run (L := []) (by kernel_rfl) (form13_0 n tt v0 v1 v2 (.tup [.str r.1, .int .i64 r.2.1, .int .i64 r.2.2])) ((Go.Sx.br_of (fun h1 => (Go.Sx.guard_of fun h2 => (fun h => ⟨h2, (Go.Sx.br_of (fun h3 => (fun h => ih0 (Go.Sx.wrapA Go.IntKind.i64 (Int.add v0 1)) (v1) (v2) r h)) (fun h3 => (Go.Sx.br_of (fun h4 => (fun h => ih0 (Go.Sx.wrapA Go.IntKind.i64 (Int.add v0 1)) (v1) (v2) r h)) (fun h4 => (Go.Sx.br_of (fun h5 => (fun h => ih0 (Go.Sx.wrapA Go.IntKind.i64 (Int.add v0 1)) (v1) (v2) r h)) (fun h5 => (Go.Sx.br_of (fun h6 => (fun h => ih0 (Go.Sx.wrapA Go.IntKind.i64 (Int.add v0 1)) (v1) (v2) r h)) (fun h6 => (Go.Sx.br_of (fun h7 => (fun h => ih0 (Go.Sx.wrapA Go.IntKind.i64 (Int.add v0 1)) (v1) (v2) r h)) (fun h7 => (Go.Sx.br_of (fun h8 => (fun h => ih0 (Go.Sx.wrapA Go.IntKind.i64 (Int.add v0 1)) (v1) (v2) r h)) (fun h8 => (fun h => ⟨h2, (Go.Sx.br_of (fun h9 => (Go.Sx.br_of (fun h10 => (Go.Sx.br_of (fun h11 => (fun h => by cases h; rfl)) (fun h11 => (fun h => by cases h; rfl)))) (fun h10 => (Go.Sx.br_of (fun h12 => (fun h => by cases h; rfl)) (fun h12 => (fun h => by cases h; rfl)))))) (fun h9 => (fun h => ⟨fact43 (Go.Sx.byteI tt v0), (Go.Sx.br_of (fun h13 => (fun h => by cases h; rfl)) (fun h13 => (Go.Sx.br_of (fun h14 => (fun h => ih0 (Go.Sx.wrapA Go.IntKind.i64 (Int.add v0 1)) 1 (F43_0 (Go.Sx.byteI tt v0)) r h)) (fun h14 => (fun h => ⟨rfl, (fun h => ih1 (Go.Sx.wrapA Go.IntKind.i64 (Int.add v0 1)) 1 0 0 (l13_10 tt v0 v2) r h) h⟩))))) h⟩))) h⟩))))))))))))) h⟩))) (fun h1 => (fun h => by cases h; rfl))) ((L13_0_succ tt n v0 v1 v2).symm.trans h))), (fun v0 v1 v2 v3 v4 r h => Go.Sx.wpS_run (L := []) (by kernel_rfl) (form13_1 n tt v0 v1 v2 v3 v4 (.tup [.str r.1, .int .i64 r.2.1, .int .i64 r.2.2])) ((Go.Sx.br_of (fun h15 => (Go.Sx.guard_of fun h16 => (fun h => ⟨h16, (Go.Sx.br_of (fun h17 => (Go.Sx.guard_of fun h18 => (fun h => ⟨h18, (fun h => ih1 (Go.Sx.wrapA Go.IntKind.i64 (Int.add v0 1)) (v1) (v2) (v3) (v4) r h) h⟩))) (fun h17 => (Go.Sx.br_of (fun h19 => (Go.Sx.guard_of fun h20 => (fun h => ⟨h20, (fun h => ih1 (Go.Sx.wrapA Go.IntKind.i64 (Int.add v0 1)) (v1) (v2) (v3) (v4) r h) h⟩))) (fun h19 => (Go.Sx.br_of (fun h21 => (Go.Sx.guard_of fun h22 => (fun h => ⟨h22, (fun h => ih1 (Go.Sx.wrapA Go.IntKind.i64 (Int.add v0 1)) (v1) (v2) (v3) (v4) r h) h⟩))) (fun h21 => (Go.Sx.br_of (fun h23 => (Go.Sx.guard_of fun h24 => (fun h => ⟨h24, (fun h => ih1 (Go.Sx.wrapA Go.IntKind.i64 (Int.add v0 1)) (v1) (v2) (v3) (v4) r h) h⟩))) (fun h23 => (Go.Sx.br_of (fun h25 => (Go.Sx.guard_of fun h26 => (fun h => ⟨h26, (fun h => ih1 (Go.Sx.wrapA Go.IntKind.i64 (Int.add v0 1)) (v1) (v2) (v3) (v4) r h) h⟩))) (fun h25 => (Go.Sx.br_of (fun h27 => (Go.Sx.guard_of fun h28 => (fun h => ⟨h28, (fun h => ih1 (Go.Sx.wrapA Go.IntKind.i64 (Int.add v0 1)) (v1) (v2) (v3) (v4) r h) h⟩))) (fun h27 => (fun h => ⟨h16, (Go.Sx.br_of (fun h29 => (Go.Sx.br_of (fun h30 => (Go.Sx.guard_of fun h31 => (Go.Sx.guard_of fun h32 => (Go.Sx.guard_of fun h33 => (fun h => ⟨(Go.Sx.and_t h31 (Go.Sx.and_t h32 h33)), (Go.Sx.br_of (fun h34 => (fun h => by cases h; rfl)) (fun h34 => (Go.Sx.br_of (fun h35 => (fun h => by cases h; rfl)) (fun h35 => (Go.Sx.guard_of fun h36 => (fun h => ⟨h36, (fun h => by cases h; rfl) h⟩)))))) h⟩))))) (fun h30 => (Go.Sx.br_of (fun h37 => (fun h => by cases h; rfl)) (fun h37 => (Go.Sx.br_of (fun h38 => (fun h => by cases h; rfl)) (fun h38 => (Go.Sx.guard_of fun h39 => (fun h => ⟨h39, (fun h => by cases h; rfl) h⟩))))))))) (fun h29 => (fun h => ⟨fact43 (Go.Sx.byteI tt v0), (Go.Sx.br_of (fun h40 => (fun h => by cases h; rfl)) (fun h40 => (Go.Sx.br_of (fun h41 => (Go.Sx.guard_of fun h42 => (fun h => ⟨h42, (fun h => ih1 (Go.Sx.wrapA Go.IntKind.i64 (Int.add v0 1)) (v1) 1 (F43_0 (Go.Sx.byteI tt v0)) (v4) r h) h⟩))) (fun h41 => (Go.Sx.guard_of fun h43 => (Go.Sx.guard_of fun h44 => (Go.Sx.guard_of fun h45 => (fun h => ⟨(Go.Sx.and_t h43 (Go.Sx.and_t h44 h45)), (Go.Sx.guard_of fun h46 => (fun h => ⟨h46, (fun h => ih1 (Go.Sx.wrapA Go.IntKind.i64 (Int.add v0 1)) (v1 + 1) 0 0 (l13_14 tt v0 v3 v4) r h) h⟩)) h⟩)))))))) h⟩))) h⟩))))))))))))) h⟩))) (fun h15 => (fun h => by cases h; rfl))) ((L13_1_succ tt n v0 v1 v2 v3 v4).symm.trans h)))⟩
noncomputable def F13 (n : Nat) (tt : List Nat) : Option (List Nat × Int × Int) := (bif (Go.Sx.ltI 65536 (↑(List.length tt) : Int)) then (some ([], 0, 3)) else (L13_0 tt n 0 0 0))
set_option maxHeartbeats 4000000 in
theorem form13 (n : Nat) (tt : List Nat) (vz : Go.Sx.AV) : Go.Sx.wpS Try.prog Try.f13 [] vz (.st [0, 0, 2, 2, 2, 0, 0, 0, 0, 2, 0, 0, 0, 2, 2, 2, 2, 0, 0, 0, 0, 0, 0, 2, 2, 2, 0, 0] (.br 17 (.st [0, 0, 0, 2, 2, 2, 0, 0, 2, 0, 0, 0, 2, 2, 2, 2, 2, 2, 0, 0, 2] .ans) (.st [0, 2, 0, 0, 0, 2, 2, 2, 0, 0, 0, 0, 2, 2, 2, 0, 0, 0, 0, 2, 0, 0, 0, 0, 2, 2, 0, 0, 0, 2, 0, 0, 0, 0, 2, 0, 0, 0, 2, 2, 0, 0, 0, 0, 2, 2, 0, 0, 2, 0, 0, 0, 0, 0, 0, 0, 2, 2, 2, 0, 0, 0, 0] (.stop ⟨[[0, 1, 5, 6], [4, 5, 6, 7, 10], []], [[3, 8, 9, 10]], [6, 2, 5, 0, 3, 4, 1]⟩ [(7, 7), (6, 6), (2, 2), (5, 5), (0, 0), (3, 3), (4, 4), (1, 1)] 8 [])))) [] (.code body13 (Go.Sx.startA [.str tt] Try.f13) (Go.Sx.laidHeap [])) = (Go.Sx.BR (Go.Sx.ltI 65536 (↑(List.length tt) : Int)) (vz = .tup [.str [], .int .i64 (.ofNat 0), .int .i64 (.ofNat 3)]) (Go.Sx.RunAt Try.prog Try.f13 [] vz sk13_0 (pt13_0 tt 0 0 0))) := by kernel_rfl
set_option maxHeartbeats 4000000 in
theorem run13 (n : Nat) (tt : List Nat)  (r : List Nat × Int × Int) (h : F13 n tt = some r) : Go.Sx.Run Try.prog Try.f13 [] (.tup [.str r.1, .int .i64 r.2.1, .int .i64 r.2.2]) [] (.code body13 (Go.Sx.startA [.str tt] Try.f13) (Go.Sx.laidHeap [])) := by
  obtain ⟨ih0, ih1⟩ := runs13 tt  n
  exact Go.Sx.wpS_run (L := []) (by kernel_rfl) (form13 n tt (.tup [.str r.1, .int .i64 r.2.1, .int .i64 r.2.2])) ((Go.Sx.br_of (fun h0 => (fun h => by cases h; rfl)) (fun h0 => (fun h => ih0 0 0 0 r h))) h)
noncomputable def F13_0 (n : Nat) (tt : List Nat) : List Nat := ((F13 n tt).getD default).1
noncomputable def F13_1 (n : Nat) (tt : List Nat) : Int := ((F13 n tt).getD default).2.1
noncomputable def F13_2 (n : Nat) (tt : List Nat) : Int := ((F13 n tt).getD default).2.2
theorem fact13 (n : Nat) (tt : List Nat)  (h : (F13 n tt).isSome = true) : Go.Sx.Fact Try.prog [] 13 [.str tt] (.tup [.str (F13_0 n tt), .int .i64 (F13_1 n tt), .int .i64 (F13_2 n tt)]) := Go.Sx.fact_of_run okayed (by kernel_rfl) (by kernel_rfl) Try.func13 body13_eq (run13 n tt  ((F13 n tt).getD default) (Go.Sx.getD_some h))
noncomputable def body9 : Go.Code := (Try.f9.body).getD .skip
theorem body9_eq : Try.f9.body = some body9 := Go.Sx.some_getD (by kernel_rfl)
set_option maxRecDepth 1000000 in
theorem ran9 : Go.Sx.endB Try.prog Try.f9 (Go.Sx.go Try.prog 100000 [] (Go.Sx.script [1]) [] (.code body9 (Go.Sx.startA [] Try.f9) (Go.Sx.laidHeap []))) = true := by kernel_rfl
theorem fact9 : Go.Sx.Fact Try.prog [] 9 [] (.bool true) := Go.Sx.fact_of_run okayed (by kernel_rfl) (by kernel_rfl) Try.func9 body9_eq (Go.Sx.run_end ran9)
noncomputable def body3 : Go.Code := (Try.f3.body).getD .skip
theorem body3_eq : Try.f3.body = some body3 := Go.Sx.some_getD (by kernel_rfl)
noncomputable def u3_0 (a0 : (List Nat)) : List Nat := (Go.Sx.subS a0 0 (Int.toNat (if 100 < (↑(List.length a0) : Int) then 100 else (↑(List.length a0) : Int))))
noncomputable def u3_1 (a0 : (List Nat)) : List Nat := (Go.Sx.subS a0 0 (Int.toNat (if 70000 < (↑(List.length a0) : Int) then 70000 else (↑(List.length a0) : Int))))
noncomputable def c3_2 (n : (Nat)) (a0 : (List Nat)) (a1 : (Int)) : Bool := (!Go.Sx.strEq (F11_0 n (F10_0 n (u3_0 a0) a1)) (F12_0 n (F10_0 n (u3_0 a0) a1)))
noncomputable def c3_3 (n : (Nat)) (a0 : (List Nat)) (a1 : (Int)) : Bool := (!Go.Sx.eqI (F11_1 n (F10_0 n (u3_0 a0) a1)) (F12_1 n (F10_0 n (u3_0 a0) a1)))
noncomputable def c3_4 (n : (Nat)) (a0 : (List Nat)) (a1 : (Int)) : Bool := (!Go.Sx.strEq (F13_0 n (F10_0 n (u3_0 a0) a1)) (F14_0 n (F10_0 n (u3_0 a0) a1)))
noncomputable def c3_5 (n : (Nat)) (a0 : (List Nat)) (a1 : (Int)) : Bool := (!Go.Sx.eqI (F13_1 n (F10_0 n (u3_0 a0) a1)) (F14_1 n (F10_0 n (u3_0 a0) a1)))
noncomputable def c3_6 (n : (Nat)) (a0 : (List Nat)) (a1 : (Int)) : Bool := (!Go.Sx.eqI (F13_2 n (F10_0 n (u3_0 a0) a1)) (F14_2 n (F10_0 n (u3_0 a0) a1)))
noncomputable def F3 (n : Nat) (a0 : List Nat) (a1 : Int) : Option (Bool) := (bif (!Go.Sx.ltI (if Bool.true = Bool.true then if 70000 < (↑(List.length a0) : Int) then 70000 else (↑(List.length a0) : Int) else if 70000 > (↑(List.length a0) : Int) then 70000 else (↑(List.length a0) : Int)) 0) then (bif (Go.Sx.leB (Int.toNat (if Bool.true = Bool.true then if 70000 < (↑(List.length a0) : Int) then 70000 else (↑(List.length a0) : Int) else if 70000 > (↑(List.length a0) : Int) then 70000 else (↑(List.length a0) : Int))) (List.length a0)) then (bif (!Go.Sx.ltI (if Bool.true = Bool.true then if 100 < (↑(List.length a0) : Int) then 100 else (↑(List.length a0) : Int) else if 100 > (↑(List.length a0) : Int) then 100 else (↑(List.length a0) : Int)) 0) then (bif (Go.Sx.leB (Int.toNat (if Bool.true = Bool.true then if 100 < (↑(List.length a0) : Int) then 100 else (↑(List.length a0) : Int) else if 100 > (↑(List.length a0) : Int) then 100 else (↑(List.length a0) : Int))) (List.length a0)) then (bif (Option.isSome (F10 n (u3_0 a0) a1)) then (bif (Option.isSome (F11 n (u3_1 a0))) then (bif (Option.isSome (F12 n (u3_1 a0))) then (bif (Option.isSome (F13 n (u3_1 a0))) then (bif (Option.isSome (F14 n (u3_1 a0))) then (bif (!Go.Sx.strEq (F11_0 n (u3_1 a0)) (F12_0 n (u3_1 a0))) then (some false) else (bif (!Go.Sx.eqI (F11_1 n (u3_1 a0)) (F12_1 n (u3_1 a0))) then (some false) else (bif (!Go.Sx.strEq (F13_0 n (u3_1 a0)) (F14_0 n (u3_1 a0))) then (some false) else (bif (!Go.Sx.eqI (F13_1 n (u3_1 a0)) (F14_1 n (u3_1 a0))) then (some false) else (bif (!Go.Sx.eqI (F13_2 n (u3_1 a0)) (F14_2 n (u3_1 a0))) then (some false) else (bif (Option.isSome (F11 n (F10_0 n (u3_0 a0) a1))) then (bif (Option.isSome (F12 n (F10_0 n (u3_0 a0) a1))) then (bif (Option.isSome (F13 n (F10_0 n (u3_0 a0) a1))) then (bif (Option.isSome (F14 n (F10_0 n (u3_0 a0) a1))) then (bif (c3_2 n a0 a1) then (some false) else (bif (c3_3 n a0 a1) then (some false) else (bif (c3_4 n a0 a1) then (some false) else (bif (c3_5 n a0 a1) then (some false) else (bif (c3_6 n a0 a1) then (some false) else (some true)))))) else none) else none) else none) else none)))))) else none) else none) else none) else none) else none) else none) else none) else none) else none)
set_option maxHeartbeats 4000000 in
theorem form3 (n : Nat) (a0 : List Nat) (a1 : Int) (vz : Go.Sx.AV) : Go.Sx.wpS Try.prog Try.f3 [] vz (.st [0, 0, 2, 0, 0, 0, 0, 0] (.use [] (.bool true) (.st [2, 0, 0, 0, 2, 0, 0, 0] (.dr [.run, .run, .run, .run, .sp 0, .run, .run, .run, .run, .sp 0, .run, .use (.str (F10_0 n (u3_0 a0) a1)) [], .run, .run] (.st [0, 0, 0, 0, 0, 0, 0, 2, 0, 0, 0, 0, 2, 0, 0, 0, 0, 0, 2, 2, 0, 0, 0, 0, 2] (.use [] (.tup [.str (F11_0 n (u3_1 a0)), .int .i64 (F11_1 n (u3_1 a0))]) (.st [2, 2, 2, 2, 2, 0, 0, 0, 0, 2] (.use [] (.tup [.str (F12_0 n (u3_1 a0)), .int .i64 (F12_1 n (u3_1 a0))]) (.st [2, 2, 2, 2, 2, 0, 0, 0, 0, 2] (.use [] (.tup [.str (F13_0 n (u3_1 a0)), .int .i64 (F13_1 n (u3_1 a0)), .int .i64 (F13_2 n (u3_1 a0))]) (.st [2, 2, 2, 2, 2, 2, 2, 0, 0, 0, 0, 2] (.use [] (.tup [.str (F14_0 n (u3_1 a0)), .int .i64 (F14_1 n (u3_1 a0)), .int .i64 (F14_2 n (u3_1 a0))]) (.st [2, 2, 2, 2, 2, 2, 2, 0, 0, 0, 0, 2, 2, 2, 2] (.br 60 (.st [2, 2, 2, 2, 2, 2, 2, 2, 2, 2, 2, 2, 2, 2, 2, 2, 2, 2, 2, 0, 0, 0, 0, 0, 2, 0, 0, 2, 0, 0, 0, 0, 0] .ans) (.st [2, 2, 2, 2, 2] (.br 65 (.st [2, 2, 2, 2, 2, 2, 2, 2, 2, 2, 2, 2, 2, 2, 0, 0, 0, 0, 0, 2, 0, 0, 2, 0, 0, 0, 0, 0] .ans) (.st [2, 2, 2, 2, 2] (.br 70 (.st [2, 2, 2, 2, 2, 2, 2, 2, 2, 0, 0, 0, 0, 0, 2, 0, 0, 2, 0, 0, 0, 0, 0] .ans) (.st [2, 2, 2, 2, 2] (.br 75 (.st [2, 2, 2, 2, 0, 0, 0, 0, 0, 2, 0, 0, 2, 0, 0, 0, 0, 0] .ans) (.st [2, 2, 2, 2, 0, 0] (.br 79 (.st [0, 0, 0, 2, 0, 0, 2, 0, 0, 0, 0, 0] .ans) (.st [0, 2, 0, 0, 0, 2, 2, 0, 0, 0, 0, 0, 2, 0, 0, 0, 0, 2, 0, 0, 0, 0, 0, 2, 2, 0, 0, 0, 0, 2] (.use [] (.tup [.str (F11_0 n (F10_0 n (u3_0 a0) a1)), .int .i64 (F11_1 n (F10_0 n (u3_0 a0) a1))]) (.st [2, 2, 2, 2, 2, 0, 0, 0, 0, 2] (.use [] (.tup [.str (F12_0 n (F10_0 n (u3_0 a0) a1)), .int .i64 (F12_1 n (F10_0 n (u3_0 a0) a1))]) (.st [2, 2, 2, 2, 2, 0, 0, 0, 0, 2] (.use [] (.tup [.str (F13_0 n (F10_0 n (u3_0 a0) a1)), .int .i64 (F13_1 n (F10_0 n (u3_0 a0) a1)), .int .i64 (F13_2 n (F10_0 n (u3_0 a0) a1))]) (.st [2, 2, 2, 2, 2, 2, 2, 0, 0, 0, 0, 2] (.use [] (.tup [.str (F14_0 n (F10_0 n (u3_0 a0) a1)), .int .i64 (F14_1 n (F10_0 n (u3_0 a0) a1)), .int .i64 (F14_2 n (F10_0 n (u3_0 a0) a1))]) (.st [2, 2, 2, 2, 2, 2, 2, 0, 0, 0, 0, 2, 2, 2, 2] (.br 60 (.st [2, 2, 2, 2, 2, 2, 2, 2, 2, 2, 2, 2, 2, 2, 2, 2, 2, 2, 2, 0, 0, 0, 0, 0, 2, 0, 0, 2, 0, 0, 0, 0, 0] .ans) (.st [2, 2, 2, 2, 2] (.br 65 (.st [2, 2, 2, 2, 2, 2, 2, 2, 2, 2, 2, 2, 2, 2, 0, 0, 0, 0, 0, 2, 0, 0, 2, 0, 0, 0, 0, 0] .ans) (.st [2, 2, 2, 2, 2] (.br 70 (.st [2, 2, 2, 2, 2, 2, 2, 2, 2, 0, 0, 0, 0, 0, 2, 0, 0, 2, 0, 0, 0, 0, 0] .ans) (.st [2, 2, 2, 2, 2] (.br 75 (.st [2, 2, 2, 2, 0, 0, 0, 0, 0, 2, 0, 0, 2, 0, 0, 0, 0, 0] .ans) (.st [2, 2, 2, 2, 0, 0] (.br 79 (.st [0, 0, 0, 2, 0, 0, 2, 0, 0, 0, 0, 0] .ans) (.st [0, 2, 0, 0, 0, 2, 2, 0, 0, 0, 0, 0, 2, 0, 0, 0, 0, 2, 0, 0, 0, 0, 0, 0, 2, 0, 0, 2] .ans))))))))))))))))))))))))))))))))))))))))) [] (.code body3 (Go.Sx.startA [.str a0, .int .u8 a1] Try.f3) (Go.Sx.laidHeap [])) = (Go.Sx.Fact Try.prog [] 9 [] (.bool true) ∧ (Go.Sx.AN (Go.Sx.andB (Go.Sx.andB (Go.Sx.andB (!Go.Sx.ltI (if Bool.true = Bool.true then if 70000 < (↑(List.length a0) : Int) then 70000 else (↑(List.length a0) : Int) else if 70000 > (↑(List.length a0) : Int) then 70000 else (↑(List.length a0) : Int)) 0) Bool.true) (Go.Sx.leB (Int.toNat (if Bool.true = Bool.true then if 70000 < (↑(List.length a0) : Int) then 70000 else (↑(List.length a0) : Int) else if 70000 > (↑(List.length a0) : Int) then 70000 else (↑(List.length a0) : Int))) (List.length a0))) (Go.Sx.andB (Go.Sx.andB (Go.Sx.andB (!Go.Sx.ltI (if Bool.true = Bool.true then if 100 < (↑(List.length a0) : Int) then 100 else (↑(List.length a0) : Int) else if 100 > (↑(List.length a0) : Int) then 100 else (↑(List.length a0) : Int)) 0) Bool.true) (Go.Sx.leB (Int.toNat (if Bool.true = Bool.true then if 100 < (↑(List.length a0) : Int) then 100 else (↑(List.length a0) : Int) else if 100 > (↑(List.length a0) : Int) then 100 else (↑(List.length a0) : Int))) (List.length a0))) Bool.true)) (Go.Sx.Fact Try.prog [] 10 [.str (u3_0 a0), .int .u8 (a1)] (.str (F10_0 n (u3_0 a0) a1)) ∧ (Go.Sx.Fact Try.prog [] 11 [.str (u3_1 a0)] (.tup [.str (F11_0 n (u3_1 a0)), .int .i64 (F11_1 n (u3_1 a0))]) ∧ (Go.Sx.Fact Try.prog [] 12 [.str (u3_1 a0)] (.tup [.str (F12_0 n (u3_1 a0)), .int .i64 (F12_1 n (u3_1 a0))]) ∧ (Go.Sx.Fact Try.prog [] 13 [.str (u3_1 a0)] (.tup [.str (F13_0 n (u3_1 a0)), .int .i64 (F13_1 n (u3_1 a0)), .int .i64 (F13_2 n (u3_1 a0))]) ∧ (Go.Sx.Fact Try.prog [] 14 [.str (u3_1 a0)] (.tup [.str (F14_0 n (u3_1 a0)), .int .i64 (F14_1 n (u3_1 a0)), .int .i64 (F14_2 n (u3_1 a0))]) ∧ (Go.Sx.BR (!Go.Sx.strEq (F11_0 n (u3_1 a0)) (F12_0 n (u3_1 a0))) (vz = .bool false) (Go.Sx.BR (!Go.Sx.eqI (F11_1 n (u3_1 a0)) (F12_1 n (u3_1 a0))) (vz = .bool false) (Go.Sx.BR (!Go.Sx.strEq (F13_0 n (u3_1 a0)) (F14_0 n (u3_1 a0))) (vz = .bool false) (Go.Sx.BR (!Go.Sx.eqI (F13_1 n (u3_1 a0)) (F14_1 n (u3_1 a0))) (vz = .bool false) (Go.Sx.BR (!Go.Sx.eqI (F13_2 n (u3_1 a0)) (F14_2 n (u3_1 a0))) (vz = .bool false) (Go.Sx.Fact Try.prog [] 11 [.str (F10_0 n (u3_0 a0) a1)] (.tup [.str (F11_0 n (F10_0 n (u3_0 a0) a1)), .int .i64 (F11_1 n (F10_0 n (u3_0 a0) a1))]) ∧ (Go.Sx.Fact Try.prog [] 12 [.str (F10_0 n (u3_0 a0) a1)] (.tup [.str (F12_0 n (F10_0 n (u3_0 a0) a1)), .int .i64 (F12_1 n (F10_0 n (u3_0 a0) a1))]) ∧ (Go.Sx.Fact Try.prog [] 13 [.str (F10_0 n (u3_0 a0) a1)] (.tup [.str (F13_0 n (F10_0 n (u3_0 a0) a1)), .int .i64 (F13_1 n (F10_0 n (u3_0 a0) a1)), .int .i64 (F13_2 n (F10_0 n (u3_0 a0) a1))]) ∧ (Go.Sx.Fact Try.prog [] 14 [.str (F10_0 n (u3_0 a0) a1)] (.tup [.str (F14_0 n (F10_0 n (u3_0 a0) a1)), .int .i64 (F14_1 n (F10_0 n (u3_0 a0) a1)), .int .i64 (F14_2 n (F10_0 n (u3_0 a0) a1))]) ∧ (Go.Sx.BR (c3_2 n a0 a1) (vz = .bool false) (Go.Sx.BR (c3_3 n a0 a1) (vz = .bool false) (Go.Sx.BR (c3_4 n a0 a1) (vz = .bool false) (Go.Sx.BR (c3_5 n a0 a1) (vz = .bool false) (Go.Sx.BR (c3_6 n a0 a1) (vz = .bool false) (vz = .bool true)))))))))))))))))))))) := by kernel_rfl
set_option maxHeartbeats 4000000 in
theorem run3 (n : Nat) (a0 : List Nat) (a1 : Int)  (r : Bool) (h : F3 n a0 a1 = some r) : Go.Sx.Run Try.prog Try.f3 [] (.bool r) [] (.code body3 (Go.Sx.startA [.str a0, .int .u8 a1] Try.f3) (Go.Sx.laidHeap [])) := by
  exact Go.Sx.wpS_run (L := []) (by kernel_rfl) (form3 n a0 a1 (.bool r)) ((fun h => ⟨fact9 , (Go.Sx.guard_of fun h0 => (Go.Sx.guard_of fun h1 => (Go.Sx.guard_of fun h2 => (Go.Sx.guard_of fun h3 => (fun h => ⟨(Go.Sx.and_t (Go.Sx.and_t (Go.Sx.and_t h0 rfl) h1) (Go.Sx.and_t (Go.Sx.and_t (Go.Sx.and_t h2 rfl) h3) rfl)), (Go.Sx.guard_of fun h4 => (fun h => ⟨fact10 (n) (u3_0 a0) (a1) h4, (Go.Sx.guard_of fun h5 => (fun h => ⟨fact11 (n) (u3_1 a0) h5, (Go.Sx.guard_of fun h6 => (fun h => ⟨fact12 (n) (u3_1 a0) h6, (Go.Sx.guard_of fun h7 => (fun h => ⟨fact13 (n) (u3_1 a0) h7, (Go.Sx.guard_of fun h8 => (fun h => ⟨fact14 (n) (u3_1 a0) h8, (Go.Sx.br_of (fun h9 => (fun h => by cases h; rfl)) (fun h9 => (Go.Sx.br_of (fun h10 => (fun h => by cases h; rfl)) (fun h10 => (Go.Sx.br_of (fun h11 => (fun h => by cases h; rfl)) (fun h11 => (Go.Sx.br_of (fun h12 => (fun h => by cases h; rfl)) (fun h12 => (Go.Sx.br_of (fun h13 => (fun h => by cases h; rfl)) (fun h13 => (Go.Sx.guard_of fun h14 => (fun h => ⟨fact11 (n) (F10_0 n (u3_0 a0) a1) h14, (Go.Sx.guard_of fun h15 => (fun h => ⟨fact12 (n) (F10_0 n (u3_0 a0) a1) h15, (Go.Sx.guard_of fun h16 => (fun h => ⟨fact13 (n) (F10_0 n (u3_0 a0) a1) h16, (Go.Sx.guard_of fun h17 => (fun h => ⟨fact14 (n) (F10_0 n (u3_0 a0) a1) h17, (Go.Sx.br_of (fun h18 => (fun h => by cases h; rfl)) (fun h18 => (Go.Sx.br_of (fun h19 => (fun h => by cases h; rfl)) (fun h19 => (Go.Sx.br_of (fun h20 => (fun h => by cases h; rfl)) (fun h20 => (Go.Sx.br_of (fun h21 => (fun h => by cases h; rfl)) (fun h21 => (Go.Sx.br_of (fun h22 => (fun h => by cases h; rfl)) (fun h22 => (fun h => by cases h; rfl))))))))))) h⟩)) h⟩)) h⟩)) h⟩)))))))))))) h⟩)) h⟩)) h⟩)) h⟩)) h⟩)) h⟩))))) h⟩) h)

set_option maxRecDepth 100000
theorem cT {α : Type} {b : Bool} {x y : α} (h : b = true) : (bif b then x else y) = x := by rw [h]; rfl
theorem cF {α : Type} {b : Bool} {x y : α} (h : b = false) : (bif b then x else y) = y := by rw [h]; rfl
theorem ltT {x y : Int} (h : x < y) : ltI x y = true := by rw [ltI_t]; exact h
theorem ltF {x y : Int} (h : y ≤ x) : ltI x y = false := by rw [ltI_f]; exact h
theorem nltT {x y : Int} (h : y ≤ x) : (!ltI x y) = true := by rw [ltF h]; rfl
theorem nltF {x y : Int} (h : x < y) : (!ltI x y) = false := by rw [ltT h]; rfl
theorem eqT {x y : Int} (h : x = y) : eqI x y = true := by rw [eqI_t]; exact h
theorem eqF {x y : Int} (h : x ≠ y) : eqI x y = false := by rw [eqI_f]; exact h
theorem inT {i : Int} {n : Nat} (h1 : 0 ≤ i) (h2 : i.toNat < n) : inB i n = true := by rw [inB_t]; exact ⟨h1, h2⟩
theorem nbltT {a b : Nat} (h : a < b) : Nat.blt a b = true := Nat.ble_eq_true_of_le h
theorem nbleT {a b : Nat} (h : a ≤ b) : Nat.ble a b = true := Nat.ble_eq_true_of_le h
theorem nbeqT {a b : Nat} (h : a = b) : Nat.beq a b = true := by rw [h]; exact Nat.beq_refl b
theorem w8 {n : Int} (h1 : 0 ≤ n) (h2 : n ≤ 255) : wrapA .u8 n = n := wrap_in (by simpa [IntKind.min, IntKind.signed] using h1) (by simpa [IntKind.max, IntKind.signed, IntKind.bits] using h2)
theorem w16 {n : Int} (h1 : 0 ≤ n) (h2 : n ≤ 65535) : wrapA .u16 n = n := wrap_in (by simpa [IntKind.min, IntKind.signed] using h1) (by simpa [IntKind.max, IntKind.signed, IntKind.bits] using h2)
theorem ku (k : IntKind) (h : k.signed = false) (n : Int) : IntKind.wrap k n = n % (2 ^ k.bits : Nat) := by
  unfold IntKind.wrap; rw [h]; simp
theorem wu8 (n : Int) : wrapA .u8 n = n % 256 := by rw [← kwrap_eq, ku .u8 rfl]; rfl
theorem wu16 (n : Int) : wrapA .u16 n = n % 65536 := by rw [← kwrap_eq, ku .u16 rfl]; rfl
theorem wu32 (n : Int) : wrapA .u32 n = n % 4294967296 := by rw [← kwrap_eq, ku .u32 rfl]; rfl
theorem kku8 (n : Int) : IntKind.wrap .u8 n = n % 256 := by rw [ku .u8 rfl]; rfl
/-- octets as cells -/
def by8 (l : List Nat) : List AV := l.map fun (b : Nat) => AV.int .u8 (b : Int)
theorem by8_len (l : List Nat) : (by8 l).length = l.length := by simp [by8]
theorem by8_app (a b : List Nat) : by8 a ++ by8 b = by8 (a ++ b) := by simp [by8]
theorem by8_pure : ∀ (l : List Nat), pureAVs (by8 l) = true
  | [] => rfl
  | x :: l => by show pureAVs (.int .u8 (x : Int) :: by8 l) = true; simp only [pureAVs, pureAV, Bool.true_and]; exact by8_pure l
theorem by8_plain : ∀ (l : List Nat), (by8 l).all AV.plain = true
  | [] => rfl
  | x :: l => by show (AV.plain (.int .u8 (x : Int)) && (by8 l).all AV.plain) = true; simp only [AV.plain, Bool.true_and]; exact by8_plain l
theorem by8_u8 : ∀ (l : List Nat), (by8 l).all isU8 = true
  | [] => rfl
  | x :: l => by show (isU8 (.int .u8 (x : Int)) && (by8 l).all isU8) = true; simp only [isU8, Bool.true_and]; exact by8_u8 l
theorem by8_str (l : List Nat) {k : Nat} (h : k = l.length) : strOk (by8 l) 0 k = true ∧ strOf (by8 l) 0 k = l := by
  subst h
  have ht : ((by8 l).drop 0).take l.length = by8 l := by rw [List.drop_zero, List.take_of_length_le (by rw [by8_len]; exact Nat.le_refl _)]
  refine ⟨?_, ?_⟩
  · simp only [strOk, ht, Bool.and_eq_true]
    exact ⟨nbleT (by rw [by8_len]; omega), by8_u8 l⟩
  · unfold Go.Sx.strOf; rw [ht]; simp only [by8, List.map_map]
    conv => rhs; rw [← List.map_id l]
    exact List.map_congr_left fun x _ => by simp
theorem dropc {s : List Nat} {i : Nat} (h : i < s.length) : s.drop i = s.getD i 0 :: s.drop (i + 1) := by
  rw [List.drop_eq_getElem_cons h, List.getD_eq_getElem?_getD, List.getElem?_eq_getElem h]; rfl
theorem byteI_at (s : List Nat) (i : Nat) : byteI s (i : Int) = ((s.getD i 0 % 256 : Nat) : Int) := rfl
theorem strEq_same (s : List Nat) : strEq s s = true := by simp [strEq]
theorem strEq_bytes {a b : List Nat} (ha : ∀ x ∈ a, x < 256) (hb : ∀ x ∈ b, x < 256) : strEq a b = decide (a = b) := by
  have key : ∀ l : List Nat, (∀ x ∈ l, x < 256) → l.map (· % 256) = l := fun l h => by
    conv => rhs; rw [← List.map_id l]
    exact List.map_congr_left fun x hx => by have := h x hx; simp; omega
  unfold strEq; rw [key a ha, key b hb]
  by_cases e : a = b
  · subst e; simp
  · simp [e]
theorem xor_u8 {p m : Nat} (hp : p < 256) (hm : m < 256) : IntKind.wrap .u8 (↑(BitVec.toNat (BitVec.ofInt 8 (p : Int) ^^^ BitVec.ofInt 8 (m : Int))) : Int) = ((p ^^^ m : Nat) : Int) := by
  have h := Nat.xor_lt_two_pow (n := 8) (x := p) (y := m) (by omega) (by omega)
  rw [BitVec.toNat_xor, BitVec.ofInt_natCast, BitVec.ofInt_natCast, BitVec.toNat_ofNat, BitVec.toNat_ofNat, Nat.mod_eq_of_lt (by omega), Nat.mod_eq_of_lt (by omega), kku8]
  omega
theorem xor_step (a b : Nat) : a ^^^ b = (if a % 2 = b % 2 then 0 else 1) + 2 * (a / 2 ^^^ b / 2) := by
  have h1 : (a ^^^ b) / 2 = a / 2 ^^^ b / 2 := Nat.xor_div_two
  have h2 : (a ^^^ b) % 2 = 1 ↔ ¬ ((a % 2 = 1) ↔ (b % 2 = 1)) := Nat.xor_mod_two_eq_one
  have h3 := Nat.div_add_mod (a ^^^ b) 2
  rw [h1] at h3
  have ha : a % 2 < 2 := Nat.mod_lt _ (by omega)
  have hb : b % 2 < 2 := Nat.mod_lt _ (by omega)
  have hx : (a ^^^ b) % 2 < 2 := Nat.mod_lt _ (by omega)
  split
  · rename_i e
    have : (a ^^^ b) % 2 ≠ 1 := fun q => (h2.1 q) (by rw [e])
    omega
  · rename_i e
    have : (a ^^^ b) % 2 = 1 := h2.2 (fun q => e (by
      by_cases z : a % 2 = 1
      · have := q.1 z; omega
      · have : ¬ b % 2 = 1 := fun y => z (q.2 y)
        omega))
    omega
theorem by8_put (a z w : List Nat) (h : w.length ≤ z.length) : putOk (by8 (a ++ z)) (0 + a.length * 1) w.length = true ∧ putL (by8 (a ++ z)) (0 + a.length * 1) (by8 w) = by8 (a ++ w ++ z.drop w.length) := by
  refine ⟨nbleT (by rw [by8_len, List.length_append]; omega), ?_⟩
  unfold putL
  rw [Nat.zero_add, Nat.mul_one, by8_len]
  unfold by8
  simp [List.drop_append, ← List.map_take, ← List.map_drop]
theorem rep0 : ∀ n, repeatL n [AV.int .u8 0] = by8 (List.replicate n 0)
  | 0 => rfl
  | n + 1 => by rw [repeatL, rep0 n, List.replicate_succ]; rfl
def hexd (d : Nat) : Nat := if d < 10 then 48 + d else 55 + d
def hex : List Nat → List Nat
  | [] => []
  | x :: s => hexd (x % 256 / 16) :: hexd (x % 256 % 16) :: hex s
theorem hexd_tab : ∀ d, d < 16 → ([48, 49, 50, 51, 52, 53, 54, 55, 56, 57, 65, 66, 67, 68, 69, 70] : List Nat).getD d 0 % 256 = hexd d := by decide
theorem hexd_lt {d : Nat} (h : d < 16) : hexd d < 256 := by unfold hexd; split <;> omega
theorem and15 {b : Nat} (hb : b < 256) : IntKind.wrap .u8 (↑(BitVec.toNat (BitVec.ofInt 8 (b : Int) &&& BitVec.ofInt 8 15)) : Int) = ((b % 16 : Nat) : Int) := by
  have e : (BitVec.ofInt 8 15 : BitVec 8) = BitVec.ofNat 8 15 := rfl
  rw [BitVec.ofInt_natCast, e, BitVec.toNat_and, BitVec.toNat_ofNat, BitVec.toNat_ofNat, Nat.mod_eq_of_lt (by omega), kku8]
  have : b &&& 15 % 2 ^ 8 = b % 16 := Nat.and_two_pow_sub_one_eq_mod b 4
  rw [this]; omega
theorem tab_at {d : Nat} (h : d < 16) : byteI (List.map UInt8.toNat (Array.toList (ByteArray.data { data := #[48, 49, 50, 51, 52, 53, 54, 55, 56, 57, 65, 66, 67, 68, 69, 70] }))) (d : Int) = (hexd d : Int) := by
  have e : (List.map UInt8.toNat (Array.toList (ByteArray.data { data := #[48, 49, 50, 51, 52, 53, 54, 55, 56, 57, 65, 66, 67, 68, 69, 70] }))) = ([48, 49, 50, 51, 52, 53, 54, 55, 56, 57, 65, 66, 67, 68, 69, 70] : List Nat) := rfl
  rw [e, byteI_at, hexd_tab d h]
theorem hex_len : ∀ s : List Nat, (hex s).length = 2 * s.length
  | [] => rfl
  | x :: s => by simp only [hex, List.length_cons, hex_len s]; omega
def hexS (tt : List Nat) : List Nat × Int := if 65536 < 2 * tt.length + 1 then ([], 3) else (hex tt ++ [62], 0)
theorem fd16 (b : Nat) : Int.fdiv (b : Int) 16 = ((b / 16 : Nat) : Int) := by rw [fdiv_pos _ (by omega)]; omega
theorem l11 (tt : List Nat) (hs : tt.length ≤ 65536) : ∀ (n i : Nat) (acc z : List Nat), tt.length - i < n → i ≤ tt.length → acc.length = 2 * i → acc.length + z.length = 2 * tt.length + 1 →
    L11_0 tt n acc.length (2 * tt.length + 1) i (by8 (acc ++ z)) = some (if 65536 < 2 * tt.length + 1 then ([], 3) else (acc ++ hex (tt.drop i) ++ [62], 0)) := by
  intro n
  induction n with
  | zero => intro i acc z h; omega
  | succ n ih =>
    intro i acc z hn h1 ha hz
    rw [L11_0_succ]
    by_cases q : i < tt.length
    · have hb : tt.getD i 0 % 256 < 256 := Nat.mod_lt _ (by omega)
      have e1 : t11_30 tt i = (hexd (tt.getD i 0 % 256 / 16) : Int) := by unfold t11_30; rw [byteI_at, fd16]; exact tab_at (by omega)
      have e2 : t11_31 tt i = (hexd (tt.getD i 0 % 256 % 16) : Int) := by unfold t11_31; rw [byteI_at, and15 hb]; exact tab_at (by omega)
      have e4 : wrapA .i64 (Int.add (i : Int) 1) = ((i + 1 : Nat) : Int) := by rw [add_int]; exact wrap64 (by omega) (by omega)
      obtain ⟨p1, p2⟩ := by8_put acc z [hexd (tt.getD i 0 % 256 / 16), hexd (tt.getD i 0 % 256 % 16)] (by simp; omega)
      have e3 : l11_33 tt acc.length i (by8 (acc ++ z)) = by8 (acc ++ [hexd (tt.getD i 0 % 256 / 16), hexd (tt.getD i 0 % 256 % 16)] ++ z.drop 2) := by
        unfold l11_33; rw [e1, e2]; exact p2
      have e5 : putOk (by8 (acc ++ z)) (0 + acc.length * 1) (List.length (List.take 2 (List.drop 0 [AV.int .u8 (t11_30 tt i), AV.int .u8 (t11_31 tt i)]))) = true := p1
      have c1 : Nat.blt (2 * tt.length + 1) (acc.length + 2) = false := by
        cases h : Nat.blt (2 * tt.length + 1) (acc.length + 2) with
        | false => rfl
        | true => have := Nat.le_of_ble_eq_true h; omega
      rw [ltT (by omega), inT (by omega) (by omega), byteI_at, fd16, inT (by omega) (by omega), and15 hb, inT (by omega) (by omega), c1, (nbleT (by omega) : Nat.ble (acc.length + 2) (2 * tt.length + 1) = true), e5, e3, e4]
      simp only [by8_pure, cond_true, cond_false]
      have hl : (acc ++ [hexd (tt.getD i 0 % 256 / 16), hexd (tt.getD i 0 % 256 % 16)]).length = acc.length + 2 := by simp
      have := ih (i + 1) (acc ++ [hexd (tt.getD i 0 % 256 / 16), hexd (tt.getD i 0 % 256 % 16)]) (z.drop 2) (by omega) (by omega) (by rw [hl]; omega) (by rw [hl, List.length_drop]; omega)
      rw [hl] at this
      rw [this, dropc q]
      simp [hex]
    · obtain ⟨p1, p2⟩ := by8_put acc z [62] (by simp; omega)
      have hz1 : z.length = 1 := by omega
      have hd : z.drop 1 = [] := List.drop_eq_nil_of_le (by omega)
      have e3 : l11_38 acc.length (by8 (acc ++ z)) = by8 (acc ++ [62]) := by
        unfold l11_38; have := p2; simp only [List.length_singleton, hd, List.append_nil] at this; exact this
      obtain ⟨s1, s2⟩ := by8_str (acc ++ [62]) (k := acc.length + 1) (by simp)
      have c1 : Nat.blt (2 * tt.length + 1) (acc.length + 1) = false := by
        cases h : Nat.blt (2 * tt.length + 1) (acc.length + 1) with
        | false => rfl
        | true => have := Nat.le_of_ble_eq_true h; omega
      have p1' : putOk (by8 (acc ++ z)) (0 + acc.length * 1) 1 = true := p1
      have hd2 : tt.drop i = [] := List.drop_eq_nil_of_le (by omega)
      rw [ltF (by omega), c1, (nbleT (by omega) : Nat.ble (acc.length + 1) (2 * tt.length + 1) = true), p1', e3, s1, s2, hd2]
      unfold c11_34
      simp only [cond_true, cond_false]
      by_cases hL : 65536 < 2 * tt.length + 1
      · rw [ltT (by omega), if_pos hL]; rfl
      · rw [ltF (by omega), if_neg hL]; simp [hex]
theorem f11 {n : Nat} (hn : 70000 ≤ n) (tt : List Nat) (hl : tt.length ≤ 4000000000000000000) : F11 n tt = some (hexS tt) := by
  unfold F11
  by_cases h1 : 65536 < tt.length
  · unfold hexS; rw [ltT (by omega), if_pos (by omega)]; rfl
  have e : t11_29 tt = ((2 * tt.length + 1 : Nat) : Int) := by
    unfold t11_29
    have a : wrapA .i64 (Int.mul 2 (tt.length : Int)) = 2 * (tt.length : Int) := by rw [mul_int, wrap64 (by omega) (by omega)]
    rw [a, add_int, wrap64 (by omega) (by omega)]; omega
  rw [ltF (by omega), e, nltT (by omega), nltT (by omega), Int.toNat_natCast, rep0]
  simp only [by8_pure, cond_true, cond_false]
  have := l11 tt (by omega) n 0 [] (List.replicate (2 * tt.length + 1) 0) (by omega) (by omega) rfl (by simp)
  simp only [List.nil_append, List.length_nil, List.drop_zero] at this
  exact this
theorem f21 {d : Nat} (hd : d < 16) : F21_0 (d : Int) = (hexd d : Int) := by
  unfold F21_0 F21 t21_0 hexd
  by_cases h : d < 10
  · have e : wrapA .i64 (Int.add 48 (d : Int)) = ((48 + d : Nat) : Int) := by rw [add_int, wrap64 (by omega) (by omega)]; omega
    rw [ltT (by omega), e, w8 (by omega) (by omega), if_pos h]; rfl
  · have e : wrapA .i64 (Int.sub (wrapA .i64 (Int.add 65 (d : Int))) 10) = ((55 + d : Nat) : Int) := by
      have a : wrapA .i64 (Int.add 65 (d : Int)) = 65 + (d : Int) := by rw [add_int, wrap64 (by omega) (by omega)]
      rw [a, sub_int, wrap64 (by omega) (by omega)]; omega
    have w := w8 (n := ((55 + d : Nat) : Int)) (by omega) (by omega)
    rw [ltF (by omega), e, w, if_neg h]; rfl
theorem td16 {b : Nat} (h : b < 256) : wrapA .i64 (Int.tdiv (wrapA .i64 (b : Int)) 16) = ((b / 16 : Nat) : Int) ∧ Int.tmod (wrapA .i64 (b : Int)) 16 = ((b % 16 : Nat) : Int) := by
  have e : wrapA .i64 (b : Int) = b := wrap64 (by omega) (by omega)
  rw [e, tdiv_pos (by omega), tmod_pos (by omega), wrap64 (by omega) (by omega)]; omega
theorem l12 (tt : List Nat) (hs : tt.length ≤ 65536) : ∀ (n i : Nat) (acc : List Nat), tt.length - i < n → i ≤ tt.length → acc.length = 2 * i →
    L12_1 tt n acc.length i (by8 acc) = some (acc ++ hex (tt.drop i) ++ [62], 0) := by
  intro n
  induction n with
  | zero => intro i acc h; omega
  | succ n ih =>
    intro i acc hn h1 ha
    rw [L12_1_succ]
    by_cases q : i < tt.length
    · have hb : tt.getD i 0 % 256 < 256 := Nat.mod_lt _ (by omega)
      have e4 : wrapA .i64 (Int.add (i : Int) 1) = ((i + 1 : Nat) : Int) := by rw [add_int]; exact wrap64 (by omega) (by omega)
      have e3 : l12_10 tt i (by8 acc) = by8 (acc ++ [hexd (tt.getD i 0 % 256 / 16), hexd (tt.getD i 0 % 256 % 16)]) := by
        unfold l12_10; rw [byteI_at, (td16 hb).1, (td16 hb).2, f21 (by omega), f21 (by omega), ← by8_app]; rfl
      rw [ltT (by omega), inT (by omega) (by omega), nbltT (by omega), nbleT (by omega), nbeqT (by rw [by8_len]; omega), e3, e4]
      simp only [by8_pure, cond_true]
      have hl : (acc ++ [hexd (tt.getD i 0 % 256 / 16), hexd (tt.getD i 0 % 256 % 16)]).length = acc.length + 2 := by simp
      have := ih (i + 1) (acc ++ [hexd (tt.getD i 0 % 256 / 16), hexd (tt.getD i 0 % 256 % 16)]) (by omega) (by omega) (by rw [hl]; omega)
      rw [hl] at this
      rw [this, dropc q]
      simp [hex]
    · have hd2 : tt.drop i = [] := List.drop_eq_nil_of_le (by omega)
      have e3 : l12_11 (by8 acc) = by8 (acc ++ [62]) := by unfold l12_11; rw [← by8_app]; rfl
      obtain ⟨s1, s2⟩ := by8_str (acc ++ [62]) (k := acc.length + 1) (by simp)
      rw [ltF (by omega)]
      simp only [cond_false]
      rw [nbltT (by omega), nbleT (by omega), nbeqT (by rw [by8_len]; omega), e3, s1, s2, hd2]
      simp [hex]
theorem f12 {n : Nat} (hn : 70000 ≤ n) (tt : List Nat) (hl : tt.length ≤ 4000000000000000000) : F12 n tt = some (hexS tt) := by
  unfold F12 hexS c12_8
  have a : wrapA .i64 (Int.mul 2 (tt.length : Int)) = 2 * (tt.length : Int) := by rw [mul_int, wrap64 (by omega) (by omega)]
  rw [a, add_int, wrap64 (by omega) (by omega)]
  by_cases h1 : 65536 < 2 * tt.length + 1
  · rw [ltT (by omega), if_pos h1]; rfl
  rw [ltF (by omega), if_neg h1]
  simp only [cond_false]
  obtain ⟨m, rfl⟩ : ∃ m, n = m + 1 := ⟨n - 1, by omega⟩
  rw [L12_0_succ]
  cases tt with
  | nil => rfl
  | cons x s =>
    have hb : x % 256 < 256 := Nat.mod_lt _ (by omega)
    have e3 : l12_9 (x :: s) = by8 [hexd (x % 256 / 16), hexd (x % 256 % 16)] := by
      unfold l12_9
      rw [show byteI (x :: s) 0 = ((x % 256 : Nat) : Int) from rfl, (td16 hb).1, (td16 hb).2, f21 (by omega), f21 (by omega)]; rfl
    rw [ltT (by simp only [List.length_cons]; omega), inT (by omega) (by simp only [List.length_cons]; omega), e3]
    simp only [cond_true]
    simp only [List.length_cons] at h1 hl
    exact l12 (x :: s) (by simp only [List.length_cons]; omega) m 1 [hexd (x % 256 / 16), hexd (x % 256 % 16)] (by simp only [List.length_cons]; omega) (by simp only [List.length_cons]; omega) rfl
def blank (b : Nat) : Bool := eqI (b : Int) 0 || (eqI (b : Int) 9 || (eqI (b : Int) 10 || (eqI (b : Int) 12 || (eqI (b : Int) 13 || eqI (b : Int) 32))))
theorem chain (b : Nat) {α : Type} (X Y : α) : (bif eqI (b : Int) 0 then X else (bif eqI (b : Int) 9 then X else (bif eqI (b : Int) 10 then X else (bif eqI (b : Int) 12 then X else (bif eqI (b : Int) 13 then X else (bif eqI (b : Int) 32 then X else Y)))))) = (bif blank b then X else Y) := by
  unfold blank
  generalize eqI (b : Int) 0 = a0
  generalize eqI (b : Int) 9 = a1
  generalize eqI (b : Int) 10 = a2
  generalize eqI (b : Int) 12 = a3
  generalize eqI (b : Int) 13 = a4
  generalize eqI (b : Int) 32 = a5
  cases a0 <;> cases a1 <;> cases a2 <;> cases a3 <;> cases a4 <;> cases a5 <;> rfl
theorem f24 (b : Nat) : F24_0 (b : Int) = blank b := by
  unfold F24_0 F24 blank
  generalize eqI (b : Int) 0 = a0
  generalize eqI (b : Int) 9 = a1
  generalize eqI (b : Int) 10 = a2
  generalize eqI (b : Int) 12 = a3
  generalize eqI (b : Int) 13 = a4
  generalize eqI (b : Int) 32 = a5
  cases a0 <;> cases a1 <;> cases a2 <;> cases a3 <;> cases a4 <;> cases a5 <;> rfl
def hv (c : Nat) : Option Nat := if 48 ≤ c ∧ c ≤ 57 then some (c - 48) else if 65 ≤ c ∧ c ≤ 70 then some (c - 55) else if 97 ≤ c ∧ c ≤ 102 then some (c - 87) else none
def hvI (c : Nat) : Int := match hv c with
  | some d => d
  | none => -1
theorem hv_lt {c d : Nat} (h : hv c = some d) : d < 16 := by
  unfold hv at h
  split at h
  · cases h; omega
  split at h
  · cases h; omega
  split at h
  · cases h; omega
  · cases h
theorem f25' : ∀ c : Nat, c < 256 → F25_0 (c : Int) = hvI c := by decide +kernel
theorem f43' : ∀ c : Nat, c < 256 → F43_0 (c : Int) = hvI c := by decide +kernel
theorem f25 {c : Nat} (h : c < 256) : F25_0 (c : Int) = hvI c := f25' c h
theorem f43 {c : Nat} (h : c < 256) : F43_0 (c : Int) = hvI c := f43' c h
/-- the octets of a hexadecimal text -/
def uh : List Nat → Nat → List Nat → Option Nat → List Nat × Int × Int
  | [], _, _, _ => ([], 0, 5)
  | c :: s, i, out, p => bif eqI ((c % 256 : Nat) : Int) 62 then (out ++ (match p with
      | none => []
      | some d => [16 * d]), (i + 1 : Nat), 0) else (bif blank (c % 256) then uh s (i + 1) out p else (match hv (c % 256) with
      | none => ([], 0, 5)
      | some d => match p with
        | none => uh s (i + 1) out (some d)
        | some e => uh s (i + 1) (out ++ [16 * e + d]) none))
def pn : Option Nat → Int
  | none => 0
  | some _ => 1
def pd : Option Nat → Int
  | none => 0
  | some d => d
theorem or16 {e d : Nat} (he : e < 16) (hd : d < 16) : wrapA .u8 (IntKind.wrap .i64 (↑(BitVec.toNat (BitVec.ofInt 64 (wrapA .i64 (Int.mul (e : Int) 16)) ||| BitVec.ofInt 64 (d : Int))) : Int)) = ((16 * e + d : Nat) : Int) := by
  have a : wrapA .i64 (Int.mul (e : Int) 16) = ((16 * e : Nat) : Int) := by rw [mul_int, wrap64 (by omega) (by omega)]; omega
  have b : 16 * e ||| d = 16 * e + d := (Nat.two_pow_add_eq_or_of_lt (i := 4) (by omega) e).symm
  rw [a, BitVec.ofInt_natCast, BitVec.ofInt_natCast, BitVec.toNat_or, BitVec.toNat_ofNat, BitVec.toNat_ofNat, Nat.mod_eq_of_lt (by omega), Nat.mod_eq_of_lt (by omega), b, kwrap_eq, wrap64 (by omega) (by omega), w8 (by omega) (by omega)]
theorem mul16 {e : Nat} (he : e < 16) : wrapA .u8 (wrapA .i64 (Int.mul (e : Int) 16)) = ((16 * e : Nat) : Int) := by
  have a : wrapA .i64 (Int.mul (e : Int) 16) = ((16 * e : Nat) : Int) := by rw [mul_int, wrap64 (by omega) (by omega)]; omega
  rw [a, w8 (by omega) (by omega)]
theorem hvI_n {c : Nat} (h : hv c = none) : hvI c = -1 := by unfold hvI; rw [h]
theorem hvI_s {c d : Nat} (h : hv c = some d) : hvI c = d := by unfold hvI; rw [h]
theorem nx1 {i : Nat} (h : i ≤ 70000) : wrapA .i64 (Int.add (i : Int) 1) = ((i + 1 : Nat) : Int) := by rw [add_int]; exact wrap64 (by omega) (by omega)
theorem uh_cons (c : Nat) (s : List Nat) (i : Nat) (out : List Nat) (p : Option Nat) : uh (c :: s) i out p = (bif eqI ((c % 256 : Nat) : Int) 62 then (out ++ (match p with
      | none => []
      | some d => [16 * d]), ((i + 1 : Nat) : Int), 0) else (bif blank (c % 256) then uh s (i + 1) out p else (match hv (c % 256) with
      | none => ([], 0, 5)
      | some d => match p with
        | none => uh s (i + 1) out (some d)
        | some e => uh s (i + 1) (out ++ [16 * e + d]) none))) := rfl
theorem uh_nil (i : Nat) (out : List Nat) (p : Option Nat) : uh [] i out p = ([], 0, 5) := rfl
theorem l13b (tt : List Nat) (hs : tt.length ≤ 65536) : ∀ (n i : Nat) (out : List Nat) (p : Option Nat), tt.length - i < n → i ≤ tt.length → out.length ≤ i → (∀ d, p = some d → d < 16 ∧ out.length < i) →
    L13_1 tt n i out.length (pn p) (pd p) (by8 out) = some (uh (tt.drop i) i out p) := by
  intro n
  induction n with
  | zero => intro i out p h; omega
  | succ n ih =>
    intro i out p hn h1 ho hp
    rw [L13_1_succ]
    by_cases q : i < tt.length
    · have hb : tt.getD i 0 % 256 < 256 := Nat.mod_lt _ (by omega)
      rw [ltT (by omega), inT (by omega) (by omega), byteI_at, nx1 (by omega), dropc q, uh_cons]
      simp only [by8_pure, cond_true]
      rw [chain]
      by_cases c62 : tt.getD i 0 % 256 = 62
      · rw [eqT (by omega : ((tt.getD i 0 % 256 : Nat) : Int) = 62), show blank (tt.getD i 0 % 256) = false by rw [c62]; rfl]
        simp only [cond_true, cond_false]
        cases p with
        | none =>
          obtain ⟨s1, s2⟩ := by8_str out (k := out.length) rfl
          rw [show eqI (pn none) 1 = false from rfl, ltF (by omega : (0 : Int) ≤ ((i + 1 : Nat) : Int)), ltF (by omega : (out.length : Int) ≤ 65536), s1, s2]
          simp
        | some d =>
          have hd := (hp d rfl).1
          have hd2 := (hp d rfl).2
          have e3 : l13_11 (pd (some d)) (by8 out) = by8 (out ++ [16 * d]) := by
            unfold l13_11; rw [show pd (some d) = (d : Int) from rfl, mul16 hd, ← by8_app]; rfl
          obtain ⟨s1, s2⟩ := by8_str (out ++ [16 * d]) (k := out.length + 1) (by simp)
          rw [show eqI (pn (some d)) 1 = true from rfl, nbltT (Nat.lt_succ_self _), nbleT (by omega), nbeqT (by rw [by8_len]; omega), e3, ltF (by omega : (0 : Int) ≤ ((i + 1 : Nat) : Int))]
          unfold c13_12
          rw [ltF (by omega : ((out.length + 1 : Nat) : Int) ≤ 65536), s1, s2]
          rfl
      · rw [eqF (by omega : ((tt.getD i 0 % 256 : Nat) : Int) ≠ 62)]
        simp only [cond_false]
        cases hbl : blank (tt.getD i 0 % 256) with
        | true =>
          simp only [cond_true]
          exact ih (i + 1) out p (by omega) (by omega) (by omega) (fun d hd => ⟨(hp d hd).1, by omega⟩)
        | false =>
          simp only [cond_false]
          rw [f43 hb]
          cases hh : hv (tt.getD i 0 % 256) with
          | none => rw [hvI_n hh]; rfl
          | some d =>
            have hd := hv_lt hh
            rw [hvI_s hh, ltF (by omega : (0 : Int) ≤ (d : Int))]
            simp only [cond_false]
            cases p with
            | none =>
              rw [show eqI (pn none) 0 = true from rfl]
              simp only [cond_true]
              exact ih (i + 1) out (some d) (by omega) (by omega) (by omega) (fun d' hd' => by cases hd'; exact ⟨hd, by omega⟩)
            | some e =>
              have he := (hp e rfl).1
              have he2 := (hp e rfl).2
              have e3 : l13_14 tt i (pd (some e)) (by8 out) = by8 (out ++ [16 * e + d]) := by
                unfold l13_14 t13_13; rw [byteI_at, f43 hb, hvI_s hh, show pd (some e) = (e : Int) from rfl, or16 he hd, ← by8_app]; rfl
              rw [show eqI (pn (some e)) 0 = false from rfl, nbltT (Nat.lt_succ_self _), nbleT (by omega), nbeqT (by rw [by8_len]; omega), e3]
              simp only [by8_pure, cond_true, cond_false]
              have := ih (i + 1) (out ++ [16 * e + d]) none (by omega) (by omega) (by simp; omega) (fun d' hd' => by cases hd')
              rw [List.length_append] at this
              exact this
    · rw [ltF (by omega), List.drop_eq_nil_of_le (by omega), uh_nil]; rfl
theorem l13a (tt : List Nat) (hs : tt.length ≤ 65536) : ∀ (n i : Nat) (p : Option Nat), tt.length - i < n → i ≤ tt.length → (∀ d, p = some d → d < 16 ∧ 0 < i) →
    L13_0 tt n i (pn p) (pd p) = some (uh (tt.drop i) i [] p) := by
  intro n
  induction n with
  | zero => intro i p h; omega
  | succ n ih =>
    intro i p hn h1 hp
    rw [L13_0_succ]
    by_cases q : i < tt.length
    · have hb : tt.getD i 0 % 256 < 256 := Nat.mod_lt _ (by omega)
      rw [ltT (by omega), inT (by omega) (by omega), byteI_at, nx1 (by omega), dropc q, uh_cons]
      simp only [cond_true]
      rw [chain]
      by_cases c62 : tt.getD i 0 % 256 = 62
      · rw [eqT (by omega : ((tt.getD i 0 % 256 : Nat) : Int) = 62), show blank (tt.getD i 0 % 256) = false by rw [c62]; rfl]
        simp only [cond_true, cond_false]
        cases p with
        | none => rw [show eqI (pn none) 1 = false from rfl, ltF (by omega : (0 : Int) ≤ ((i + 1 : Nat) : Int))]; rfl
        | some d =>
          have hd := (hp d rfl).1
          rw [show eqI (pn (some d)) 1 = true from rfl, ltF (by omega : (0 : Int) ≤ ((i + 1 : Nat) : Int)), show pd (some d) = (d : Int) from rfl, mul16 hd]
          rfl
      · rw [eqF (by omega : ((tt.getD i 0 % 256 : Nat) : Int) ≠ 62)]
        simp only [cond_false]
        cases hbl : blank (tt.getD i 0 % 256) with
        | true =>
          simp only [cond_true]
          exact ih (i + 1) p (by omega) (by omega) (fun d hd => ⟨(hp d hd).1, by omega⟩)
        | false =>
          simp only [cond_false]
          rw [f43 hb]
          cases hh : hv (tt.getD i 0 % 256) with
          | none => rw [hvI_n hh]; rfl
          | some d =>
            have hd := hv_lt hh
            rw [hvI_s hh, ltF (by omega : (0 : Int) ≤ (d : Int))]
            simp only [cond_false]
            cases p with
            | none =>
              rw [show eqI (pn none) 0 = true from rfl]
              simp only [cond_true]
              exact ih (i + 1) (some d) (by omega) (by omega) (fun d' hd' => by cases hd'; exact ⟨hd, by omega⟩)
            | some e =>
              have he := (hp e rfl).1
              have e3 : l13_10 tt i (pd (some e)) = by8 [16 * e + d] := by
                unfold l13_10; rw [byteI_at, f43 hb, hvI_s hh, show pd (some e) = (e : Int) from rfl, or16 he hd]; rfl
              rw [show eqI (pn (some e)) 0 = false from rfl, e3]
              simp only [cond_false]
              exact l13b tt hs n (i + 1) [16 * e + d] none (by omega) (by omega) (by simp) (fun d' hd' => by cases hd')
    · rw [ltF (by omega), List.drop_eq_nil_of_le (by omega), uh_nil]; rfl
def uhS (tt : List Nat) : List Nat × Int × Int := if 65536 < tt.length then ([], 0, 3) else uh tt 0 [] none
theorem f13 {n : Nat} (hn : 70000 ≤ n) (tt : List Nat) : F13 n tt = some (uhS tt) := by
  unfold F13 uhS
  by_cases h1 : 65536 < tt.length
  · rw [ltT (by omega), if_pos h1]; rfl
  rw [ltF (by omega), if_neg h1]
  simp only [cond_false]
  exact l13a tt (by omega) n 0 none (by omega) (by omega) (fun d hd => by cases hd)
def ci (l : List Nat) : List AV := l.map fun (d : Nat) => AV.int .i64 (d : Int)
theorem ci_len (l : List Nat) : (ci l).length = l.length := by simp [ci]
theorem ci_app (a b : List Nat) : ci a ++ ci b = ci (a ++ b) := by simp [ci]
theorem ci_pure : ∀ (l : List Nat), pureAVs (ci l) = true
  | [] => rfl
  | x :: l => by show pureAVs (.int .i64 (x : Int) :: ci l) = true; simp only [pureAVs, pureAV, Bool.true_and]; exact ci_pure l
theorem ci_nth (l : List Nat) (m : Nat) (h : m < l.length) : nth (ci l) m = some (.int .i64 (l.getD m 0 : Int)) := by
  rw [nth_eq]; unfold ci; rw [List.getElem?_map, List.getElem?_eq_getElem h, List.getD_eq_getElem?_getD, List.getElem?_eq_getElem h]; rfl
theorem ci_cell {l : List Nat} {m : Nat} (h : m < l.length) : cellB (ci l) m (CK.int .i64) = true ∧ intC (ci l) m = (l.getD m 0 : Int) := by
  have hn := ci_nth l m h
  refine ⟨?_, ?_⟩
  · simp only [cellB, isIntC, hn]; rfl
  · simp only [intC, hn]
def unp : List Nat → List Nat
  | [] => []
  | b :: s => b / 16 :: b % 16 :: unp s
theorem unp_app : ∀ (a b : List Nat), unp (a ++ b) = unp a ++ unp b
  | [], b => rfl
  | x :: a, b => by simp only [List.cons_append, unp, unp_app a b]
theorem unp_len : ∀ a : List Nat, (unp a).length = 2 * a.length
  | [] => rfl
  | x :: a => by simp only [unp, List.length_cons, unp_len a]; omega
theorem unp_at : ∀ (a : List Nat) (k : Nat), k < a.length → (unp a).getD (2 * k) 0 = a.getD k 0 / 16 ∧ (unp a).getD (2 * k + 1) 0 = a.getD k 0 % 16
  | [], k, h => by simp at h
  | x :: a, 0, _ => ⟨rfl, rfl⟩
  | x :: a, k + 1, h => by
    have := unp_at a k (by simpa using h)
    rw [show 2 * (k + 1) = 2 * k + 1 + 1 by omega]
    simp only [unp, List.getD_cons_succ]
    exact this
theorem atN (v : Nat) : atI 0 (v : Int) 1 = v := by rw [atI_eq]; omega
theorem l14d (tt : List Nat) (out : List Nat) (hb : ∀ b ∈ out, b < 256) (ho : out.length ≤ 70000) (i : Nat) (hi : i ≤ 65536) : ∀ (n k : Nat), out.length - k < n → k ≤ out.length →
    L14_4 tt n (2 * out.length) i k ((2 * k : Nat) : Int) (ci (unp out)) (by8 (out.take k)) = some (out, ((i + 1 : Nat) : Int), 0) := by
  intro n
  induction n with
  | zero => intro k h; omega
  | succ n ih =>
    intro k hn h1
    rw [L14_4_succ]
    by_cases q : k < out.length
    · obtain ⟨u1, u2⟩ := unp_at out k q
      have hl := unp_len out
      obtain ⟨p1, p2⟩ := ci_cell (l := unp out) (m := 2 * k) (by omega)
      obtain ⟨p3, p4⟩ := ci_cell (l := unp out) (m := 2 * k + 1) (by omega)
      have e1 : wrapA .i64 (Int.add ((2 * k : Nat) : Int) 1) = ((2 * k + 1 : Nat) : Int) := by rw [add_int, wrap64 (by omega) (by omega)]; omega
      have e2 : wrapA .i64 (Int.add ((2 * k : Nat) : Int) 2) = ((2 * (k + 1) : Nat) : Int) := by rw [add_int, wrap64 (by omega) (by omega)]; omega
      have hx : out.getD k 0 < 256 := by
        rw [List.getD_eq_getElem?_getD, List.getElem?_eq_getElem q]; exact hb _ (List.getElem_mem q)
      have ev : t14_31 ((2 * k : Nat) : Int) (ci (unp out)) = (out.getD k 0 : Int) := by
        unfold t14_31
        rw [e1, atN, atN, p2, p4, u1, u2]
        have a : wrapA .i64 (Int.mul 16 ((out.getD k 0 / 16 : Nat) : Int)) = ((16 * (out.getD k 0 / 16) : Nat) : Int) := by rw [mul_int, wrap64 (by omega) (by omega)]; omega
        rw [a, add_int, wrap64 (by omega) (by omega), w8 (by omega) (by omega)]; omega
      have e3 : l14_32 ((2 * k : Nat) : Int) (ci (unp out)) (by8 (out.take k)) = by8 (out.take (k + 1)) := by
        unfold l14_32; rw [ev, List.take_add_one, List.getD_eq_getElem?_getD, List.getElem?_eq_getElem q, ← by8_app]; rfl
      have htl : (out.take k).length = k := by rw [List.length_take]; omega
      rw [ltT (by omega), inT (by omega) (by omega), e1, atN, atN, p1, inT (by omega) (by omega), p3, nbltT (Nat.lt_succ_self k), nbleT (by omega), nbeqT (by rw [by8_len]; omega), e3, e2]
      simp only [by8_pure, ci_pure, cond_true]
      exact ih (k + 1) (by omega) (by omega)
    · have hk : k = out.length := by omega
      subst hk
      obtain ⟨s1, s2⟩ := by8_str out (k := out.length) rfl
      rw [ltF (by omega), List.take_length, s1, s2, nx1 (i := i) (by omega)]; rfl
theorem l14c (tt : List Nat) (out : List Nat) (hb : ∀ b ∈ out, b < 256) (ho : out.length ≤ 65540) (i : Nat) (hi : i ≤ 65536) (hne : out ≠ []) {n : Nat} (hn : 70000 ≤ n) :
    L14_3 tt n (2 * out.length) i (ci (unp out)) = some (out, ((i + 1 : Nat) : Int), 0) := by
  obtain ⟨m, rfl⟩ : ∃ m, n = m + 1 := ⟨n - 1, by omega⟩
  rw [L14_3_succ]
  have hpos : 0 < out.length := List.length_pos_iff.2 hne
  obtain ⟨u1, u2⟩ := unp_at out 0 hpos
  have hl := unp_len out
  obtain ⟨p1, p2⟩ := ci_cell (l := unp out) (m := 0) (by omega)
  obtain ⟨p3, p4⟩ := ci_cell (l := unp out) (m := 1) (by omega)
  have hx : out.getD 0 0 < 256 := by
    rw [List.getD_eq_getElem?_getD, List.getElem?_eq_getElem hpos]; exact hb _ (List.getElem_mem hpos)
  have e3 : l14_30 (ci (unp out)) = by8 (out.take 1) := by
    unfold l14_30
    have u1 : (unp out).getD 0 0 = out.getD 0 0 / 16 := u1
    have u2 : (unp out).getD 1 0 = out.getD 0 0 % 16 := u2
    rw [p2, p4, u1, u2]
    have a : wrapA .i64 (Int.mul 16 ((out.getD 0 0 / 16 : Nat) : Int)) = ((16 * (out.getD 0 0 / 16) : Nat) : Int) := by rw [mul_int, wrap64 (by omega) (by omega)]; omega
    have b : wrapA .u8 (wrapA .i64 (Int.add ((16 * (out.getD 0 0 / 16) : Nat) : Int) ((out.getD 0 0 % 16 : Nat) : Int))) = (out.getD 0 0 : Int) := by
      rw [add_int, wrap64 (by omega) (by omega), w8 (by omega) (by omega)]; omega
    rw [a, b]
    cases out with
    | nil => exact absurd rfl hne
    | cons x s => rfl
  rw [ltT (by omega), inT (by omega) (by omega), p1, inT (by omega) (by omega), p3, e3]
  simp only [ci_pure, cond_true]
  exact l14d tt out hb (by omega) i hi m 1 (by omega) (by omega)
def ds (out : List Nat) (p : Option Nat) : List Nat := unp out ++ p.toList
theorem unp1 {e d : Nat} (he : e < 16) (hd : d < 16) (out : List Nat) : unp (out ++ [16 * e + d]) = unp out ++ [e, d] := by
  rw [unp_app]
  have : (16 * e + d) / 16 = e ∧ (16 * e + d) % 16 = d := by omega
  simp only [unp, this.1, this.2]
theorem l14b (tt : List Nat) (hs : tt.length ≤ 65536) : ∀ (n i : Nat) (out : List Nat) (p : Option Nat), tt.length + 70000 - i < n → i ≤ tt.length → out.length ≤ i → (∀ b ∈ out, b < 256) → (∀ d, p = some d → d < 16) → ds out p ≠ [] →
    L14_2 tt n (ds out p).length i (ci (ds out p)) = some (uh (tt.drop i) i out p) := by
  intro n
  induction n with
  | zero => intro i out p h; omega
  | succ n ih =>
    intro i out p hn h1 ho hob hp hne
    rw [L14_2_succ]
    have hlen : (ds out p).length = 2 * out.length + p.toList.length := by unfold ds; rw [List.length_append, unp_len]
    have hpl : p.toList.length ≤ 1 := by cases p <;> simp
    by_cases q : i < tt.length
    · have hb : tt.getD i 0 % 256 < 256 := Nat.mod_lt _ (by omega)
      rw [ltT (by omega), inT (by omega) (by omega), byteI_at, nx1 (by omega), dropc q, uh_cons, f24, f25 hb]
      simp only [ci_pure, cond_true]
      by_cases c62 : tt.getD i 0 % 256 = 62
      · rw [eqT (by omega : ((tt.getD i 0 % 256 : Nat) : Int) = 62)]
        simp only [cond_true]
        unfold c14_27
        rw [tmod_pos (by omega)]
        cases p with
        | none =>
          have h2 : (ds out none).length = 2 * out.length := by rw [hlen]; simp
          have h3 : ds out none = unp out := by simp [ds]
          rw [eqF (by omega)]
          simp only [cond_false]
          have hne' : out ≠ [] := fun h => hne (by rw [h3, h]; rfl)
          rw [h3] at *
          rw [unp_len]
          have := l14c tt out hob (by omega) i (by omega) hne' (n := n) (by omega)
          rw [this]; simp
        | some d =>
          have hd := hp d rfl
          have h2 : (ds out (some d)).length = 2 * out.length + 1 := by rw [hlen]; simp
          rw [eqT (by omega)]
          have e3 : l14_28 (ci (ds out (some d))) = ci (unp (out ++ [16 * d])) := by
            unfold l14_28
            have := unp1 hd (show 0 < 16 by omega) out
            rw [Nat.add_zero] at this
            rw [this]
            simp [ds, ci]
          have e4 : (ds out (some d)).length + 1 = 2 * (out ++ [16 * d]).length := by rw [h2]; simp; omega
          rw [nbltT (Nat.lt_succ_self _), nbleT (by omega), nbeqT (by rw [ci_len]; omega), e3, e4]
          simp only [ci_pure, cond_true]
          exact l14c tt (out ++ [16 * d]) (fun b hb => by
            rcases List.mem_append.1 hb with h | h
            · exact hob b h
            · rw [List.mem_singleton] at h; omega) (by simp; omega) i (by omega) (by simp) (by omega)
      · rw [eqF (by omega : ((tt.getD i 0 % 256 : Nat) : Int) ≠ 62)]
        simp only [cond_false]
        cases hbl : blank (tt.getD i 0 % 256) with
        | true =>
          simp only [cond_true]
          exact ih (i + 1) out p (by omega) (by omega) (by omega) hob hp hne
        | false =>
          simp only [cond_false]
          cases hh : hv (tt.getD i 0 % 256) with
          | none => rw [hvI_n hh]; rfl
          | some d =>
            have hd := hv_lt hh
            rw [hvI_s hh, ltF (by omega : (0 : Int) ≤ (d : Int))]
            simp only [cond_false]
            have e3 : l14_29 tt i (ci (ds out p)) = ci (ds out p ++ [d]) := by
              unfold l14_29; rw [byteI_at, f25 hb, hvI_s hh, ← ci_app]; rfl
            rw [nbltT (Nat.lt_succ_self _), nbleT (by omega), nbeqT (by rw [ci_len]; omega), e3]
            simp only [ci_pure, cond_true]
            cases p with
            | none =>
              have e5 : ds out none ++ [d] = ds out (some d) := by simp [ds]
              have e6 : (ds out none).length + 1 = (ds out (some d)).length := by rw [← e5]; simp
              rw [e5, e6]
              exact ih (i + 1) out (some d) (by omega) (by omega) (by omega) hob (fun d' hd' => by cases hd'; exact hd) (by simp [ds])
            | some e =>
              have he := hp e rfl
              have e5 : ds out (some e) ++ [d] = ds (out ++ [16 * e + d]) none := by
                unfold ds; rw [unp1 he hd]; simp
              have e6 : (ds out (some e)).length + 1 = (ds (out ++ [16 * e + d]) none).length := by rw [← e5]; simp
              rw [e5, e6]
              have h2 : (ds out (some e)).length = 2 * out.length + 1 := by rw [hlen]; simp
              by_cases hoi : out.length < i
              · exact ih (i + 1) (out ++ [16 * e + d]) none (by omega) (by omega) (by simp; omega) (fun b hb => by
                  rcases List.mem_append.1 hb with h | h
                  · exact hob b h
                  · rw [List.mem_singleton] at h; omega) (fun d' hd' => by cases hd') (by rw [← e5]; simp)
              · exact ih (i + 1) (out ++ [16 * e + d]) none (by omega) (by omega) (by simp; omega) (fun b hb => by
                  rcases List.mem_append.1 hb with h | h
                  · exact hob b h
                  · rw [List.mem_singleton] at h; omega) (fun d' hd' => by cases hd') (by rw [← e5]; simp)
    · rw [ltF (by omega), List.drop_eq_nil_of_le (by omega), uh_nil]; rfl
theorem l14a (tt : List Nat) (hs : tt.length ≤ 65536) : ∀ (n i : Nat), tt.length + 80000 - i < n → i ≤ tt.length →
    L14_0 tt n i = some (uh (tt.drop i) i [] none) := by
  intro n
  induction n with
  | zero => intro i h; omega
  | succ n ih =>
    intro i hn h1
    rw [L14_0_succ]
    by_cases q : i < tt.length
    · have hb : tt.getD i 0 % 256 < 256 := Nat.mod_lt _ (by omega)
      rw [ltT (by omega), inT (by omega) (by omega), byteI_at, nx1 (by omega), dropc q, uh_cons, f24, f25 hb]
      simp only [cond_true]
      by_cases c62 : tt.getD i 0 % 256 = 62
      · rw [eqT (by omega : ((tt.getD i 0 % 256 : Nat) : Int) = 62)]
        obtain ⟨m, rfl⟩ : ∃ m, n = m + 1 := ⟨n - 1, by omega⟩
        rw [L14_1_succ, nx1 (by omega)]; rfl
      · rw [eqF (by omega : ((tt.getD i 0 % 256 : Nat) : Int) ≠ 62)]
        simp only [cond_false]
        cases hbl : blank (tt.getD i 0 % 256) with
        | true => simp only [cond_true]; exact ih (i + 1) (by omega) (by omega)
        | false =>
          simp only [cond_false]
          cases hh : hv (tt.getD i 0 % 256) with
          | none => rw [hvI_n hh]; rfl
          | some d =>
            have hd := hv_lt hh
            rw [hvI_s hh, ltF (by omega : (0 : Int) ≤ (d : Int))]
            simp only [cond_false]
            exact l14b tt hs n (i + 1) [] (some d) (by omega) (by omega) (by simp) (fun b hb => by cases hb) (fun d' hd' => by cases hd'; exact hd) (by simp [ds])
    · rw [ltF (by omega), List.drop_eq_nil_of_le (by omega), uh_nil]; rfl
theorem f14 {n : Nat} (hn : 200000 ≤ n) (tt : List Nat) : F14 n tt = some (uhS tt) := by
  unfold F14 uhS
  by_cases h1 : 65536 < tt.length
  · rw [ltT (by omega), if_pos h1]; rfl
  rw [ltF (by omega), if_neg h1]
  simp only [cond_false]
  exact l14a tt (by omega) n 0 (by omega) (by omega)
theorem subS0 (s : List Nat) (k : Nat) : subS s 0 k = s.take k := by simp [subS]
theorem mins {m : Int} (hm : 0 ≤ m) (a : List Nat) : 0 ≤ (if m < (a.length : Int) then m else (a.length : Int)) ∧ (if m < (a.length : Int) then m else (a.length : Int)).toNat ≤ a.length ∧ ((if m < (a.length : Int) then m else (a.length : Int)).toNat : Int) ≤ m := by
  split <;> omega
theorem l10 (tt : List Nat) (pa : Int) (h0 : 0 ≤ pa) : ∀ (n v : Nat) (s : List Nat), 20 - v < n → v ≤ 16 → s.length ≤ 80000 → ∃ r, L10_0 tt pa n s v = some r ∧ r.length ≤ 80000 := by
  intro n
  induction n with
  | zero => intro v s h; omega
  | succ n ih =>
    intro v s hn hv hs
    rw [L10_0_succ, tmod_pos h0]
    by_cases q : (v : Int) < pa % 16
    · rw [ltT q]
      simp only [cond_true]
      by_cases c : 40000 < s.length
      · rw [ltT (by omega)]; exact ⟨s, rfl, hs⟩
      · have e : wrapA .u8 (Int.add (v : Int) 1) = ((v + 1 : Nat) : Int) := by rw [add_int, w8 (by omega) (by omega)]; omega
        rw [ltF (by omega), nbltT (by omega), e]
        simp only [cond_true, cond_false]
        exact ih (v + 1) (s ++ s) (by omega) (by omega) (by simp; omega)
    · rw [ltF (by omega)]; exact ⟨s, rfl, hs⟩
theorem f10 {n : Nat} (hn : 70000 ≤ n) (tt : List Nat) (pa : Int) (h0 : 0 ≤ pa) (h : tt.length ≤ 80000) : (F10 n tt pa).isSome = true ∧ (F10_0 n tt pa).length ≤ 80000 := by
  obtain ⟨r, h1, h2⟩ := l10 tt pa h0 n 0 tt (by omega) (by omega) h
  have e : F10 n tt pa = some r := h1
  refine ⟨by rw [e]; rfl, ?_⟩
  unfold F10_0; rw [e]; exact h2
theorem law_ok_ (a0 : List Nat) (a1 : Int) (w0 : IsBytes a0) (w1 : (Lit.int .u8 a1).wf = true) : ∃ n, F3 n a0 a1 = some true := by
  obtain ⟨n, hn⟩ : ∃ n : Nat, 200000 ≤ n := ⟨200000, Nat.le_refl _⟩
  refine ⟨n, ?_⟩
  have hn' : 70000 ≤ n := by omega
  have v1 := wf_u8 w1
  obtain ⟨x1, x2, x3⟩ := mins (m := 70000) (by omega) a0
  obtain ⟨y1, y2, y3⟩ := mins (m := 100) (by omega) a0
  have eX : (u3_1 a0).length ≤ 70000 := by unfold u3_1; rw [subS0, List.length_take]; omega
  have eY : (u3_0 a0).length ≤ 100 := by unfold u3_0; rw [subS0, List.length_take]; omega
  unfold F3 c3_2 c3_3 c3_4 c3_5 c3_6
  generalize u3_1 a0 = X at *
  generalize u3_0 a0 = Y at *
  obtain ⟨z1, z2⟩ := f10 hn' Y a1 v1.1 (by omega)
  generalize F10_0 n Y a1 = Z at *
  have a := f11 hn' X (by omega)
  have b := f12 hn' X (by omega)
  have c := f13 hn' X
  have d := f14 hn X
  have a' := f11 hn' Z (by omega)
  have b' := f12 hn' Z (by omega)
  have c' := f13 hn' Z
  have d' := f14 hn Z
  have a0 : F11_0 n X = F12_0 n X ∧ F11_1 n X = F12_1 n X := by unfold F11_0 F11_1 F12_0 F12_1; rw [a, b]; exact ⟨rfl, rfl⟩
  have a0' : F11_0 n Z = F12_0 n Z ∧ F11_1 n Z = F12_1 n Z := by unfold F11_0 F11_1 F12_0 F12_1; rw [a', b']; exact ⟨rfl, rfl⟩
  have c0 : F13_0 n X = F14_0 n X ∧ F13_1 n X = F14_1 n X ∧ F13_2 n X = F14_2 n X := by unfold F13_0 F13_1 F13_2 F14_0 F14_1 F14_2; rw [c, d]; exact ⟨rfl, rfl, rfl⟩
  have c0' : F13_0 n Z = F14_0 n Z ∧ F13_1 n Z = F14_1 n Z ∧ F13_2 n Z = F14_2 n Z := by unfold F13_0 F13_1 F13_2 F14_0 F14_1 F14_2; rw [c', d']; exact ⟨rfl, rfl, rfl⟩
  simp only [a, b, c, d, a', b', c', d', z1, a0.1, a0.2, a0'.1, a0'.2, c0.1, c0.2.1, c0.2.2, c0'.1, c0'.2.1, c0'.2.2, strEq_same, eqT, Option.isSome_some, Bool.not_true, cond_true, cond_false, if_true, nltT x1, nltT y1, leB, nbleT x2, nbleT y2]

end

theorem walk {w : World} {E : Nat → Go.Sx.Ent} (hE : Go.Sx.GlobE E) (a0 : List Nat) (a1 : Int) (wa0 : Go.Sx.IsBytes a0) (wa1 : (Lit.int .u8 a1).wf = true) (hL : Go.Sx.LaidAt E w []) {ARGS : List Value} (ha : Go.Sx.RelL (Go.Sx.laidE E) [.str a0, .int .u8 a1] ARGS) :
    Calls Try.prog 3 ARGS.toArray w fun e w' => e = .returned (.bool true) ∧ Below w.heap.size w w' := by
  obtain ⟨n, hn⟩ := law_ok_ a0 a1 wa0 wa1
  exact Go.Sx.call_args_at okayed hE ha Try.func3 body3_eq (run3 n a0 a1  true hn) hL

set_option maxRecDepth 100000 in
theorem lifted (os : Os) (started : os.Started) (H : Type) (enc : TypeId × Value → H) :
    ReturnsInHanded {} Try.checked os 3 .any (Rows.asciiHexesSpec.pre6 enc Try.prog Try.f3 Rows.asciiHexesRow.domain false) (Rows.asciiHexesSpec.post enc Try.prog Try.f3 false true false false) := by
  refine returnsInHanded_of_change (C := Try.checked) own started (by kernel_rfl) Try.func3
    (ChangeSpec.witness6 (enc := enc) (C := Try.checked) false ⟨#[], #[.string ⟨#[]⟩, .int .u8 0], []⟩ 8 (by kernel_rfl) (by kernel_rfl) (by kernel_rfl) (by kernel_rfl)) ?_
  intro W base args ds gs before hval0 hW hcnd _
  have hval : ∀ (j : Nat) t v, Try.f3.params[j]? = some t → args[j]? = some v → Value.okWide Try.prog W .any base t v := hval0
  have hW' := hW
  obtain ⟨p, q, hA0, hV, rfl, hfz, hnd⟩ := hW
  have hA : DataW.TrodAll enc Try.prog W 0 (fun _ => true) true Try.f3.params.toList args.toList ds p := hA0
  rw [Try.params3] at hA hval
  obtain ⟨v0, vs0, d0, ds0, p0, q0, hargs, rfl, rfl, h0, r0⟩ := trodAll_cons hA
  obtain ⟨v1, vs1, d1, ds1, p1, q1, rfl, rfl, rfl, h1, r1⟩ := trodAll_cons r0
  obtain ⟨rfl, rfl, rfl⟩ := trodAll_nil r1
  obtain rfl : args = #[v0, v1] := by cases args; simp_all
  obtain ⟨rfl, rfl⟩ := trodVars_none hV
  obtain ⟨cs0, k0⟩ := Go.Sx.open_cs (ks := [.str]) (by kernel_rfl) h0
  have g0 := k0
  obtain ⟨cs1, k1⟩ := Go.Sx.open_cs (ks := [.int .u8]) (by kernel_rfl) h1
  have g1 := k1
  clear hA0
  have done : Calls Try.prog 3 #[v0, v1] W (fun e w' => e = .returned (.bool true) ∧ Below W.heap.size W w') := by
    obtain ⟨_, _, _, _, rfl, _, ⟨a0, rfl, wa0, rfl⟩, k0⟩ := k0
    obtain ⟨rfl, _⟩ := k0
    obtain ⟨_, _, _, _, rfl, _, ⟨a1, rfl, wa1, rfl⟩, k1⟩ := k1
    obtain ⟨rfl, _⟩ := k1
    exact walk (Go.Sx.argE_glob _) (Go.Sx.bytesOf a0) a1 (Go.Sx.bytes_ok wa0) wa1 (Go.Sx.laid_nil _ _) (ARGS := [v0, v1]) ⟨_, _, Go.Sx.rel_one_cs (E := (Go.Sx.argE [])) (n := 0) (t := 9) (Go.Sx.one_str Try.underlying9 (hval 0 9 v0 rfl rfl)) g0 trivial rfl, ⟨_, _, Go.Sx.rel_one_cs (E := (Go.Sx.argE [])) (n := 0) (t := 5) (Go.Sx.one_int Try.underlying5 (hval 1 5 v1 rfl rfl)) g1 trivial rfl, rfl, rfl⟩, rfl⟩
  refine done.mono fun e W' ⟨he, hg⟩ => ?_
  subst he
  exact ⟨_, rfl, Go.Sx.post_of_below (pv := []) hW' (fun _ _ _ => (trodAll_cons_mk (shut_bool Try.underlying4 _) trodAll_mk0)) (fun sp hsp => (trodAll_cons_mk (Go.Sx.stays_below laidOut (by kernel_rfl) (Nat.le_of_ble_eq_true (by kernel_rfl)) h0 hg (fun p hp => hsp p (by simp [hp]))) (trodAll_cons_mk (Go.Sx.stays_below laidOut (by kernel_rfl) (Nat.le_of_ble_eq_true (by kernel_rfl)) h1 hg (fun p hp => hsp p (by simp [hp]))) trodAll_mk0))) (fun _ _ => rfl) (by simp)
    hg (ok_one (by kernel_rfl) rfl (okWide_bool_mk Try.underlying4 _))⟩

theorem over : Rows.asciiHexesRow.holds Try.pinned (OpenSpec.ofChange Rows.asciiHexesSpec) :=
  OpenClaim.holds_of_wide 3 Try.f3 rfl rfl rfl rfl rfl rfl rfl ⟨rfl, rfl, rfl, rfl, rfl⟩ rfl rfl rfl rfl rfl (by kernel_rfl) Try.func3 (by kernel_rfl)
    (of_decide_eq_true (by kernel_rfl)) (by unfold Func.isWrapper; first | (rw [if_pos (by decide +kernel)]; kernel_rfl) | (rw [if_neg (by decide +kernel)]; exact ⟨rfl, rfl⟩))
    (fun os started H enc _ => lifted os started H enc)

theorem proved : Rows.AsciiHexesSaid := over
#print axioms proved
end Go.Proofs.Ytllkcnfilignkaa.asciiHexes
