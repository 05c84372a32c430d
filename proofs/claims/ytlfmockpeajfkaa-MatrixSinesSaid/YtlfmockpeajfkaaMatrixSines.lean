/- 'chase/chaselaw20.MatrixSines' returns true for every argument, and nothing that was there is changed. Its run, with unknown arguments, is worked out by an executor that is proved sound against the model: so each function is a term; the rest is arithmetic. -/
import Derived.Test.YtlfmockpeajfkaaRows
import Derived.WalkKit
import Derived.ProofKit
import Derived.OpenShut
import Derived.Test.YtlfmockpeajfkaaSxF
namespace Go.Proofs.Ytlfmockpeajfkaa.matrixSines
open Go.ChangeShapes Go.WideShapes Go.ChangeAt Go.WideMaps Go.WideElems Go.RowKit
set_option linter.unusedVariables false

theorem own : ownKnob Try.prog.godebug = none := by kernel_rfl
theorem okayed : Go.Sx.okProg Try.prog = true := by kernel_rfl
theorem laidOut : laidOutB Try.prog = true := by kernel_rfl
section
open Go.Sx
set_option maxRecDepth 1000000

noncomputable def body22 : Go.Code := (Try.f22.body).getD .skip
theorem body22_eq : Try.f22.body = some body22 := Go.Sx.some_getD (by kernel_rfl)
set_option maxRecDepth 1000000 in
theorem ran22 : Go.Sx.endB Try.prog Try.f22 (Go.Sx.go Try.prog 100000 [] (Go.Sx.script [1]) [] (.code body22 (Go.Sx.startA [] Try.f22) (Go.Sx.laidHeap []))) = true := by kernel_rfl
theorem fact22 : Go.Sx.Fact Try.prog [] 22 [] (.bool true) := Go.Sx.fact_of_run okayed (by kernel_rfl) (by kernel_rfl) (by kernel_rfl) Try.func22 body22_eq (Go.Sx.run_end ran22)
noncomputable def body38 : Go.Code := (Try.f38.body).getD .skip
theorem body38_eq : Try.f38.body = some body38 := Go.Sx.some_getD (by kernel_rfl)
noncomputable def c38_0 (x : (Int)) (y : (Int)) : Bool := (!Go.Sx.ltI x (Go.IntKind.wrap Go.IntKind.i64 (0 - y)))
noncomputable def F38 (x : Int) (y : Int) : Option (Bool) := (bif (c38_0 x y) then (some (!Go.Sx.ltI y x)) else (some false))
set_option maxHeartbeats 4000000 in
theorem form38 (n : Nat) (x : Int) (y : Int) (vz : Go.Sx.AV) : Go.Sx.wpS Try.prog Try.f38 [] vz (.st [0, 0, 2, 0, 0, 0, 0, 2, 2, 2, 2, 2] (.br 9 (.st [2, 2, 2, 2, 2, 0, 0, 2] .ans) (.st [2, 2, 2, 2, 2, 0, 0, 2] .ans))) [] (.code body38 (Go.Sx.startA [.int .i64 x, .int .i64 y] Try.f38) (Go.Sx.laidHeap [])) = (Go.Sx.BR (c38_0 x y) (vz = .bool (!Go.Sx.ltI y x)) (vz = .bool false)) := by kernel_rfl
theorem run38 (n : Nat) (x : Int) (y : Int) (r : Bool) (h : F38 x y = some r) : Go.Sx.Run Try.prog Try.f38 [] (.bool r) [] (.code body38 (Go.Sx.startA [.int .i64 x, .int .i64 y] Try.f38) (Go.Sx.laidHeap [])) := by
  exact Go.Sx.wpS_run (L := []) (by kernel_rfl) (form38 n x y (.bool r)) ((Go.Sx.br_of (fun h0 => (fun h => by cases h; rfl)) (fun h0 => (fun h => by cases h; rfl))) h)
noncomputable def F38_0 (x : Int) (y : Int) : Bool := ((F38 x y).getD default)
theorem F38_some (x : Int) (y : Int) : (F38 x y).isSome = true := by
  unfold F38
  repeat' (first | rfl | apply Go.Sx.some_br)
theorem fact38 (x : Int) (y : Int) : Go.Sx.Fact Try.prog [] 38 [.int .i64 x, .int .i64 y] (.bool (F38_0 x y)) := Go.Sx.fact_of_run okayed (by kernel_rfl) (by kernel_rfl) (by kernel_rfl) Try.func38 body38_eq (run38 0 x y ((F38 x y).getD default) (Go.Sx.getD_some (F38_some x y)))
noncomputable def body46 : Go.Code := (Try.f46.body).getD .skip
theorem body46_eq : Try.f46.body = some body46 := Go.Sx.some_getD (by kernel_rfl)
noncomputable def c46_0 (x : (Int)) (y : (Int)) : Bool := (!Go.Sx.ltI x (Go.IntKind.wrap Go.IntKind.i64 (0 - y)))
noncomputable def F46 (x : Int) (y : Int) : Option (Bool) := (bif (c46_0 x y) then (some (!Go.Sx.ltI y x)) else (some false))
set_option maxHeartbeats 4000000 in
theorem form46 (n : Nat) (x : Int) (y : Int) (vz : Go.Sx.AV) : Go.Sx.wpS Try.prog Try.f46 [] vz (.st [0, 0, 2, 0, 0, 0, 0, 2, 2, 2, 2, 2] (.br 9 (.st [2, 2, 2, 2, 2, 0, 0, 2] .ans) (.st [2, 2, 2, 2, 2, 0, 0, 2] .ans))) [] (.code body46 (Go.Sx.startA [.int .i64 x, .int .i64 y] Try.f46) (Go.Sx.laidHeap [])) = (Go.Sx.BR (c46_0 x y) (vz = .bool (!Go.Sx.ltI y x)) (vz = .bool false)) := by kernel_rfl
theorem run46 (n : Nat) (x : Int) (y : Int) (r : Bool) (h : F46 x y = some r) : Go.Sx.Run Try.prog Try.f46 [] (.bool r) [] (.code body46 (Go.Sx.startA [.int .i64 x, .int .i64 y] Try.f46) (Go.Sx.laidHeap [])) := by
  exact Go.Sx.wpS_run (L := []) (by kernel_rfl) (form46 n x y (.bool r)) ((Go.Sx.br_of (fun h0 => (fun h => by cases h; rfl)) (fun h0 => (fun h => by cases h; rfl))) h)
noncomputable def F46_0 (x : Int) (y : Int) : Bool := ((F46 x y).getD default)
theorem F46_some (x : Int) (y : Int) : (F46 x y).isSome = true := by
  unfold F46
  repeat' (first | rfl | apply Go.Sx.some_br)
theorem fact46 (x : Int) (y : Int) : Go.Sx.Fact Try.prog [] 46 [.int .i64 x, .int .i64 y] (.bool (F46_0 x y)) := Go.Sx.fact_of_run okayed (by kernel_rfl) (by kernel_rfl) (by kernel_rfl) Try.func46 body46_eq (run46 0 x y ((F46 x y).getD default) (Go.Sx.getD_some (F46_some x y)))
noncomputable def body58 : Go.Code := (Try.f58.body).getD .skip
theorem body58_eq : Try.f58.body = some body58 := Go.Sx.some_getD (by kernel_rfl)
noncomputable def F58 (x : Int) (y : Int) : Option (Int) := (bif (!Go.Sx.eqI y 0) then (bif (Go.Sx.ltI (Int.tmod x y) 0) then (some (Go.Sx.wrapA Go.IntKind.i64 (Int.sub (Go.Sx.wrapA Go.IntKind.i64 (Int.tdiv x y)) 1))) else (some (Go.Sx.wrapA Go.IntKind.i64 (Int.tdiv x y)))) else none)
set_option maxHeartbeats 4000000 in
theorem form58 (n : Nat) (x : Int) (y : Int) (vz : Go.Sx.AV) : Go.Sx.wpS Try.prog Try.f58 [] vz (.st [0, 0, 2, 0, 0, 0, 0, 2, 2] (.sp 2 (.st [2, 0, 0, 0, 0, 0, 2, 2] (.sp 2 (.st [2, 0, 0] (.br 12 (.st [0, 0, 2, 2, 2, 0, 0, 0, 0, 2, 2, 0, 0, 2] .ans) (.st [0, 2, 0, 0, 0, 2, 2, 0, 0, 2] .ans))))))) [] (.code body58 (Go.Sx.startA [.int .i64 x, .int .i64 y] Try.f58) (Go.Sx.laidHeap [])) = (Go.Sx.AN (!Go.Sx.eqI y 0) (Go.Sx.AN (!Go.Sx.eqI y 0) (Go.Sx.BR (Go.Sx.ltI (Int.tmod x y) 0) (vz = .int .i64 (Go.Sx.wrapA Go.IntKind.i64 (Int.sub (Go.Sx.wrapA Go.IntKind.i64 (Int.tdiv x y)) 1))) (vz = .int .i64 (Go.Sx.wrapA Go.IntKind.i64 (Int.tdiv x y)))))) := by kernel_rfl
theorem run58 (n : Nat) (x : Int) (y : Int) (r : Int) (h : F58 x y = some r) : Go.Sx.Run Try.prog Try.f58 [] (.int .i64 r) [] (.code body58 (Go.Sx.startA [.int .i64 x, .int .i64 y] Try.f58) (Go.Sx.laidHeap [])) := by
  exact Go.Sx.wpS_run (L := []) (by kernel_rfl) (form58 n x y (.int .i64 r)) ((Go.Sx.guard_of fun h0 => (fun h => ⟨h0, (fun h => ⟨h0, (Go.Sx.br_of (fun h1 => (fun h => by cases h; rfl)) (fun h1 => (fun h => by cases h; rfl))) h⟩) h⟩)) h)
noncomputable def F58_0 (x : Int) (y : Int) : Int := ((F58 x y).getD default)
theorem fact58 (x : Int) (y : Int) (h : (F58 x y).isSome = true) : Go.Sx.Fact Try.prog [] 58 [.int .i64 x, .int .i64 y] (.int .i64 (F58_0 x y)) := Go.Sx.fact_of_run okayed (by kernel_rfl) (by kernel_rfl) (by kernel_rfl) Try.func58 body58_eq (run58 0 x y ((F58 x y).getD default) (Go.Sx.getD_some h))
noncomputable def body54 : Go.Code := (Try.f54.body).getD .skip
theorem body54_eq : Try.f54.body = some body54 := Go.Sx.some_getD (by kernel_rfl)
noncomputable def t54_0 (x : (Int)) (y : (Int)) : Int := (F58_0 (Go.Sx.wrapA Go.IntKind.i64 (Int.add (Go.Sx.wrapA Go.IntKind.i64 (Int.mul 2 x)) y)) (Go.Sx.wrapA Go.IntKind.i64 (Int.mul 2 y)))
noncomputable def F54 (x : Int) (y : Int) : Option (Int) := (bif (Option.isSome (F58 (Go.Sx.wrapA Go.IntKind.i64 (Int.add (Go.Sx.wrapA Go.IntKind.i64 (Int.mul 2 x)) y)) (Go.Sx.wrapA Go.IntKind.i64 (Int.mul 2 y)))) then (some (t54_0 x y)) else none)
set_option maxHeartbeats 4000000 in
theorem form54 (n : Nat) (x : Int) (y : Int) (vz : Go.Sx.AV) : Go.Sx.wpS Try.prog Try.f54 [] vz (.st [0, 0, 2, 0, 0, 0, 0, 2, 2, 2, 2, 2, 2] (.use (.int .i64 (F58_0 (Go.Sx.wrapA Go.IntKind.i64 (Int.add (Go.Sx.wrapA Go.IntKind.i64 (Int.mul 2 x)) y)) (Go.Sx.wrapA Go.IntKind.i64 (Int.mul 2 y)))) (.st [2, 0, 0, 2] .ans))) [] (.code body54 (Go.Sx.startA [.int .i64 x, .int .i64 y] Try.f54) (Go.Sx.laidHeap [])) = (Go.Sx.Fact Try.prog [] 58 [.int .i64 (Go.Sx.wrapA Go.IntKind.i64 (Int.add (Go.Sx.wrapA Go.IntKind.i64 (Int.mul 2 x)) y)), .int .i64 (Go.Sx.wrapA Go.IntKind.i64 (Int.mul 2 y))] (.int .i64 (F58_0 (Go.Sx.wrapA Go.IntKind.i64 (Int.add (Go.Sx.wrapA Go.IntKind.i64 (Int.mul 2 x)) y)) (Go.Sx.wrapA Go.IntKind.i64 (Int.mul 2 y)))) ∧ (vz = .int .i64 (t54_0 x y))) := by kernel_rfl
theorem run54 (n : Nat) (x : Int) (y : Int) (r : Int) (h : F54 x y = some r) : Go.Sx.Run Try.prog Try.f54 [] (.int .i64 r) [] (.code body54 (Go.Sx.startA [.int .i64 x, .int .i64 y] Try.f54) (Go.Sx.laidHeap [])) := by
  exact Go.Sx.wpS_run (L := []) (by kernel_rfl) (form54 n x y (.int .i64 r)) ((Go.Sx.guard_of fun h0 => (fun h => ⟨fact58 (Go.Sx.wrapA Go.IntKind.i64 (Int.add (Go.Sx.wrapA Go.IntKind.i64 (Int.mul 2 x)) y)) (Go.Sx.wrapA Go.IntKind.i64 (Int.mul 2 y)) h0, (fun h => by cases h; rfl) h⟩)) h)
noncomputable def F54_0 (x : Int) (y : Int) : Int := ((F54 x y).getD default)
theorem fact54 (x : Int) (y : Int) (h : (F54 x y).isSome = true) : Go.Sx.Fact Try.prog [] 54 [.int .i64 x, .int .i64 y] (.int .i64 (F54_0 x y)) := Go.Sx.fact_of_run okayed (by kernel_rfl) (by kernel_rfl) (by kernel_rfl) Try.func54 body54_eq (run54 0 x y ((F54 x y).getD default) (Go.Sx.getD_some h))
noncomputable def body11 : Go.Code := (Try.f11.body).getD .skip
theorem body11_eq : Try.f11.body = some body11 := Go.Sx.some_getD (by kernel_rfl)
noncomputable def F11 (a : Int) (b : Int) (c : Int) (d : Int) (e : Int) (f : Int) : Option (Int) := (bif (!F38_0 a (16777216)) then (some 300) else (bif (!F38_0 b (16777216)) then (some 300) else (bif (!F38_0 c (16777216)) then (some 300) else (bif (!F38_0 d (16777216)) then (some 300) else (bif (!F38_0 e (536870912)) then (some 300) else (bif (!F38_0 f (536870912)) then (some 300) else (some 0)))))))
set_option maxHeartbeats 4000000 in
theorem form11 (n : Nat) (a : Int) (b : Int) (c : Int) (d : Int) (e : Int) (f : Int) (vz : Go.Sx.AV) : Go.Sx.wpS Try.prog Try.f11 [] vz (.st [0, 0, 2, 2, 0, 0, 0, 0, 0, 2, 2, 2, 2, 2, 2, 2, 2, 2, 2, 0, 0, 0, 0, 0, 0, 0, 2, 0, 0, 0, 0, 2, 0, 0, 0, 0, 0, 2, 2, 0, 0, 0, 0, 2] (.use (.bool (F38_0 a (16777216))) (.st [2, 0, 0] (.br 19 (.st [0, 0, 0, 2, 0, 0, 2, 0, 0, 0, 0, 0] .ans) (.st [0, 2, 0, 0, 0, 2, 2, 0, 0, 0, 0, 0, 2, 0, 0, 0, 0, 2, 0, 0, 0, 0, 0, 2, 2, 0, 0, 0, 0, 2] (.use (.bool (F38_0 b (16777216))) (.st [2, 0, 0] (.br 19 (.st [0, 0, 0, 2, 0, 0, 2, 0, 0, 0, 0, 0] .ans) (.st [0, 2, 0, 0, 0, 2, 2, 0, 0, 0, 0, 0, 2, 0, 0, 0, 0, 2, 0, 0, 0, 0, 0, 2, 2, 0, 0, 0, 0, 2] (.use (.bool (F38_0 c (16777216))) (.st [2, 0, 0] (.br 19 (.st [0, 0, 0, 2, 0, 0, 2, 0, 0, 0, 0, 0] .ans) (.st [0, 2, 0, 0, 0, 2, 2, 0, 0, 0, 0, 0, 2, 0, 0, 0, 0, 2, 0, 0, 0, 0, 0, 2, 2, 0, 0, 0, 0, 2] (.use (.bool (F38_0 d (16777216))) (.st [2, 0, 0] (.br 19 (.st [0, 0, 0, 2, 0, 0, 2, 0, 0, 0, 0, 0] .ans) (.st [0, 2, 0, 0, 0, 2, 2, 0, 0, 0, 0, 0, 2, 0, 0, 0, 0, 2, 0, 0, 0, 0, 0, 0, 0, 2, 2] (.use (.bool (F38_0 e (536870912))) (.st [2, 2] (.br 25 (.st [2, 2, 2, 2, 2, 0, 0, 0, 0, 0, 2, 0, 0, 2, 0] .ans) (.st [2, 2] (.use (.bool (F38_0 f (536870912))) (.st [2, 2, 0, 0] (.br 30 (.st [0, 0, 0, 2, 0, 0, 2, 0] .ans) (.st [0, 2, 0, 0, 0, 2, 0, 0, 2] .ans))))))))))))))))))))))))) [] (.code body11 (Go.Sx.startA [.agg [.int .i64 a, .int .i64 b, .int .i64 c, .int .i64 d, .int .i64 e, .int .i64 f]] Try.f11) (Go.Sx.laidHeap [])) = (Go.Sx.Fact Try.prog [] 38 [.int .i64 (a), .int .i64 (.ofNat 16777216)] (.bool (F38_0 a (16777216))) ∧ (Go.Sx.BR (!F38_0 a (16777216)) (vz = .int .i64 (.ofNat 300)) (Go.Sx.Fact Try.prog [] 38 [.int .i64 (b), .int .i64 (.ofNat 16777216)] (.bool (F38_0 b (16777216))) ∧ (Go.Sx.BR (!F38_0 b (16777216)) (vz = .int .i64 (.ofNat 300)) (Go.Sx.Fact Try.prog [] 38 [.int .i64 (c), .int .i64 (.ofNat 16777216)] (.bool (F38_0 c (16777216))) ∧ (Go.Sx.BR (!F38_0 c (16777216)) (vz = .int .i64 (.ofNat 300)) (Go.Sx.Fact Try.prog [] 38 [.int .i64 (d), .int .i64 (.ofNat 16777216)] (.bool (F38_0 d (16777216))) ∧ (Go.Sx.BR (!F38_0 d (16777216)) (vz = .int .i64 (.ofNat 300)) (Go.Sx.Fact Try.prog [] 38 [.int .i64 (e), .int .i64 (.ofNat 536870912)] (.bool (F38_0 e (536870912))) ∧ (Go.Sx.BR (!F38_0 e (536870912)) (vz = .int .i64 (.ofNat 300)) (Go.Sx.Fact Try.prog [] 38 [.int .i64 (f), .int .i64 (.ofNat 536870912)] (.bool (F38_0 f (536870912))) ∧ (Go.Sx.BR (!F38_0 f (536870912)) (vz = .int .i64 (.ofNat 300)) (vz = .int .i64 (.ofNat 0)))))))))))))) := by kernel_rfl
theorem run11 (n : Nat) (a : Int) (b : Int) (c : Int) (d : Int) (e : Int) (f : Int) (r : Int) (h : F11 a b c d e f = some r) : Go.Sx.Run Try.prog Try.f11 [] (.int .i64 r) [] (.code body11 (Go.Sx.startA [.agg [.int .i64 a, .int .i64 b, .int .i64 c, .int .i64 d, .int .i64 e, .int .i64 f]] Try.f11) (Go.Sx.laidHeap [])) := by
  exact Go.Sx.wpS_run (L := []) (by kernel_rfl) (form11 n a b c d e f (.int .i64 r)) ((fun h => ⟨fact38 (a) (16777216), (Go.Sx.br_of (fun h0 => (fun h => by cases h; rfl)) (fun h0 => (fun h => ⟨fact38 (b) (16777216), (Go.Sx.br_of (fun h1 => (fun h => by cases h; rfl)) (fun h1 => (fun h => ⟨fact38 (c) (16777216), (Go.Sx.br_of (fun h2 => (fun h => by cases h; rfl)) (fun h2 => (fun h => ⟨fact38 (d) (16777216), (Go.Sx.br_of (fun h3 => (fun h => by cases h; rfl)) (fun h3 => (fun h => ⟨fact38 (e) (536870912), (Go.Sx.br_of (fun h4 => (fun h => by cases h; rfl)) (fun h4 => (fun h => ⟨fact38 (f) (536870912), (Go.Sx.br_of (fun h5 => (fun h => by cases h; rfl)) (fun h5 => (fun h => by cases h; rfl))) h⟩))) h⟩))) h⟩))) h⟩))) h⟩))) h⟩) h)
noncomputable def F11_0 (a : Int) (b : Int) (c : Int) (d : Int) (e : Int) (f : Int) : Int := ((F11 a b c d e f).getD default)
theorem F11_some (a : Int) (b : Int) (c : Int) (d : Int) (e : Int) (f : Int) : (F11 a b c d e f).isSome = true := by
  unfold F11
  repeat' (first | rfl | apply Go.Sx.some_br)
theorem fact11 (a : Int) (b : Int) (c : Int) (d : Int) (e : Int) (f : Int) : Go.Sx.Fact Try.prog [] 11 [.agg [.int .i64 a, .int .i64 b, .int .i64 c, .int .i64 d, .int .i64 e, .int .i64 f]] (.int .i64 (F11_0 a b c d e f)) := Go.Sx.fact_of_run okayed (by kernel_rfl) (by kernel_rfl) (by kernel_rfl) Try.func11 body11_eq (run11 0 a b c d e f ((F11 a b c d e f).getD default) (Go.Sx.getD_some (F11_some a b c d e f)))
noncomputable def body39 : Go.Code := (Try.f39.body).getD .skip
theorem body39_eq : Try.f39.body = some body39 := Go.Sx.some_getD (by kernel_rfl)
noncomputable def F39 (a : Int) (b : Int) (c : Int) (d : Int) (e : Int) (f : Int) : Option (Bool) := (bif (F46_0 a (16777216)) then (bif (F46_0 b (16777216)) then (bif (F46_0 c (16777216)) then (bif (F46_0 d (16777216)) then (bif (F46_0 e (536870912)) then (some (F46_0 f (536870912))) else (some false)) else (some false)) else (some false)) else (some false)) else (some false))
set_option maxHeartbeats 4000000 in
theorem form39 (n : Nat) (a : Int) (b : Int) (c : Int) (d : Int) (e : Int) (f : Int) (vz : Go.Sx.AV) : Go.Sx.wpS Try.prog Try.f39 [] vz (.st [0, 0, 2, 2, 0, 0, 0, 0, 2, 2] (.use (.bool (F46_0 a (16777216))) (.st [2] (.br 6 (.st [2, 2] (.use (.bool (F46_0 b (16777216))) (.st [2, 2] (.br 11 (.st [2, 2] (.use (.bool (F46_0 c (16777216))) (.st [2, 2] (.br 16 (.st [2, 2] (.use (.bool (F46_0 d (16777216))) (.st [2, 2] (.br 21 (.st [2, 2] (.use (.bool (F46_0 e (536870912))) (.st [2, 2] (.br 26 (.st [2, 2] (.use (.bool (F46_0 f (536870912))) (.st [2, 2, 0, 0, 2] .ans))) (.st [2, 2, 2, 2, 2, 0, 0, 2] .ans))))) (.st [2, 2, 2, 2, 2, 2, 2, 2, 2, 2, 0, 0, 2] .ans))))) (.st [2, 2, 2, 2, 2, 2, 2, 2, 2, 2, 2, 2, 2, 2, 2, 0, 0, 2] .ans))))) (.st [2, 2, 2, 2, 2, 2, 2, 2, 2, 2, 2, 2, 2, 2, 2, 2, 2, 2, 2, 2, 0, 0, 2] .ans))))) (.st [2, 2, 2, 2, 2, 2, 2, 2, 2, 2, 2, 2, 2, 2, 2, 2, 2, 2, 2, 2, 2, 2, 2, 2, 2, 0, 0, 2] .ans))))) [] (.code body39 (Go.Sx.startA [.agg [.int .i64 a, .int .i64 b, .int .i64 c, .int .i64 d, .int .i64 e, .int .i64 f]] Try.f39) (Go.Sx.laidHeap [])) = (Go.Sx.Fact Try.prog [] 46 [.int .i64 (a), .int .i64 (.ofNat 16777216)] (.bool (F46_0 a (16777216))) ∧ (Go.Sx.BR (F46_0 a (16777216)) (Go.Sx.Fact Try.prog [] 46 [.int .i64 (b), .int .i64 (.ofNat 16777216)] (.bool (F46_0 b (16777216))) ∧ (Go.Sx.BR (F46_0 b (16777216)) (Go.Sx.Fact Try.prog [] 46 [.int .i64 (c), .int .i64 (.ofNat 16777216)] (.bool (F46_0 c (16777216))) ∧ (Go.Sx.BR (F46_0 c (16777216)) (Go.Sx.Fact Try.prog [] 46 [.int .i64 (d), .int .i64 (.ofNat 16777216)] (.bool (F46_0 d (16777216))) ∧ (Go.Sx.BR (F46_0 d (16777216)) (Go.Sx.Fact Try.prog [] 46 [.int .i64 (e), .int .i64 (.ofNat 536870912)] (.bool (F46_0 e (536870912))) ∧ (Go.Sx.BR (F46_0 e (536870912)) (Go.Sx.Fact Try.prog [] 46 [.int .i64 (f), .int .i64 (.ofNat 536870912)] (.bool (F46_0 f (536870912))) ∧ (vz = .bool (F46_0 f (536870912)))) (vz = .bool false))) (vz = .bool false))) (vz = .bool false))) (vz = .bool false))) (vz = .bool false))) := by kernel_rfl
theorem run39 (n : Nat) (a : Int) (b : Int) (c : Int) (d : Int) (e : Int) (f : Int) (r : Bool) (h : F39 a b c d e f = some r) : Go.Sx.Run Try.prog Try.f39 [] (.bool r) [] (.code body39 (Go.Sx.startA [.agg [.int .i64 a, .int .i64 b, .int .i64 c, .int .i64 d, .int .i64 e, .int .i64 f]] Try.f39) (Go.Sx.laidHeap [])) := by
  exact Go.Sx.wpS_run (L := []) (by kernel_rfl) (form39 n a b c d e f (.bool r)) ((fun h => ⟨fact46 (a) (16777216), (Go.Sx.br_of (fun h0 => (fun h => ⟨fact46 (b) (16777216), (Go.Sx.br_of (fun h1 => (fun h => ⟨fact46 (c) (16777216), (Go.Sx.br_of (fun h2 => (fun h => ⟨fact46 (d) (16777216), (Go.Sx.br_of (fun h3 => (fun h => ⟨fact46 (e) (536870912), (Go.Sx.br_of (fun h4 => (fun h => ⟨fact46 (f) (536870912), (fun h => by cases h; rfl) h⟩)) (fun h4 => (fun h => by cases h; rfl))) h⟩)) (fun h3 => (fun h => by cases h; rfl))) h⟩)) (fun h2 => (fun h => by cases h; rfl))) h⟩)) (fun h1 => (fun h => by cases h; rfl))) h⟩)) (fun h0 => (fun h => by cases h; rfl))) h⟩) h)
noncomputable def F39_0 (a : Int) (b : Int) (c : Int) (d : Int) (e : Int) (f : Int) : Bool := ((F39 a b c d e f).getD default)
theorem F39_some (a : Int) (b : Int) (c : Int) (d : Int) (e : Int) (f : Int) : (F39 a b c d e f).isSome = true := by
  unfold F39
  repeat' (first | rfl | apply Go.Sx.some_br)
theorem fact39 (a : Int) (b : Int) (c : Int) (d : Int) (e : Int) (f : Int) : Go.Sx.Fact Try.prog [] 39 [.agg [.int .i64 a, .int .i64 b, .int .i64 c, .int .i64 d, .int .i64 e, .int .i64 f]] (.bool (F39_0 a b c d e f)) := Go.Sx.fact_of_run okayed (by kernel_rfl) (by kernel_rfl) (by kernel_rfl) Try.func39 body39_eq (run39 0 a b c d e f ((F39 a b c d e f).getD default) (Go.Sx.getD_some (F39_some a b c d e f)))
noncomputable def body12 : Go.Code := (Try.f12.body).getD .skip
theorem body12_eq : Try.f12.body = some body12 := Go.Sx.some_getD (by kernel_rfl)
noncomputable def F12 (a : Int) (b : Int) (c : Int) (d : Int) (e : Int) (f : Int) : Option (Int) := (bif (F39_0 a b c d e f) then (some 0) else (some 300))
set_option maxHeartbeats 4000000 in
theorem form12 (n : Nat) (a : Int) (b : Int) (c : Int) (d : Int) (e : Int) (f : Int) (vz : Go.Sx.AV) : Go.Sx.wpS Try.prog Try.f12 [] vz (.st [0, 0, 2, 2, 0, 0, 0, 0, 0, 2] (.use (.bool (F39_0 a b c d e f)) (.st [0, 0] (.br 4 (.st [0, 0, 0, 2, 0, 0, 2, 0] .ans) (.st [0, 2, 0, 0, 0, 2, 0, 0, 2] .ans))))) [] (.code body12 (Go.Sx.startA [.agg [.int .i64 a, .int .i64 b, .int .i64 c, .int .i64 d, .int .i64 e, .int .i64 f]] Try.f12) (Go.Sx.laidHeap [])) = (Go.Sx.Fact Try.prog [] 39 [.agg [.int .i64 (a), .int .i64 (b), .int .i64 (c), .int .i64 (d), .int .i64 (e), .int .i64 (f)]] (.bool (F39_0 a b c d e f)) ∧ (Go.Sx.BR (F39_0 a b c d e f) (vz = .int .i64 (.ofNat 0)) (vz = .int .i64 (.ofNat 300)))) := by kernel_rfl
theorem run12 (n : Nat) (a : Int) (b : Int) (c : Int) (d : Int) (e : Int) (f : Int) (r : Int) (h : F12 a b c d e f = some r) : Go.Sx.Run Try.prog Try.f12 [] (.int .i64 r) [] (.code body12 (Go.Sx.startA [.agg [.int .i64 a, .int .i64 b, .int .i64 c, .int .i64 d, .int .i64 e, .int .i64 f]] Try.f12) (Go.Sx.laidHeap [])) := by
  exact Go.Sx.wpS_run (L := []) (by kernel_rfl) (form12 n a b c d e f (.int .i64 r)) ((fun h => ⟨fact39 (a) (b) (c) (d) (e) (f), (Go.Sx.br_of (fun h0 => (fun h => by cases h; rfl)) (fun h0 => (fun h => by cases h; rfl))) h⟩) h)
noncomputable def F12_0 (a : Int) (b : Int) (c : Int) (d : Int) (e : Int) (f : Int) : Int := ((F12 a b c d e f).getD default)
theorem F12_some (a : Int) (b : Int) (c : Int) (d : Int) (e : Int) (f : Int) : (F12 a b c d e f).isSome = true := by
  unfold F12
  repeat' (first | rfl | apply Go.Sx.some_br)
theorem fact12 (a : Int) (b : Int) (c : Int) (d : Int) (e : Int) (f : Int) : Go.Sx.Fact Try.prog [] 12 [.agg [.int .i64 a, .int .i64 b, .int .i64 c, .int .i64 d, .int .i64 e, .int .i64 f]] (.int .i64 (F12_0 a b c d e f)) := Go.Sx.fact_of_run okayed (by kernel_rfl) (by kernel_rfl) (by kernel_rfl) Try.func12 body12_eq (run12 0 a b c d e f ((F12 a b c d e f).getD default) (Go.Sx.getD_some (F12_some a b c d e f)))
noncomputable def body55b : Go.Code := (Try.f55.body).getD .skip
theorem body55b_eq : Try.f55.body = some body55b := Go.Sx.some_getD (by kernel_rfl)
noncomputable def t55b_0 (x : (Int)) : Int := (Int.tmod (Go.Sx.wrapA Go.IntKind.i64 (Int.add (Int.tmod x 23592960) 23592960)) 23592960)
noncomputable def c55b_1 (x : (Int)) : Bool := (!Go.Sx.ltI (Int.tmod (Go.Sx.wrapA Go.IntKind.i64 (Int.add (Int.tmod x 23592960) 23592960)) 23592960) 11796480)
noncomputable def t55b_2 (x : (Int)) : Int := (Go.Sx.wrapA Go.IntKind.i64 (Int.mul 262144 (Go.Sx.wrapA Go.IntKind.i64 (Int.mul (t55b_0 x) (Go.Sx.wrapA Go.IntKind.i64 (Int.sub 11796480 (t55b_0 x)))))))
noncomputable def t55b_3 (x : (Int)) : Int := (Go.Sx.wrapA Go.IntKind.i64 (Int.sub 173946175488000 (Go.Sx.wrapA Go.IntKind.i64 (Int.mul (t55b_0 x) (Go.Sx.wrapA Go.IntKind.i64 (Int.sub 11796480 (t55b_0 x)))))))
noncomputable def c55b_4 (x : (Int)) : Bool := (!Go.Sx.ltI (Go.Sx.wrapA Go.IntKind.i64 (Int.mul 2 (Int.tmod (t55b_2 x) (t55b_3 x)))) (t55b_3 x))
noncomputable def F55b (x : Int) : Option (Int) := (bif (c55b_1 x) then none else (bif (!Go.Sx.eqI (t55b_3 x) 0) then (bif (c55b_4 x) then (some (Go.Sx.wrapA Go.IntKind.i64 (Int.add (Go.Sx.wrapA Go.IntKind.i64 (Int.tdiv (t55b_2 x) (t55b_3 x))) 1))) else (some (Go.Sx.wrapA Go.IntKind.i64 (Int.tdiv (t55b_2 x) (t55b_3 x))))) else none))
set_option maxHeartbeats 4000000 in
theorem form55b (n : Nat) (x : Int) (vz : Go.Sx.AV) : Go.Sx.wpS Try.prog Try.f55 [] vz (.st [0, 0, 2, 0, 0, 0, 0, 2, 2, 2, 2, 2, 0, 0, 0, 0, 0, 2, 2, 0, 0] (.br 14 (.st [0, 0, 0, 2, 2] .dead) (.st [0, 2, 0, 0, 0, 2, 2, 2, 2, 2, 0, 0, 0, 0, 2, 2, 2, 2, 2, 2, 0, 0, 0] (.dr [.run, .run, .sp 0, .run, .run, .sp 0, .run] (.st [2, 0, 0, 0, 0, 0, 2, 2, 2, 2, 0, 0] (.br 36 (.st [0, 0, 2, 2, 2, 0, 0, 0, 0, 2, 2, 0, 0, 2] .ans) (.st [0, 2, 0, 0, 0, 2, 2, 0, 0, 2] .ans))))))) [] (.code body55b (Go.Sx.startA [.int .i64 x] Try.f55) (Go.Sx.laidHeap [])) = (Go.Sx.BR (c55b_1 x) False (Go.Sx.AN (Go.Sx.andB (!Go.Sx.eqI (t55b_3 x) 0) (Go.Sx.andB (!Go.Sx.eqI (t55b_3 x) 0) Bool.true)) (Go.Sx.BR (c55b_4 x) (vz = .int .i64 (Go.Sx.wrapA Go.IntKind.i64 (Int.add (Go.Sx.wrapA Go.IntKind.i64 (Int.tdiv (t55b_2 x) (t55b_3 x))) 1))) (vz = .int .i64 (Go.Sx.wrapA Go.IntKind.i64 (Int.tdiv (t55b_2 x) (t55b_3 x))))))) := by kernel_rfl
theorem run55b (n : Nat) (x : Int) (r : Int) (h : F55b x = some r) : Go.Sx.Run Try.prog Try.f55 [] (.int .i64 r) [] (.code body55b (Go.Sx.startA [.int .i64 x] Try.f55) (Go.Sx.laidHeap [])) := by
  exact Go.Sx.wpS_run (L := []) (by kernel_rfl) (form55b n x (.int .i64 r)) ((Go.Sx.br_of (fun h0 => (fun h => by cases h)) (fun h0 => (Go.Sx.guard_of fun h1 => (fun h => ⟨(Go.Sx.and_t h1 (Go.Sx.and_t h1 rfl)), (Go.Sx.br_of (fun h2 => (fun h => by cases h; rfl)) (fun h2 => (fun h => by cases h; rfl))) h⟩)))) h)
noncomputable def F55b_0 (x : Int) : Int := ((F55b x).getD default)
theorem fact55b (x : Int) (h : (F55b x).isSome = true) : Go.Sx.Fact Try.prog [] 55 [.int .i64 x] (.int .i64 (F55b_0 x)) := Go.Sx.fact_of_run okayed (by kernel_rfl) (by kernel_rfl) (by kernel_rfl) Try.func55 body55b_eq (run55b 0 x ((F55b x).getD default) (Go.Sx.getD_some h))
noncomputable def body55 : Go.Code := (Try.f55.body).getD .skip
theorem body55_eq : Try.f55.body = some body55 := Go.Sx.some_getD (by kernel_rfl)
noncomputable def t55_0 (x : (Int)) : Int := (Int.tmod (Go.Sx.wrapA Go.IntKind.i64 (Int.add (Int.tmod x 23592960) 23592960)) 23592960)
noncomputable def c55_1 (x : (Int)) : Bool := (!Go.Sx.ltI (Int.tmod (Go.Sx.wrapA Go.IntKind.i64 (Int.add (Int.tmod x 23592960) 23592960)) 23592960) 11796480)
noncomputable def t55_2 (x : (Int)) : Int := (Go.IntKind.wrap Go.IntKind.i64 (0 - F55b_0 (Go.Sx.wrapA Go.IntKind.i64 (Int.sub (t55_0 x) 11796480))))
noncomputable def t55_3 (x : (Int)) : Int := (Go.Sx.wrapA Go.IntKind.i64 (Int.mul 262144 (Go.Sx.wrapA Go.IntKind.i64 (Int.mul (t55_0 x) (Go.Sx.wrapA Go.IntKind.i64 (Int.sub 11796480 (t55_0 x)))))))
noncomputable def t55_4 (x : (Int)) : Int := (Go.Sx.wrapA Go.IntKind.i64 (Int.sub 173946175488000 (Go.Sx.wrapA Go.IntKind.i64 (Int.mul (t55_0 x) (Go.Sx.wrapA Go.IntKind.i64 (Int.sub 11796480 (t55_0 x)))))))
noncomputable def c55_5 (x : (Int)) : Bool := (!Go.Sx.ltI (Go.Sx.wrapA Go.IntKind.i64 (Int.mul 2 (Int.tmod (t55_3 x) (t55_4 x)))) (t55_4 x))
noncomputable def F55 (x : Int) : Option (Int) := (bif (c55_1 x) then (bif (Option.isSome (F55b (Go.Sx.wrapA Go.IntKind.i64 (Int.sub (t55_0 x) 11796480)))) then (some (t55_2 x)) else none) else (bif (!Go.Sx.eqI (t55_4 x) 0) then (bif (c55_5 x) then (some (Go.Sx.wrapA Go.IntKind.i64 (Int.add (Go.Sx.wrapA Go.IntKind.i64 (Int.tdiv (t55_3 x) (t55_4 x))) 1))) else (some (Go.Sx.wrapA Go.IntKind.i64 (Int.tdiv (t55_3 x) (t55_4 x))))) else none))
set_option maxHeartbeats 4000000 in
theorem form55 (n : Nat) (x : Int) (vz : Go.Sx.AV) : Go.Sx.wpS Try.prog Try.f55 [] vz (.st [0, 0, 2, 0, 0, 0, 0, 2, 2, 2, 2, 2, 0, 0, 0, 0, 0, 2, 2, 0, 0] (.br 14 (.st [0, 0, 0, 2, 2] (.use (.int .i64 (F55b_0 (Go.Sx.wrapA Go.IntKind.i64 (Int.sub (t55_0 x) 11796480)))) (.st [2, 2, 0, 0, 2, 0] .ans))) (.st [0, 2, 0, 0, 0, 2, 2, 2, 2, 2, 0, 0, 0, 0, 2, 2, 2, 2, 2, 2, 0, 0, 0] (.dr [.run, .run, .sp 0, .run, .run, .sp 0, .run] (.st [2, 0, 0, 0, 0, 0, 2, 2, 2, 2, 0, 0] (.br 36 (.st [0, 0, 2, 2, 2, 0, 0, 0, 0, 2, 2, 0, 0, 2] .ans) (.st [0, 2, 0, 0, 0, 2, 2, 0, 0, 2] .ans))))))) [] (.code body55 (Go.Sx.startA [.int .i64 x] Try.f55) (Go.Sx.laidHeap [])) = (Go.Sx.BR (c55_1 x) (Go.Sx.Fact Try.prog [] 55 [.int .i64 (Go.Sx.wrapA Go.IntKind.i64 (Int.sub (t55_0 x) 11796480))] (.int .i64 (F55b_0 (Go.Sx.wrapA Go.IntKind.i64 (Int.sub (t55_0 x) 11796480)))) ∧ (vz = .int .i64 (t55_2 x))) (Go.Sx.AN (Go.Sx.andB (!Go.Sx.eqI (t55_4 x) 0) (Go.Sx.andB (!Go.Sx.eqI (t55_4 x) 0) Bool.true)) (Go.Sx.BR (c55_5 x) (vz = .int .i64 (Go.Sx.wrapA Go.IntKind.i64 (Int.add (Go.Sx.wrapA Go.IntKind.i64 (Int.tdiv (t55_3 x) (t55_4 x))) 1))) (vz = .int .i64 (Go.Sx.wrapA Go.IntKind.i64 (Int.tdiv (t55_3 x) (t55_4 x))))))) := by kernel_rfl
theorem run55 (n : Nat) (x : Int) (r : Int) (h : F55 x = some r) : Go.Sx.Run Try.prog Try.f55 [] (.int .i64 r) [] (.code body55 (Go.Sx.startA [.int .i64 x] Try.f55) (Go.Sx.laidHeap [])) := by
  exact Go.Sx.wpS_run (L := []) (by kernel_rfl) (form55 n x (.int .i64 r)) ((Go.Sx.br_of (fun h0 => (Go.Sx.guard_of fun h1 => (fun h => ⟨fact55b (Go.Sx.wrapA Go.IntKind.i64 (Int.sub (t55_0 x) 11796480)) h1, (fun h => by cases h; rfl) h⟩))) (fun h0 => (Go.Sx.guard_of fun h2 => (fun h => ⟨(Go.Sx.and_t h2 (Go.Sx.and_t h2 rfl)), (Go.Sx.br_of (fun h3 => (fun h => by cases h; rfl)) (fun h3 => (fun h => by cases h; rfl))) h⟩)))) h)
noncomputable def F55_0 (x : Int) : Int := ((F55 x).getD default)
theorem fact55 (x : Int) (h : (F55 x).isSome = true) : Go.Sx.Fact Try.prog [] 55 [.int .i64 x] (.int .i64 (F55_0 x)) := Go.Sx.fact_of_run okayed (by kernel_rfl) (by kernel_rfl) (by kernel_rfl) Try.func55 body55_eq (run55 0 x ((F55 x).getD default) (Go.Sx.getD_some h))
noncomputable def body56b : Go.Code := (Try.f56.body).getD .skip
theorem body56b_eq : Try.f56.body = some body56b := Go.Sx.some_getD (by kernel_rfl)
noncomputable def sk56b_0 : List Go.Sx.FC × Go.Sx.CC := (Go.Sx.skelAt Try.prog [.fn 56 [.r, .l, .i, .h]] []).getD ([], .code .skip)
noncomputable def sk56b_1 : List Go.Sx.FC × Go.Sx.CC := (Go.Sx.skelAt Try.prog [.fn 56 [.r, .r, .l, .i, .h]] []).getD ([], .code .skip)
noncomputable def t56b_10 (v0 : (Int)) : Int := (Go.Sx.wrapA Go.IntKind.i64 (Int.mul 262144 (Go.Sx.wrapA Go.IntKind.i64 (Int.mul v0 (Go.Sx.wrapA Go.IntKind.i64 (Int.sub 11796480 v0))))))
noncomputable def t56b_11 (v0 : (Int)) : Int := (Go.Sx.wrapA Go.IntKind.i64 (Int.sub 173946175488000 (Go.Sx.wrapA Go.IntKind.i64 (Int.mul v0 (Go.Sx.wrapA Go.IntKind.i64 (Int.sub 11796480 v0))))))
noncomputable def c56b_12 (v0 : (Int)) : Bool := (!Go.Sx.ltI (Go.Sx.wrapA Go.IntKind.i64 (Int.mul 2 (Int.tmod (t56b_10 v0) (t56b_11 v0)))) (t56b_11 v0))
noncomputable def pt56b_0 (x : Int) (v0 : Int) : Go.Sx.Pt := ⟨[(41, [(0, .int .i64 (v0))])], [], 0, []⟩
noncomputable def pt56b_1 (x : Int) (v0 : Int) : Go.Sx.Pt := ⟨[(41, [(0, .int .i64 (v0))])], [], 0, []⟩
mutual
noncomputable def L56b_0 (x : Int) : Nat → Int → Option (Int)
  | 0, _ => none
  | n + 1, v0 => (bif (Go.Sx.ltI v0 0) then (L56b_0 x n (Go.Sx.wrapA Go.IntKind.i64 (Int.add v0 23592960))) else (L56b_1 x n (v0)))
termination_by structural n => n
noncomputable def L56b_1 (x : Int) : Nat → Int → Option (Int)
  | 0, _ => none
  | n + 1, v0 => (bif (!Go.Sx.ltI v0 23592960) then (L56b_1 x n (Go.Sx.wrapA Go.IntKind.i64 (Int.sub v0 23592960))) else (bif (!Go.Sx.ltI v0 11796480) then none else (bif (!Go.Sx.eqI (t56b_11 v0) 0) then (bif (c56b_12 v0) then (some (Go.Sx.wrapA Go.IntKind.i64 (Int.add (Go.Sx.wrapA Go.IntKind.i64 (Int.tdiv (t56b_10 v0) (t56b_11 v0))) 1))) else (some (Go.Sx.wrapA Go.IntKind.i64 (Int.tdiv (t56b_10 v0) (t56b_11 v0))))) else none)))
termination_by structural n => n
end
theorem L56b_0_succ (x : Int) (n : Nat) (v0 : Int) : L56b_0 x (n + 1) v0 = (bif (Go.Sx.ltI v0 0) then (L56b_0 x n (Go.Sx.wrapA Go.IntKind.i64 (Int.add v0 23592960))) else (L56b_1 x n (v0))) := rfl
theorem L56b_1_succ (x : Int) (n : Nat) (v0 : Int) : L56b_1 x (n + 1) v0 = (bif (!Go.Sx.ltI v0 23592960) then (L56b_1 x n (Go.Sx.wrapA Go.IntKind.i64 (Int.sub v0 23592960))) else (bif (!Go.Sx.ltI v0 11796480) then none else (bif (!Go.Sx.eqI (t56b_11 v0) 0) then (bif (c56b_12 v0) then (some (Go.Sx.wrapA Go.IntKind.i64 (Int.add (Go.Sx.wrapA Go.IntKind.i64 (Int.tdiv (t56b_10 v0) (t56b_11 v0))) 1))) else (some (Go.Sx.wrapA Go.IntKind.i64 (Int.tdiv (t56b_10 v0) (t56b_11 v0))))) else none))) := rfl
set_option maxHeartbeats 4000000 in
theorem form56b_0 (n : Nat) (x : Int) (v0 : Int) (vz : Go.Sx.AV) : Go.Sx.wpS Try.prog Try.f56 [] vz (.st [0, 0, 0, 0, 2, 2, 0, 0] (.br 8 (.st [0, 2, 0, 0, 0, 2, 2, 2, 0, 0, 0] (.stop ⟨[[0]], [], []⟩ [] 0 [])) (.st [0, 2, 0, 0, 0, 0, 0, 0, 0] (.stop ⟨[[0]], [], []⟩ [] 0 [])))) (Go.Sx.mkK sk56b_0.1 (pt56b_0 x v0).frs.tail) (Go.Sx.mkC [] (pt56b_0 x v0) sk56b_0.1 sk56b_0.2) = (Go.Sx.BR (Go.Sx.ltI v0 0) (Go.Sx.RunAt Try.prog Try.f56 [] vz sk56b_0 (pt56b_0 x (Go.Sx.wrapA Go.IntKind.i64 (Int.add v0 23592960)))) (Go.Sx.RunAt Try.prog Try.f56 [] vz sk56b_1 (pt56b_1 x (v0)))) := by kernel_rfl
set_option maxHeartbeats 4000000 in
theorem form56b_1 (n : Nat) (x : Int) (v0 : Int) (vz : Go.Sx.AV) : Go.Sx.wpS Try.prog Try.f56 [] vz (.st [0, 0, 0, 0, 2, 2, 0, 0] (.br 12 (.st [0, 2, 0, 0, 0, 2, 2, 2, 0, 0, 0] (.stop ⟨[[0]], [], []⟩ [] 0 [])) (.st [0, 2, 0, 0, 0, 0, 0, 0, 0, 2, 2, 0, 0] (.br 16 (.st [0, 0, 0, 2, 2] .dead) (.st [0, 2, 0, 0, 0, 2, 2, 2, 2, 2, 0, 0, 0, 0, 2, 2, 2, 2, 2, 2, 0, 0, 0, 0, 2, 2] (.sp 2 (.st [2, 0, 0, 0, 0, 0, 2, 2] (.sp 2 (.st [2, 2, 2, 0, 0] (.br 37 (.st [0, 0, 2, 2, 2, 0, 0, 0, 0, 2, 2, 0, 0, 2] .ans) (.st [0, 2, 0, 0, 0, 2, 2, 0, 0, 2] .ans))))))))))) (Go.Sx.mkK sk56b_1.1 (pt56b_1 x v0).frs.tail) (Go.Sx.mkC [] (pt56b_1 x v0) sk56b_1.1 sk56b_1.2) = (Go.Sx.BR (!Go.Sx.ltI v0 23592960) (Go.Sx.RunAt Try.prog Try.f56 [] vz sk56b_1 (pt56b_1 x (Go.Sx.wrapA Go.IntKind.i64 (Int.sub v0 23592960)))) (Go.Sx.BR (!Go.Sx.ltI v0 11796480) False (Go.Sx.AN (!Go.Sx.eqI (t56b_11 v0) 0) (Go.Sx.AN (!Go.Sx.eqI (t56b_11 v0) 0) (Go.Sx.BR (c56b_12 v0) (vz = .int .i64 (Go.Sx.wrapA Go.IntKind.i64 (Int.add (Go.Sx.wrapA Go.IntKind.i64 (Int.tdiv (t56b_10 v0) (t56b_11 v0))) 1))) (vz = .int .i64 (Go.Sx.wrapA Go.IntKind.i64 (Int.tdiv (t56b_10 v0) (t56b_11 v0))))))))) := by kernel_rfl
theorem runs56b (x : Int) : ∀ (n : Nat), (∀ (v0 : Int) (r : Int), L56b_0 x n v0 = some r → Go.Sx.RunAt Try.prog Try.f56 [] (.int .i64 r) sk56b_0 (pt56b_0 x v0)) ∧ (∀ (v0 : Int) (r : Int), L56b_1 x n v0 = some r → Go.Sx.RunAt Try.prog Try.f56 [] (.int .i64 r) sk56b_1 (pt56b_1 x v0)) := by
  intro n
  induction n with
  | zero => exact ⟨(fun _ r h => by cases h), (fun _ r h => by cases h)⟩
  | succ n ih =>
    obtain ⟨ih0, ih1⟩ := ih
    exact ⟨(fun v0 r h => Go.Sx.wpS_run (L := []) (by kernel_rfl) (form56b_0 n x v0 (.int .i64 r)) ((Go.Sx.br_of (fun h0 => (fun h => ih0 (Go.Sx.wrapA Go.IntKind.i64 (Int.add v0 23592960)) r h)) (fun h0 => (fun h => ih1 (v0) r h))) ((L56b_0_succ x n v0).symm.trans h))), (fun v0 r h => Go.Sx.wpS_run (L := []) (by kernel_rfl) (form56b_1 n x v0 (.int .i64 r)) ((Go.Sx.br_of (fun h1 => (fun h => ih1 (Go.Sx.wrapA Go.IntKind.i64 (Int.sub v0 23592960)) r h)) (fun h1 => (Go.Sx.br_of (fun h2 => (fun h => by cases h)) (fun h2 => (Go.Sx.guard_of fun h3 => (fun h => ⟨h3, (fun h => ⟨h3, (Go.Sx.br_of (fun h4 => (fun h => by cases h; rfl)) (fun h4 => (fun h => by cases h; rfl))) h⟩) h⟩)))))) ((L56b_1_succ x n v0).symm.trans h)))⟩
noncomputable def F56b (n : Nat) (x : Int) : Option (Int) := (L56b_0 x n (x))
set_option maxHeartbeats 4000000 in
theorem form56b (n : Nat) (x : Int) (vz : Go.Sx.AV) : Go.Sx.wpS Try.prog Try.f56 [] vz (.st [0, 0, 2, 0, 0, 0, 0, 0] (.stop ⟨[[0]], [], []⟩ [] 0 [])) [] (.code body56b (Go.Sx.startA [.int .i64 x] Try.f56) (Go.Sx.laidHeap [])) = (Go.Sx.RunAt Try.prog Try.f56 [] vz sk56b_0 (pt56b_0 x (x))) := by kernel_rfl
theorem run56b (n : Nat) (x : Int) (r : Int) (h : F56b n x = some r) : Go.Sx.Run Try.prog Try.f56 [] (.int .i64 r) [] (.code body56b (Go.Sx.startA [.int .i64 x] Try.f56) (Go.Sx.laidHeap [])) := by
  obtain ⟨ih0, ih1⟩ := runs56b x n
  exact Go.Sx.wpS_run (L := []) (by kernel_rfl) (form56b n x (.int .i64 r)) ((fun h => ih0 (x) r h) h)
noncomputable def F56b_0 (n : Nat) (x : Int) : Int := ((F56b n x).getD default)
theorem fact56b (n : Nat) (x : Int) (h : (F56b n x).isSome = true) : Go.Sx.Fact Try.prog [] 56 [.int .i64 x] (.int .i64 (F56b_0 n x)) := Go.Sx.fact_of_run okayed (by kernel_rfl) (by kernel_rfl) (by kernel_rfl) Try.func56 body56b_eq (run56b n x ((F56b n x).getD default) (Go.Sx.getD_some h))
noncomputable def body56 : Go.Code := (Try.f56.body).getD .skip
theorem body56_eq : Try.f56.body = some body56 := Go.Sx.some_getD (by kernel_rfl)
noncomputable def sk56_0 : List Go.Sx.FC × Go.Sx.CC := (Go.Sx.skelAt Try.prog [.fn 56 [.r, .l, .i, .h]] []).getD ([], .code .skip)
noncomputable def sk56_1 : List Go.Sx.FC × Go.Sx.CC := (Go.Sx.skelAt Try.prog [.fn 56 [.r, .r, .l, .i, .h]] []).getD ([], .code .skip)
noncomputable def t56_13 (n : (Nat)) (v0 : (Int)) : Int := (Go.IntKind.wrap Go.IntKind.i64 (0 - F56b_0 n (Go.Sx.wrapA Go.IntKind.i64 (Int.sub v0 11796480))))
noncomputable def t56_14 (v0 : (Int)) : Int := (Go.Sx.wrapA Go.IntKind.i64 (Int.mul 262144 (Go.Sx.wrapA Go.IntKind.i64 (Int.mul v0 (Go.Sx.wrapA Go.IntKind.i64 (Int.sub 11796480 v0))))))
noncomputable def t56_15 (v0 : (Int)) : Int := (Go.Sx.wrapA Go.IntKind.i64 (Int.sub 173946175488000 (Go.Sx.wrapA Go.IntKind.i64 (Int.mul v0 (Go.Sx.wrapA Go.IntKind.i64 (Int.sub 11796480 v0))))))
noncomputable def c56_16 (v0 : (Int)) : Bool := (!Go.Sx.ltI (Go.Sx.wrapA Go.IntKind.i64 (Int.mul 2 (Int.tmod (t56_14 v0) (t56_15 v0)))) (t56_15 v0))
noncomputable def pt56_0 (x : Int) (v0 : Int) : Go.Sx.Pt := ⟨[(41, [(0, .int .i64 (v0))])], [], 0, []⟩
noncomputable def pt56_1 (x : Int) (v0 : Int) : Go.Sx.Pt := ⟨[(41, [(0, .int .i64 (v0))])], [], 0, []⟩
mutual
noncomputable def L56_0 (x : Int) : Nat → Int → Option (Int)
  | 0, _ => none
  | n + 1, v0 => (bif (Go.Sx.ltI v0 0) then (L56_0 x n (Go.Sx.wrapA Go.IntKind.i64 (Int.add v0 23592960))) else (L56_1 x n (v0)))
termination_by structural n => n
noncomputable def L56_1 (x : Int) : Nat → Int → Option (Int)
  | 0, _ => none
  | n + 1, v0 => (bif (!Go.Sx.ltI v0 23592960) then (L56_1 x n (Go.Sx.wrapA Go.IntKind.i64 (Int.sub v0 23592960))) else (bif (!Go.Sx.ltI v0 11796480) then (bif (Option.isSome (F56b n (Go.Sx.wrapA Go.IntKind.i64 (Int.sub v0 11796480)))) then (some (t56_13 n v0)) else none) else (bif (!Go.Sx.eqI (t56_15 v0) 0) then (bif (c56_16 v0) then (some (Go.Sx.wrapA Go.IntKind.i64 (Int.add (Go.Sx.wrapA Go.IntKind.i64 (Int.tdiv (t56_14 v0) (t56_15 v0))) 1))) else (some (Go.Sx.wrapA Go.IntKind.i64 (Int.tdiv (t56_14 v0) (t56_15 v0))))) else none)))
termination_by structural n => n
end
theorem L56_0_succ (x : Int) (n : Nat) (v0 : Int) : L56_0 x (n + 1) v0 = (bif (Go.Sx.ltI v0 0) then (L56_0 x n (Go.Sx.wrapA Go.IntKind.i64 (Int.add v0 23592960))) else (L56_1 x n (v0))) := rfl
theorem L56_1_succ (x : Int) (n : Nat) (v0 : Int) : L56_1 x (n + 1) v0 = (bif (!Go.Sx.ltI v0 23592960) then (L56_1 x n (Go.Sx.wrapA Go.IntKind.i64 (Int.sub v0 23592960))) else (bif (!Go.Sx.ltI v0 11796480) then (bif (Option.isSome (F56b n (Go.Sx.wrapA Go.IntKind.i64 (Int.sub v0 11796480)))) then (some (t56_13 n v0)) else none) else (bif (!Go.Sx.eqI (t56_15 v0) 0) then (bif (c56_16 v0) then (some (Go.Sx.wrapA Go.IntKind.i64 (Int.add (Go.Sx.wrapA Go.IntKind.i64 (Int.tdiv (t56_14 v0) (t56_15 v0))) 1))) else (some (Go.Sx.wrapA Go.IntKind.i64 (Int.tdiv (t56_14 v0) (t56_15 v0))))) else none))) := rfl
set_option maxHeartbeats 4000000 in
theorem form56_0 (n : Nat) (x : Int) (v0 : Int) (vz : Go.Sx.AV) : Go.Sx.wpS Try.prog Try.f56 [] vz (.st [0, 0, 0, 0, 2, 2, 0, 0] (.br 8 (.st [0, 2, 0, 0, 0, 2, 2, 2, 0, 0, 0] (.stop ⟨[[0]], [], []⟩ [] 0 [])) (.st [0, 2, 0, 0, 0, 0, 0, 0, 0] (.stop ⟨[[0]], [], []⟩ [] 0 [])))) (Go.Sx.mkK sk56_0.1 (pt56_0 x v0).frs.tail) (Go.Sx.mkC [] (pt56_0 x v0) sk56_0.1 sk56_0.2) = (Go.Sx.BR (Go.Sx.ltI v0 0) (Go.Sx.RunAt Try.prog Try.f56 [] vz sk56_0 (pt56_0 x (Go.Sx.wrapA Go.IntKind.i64 (Int.add v0 23592960)))) (Go.Sx.RunAt Try.prog Try.f56 [] vz sk56_1 (pt56_1 x (v0)))) := by kernel_rfl
set_option maxHeartbeats 4000000 in
theorem form56_1 (n : Nat) (x : Int) (v0 : Int) (vz : Go.Sx.AV) : Go.Sx.wpS Try.prog Try.f56 [] vz (.st [0, 0, 0, 0, 2, 2, 0, 0] (.br 12 (.st [0, 2, 0, 0, 0, 2, 2, 2, 0, 0, 0] (.stop ⟨[[0]], [], []⟩ [] 0 [])) (.st [0, 2, 0, 0, 0, 0, 0, 0, 0, 2, 2, 0, 0] (.br 16 (.st [0, 0, 0, 2, 2] (.use (.int .i64 (F56b_0 n (Go.Sx.wrapA Go.IntKind.i64 (Int.sub v0 11796480)))) (.st [2, 2, 0, 0, 2, 0] .ans))) (.st [0, 2, 0, 0, 0, 2, 2, 2, 2, 2, 0, 0, 0, 0, 2, 2, 2, 2, 2, 2, 0, 0, 0, 0, 2, 2] (.sp 2 (.st [2, 0, 0, 0, 0, 0, 2, 2] (.sp 2 (.st [2, 2, 2, 0, 0] (.br 37 (.st [0, 0, 2, 2, 2, 0, 0, 0, 0, 2, 2, 0, 0, 2] .ans) (.st [0, 2, 0, 0, 0, 2, 2, 0, 0, 2] .ans))))))))))) (Go.Sx.mkK sk56_1.1 (pt56_1 x v0).frs.tail) (Go.Sx.mkC [] (pt56_1 x v0) sk56_1.1 sk56_1.2) = (Go.Sx.BR (!Go.Sx.ltI v0 23592960) (Go.Sx.RunAt Try.prog Try.f56 [] vz sk56_1 (pt56_1 x (Go.Sx.wrapA Go.IntKind.i64 (Int.sub v0 23592960)))) (Go.Sx.BR (!Go.Sx.ltI v0 11796480) (Go.Sx.Fact Try.prog [] 56 [.int .i64 (Go.Sx.wrapA Go.IntKind.i64 (Int.sub v0 11796480))] (.int .i64 (F56b_0 n (Go.Sx.wrapA Go.IntKind.i64 (Int.sub v0 11796480)))) ∧ (vz = .int .i64 (t56_13 n v0))) (Go.Sx.AN (!Go.Sx.eqI (t56_15 v0) 0) (Go.Sx.AN (!Go.Sx.eqI (t56_15 v0) 0) (Go.Sx.BR (c56_16 v0) (vz = .int .i64 (Go.Sx.wrapA Go.IntKind.i64 (Int.add (Go.Sx.wrapA Go.IntKind.i64 (Int.tdiv (t56_14 v0) (t56_15 v0))) 1))) (vz = .int .i64 (Go.Sx.wrapA Go.IntKind.i64 (Int.tdiv (t56_14 v0) (t56_15 v0))))))))) := by kernel_rfl
theorem runs56 (x : Int) : ∀ (n : Nat), (∀ (v0 : Int) (r : Int), L56_0 x n v0 = some r → Go.Sx.RunAt Try.prog Try.f56 [] (.int .i64 r) sk56_0 (pt56_0 x v0)) ∧ (∀ (v0 : Int) (r : Int), L56_1 x n v0 = some r → Go.Sx.RunAt Try.prog Try.f56 [] (.int .i64 r) sk56_1 (pt56_1 x v0)) := by
  intro n
  induction n with
  | zero => exact ⟨(fun _ r h => by cases h), (fun _ r h => by cases h)⟩
  | succ n ih =>
    obtain ⟨ih0, ih1⟩ := ih
    exact ⟨(fun v0 r h => Go.Sx.wpS_run (L := []) (by kernel_rfl) (form56_0 n x v0 (.int .i64 r)) ((Go.Sx.br_of (fun h0 => (fun h => ih0 (Go.Sx.wrapA Go.IntKind.i64 (Int.add v0 23592960)) r h)) (fun h0 => (fun h => ih1 (v0) r h))) ((L56_0_succ x n v0).symm.trans h))), (fun v0 r h => Go.Sx.wpS_run (L := []) (by kernel_rfl) (form56_1 n x v0 (.int .i64 r)) ((Go.Sx.br_of (fun h1 => (fun h => ih1 (Go.Sx.wrapA Go.IntKind.i64 (Int.sub v0 23592960)) r h)) (fun h1 => (Go.Sx.br_of (fun h2 => (Go.Sx.guard_of fun h3 => (fun h => ⟨fact56b (n) (Go.Sx.wrapA Go.IntKind.i64 (Int.sub v0 11796480)) h3, (fun h => by cases h; rfl) h⟩))) (fun h2 => (Go.Sx.guard_of fun h4 => (fun h => ⟨h4, (fun h => ⟨h4, (Go.Sx.br_of (fun h5 => (fun h => by cases h; rfl)) (fun h5 => (fun h => by cases h; rfl))) h⟩) h⟩)))))) ((L56_1_succ x n v0).symm.trans h)))⟩
noncomputable def F56 (n : Nat) (x : Int) : Option (Int) := (L56_0 x n (x))
set_option maxHeartbeats 4000000 in
theorem form56 (n : Nat) (x : Int) (vz : Go.Sx.AV) : Go.Sx.wpS Try.prog Try.f56 [] vz (.st [0, 0, 2, 0, 0, 0, 0, 0] (.stop ⟨[[0]], [], []⟩ [] 0 [])) [] (.code body56 (Go.Sx.startA [.int .i64 x] Try.f56) (Go.Sx.laidHeap [])) = (Go.Sx.RunAt Try.prog Try.f56 [] vz sk56_0 (pt56_0 x (x))) := by kernel_rfl
theorem run56 (n : Nat) (x : Int) (r : Int) (h : F56 n x = some r) : Go.Sx.Run Try.prog Try.f56 [] (.int .i64 r) [] (.code body56 (Go.Sx.startA [.int .i64 x] Try.f56) (Go.Sx.laidHeap [])) := by
  obtain ⟨ih0, ih1⟩ := runs56 x n
  exact Go.Sx.wpS_run (L := []) (by kernel_rfl) (form56 n x (.int .i64 r)) ((fun h => ih0 (x) r h) h)
noncomputable def F56_0 (n : Nat) (x : Int) : Int := ((F56 n x).getD default)
theorem fact56 (n : Nat) (x : Int) (h : (F56 n x).isSome = true) : Go.Sx.Fact Try.prog [] 56 [.int .i64 x] (.int .i64 (F56_0 n x)) := Go.Sx.fact_of_run okayed (by kernel_rfl) (by kernel_rfl) (by kernel_rfl) Try.func56 body56_eq (run56 n x ((F56 n x).getD default) (Go.Sx.getD_some h))
noncomputable def body29 : Go.Code := (Try.f29.body).getD .skip
theorem body29_eq : Try.f29.body = some body29 := Go.Sx.some_getD (by kernel_rfl)
noncomputable def F29 (x : Int) : Option (Int × Int) := (bif (!F38_0 x (2147483648)) then (some (0, 2)) else (bif (Option.isSome (F55 x)) then (some ((F55_0 x), 0)) else none))
set_option maxHeartbeats 4000000 in
theorem form29 (n : Nat) (x : Int) (vz : Go.Sx.AV) : Go.Sx.wpS Try.prog Try.f29 [] vz (.st [0, 0, 2, 2, 0, 0, 0, 0, 0, 2] (.use (.bool (F38_0 x (2147483648))) (.st [2, 0, 0] (.br 6 (.st [0, 0, 0, 2, 2, 0, 0, 2, 0] .ans) (.st [0, 2, 0, 0, 0, 2] (.use (.int .i64 (F55_0 x)) (.st [2, 2, 0, 0, 2] .ans))))))) [] (.code body29 (Go.Sx.startA [.int .i64 x] Try.f29) (Go.Sx.laidHeap [])) = (Go.Sx.Fact Try.prog [] 38 [.int .i64 (x), .int .i64 (.ofNat 2147483648)] (.bool (F38_0 x (2147483648))) ∧ (Go.Sx.BR (!F38_0 x (2147483648)) (vz = .tup [.int .i64 (.ofNat 0), .int .i64 (.ofNat 2)]) (Go.Sx.Fact Try.prog [] 55 [.int .i64 (x)] (.int .i64 (F55_0 x)) ∧ (vz = .tup [.int .i64 (F55_0 x), .int .i64 (.ofNat 0)])))) := by kernel_rfl
theorem run29 (n : Nat) (x : Int) (r : Int × Int) (h : F29 x = some r) : Go.Sx.Run Try.prog Try.f29 [] (.tup [.int .i64 r.1, .int .i64 r.2]) [] (.code body29 (Go.Sx.startA [.int .i64 x] Try.f29) (Go.Sx.laidHeap [])) := by
  exact Go.Sx.wpS_run (L := []) (by kernel_rfl) (form29 n x (.tup [.int .i64 r.1, .int .i64 r.2])) ((fun h => ⟨fact38 (x) (2147483648), (Go.Sx.br_of (fun h0 => (fun h => by cases h; rfl)) (fun h0 => (Go.Sx.guard_of fun h1 => (fun h => ⟨fact55 (x) h1, (fun h => by cases h; rfl) h⟩)))) h⟩) h)
noncomputable def F29_0 (x : Int) : Int := ((F29 x).getD default).1
noncomputable def F29_1 (x : Int) : Int := ((F29 x).getD default).2
theorem fact29 (x : Int) (h : (F29 x).isSome = true) : Go.Sx.Fact Try.prog [] 29 [.int .i64 x] (.tup [.int .i64 (F29_0 x), .int .i64 (F29_1 x)]) := Go.Sx.fact_of_run okayed (by kernel_rfl) (by kernel_rfl) (by kernel_rfl) Try.func29 body29_eq (run29 0 x ((F29 x).getD default) (Go.Sx.getD_some h))
noncomputable def body53 : Go.Code := (Try.f53.body).getD .skip
theorem body53_eq : Try.f53.body = some body53 := Go.Sx.some_getD (by kernel_rfl)
noncomputable def F53 (a : Int) (b : Int) (c : Int) (d : Int) (e : Int) (f : Int) : Option (Int × Int × Int × Int × Int × Int × Int) := (bif (!F39_0 a b c d e f) then (some (0, 0, 0, 0, 0, 0, 26)) else (some ((a), (b), (c), (d), (e), (f), 0)))
set_option maxHeartbeats 4000000 in
theorem form53 (n : Nat) (a : Int) (b : Int) (c : Int) (d : Int) (e : Int) (f : Int) (vz : Go.Sx.AV) : Go.Sx.wpS Try.prog Try.f53 [] vz (.st [0, 0, 2, 2, 2, 0, 0, 0, 0, 0, 2] (.use (.bool (F39_0 a b c d e f)) (.st [2, 0, 0] (.br 6 (.st [0, 0, 0, 2, 2, 2, 0, 0, 2, 0] .ans) (.st [0, 2, 0, 0, 0, 2, 2, 2, 0, 0, 2] .ans))))) [] (.code body53 (Go.Sx.startA [.agg [.int .i64 a, .int .i64 b, .int .i64 c, .int .i64 d, .int .i64 e, .int .i64 f]] Try.f53) (Go.Sx.laidHeap [])) = (Go.Sx.Fact Try.prog [] 39 [.agg [.int .i64 (a), .int .i64 (b), .int .i64 (c), .int .i64 (d), .int .i64 (e), .int .i64 (f)]] (.bool (F39_0 a b c d e f)) ∧ (Go.Sx.BR (!F39_0 a b c d e f) (vz = .tup [.agg [.int .i64 (.ofNat 0), .int .i64 (.ofNat 0), .int .i64 (.ofNat 0), .int .i64 (.ofNat 0), .int .i64 (.ofNat 0), .int .i64 (.ofNat 0)], .int .i64 (.ofNat 26)]) (vz = .tup [.agg [.int .i64 (a), .int .i64 (b), .int .i64 (c), .int .i64 (d), .int .i64 (e), .int .i64 (f)], .int .i64 (.ofNat 0)]))) := by kernel_rfl
theorem run53 (n : Nat) (a : Int) (b : Int) (c : Int) (d : Int) (e : Int) (f : Int) (r : Int × Int × Int × Int × Int × Int × Int) (h : F53 a b c d e f = some r) : Go.Sx.Run Try.prog Try.f53 [] (.tup [.agg [.int .i64 r.1, .int .i64 r.2.1, .int .i64 r.2.2.1, .int .i64 r.2.2.2.1, .int .i64 r.2.2.2.2.1, .int .i64 r.2.2.2.2.2.1], .int .i64 r.2.2.2.2.2.2]) [] (.code body53 (Go.Sx.startA [.agg [.int .i64 a, .int .i64 b, .int .i64 c, .int .i64 d, .int .i64 e, .int .i64 f]] Try.f53) (Go.Sx.laidHeap [])) := by
  exact Go.Sx.wpS_run (L := []) (by kernel_rfl) (form53 n a b c d e f (.tup [.agg [.int .i64 r.1, .int .i64 r.2.1, .int .i64 r.2.2.1, .int .i64 r.2.2.2.1, .int .i64 r.2.2.2.2.1, .int .i64 r.2.2.2.2.2.1], .int .i64 r.2.2.2.2.2.2])) ((fun h => ⟨fact39 (a) (b) (c) (d) (e) (f), (Go.Sx.br_of (fun h0 => (fun h => by cases h; rfl)) (fun h0 => (fun h => by cases h; rfl))) h⟩) h)
noncomputable def F53_0 (a : Int) (b : Int) (c : Int) (d : Int) (e : Int) (f : Int) : Int := ((F53 a b c d e f).getD default).1
noncomputable def F53_1 (a : Int) (b : Int) (c : Int) (d : Int) (e : Int) (f : Int) : Int := ((F53 a b c d e f).getD default).2.1
noncomputable def F53_2 (a : Int) (b : Int) (c : Int) (d : Int) (e : Int) (f : Int) : Int := ((F53 a b c d e f).getD default).2.2.1
noncomputable def F53_3 (a : Int) (b : Int) (c : Int) (d : Int) (e : Int) (f : Int) : Int := ((F53 a b c d e f).getD default).2.2.2.1
noncomputable def F53_4 (a : Int) (b : Int) (c : Int) (d : Int) (e : Int) (f : Int) : Int := ((F53 a b c d e f).getD default).2.2.2.2.1
noncomputable def F53_5 (a : Int) (b : Int) (c : Int) (d : Int) (e : Int) (f : Int) : Int := ((F53 a b c d e f).getD default).2.2.2.2.2.1
noncomputable def F53_6 (a : Int) (b : Int) (c : Int) (d : Int) (e : Int) (f : Int) : Int := ((F53 a b c d e f).getD default).2.2.2.2.2.2
theorem F53_some (a : Int) (b : Int) (c : Int) (d : Int) (e : Int) (f : Int) : (F53 a b c d e f).isSome = true := by
  unfold F53
  repeat' (first | rfl | apply Go.Sx.some_br)
theorem fact53 (a : Int) (b : Int) (c : Int) (d : Int) (e : Int) (f : Int) : Go.Sx.Fact Try.prog [] 53 [.agg [.int .i64 a, .int .i64 b, .int .i64 c, .int .i64 d, .int .i64 e, .int .i64 f]] (.tup [.agg [.int .i64 (F53_0 a b c d e f), .int .i64 (F53_1 a b c d e f), .int .i64 (F53_2 a b c d e f), .int .i64 (F53_3 a b c d e f), .int .i64 (F53_4 a b c d e f), .int .i64 (F53_5 a b c d e f)], .int .i64 (F53_6 a b c d e f)]) := Go.Sx.fact_of_run okayed (by kernel_rfl) (by kernel_rfl) (by kernel_rfl) Try.func53 body53_eq (run53 0 a b c d e f ((F53 a b c d e f).getD default) (Go.Sx.getD_some (F53_some a b c d e f)))
noncomputable def body51 : Go.Code := (Try.f51.body).getD .skip
theorem body51_eq : Try.f51.body = some body51 := Go.Sx.some_getD (by kernel_rfl)
noncomputable def F51 (a : Int) (b : Int) (c : Int) (d : Int) (e : Int) (f : Int) : Option (Int × Int × Int × Int × Int × Int × Int) := (bif (!Go.Sx.eqI (F11_0 a b c d e f) 0) then (some (0, 0, 0, 0, 0, 0, 26)) else (some ((a), (b), (c), (d), (e), (f), 0)))
set_option maxHeartbeats 4000000 in
theorem form51 (n : Nat) (a : Int) (b : Int) (c : Int) (d : Int) (e : Int) (f : Int) (vz : Go.Sx.AV) : Go.Sx.wpS Try.prog Try.f51 [] vz (.st [0, 0, 2, 2, 2, 0, 0, 0, 0, 2, 2, 2, 2, 2, 2, 2, 2, 2, 2, 2, 2, 2, 2, 2, 0, 0, 0, 0, 0, 2] (.use (.int .i64 (F11_0 a b c d e f)) (.st [2, 0, 0] (.br 20 (.st [0, 0, 0, 2, 2, 2, 0, 0, 2, 0] .ans) (.st [0, 2, 0, 0, 0, 2, 2, 2, 0, 0, 2] .ans))))) [] (.code body51 (Go.Sx.startA [.agg [.int .i64 a, .int .i64 b, .int .i64 c, .int .i64 d, .int .i64 e, .int .i64 f]] Try.f51) (Go.Sx.laidHeap [])) = (Go.Sx.Fact Try.prog [] 11 [.agg [.int .i64 (a), .int .i64 (b), .int .i64 (c), .int .i64 (d), .int .i64 (e), .int .i64 (f)]] (.int .i64 (F11_0 a b c d e f)) ∧ (Go.Sx.BR (!Go.Sx.eqI (F11_0 a b c d e f) 0) (vz = .tup [.agg [.int .i64 (.ofNat 0), .int .i64 (.ofNat 0), .int .i64 (.ofNat 0), .int .i64 (.ofNat 0), .int .i64 (.ofNat 0), .int .i64 (.ofNat 0)], .int .i64 (.ofNat 26)]) (vz = .tup [.agg [.int .i64 (a), .int .i64 (b), .int .i64 (c), .int .i64 (d), .int .i64 (e), .int .i64 (f)], .int .i64 (.ofNat 0)]))) := by kernel_rfl
theorem run51 (n : Nat) (a : Int) (b : Int) (c : Int) (d : Int) (e : Int) (f : Int) (r : Int × Int × Int × Int × Int × Int × Int) (h : F51 a b c d e f = some r) : Go.Sx.Run Try.prog Try.f51 [] (.tup [.agg [.int .i64 r.1, .int .i64 r.2.1, .int .i64 r.2.2.1, .int .i64 r.2.2.2.1, .int .i64 r.2.2.2.2.1, .int .i64 r.2.2.2.2.2.1], .int .i64 r.2.2.2.2.2.2]) [] (.code body51 (Go.Sx.startA [.agg [.int .i64 a, .int .i64 b, .int .i64 c, .int .i64 d, .int .i64 e, .int .i64 f]] Try.f51) (Go.Sx.laidHeap [])) := by
  exact Go.Sx.wpS_run (L := []) (by kernel_rfl) (form51 n a b c d e f (.tup [.agg [.int .i64 r.1, .int .i64 r.2.1, .int .i64 r.2.2.1, .int .i64 r.2.2.2.1, .int .i64 r.2.2.2.2.1, .int .i64 r.2.2.2.2.2.1], .int .i64 r.2.2.2.2.2.2])) ((fun h => ⟨fact11 (a) (b) (c) (d) (e) (f), (Go.Sx.br_of (fun h0 => (fun h => by cases h; rfl)) (fun h0 => (fun h => by cases h; rfl))) h⟩) h)
noncomputable def F51_0 (a : Int) (b : Int) (c : Int) (d : Int) (e : Int) (f : Int) : Int := ((F51 a b c d e f).getD default).1
noncomputable def F51_1 (a : Int) (b : Int) (c : Int) (d : Int) (e : Int) (f : Int) : Int := ((F51 a b c d e f).getD default).2.1
noncomputable def F51_2 (a : Int) (b : Int) (c : Int) (d : Int) (e : Int) (f : Int) : Int := ((F51 a b c d e f).getD default).2.2.1
noncomputable def F51_3 (a : Int) (b : Int) (c : Int) (d : Int) (e : Int) (f : Int) : Int := ((F51 a b c d e f).getD default).2.2.2.1
noncomputable def F51_4 (a : Int) (b : Int) (c : Int) (d : Int) (e : Int) (f : Int) : Int := ((F51 a b c d e f).getD default).2.2.2.2.1
noncomputable def F51_5 (a : Int) (b : Int) (c : Int) (d : Int) (e : Int) (f : Int) : Int := ((F51 a b c d e f).getD default).2.2.2.2.2.1
noncomputable def F51_6 (a : Int) (b : Int) (c : Int) (d : Int) (e : Int) (f : Int) : Int := ((F51 a b c d e f).getD default).2.2.2.2.2.2
theorem F51_some (a : Int) (b : Int) (c : Int) (d : Int) (e : Int) (f : Int) : (F51 a b c d e f).isSome = true := by
  unfold F51
  repeat' (first | rfl | apply Go.Sx.some_br)
theorem fact51 (a : Int) (b : Int) (c : Int) (d : Int) (e : Int) (f : Int) : Go.Sx.Fact Try.prog [] 51 [.agg [.int .i64 a, .int .i64 b, .int .i64 c, .int .i64 d, .int .i64 e, .int .i64 f]] (.tup [.agg [.int .i64 (F51_0 a b c d e f), .int .i64 (F51_1 a b c d e f), .int .i64 (F51_2 a b c d e f), .int .i64 (F51_3 a b c d e f), .int .i64 (F51_4 a b c d e f), .int .i64 (F51_5 a b c d e f)], .int .i64 (F51_6 a b c d e f)]) := Go.Sx.fact_of_run okayed (by kernel_rfl) (by kernel_rfl) (by kernel_rfl) Try.func51 body51_eq (run51 0 a b c d e f ((F51 a b c d e f).getD default) (Go.Sx.getD_some (F51_some a b c d e f)))
noncomputable def body42 : Go.Code := (Try.f42.body).getD .skip
theorem body42_eq : Try.f42.body = some body42 := Go.Sx.some_getD (by kernel_rfl)
noncomputable def F42 (a : Int) (b : Int) (c : Int) (d : Int) (e : Int) (f : Int) (x : Int) (y : Int) : Option (Int) := (bif (!F39_0 a b c d e f) then (some 300) else (bif (!F46_0 x (2147483648)) then (some 2) else (bif (!F46_0 y (2147483648)) then (some 2) else (some 0))))
set_option maxHeartbeats 4000000 in
theorem form42 (n : Nat) (a : Int) (b : Int) (c : Int) (d : Int) (e : Int) (f : Int) (x : Int) (y : Int) (vz : Go.Sx.AV) : Go.Sx.wpS Try.prog Try.f42 [] vz (.st [0, 0, 2, 2, 0, 0, 0, 0, 0, 2] (.use (.bool (F39_0 a b c d e f)) (.st [2, 0, 0] (.br 9 (.st [0, 0, 0, 2, 0, 0, 2, 0] .ans) (.st [0, 2, 0, 0, 0, 0, 2] (.use (.bool (F46_0 x (2147483648))) (.st [2, 2] (.br 13 (.st [2, 2, 2, 2, 0, 0, 0, 0, 0, 2, 0, 0, 2, 0] .ans) (.st [2] (.use (.bool (F46_0 y (2147483648))) (.st [2, 2, 0, 0] (.br 17 (.st [0, 0, 0, 2, 0, 0, 2, 0] .ans) (.st [0, 2, 0, 0, 0, 2, 0, 0, 2] .ans))))))))))))) [] (.code body42 (Go.Sx.startA [.agg [.int .i64 a, .int .i64 b, .int .i64 c, .int .i64 d, .int .i64 e, .int .i64 f], .int .i64 x, .int .i64 y] Try.f42) (Go.Sx.laidHeap [])) = (Go.Sx.Fact Try.prog [] 39 [.agg [.int .i64 (a), .int .i64 (b), .int .i64 (c), .int .i64 (d), .int .i64 (e), .int .i64 (f)]] (.bool (F39_0 a b c d e f)) ∧ (Go.Sx.BR (!F39_0 a b c d e f) (vz = .int .i64 (.ofNat 300)) (Go.Sx.Fact Try.prog [] 46 [.int .i64 (x), .int .i64 (.ofNat 2147483648)] (.bool (F46_0 x (2147483648))) ∧ (Go.Sx.BR (!F46_0 x (2147483648)) (vz = .int .i64 (.ofNat 2)) (Go.Sx.Fact Try.prog [] 46 [.int .i64 (y), .int .i64 (.ofNat 2147483648)] (.bool (F46_0 y (2147483648))) ∧ (Go.Sx.BR (!F46_0 y (2147483648)) (vz = .int .i64 (.ofNat 2)) (vz = .int .i64 (.ofNat 0)))))))) := by kernel_rfl
theorem run42 (n : Nat) (a : Int) (b : Int) (c : Int) (d : Int) (e : Int) (f : Int) (x : Int) (y : Int) (r : Int) (h : F42 a b c d e f x y = some r) : Go.Sx.Run Try.prog Try.f42 [] (.int .i64 r) [] (.code body42 (Go.Sx.startA [.agg [.int .i64 a, .int .i64 b, .int .i64 c, .int .i64 d, .int .i64 e, .int .i64 f], .int .i64 x, .int .i64 y] Try.f42) (Go.Sx.laidHeap [])) := by
  exact Go.Sx.wpS_run (L := []) (by kernel_rfl) (form42 n a b c d e f x y (.int .i64 r)) ((fun h => ⟨fact39 (a) (b) (c) (d) (e) (f), (Go.Sx.br_of (fun h0 => (fun h => by cases h; rfl)) (fun h0 => (fun h => ⟨fact46 (x) (2147483648), (Go.Sx.br_of (fun h1 => (fun h => by cases h; rfl)) (fun h1 => (fun h => ⟨fact46 (y) (2147483648), (Go.Sx.br_of (fun h2 => (fun h => by cases h; rfl)) (fun h2 => (fun h => by cases h; rfl))) h⟩))) h⟩))) h⟩) h)
noncomputable def F42_0 (a : Int) (b : Int) (c : Int) (d : Int) (e : Int) (f : Int) (x : Int) (y : Int) : Int := ((F42 a b c d e f x y).getD default)
theorem F42_some (a : Int) (b : Int) (c : Int) (d : Int) (e : Int) (f : Int) (x : Int) (y : Int) : (F42 a b c d e f x y).isSome = true := by
  unfold F42
  repeat' (first | rfl | apply Go.Sx.some_br)
theorem fact42 (a : Int) (b : Int) (c : Int) (d : Int) (e : Int) (f : Int) (x : Int) (y : Int) : Go.Sx.Fact Try.prog [] 42 [.agg [.int .i64 a, .int .i64 b, .int .i64 c, .int .i64 d, .int .i64 e, .int .i64 f], .int .i64 x, .int .i64 y] (.int .i64 (F42_0 a b c d e f x y)) := Go.Sx.fact_of_run okayed (by kernel_rfl) (by kernel_rfl) (by kernel_rfl) Try.func42 body42_eq (run42 0 a b c d e f x y ((F42 a b c d e f x y).getD default) (Go.Sx.getD_some (F42_some a b c d e f x y)))
noncomputable def body35 : Go.Code := (Try.f35.body).getD .skip
theorem body35_eq : Try.f35.body = some body35 := Go.Sx.some_getD (by kernel_rfl)
noncomputable def F35 (kd : Int) (a : Int) (b : Int) (c : Int) (d : Int) (e : Int) (f : Int) : Option (Int × Int × Int × Int × Int × Int) := (bif (Go.Sx.eqI (Int.tmod kd 4) 0) then (some ((Int.tmod (Go.Sx.wrapA Go.IntKind.i64 a) 16777217), (Int.tmod (Go.Sx.wrapA Go.IntKind.i64 b) 16777217), (Int.tmod (Go.Sx.wrapA Go.IntKind.i64 c) 16777217), (Int.tmod (Go.Sx.wrapA Go.IntKind.i64 d) 16777217), (Int.tmod (Go.Sx.wrapA Go.IntKind.i64 e) 536870913), (Int.tmod (Go.Sx.wrapA Go.IntKind.i64 f) 536870913))) else (bif (Go.Sx.eqI (Int.tmod kd 4) 1) then (some ((Int.tmod (Int.tmod (Go.Sx.wrapA Go.IntKind.i64 a) 16777217) 300000), (Int.tmod (Int.tmod (Go.Sx.wrapA Go.IntKind.i64 b) 16777217) 300000), (Int.tmod (Int.tmod (Go.Sx.wrapA Go.IntKind.i64 c) 16777217) 300000), (Int.tmod (Int.tmod (Go.Sx.wrapA Go.IntKind.i64 d) 16777217) 300000), (Int.tmod (Int.tmod (Go.Sx.wrapA Go.IntKind.i64 e) 536870913) 9000000), (Int.tmod (Int.tmod (Go.Sx.wrapA Go.IntKind.i64 f) 536870913) 9000000))) else (bif (Go.Sx.eqI (Int.tmod kd 4) 2) then (some ((Int.tmod (Int.tmod (Go.Sx.wrapA Go.IntKind.i64 a) 16777217) 300000), 0, 0, (Int.tmod (Int.tmod (Go.Sx.wrapA Go.IntKind.i64 d) 16777217) 300000), (Int.tmod (Int.tmod (Go.Sx.wrapA Go.IntKind.i64 e) 536870913) 9000000), (Int.tmod (Int.tmod (Go.Sx.wrapA Go.IntKind.i64 f) 536870913) 9000000))) else (some (0, (Int.tmod (Int.tmod (Go.Sx.wrapA Go.IntKind.i64 b) 16777217) 300000), (Int.tmod (Int.tmod (Go.Sx.wrapA Go.IntKind.i64 c) 16777217) 300000), 0, (Int.tmod (Int.tmod (Go.Sx.wrapA Go.IntKind.i64 e) 536870913) 9000000), (Int.tmod (Int.tmod (Go.Sx.wrapA Go.IntKind.i64 f) 536870913) 9000000))))))
set_option maxHeartbeats 4000000 in
theorem form35 (n : Nat) (kd : Int) (a : Int) (b : Int) (c : Int) (d : Int) (e : Int) (f : Int) (vz : Go.Sx.AV) : Go.Sx.wpS Try.prog Try.f35 [] vz (.st [0, 0, 2, 2, 0, 0, 0, 0, 2, 2, 2, 2, 2, 2, 2, 2, 2, 2, 2, 2, 2, 2, 2, 2, 2, 2, 2, 2, 2, 2, 2, 2, 2, 2, 2, 0, 0, 0, 0, 0, 2, 2, 2, 0, 0, 0, 0, 0, 2, 2, 0, 0] (.br 32 (.st [0, 0, 0, 2, 2, 2, 2, 2, 2, 2, 2, 2, 2, 2, 2, 2, 2, 0, 0, 2, 0, 0] .ans) (.st [0, 0, 0, 2, 2, 0, 0] (.br 47 (.st [0, 0, 0, 2, 2, 2, 2, 2, 2, 2, 2, 2, 2, 2, 2, 2, 2, 2, 2, 2, 2, 2, 2, 0, 0, 2, 0, 0] .ans) (.st [0, 0, 0, 2, 2, 0, 0] (.br 68 (.st [0, 0, 0, 2, 2, 2, 2, 2, 2, 2, 2, 2, 2, 2, 2, 2, 2, 0, 0, 2, 0, 0] .ans) (.st [0, 2, 0, 0, 0, 0, 2, 2, 2, 2, 2, 2, 2, 2, 2, 2, 2, 2, 2, 2, 0, 0, 2] .ans))))))) [] (.code body35 (Go.Sx.startA [.agg [.int .u8 kd, .int .i32 a, .int .i32 b, .int .i32 c, .int .i32 d, .int .i32 e, .int .i32 f]] Try.f35) (Go.Sx.laidHeap [])) = (Go.Sx.BR (Go.Sx.eqI (Int.tmod kd 4) 0) (vz = .agg [.int .i64 (Int.tmod (Go.Sx.wrapA Go.IntKind.i64 a) 16777217), .int .i64 (Int.tmod (Go.Sx.wrapA Go.IntKind.i64 b) 16777217), .int .i64 (Int.tmod (Go.Sx.wrapA Go.IntKind.i64 c) 16777217), .int .i64 (Int.tmod (Go.Sx.wrapA Go.IntKind.i64 d) 16777217), .int .i64 (Int.tmod (Go.Sx.wrapA Go.IntKind.i64 e) 536870913), .int .i64 (Int.tmod (Go.Sx.wrapA Go.IntKind.i64 f) 536870913)]) (Go.Sx.BR (Go.Sx.eqI (Int.tmod kd 4) 1) (vz = .agg [.int .i64 (Int.tmod (Int.tmod (Go.Sx.wrapA Go.IntKind.i64 a) 16777217) 300000), .int .i64 (Int.tmod (Int.tmod (Go.Sx.wrapA Go.IntKind.i64 b) 16777217) 300000), .int .i64 (Int.tmod (Int.tmod (Go.Sx.wrapA Go.IntKind.i64 c) 16777217) 300000), .int .i64 (Int.tmod (Int.tmod (Go.Sx.wrapA Go.IntKind.i64 d) 16777217) 300000), .int .i64 (Int.tmod (Int.tmod (Go.Sx.wrapA Go.IntKind.i64 e) 536870913) 9000000), .int .i64 (Int.tmod (Int.tmod (Go.Sx.wrapA Go.IntKind.i64 f) 536870913) 9000000)]) (Go.Sx.BR (Go.Sx.eqI (Int.tmod kd 4) 2) (vz = .agg [.int .i64 (Int.tmod (Int.tmod (Go.Sx.wrapA Go.IntKind.i64 a) 16777217) 300000), .int .i64 (.ofNat 0), .int .i64 (.ofNat 0), .int .i64 (Int.tmod (Int.tmod (Go.Sx.wrapA Go.IntKind.i64 d) 16777217) 300000), .int .i64 (Int.tmod (Int.tmod (Go.Sx.wrapA Go.IntKind.i64 e) 536870913) 9000000), .int .i64 (Int.tmod (Int.tmod (Go.Sx.wrapA Go.IntKind.i64 f) 536870913) 9000000)]) (vz = .agg [.int .i64 (.ofNat 0), .int .i64 (Int.tmod (Int.tmod (Go.Sx.wrapA Go.IntKind.i64 b) 16777217) 300000), .int .i64 (Int.tmod (Int.tmod (Go.Sx.wrapA Go.IntKind.i64 c) 16777217) 300000), .int .i64 (.ofNat 0), .int .i64 (Int.tmod (Int.tmod (Go.Sx.wrapA Go.IntKind.i64 e) 536870913) 9000000), .int .i64 (Int.tmod (Int.tmod (Go.Sx.wrapA Go.IntKind.i64 f) 536870913) 9000000)])))) := by kernel_rfl
theorem run35 (n : Nat) (kd : Int) (a : Int) (b : Int) (c : Int) (d : Int) (e : Int) (f : Int) (r : Int × Int × Int × Int × Int × Int) (h : F35 kd a b c d e f = some r) : Go.Sx.Run Try.prog Try.f35 [] (.agg [.int .i64 r.1, .int .i64 r.2.1, .int .i64 r.2.2.1, .int .i64 r.2.2.2.1, .int .i64 r.2.2.2.2.1, .int .i64 r.2.2.2.2.2]) [] (.code body35 (Go.Sx.startA [.agg [.int .u8 kd, .int .i32 a, .int .i32 b, .int .i32 c, .int .i32 d, .int .i32 e, .int .i32 f]] Try.f35) (Go.Sx.laidHeap [])) := by
  exact Go.Sx.wpS_run (L := []) (by kernel_rfl) (form35 n kd a b c d e f (.agg [.int .i64 r.1, .int .i64 r.2.1, .int .i64 r.2.2.1, .int .i64 r.2.2.2.1, .int .i64 r.2.2.2.2.1, .int .i64 r.2.2.2.2.2])) ((Go.Sx.br_of (fun h0 => (fun h => by cases h; rfl)) (fun h0 => (Go.Sx.br_of (fun h1 => (fun h => by cases h; rfl)) (fun h1 => (Go.Sx.br_of (fun h2 => (fun h => by cases h; rfl)) (fun h2 => (fun h => by cases h; rfl))))))) h)
noncomputable def F35_0 (kd : Int) (a : Int) (b : Int) (c : Int) (d : Int) (e : Int) (f : Int) : Int := ((F35 kd a b c d e f).getD default).1
noncomputable def F35_1 (kd : Int) (a : Int) (b : Int) (c : Int) (d : Int) (e : Int) (f : Int) : Int := ((F35 kd a b c d e f).getD default).2.1
noncomputable def F35_2 (kd : Int) (a : Int) (b : Int) (c : Int) (d : Int) (e : Int) (f : Int) : Int := ((F35 kd a b c d e f).getD default).2.2.1
noncomputable def F35_3 (kd : Int) (a : Int) (b : Int) (c : Int) (d : Int) (e : Int) (f : Int) : Int := ((F35 kd a b c d e f).getD default).2.2.2.1
noncomputable def F35_4 (kd : Int) (a : Int) (b : Int) (c : Int) (d : Int) (e : Int) (f : Int) : Int := ((F35 kd a b c d e f).getD default).2.2.2.2.1
noncomputable def F35_5 (kd : Int) (a : Int) (b : Int) (c : Int) (d : Int) (e : Int) (f : Int) : Int := ((F35 kd a b c d e f).getD default).2.2.2.2.2
theorem F35_some (kd : Int) (a : Int) (b : Int) (c : Int) (d : Int) (e : Int) (f : Int) : (F35 kd a b c d e f).isSome = true := by
  unfold F35
  repeat' (first | rfl | apply Go.Sx.some_br)
theorem fact35 (kd : Int) (a : Int) (b : Int) (c : Int) (d : Int) (e : Int) (f : Int) : Go.Sx.Fact Try.prog [] 35 [.agg [.int .u8 kd, .int .i32 a, .int .i32 b, .int .i32 c, .int .i32 d, .int .i32 e, .int .i32 f]] (.agg [.int .i64 (F35_0 kd a b c d e f), .int .i64 (F35_1 kd a b c d e f), .int .i64 (F35_2 kd a b c d e f), .int .i64 (F35_3 kd a b c d e f), .int .i64 (F35_4 kd a b c d e f), .int .i64 (F35_5 kd a b c d e f)]) := Go.Sx.fact_of_run okayed (by kernel_rfl) (by kernel_rfl) (by kernel_rfl) Try.func35 body35_eq (run35 0 kd a b c d e f ((F35 kd a b c d e f).getD default) (Go.Sx.getD_some (F35_some kd a b c d e f)))
noncomputable def body25 : Go.Code := (Try.f25.body).getD .skip
theorem body25_eq : Try.f25.body = some body25 := Go.Sx.some_getD (by kernel_rfl)
noncomputable def t25_0 (a : (Int)) (c : (Int)) (e : (Int)) (x : (Int)) (y : (Int)) : Int := (Go.Sx.wrapA Go.IntKind.i64 (Int.add (Int.fdiv (Go.Sx.wrapA Go.IntKind.i64 (Int.add (Go.Sx.wrapA Go.IntKind.i64 (Int.add (Go.Sx.wrapA Go.IntKind.i64 (Int.add 0 (Go.Sx.wrapA Go.IntKind.i64 (Int.mul a x)))) (Go.Sx.wrapA Go.IntKind.i64 (Int.mul c y)))) 32768)) (65536)) e))
noncomputable def t25_1 (b : (Int)) (d : (Int)) (f : (Int)) (x : (Int)) (y : (Int)) : Int := (Go.Sx.wrapA Go.IntKind.i64 (Int.add (Int.fdiv (Go.Sx.wrapA Go.IntKind.i64 (Int.add (Go.Sx.wrapA Go.IntKind.i64 (Int.add (Go.Sx.wrapA Go.IntKind.i64 (Int.add 0 (Go.Sx.wrapA Go.IntKind.i64 (Int.mul b x)))) (Go.Sx.wrapA Go.IntKind.i64 (Int.mul d y)))) 32768)) (65536)) f))
noncomputable def t25_2 (a : (Int)) (b : (Int)) (c : (Int)) (d : (Int)) (e : (Int)) (f : (Int)) (x : (Int)) (y : (Int)) : Int := (F51_0 a b c d (t25_0 a c e x y) (t25_1 b d f x y))
noncomputable def t25_3 (a : (Int)) (b : (Int)) (c : (Int)) (d : (Int)) (e : (Int)) (f : (Int)) (x : (Int)) (y : (Int)) : Int := (F51_1 a b c d (t25_0 a c e x y) (t25_1 b d f x y))
noncomputable def t25_4 (a : (Int)) (b : (Int)) (c : (Int)) (d : (Int)) (e : (Int)) (f : (Int)) (x : (Int)) (y : (Int)) : Int := (F51_2 a b c d (t25_0 a c e x y) (t25_1 b d f x y))
noncomputable def t25_5 (a : (Int)) (b : (Int)) (c : (Int)) (d : (Int)) (e : (Int)) (f : (Int)) (x : (Int)) (y : (Int)) : Int := (F51_3 a b c d (t25_0 a c e x y) (t25_1 b d f x y))
noncomputable def t25_6 (a : (Int)) (b : (Int)) (c : (Int)) (d : (Int)) (e : (Int)) (f : (Int)) (x : (Int)) (y : (Int)) : Int := (F51_4 a b c d (t25_0 a c e x y) (t25_1 b d f x y))
noncomputable def t25_7 (a : (Int)) (b : (Int)) (c : (Int)) (d : (Int)) (e : (Int)) (f : (Int)) (x : (Int)) (y : (Int)) : Int := (F51_5 a b c d (t25_0 a c e x y) (t25_1 b d f x y))
noncomputable def t25_8 (a : (Int)) (b : (Int)) (c : (Int)) (d : (Int)) (e : (Int)) (f : (Int)) (x : (Int)) (y : (Int)) : Int := (F51_6 a b c d (t25_0 a c e x y) (t25_1 b d f x y))
noncomputable def F25 (a : Int) (b : Int) (c : Int) (d : Int) (e : Int) (f : Int) (x : Int) (y : Int) : Option (Int × Int × Int × Int × Int × Int × Int) := (bif (!Go.Sx.eqI (F11_0 a b c d e f) 0) then (some (0, 0, 0, 0, 0, 0, (F11_0 a b c d e f))) else (bif (!F38_0 x (2147483648)) then (some (0, 0, 0, 0, 0, 0, 2)) else (bif (!F38_0 y (2147483648)) then (some (0, 0, 0, 0, 0, 0, 2)) else (some ((t25_2 a b c d e f x y), (t25_3 a b c d e f x y), (t25_4 a b c d e f x y), (t25_5 a b c d e f x y), (t25_6 a b c d e f x y), (t25_7 a b c d e f x y), (t25_8 a b c d e f x y))))))
set_option maxHeartbeats 4000000 in
theorem form25 (n : Nat) (a : Int) (b : Int) (c : Int) (d : Int) (e : Int) (f : Int) (x : Int) (y : Int) (vz : Go.Sx.AV) : Go.Sx.wpS Try.prog Try.f25 [] vz (.st [0, 0, 2, 2, 2, 0, 0, 0, 0, 0, 2, 2, 2, 2, 0, 0, 0, 2, 2, 0, 0, 0, 0, 0, 2] (.use (.int .i64 (F11_0 a b c d e f)) (.st [2, 0, 0, 0, 0, 2, 2, 0, 0] (.br 11 (.st [0, 0, 0, 2, 2, 0, 0, 2, 0, 0, 2, 0, 0, 0, 0, 2, 2, 0, 0] (.br 15 (.st [0, 0, 0, 2, 2, 2, 2, 0, 0, 2, 0] .ans) .dead)) (.st [0, 2, 0, 0, 0, 0, 2, 2, 2, 0, 0, 0, 0, 0, 0, 0, 2, 0, 0, 0, 0, 2, 0, 0, 0, 0, 0, 2, 2, 2, 0, 0, 0, 0, 2] (.use (.bool (F38_0 x (2147483648))) (.st [2, 0, 0] (.br 21 (.st [0, 0, 0, 2, 0, 0, 2, 0, 0, 0, 0, 0, 0, 2, 0, 0, 0, 0, 2, 2, 0, 0, 0, 0, 0, 2, 2, 2, 2, 0, 0, 2, 0] .ans) (.st [0, 2, 0, 0, 0, 2, 2, 0, 0, 0, 0, 0, 2, 0, 0, 0, 0, 2, 0, 0, 0, 0, 0, 2, 2, 2, 0, 0, 0, 0, 2] (.use (.bool (F38_0 y (2147483648))) (.st [2, 0, 0] (.br 21 (.st [0, 0, 0, 2, 0, 0, 2, 0, 0, 0, 0, 0, 0, 2, 0, 0, 0, 0, 2, 2, 0, 0, 0, 0, 0, 2, 2, 2, 2, 0, 0, 2, 0] .ans) (.st [0, 2, 0, 0, 0, 2, 2, 0, 0, 0, 0, 0, 2, 0, 0, 0, 0, 2, 0, 0, 0, 0, 0, 0, 2, 0, 0, 2, 0, 2, 0, 0, 0, 0, 2, 2, 0, 0, 0, 2, 0, 0] (.dr [.run, .run, .run, .run, .run, .run, .run, .run, .run, .run, .run, .run, .run, .run, .run, .run, .run, .run, .run, .run, .run, .run, .run, .run, .run, .run, .run, .run, .run, .run, .run, .run, .run, .run, .run, .use (.tup [.agg [.int .i64 (F51_0 a b c d (t25_0 a c e x y) (t25_1 b d f x y)), .int .i64 (F51_1 a b c d (t25_0 a c e x y) (t25_1 b d f x y)), .int .i64 (F51_2 a b c d (t25_0 a c e x y) (t25_1 b d f x y)), .int .i64 (F51_3 a b c d (t25_0 a c e x y) (t25_1 b d f x y)), .int .i64 (F51_4 a b c d (t25_0 a c e x y) (t25_1 b d f x y)), .int .i64 (F51_5 a b c d (t25_0 a c e x y) (t25_1 b d f x y))], .int .i64 (F51_6 a b c d (t25_0 a c e x y) (t25_1 b d f x y))]), .run, .run] (.st [2, 2, 0, 0, 2] .ans))))))))))))))) [] (.code body25 (Go.Sx.startA [.agg [.int .i64 a, .int .i64 b, .int .i64 c, .int .i64 d, .int .i64 e, .int .i64 f], .int .i64 x, .int .i64 y] Try.f25) (Go.Sx.laidHeap [])) = (Go.Sx.Fact Try.prog [] 11 [.agg [.int .i64 (a), .int .i64 (b), .int .i64 (c), .int .i64 (d), .int .i64 (e), .int .i64 (f)]] (.int .i64 (F11_0 a b c d e f)) ∧ (Go.Sx.BR (!Go.Sx.eqI (F11_0 a b c d e f) 0) (Go.Sx.BR (!Go.Sx.eqI (F11_0 a b c d e f) 0) (vz = .tup [.agg [.int .i64 (.ofNat 0), .int .i64 (.ofNat 0), .int .i64 (.ofNat 0), .int .i64 (.ofNat 0), .int .i64 (.ofNat 0), .int .i64 (.ofNat 0)], .int .i64 (F11_0 a b c d e f)]) False) (Go.Sx.Fact Try.prog [] 38 [.int .i64 (x), .int .i64 (.ofNat 2147483648)] (.bool (F38_0 x (2147483648))) ∧ (Go.Sx.BR (!F38_0 x (2147483648)) (vz = .tup [.agg [.int .i64 (.ofNat 0), .int .i64 (.ofNat 0), .int .i64 (.ofNat 0), .int .i64 (.ofNat 0), .int .i64 (.ofNat 0), .int .i64 (.ofNat 0)], .int .i64 (.ofNat 2)]) (Go.Sx.Fact Try.prog [] 38 [.int .i64 (y), .int .i64 (.ofNat 2147483648)] (.bool (F38_0 y (2147483648))) ∧ (Go.Sx.BR (!F38_0 y (2147483648)) (vz = .tup [.agg [.int .i64 (.ofNat 0), .int .i64 (.ofNat 0), .int .i64 (.ofNat 0), .int .i64 (.ofNat 0), .int .i64 (.ofNat 0), .int .i64 (.ofNat 0)], .int .i64 (.ofNat 2)]) (Go.Sx.AN (Bool.true) (Go.Sx.Fact Try.prog [] 51 [.agg [.int .i64 (a), .int .i64 (b), .int .i64 (c), .int .i64 (d), .int .i64 (t25_0 a c e x y), .int .i64 (t25_1 b d f x y)]] (.tup [.agg [.int .i64 (F51_0 a b c d (t25_0 a c e x y) (t25_1 b d f x y)), .int .i64 (F51_1 a b c d (t25_0 a c e x y) (t25_1 b d f x y)), .int .i64 (F51_2 a b c d (t25_0 a c e x y) (t25_1 b d f x y)), .int .i64 (F51_3 a b c d (t25_0 a c e x y) (t25_1 b d f x y)), .int .i64 (F51_4 a b c d (t25_0 a c e x y) (t25_1 b d f x y)), .int .i64 (F51_5 a b c d (t25_0 a c e x y) (t25_1 b d f x y))], .int .i64 (F51_6 a b c d (t25_0 a c e x y) (t25_1 b d f x y))]) ∧ (vz = .tup [.agg [.int .i64 (t25_2 a b c d e f x y), .int .i64 (t25_3 a b c d e f x y), .int .i64 (t25_4 a b c d e f x y), .int .i64 (t25_5 a b c d e f x y), .int .i64 (t25_6 a b c d e f x y), .int .i64 (t25_7 a b c d e f x y)], .int .i64 (t25_8 a b c d e f x y)]))))))))) := by kernel_rfl
theorem run25 (n : Nat) (a : Int) (b : Int) (c : Int) (d : Int) (e : Int) (f : Int) (x : Int) (y : Int) (r : Int × Int × Int × Int × Int × Int × Int) (h : F25 a b c d e f x y = some r) : Go.Sx.Run Try.prog Try.f25 [] (.tup [.agg [.int .i64 r.1, .int .i64 r.2.1, .int .i64 r.2.2.1, .int .i64 r.2.2.2.1, .int .i64 r.2.2.2.2.1, .int .i64 r.2.2.2.2.2.1], .int .i64 r.2.2.2.2.2.2]) [] (.code body25 (Go.Sx.startA [.agg [.int .i64 a, .int .i64 b, .int .i64 c, .int .i64 d, .int .i64 e, .int .i64 f], .int .i64 x, .int .i64 y] Try.f25) (Go.Sx.laidHeap [])) := by
  exact Go.Sx.wpS_run (L := []) (by kernel_rfl) (form25 n a b c d e f x y (.tup [.agg [.int .i64 r.1, .int .i64 r.2.1, .int .i64 r.2.2.1, .int .i64 r.2.2.2.1, .int .i64 r.2.2.2.2.1, .int .i64 r.2.2.2.2.2.1], .int .i64 r.2.2.2.2.2.2])) ((fun h => ⟨fact11 (a) (b) (c) (d) (e) (f), (Go.Sx.br_of (fun h0 => (fun h => ⟨fun _ => (fun h => by cases h; rfl) h, fun q => Go.Sx.tf h0 q⟩)) (fun h0 => (fun h => ⟨fact38 (x) (2147483648), (Go.Sx.br_of (fun h1 => (fun h => by cases h; rfl)) (fun h1 => (fun h => ⟨fact38 (y) (2147483648), (Go.Sx.br_of (fun h2 => (fun h => by cases h; rfl)) (fun h2 => (fun h => ⟨rfl, (fun h => ⟨fact51 (a) (b) (c) (d) (t25_0 a c e x y) (t25_1 b d f x y), (fun h => by cases h; rfl) h⟩) h⟩))) h⟩))) h⟩))) h⟩) h)
noncomputable def F25_0 (a : Int) (b : Int) (c : Int) (d : Int) (e : Int) (f : Int) (x : Int) (y : Int) : Int := ((F25 a b c d e f x y).getD default).1
noncomputable def F25_1 (a : Int) (b : Int) (c : Int) (d : Int) (e : Int) (f : Int) (x : Int) (y : Int) : Int := ((F25 a b c d e f x y).getD default).2.1
noncomputable def F25_2 (a : Int) (b : Int) (c : Int) (d : Int) (e : Int) (f : Int) (x : Int) (y : Int) : Int := ((F25 a b c d e f x y).getD default).2.2.1
noncomputable def F25_3 (a : Int) (b : Int) (c : Int) (d : Int) (e : Int) (f : Int) (x : Int) (y : Int) : Int := ((F25 a b c d e f x y).getD default).2.2.2.1
noncomputable def F25_4 (a : Int) (b : Int) (c : Int) (d : Int) (e : Int) (f : Int) (x : Int) (y : Int) : Int := ((F25 a b c d e f x y).getD default).2.2.2.2.1
noncomputable def F25_5 (a : Int) (b : Int) (c : Int) (d : Int) (e : Int) (f : Int) (x : Int) (y : Int) : Int := ((F25 a b c d e f x y).getD default).2.2.2.2.2.1
noncomputable def F25_6 (a : Int) (b : Int) (c : Int) (d : Int) (e : Int) (f : Int) (x : Int) (y : Int) : Int := ((F25 a b c d e f x y).getD default).2.2.2.2.2.2
theorem F25_some (a : Int) (b : Int) (c : Int) (d : Int) (e : Int) (f : Int) (x : Int) (y : Int) : (F25 a b c d e f x y).isSome = true := by
  unfold F25
  repeat' (first | rfl | apply Go.Sx.some_br)
theorem fact25 (a : Int) (b : Int) (c : Int) (d : Int) (e : Int) (f : Int) (x : Int) (y : Int) : Go.Sx.Fact Try.prog [] 25 [.agg [.int .i64 a, .int .i64 b, .int .i64 c, .int .i64 d, .int .i64 e, .int .i64 f], .int .i64 x, .int .i64 y] (.tup [.agg [.int .i64 (F25_0 a b c d e f x y), .int .i64 (F25_1 a b c d e f x y), .int .i64 (F25_2 a b c d e f x y), .int .i64 (F25_3 a b c d e f x y), .int .i64 (F25_4 a b c d e f x y), .int .i64 (F25_5 a b c d e f x y)], .int .i64 (F25_6 a b c d e f x y)]) := Go.Sx.fact_of_run okayed (by kernel_rfl) (by kernel_rfl) (by kernel_rfl) Try.func25 body25_eq (run25 0 a b c d e f x y ((F25 a b c d e f x y).getD default) (Go.Sx.getD_some (F25_some a b c d e f x y)))
noncomputable def body26 : Go.Code := (Try.f26.body).getD .skip
theorem body26_eq : Try.f26.body = some body26 := Go.Sx.some_getD (by kernel_rfl)
noncomputable def c26_0 (a : (Int)) (b : (Int)) (c : (Int)) (d : (Int)) (e : (Int)) (f : (Int)) (x : (Int)) (y : (Int)) : Bool := (!Go.Sx.eqI (F42_0 a b c d e f x y) 0)
noncomputable def t26_1 (a : (Int)) (c : (Int)) (e : (Int)) (x : (Int)) (y : (Int)) : Int := (Go.Sx.wrapA Go.IntKind.i64 (Int.add (F54_0 (Go.Sx.wrapA Go.IntKind.i64 (Int.add (Go.Sx.wrapA Go.IntKind.i64 (Int.mul a x)) (Go.Sx.wrapA Go.IntKind.i64 (Int.mul c y)))) (65536)) e))
noncomputable def t26_2 (b : (Int)) (d : (Int)) (f : (Int)) (x : (Int)) (y : (Int)) : Int := (Go.Sx.wrapA Go.IntKind.i64 (Int.add (F54_0 (Go.Sx.wrapA Go.IntKind.i64 (Int.add (Go.Sx.wrapA Go.IntKind.i64 (Int.mul b x)) (Go.Sx.wrapA Go.IntKind.i64 (Int.mul d y)))) (65536)) f))
noncomputable def t26_3 (a : (Int)) (b : (Int)) (c : (Int)) (d : (Int)) (e : (Int)) (f : (Int)) (x : (Int)) (y : (Int)) : Int := (F53_0 a b c d (t26_1 a c e x y) (t26_2 b d f x y))
noncomputable def t26_4 (a : (Int)) (b : (Int)) (c : (Int)) (d : (Int)) (e : (Int)) (f : (Int)) (x : (Int)) (y : (Int)) : Int := (F53_1 a b c d (t26_1 a c e x y) (t26_2 b d f x y))
noncomputable def t26_5 (a : (Int)) (b : (Int)) (c : (Int)) (d : (Int)) (e : (Int)) (f : (Int)) (x : (Int)) (y : (Int)) : Int := (F53_2 a b c d (t26_1 a c e x y) (t26_2 b d f x y))
noncomputable def t26_6 (a : (Int)) (b : (Int)) (c : (Int)) (d : (Int)) (e : (Int)) (f : (Int)) (x : (Int)) (y : (Int)) : Int := (F53_3 a b c d (t26_1 a c e x y) (t26_2 b d f x y))
noncomputable def t26_7 (a : (Int)) (b : (Int)) (c : (Int)) (d : (Int)) (e : (Int)) (f : (Int)) (x : (Int)) (y : (Int)) : Int := (F53_4 a b c d (t26_1 a c e x y) (t26_2 b d f x y))
noncomputable def t26_8 (a : (Int)) (b : (Int)) (c : (Int)) (d : (Int)) (e : (Int)) (f : (Int)) (x : (Int)) (y : (Int)) : Int := (F53_5 a b c d (t26_1 a c e x y) (t26_2 b d f x y))
noncomputable def t26_9 (a : (Int)) (b : (Int)) (c : (Int)) (d : (Int)) (e : (Int)) (f : (Int)) (x : (Int)) (y : (Int)) : Int := (F53_6 a b c d (t26_1 a c e x y) (t26_2 b d f x y))
noncomputable def F26 (a : Int) (b : Int) (c : Int) (d : Int) (e : Int) (f : Int) (x : Int) (y : Int) : Option (Int × Int × Int × Int × Int × Int × Int) := (bif (c26_0 a b c d e f x y) then (some (0, 0, 0, 0, 0, 0, (F42_0 a b c d e f x y))) else (bif (Option.isSome (F54 (Go.Sx.wrapA Go.IntKind.i64 (Int.add (Go.Sx.wrapA Go.IntKind.i64 (Int.mul a x)) (Go.Sx.wrapA Go.IntKind.i64 (Int.mul c y)))) 65536)) then (bif (Option.isSome (F54 (Go.Sx.wrapA Go.IntKind.i64 (Int.add (Go.Sx.wrapA Go.IntKind.i64 (Int.mul b x)) (Go.Sx.wrapA Go.IntKind.i64 (Int.mul d y)))) 65536)) then (some ((t26_3 a b c d e f x y), (t26_4 a b c d e f x y), (t26_5 a b c d e f x y), (t26_6 a b c d e f x y), (t26_7 a b c d e f x y), (t26_8 a b c d e f x y), (t26_9 a b c d e f x y))) else none) else none))
set_option maxHeartbeats 4000000 in
theorem form26 (n : Nat) (a : Int) (b : Int) (c : Int) (d : Int) (e : Int) (f : Int) (x : Int) (y : Int) (vz : Go.Sx.AV) : Go.Sx.wpS Try.prog Try.f26 [] vz (.st [0, 0, 2, 2, 2, 0, 0, 0, 0, 2, 2, 2] (.use (.int .i64 (F42_0 a b c d e f x y)) (.st [2, 0, 0, 0, 0, 0, 2, 2, 0, 0] (.br 14 (.st [0, 0, 0, 2, 2, 2, 2, 0, 0, 2, 0] .ans) (.st [0, 2, 0, 0] (.dr [.run, .run, .run, .run, .run, .run, .run, .run, .run, .use (.int .i64 (F54_0 (Go.Sx.wrapA Go.IntKind.i64 (Int.add (Go.Sx.wrapA Go.IntKind.i64 (Int.mul a x)) (Go.Sx.wrapA Go.IntKind.i64 (Int.mul c y)))) (Int.ofNat 65536))), .run, .run, .run, .run, .run, .run, .run, .run, .run, .run, .run, .run, .use (.int .i64 (F54_0 (Go.Sx.wrapA Go.IntKind.i64 (Int.add (Go.Sx.wrapA Go.IntKind.i64 (Int.mul b x)) (Go.Sx.wrapA Go.IntKind.i64 (Int.mul d y)))) (Int.ofNat 65536))), .run, .run, .run, .run, .run] (.st [2, 2, 0, 0, 0, 0, 2] (.use (.tup [.agg [.int .i64 (F53_0 a b c d (t26_1 a c e x y) (t26_2 b d f x y)), .int .i64 (F53_1 a b c d (t26_1 a c e x y) (t26_2 b d f x y)), .int .i64 (F53_2 a b c d (t26_1 a c e x y) (t26_2 b d f x y)), .int .i64 (F53_3 a b c d (t26_1 a c e x y) (t26_2 b d f x y)), .int .i64 (F53_4 a b c d (t26_1 a c e x y) (t26_2 b d f x y)), .int .i64 (F53_5 a b c d (t26_1 a c e x y) (t26_2 b d f x y))], .int .i64 (F53_6 a b c d (t26_1 a c e x y) (t26_2 b d f x y))]) (.st [2, 2, 2, 2, 0, 0, 2] .ans))))))))) [] (.code body26 (Go.Sx.startA [.agg [.int .i64 a, .int .i64 b, .int .i64 c, .int .i64 d, .int .i64 e, .int .i64 f], .int .i64 x, .int .i64 y] Try.f26) (Go.Sx.laidHeap [])) = (Go.Sx.Fact Try.prog [] 42 [.agg [.int .i64 (a), .int .i64 (b), .int .i64 (c), .int .i64 (d), .int .i64 (e), .int .i64 (f)], .int .i64 (x), .int .i64 (y)] (.int .i64 (F42_0 a b c d e f x y)) ∧ (Go.Sx.BR (c26_0 a b c d e f x y) (vz = .tup [.agg [.int .i64 (.ofNat 0), .int .i64 (.ofNat 0), .int .i64 (.ofNat 0), .int .i64 (.ofNat 0), .int .i64 (.ofNat 0), .int .i64 (.ofNat 0)], .int .i64 (F42_0 a b c d e f x y)]) (Go.Sx.AN (Bool.true) (Go.Sx.Fact Try.prog [] 54 [.int .i64 (Go.Sx.wrapA Go.IntKind.i64 (Int.add (Go.Sx.wrapA Go.IntKind.i64 (Int.mul a x)) (Go.Sx.wrapA Go.IntKind.i64 (Int.mul c y)))), .int .i64 (.ofNat 65536)] (.int .i64 (F54_0 (Go.Sx.wrapA Go.IntKind.i64 (Int.add (Go.Sx.wrapA Go.IntKind.i64 (Int.mul a x)) (Go.Sx.wrapA Go.IntKind.i64 (Int.mul c y)))) (Int.ofNat 65536))) ∧ (Go.Sx.Fact Try.prog [] 54 [.int .i64 (Go.Sx.wrapA Go.IntKind.i64 (Int.add (Go.Sx.wrapA Go.IntKind.i64 (Int.mul b x)) (Go.Sx.wrapA Go.IntKind.i64 (Int.mul d y)))), .int .i64 (.ofNat 65536)] (.int .i64 (F54_0 (Go.Sx.wrapA Go.IntKind.i64 (Int.add (Go.Sx.wrapA Go.IntKind.i64 (Int.mul b x)) (Go.Sx.wrapA Go.IntKind.i64 (Int.mul d y)))) (Int.ofNat 65536))) ∧ (Go.Sx.Fact Try.prog [] 53 [.agg [.int .i64 (a), .int .i64 (b), .int .i64 (c), .int .i64 (d), .int .i64 (t26_1 a c e x y), .int .i64 (t26_2 b d f x y)]] (.tup [.agg [.int .i64 (F53_0 a b c d (t26_1 a c e x y) (t26_2 b d f x y)), .int .i64 (F53_1 a b c d (t26_1 a c e x y) (t26_2 b d f x y)), .int .i64 (F53_2 a b c d (t26_1 a c e x y) (t26_2 b d f x y)), .int .i64 (F53_3 a b c d (t26_1 a c e x y) (t26_2 b d f x y)), .int .i64 (F53_4 a b c d (t26_1 a c e x y) (t26_2 b d f x y)), .int .i64 (F53_5 a b c d (t26_1 a c e x y) (t26_2 b d f x y))], .int .i64 (F53_6 a b c d (t26_1 a c e x y) (t26_2 b d f x y))]) ∧ (vz = .tup [.agg [.int .i64 (t26_3 a b c d e f x y), .int .i64 (t26_4 a b c d e f x y), .int .i64 (t26_5 a b c d e f x y), .int .i64 (t26_6 a b c d e f x y), .int .i64 (t26_7 a b c d e f x y), .int .i64 (t26_8 a b c d e f x y)], .int .i64 (t26_9 a b c d e f x y)]))))))) := by kernel_rfl
theorem run26 (n : Nat) (a : Int) (b : Int) (c : Int) (d : Int) (e : Int) (f : Int) (x : Int) (y : Int) (r : Int × Int × Int × Int × Int × Int × Int) (h : F26 a b c d e f x y = some r) : Go.Sx.Run Try.prog Try.f26 [] (.tup [.agg [.int .i64 r.1, .int .i64 r.2.1, .int .i64 r.2.2.1, .int .i64 r.2.2.2.1, .int .i64 r.2.2.2.2.1, .int .i64 r.2.2.2.2.2.1], .int .i64 r.2.2.2.2.2.2]) [] (.code body26 (Go.Sx.startA [.agg [.int .i64 a, .int .i64 b, .int .i64 c, .int .i64 d, .int .i64 e, .int .i64 f], .int .i64 x, .int .i64 y] Try.f26) (Go.Sx.laidHeap [])) := by
  exact Go.Sx.wpS_run (L := []) (by kernel_rfl) (form26 n a b c d e f x y (.tup [.agg [.int .i64 r.1, .int .i64 r.2.1, .int .i64 r.2.2.1, .int .i64 r.2.2.2.1, .int .i64 r.2.2.2.2.1, .int .i64 r.2.2.2.2.2.1], .int .i64 r.2.2.2.2.2.2])) ((fun h => ⟨fact42 (a) (b) (c) (d) (e) (f) (x) (y), (Go.Sx.br_of (fun h0 => (fun h => by cases h; rfl)) (fun h0 => (fun h => ⟨rfl, (Go.Sx.guard_of fun h1 => (fun h => ⟨fact54 (Go.Sx.wrapA Go.IntKind.i64 (Int.add (Go.Sx.wrapA Go.IntKind.i64 (Int.mul a x)) (Go.Sx.wrapA Go.IntKind.i64 (Int.mul c y)))) (65536) h1, (Go.Sx.guard_of fun h2 => (fun h => ⟨fact54 (Go.Sx.wrapA Go.IntKind.i64 (Int.add (Go.Sx.wrapA Go.IntKind.i64 (Int.mul b x)) (Go.Sx.wrapA Go.IntKind.i64 (Int.mul d y)))) (65536) h2, (fun h => ⟨fact53 (a) (b) (c) (d) (t26_1 a c e x y) (t26_2 b d f x y), (fun h => by cases h; rfl) h⟩) h⟩)) h⟩)) h⟩))) h⟩) h)
noncomputable def F26_0 (a : Int) (b : Int) (c : Int) (d : Int) (e : Int) (f : Int) (x : Int) (y : Int) : Int := ((F26 a b c d e f x y).getD default).1
noncomputable def F26_1 (a : Int) (b : Int) (c : Int) (d : Int) (e : Int) (f : Int) (x : Int) (y : Int) : Int := ((F26 a b c d e f x y).getD default).2.1
noncomputable def F26_2 (a : Int) (b : Int) (c : Int) (d : Int) (e : Int) (f : Int) (x : Int) (y : Int) : Int := ((F26 a b c d e f x y).getD default).2.2.1
noncomputable def F26_3 (a : Int) (b : Int) (c : Int) (d : Int) (e : Int) (f : Int) (x : Int) (y : Int) : Int := ((F26 a b c d e f x y).getD default).2.2.2.1
noncomputable def F26_4 (a : Int) (b : Int) (c : Int) (d : Int) (e : Int) (f : Int) (x : Int) (y : Int) : Int := ((F26 a b c d e f x y).getD default).2.2.2.2.1
noncomputable def F26_5 (a : Int) (b : Int) (c : Int) (d : Int) (e : Int) (f : Int) (x : Int) (y : Int) : Int := ((F26 a b c d e f x y).getD default).2.2.2.2.2.1
noncomputable def F26_6 (a : Int) (b : Int) (c : Int) (d : Int) (e : Int) (f : Int) (x : Int) (y : Int) : Int := ((F26 a b c d e f x y).getD default).2.2.2.2.2.2
theorem fact26 (a : Int) (b : Int) (c : Int) (d : Int) (e : Int) (f : Int) (x : Int) (y : Int) (h : (F26 a b c d e f x y).isSome = true) : Go.Sx.Fact Try.prog [] 26 [.agg [.int .i64 a, .int .i64 b, .int .i64 c, .int .i64 d, .int .i64 e, .int .i64 f], .int .i64 x, .int .i64 y] (.tup [.agg [.int .i64 (F26_0 a b c d e f x y), .int .i64 (F26_1 a b c d e f x y), .int .i64 (F26_2 a b c d e f x y), .int .i64 (F26_3 a b c d e f x y), .int .i64 (F26_4 a b c d e f x y), .int .i64 (F26_5 a b c d e f x y)], .int .i64 (F26_6 a b c d e f x y)]) := Go.Sx.fact_of_run okayed (by kernel_rfl) (by kernel_rfl) (by kernel_rfl) Try.func26 body26_eq (run26 0 a b c d e f x y ((F26 a b c d e f x y).getD default) (Go.Sx.getD_some h))
noncomputable def body27 : Go.Code := (Try.f27.body).getD .skip
theorem body27_eq : Try.f27.body = some body27 := Go.Sx.some_getD (by kernel_rfl)
noncomputable def t27_0 (a : (Int)) (x : (Int)) : Int := (Int.fdiv (Go.Sx.wrapA Go.IntKind.i64 (Int.add (Go.Sx.wrapA Go.IntKind.i64 (Int.add 0 (Go.Sx.wrapA Go.IntKind.i64 (Int.mul a x)))) 32768)) (65536))
noncomputable def t27_1 (b : (Int)) (x : (Int)) : Int := (Int.fdiv (Go.Sx.wrapA Go.IntKind.i64 (Int.add (Go.Sx.wrapA Go.IntKind.i64 (Int.add 0 (Go.Sx.wrapA Go.IntKind.i64 (Int.mul b x)))) 32768)) (65536))
noncomputable def t27_2 (c : (Int)) (y : (Int)) : Int := (Int.fdiv (Go.Sx.wrapA Go.IntKind.i64 (Int.add (Go.Sx.wrapA Go.IntKind.i64 (Int.add 0 (Go.Sx.wrapA Go.IntKind.i64 (Int.mul c y)))) 32768)) (65536))
noncomputable def t27_3 (d : (Int)) (y : (Int)) : Int := (Int.fdiv (Go.Sx.wrapA Go.IntKind.i64 (Int.add (Go.Sx.wrapA Go.IntKind.i64 (Int.add 0 (Go.Sx.wrapA Go.IntKind.i64 (Int.mul d y)))) 32768)) (65536))
noncomputable def F27 (a : Int) (b : Int) (c : Int) (d : Int) (e : Int) (f : Int) (x : Int) (y : Int) : Option (Int × Int × Int × Int × Int × Int × Int) := (bif (!Go.Sx.eqI (F11_0 a b c d e f) 0) then (some (0, 0, 0, 0, 0, 0, (F11_0 a b c d e f))) else (bif (!F38_0 x (2147483648)) then (some (0, 0, 0, 0, 0, 0, 2)) else (bif (!F38_0 y (2147483648)) then (some (0, 0, 0, 0, 0, 0, 2)) else (some ((F51_0 (t27_0 a x) (t27_1 b x) (t27_2 c y) (t27_3 d y) e f), (F51_1 (t27_0 a x) (t27_1 b x) (t27_2 c y) (t27_3 d y) e f), (F51_2 (t27_0 a x) (t27_1 b x) (t27_2 c y) (t27_3 d y) e f), (F51_3 (t27_0 a x) (t27_1 b x) (t27_2 c y) (t27_3 d y) e f), (F51_4 (t27_0 a x) (t27_1 b x) (t27_2 c y) (t27_3 d y) e f), (F51_5 (t27_0 a x) (t27_1 b x) (t27_2 c y) (t27_3 d y) e f), (F51_6 (t27_0 a x) (t27_1 b x) (t27_2 c y) (t27_3 d y) e f))))))
set_option maxHeartbeats 4000000 in
theorem form27 (n : Nat) (a : Int) (b : Int) (c : Int) (d : Int) (e : Int) (f : Int) (x : Int) (y : Int) (vz : Go.Sx.AV) : Go.Sx.wpS Try.prog Try.f27 [] vz (.st [0, 0, 2, 2, 2, 0, 0, 0, 0, 0, 2, 2, 2, 2, 0, 0, 0, 2, 2, 0, 0, 0, 0, 0, 2] (.use (.int .i64 (F11_0 a b c d e f)) (.st [2, 0, 0, 0, 0, 2, 2, 0, 0] (.br 11 (.st [0, 0, 0, 2, 2, 0, 0, 2, 0, 0, 2, 0, 0, 0, 0, 2, 2, 0, 0] (.br 15 (.st [0, 0, 0, 2, 2, 2, 2, 0, 0, 2, 0] .ans) .dead)) (.st [0, 2, 0, 0, 0, 0, 2, 2, 2, 0, 0, 0, 0, 0, 0, 0, 2, 0, 0, 0, 0, 2, 0, 0, 0, 0, 0, 2, 2, 2, 0, 0, 0, 0, 2] (.use (.bool (F38_0 x (2147483648))) (.st [2, 0, 0] (.br 21 (.st [0, 0, 0, 2, 0, 0, 2, 0, 0, 0, 0, 0, 0, 2, 0, 0, 0, 0, 2, 2, 0, 0, 0, 0, 0, 2, 2, 2, 2, 0, 0, 2, 0] .ans) (.st [0, 2, 0, 0, 0, 2, 2, 0, 0, 0, 0, 0, 2, 0, 0, 0, 0, 2, 0, 0, 0, 0, 0, 2, 2, 2, 0, 0, 0, 0, 2] (.use (.bool (F38_0 y (2147483648))) (.st [2, 0, 0] (.br 21 (.st [0, 0, 0, 2, 0, 0, 2, 0, 0, 0, 0, 0, 0, 2, 0, 0, 0, 0, 2, 2, 0, 0, 0, 0, 0, 2, 2, 2, 2, 0, 0, 2, 0] .ans) (.st [0, 2, 0, 0, 0, 2, 2, 0, 0, 0, 0, 0, 2, 0, 0, 0, 0, 2, 0, 0, 0, 0, 0, 0, 2, 0, 0, 2, 0, 2, 0, 0, 0, 0, 2, 2, 0, 0, 0, 2, 0, 0] (.dr [.run, .run, .run, .run, .run, .run, .run, .run, .run, .run, .run, .run, .run, .run, .run, .run, .run, .run, .run, .run, .run, .run, .run, .run, .run, .run, .run, .run, .run, .use (.tup [.agg [.int .i64 (F51_0 (t27_0 a x) (t27_1 b x) (t27_2 c y) (t27_3 d y) e f), .int .i64 (F51_1 (t27_0 a x) (t27_1 b x) (t27_2 c y) (t27_3 d y) e f), .int .i64 (F51_2 (t27_0 a x) (t27_1 b x) (t27_2 c y) (t27_3 d y) e f), .int .i64 (F51_3 (t27_0 a x) (t27_1 b x) (t27_2 c y) (t27_3 d y) e f), .int .i64 (F51_4 (t27_0 a x) (t27_1 b x) (t27_2 c y) (t27_3 d y) e f), .int .i64 (F51_5 (t27_0 a x) (t27_1 b x) (t27_2 c y) (t27_3 d y) e f)], .int .i64 (F51_6 (t27_0 a x) (t27_1 b x) (t27_2 c y) (t27_3 d y) e f)]), .run, .run] (.st [2, 2, 0, 0, 2] .ans))))))))))))))) [] (.code body27 (Go.Sx.startA [.agg [.int .i64 a, .int .i64 b, .int .i64 c, .int .i64 d, .int .i64 e, .int .i64 f], .int .i64 x, .int .i64 y] Try.f27) (Go.Sx.laidHeap [])) = (Go.Sx.Fact Try.prog [] 11 [.agg [.int .i64 (a), .int .i64 (b), .int .i64 (c), .int .i64 (d), .int .i64 (e), .int .i64 (f)]] (.int .i64 (F11_0 a b c d e f)) ∧ (Go.Sx.BR (!Go.Sx.eqI (F11_0 a b c d e f) 0) (Go.Sx.BR (!Go.Sx.eqI (F11_0 a b c d e f) 0) (vz = .tup [.agg [.int .i64 (.ofNat 0), .int .i64 (.ofNat 0), .int .i64 (.ofNat 0), .int .i64 (.ofNat 0), .int .i64 (.ofNat 0), .int .i64 (.ofNat 0)], .int .i64 (F11_0 a b c d e f)]) False) (Go.Sx.Fact Try.prog [] 38 [.int .i64 (x), .int .i64 (.ofNat 2147483648)] (.bool (F38_0 x (2147483648))) ∧ (Go.Sx.BR (!F38_0 x (2147483648)) (vz = .tup [.agg [.int .i64 (.ofNat 0), .int .i64 (.ofNat 0), .int .i64 (.ofNat 0), .int .i64 (.ofNat 0), .int .i64 (.ofNat 0), .int .i64 (.ofNat 0)], .int .i64 (.ofNat 2)]) (Go.Sx.Fact Try.prog [] 38 [.int .i64 (y), .int .i64 (.ofNat 2147483648)] (.bool (F38_0 y (2147483648))) ∧ (Go.Sx.BR (!F38_0 y (2147483648)) (vz = .tup [.agg [.int .i64 (.ofNat 0), .int .i64 (.ofNat 0), .int .i64 (.ofNat 0), .int .i64 (.ofNat 0), .int .i64 (.ofNat 0), .int .i64 (.ofNat 0)], .int .i64 (.ofNat 2)]) (Go.Sx.AN (Bool.true) (Go.Sx.Fact Try.prog [] 51 [.agg [.int .i64 (t27_0 a x), .int .i64 (t27_1 b x), .int .i64 (t27_2 c y), .int .i64 (t27_3 d y), .int .i64 (e), .int .i64 (f)]] (.tup [.agg [.int .i64 (F51_0 (t27_0 a x) (t27_1 b x) (t27_2 c y) (t27_3 d y) e f), .int .i64 (F51_1 (t27_0 a x) (t27_1 b x) (t27_2 c y) (t27_3 d y) e f), .int .i64 (F51_2 (t27_0 a x) (t27_1 b x) (t27_2 c y) (t27_3 d y) e f), .int .i64 (F51_3 (t27_0 a x) (t27_1 b x) (t27_2 c y) (t27_3 d y) e f), .int .i64 (F51_4 (t27_0 a x) (t27_1 b x) (t27_2 c y) (t27_3 d y) e f), .int .i64 (F51_5 (t27_0 a x) (t27_1 b x) (t27_2 c y) (t27_3 d y) e f)], .int .i64 (F51_6 (t27_0 a x) (t27_1 b x) (t27_2 c y) (t27_3 d y) e f)]) ∧ (vz = .tup [.agg [.int .i64 (F51_0 (t27_0 a x) (t27_1 b x) (t27_2 c y) (t27_3 d y) e f), .int .i64 (F51_1 (t27_0 a x) (t27_1 b x) (t27_2 c y) (t27_3 d y) e f), .int .i64 (F51_2 (t27_0 a x) (t27_1 b x) (t27_2 c y) (t27_3 d y) e f), .int .i64 (F51_3 (t27_0 a x) (t27_1 b x) (t27_2 c y) (t27_3 d y) e f), .int .i64 (F51_4 (t27_0 a x) (t27_1 b x) (t27_2 c y) (t27_3 d y) e f), .int .i64 (F51_5 (t27_0 a x) (t27_1 b x) (t27_2 c y) (t27_3 d y) e f)], .int .i64 (F51_6 (t27_0 a x) (t27_1 b x) (t27_2 c y) (t27_3 d y) e f)]))))))))) := by kernel_rfl
theorem run27 (n : Nat) (a : Int) (b : Int) (c : Int) (d : Int) (e : Int) (f : Int) (x : Int) (y : Int) (r : Int × Int × Int × Int × Int × Int × Int) (h : F27 a b c d e f x y = some r) : Go.Sx.Run Try.prog Try.f27 [] (.tup [.agg [.int .i64 r.1, .int .i64 r.2.1, .int .i64 r.2.2.1, .int .i64 r.2.2.2.1, .int .i64 r.2.2.2.2.1, .int .i64 r.2.2.2.2.2.1], .int .i64 r.2.2.2.2.2.2]) [] (.code body27 (Go.Sx.startA [.agg [.int .i64 a, .int .i64 b, .int .i64 c, .int .i64 d, .int .i64 e, .int .i64 f], .int .i64 x, .int .i64 y] Try.f27) (Go.Sx.laidHeap [])) := by
  exact Go.Sx.wpS_run (L := []) (by kernel_rfl) (form27 n a b c d e f x y (.tup [.agg [.int .i64 r.1, .int .i64 r.2.1, .int .i64 r.2.2.1, .int .i64 r.2.2.2.1, .int .i64 r.2.2.2.2.1, .int .i64 r.2.2.2.2.2.1], .int .i64 r.2.2.2.2.2.2])) ((fun h => ⟨fact11 (a) (b) (c) (d) (e) (f), (Go.Sx.br_of (fun h0 => (fun h => ⟨fun _ => (fun h => by cases h; rfl) h, fun q => Go.Sx.tf h0 q⟩)) (fun h0 => (fun h => ⟨fact38 (x) (2147483648), (Go.Sx.br_of (fun h1 => (fun h => by cases h; rfl)) (fun h1 => (fun h => ⟨fact38 (y) (2147483648), (Go.Sx.br_of (fun h2 => (fun h => by cases h; rfl)) (fun h2 => (fun h => ⟨rfl, (fun h => ⟨fact51 (t27_0 a x) (t27_1 b x) (t27_2 c y) (t27_3 d y) (e) (f), (fun h => by cases h; rfl) h⟩) h⟩))) h⟩))) h⟩))) h⟩) h)
noncomputable def F27_0 (a : Int) (b : Int) (c : Int) (d : Int) (e : Int) (f : Int) (x : Int) (y : Int) : Int := ((F27 a b c d e f x y).getD default).1
noncomputable def F27_1 (a : Int) (b : Int) (c : Int) (d : Int) (e : Int) (f : Int) (x : Int) (y : Int) : Int := ((F27 a b c d e f x y).getD default).2.1
noncomputable def F27_2 (a : Int) (b : Int) (c : Int) (d : Int) (e : Int) (f : Int) (x : Int) (y : Int) : Int := ((F27 a b c d e f x y).getD default).2.2.1
noncomputable def F27_3 (a : Int) (b : Int) (c : Int) (d : Int) (e : Int) (f : Int) (x : Int) (y : Int) : Int := ((F27 a b c d e f x y).getD default).2.2.2.1
noncomputable def F27_4 (a : Int) (b : Int) (c : Int) (d : Int) (e : Int) (f : Int) (x : Int) (y : Int) : Int := ((F27 a b c d e f x y).getD default).2.2.2.2.1
noncomputable def F27_5 (a : Int) (b : Int) (c : Int) (d : Int) (e : Int) (f : Int) (x : Int) (y : Int) : Int := ((F27 a b c d e f x y).getD default).2.2.2.2.2.1
noncomputable def F27_6 (a : Int) (b : Int) (c : Int) (d : Int) (e : Int) (f : Int) (x : Int) (y : Int) : Int := ((F27 a b c d e f x y).getD default).2.2.2.2.2.2
theorem F27_some (a : Int) (b : Int) (c : Int) (d : Int) (e : Int) (f : Int) (x : Int) (y : Int) : (F27 a b c d e f x y).isSome = true := by
  unfold F27
  repeat' (first | rfl | apply Go.Sx.some_br)
theorem fact27 (a : Int) (b : Int) (c : Int) (d : Int) (e : Int) (f : Int) (x : Int) (y : Int) : Go.Sx.Fact Try.prog [] 27 [.agg [.int .i64 a, .int .i64 b, .int .i64 c, .int .i64 d, .int .i64 e, .int .i64 f], .int .i64 x, .int .i64 y] (.tup [.agg [.int .i64 (F27_0 a b c d e f x y), .int .i64 (F27_1 a b c d e f x y), .int .i64 (F27_2 a b c d e f x y), .int .i64 (F27_3 a b c d e f x y), .int .i64 (F27_4 a b c d e f x y), .int .i64 (F27_5 a b c d e f x y)], .int .i64 (F27_6 a b c d e f x y)]) := Go.Sx.fact_of_run okayed (by kernel_rfl) (by kernel_rfl) (by kernel_rfl) Try.func27 body27_eq (run27 0 a b c d e f x y ((F27 a b c d e f x y).getD default) (Go.Sx.getD_some (F27_some a b c d e f x y)))
noncomputable def body28 : Go.Code := (Try.f28.body).getD .skip
theorem body28_eq : Try.f28.body = some body28 := Go.Sx.some_getD (by kernel_rfl)
noncomputable def c28_0 (a : (Int)) (b : (Int)) (c : (Int)) (d : (Int)) (e : (Int)) (f : (Int)) (x : (Int)) (y : (Int)) : Bool := (!Go.Sx.eqI (F42_0 a b c d e f x y) 0)
noncomputable def t28_1 (a : (Int)) (b : (Int)) (c : (Int)) (d : (Int)) (e : (Int)) (f : (Int)) (x : (Int)) (y : (Int)) : Int := (F53_0 (F54_0 (Go.Sx.wrapA Go.IntKind.i64 (Int.mul a x)) (65536)) (F54_0 (Go.Sx.wrapA Go.IntKind.i64 (Int.mul b x)) (65536)) (F54_0 (Go.Sx.wrapA Go.IntKind.i64 (Int.mul c y)) (65536)) (F54_0 (Go.Sx.wrapA Go.IntKind.i64 (Int.mul d y)) (65536)) e f)
noncomputable def t28_2 (a : (Int)) (b : (Int)) (c : (Int)) (d : (Int)) (e : (Int)) (f : (Int)) (x : (Int)) (y : (Int)) : Int := (F53_1 (F54_0 (Go.Sx.wrapA Go.IntKind.i64 (Int.mul a x)) (65536)) (F54_0 (Go.Sx.wrapA Go.IntKind.i64 (Int.mul b x)) (65536)) (F54_0 (Go.Sx.wrapA Go.IntKind.i64 (Int.mul c y)) (65536)) (F54_0 (Go.Sx.wrapA Go.IntKind.i64 (Int.mul d y)) (65536)) e f)
noncomputable def t28_3 (a : (Int)) (b : (Int)) (c : (Int)) (d : (Int)) (e : (Int)) (f : (Int)) (x : (Int)) (y : (Int)) : Int := (F53_2 (F54_0 (Go.Sx.wrapA Go.IntKind.i64 (Int.mul a x)) (65536)) (F54_0 (Go.Sx.wrapA Go.IntKind.i64 (Int.mul b x)) (65536)) (F54_0 (Go.Sx.wrapA Go.IntKind.i64 (Int.mul c y)) (65536)) (F54_0 (Go.Sx.wrapA Go.IntKind.i64 (Int.mul d y)) (65536)) e f)
noncomputable def t28_4 (a : (Int)) (b : (Int)) (c : (Int)) (d : (Int)) (e : (Int)) (f : (Int)) (x : (Int)) (y : (Int)) : Int := (F53_3 (F54_0 (Go.Sx.wrapA Go.IntKind.i64 (Int.mul a x)) (65536)) (F54_0 (Go.Sx.wrapA Go.IntKind.i64 (Int.mul b x)) (65536)) (F54_0 (Go.Sx.wrapA Go.IntKind.i64 (Int.mul c y)) (65536)) (F54_0 (Go.Sx.wrapA Go.IntKind.i64 (Int.mul d y)) (65536)) e f)
noncomputable def t28_5 (a : (Int)) (b : (Int)) (c : (Int)) (d : (Int)) (e : (Int)) (f : (Int)) (x : (Int)) (y : (Int)) : Int := (F53_4 (F54_0 (Go.Sx.wrapA Go.IntKind.i64 (Int.mul a x)) (65536)) (F54_0 (Go.Sx.wrapA Go.IntKind.i64 (Int.mul b x)) (65536)) (F54_0 (Go.Sx.wrapA Go.IntKind.i64 (Int.mul c y)) (65536)) (F54_0 (Go.Sx.wrapA Go.IntKind.i64 (Int.mul d y)) (65536)) e f)
noncomputable def t28_6 (a : (Int)) (b : (Int)) (c : (Int)) (d : (Int)) (e : (Int)) (f : (Int)) (x : (Int)) (y : (Int)) : Int := (F53_5 (F54_0 (Go.Sx.wrapA Go.IntKind.i64 (Int.mul a x)) (65536)) (F54_0 (Go.Sx.wrapA Go.IntKind.i64 (Int.mul b x)) (65536)) (F54_0 (Go.Sx.wrapA Go.IntKind.i64 (Int.mul c y)) (65536)) (F54_0 (Go.Sx.wrapA Go.IntKind.i64 (Int.mul d y)) (65536)) e f)
noncomputable def t28_7 (a : (Int)) (b : (Int)) (c : (Int)) (d : (Int)) (e : (Int)) (f : (Int)) (x : (Int)) (y : (Int)) : Int := (F53_6 (F54_0 (Go.Sx.wrapA Go.IntKind.i64 (Int.mul a x)) (65536)) (F54_0 (Go.Sx.wrapA Go.IntKind.i64 (Int.mul b x)) (65536)) (F54_0 (Go.Sx.wrapA Go.IntKind.i64 (Int.mul c y)) (65536)) (F54_0 (Go.Sx.wrapA Go.IntKind.i64 (Int.mul d y)) (65536)) e f)
noncomputable def F28 (a : Int) (b : Int) (c : Int) (d : Int) (e : Int) (f : Int) (x : Int) (y : Int) : Option (Int × Int × Int × Int × Int × Int × Int) := (bif (c28_0 a b c d e f x y) then (some (0, 0, 0, 0, 0, 0, (F42_0 a b c d e f x y))) else (bif (Option.isSome (F54 (Go.Sx.wrapA Go.IntKind.i64 (Int.mul a x)) 65536)) then (bif (Option.isSome (F54 (Go.Sx.wrapA Go.IntKind.i64 (Int.mul b x)) 65536)) then (bif (Option.isSome (F54 (Go.Sx.wrapA Go.IntKind.i64 (Int.mul c y)) 65536)) then (bif (Option.isSome (F54 (Go.Sx.wrapA Go.IntKind.i64 (Int.mul d y)) 65536)) then (some ((t28_1 a b c d e f x y), (t28_2 a b c d e f x y), (t28_3 a b c d e f x y), (t28_4 a b c d e f x y), (t28_5 a b c d e f x y), (t28_6 a b c d e f x y), (t28_7 a b c d e f x y))) else none) else none) else none) else none))
set_option maxHeartbeats 4000000 in
theorem form28 (n : Nat) (a : Int) (b : Int) (c : Int) (d : Int) (e : Int) (f : Int) (x : Int) (y : Int) (vz : Go.Sx.AV) : Go.Sx.wpS Try.prog Try.f28 [] vz (.st [0, 0, 2, 2, 2, 0, 0, 0, 0, 2, 2, 2] (.use (.int .i64 (F42_0 a b c d e f x y)) (.st [2, 0, 0, 0, 0, 0, 2, 2, 0, 0] (.br 14 (.st [0, 0, 0, 2, 2, 2, 2, 0, 0, 2, 0] .ans) (.st [0, 2, 0, 0] (.dr [.run, .run, .run, .run, .use (.int .i64 (F54_0 (Go.Sx.wrapA Go.IntKind.i64 (Int.mul a x)) (Int.ofNat 65536))), .run, .run, .run, .run, .use (.int .i64 (F54_0 (Go.Sx.wrapA Go.IntKind.i64 (Int.mul b x)) (Int.ofNat 65536))), .run] (.st [2, 2, 2, 0, 0, 0] (.dr [.run, .run, .run, .run, .use (.int .i64 (F54_0 (Go.Sx.wrapA Go.IntKind.i64 (Int.mul c y)) (Int.ofNat 65536))), .run, .run, .run, .run, .use (.int .i64 (F54_0 (Go.Sx.wrapA Go.IntKind.i64 (Int.mul d y)) (Int.ofNat 65536))), .run] (.st [2, 2, 2, 0, 0, 0, 0, 2] (.use (.tup [.agg [.int .i64 (F53_0 (F54_0 (Go.Sx.wrapA Go.IntKind.i64 (Int.mul a x)) (Int.ofNat 65536)) (F54_0 (Go.Sx.wrapA Go.IntKind.i64 (Int.mul b x)) (Int.ofNat 65536)) (F54_0 (Go.Sx.wrapA Go.IntKind.i64 (Int.mul c y)) (Int.ofNat 65536)) (F54_0 (Go.Sx.wrapA Go.IntKind.i64 (Int.mul d y)) (Int.ofNat 65536)) e f), .int .i64 (F53_1 (F54_0 (Go.Sx.wrapA Go.IntKind.i64 (Int.mul a x)) (Int.ofNat 65536)) (F54_0 (Go.Sx.wrapA Go.IntKind.i64 (Int.mul b x)) (Int.ofNat 65536)) (F54_0 (Go.Sx.wrapA Go.IntKind.i64 (Int.mul c y)) (Int.ofNat 65536)) (F54_0 (Go.Sx.wrapA Go.IntKind.i64 (Int.mul d y)) (Int.ofNat 65536)) e f), .int .i64 (F53_2 (F54_0 (Go.Sx.wrapA Go.IntKind.i64 (Int.mul a x)) (Int.ofNat 65536)) (F54_0 (Go.Sx.wrapA Go.IntKind.i64 (Int.mul b x)) (Int.ofNat 65536)) (F54_0 (Go.Sx.wrapA Go.IntKind.i64 (Int.mul c y)) (Int.ofNat 65536)) (F54_0 (Go.Sx.wrapA Go.IntKind.i64 (Int.mul d y)) (Int.ofNat 65536)) e f), .int .i64 (F53_3 (F54_0 (Go.Sx.wrapA Go.IntKind.i64 (Int.mul a x)) (Int.ofNat 65536)) (F54_0 (Go.Sx.wrapA Go.IntKind.i64 (Int.mul b x)) (Int.ofNat 65536)) (F54_0 (Go.Sx.wrapA Go.IntKind.i64 (Int.mul c y)) (Int.ofNat 65536)) (F54_0 (Go.Sx.wrapA Go.IntKind.i64 (Int.mul d y)) (Int.ofNat 65536)) e f), .int .i64 (F53_4 (F54_0 (Go.Sx.wrapA Go.IntKind.i64 (Int.mul a x)) (Int.ofNat 65536)) (F54_0 (Go.Sx.wrapA Go.IntKind.i64 (Int.mul b x)) (Int.ofNat 65536)) (F54_0 (Go.Sx.wrapA Go.IntKind.i64 (Int.mul c y)) (Int.ofNat 65536)) (F54_0 (Go.Sx.wrapA Go.IntKind.i64 (Int.mul d y)) (Int.ofNat 65536)) e f), .int .i64 (F53_5 (F54_0 (Go.Sx.wrapA Go.IntKind.i64 (Int.mul a x)) (Int.ofNat 65536)) (F54_0 (Go.Sx.wrapA Go.IntKind.i64 (Int.mul b x)) (Int.ofNat 65536)) (F54_0 (Go.Sx.wrapA Go.IntKind.i64 (Int.mul c y)) (Int.ofNat 65536)) (F54_0 (Go.Sx.wrapA Go.IntKind.i64 (Int.mul d y)) (Int.ofNat 65536)) e f)], .int .i64 (F53_6 (F54_0 (Go.Sx.wrapA Go.IntKind.i64 (Int.mul a x)) (Int.ofNat 65536)) (F54_0 (Go.Sx.wrapA Go.IntKind.i64 (Int.mul b x)) (Int.ofNat 65536)) (F54_0 (Go.Sx.wrapA Go.IntKind.i64 (Int.mul c y)) (Int.ofNat 65536)) (F54_0 (Go.Sx.wrapA Go.IntKind.i64 (Int.mul d y)) (Int.ofNat 65536)) e f)]) (.st [2, 2, 2, 2, 0, 0, 2] .ans))))))))))) [] (.code body28 (Go.Sx.startA [.agg [.int .i64 a, .int .i64 b, .int .i64 c, .int .i64 d, .int .i64 e, .int .i64 f], .int .i64 x, .int .i64 y] Try.f28) (Go.Sx.laidHeap [])) = (Go.Sx.Fact Try.prog [] 42 [.agg [.int .i64 (a), .int .i64 (b), .int .i64 (c), .int .i64 (d), .int .i64 (e), .int .i64 (f)], .int .i64 (x), .int .i64 (y)] (.int .i64 (F42_0 a b c d e f x y)) ∧ (Go.Sx.BR (c28_0 a b c d e f x y) (vz = .tup [.agg [.int .i64 (.ofNat 0), .int .i64 (.ofNat 0), .int .i64 (.ofNat 0), .int .i64 (.ofNat 0), .int .i64 (.ofNat 0), .int .i64 (.ofNat 0)], .int .i64 (F42_0 a b c d e f x y)]) (Go.Sx.AN (Bool.true) (Go.Sx.Fact Try.prog [] 54 [.int .i64 (Go.Sx.wrapA Go.IntKind.i64 (Int.mul a x)), .int .i64 (.ofNat 65536)] (.int .i64 (F54_0 (Go.Sx.wrapA Go.IntKind.i64 (Int.mul a x)) (Int.ofNat 65536))) ∧ (Go.Sx.Fact Try.prog [] 54 [.int .i64 (Go.Sx.wrapA Go.IntKind.i64 (Int.mul b x)), .int .i64 (.ofNat 65536)] (.int .i64 (F54_0 (Go.Sx.wrapA Go.IntKind.i64 (Int.mul b x)) (Int.ofNat 65536))) ∧ (Go.Sx.AN (Bool.true) (Go.Sx.Fact Try.prog [] 54 [.int .i64 (Go.Sx.wrapA Go.IntKind.i64 (Int.mul c y)), .int .i64 (.ofNat 65536)] (.int .i64 (F54_0 (Go.Sx.wrapA Go.IntKind.i64 (Int.mul c y)) (Int.ofNat 65536))) ∧ (Go.Sx.Fact Try.prog [] 54 [.int .i64 (Go.Sx.wrapA Go.IntKind.i64 (Int.mul d y)), .int .i64 (.ofNat 65536)] (.int .i64 (F54_0 (Go.Sx.wrapA Go.IntKind.i64 (Int.mul d y)) (Int.ofNat 65536))) ∧ (Go.Sx.Fact Try.prog [] 53 [.agg [.int .i64 (F54_0 (Go.Sx.wrapA Go.IntKind.i64 (Int.mul a x)) (Int.ofNat 65536)), .int .i64 (F54_0 (Go.Sx.wrapA Go.IntKind.i64 (Int.mul b x)) (Int.ofNat 65536)), .int .i64 (F54_0 (Go.Sx.wrapA Go.IntKind.i64 (Int.mul c y)) (Int.ofNat 65536)), .int .i64 (F54_0 (Go.Sx.wrapA Go.IntKind.i64 (Int.mul d y)) (Int.ofNat 65536)), .int .i64 (e), .int .i64 (f)]] (.tup [.agg [.int .i64 (F53_0 (F54_0 (Go.Sx.wrapA Go.IntKind.i64 (Int.mul a x)) (Int.ofNat 65536)) (F54_0 (Go.Sx.wrapA Go.IntKind.i64 (Int.mul b x)) (Int.ofNat 65536)) (F54_0 (Go.Sx.wrapA Go.IntKind.i64 (Int.mul c y)) (Int.ofNat 65536)) (F54_0 (Go.Sx.wrapA Go.IntKind.i64 (Int.mul d y)) (Int.ofNat 65536)) e f), .int .i64 (F53_1 (F54_0 (Go.Sx.wrapA Go.IntKind.i64 (Int.mul a x)) (Int.ofNat 65536)) (F54_0 (Go.Sx.wrapA Go.IntKind.i64 (Int.mul b x)) (Int.ofNat 65536)) (F54_0 (Go.Sx.wrapA Go.IntKind.i64 (Int.mul c y)) (Int.ofNat 65536)) (F54_0 (Go.Sx.wrapA Go.IntKind.i64 (Int.mul d y)) (Int.ofNat 65536)) e f), .int .i64 (F53_2 (F54_0 (Go.Sx.wrapA Go.IntKind.i64 (Int.mul a x)) (Int.ofNat 65536)) (F54_0 (Go.Sx.wrapA Go.IntKind.i64 (Int.mul b x)) (Int.ofNat 65536)) (F54_0 (Go.Sx.wrapA Go.IntKind.i64 (Int.mul c y)) (Int.ofNat 65536)) (F54_0 (Go.Sx.wrapA Go.IntKind.i64 (Int.mul d y)) (Int.ofNat 65536)) e f), .int .i64 (F53_3 (F54_0 (Go.Sx.wrapA Go.IntKind.i64 (Int.mul a x)) (Int.ofNat 65536)) (F54_0 (Go.Sx.wrapA Go.IntKind.i64 (Int.mul b x)) (Int.ofNat 65536)) (F54_0 (Go.Sx.wrapA Go.IntKind.i64 (Int.mul c y)) (Int.ofNat 65536)) (F54_0 (Go.Sx.wrapA Go.IntKind.i64 (Int.mul d y)) (Int.ofNat 65536)) e f), .int .i64 (F53_4 (F54_0 (Go.Sx.wrapA Go.IntKind.i64 (Int.mul a x)) (Int.ofNat 65536)) (F54_0 (Go.Sx.wrapA Go.IntKind.i64 (Int.mul b x)) (Int.ofNat 65536)) (F54_0 (Go.Sx.wrapA Go.IntKind.i64 (Int.mul c y)) (Int.ofNat 65536)) (F54_0 (Go.Sx.wrapA Go.IntKind.i64 (Int.mul d y)) (Int.ofNat 65536)) e f), .int .i64 (F53_5 (F54_0 (Go.Sx.wrapA Go.IntKind.i64 (Int.mul a x)) (Int.ofNat 65536)) (F54_0 (Go.Sx.wrapA Go.IntKind.i64 (Int.mul b x)) (Int.ofNat 65536)) (F54_0 (Go.Sx.wrapA Go.IntKind.i64 (Int.mul c y)) (Int.ofNat 65536)) (F54_0 (Go.Sx.wrapA Go.IntKind.i64 (Int.mul d y)) (Int.ofNat 65536)) e f)], .int .i64 (F53_6 (F54_0 (Go.Sx.wrapA Go.IntKind.i64 (Int.mul a x)) (Int.ofNat 65536)) (F54_0 (Go.Sx.wrapA Go.IntKind.i64 (Int.mul b x)) (Int.ofNat 65536)) (F54_0 (Go.Sx.wrapA Go.IntKind.i64 (Int.mul c y)) (Int.ofNat 65536)) (F54_0 (Go.Sx.wrapA Go.IntKind.i64 (Int.mul d y)) (Int.ofNat 65536)) e f)]) ∧ (vz = .tup [.agg [.int .i64 (t28_1 a b c d e f x y), .int .i64 (t28_2 a b c d e f x y), .int .i64 (t28_3 a b c d e f x y), .int .i64 (t28_4 a b c d e f x y), .int .i64 (t28_5 a b c d e f x y), .int .i64 (t28_6 a b c d e f x y)], .int .i64 (t28_7 a b c d e f x y)])))))))))) := by kernel_rfl
theorem run28 (n : Nat) (a : Int) (b : Int) (c : Int) (d : Int) (e : Int) (f : Int) (x : Int) (y : Int) (r : Int × Int × Int × Int × Int × Int × Int) (h : F28 a b c d e f x y = some r) : Go.Sx.Run Try.prog Try.f28 [] (.tup [.agg [.int .i64 r.1, .int .i64 r.2.1, .int .i64 r.2.2.1, .int .i64 r.2.2.2.1, .int .i64 r.2.2.2.2.1, .int .i64 r.2.2.2.2.2.1], .int .i64 r.2.2.2.2.2.2]) [] (.code body28 (Go.Sx.startA [.agg [.int .i64 a, .int .i64 b, .int .i64 c, .int .i64 d, .int .i64 e, .int .i64 f], .int .i64 x, .int .i64 y] Try.f28) (Go.Sx.laidHeap [])) := by
  exact Go.Sx.wpS_run (L := []) (by kernel_rfl) (form28 n a b c d e f x y (.tup [.agg [.int .i64 r.1, .int .i64 r.2.1, .int .i64 r.2.2.1, .int .i64 r.2.2.2.1, .int .i64 r.2.2.2.2.1, .int .i64 r.2.2.2.2.2.1], .int .i64 r.2.2.2.2.2.2])) ((fun h => ⟨fact42 (a) (b) (c) (d) (e) (f) (x) (y), (Go.Sx.br_of (fun h0 => (fun h => by cases h; rfl)) (fun h0 => (fun h => ⟨rfl, (Go.Sx.guard_of fun h1 => (fun h => ⟨fact54 (Go.Sx.wrapA Go.IntKind.i64 (Int.mul a x)) (65536) h1, (Go.Sx.guard_of fun h2 => (fun h => ⟨fact54 (Go.Sx.wrapA Go.IntKind.i64 (Int.mul b x)) (65536) h2, (fun h => ⟨rfl, (Go.Sx.guard_of fun h3 => (fun h => ⟨fact54 (Go.Sx.wrapA Go.IntKind.i64 (Int.mul c y)) (65536) h3, (Go.Sx.guard_of fun h4 => (fun h => ⟨fact54 (Go.Sx.wrapA Go.IntKind.i64 (Int.mul d y)) (65536) h4, (fun h => ⟨fact53 (F54_0 (Go.Sx.wrapA Go.IntKind.i64 (Int.mul a x)) (65536)) (F54_0 (Go.Sx.wrapA Go.IntKind.i64 (Int.mul b x)) (65536)) (F54_0 (Go.Sx.wrapA Go.IntKind.i64 (Int.mul c y)) (65536)) (F54_0 (Go.Sx.wrapA Go.IntKind.i64 (Int.mul d y)) (65536)) (e) (f), (fun h => by cases h; rfl) h⟩) h⟩)) h⟩)) h⟩) h⟩)) h⟩)) h⟩))) h⟩) h)
noncomputable def F28_0 (a : Int) (b : Int) (c : Int) (d : Int) (e : Int) (f : Int) (x : Int) (y : Int) : Int := ((F28 a b c d e f x y).getD default).1
noncomputable def F28_1 (a : Int) (b : Int) (c : Int) (d : Int) (e : Int) (f : Int) (x : Int) (y : Int) : Int := ((F28 a b c d e f x y).getD default).2.1
noncomputable def F28_2 (a : Int) (b : Int) (c : Int) (d : Int) (e : Int) (f : Int) (x : Int) (y : Int) : Int := ((F28 a b c d e f x y).getD default).2.2.1
noncomputable def F28_3 (a : Int) (b : Int) (c : Int) (d : Int) (e : Int) (f : Int) (x : Int) (y : Int) : Int := ((F28 a b c d e f x y).getD default).2.2.2.1
noncomputable def F28_4 (a : Int) (b : Int) (c : Int) (d : Int) (e : Int) (f : Int) (x : Int) (y : Int) : Int := ((F28 a b c d e f x y).getD default).2.2.2.2.1
noncomputable def F28_5 (a : Int) (b : Int) (c : Int) (d : Int) (e : Int) (f : Int) (x : Int) (y : Int) : Int := ((F28 a b c d e f x y).getD default).2.2.2.2.2.1
noncomputable def F28_6 (a : Int) (b : Int) (c : Int) (d : Int) (e : Int) (f : Int) (x : Int) (y : Int) : Int := ((F28 a b c d e f x y).getD default).2.2.2.2.2.2
theorem fact28 (a : Int) (b : Int) (c : Int) (d : Int) (e : Int) (f : Int) (x : Int) (y : Int) (h : (F28 a b c d e f x y).isSome = true) : Go.Sx.Fact Try.prog [] 28 [.agg [.int .i64 a, .int .i64 b, .int .i64 c, .int .i64 d, .int .i64 e, .int .i64 f], .int .i64 x, .int .i64 y] (.tup [.agg [.int .i64 (F28_0 a b c d e f x y), .int .i64 (F28_1 a b c d e f x y), .int .i64 (F28_2 a b c d e f x y), .int .i64 (F28_3 a b c d e f x y), .int .i64 (F28_4 a b c d e f x y), .int .i64 (F28_5 a b c d e f x y)], .int .i64 (F28_6 a b c d e f x y)]) := Go.Sx.fact_of_run okayed (by kernel_rfl) (by kernel_rfl) (by kernel_rfl) Try.func28 body28_eq (run28 0 a b c d e f x y ((F28 a b c d e f x y).getD default) (Go.Sx.getD_some h))
noncomputable def body23 : Go.Code := (Try.f23.body).getD .skip
theorem body23_eq : Try.f23.body = some body23 := Go.Sx.some_getD (by kernel_rfl)
noncomputable def t23_0 (a : (Int)) (b : (Int)) (a1 : (Int)) (c1 : (Int)) : Int := (Int.fdiv (Go.Sx.wrapA Go.IntKind.i64 (Int.add (Go.Sx.wrapA Go.IntKind.i64 (Int.add (Go.Sx.wrapA Go.IntKind.i64 (Int.add 0 (Go.Sx.wrapA Go.IntKind.i64 (Int.mul a a1)))) (Go.Sx.wrapA Go.IntKind.i64 (Int.mul b c1)))) 32768)) (65536))
noncomputable def t23_1 (a : (Int)) (b : (Int)) (b1 : (Int)) (d1 : (Int)) : Int := (Int.fdiv (Go.Sx.wrapA Go.IntKind.i64 (Int.add (Go.Sx.wrapA Go.IntKind.i64 (Int.add (Go.Sx.wrapA Go.IntKind.i64 (Int.add 0 (Go.Sx.wrapA Go.IntKind.i64 (Int.mul a b1)))) (Go.Sx.wrapA Go.IntKind.i64 (Int.mul b d1)))) 32768)) (65536))
noncomputable def t23_2 (c : (Int)) (d : (Int)) (a1 : (Int)) (c1 : (Int)) : Int := (Int.fdiv (Go.Sx.wrapA Go.IntKind.i64 (Int.add (Go.Sx.wrapA Go.IntKind.i64 (Int.add (Go.Sx.wrapA Go.IntKind.i64 (Int.add 0 (Go.Sx.wrapA Go.IntKind.i64 (Int.mul c a1)))) (Go.Sx.wrapA Go.IntKind.i64 (Int.mul d c1)))) 32768)) (65536))
noncomputable def t23_3 (c : (Int)) (d : (Int)) (b1 : (Int)) (d1 : (Int)) : Int := (Int.fdiv (Go.Sx.wrapA Go.IntKind.i64 (Int.add (Go.Sx.wrapA Go.IntKind.i64 (Int.add (Go.Sx.wrapA Go.IntKind.i64 (Int.add 0 (Go.Sx.wrapA Go.IntKind.i64 (Int.mul c b1)))) (Go.Sx.wrapA Go.IntKind.i64 (Int.mul d d1)))) 32768)) (65536))
noncomputable def t23_4 (e : (Int)) (f : (Int)) (a1 : (Int)) (c1 : (Int)) (e1 : (Int)) : Int := (Go.Sx.wrapA Go.IntKind.i64 (Int.add (Int.fdiv (Go.Sx.wrapA Go.IntKind.i64 (Int.add (Go.Sx.wrapA Go.IntKind.i64 (Int.add (Go.Sx.wrapA Go.IntKind.i64 (Int.add 0 (Go.Sx.wrapA Go.IntKind.i64 (Int.mul e a1)))) (Go.Sx.wrapA Go.IntKind.i64 (Int.mul f c1)))) 32768)) (65536)) e1))
noncomputable def t23_5 (e : (Int)) (f : (Int)) (b1 : (Int)) (d1 : (Int)) (f1 : (Int)) : Int := (Go.Sx.wrapA Go.IntKind.i64 (Int.add (Int.fdiv (Go.Sx.wrapA Go.IntKind.i64 (Int.add (Go.Sx.wrapA Go.IntKind.i64 (Int.add (Go.Sx.wrapA Go.IntKind.i64 (Int.add 0 (Go.Sx.wrapA Go.IntKind.i64 (Int.mul e b1)))) (Go.Sx.wrapA Go.IntKind.i64 (Int.mul f d1)))) 32768)) (65536)) f1))
noncomputable def t23_6 (a : (Int)) (b : (Int)) (c : (Int)) (d : (Int)) (e : (Int)) (f : (Int)) (a1 : (Int)) (b1 : (Int)) (c1 : (Int)) (d1 : (Int)) (e1 : (Int)) (f1 : (Int)) : Int := (F51_0 (t23_0 a b a1 c1) (t23_1 a b b1 d1) (t23_2 c d a1 c1) (t23_3 c d b1 d1) (t23_4 e f a1 c1 e1) (t23_5 e f b1 d1 f1))
noncomputable def t23_7 (a : (Int)) (b : (Int)) (c : (Int)) (d : (Int)) (e : (Int)) (f : (Int)) (a1 : (Int)) (b1 : (Int)) (c1 : (Int)) (d1 : (Int)) (e1 : (Int)) (f1 : (Int)) : Int := (F51_1 (t23_0 a b a1 c1) (t23_1 a b b1 d1) (t23_2 c d a1 c1) (t23_3 c d b1 d1) (t23_4 e f a1 c1 e1) (t23_5 e f b1 d1 f1))
noncomputable def t23_8 (a : (Int)) (b : (Int)) (c : (Int)) (d : (Int)) (e : (Int)) (f : (Int)) (a1 : (Int)) (b1 : (Int)) (c1 : (Int)) (d1 : (Int)) (e1 : (Int)) (f1 : (Int)) : Int := (F51_2 (t23_0 a b a1 c1) (t23_1 a b b1 d1) (t23_2 c d a1 c1) (t23_3 c d b1 d1) (t23_4 e f a1 c1 e1) (t23_5 e f b1 d1 f1))
noncomputable def t23_9 (a : (Int)) (b : (Int)) (c : (Int)) (d : (Int)) (e : (Int)) (f : (Int)) (a1 : (Int)) (b1 : (Int)) (c1 : (Int)) (d1 : (Int)) (e1 : (Int)) (f1 : (Int)) : Int := (F51_3 (t23_0 a b a1 c1) (t23_1 a b b1 d1) (t23_2 c d a1 c1) (t23_3 c d b1 d1) (t23_4 e f a1 c1 e1) (t23_5 e f b1 d1 f1))
noncomputable def t23_10 (a : (Int)) (b : (Int)) (c : (Int)) (d : (Int)) (e : (Int)) (f : (Int)) (a1 : (Int)) (b1 : (Int)) (c1 : (Int)) (d1 : (Int)) (e1 : (Int)) (f1 : (Int)) : Int := (F51_4 (t23_0 a b a1 c1) (t23_1 a b b1 d1) (t23_2 c d a1 c1) (t23_3 c d b1 d1) (t23_4 e f a1 c1 e1) (t23_5 e f b1 d1 f1))
noncomputable def t23_11 (a : (Int)) (b : (Int)) (c : (Int)) (d : (Int)) (e : (Int)) (f : (Int)) (a1 : (Int)) (b1 : (Int)) (c1 : (Int)) (d1 : (Int)) (e1 : (Int)) (f1 : (Int)) : Int := (F51_5 (t23_0 a b a1 c1) (t23_1 a b b1 d1) (t23_2 c d a1 c1) (t23_3 c d b1 d1) (t23_4 e f a1 c1 e1) (t23_5 e f b1 d1 f1))
noncomputable def t23_12 (a : (Int)) (b : (Int)) (c : (Int)) (d : (Int)) (e : (Int)) (f : (Int)) (a1 : (Int)) (b1 : (Int)) (c1 : (Int)) (d1 : (Int)) (e1 : (Int)) (f1 : (Int)) : Int := (F51_6 (t23_0 a b a1 c1) (t23_1 a b b1 d1) (t23_2 c d a1 c1) (t23_3 c d b1 d1) (t23_4 e f a1 c1 e1) (t23_5 e f b1 d1 f1))
noncomputable def F23 (a : Int) (b : Int) (c : Int) (d : Int) (e : Int) (f : Int) (a1 : Int) (b1 : Int) (c1 : Int) (d1 : Int) (e1 : Int) (f1 : Int) : Option (Int × Int × Int × Int × Int × Int × Int) := (bif (!Go.Sx.eqI (F11_0 a b c d e f) 0) then (some (0, 0, 0, 0, 0, 0, (F11_0 a b c d e f))) else (bif (!Go.Sx.eqI (F11_0 a1 b1 c1 d1 e1 f1) 0) then (some (0, 0, 0, 0, 0, 0, (F11_0 a1 b1 c1 d1 e1 f1))) else (some ((t23_6 a b c d e f a1 b1 c1 d1 e1 f1), (t23_7 a b c d e f a1 b1 c1 d1 e1 f1), (t23_8 a b c d e f a1 b1 c1 d1 e1 f1), (t23_9 a b c d e f a1 b1 c1 d1 e1 f1), (t23_10 a b c d e f a1 b1 c1 d1 e1 f1), (t23_11 a b c d e f a1 b1 c1 d1 e1 f1), (t23_12 a b c d e f a1 b1 c1 d1 e1 f1)))))
set_option maxHeartbeats 4000000 in
theorem form23 (n : Nat) (a : Int) (b : Int) (c : Int) (d : Int) (e : Int) (f : Int) (a1 : Int) (b1 : Int) (c1 : Int) (d1 : Int) (e1 : Int) (f1 : Int) (vz : Go.Sx.AV) : Go.Sx.wpS Try.prog Try.f23 [] vz (.st [0, 0, 2, 2, 2, 2, 0, 0, 0, 0, 0, 2, 2, 2, 2, 0, 0, 0, 0, 0, 0, 0, 2, 0, 0, 0, 0, 2, 0, 0, 0, 0, 0, 2, 2, 2, 0, 0, 0, 0, 2] (.use (.int .i64 (F11_0 a b c d e f)) (.st [2, 0, 0, 0, 0, 2, 2, 0, 0] (.br 18 (.st [0, 0, 0, 2, 2, 2, 2, 0, 0, 2, 0, 0, 0, 0, 0] .ans) (.st [0, 2, 0, 0, 0, 2, 2, 0, 0, 0, 0, 0, 2, 0, 0, 0, 0, 2, 0, 0, 0, 0, 0, 2, 2, 2, 0, 0, 0, 0, 2] (.use (.int .i64 (F11_0 a1 b1 c1 d1 e1 f1)) (.st [2, 0, 0, 0, 0, 2, 2, 0, 0] (.br 18 (.st [0, 0, 0, 2, 2, 2, 2, 0, 0, 2, 0, 0, 0, 0, 0] .ans) (.st [0, 2, 0, 0, 0, 2, 2, 0, 0, 0, 0, 0, 2, 0, 0, 0, 0, 2, 0, 0, 0, 0, 0] (.dr [.run, .run, .run, .run, .run, .run, .run, .run, .run, .run, .run, .run, .run, .run, .run, .run, .run, .run, .run, .run, .run, .run, .run, .run, .run, .run, .run, .run, .run, .run, .run, .run, .run, .run, .run, .run, .run, .run, .run, .run, .run, .run, .run, .run, .run, .run, .run, .run, .run, .run, .run, .run, .run, .run, .run, .run, .run, .run, .run, .run, .run, .run, .run, .run, .run, .run, .run, .run, .run, .run, .run, .run, .run, .run, .run, .run, .run, .run, .run, .use (.tup [.agg [.int .i64 (F51_0 (t23_0 a b a1 c1) (t23_1 a b b1 d1) (t23_2 c d a1 c1) (t23_3 c d b1 d1) (t23_4 e f a1 c1 e1) (t23_5 e f b1 d1 f1)), .int .i64 (F51_1 (t23_0 a b a1 c1) (t23_1 a b b1 d1) (t23_2 c d a1 c1) (t23_3 c d b1 d1) (t23_4 e f a1 c1 e1) (t23_5 e f b1 d1 f1)), .int .i64 (F51_2 (t23_0 a b a1 c1) (t23_1 a b b1 d1) (t23_2 c d a1 c1) (t23_3 c d b1 d1) (t23_4 e f a1 c1 e1) (t23_5 e f b1 d1 f1)), .int .i64 (F51_3 (t23_0 a b a1 c1) (t23_1 a b b1 d1) (t23_2 c d a1 c1) (t23_3 c d b1 d1) (t23_4 e f a1 c1 e1) (t23_5 e f b1 d1 f1)), .int .i64 (F51_4 (t23_0 a b a1 c1) (t23_1 a b b1 d1) (t23_2 c d a1 c1) (t23_3 c d b1 d1) (t23_4 e f a1 c1 e1) (t23_5 e f b1 d1 f1)), .int .i64 (F51_5 (t23_0 a b a1 c1) (t23_1 a b b1 d1) (t23_2 c d a1 c1) (t23_3 c d b1 d1) (t23_4 e f a1 c1 e1) (t23_5 e f b1 d1 f1))], .int .i64 (F51_6 (t23_0 a b a1 c1) (t23_1 a b b1 d1) (t23_2 c d a1 c1) (t23_3 c d b1 d1) (t23_4 e f a1 c1 e1) (t23_5 e f b1 d1 f1))]), .run, .run] (.st [2, 2, 0, 0, 2] .ans))))))))))) [] (.code body23 (Go.Sx.startA [.agg [.int .i64 a, .int .i64 b, .int .i64 c, .int .i64 d, .int .i64 e, .int .i64 f], .agg [.int .i64 a1, .int .i64 b1, .int .i64 c1, .int .i64 d1, .int .i64 e1, .int .i64 f1]] Try.f23) (Go.Sx.laidHeap [])) = (Go.Sx.Fact Try.prog [] 11 [.agg [.int .i64 (a), .int .i64 (b), .int .i64 (c), .int .i64 (d), .int .i64 (e), .int .i64 (f)]] (.int .i64 (F11_0 a b c d e f)) ∧ (Go.Sx.BR (!Go.Sx.eqI (F11_0 a b c d e f) 0) (vz = .tup [.agg [.int .i64 (.ofNat 0), .int .i64 (.ofNat 0), .int .i64 (.ofNat 0), .int .i64 (.ofNat 0), .int .i64 (.ofNat 0), .int .i64 (.ofNat 0)], .int .i64 (F11_0 a b c d e f)]) (Go.Sx.Fact Try.prog [] 11 [.agg [.int .i64 (a1), .int .i64 (b1), .int .i64 (c1), .int .i64 (d1), .int .i64 (e1), .int .i64 (f1)]] (.int .i64 (F11_0 a1 b1 c1 d1 e1 f1)) ∧ (Go.Sx.BR (!Go.Sx.eqI (F11_0 a1 b1 c1 d1 e1 f1) 0) (vz = .tup [.agg [.int .i64 (.ofNat 0), .int .i64 (.ofNat 0), .int .i64 (.ofNat 0), .int .i64 (.ofNat 0), .int .i64 (.ofNat 0), .int .i64 (.ofNat 0)], .int .i64 (F11_0 a1 b1 c1 d1 e1 f1)]) (Go.Sx.AN (Bool.true) (Go.Sx.Fact Try.prog [] 51 [.agg [.int .i64 (t23_0 a b a1 c1), .int .i64 (t23_1 a b b1 d1), .int .i64 (t23_2 c d a1 c1), .int .i64 (t23_3 c d b1 d1), .int .i64 (t23_4 e f a1 c1 e1), .int .i64 (t23_5 e f b1 d1 f1)]] (.tup [.agg [.int .i64 (F51_0 (t23_0 a b a1 c1) (t23_1 a b b1 d1) (t23_2 c d a1 c1) (t23_3 c d b1 d1) (t23_4 e f a1 c1 e1) (t23_5 e f b1 d1 f1)), .int .i64 (F51_1 (t23_0 a b a1 c1) (t23_1 a b b1 d1) (t23_2 c d a1 c1) (t23_3 c d b1 d1) (t23_4 e f a1 c1 e1) (t23_5 e f b1 d1 f1)), .int .i64 (F51_2 (t23_0 a b a1 c1) (t23_1 a b b1 d1) (t23_2 c d a1 c1) (t23_3 c d b1 d1) (t23_4 e f a1 c1 e1) (t23_5 e f b1 d1 f1)), .int .i64 (F51_3 (t23_0 a b a1 c1) (t23_1 a b b1 d1) (t23_2 c d a1 c1) (t23_3 c d b1 d1) (t23_4 e f a1 c1 e1) (t23_5 e f b1 d1 f1)), .int .i64 (F51_4 (t23_0 a b a1 c1) (t23_1 a b b1 d1) (t23_2 c d a1 c1) (t23_3 c d b1 d1) (t23_4 e f a1 c1 e1) (t23_5 e f b1 d1 f1)), .int .i64 (F51_5 (t23_0 a b a1 c1) (t23_1 a b b1 d1) (t23_2 c d a1 c1) (t23_3 c d b1 d1) (t23_4 e f a1 c1 e1) (t23_5 e f b1 d1 f1))], .int .i64 (F51_6 (t23_0 a b a1 c1) (t23_1 a b b1 d1) (t23_2 c d a1 c1) (t23_3 c d b1 d1) (t23_4 e f a1 c1 e1) (t23_5 e f b1 d1 f1))]) ∧ (vz = .tup [.agg [.int .i64 (t23_6 a b c d e f a1 b1 c1 d1 e1 f1), .int .i64 (t23_7 a b c d e f a1 b1 c1 d1 e1 f1), .int .i64 (t23_8 a b c d e f a1 b1 c1 d1 e1 f1), .int .i64 (t23_9 a b c d e f a1 b1 c1 d1 e1 f1), .int .i64 (t23_10 a b c d e f a1 b1 c1 d1 e1 f1), .int .i64 (t23_11 a b c d e f a1 b1 c1 d1 e1 f1)], .int .i64 (t23_12 a b c d e f a1 b1 c1 d1 e1 f1)]))))))) := by kernel_rfl
theorem run23 (n : Nat) (a : Int) (b : Int) (c : Int) (d : Int) (e : Int) (f : Int) (a1 : Int) (b1 : Int) (c1 : Int) (d1 : Int) (e1 : Int) (f1 : Int) (r : Int × Int × Int × Int × Int × Int × Int) (h : F23 a b c d e f a1 b1 c1 d1 e1 f1 = some r) : Go.Sx.Run Try.prog Try.f23 [] (.tup [.agg [.int .i64 r.1, .int .i64 r.2.1, .int .i64 r.2.2.1, .int .i64 r.2.2.2.1, .int .i64 r.2.2.2.2.1, .int .i64 r.2.2.2.2.2.1], .int .i64 r.2.2.2.2.2.2]) [] (.code body23 (Go.Sx.startA [.agg [.int .i64 a, .int .i64 b, .int .i64 c, .int .i64 d, .int .i64 e, .int .i64 f], .agg [.int .i64 a1, .int .i64 b1, .int .i64 c1, .int .i64 d1, .int .i64 e1, .int .i64 f1]] Try.f23) (Go.Sx.laidHeap [])) := by
  exact Go.Sx.wpS_run (L := []) (by kernel_rfl) (form23 n a b c d e f a1 b1 c1 d1 e1 f1 (.tup [.agg [.int .i64 r.1, .int .i64 r.2.1, .int .i64 r.2.2.1, .int .i64 r.2.2.2.1, .int .i64 r.2.2.2.2.1, .int .i64 r.2.2.2.2.2.1], .int .i64 r.2.2.2.2.2.2])) ((fun h => ⟨fact11 (a) (b) (c) (d) (e) (f), (Go.Sx.br_of (fun h0 => (fun h => by cases h; rfl)) (fun h0 => (fun h => ⟨fact11 (a1) (b1) (c1) (d1) (e1) (f1), (Go.Sx.br_of (fun h1 => (fun h => by cases h; rfl)) (fun h1 => (fun h => ⟨rfl, (fun h => ⟨fact51 (t23_0 a b a1 c1) (t23_1 a b b1 d1) (t23_2 c d a1 c1) (t23_3 c d b1 d1) (t23_4 e f a1 c1 e1) (t23_5 e f b1 d1 f1), (fun h => by cases h; rfl) h⟩) h⟩))) h⟩))) h⟩) h)
noncomputable def F23_0 (a : Int) (b : Int) (c : Int) (d : Int) (e : Int) (f : Int) (a1 : Int) (b1 : Int) (c1 : Int) (d1 : Int) (e1 : Int) (f1 : Int) : Int := ((F23 a b c d e f a1 b1 c1 d1 e1 f1).getD default).1
noncomputable def F23_1 (a : Int) (b : Int) (c : Int) (d : Int) (e : Int) (f : Int) (a1 : Int) (b1 : Int) (c1 : Int) (d1 : Int) (e1 : Int) (f1 : Int) : Int := ((F23 a b c d e f a1 b1 c1 d1 e1 f1).getD default).2.1
noncomputable def F23_2 (a : Int) (b : Int) (c : Int) (d : Int) (e : Int) (f : Int) (a1 : Int) (b1 : Int) (c1 : Int) (d1 : Int) (e1 : Int) (f1 : Int) : Int := ((F23 a b c d e f a1 b1 c1 d1 e1 f1).getD default).2.2.1
noncomputable def F23_3 (a : Int) (b : Int) (c : Int) (d : Int) (e : Int) (f : Int) (a1 : Int) (b1 : Int) (c1 : Int) (d1 : Int) (e1 : Int) (f1 : Int) : Int := ((F23 a b c d e f a1 b1 c1 d1 e1 f1).getD default).2.2.2.1
noncomputable def F23_4 (a : Int) (b : Int) (c : Int) (d : Int) (e : Int) (f : Int) (a1 : Int) (b1 : Int) (c1 : Int) (d1 : Int) (e1 : Int) (f1 : Int) : Int := ((F23 a b c d e f a1 b1 c1 d1 e1 f1).getD default).2.2.2.2.1
noncomputable def F23_5 (a : Int) (b : Int) (c : Int) (d : Int) (e : Int) (f : Int) (a1 : Int) (b1 : Int) (c1 : Int) (d1 : Int) (e1 : Int) (f1 : Int) : Int := ((F23 a b c d e f a1 b1 c1 d1 e1 f1).getD default).2.2.2.2.2.1
noncomputable def F23_6 (a : Int) (b : Int) (c : Int) (d : Int) (e : Int) (f : Int) (a1 : Int) (b1 : Int) (c1 : Int) (d1 : Int) (e1 : Int) (f1 : Int) : Int := ((F23 a b c d e f a1 b1 c1 d1 e1 f1).getD default).2.2.2.2.2.2
theorem F23_some (a : Int) (b : Int) (c : Int) (d : Int) (e : Int) (f : Int) (a1 : Int) (b1 : Int) (c1 : Int) (d1 : Int) (e1 : Int) (f1 : Int) : (F23 a b c d e f a1 b1 c1 d1 e1 f1).isSome = true := by
  unfold F23
  repeat' (first | rfl | apply Go.Sx.some_br)
theorem fact23 (a : Int) (b : Int) (c : Int) (d : Int) (e : Int) (f : Int) (a1 : Int) (b1 : Int) (c1 : Int) (d1 : Int) (e1 : Int) (f1 : Int) : Go.Sx.Fact Try.prog [] 23 [.agg [.int .i64 a, .int .i64 b, .int .i64 c, .int .i64 d, .int .i64 e, .int .i64 f], .agg [.int .i64 a1, .int .i64 b1, .int .i64 c1, .int .i64 d1, .int .i64 e1, .int .i64 f1]] (.tup [.agg [.int .i64 (F23_0 a b c d e f a1 b1 c1 d1 e1 f1), .int .i64 (F23_1 a b c d e f a1 b1 c1 d1 e1 f1), .int .i64 (F23_2 a b c d e f a1 b1 c1 d1 e1 f1), .int .i64 (F23_3 a b c d e f a1 b1 c1 d1 e1 f1), .int .i64 (F23_4 a b c d e f a1 b1 c1 d1 e1 f1), .int .i64 (F23_5 a b c d e f a1 b1 c1 d1 e1 f1)], .int .i64 (F23_6 a b c d e f a1 b1 c1 d1 e1 f1)]) := Go.Sx.fact_of_run okayed (by kernel_rfl) (by kernel_rfl) (by kernel_rfl) Try.func23 body23_eq (run23 0 a b c d e f a1 b1 c1 d1 e1 f1 ((F23 a b c d e f a1 b1 c1 d1 e1 f1).getD default) (Go.Sx.getD_some (F23_some a b c d e f a1 b1 c1 d1 e1 f1)))
noncomputable def body24 : Go.Code := (Try.f24.body).getD .skip
theorem body24_eq : Try.f24.body = some body24 := Go.Sx.some_getD (by kernel_rfl)
noncomputable def t24_0 (a : (Int)) (b : (Int)) (a1 : (Int)) (c1 : (Int)) : Int := (F54_0 (Go.Sx.wrapA Go.IntKind.i64 (Int.add (Go.Sx.wrapA Go.IntKind.i64 (Int.mul a a1)) (Go.Sx.wrapA Go.IntKind.i64 (Int.mul b c1)))) (65536))
noncomputable def t24_1 (a : (Int)) (b : (Int)) (b1 : (Int)) (d1 : (Int)) : Int := (F54_0 (Go.Sx.wrapA Go.IntKind.i64 (Int.add (Go.Sx.wrapA Go.IntKind.i64 (Int.mul a b1)) (Go.Sx.wrapA Go.IntKind.i64 (Int.mul b d1)))) (65536))
noncomputable def t24_2 (c : (Int)) (d : (Int)) (a1 : (Int)) (c1 : (Int)) : Int := (F54_0 (Go.Sx.wrapA Go.IntKind.i64 (Int.add (Go.Sx.wrapA Go.IntKind.i64 (Int.mul c a1)) (Go.Sx.wrapA Go.IntKind.i64 (Int.mul d c1)))) (65536))
noncomputable def t24_3 (c : (Int)) (d : (Int)) (b1 : (Int)) (d1 : (Int)) : Int := (F54_0 (Go.Sx.wrapA Go.IntKind.i64 (Int.add (Go.Sx.wrapA Go.IntKind.i64 (Int.mul c b1)) (Go.Sx.wrapA Go.IntKind.i64 (Int.mul d d1)))) (65536))
noncomputable def t24_4 (e : (Int)) (f : (Int)) (a1 : (Int)) (c1 : (Int)) (e1 : (Int)) : Int := (Go.Sx.wrapA Go.IntKind.i64 (Int.add (F54_0 (Go.Sx.wrapA Go.IntKind.i64 (Int.add (Go.Sx.wrapA Go.IntKind.i64 (Int.mul e a1)) (Go.Sx.wrapA Go.IntKind.i64 (Int.mul f c1)))) (65536)) e1))
noncomputable def t24_5 (e : (Int)) (f : (Int)) (b1 : (Int)) (d1 : (Int)) (f1 : (Int)) : Int := (Go.Sx.wrapA Go.IntKind.i64 (Int.add (F54_0 (Go.Sx.wrapA Go.IntKind.i64 (Int.add (Go.Sx.wrapA Go.IntKind.i64 (Int.mul e b1)) (Go.Sx.wrapA Go.IntKind.i64 (Int.mul f d1)))) (65536)) f1))
noncomputable def t24_6 (a : (Int)) (b : (Int)) (c : (Int)) (d : (Int)) (e : (Int)) (f : (Int)) (a1 : (Int)) (b1 : (Int)) (c1 : (Int)) (d1 : (Int)) (e1 : (Int)) (f1 : (Int)) : Int := (F53_0 (t24_0 a b a1 c1) (t24_1 a b b1 d1) (t24_2 c d a1 c1) (t24_3 c d b1 d1) (t24_4 e f a1 c1 e1) (t24_5 e f b1 d1 f1))
noncomputable def t24_7 (a : (Int)) (b : (Int)) (c : (Int)) (d : (Int)) (e : (Int)) (f : (Int)) (a1 : (Int)) (b1 : (Int)) (c1 : (Int)) (d1 : (Int)) (e1 : (Int)) (f1 : (Int)) : Int := (F53_1 (t24_0 a b a1 c1) (t24_1 a b b1 d1) (t24_2 c d a1 c1) (t24_3 c d b1 d1) (t24_4 e f a1 c1 e1) (t24_5 e f b1 d1 f1))
noncomputable def t24_8 (a : (Int)) (b : (Int)) (c : (Int)) (d : (Int)) (e : (Int)) (f : (Int)) (a1 : (Int)) (b1 : (Int)) (c1 : (Int)) (d1 : (Int)) (e1 : (Int)) (f1 : (Int)) : Int := (F53_2 (t24_0 a b a1 c1) (t24_1 a b b1 d1) (t24_2 c d a1 c1) (t24_3 c d b1 d1) (t24_4 e f a1 c1 e1) (t24_5 e f b1 d1 f1))
noncomputable def t24_9 (a : (Int)) (b : (Int)) (c : (Int)) (d : (Int)) (e : (Int)) (f : (Int)) (a1 : (Int)) (b1 : (Int)) (c1 : (Int)) (d1 : (Int)) (e1 : (Int)) (f1 : (Int)) : Int := (F53_3 (t24_0 a b a1 c1) (t24_1 a b b1 d1) (t24_2 c d a1 c1) (t24_3 c d b1 d1) (t24_4 e f a1 c1 e1) (t24_5 e f b1 d1 f1))
noncomputable def t24_10 (a : (Int)) (b : (Int)) (c : (Int)) (d : (Int)) (e : (Int)) (f : (Int)) (a1 : (Int)) (b1 : (Int)) (c1 : (Int)) (d1 : (Int)) (e1 : (Int)) (f1 : (Int)) : Int := (F53_4 (t24_0 a b a1 c1) (t24_1 a b b1 d1) (t24_2 c d a1 c1) (t24_3 c d b1 d1) (t24_4 e f a1 c1 e1) (t24_5 e f b1 d1 f1))
noncomputable def t24_11 (a : (Int)) (b : (Int)) (c : (Int)) (d : (Int)) (e : (Int)) (f : (Int)) (a1 : (Int)) (b1 : (Int)) (c1 : (Int)) (d1 : (Int)) (e1 : (Int)) (f1 : (Int)) : Int := (F53_5 (t24_0 a b a1 c1) (t24_1 a b b1 d1) (t24_2 c d a1 c1) (t24_3 c d b1 d1) (t24_4 e f a1 c1 e1) (t24_5 e f b1 d1 f1))
noncomputable def t24_12 (a : (Int)) (b : (Int)) (c : (Int)) (d : (Int)) (e : (Int)) (f : (Int)) (a1 : (Int)) (b1 : (Int)) (c1 : (Int)) (d1 : (Int)) (e1 : (Int)) (f1 : (Int)) : Int := (F53_6 (t24_0 a b a1 c1) (t24_1 a b b1 d1) (t24_2 c d a1 c1) (t24_3 c d b1 d1) (t24_4 e f a1 c1 e1) (t24_5 e f b1 d1 f1))
noncomputable def F24 (a : Int) (b : Int) (c : Int) (d : Int) (e : Int) (f : Int) (a1 : Int) (b1 : Int) (c1 : Int) (d1 : Int) (e1 : Int) (f1 : Int) : Option (Int × Int × Int × Int × Int × Int × Int) := (bif (!F39_0 a b c d e f) then (some (0, 0, 0, 0, 0, 0, 300)) else (bif (!F39_0 a1 b1 c1 d1 e1 f1) then (some (0, 0, 0, 0, 0, 0, 300)) else (bif (Option.isSome (F54 (Go.Sx.wrapA Go.IntKind.i64 (Int.add (Go.Sx.wrapA Go.IntKind.i64 (Int.mul a a1)) (Go.Sx.wrapA Go.IntKind.i64 (Int.mul b c1)))) 65536)) then (bif (Option.isSome (F54 (Go.Sx.wrapA Go.IntKind.i64 (Int.add (Go.Sx.wrapA Go.IntKind.i64 (Int.mul a b1)) (Go.Sx.wrapA Go.IntKind.i64 (Int.mul b d1)))) 65536)) then (bif (Option.isSome (F54 (Go.Sx.wrapA Go.IntKind.i64 (Int.add (Go.Sx.wrapA Go.IntKind.i64 (Int.mul c a1)) (Go.Sx.wrapA Go.IntKind.i64 (Int.mul d c1)))) 65536)) then (bif (Option.isSome (F54 (Go.Sx.wrapA Go.IntKind.i64 (Int.add (Go.Sx.wrapA Go.IntKind.i64 (Int.mul c b1)) (Go.Sx.wrapA Go.IntKind.i64 (Int.mul d d1)))) 65536)) then (bif (Option.isSome (F54 (Go.Sx.wrapA Go.IntKind.i64 (Int.add (Go.Sx.wrapA Go.IntKind.i64 (Int.mul e a1)) (Go.Sx.wrapA Go.IntKind.i64 (Int.mul f c1)))) 65536)) then (bif (Option.isSome (F54 (Go.Sx.wrapA Go.IntKind.i64 (Int.add (Go.Sx.wrapA Go.IntKind.i64 (Int.mul e b1)) (Go.Sx.wrapA Go.IntKind.i64 (Int.mul f d1)))) 65536)) then (some ((t24_6 a b c d e f a1 b1 c1 d1 e1 f1), (t24_7 a b c d e f a1 b1 c1 d1 e1 f1), (t24_8 a b c d e f a1 b1 c1 d1 e1 f1), (t24_9 a b c d e f a1 b1 c1 d1 e1 f1), (t24_10 a b c d e f a1 b1 c1 d1 e1 f1), (t24_11 a b c d e f a1 b1 c1 d1 e1 f1), (t24_12 a b c d e f a1 b1 c1 d1 e1 f1))) else none) else none) else none) else none) else none) else none)))
set_option maxHeartbeats 4000000 in
theorem form24 (n : Nat) (a : Int) (b : Int) (c : Int) (d : Int) (e : Int) (f : Int) (a1 : Int) (b1 : Int) (c1 : Int) (d1 : Int) (e1 : Int) (f1 : Int) (vz : Go.Sx.AV) : Go.Sx.wpS Try.prog Try.f24 [] vz (.st [0, 0, 2, 2, 2, 2, 0, 0, 0, 0, 0, 2] (.use (.bool (F39_0 a b c d e f)) (.st [2, 2] (.br 9 (.st [2, 2, 2, 2, 0, 0, 0, 0, 0, 2, 2, 2, 0, 0, 2, 0] .ans) (.st [2] (.use (.bool (F39_0 a1 b1 c1 d1 e1 f1)) (.st [2, 2, 0, 0] (.br 13 (.st [0, 0, 0, 2, 2, 2, 0, 0, 2, 0] .ans) (.st [0, 2, 0, 0] (.dr [.run, .run, .run, .run, .run, .run, .run, .run, .run, .run, .run, .use (.int .i64 (F54_0 (Go.Sx.wrapA Go.IntKind.i64 (Int.add (Go.Sx.wrapA Go.IntKind.i64 (Int.mul a a1)) (Go.Sx.wrapA Go.IntKind.i64 (Int.mul b c1)))) (Int.ofNat 65536))), .run, .run, .run, .run, .run, .run, .run, .run, .run, .run, .run, .use (.int .i64 (F54_0 (Go.Sx.wrapA Go.IntKind.i64 (Int.add (Go.Sx.wrapA Go.IntKind.i64 (Int.mul a b1)) (Go.Sx.wrapA Go.IntKind.i64 (Int.mul b d1)))) (Int.ofNat 65536))), .run, .run, .run, .run, .run, .run, .run, .run, .run, .run, .run, .use (.int .i64 (F54_0 (Go.Sx.wrapA Go.IntKind.i64 (Int.add (Go.Sx.wrapA Go.IntKind.i64 (Int.mul c a1)) (Go.Sx.wrapA Go.IntKind.i64 (Int.mul d c1)))) (Int.ofNat 65536))), .run, .run, .run, .run, .run, .run, .run, .run, .run, .run, .run, .use (.int .i64 (F54_0 (Go.Sx.wrapA Go.IntKind.i64 (Int.add (Go.Sx.wrapA Go.IntKind.i64 (Int.mul c b1)) (Go.Sx.wrapA Go.IntKind.i64 (Int.mul d d1)))) (Int.ofNat 65536))), .run, .run, .run, .run, .run, .run, .run, .run, .run, .run, .run, .use (.int .i64 (F54_0 (Go.Sx.wrapA Go.IntKind.i64 (Int.add (Go.Sx.wrapA Go.IntKind.i64 (Int.mul e a1)) (Go.Sx.wrapA Go.IntKind.i64 (Int.mul f c1)))) (Int.ofNat 65536))), .run, .run, .run, .run, .run, .run, .run, .run, .run, .run, .run, .run, .run, .run, .use (.int .i64 (F54_0 (Go.Sx.wrapA Go.IntKind.i64 (Int.add (Go.Sx.wrapA Go.IntKind.i64 (Int.mul e b1)) (Go.Sx.wrapA Go.IntKind.i64 (Int.mul f d1)))) (Int.ofNat 65536))), .run, .run, .run, .run, .use (.tup [.agg [.int .i64 (F53_0 (t24_0 a b a1 c1) (t24_1 a b b1 d1) (t24_2 c d a1 c1) (t24_3 c d b1 d1) (t24_4 e f a1 c1 e1) (t24_5 e f b1 d1 f1)), .int .i64 (F53_1 (t24_0 a b a1 c1) (t24_1 a b b1 d1) (t24_2 c d a1 c1) (t24_3 c d b1 d1) (t24_4 e f a1 c1 e1) (t24_5 e f b1 d1 f1)), .int .i64 (F53_2 (t24_0 a b a1 c1) (t24_1 a b b1 d1) (t24_2 c d a1 c1) (t24_3 c d b1 d1) (t24_4 e f a1 c1 e1) (t24_5 e f b1 d1 f1)), .int .i64 (F53_3 (t24_0 a b a1 c1) (t24_1 a b b1 d1) (t24_2 c d a1 c1) (t24_3 c d b1 d1) (t24_4 e f a1 c1 e1) (t24_5 e f b1 d1 f1)), .int .i64 (F53_4 (t24_0 a b a1 c1) (t24_1 a b b1 d1) (t24_2 c d a1 c1) (t24_3 c d b1 d1) (t24_4 e f a1 c1 e1) (t24_5 e f b1 d1 f1)), .int .i64 (F53_5 (t24_0 a b a1 c1) (t24_1 a b b1 d1) (t24_2 c d a1 c1) (t24_3 c d b1 d1) (t24_4 e f a1 c1 e1) (t24_5 e f b1 d1 f1))], .int .i64 (F53_6 (t24_0 a b a1 c1) (t24_1 a b b1 d1) (t24_2 c d a1 c1) (t24_3 c d b1 d1) (t24_4 e f a1 c1 e1) (t24_5 e f b1 d1 f1))]), .run, .run] (.st [2, 2, 0, 0, 2] .ans))))))))))) [] (.code body24 (Go.Sx.startA [.agg [.int .i64 a, .int .i64 b, .int .i64 c, .int .i64 d, .int .i64 e, .int .i64 f], .agg [.int .i64 a1, .int .i64 b1, .int .i64 c1, .int .i64 d1, .int .i64 e1, .int .i64 f1]] Try.f24) (Go.Sx.laidHeap [])) = (Go.Sx.Fact Try.prog [] 39 [.agg [.int .i64 (a), .int .i64 (b), .int .i64 (c), .int .i64 (d), .int .i64 (e), .int .i64 (f)]] (.bool (F39_0 a b c d e f)) ∧ (Go.Sx.BR (!F39_0 a b c d e f) (vz = .tup [.agg [.int .i64 (.ofNat 0), .int .i64 (.ofNat 0), .int .i64 (.ofNat 0), .int .i64 (.ofNat 0), .int .i64 (.ofNat 0), .int .i64 (.ofNat 0)], .int .i64 (.ofNat 300)]) (Go.Sx.Fact Try.prog [] 39 [.agg [.int .i64 (a1), .int .i64 (b1), .int .i64 (c1), .int .i64 (d1), .int .i64 (e1), .int .i64 (f1)]] (.bool (F39_0 a1 b1 c1 d1 e1 f1)) ∧ (Go.Sx.BR (!F39_0 a1 b1 c1 d1 e1 f1) (vz = .tup [.agg [.int .i64 (.ofNat 0), .int .i64 (.ofNat 0), .int .i64 (.ofNat 0), .int .i64 (.ofNat 0), .int .i64 (.ofNat 0), .int .i64 (.ofNat 0)], .int .i64 (.ofNat 300)]) (Go.Sx.AN (Bool.true) (Go.Sx.Fact Try.prog [] 54 [.int .i64 (Go.Sx.wrapA Go.IntKind.i64 (Int.add (Go.Sx.wrapA Go.IntKind.i64 (Int.mul a a1)) (Go.Sx.wrapA Go.IntKind.i64 (Int.mul b c1)))), .int .i64 (.ofNat 65536)] (.int .i64 (F54_0 (Go.Sx.wrapA Go.IntKind.i64 (Int.add (Go.Sx.wrapA Go.IntKind.i64 (Int.mul a a1)) (Go.Sx.wrapA Go.IntKind.i64 (Int.mul b c1)))) (Int.ofNat 65536))) ∧ (Go.Sx.Fact Try.prog [] 54 [.int .i64 (Go.Sx.wrapA Go.IntKind.i64 (Int.add (Go.Sx.wrapA Go.IntKind.i64 (Int.mul a b1)) (Go.Sx.wrapA Go.IntKind.i64 (Int.mul b d1)))), .int .i64 (.ofNat 65536)] (.int .i64 (F54_0 (Go.Sx.wrapA Go.IntKind.i64 (Int.add (Go.Sx.wrapA Go.IntKind.i64 (Int.mul a b1)) (Go.Sx.wrapA Go.IntKind.i64 (Int.mul b d1)))) (Int.ofNat 65536))) ∧ (Go.Sx.Fact Try.prog [] 54 [.int .i64 (Go.Sx.wrapA Go.IntKind.i64 (Int.add (Go.Sx.wrapA Go.IntKind.i64 (Int.mul c a1)) (Go.Sx.wrapA Go.IntKind.i64 (Int.mul d c1)))), .int .i64 (.ofNat 65536)] (.int .i64 (F54_0 (Go.Sx.wrapA Go.IntKind.i64 (Int.add (Go.Sx.wrapA Go.IntKind.i64 (Int.mul c a1)) (Go.Sx.wrapA Go.IntKind.i64 (Int.mul d c1)))) (Int.ofNat 65536))) ∧ (Go.Sx.Fact Try.prog [] 54 [.int .i64 (Go.Sx.wrapA Go.IntKind.i64 (Int.add (Go.Sx.wrapA Go.IntKind.i64 (Int.mul c b1)) (Go.Sx.wrapA Go.IntKind.i64 (Int.mul d d1)))), .int .i64 (.ofNat 65536)] (.int .i64 (F54_0 (Go.Sx.wrapA Go.IntKind.i64 (Int.add (Go.Sx.wrapA Go.IntKind.i64 (Int.mul c b1)) (Go.Sx.wrapA Go.IntKind.i64 (Int.mul d d1)))) (Int.ofNat 65536))) ∧ (Go.Sx.Fact Try.prog [] 54 [.int .i64 (Go.Sx.wrapA Go.IntKind.i64 (Int.add (Go.Sx.wrapA Go.IntKind.i64 (Int.mul e a1)) (Go.Sx.wrapA Go.IntKind.i64 (Int.mul f c1)))), .int .i64 (.ofNat 65536)] (.int .i64 (F54_0 (Go.Sx.wrapA Go.IntKind.i64 (Int.add (Go.Sx.wrapA Go.IntKind.i64 (Int.mul e a1)) (Go.Sx.wrapA Go.IntKind.i64 (Int.mul f c1)))) (Int.ofNat 65536))) ∧ (Go.Sx.Fact Try.prog [] 54 [.int .i64 (Go.Sx.wrapA Go.IntKind.i64 (Int.add (Go.Sx.wrapA Go.IntKind.i64 (Int.mul e b1)) (Go.Sx.wrapA Go.IntKind.i64 (Int.mul f d1)))), .int .i64 (.ofNat 65536)] (.int .i64 (F54_0 (Go.Sx.wrapA Go.IntKind.i64 (Int.add (Go.Sx.wrapA Go.IntKind.i64 (Int.mul e b1)) (Go.Sx.wrapA Go.IntKind.i64 (Int.mul f d1)))) (Int.ofNat 65536))) ∧ (Go.Sx.Fact Try.prog [] 53 [.agg [.int .i64 (t24_0 a b a1 c1), .int .i64 (t24_1 a b b1 d1), .int .i64 (t24_2 c d a1 c1), .int .i64 (t24_3 c d b1 d1), .int .i64 (t24_4 e f a1 c1 e1), .int .i64 (t24_5 e f b1 d1 f1)]] (.tup [.agg [.int .i64 (F53_0 (t24_0 a b a1 c1) (t24_1 a b b1 d1) (t24_2 c d a1 c1) (t24_3 c d b1 d1) (t24_4 e f a1 c1 e1) (t24_5 e f b1 d1 f1)), .int .i64 (F53_1 (t24_0 a b a1 c1) (t24_1 a b b1 d1) (t24_2 c d a1 c1) (t24_3 c d b1 d1) (t24_4 e f a1 c1 e1) (t24_5 e f b1 d1 f1)), .int .i64 (F53_2 (t24_0 a b a1 c1) (t24_1 a b b1 d1) (t24_2 c d a1 c1) (t24_3 c d b1 d1) (t24_4 e f a1 c1 e1) (t24_5 e f b1 d1 f1)), .int .i64 (F53_3 (t24_0 a b a1 c1) (t24_1 a b b1 d1) (t24_2 c d a1 c1) (t24_3 c d b1 d1) (t24_4 e f a1 c1 e1) (t24_5 e f b1 d1 f1)), .int .i64 (F53_4 (t24_0 a b a1 c1) (t24_1 a b b1 d1) (t24_2 c d a1 c1) (t24_3 c d b1 d1) (t24_4 e f a1 c1 e1) (t24_5 e f b1 d1 f1)), .int .i64 (F53_5 (t24_0 a b a1 c1) (t24_1 a b b1 d1) (t24_2 c d a1 c1) (t24_3 c d b1 d1) (t24_4 e f a1 c1 e1) (t24_5 e f b1 d1 f1))], .int .i64 (F53_6 (t24_0 a b a1 c1) (t24_1 a b b1 d1) (t24_2 c d a1 c1) (t24_3 c d b1 d1) (t24_4 e f a1 c1 e1) (t24_5 e f b1 d1 f1))]) ∧ (vz = .tup [.agg [.int .i64 (t24_6 a b c d e f a1 b1 c1 d1 e1 f1), .int .i64 (t24_7 a b c d e f a1 b1 c1 d1 e1 f1), .int .i64 (t24_8 a b c d e f a1 b1 c1 d1 e1 f1), .int .i64 (t24_9 a b c d e f a1 b1 c1 d1 e1 f1), .int .i64 (t24_10 a b c d e f a1 b1 c1 d1 e1 f1), .int .i64 (t24_11 a b c d e f a1 b1 c1 d1 e1 f1)], .int .i64 (t24_12 a b c d e f a1 b1 c1 d1 e1 f1)]))))))))))))) := by kernel_rfl
theorem run24 (n : Nat) (a : Int) (b : Int) (c : Int) (d : Int) (e : Int) (f : Int) (a1 : Int) (b1 : Int) (c1 : Int) (d1 : Int) (e1 : Int) (f1 : Int) (r : Int × Int × Int × Int × Int × Int × Int) (h : F24 a b c d e f a1 b1 c1 d1 e1 f1 = some r) : Go.Sx.Run Try.prog Try.f24 [] (.tup [.agg [.int .i64 r.1, .int .i64 r.2.1, .int .i64 r.2.2.1, .int .i64 r.2.2.2.1, .int .i64 r.2.2.2.2.1, .int .i64 r.2.2.2.2.2.1], .int .i64 r.2.2.2.2.2.2]) [] (.code body24 (Go.Sx.startA [.agg [.int .i64 a, .int .i64 b, .int .i64 c, .int .i64 d, .int .i64 e, .int .i64 f], .agg [.int .i64 a1, .int .i64 b1, .int .i64 c1, .int .i64 d1, .int .i64 e1, .int .i64 f1]] Try.f24) (Go.Sx.laidHeap [])) := by
  exact Go.Sx.wpS_run (L := []) (by kernel_rfl) (form24 n a b c d e f a1 b1 c1 d1 e1 f1 (.tup [.agg [.int .i64 r.1, .int .i64 r.2.1, .int .i64 r.2.2.1, .int .i64 r.2.2.2.1, .int .i64 r.2.2.2.2.1, .int .i64 r.2.2.2.2.2.1], .int .i64 r.2.2.2.2.2.2])) ((fun h => ⟨fact39 (a) (b) (c) (d) (e) (f), (Go.Sx.br_of (fun h0 => (fun h => by cases h; rfl)) (fun h0 => (fun h => ⟨fact39 (a1) (b1) (c1) (d1) (e1) (f1), (Go.Sx.br_of (fun h1 => (fun h => by cases h; rfl)) (fun h1 => (fun h => ⟨rfl, (Go.Sx.guard_of fun h2 => (fun h => ⟨fact54 (Go.Sx.wrapA Go.IntKind.i64 (Int.add (Go.Sx.wrapA Go.IntKind.i64 (Int.mul a a1)) (Go.Sx.wrapA Go.IntKind.i64 (Int.mul b c1)))) (65536) h2, (Go.Sx.guard_of fun h3 => (fun h => ⟨fact54 (Go.Sx.wrapA Go.IntKind.i64 (Int.add (Go.Sx.wrapA Go.IntKind.i64 (Int.mul a b1)) (Go.Sx.wrapA Go.IntKind.i64 (Int.mul b d1)))) (65536) h3, (Go.Sx.guard_of fun h4 => (fun h => ⟨fact54 (Go.Sx.wrapA Go.IntKind.i64 (Int.add (Go.Sx.wrapA Go.IntKind.i64 (Int.mul c a1)) (Go.Sx.wrapA Go.IntKind.i64 (Int.mul d c1)))) (65536) h4, (Go.Sx.guard_of fun h5 => (fun h => ⟨fact54 (Go.Sx.wrapA Go.IntKind.i64 (Int.add (Go.Sx.wrapA Go.IntKind.i64 (Int.mul c b1)) (Go.Sx.wrapA Go.IntKind.i64 (Int.mul d d1)))) (65536) h5, (Go.Sx.guard_of fun h6 => (fun h => ⟨fact54 (Go.Sx.wrapA Go.IntKind.i64 (Int.add (Go.Sx.wrapA Go.IntKind.i64 (Int.mul e a1)) (Go.Sx.wrapA Go.IntKind.i64 (Int.mul f c1)))) (65536) h6, (Go.Sx.guard_of fun h7 => (fun h => ⟨fact54 (Go.Sx.wrapA Go.IntKind.i64 (Int.add (Go.Sx.wrapA Go.IntKind.i64 (Int.mul e b1)) (Go.Sx.wrapA Go.IntKind.i64 (Int.mul f d1)))) (65536) h7, (fun h => ⟨fact53 (t24_0 a b a1 c1) (t24_1 a b b1 d1) (t24_2 c d a1 c1) (t24_3 c d b1 d1) (t24_4 e f a1 c1 e1) (t24_5 e f b1 d1 f1), (fun h => by cases h; rfl) h⟩) h⟩)) h⟩)) h⟩)) h⟩)) h⟩)) h⟩)) h⟩))) h⟩))) h⟩) h)
noncomputable def F24_0 (a : Int) (b : Int) (c : Int) (d : Int) (e : Int) (f : Int) (a1 : Int) (b1 : Int) (c1 : Int) (d1 : Int) (e1 : Int) (f1 : Int) : Int := ((F24 a b c d e f a1 b1 c1 d1 e1 f1).getD default).1
noncomputable def F24_1 (a : Int) (b : Int) (c : Int) (d : Int) (e : Int) (f : Int) (a1 : Int) (b1 : Int) (c1 : Int) (d1 : Int) (e1 : Int) (f1 : Int) : Int := ((F24 a b c d e f a1 b1 c1 d1 e1 f1).getD default).2.1
noncomputable def F24_2 (a : Int) (b : Int) (c : Int) (d : Int) (e : Int) (f : Int) (a1 : Int) (b1 : Int) (c1 : Int) (d1 : Int) (e1 : Int) (f1 : Int) : Int := ((F24 a b c d e f a1 b1 c1 d1 e1 f1).getD default).2.2.1
noncomputable def F24_3 (a : Int) (b : Int) (c : Int) (d : Int) (e : Int) (f : Int) (a1 : Int) (b1 : Int) (c1 : Int) (d1 : Int) (e1 : Int) (f1 : Int) : Int := ((F24 a b c d e f a1 b1 c1 d1 e1 f1).getD default).2.2.2.1
noncomputable def F24_4 (a : Int) (b : Int) (c : Int) (d : Int) (e : Int) (f : Int) (a1 : Int) (b1 : Int) (c1 : Int) (d1 : Int) (e1 : Int) (f1 : Int) : Int := ((F24 a b c d e f a1 b1 c1 d1 e1 f1).getD default).2.2.2.2.1
noncomputable def F24_5 (a : Int) (b : Int) (c : Int) (d : Int) (e : Int) (f : Int) (a1 : Int) (b1 : Int) (c1 : Int) (d1 : Int) (e1 : Int) (f1 : Int) : Int := ((F24 a b c d e f a1 b1 c1 d1 e1 f1).getD default).2.2.2.2.2.1
noncomputable def F24_6 (a : Int) (b : Int) (c : Int) (d : Int) (e : Int) (f : Int) (a1 : Int) (b1 : Int) (c1 : Int) (d1 : Int) (e1 : Int) (f1 : Int) : Int := ((F24 a b c d e f a1 b1 c1 d1 e1 f1).getD default).2.2.2.2.2.2
theorem fact24 (a : Int) (b : Int) (c : Int) (d : Int) (e : Int) (f : Int) (a1 : Int) (b1 : Int) (c1 : Int) (d1 : Int) (e1 : Int) (f1 : Int) (h : (F24 a b c d e f a1 b1 c1 d1 e1 f1).isSome = true) : Go.Sx.Fact Try.prog [] 24 [.agg [.int .i64 a, .int .i64 b, .int .i64 c, .int .i64 d, .int .i64 e, .int .i64 f], .agg [.int .i64 a1, .int .i64 b1, .int .i64 c1, .int .i64 d1, .int .i64 e1, .int .i64 f1]] (.tup [.agg [.int .i64 (F24_0 a b c d e f a1 b1 c1 d1 e1 f1), .int .i64 (F24_1 a b c d e f a1 b1 c1 d1 e1 f1), .int .i64 (F24_2 a b c d e f a1 b1 c1 d1 e1 f1), .int .i64 (F24_3 a b c d e f a1 b1 c1 d1 e1 f1), .int .i64 (F24_4 a b c d e f a1 b1 c1 d1 e1 f1), .int .i64 (F24_5 a b c d e f a1 b1 c1 d1 e1 f1)], .int .i64 (F24_6 a b c d e f a1 b1 c1 d1 e1 f1)]) := Go.Sx.fact_of_run okayed (by kernel_rfl) (by kernel_rfl) (by kernel_rfl) Try.func24 body24_eq (run24 0 a b c d e f a1 b1 c1 d1 e1 f1 ((F24 a b c d e f a1 b1 c1 d1 e1 f1).getD default) (Go.Sx.getD_some h))
noncomputable def body8 : Go.Code := (Try.f8.body).getD .skip
theorem body8_eq : Try.f8.body = some body8 := Go.Sx.some_getD (by kernel_rfl)
noncomputable def t8_0 (a0 : (Int)) : Int := (Go.IntKind.wrap Go.IntKind.i64 (0 - Int.tmod (Go.Sx.wrapA Go.IntKind.i64 a0) 2100297728))
noncomputable def t8_1 (a0 : (Int)) : Int := (Go.Sx.wrapA Go.IntKind.i64 (Int.add (Int.tmod (Go.Sx.wrapA Go.IntKind.i64 a0) 2100297728) 23592960))
noncomputable def t8_2 (a0 : (Int)) : Int := (Go.Sx.wrapA Go.IntKind.i64 (Int.sub 11796480 (Int.tmod (Go.Sx.wrapA Go.IntKind.i64 a0) 2100297728)))
noncomputable def t8_3 (a0 : (Int)) (a1 : (Int)) : Int := (if 5898240 < Go.Sx.wrapA Go.IntKind.i64 (Int.add (Int.tmod (Go.Sx.wrapA Go.IntKind.i64 (Go.Sx.wrapA Go.IntKind.u32 a0)) 5898240) (Go.Sx.wrapA Go.IntKind.i64 a1)) then 5898240 else Go.Sx.wrapA Go.IntKind.i64 (Int.add (Int.tmod (Go.Sx.wrapA Go.IntKind.i64 (Go.Sx.wrapA Go.IntKind.u32 a0)) 5898240) (Go.Sx.wrapA Go.IntKind.i64 a1)))
noncomputable def c8_4 (a0 : (Int)) : Bool := (Go.Sx.eqI (F29_1 (Int.tmod (Go.Sx.wrapA Go.IntKind.i64 a0) 2100297728)) 0)
noncomputable def c8_5 (a0 : (Int)) : Bool := (Go.Sx.eqI (F29_1 (Int.tmod (Go.Sx.wrapA Go.IntKind.i64 (Go.Sx.wrapA Go.IntKind.u32 a0)) 5898240)) 0)
noncomputable def c8_6 (a0 : (Int)) : Bool := (!Go.Sx.ltI 65536 (F29_0 (Int.tmod (Go.Sx.wrapA Go.IntKind.i64 a0) 2100297728)))
noncomputable def c8_7 (a0 : (Int)) : Bool := (Go.Sx.eqI (F29_0 (t8_0 a0)) (Go.IntKind.wrap Go.IntKind.i64 (0 - F29_0 (Int.tmod (Go.Sx.wrapA Go.IntKind.i64 a0) 2100297728))))
noncomputable def c8_8 (a0 : (Int)) (a1 : (Int)) : Bool := (!Go.Sx.ltI (F29_0 (t8_3 a0 a1)) (F29_0 (Int.tmod (Go.Sx.wrapA Go.IntKind.i64 (Go.Sx.wrapA Go.IntKind.u32 a0)) 5898240)))
noncomputable def c8_9 (a0 : (Int)) : Bool := (!Go.Sx.ltI (F29_0 (Int.tmod (Go.Sx.wrapA Go.IntKind.i64 (Go.Sx.wrapA Go.IntKind.u32 a0)) 5898240)) 0)
noncomputable def F8 (a0 : Int) (a1 : Int) : Option (Bool) := (bif (Option.isSome (F29 (Int.tmod (Go.Sx.wrapA Go.IntKind.i64 a0) 2100297728))) then (bif (Option.isSome (F29 (t8_0 a0))) then (bif (Option.isSome (F29 (t8_1 a0))) then (bif (Option.isSome (F29 (t8_2 a0))) then (bif (Option.isSome (F29 (Int.tmod (Go.Sx.wrapA Go.IntKind.i64 (Go.Sx.wrapA Go.IntKind.u32 a0)) 5898240))) then (bif (Option.isSome (F29 (t8_3 a0 a1))) then (bif (c8_4 a0) then (bif (Go.Sx.eqI (F29_1 (t8_0 a0)) 0) then (bif (Go.Sx.eqI (F29_1 (t8_1 a0)) 0) then (bif (Go.Sx.eqI (F29_1 (t8_2 a0)) 0) then (bif (c8_5 a0) then (bif (Go.Sx.eqI (F29_1 (t8_3 a0 a1)) 0) then (bif (!Go.Sx.ltI (F29_0 (Int.tmod (Go.Sx.wrapA Go.IntKind.i64 a0) 2100297728)) ((-65536))) then (bif (c8_6 a0) then (bif (c8_7 a0) then (bif (Go.Sx.eqI (F29_0 (t8_1 a0)) (F29_0 (Int.tmod (Go.Sx.wrapA Go.IntKind.i64 a0) 2100297728))) then (bif (Go.Sx.eqI (F29_0 (t8_2 a0)) (F29_0 (Int.tmod (Go.Sx.wrapA Go.IntKind.i64 a0) 2100297728))) then (bif (c8_8 a0 a1) then (some (c8_9 a0)) else (some false)) else (some false)) else (some false)) else (some false)) else (some false)) else (some false)) else (some false)) else (some false)) else (some false)) else (some false)) else (some false)) else (some false)) else none) else none) else none) else none) else none) else none)
set_option maxHeartbeats 4000000 in
theorem form8 (n : Nat) (a0 : Int) (a1 : Int) (vz : Go.Sx.AV) : Go.Sx.wpS Try.prog Try.f8 [] vz (.st [0, 0, 2, 0, 0, 0, 0, 0] (.use (.bool true) (.st [2, 0, 0, 0, 2, 0, 0, 0, 2, 2, 2, 2, 0, 0, 0, 0, 2] (.use (.tup [.int .i64 (F29_0 (Int.tmod (Go.Sx.wrapA Go.IntKind.i64 a0) 2100297728)), .int .i64 (F29_1 (Int.tmod (Go.Sx.wrapA Go.IntKind.i64 a0) 2100297728))]) (.st [2, 2, 2, 2, 2, 0, 0, 0, 0, 2, 2] (.use (.tup [.int .i64 (F29_0 (t8_0 a0)), .int .i64 (F29_1 (t8_0 a0))]) (.st [2, 2, 2, 2, 2, 0, 0, 0, 0, 2, 2] (.use (.tup [.int .i64 (F29_0 (t8_1 a0)), .int .i64 (F29_1 (t8_1 a0))]) (.st [2, 2, 2, 2, 2, 0, 0, 0, 0, 2, 2] (.use (.tup [.int .i64 (F29_0 (t8_2 a0)), .int .i64 (F29_1 (t8_2 a0))]) (.st [2, 2, 2, 2, 2, 0, 0, 0, 0, 2, 2, 2, 2, 2, 0, 0, 0, 0, 2, 2, 2, 2, 2, 2, 0, 0, 0, 0, 2] (.use (.tup [.int .i64 (F29_0 (Int.tmod (Go.Sx.wrapA Go.IntKind.i64 (Go.Sx.wrapA Go.IntKind.u32 a0)) 5898240)), .int .i64 (F29_1 (Int.tmod (Go.Sx.wrapA Go.IntKind.i64 (Go.Sx.wrapA Go.IntKind.u32 a0)) 5898240))]) (.st [2, 2, 2, 2, 2, 0, 0, 0, 0, 2] (.use (.tup [.int .i64 (F29_0 (t8_3 a0 a1)), .int .i64 (F29_1 (t8_3 a0 a1))]) (.st [2, 2, 2, 2, 2, 0, 0, 0, 0, 2, 2, 2] (.br 70 (.st [2, 2, 2, 2] (.br 74 (.st [2, 2, 2, 2] (.br 78 (.st [2, 2, 2, 2] (.br 82 (.st [2, 2, 2, 2] (.br 86 (.st [2, 2, 2, 2, 0, 0, 0, 0, 2, 2] (.br 91 (.st [2, 2, 2, 2] (.br 95 (.st [2, 2, 2, 2] (.br 99 (.st [2, 2, 2, 2, 2, 2] (.br 105 (.st [2, 2, 2, 2, 2] (.br 110 (.st [2, 2, 2, 2, 2] (.br 115 (.st [2, 2, 2, 2, 2] (.br 120 (.st [2, 2, 2, 2, 0, 0, 2] .ans) (.st [2, 2, 2, 2, 0, 0, 2] .ans))) (.st [2, 2, 2, 2, 2, 2, 2, 2, 2, 0, 0, 2] .ans))) (.st [2, 2, 2, 2, 2, 2, 2, 2, 2, 2, 2, 2, 2, 2, 0, 0, 2] .ans))) (.st [2, 2, 2, 2, 2, 2, 2, 2, 2, 2, 2, 2, 2, 2, 2, 2, 2, 2, 2, 0, 0, 2] .ans))) (.st [2, 2, 2, 2, 2, 2, 2, 2, 2, 2, 2, 2, 2, 2, 2, 2, 2, 2, 2, 2, 2, 2, 2, 2, 2, 0, 0, 2] .ans))) (.st [2, 2, 2, 2, 2, 2, 2, 2, 2, 2, 2, 2, 2, 2, 2, 2, 2, 2, 2, 2, 2, 2, 2, 2, 2, 2, 2, 2, 2, 0, 0, 2] .ans))) (.st [2, 2, 2, 2, 2, 2, 2, 2, 2, 2, 2, 2, 2, 2, 2, 2, 2, 2, 2, 2, 2, 2, 2, 2, 2, 2, 2, 2, 2, 2, 2, 2, 2, 0, 0, 2] .ans))) (.st [2, 2, 2, 2, 0, 0, 0, 0, 2, 2, 2, 2, 2, 2, 2, 2, 2, 2, 2, 2, 2, 2, 2, 2, 2, 2, 2, 2, 2, 2, 2, 2, 2, 2, 2, 2, 2, 2, 2, 2, 2, 2, 2, 0, 0, 2] .ans))) (.st [2, 2, 2, 2, 2, 2, 2, 2, 0, 0, 0, 0, 2, 2, 2, 2, 2, 2, 2, 2, 2, 2, 2, 2, 2, 2, 2, 2, 2, 2, 2, 2, 2, 2, 2, 2, 2, 2, 2, 2, 2, 2, 2, 2, 2, 2, 2, 0, 0, 2] .ans))) (.st [2, 2, 2, 2, 2, 2, 2, 2, 2, 2, 2, 2, 0, 0, 0, 0, 2, 2, 2, 2, 2, 2, 2, 2, 2, 2, 2, 2, 2, 2, 2, 2, 2, 2, 2, 2, 2, 2, 2, 2, 2, 2, 2, 2, 2, 2, 2, 2, 2, 2, 2, 0, 0, 2] .ans))) (.st [2, 2, 2, 2, 2, 2, 2, 2, 2, 2, 2, 2, 2, 2, 2, 2, 0, 0, 0, 0, 2, 2, 2, 2, 2, 2, 2, 2, 2, 2, 2, 2, 2, 2, 2, 2, 2, 2, 2, 2, 2, 2, 2, 2, 2, 2, 2, 2, 2, 2, 2, 2, 2, 2, 2, 0, 0, 2] .ans))) (.st [2, 2, 2, 2, 2, 2, 2, 2, 2, 2, 2, 2, 2, 2, 2, 2, 2, 2, 2, 2, 0, 0, 0, 0, 2, 2, 2, 2, 2, 2, 2, 2, 2, 2, 2, 2, 2, 2, 2, 2, 2, 2, 2, 2, 2, 2, 2, 2, 2, 2, 2, 2, 2, 2, 2, 2, 2, 2, 2, 0, 0, 2] .ans))))))))))))))))) [] (.code body8 (Go.Sx.startA [.int .i32 a0, .int .u16 a1] Try.f8) (Go.Sx.laidHeap [])) = (Go.Sx.Fact Try.prog [] 22 [] (.bool true) ∧ (Go.Sx.Fact Try.prog [] 29 [.int .i64 (Int.tmod (Go.Sx.wrapA Go.IntKind.i64 a0) 2100297728)] (.tup [.int .i64 (F29_0 (Int.tmod (Go.Sx.wrapA Go.IntKind.i64 a0) 2100297728)), .int .i64 (F29_1 (Int.tmod (Go.Sx.wrapA Go.IntKind.i64 a0) 2100297728))]) ∧ (Go.Sx.Fact Try.prog [] 29 [.int .i64 (t8_0 a0)] (.tup [.int .i64 (F29_0 (t8_0 a0)), .int .i64 (F29_1 (t8_0 a0))]) ∧ (Go.Sx.Fact Try.prog [] 29 [.int .i64 (t8_1 a0)] (.tup [.int .i64 (F29_0 (t8_1 a0)), .int .i64 (F29_1 (t8_1 a0))]) ∧ (Go.Sx.Fact Try.prog [] 29 [.int .i64 (t8_2 a0)] (.tup [.int .i64 (F29_0 (t8_2 a0)), .int .i64 (F29_1 (t8_2 a0))]) ∧ (Go.Sx.Fact Try.prog [] 29 [.int .i64 (Int.tmod (Go.Sx.wrapA Go.IntKind.i64 (Go.Sx.wrapA Go.IntKind.u32 a0)) 5898240)] (.tup [.int .i64 (F29_0 (Int.tmod (Go.Sx.wrapA Go.IntKind.i64 (Go.Sx.wrapA Go.IntKind.u32 a0)) 5898240)), .int .i64 (F29_1 (Int.tmod (Go.Sx.wrapA Go.IntKind.i64 (Go.Sx.wrapA Go.IntKind.u32 a0)) 5898240))]) ∧ (Go.Sx.Fact Try.prog [] 29 [.int .i64 (t8_3 a0 a1)] (.tup [.int .i64 (F29_0 (t8_3 a0 a1)), .int .i64 (F29_1 (t8_3 a0 a1))]) ∧ (Go.Sx.BR (c8_4 a0) (Go.Sx.BR (Go.Sx.eqI (F29_1 (t8_0 a0)) 0) (Go.Sx.BR (Go.Sx.eqI (F29_1 (t8_1 a0)) 0) (Go.Sx.BR (Go.Sx.eqI (F29_1 (t8_2 a0)) 0) (Go.Sx.BR (c8_5 a0) (Go.Sx.BR (Go.Sx.eqI (F29_1 (t8_3 a0 a1)) 0) (Go.Sx.BR (!Go.Sx.ltI (F29_0 (Int.tmod (Go.Sx.wrapA Go.IntKind.i64 a0) 2100297728)) ((-65536))) (Go.Sx.BR (c8_6 a0) (Go.Sx.BR (c8_7 a0) (Go.Sx.BR (Go.Sx.eqI (F29_0 (t8_1 a0)) (F29_0 (Int.tmod (Go.Sx.wrapA Go.IntKind.i64 a0) 2100297728))) (Go.Sx.BR (Go.Sx.eqI (F29_0 (t8_2 a0)) (F29_0 (Int.tmod (Go.Sx.wrapA Go.IntKind.i64 a0) 2100297728))) (Go.Sx.BR (c8_8 a0 a1) (vz = .bool (c8_9 a0)) (vz = .bool false)) (vz = .bool false)) (vz = .bool false)) (vz = .bool false)) (vz = .bool false)) (vz = .bool false)) (vz = .bool false)) (vz = .bool false)) (vz = .bool false)) (vz = .bool false)) (vz = .bool false)) (vz = .bool false))))))))) := by kernel_rfl
theorem run8 (n : Nat) (a0 : Int) (a1 : Int) (r : Bool) (h : F8 a0 a1 = some r) : Go.Sx.Run Try.prog Try.f8 [] (.bool r) [] (.code body8 (Go.Sx.startA [.int .i32 a0, .int .u16 a1] Try.f8) (Go.Sx.laidHeap [])) := by
  exact Go.Sx.wpS_run (L := []) (by kernel_rfl) (form8 n a0 a1 (.bool r)) ((fun h => ⟨fact22 , (Go.Sx.guard_of fun h0 => (fun h => ⟨fact29 (Int.tmod (Go.Sx.wrapA Go.IntKind.i64 a0) 2100297728) h0, (Go.Sx.guard_of fun h1 => (fun h => ⟨fact29 (t8_0 a0) h1, (Go.Sx.guard_of fun h2 => (fun h => ⟨fact29 (t8_1 a0) h2, (Go.Sx.guard_of fun h3 => (fun h => ⟨fact29 (t8_2 a0) h3, (Go.Sx.guard_of fun h4 => (fun h => ⟨fact29 (Int.tmod (Go.Sx.wrapA Go.IntKind.i64 (Go.Sx.wrapA Go.IntKind.u32 a0)) 5898240) h4, (Go.Sx.guard_of fun h5 => (fun h => ⟨fact29 (t8_3 a0 a1) h5, (Go.Sx.br_of (fun h6 => (Go.Sx.br_of (fun h7 => (Go.Sx.br_of (fun h8 => (Go.Sx.br_of (fun h9 => (Go.Sx.br_of (fun h10 => (Go.Sx.br_of (fun h11 => (Go.Sx.br_of (fun h12 => (Go.Sx.br_of (fun h13 => (Go.Sx.br_of (fun h14 => (Go.Sx.br_of (fun h15 => (Go.Sx.br_of (fun h16 => (Go.Sx.br_of (fun h17 => (fun h => by cases h; rfl)) (fun h17 => (fun h => by cases h; rfl)))) (fun h16 => (fun h => by cases h; rfl)))) (fun h15 => (fun h => by cases h; rfl)))) (fun h14 => (fun h => by cases h; rfl)))) (fun h13 => (fun h => by cases h; rfl)))) (fun h12 => (fun h => by cases h; rfl)))) (fun h11 => (fun h => by cases h; rfl)))) (fun h10 => (fun h => by cases h; rfl)))) (fun h9 => (fun h => by cases h; rfl)))) (fun h8 => (fun h => by cases h; rfl)))) (fun h7 => (fun h => by cases h; rfl)))) (fun h6 => (fun h => by cases h; rfl))) h⟩)) h⟩)) h⟩)) h⟩)) h⟩)) h⟩)) h⟩) h)

set_option maxRecDepth 100000
theorem cS {α : Type} (b : Bool) (x y : α) : (bif b then some x else some y) = some (bif b then x else y) := by cases b <;> rfl
theorem condP (b x y : Bool) : ((bif b then x else y) = true) = ((b = true ∧ x = true) ∨ (b = false ∧ y = true)) := by cases b <;> simp
theorem condF (b x y : Bool) : ((bif b then x else y) = false) = ((b = true ∧ x = false) ∨ (b = false ∧ y = false)) := by cases b <;> simp
theorem nneg_f (b : Bool) : ((!b) = false) = (b = true) := by cases b <;> simp
theorem andB_t (a b : Bool) : (andB a b = true) = (a = true ∧ b = true) := by cases a <;> simp [andB]
theorem andB_f (a b : Bool) : (andB a b = false) = (a = false ∨ b = false) := by cases a <;> simp [andB]
theorem strNil_t (s : List Nat) : (strEq s [] = true) = (s.length = 0) := by cases s <;> simp [strEq]
theorem strNil_f (s : List Nat) : (strEq s [] = false) = (s.length ≠ 0) := by cases s <;> simp [strEq]
theorem strEq_same (s : List Nat) : strEq s s = true := by simp [strEq]
theorem eqI_same (n : Int) : eqI n n = true := by rw [eqI_t]
abbrev T7 := Int × Int × Int × Int × Int × Int × Int
theorem in_t (x y : Int) (h1 : 0 ≤ y) (h2 : y ≤ 9223372036854775807) : (F38_0 x y = true) = (-y ≤ x ∧ x ≤ y) := by
  unfold F38_0 F38 c38_0
  rw [kwrap_eq, wrap64 (by omega) (by omega)]
  cases e1 : ltI x (0 - y) <;> cases e2 : ltI y x <;> simp only [Bool.not_true, Bool.not_false, cond_true, cond_false, Option.getD_some, ltI_t, ltI_f] at * <;> simp <;> omega
theorem in46 (x y : Int) : F46_0 x y = F38_0 x y := rfl
theorem ok_t (a b c d e f : Int) : (F39_0 a b c d e f = true) = ((-16777216 ≤ a ∧ a ≤ 16777216) ∧ (-16777216 ≤ b ∧ b ≤ 16777216) ∧ (-16777216 ≤ c ∧ c ≤ 16777216) ∧ (-16777216 ≤ d ∧ d ≤ 16777216) ∧ (-536870912 ≤ e ∧ e ≤ 536870912) ∧ (-536870912 ≤ f ∧ f ≤ 536870912)) := by
  unfold F39_0 F39
  simp only [in46, cS, Option.getD_some, condP, in_t _ 16777216 (by decide) (by decide), in_t _ 536870912 (by decide) (by decide), Bool.false_eq_true, and_false, or_false]
theorem F39v (a b c d e f : Int) : F39 a b c d e f = some (F39_0 a b c d e f) := by
  unfold F39_0 F39; simp only [cS, Option.getD_some]
theorem F11v (a b c d e f : Int) : F11 a b c d e f = some (bif F39_0 a b c d e f then 0 else 300) := by
  unfold F11 F39_0 F39
  simp only [in46]
  cases F38_0 a 16777216 <;> cases F38_0 b 16777216 <;> cases F38_0 c 16777216 <;> cases F38_0 d 16777216 <;> cases F38_0 e 536870912 <;> cases F38_0 f 536870912 <;> rfl
theorem F12v (a b c d e f : Int) : F12 a b c d e f = some (bif F39_0 a b c d e f then 0 else 300) := by
  unfold F12; cases F39_0 a b c d e f <;> rfl
noncomputable def endN (a b c d e f : Int) : T7 := bif F39_0 a b c d e f then (a, b, c, d, e, f, 0) else (0, 0, 0, 0, 0, 0, 26)
theorem F51v (a b c d e f : Int) : F51 a b c d e f = some (endN a b c d e f) := by
  unfold F51 F11_0 endN; rw [F11v]; cases F39_0 a b c d e f <;> rfl
theorem F53v (a b c d e f : Int) : F53 a b c d e f = some (endN a b c d e f) := by
  unfold F53 endN; cases F39_0 a b c d e f <;> rfl
noncomputable def rnd (n : Int) : Int := (n + 32768) / 65536
theorem mul0 (x y : Int) {a b : Int} (hx1 : -a ≤ x) (hx2 : x ≤ a) (hy1 : -b ≤ y) (hy2 : y ≤ b) (hab : a * b ≤ 1152921504606846976) : wrapA .i64 (Int.mul x y) = x * y ∧ -1152921504606846976 ≤ x * y ∧ x * y ≤ 1152921504606846976 := by
  obtain ⟨h1, h2⟩ := mul_bd hx1 hx2 hy1 hy2
  refine ⟨?_, by omega, by omega⟩
  simp only [mul_int]; exact wrap64 (by omega) (by omega)
theorem pr1 {u : Int} (h1 : -4611686018427387904 ≤ u) (h2 : u ≤ 4611686018427387904) : Int.fdiv (wrapA .i64 (Int.add (wrapA .i64 (Int.add 0 u)) 32768)) 65536 = rnd u := by
  simp only [add_int, Int.zero_add]
  rw [wrap64 (n := u) (by omega) (by omega), wrap64 (by omega) (by omega), fdiv_pos _ (by decide)]; rfl
theorem pr2 {u v : Int} (h1 : -2305843009213693952 ≤ u) (h2 : u ≤ 2305843009213693952) (h3 : -2305843009213693952 ≤ v) (h4 : v ≤ 2305843009213693952) : Int.fdiv (wrapA .i64 (Int.add (wrapA .i64 (Int.add (wrapA .i64 (Int.add 0 u)) v)) 32768)) 65536 = rnd (u + v) := by
  simp only [add_int, Int.zero_add]
  rw [wrap64 (n := u) (by omega) (by omega), wrap64 (n := u + v) (by omega) (by omega), wrap64 (by omega) (by omega), fdiv_pos _ (by decide)]; rfl
theorem floor_ok {x y : Int} (hy : 0 < y) (h1 : -4611686018427387904 ≤ x) (h2 : x ≤ 4611686018427387904) : F58 x y = some (x / y) := by
  have t := tdiv_floor (a := x) hy
  have e : eqI y 0 = false := by rw [eqI_f]; omega
  obtain ⟨b1, b2⟩ := tdiv_bd (a := x) hy
  have w : wrapA .i64 (Int.tdiv x y) = Int.tdiv x y := wrap64 (by omega) (by omega)
  have w2 : wrapA .i64 (Int.sub (Int.tdiv x y) 1) = Int.tdiv x y - 1 := by simp only [sub_int]; exact wrap64 (by omega) (by omega)
  unfold F58
  rw [e, w, w2, ← t]
  by_cases q : Int.tmod x y < 0
  · rw [(ltI_t _ _).mpr q, if_pos q]; rfl
  · rw [(ltI_f _ _).mpr (by omega), if_neg q]; rfl
theorem round_ok {x y : Int} (hy : 0 < y) (hy2 : y ≤ 1073741824) (h1 : -1305843009213693952 ≤ x) (h2 : x ≤ 1305843009213693952) : F54 x y = some ((2 * x + y) / (2 * y)) := by
  have w1 : wrapA .i64 (Int.mul 2 x) = 2 * x := by simp only [mul_int]; exact wrap64 (by omega) (by omega)
  have w2 : wrapA .i64 (Int.add (2 * x) y) = 2 * x + y := by simp only [add_int]; exact wrap64 (by omega) (by omega)
  have w3 : wrapA .i64 (Int.mul 2 y) = 2 * y := by simp only [mul_int]; exact wrap64 (by omega) (by omega)
  have f := floor_ok (x := 2 * x + y) (y := 2 * y) (by omega) (by omega) (by omega)
  unfold F54 t54_0 F58_0; rw [w1, w2, w3, f]; rfl
theorem rnd_ok {x : Int} (h1 : -1305843009213693952 ≤ x) (h2 : x ≤ 1305843009213693952) : F54 x 65536 = some (rnd x) := by
  rw [round_ok (by decide) (by decide) h1 h2]
  refine congrArg some ?_
  unfold rnd; omega
noncomputable def catN (a b c d e f a1 b1 c1 d1 e1 f1 : Int) : T7 := bif F39_0 a b c d e f then (bif F39_0 a1 b1 c1 d1 e1 f1 then endN (rnd (a * a1 + b * c1)) (rnd (a * b1 + b * d1)) (rnd (c * a1 + d * c1)) (rnd (c * b1 + d * d1)) (rnd (e * a1 + f * c1) + e1) (rnd (e * b1 + f * d1) + f1) else (0, 0, 0, 0, 0, 0, 300)) else (0, 0, 0, 0, 0, 0, 300)
theorem rnd_bd {x : Int} (h1 : -2305843009213693952 ≤ x) (h2 : x ≤ 2305843009213693952) : -35184372088833 ≤ rnd x ∧ rnd x ≤ 35184372088833 := by unfold rnd; omega
theorem cat_ok (a b c d e f a1 b1 c1 d1 e1 f1 : Int) : F23 a b c d e f a1 b1 c1 d1 e1 f1 = some (catN a b c d e f a1 b1 c1 d1 e1 f1) := by
  unfold F23 catN F11_0; rw [F11v, F11v]
  cases h : F39_0 a b c d e f with
  | false => rfl
  | true =>
    cases g : F39_0 a1 b1 c1 d1 e1 f1 with
    | false => rfl
    | true =>
      rw [ok_t] at h g
      obtain ⟨⟨ha1, ha2⟩, ⟨hb1, hb2⟩, ⟨hc1, hc2⟩, ⟨hd1, hd2⟩, ⟨he1, he2⟩, ⟨hf1, hf2⟩⟩ := h
      obtain ⟨⟨ga1, ga2⟩, ⟨gb1, gb2⟩, ⟨gc1, gc2⟩, ⟨gd1, gd2⟩, ⟨ge1, ge2⟩, ⟨gf1, gf2⟩⟩ := g
      obtain ⟨p1, q1, r1⟩ := mul0 a a1 ha1 ha2 ga1 ga2 (by decide)
      obtain ⟨p2, q2, r2⟩ := mul0 b c1 hb1 hb2 gc1 gc2 (by decide)
      obtain ⟨p3, q3, r3⟩ := mul0 a b1 ha1 ha2 gb1 gb2 (by decide)
      obtain ⟨p4, q4, r4⟩ := mul0 b d1 hb1 hb2 gd1 gd2 (by decide)
      obtain ⟨p5, q5, r5⟩ := mul0 c a1 hc1 hc2 ga1 ga2 (by decide)
      obtain ⟨p6, q6, r6⟩ := mul0 d c1 hd1 hd2 gc1 gc2 (by decide)
      obtain ⟨p7, q7, r7⟩ := mul0 c b1 hc1 hc2 gb1 gb2 (by decide)
      obtain ⟨p8, q8, r8⟩ := mul0 d d1 hd1 hd2 gd1 gd2 (by decide)
      obtain ⟨p9, q9, r9⟩ := mul0 e a1 he1 he2 ga1 ga2 (by decide)
      obtain ⟨pa, qa, ra⟩ := mul0 f c1 hf1 hf2 gc1 gc2 (by decide)
      obtain ⟨pb, qb, rb⟩ := mul0 e b1 he1 he2 gb1 gb2 (by decide)
      obtain ⟨pc, qc, rc⟩ := mul0 f d1 hf1 hf2 gd1 gd2 (by decide)
      have x0 : t23_0 a b a1 c1 = rnd (a * a1 + b * c1) := by unfold t23_0; rw [p1, p2]; exact pr2 (by omega) (by omega) (by omega) (by omega)
      have x1 : t23_1 a b b1 d1 = rnd (a * b1 + b * d1) := by unfold t23_1; rw [p3, p4]; exact pr2 (by omega) (by omega) (by omega) (by omega)
      have x2 : t23_2 c d a1 c1 = rnd (c * a1 + d * c1) := by unfold t23_2; rw [p5, p6]; exact pr2 (by omega) (by omega) (by omega) (by omega)
      have x3 : t23_3 c d b1 d1 = rnd (c * b1 + d * d1) := by unfold t23_3; rw [p7, p8]; exact pr2 (by omega) (by omega) (by omega) (by omega)
      obtain ⟨k1, k2⟩ := rnd_bd (x := e * a1 + f * c1) (by omega) (by omega)
      obtain ⟨k3, k4⟩ := rnd_bd (x := e * b1 + f * d1) (by omega) (by omega)
      have x4 : t23_4 e f a1 c1 e1 = rnd (e * a1 + f * c1) + e1 := by unfold t23_4; rw [p9, pa, pr2 (by omega) (by omega) (by omega) (by omega)]; simp only [add_int]; exact wrap64 (by omega) (by omega)
      have x5 : t23_5 e f b1 d1 f1 = rnd (e * b1 + f * d1) + f1 := by unfold t23_5; rw [pb, pc, pr2 (by omega) (by omega) (by omega) (by omega)]; simp only [add_int]; exact wrap64 (by omega) (by omega)
      simp only [t23_6, t23_7, t23_8, t23_9, t23_10, t23_11, t23_12, x0, x1, x2, x3, x4, x5, F51_0, F51_1, F51_2, F51_3, F51_4, F51_5, F51_6, F51v, Option.getD_some]
      rfl
theorem cat_ref (a b c d e f a1 b1 c1 d1 e1 f1 : Int) : F24 a b c d e f a1 b1 c1 d1 e1 f1 = some (catN a b c d e f a1 b1 c1 d1 e1 f1) := by
  unfold F24 catN
  cases h : F39_0 a b c d e f with
  | false => rfl
  | true =>
    cases g : F39_0 a1 b1 c1 d1 e1 f1 with
    | false => rfl
    | true =>
      rw [ok_t] at h g
      obtain ⟨⟨ha1, ha2⟩, ⟨hb1, hb2⟩, ⟨hc1, hc2⟩, ⟨hd1, hd2⟩, ⟨he1, he2⟩, ⟨hf1, hf2⟩⟩ := h
      obtain ⟨⟨ga1, ga2⟩, ⟨gb1, gb2⟩, ⟨gc1, gc2⟩, ⟨gd1, gd2⟩, ⟨ge1, ge2⟩, ⟨gf1, gf2⟩⟩ := g
      obtain ⟨p1, q1, r1⟩ := mul0 a a1 ha1 ha2 ga1 ga2 (by decide)
      obtain ⟨p2, q2, r2⟩ := mul0 b c1 hb1 hb2 gc1 gc2 (by decide)
      obtain ⟨p3, q3, r3⟩ := mul0 a b1 ha1 ha2 gb1 gb2 (by decide)
      obtain ⟨p4, q4, r4⟩ := mul0 b d1 hb1 hb2 gd1 gd2 (by decide)
      obtain ⟨p5, q5, r5⟩ := mul0 c a1 hc1 hc2 ga1 ga2 (by decide)
      obtain ⟨p6, q6, r6⟩ := mul0 d c1 hd1 hd2 gc1 gc2 (by decide)
      obtain ⟨p7, q7, r7⟩ := mul0 c b1 hc1 hc2 gb1 gb2 (by decide)
      obtain ⟨p8, q8, r8⟩ := mul0 d d1 hd1 hd2 gd1 gd2 (by decide)
      obtain ⟨p9, q9, r9⟩ := mul0 e a1 he1 he2 ga1 ga2 (by decide)
      obtain ⟨pa, qa, ra⟩ := mul0 f c1 hf1 hf2 gc1 gc2 (by decide)
      obtain ⟨pb, qb, rb⟩ := mul0 e b1 he1 he2 gb1 gb2 (by decide)
      obtain ⟨pc, qc, rc⟩ := mul0 f d1 hf1 hf2 gd1 gd2 (by decide)
      obtain ⟨b1', b2'⟩ := mul_bd he1 he2 ga1 ga2
      obtain ⟨b3', b4'⟩ := mul_bd hf1 hf2 gc1 gc2
      obtain ⟨b5', b6'⟩ := mul_bd he1 he2 gb1 gb2
      obtain ⟨b7', b8'⟩ := mul_bd hf1 hf2 gd1 gd2
      obtain ⟨c1', c2'⟩ := mul_bd ha1 ha2 ga1 ga2
      obtain ⟨c3', c4'⟩ := mul_bd hb1 hb2 gc1 gc2
      obtain ⟨c5', c6'⟩ := mul_bd ha1 ha2 gb1 gb2
      obtain ⟨c7', c8'⟩ := mul_bd hb1 hb2 gd1 gd2
      obtain ⟨d1', d2'⟩ := mul_bd hc1 hc2 ga1 ga2
      obtain ⟨d3', d4'⟩ := mul_bd hd1 hd2 gc1 gc2
      obtain ⟨d5', d6'⟩ := mul_bd hc1 hc2 gb1 gb2
      obtain ⟨d7', d8'⟩ := mul_bd hd1 hd2 gd1 gd2
      have s : ∀ u v : Int, -11529215046068469 ≤ u → u ≤ 11529215046068469 → -11529215046068469 ≤ v → v ≤ 11529215046068469 → F54 (wrapA .i64 (Int.add u v)) 65536 = some (rnd (u + v)) := by
        intro u v h1 h2 h3 h4
        simp only [add_int]; rw [wrap64 (by omega) (by omega)]; exact rnd_ok (by omega) (by omega)
      obtain ⟨k1, k2⟩ := rnd_bd (x := e * a1 + f * c1) (by omega) (by omega)
      obtain ⟨k3, k4⟩ := rnd_bd (x := e * b1 + f * d1) (by omega) (by omega)
      have w4 : wrapA .i64 (Int.add (rnd (e * a1 + f * c1)) e1) = rnd (e * a1 + f * c1) + e1 := by simp only [add_int]; exact wrap64 (by omega) (by omega)
      have w5 : wrapA .i64 (Int.add (rnd (e * b1 + f * d1)) f1) = rnd (e * b1 + f * d1) + f1 := by simp only [add_int]; exact wrap64 (by omega) (by omega)
      have s0 := s (a * a1) (b * c1) (by omega) (by omega) (by omega) (by omega)
      have s1 := s (a * b1) (b * d1) (by omega) (by omega) (by omega) (by omega)
      have s2 := s (c * a1) (d * c1) (by omega) (by omega) (by omega) (by omega)
      have s3 := s (c * b1) (d * d1) (by omega) (by omega) (by omega) (by omega)
      have s4 := s (e * a1) (f * c1) (by omega) (by omega) (by omega) (by omega)
      have s5 := s (e * b1) (f * d1) (by omega) (by omega) (by omega) (by omega)
      simp only [t24_0, t24_1, t24_2, t24_3, t24_4, t24_5, t24_6, t24_7, t24_8, t24_9, t24_10, t24_11, t24_12, p1, p2, p3, p4, p5, p6, p7, p8, p9, pa, pb, pc, F54_0, s0, s1, s2, s3, s4, s5, w4, w5, F53_0, F53_1, F53_2, F53_3, F53_4, F53_5, F53_6, F53v, Option.getD_some, Option.isSome_some, Bool.not_true, cond_true, cond_false]
noncomputable def chk (a b c d e f x y : Int) : Int := bif F39_0 a b c d e f then (bif F38_0 x 2147483648 then (bif F38_0 y 2147483648 then 0 else 2) else 2) else 300
theorem F42v (a b c d e f x y : Int) : F42 a b c d e f x y = some (chk a b c d e f x y) := by
  unfold F42 chk; simp only [in46]
  cases F39_0 a b c d e f <;> cases F38_0 x 2147483648 <;> cases F38_0 y 2147483648 <;> rfl
theorem chk_0 {a b c d e f x y : Int} (h : chk a b c d e f x y = 0) : F39_0 a b c d e f = true ∧ F38_0 x 2147483648 = true ∧ F38_0 y 2147483648 = true := by
  unfold chk at h
  cases h1 : F39_0 a b c d e f <;> cases h2 : F38_0 x 2147483648 <;> cases h3 : F38_0 y 2147483648 <;> rw [h1, h2, h3] at h <;> first | exact ⟨rfl, rfl, rfl⟩ | (exfalso; revert h; decide)
noncomputable def trN (a b c d e f x y : Int) : T7 := bif eqI (chk a b c d e f x y) 0 then endN a b c d (rnd (a * x + c * y) + e) (rnd (b * x + d * y) + f) else (0, 0, 0, 0, 0, 0, chk a b c d e f x y)
noncomputable def scN (a b c d e f x y : Int) : T7 := bif eqI (chk a b c d e f x y) 0 then endN (rnd (a * x)) (rnd (b * x)) (rnd (c * y)) (rnd (d * y)) e f else (0, 0, 0, 0, 0, 0, chk a b c d e f x y)
theorem chk_cases (a b c d e f x y : Int) : (F39_0 a b c d e f = false ∧ chk a b c d e f x y = 300) ∨ (F39_0 a b c d e f = true ∧ F38_0 x 2147483648 = false ∧ chk a b c d e f x y = 2) ∨ (F39_0 a b c d e f = true ∧ F38_0 x 2147483648 = true ∧ F38_0 y 2147483648 = false ∧ chk a b c d e f x y = 2) ∨ (F39_0 a b c d e f = true ∧ F38_0 x 2147483648 = true ∧ F38_0 y 2147483648 = true ∧ chk a b c d e f x y = 0) := by
  unfold chk
  cases F39_0 a b c d e f <;> cases F38_0 x 2147483648 <;> cases F38_0 y 2147483648 <;> simp
theorem args_bd {a b c d e f x y : Int} (h : F39_0 a b c d e f = true) (hx : F38_0 x 2147483648 = true) (hy : F38_0 y 2147483648 = true) :
    (wrapA .i64 (Int.mul a x) = a * x ∧ -36028797018963968 ≤ a * x ∧ a * x ≤ 36028797018963968) ∧ (wrapA .i64 (Int.mul b x) = b * x ∧ -36028797018963968 ≤ b * x ∧ b * x ≤ 36028797018963968) ∧ (wrapA .i64 (Int.mul c y) = c * y ∧ -36028797018963968 ≤ c * y ∧ c * y ≤ 36028797018963968) ∧ (wrapA .i64 (Int.mul d y) = d * y ∧ -36028797018963968 ≤ d * y ∧ d * y ≤ 36028797018963968) ∧ (-536870912 ≤ e ∧ e ≤ 536870912) ∧ (-536870912 ≤ f ∧ f ≤ 536870912) := by
  rw [ok_t] at h
  rw [in_t _ _ (by decide) (by decide)] at hx hy
  obtain ⟨⟨ha1, ha2⟩, ⟨hb1, hb2⟩, ⟨hc1, hc2⟩, ⟨hd1, hd2⟩, he, hf⟩ := h
  obtain ⟨q1, r1⟩ := mul_bd ha1 ha2 hx.1 hx.2
  obtain ⟨q2, r2⟩ := mul_bd hb1 hb2 hx.1 hx.2
  obtain ⟨q3, r3⟩ := mul_bd hc1 hc2 hy.1 hy.2
  obtain ⟨q4, r4⟩ := mul_bd hd1 hd2 hy.1 hy.2
  refine ⟨⟨?_, by omega, by omega⟩, ⟨?_, by omega, by omega⟩, ⟨?_, by omega, by omega⟩, ⟨?_, by omega, by omega⟩, he, hf⟩ <;> (simp only [mul_int]; exact wrap64 (by omega) (by omega))
theorem tr_ok (a b c d e f x y : Int) : F25 a b c d e f x y = some (trN a b c d e f x y) := by
  have z : eqI 300 0 = false := rfl
  have z2 : eqI 2 0 = false := rfl
  have z0 : eqI 0 0 = true := rfl
  unfold F25 trN F11_0; rw [F11v]
  rcases chk_cases a b c d e f x y with ⟨h, g⟩ | ⟨h, hx, g⟩ | ⟨h, hx, hy, g⟩ | ⟨h, hx, hy, g⟩
  · simp only [h, g, z, Option.getD_some, Bool.not_false, cond_true, cond_false]
  · simp only [h, hx, g, z0, z2, Option.getD_some, Bool.not_false, Bool.not_true, cond_true, cond_false]
  · simp only [h, hx, hy, g, z0, z2, Option.getD_some, Bool.not_false, Bool.not_true, cond_true, cond_false]
  · obtain ⟨⟨p1, q1, r1⟩, ⟨p2, q2, r2⟩, ⟨p3, q3, r3⟩, ⟨p4, q4, r4⟩, ⟨e1, e2⟩, ⟨f1, f2⟩⟩ := args_bd h hx hy
    obtain ⟨k1, k2⟩ := rnd_bd (x := a * x + c * y) (by omega) (by omega)
    obtain ⟨k3, k4⟩ := rnd_bd (x := b * x + d * y) (by omega) (by omega)
    have x0 : t25_0 a c e x y = rnd (a * x + c * y) + e := by unfold t25_0; rw [p1, p3, pr2 (by omega) (by omega) (by omega) (by omega)]; simp only [add_int]; exact wrap64 (by omega) (by omega)
    have x1 : t25_1 b d f x y = rnd (b * x + d * y) + f := by unfold t25_1; rw [p2, p4, pr2 (by omega) (by omega) (by omega) (by omega)]; simp only [add_int]; exact wrap64 (by omega) (by omega)
    simp only [h, hx, hy, g, z0, t25_2, t25_3, t25_4, t25_5, t25_6, t25_7, t25_8, x0, x1, F51_0, F51_1, F51_2, F51_3, F51_4, F51_5, F51_6, F51v, Option.getD_some, Bool.not_true, cond_true, cond_false]
theorem tr_ref (a b c d e f x y : Int) : F26 a b c d e f x y = some (trN a b c d e f x y) := by
  have z : eqI 300 0 = false := rfl
  have z2 : eqI 2 0 = false := rfl
  have z0 : eqI 0 0 = true := rfl
  unfold F26 trN c26_0 F42_0; rw [F42v]
  rcases chk_cases a b c d e f x y with ⟨h, g⟩ | ⟨h, hx, g⟩ | ⟨h, hx, hy, g⟩ | ⟨h, hx, hy, g⟩
  · simp only [g, z, Option.getD_some, Bool.not_false, cond_true, cond_false]
  · simp only [g, z2, Option.getD_some, Bool.not_false, cond_true, cond_false]
  · simp only [g, z2, Option.getD_some, Bool.not_false, cond_true, cond_false]
  · obtain ⟨⟨p1, q1, r1⟩, ⟨p2, q2, r2⟩, ⟨p3, q3, r3⟩, ⟨p4, q4, r4⟩, ⟨e1, e2⟩, ⟨f1, f2⟩⟩ := args_bd h hx hy
    have s : ∀ u v : Int, -36028797018963968 ≤ u → u ≤ 36028797018963968 → -36028797018963968 ≤ v → v ≤ 36028797018963968 → F54 (wrapA .i64 (Int.add u v)) 65536 = some (rnd (u + v)) := by
      intro u v h1 h2 h3 h4
      simp only [add_int]; rw [wrap64 (by omega) (by omega)]; exact rnd_ok (by omega) (by omega)
    obtain ⟨k1, k2⟩ := rnd_bd (x := a * x + c * y) (by omega) (by omega)
    obtain ⟨k3, k4⟩ := rnd_bd (x := b * x + d * y) (by omega) (by omega)
    have w0 : wrapA .i64 (Int.add (rnd (a * x + c * y)) e) = rnd (a * x + c * y) + e := by simp only [add_int]; exact wrap64 (by omega) (by omega)
    have w1 : wrapA .i64 (Int.add (rnd (b * x + d * y)) f) = rnd (b * x + d * y) + f := by simp only [add_int]; exact wrap64 (by omega) (by omega)
    have s0 := s (a * x) (c * y) q1 r1 q3 r3
    have s1 := s (b * x) (d * y) q2 r2 q4 r4
    simp only [g, z0, t26_1, t26_2, t26_3, t26_4, t26_5, t26_6, t26_7, t26_8, t26_9, p1, p2, p3, p4, F54_0, s0, s1, w0, w1, F53_0, F53_1, F53_2, F53_3, F53_4, F53_5, F53_6, F53v, Option.getD_some, Option.isSome_some, Bool.not_true, cond_true, cond_false]
theorem sc_ok (a b c d e f x y : Int) : F27 a b c d e f x y = some (scN a b c d e f x y) := by
  have z : eqI 300 0 = false := rfl
  have z2 : eqI 2 0 = false := rfl
  have z0 : eqI 0 0 = true := rfl
  unfold F27 scN F11_0; rw [F11v]
  rcases chk_cases a b c d e f x y with ⟨h, g⟩ | ⟨h, hx, g⟩ | ⟨h, hx, hy, g⟩ | ⟨h, hx, hy, g⟩
  · simp only [h, g, z, Option.getD_some, Bool.not_false, cond_true, cond_false]
  · simp only [h, hx, g, z0, z2, Option.getD_some, Bool.not_false, Bool.not_true, cond_true, cond_false]
  · simp only [h, hx, hy, g, z0, z2, Option.getD_some, Bool.not_false, Bool.not_true, cond_true, cond_false]
  · obtain ⟨⟨p1, q1, r1⟩, ⟨p2, q2, r2⟩, ⟨p3, q3, r3⟩, ⟨p4, q4, r4⟩, ⟨e1, e2⟩, ⟨f1, f2⟩⟩ := args_bd h hx hy
    have x0 : t27_0 a x = rnd (a * x) := by unfold t27_0; rw [p1]; exact pr1 (by omega) (by omega)
    have x1 : t27_1 b x = rnd (b * x) := by unfold t27_1; rw [p2]; exact pr1 (by omega) (by omega)
    have x2 : t27_2 c y = rnd (c * y) := by unfold t27_2; rw [p3]; exact pr1 (by omega) (by omega)
    have x3 : t27_3 d y = rnd (d * y) := by unfold t27_3; rw [p4]; exact pr1 (by omega) (by omega)
    simp only [h, hx, hy, g, z0, x0, x1, x2, x3, F51_0, F51_1, F51_2, F51_3, F51_4, F51_5, F51_6, F51v, Option.getD_some, Bool.not_true, cond_true, cond_false]
theorem sc_ref (a b c d e f x y : Int) : F28 a b c d e f x y = some (scN a b c d e f x y) := by
  have z : eqI 300 0 = false := rfl
  have z2 : eqI 2 0 = false := rfl
  have z0 : eqI 0 0 = true := rfl
  unfold F28 scN c28_0 F42_0; rw [F42v]
  rcases chk_cases a b c d e f x y with ⟨h, g⟩ | ⟨h, hx, g⟩ | ⟨h, hx, hy, g⟩ | ⟨h, hx, hy, g⟩
  · simp only [g, z, Option.getD_some, Bool.not_false, cond_true, cond_false]
  · simp only [g, z2, Option.getD_some, Bool.not_false, cond_true, cond_false]
  · simp only [g, z2, Option.getD_some, Bool.not_false, cond_true, cond_false]
  · obtain ⟨⟨p1, q1, r1⟩, ⟨p2, q2, r2⟩, ⟨p3, q3, r3⟩, ⟨p4, q4, r4⟩, ⟨e1, e2⟩, ⟨f1, f2⟩⟩ := args_bd h hx hy
    have s0 := rnd_ok (x := a * x) (by omega) (by omega)
    have s1 := rnd_ok (x := b * x) (by omega) (by omega)
    have s2 := rnd_ok (x := c * y) (by omega) (by omega)
    have s3 := rnd_ok (x := d * y) (by omega) (by omega)
    simp only [g, z0, t28_1, t28_2, t28_3, t28_4, t28_5, t28_6, t28_7, p1, p2, p3, p4, F54_0, s0, s1, s2, s3, F53_0, F53_1, F53_2, F53_3, F53_4, F53_5, F53_6, F53v, Option.getD_some, Option.isSome_some, Bool.not_true, cond_true, cond_false]
noncomputable def sn (v : Int) : Int := (2 * (262144 * (v * (11796480 - v))) + (173946175488000 - v * (11796480 - v))) / (2 * (173946175488000 - v * (11796480 - v)))
noncomputable def gs (m : Int) : Int := if m < 11796480 then sn m else -sn (m - 11796480)
theorem p_bd {v : Int} (h1 : 0 ≤ v) (h2 : v ≤ 11796480) : 0 ≤ v * (11796480 - v) ∧ v * (11796480 - v) ≤ 34789235097600 := by
  refine ⟨Int.mul_nonneg h1 (by omega), ?_⟩
  obtain ⟨w, hw⟩ : ∃ w, v = w + 5898240 := ⟨v - 5898240, by omega⟩
  subst hw
  have e : (w + 5898240) * (11796480 - (w + 5898240)) = 34789235097600 - w * w := by
    rw [show 11796480 - (w + 5898240) = 5898240 - w by omega, Int.add_mul, Int.mul_sub, Int.mul_sub]; rw [Int.mul_comm w 5898240]; omega
  rw [e]
  have : 0 ≤ w * w := by
    rcases Int.le_total 0 w with q | q
    · exact Int.mul_nonneg q q
    · have := Int.mul_nonneg (show 0 ≤ -w by omega) (show 0 ≤ -w by omega)
      rw [Int.neg_mul_neg] at this; exact this
  omega
/-- rounding by the rest -/
theorem halfUp {a b : Int} (ha : 0 ≤ a) (hb : 0 < b) : (if 2 * (a % b) ≥ b then a / b + 1 else a / b) = (2 * a + b) / (2 * b) := by
  have h1 := Int.mul_ediv_add_emod a b
  have h2 := Int.emod_nonneg a (by omega : b ≠ 0)
  have h3 := Int.emod_lt_of_pos a hb
  generalize a / b = q at *
  generalize a % b = r at *
  symm
  have hm : b * (q + 1) = b * q + b := by rw [Int.mul_add, Int.mul_one]
  split
  · refine (Int.ediv_eq_iff_of_pos (by omega)).mpr ⟨?_, ?_⟩
    · rw [show (q + 1) * (2 * b) = 2 * (b * (q + 1)) by rw [Int.mul_comm (q + 1), Int.mul_assoc], hm]; omega
    · rw [show (q + 1) * (2 * b) = 2 * (b * (q + 1)) by rw [Int.mul_comm (q + 1), Int.mul_assoc], hm]; omega
  · refine (Int.ediv_eq_iff_of_pos (by omega)).mpr ⟨?_, ?_⟩
    · rw [show q * (2 * b) = 2 * (b * q) by rw [Int.mul_comm q, Int.mul_assoc]]; omega
    · rw [show q * (2 * b) = 2 * (b * q) by rw [Int.mul_comm q, Int.mul_assoc]]; omega
theorem sn_parts {v : Int} (h1 : 0 ≤ v) (h2 : v ≤ 11796480) : wrapA .i64 (Int.mul 262144 (wrapA .i64 (Int.mul v (wrapA .i64 (Int.sub 11796480 v))))) = 262144 * (v * (11796480 - v)) ∧ wrapA .i64 (Int.sub 173946175488000 (wrapA .i64 (Int.mul v (wrapA .i64 (Int.sub 11796480 v))))) = 173946175488000 - v * (11796480 - v) := by
  obtain ⟨p1, p2⟩ := p_bd h1 h2
  have w1 : wrapA .i64 (Int.sub 11796480 v) = 11796480 - v := by simp only [sub_int]; exact wrap64 (by omega) (by omega)
  rw [w1]
  simp only [mul_int, sub_int]
  generalize v * (11796480 - v) = p at *
  rw [wrap64 (n := p) (by omega) (by omega)]
  exact ⟨wrap64 (by omega) (by omega), wrap64 (by omega) (by omega)⟩
theorem sn_bd {v : Int} (h1 : 0 ≤ v) (h2 : v ≤ 11796480) : 0 ≤ sn v ∧ sn v ≤ 65536 := by
  obtain ⟨p1, p2⟩ := p_bd h1 h2
  unfold sn
  generalize v * (11796480 - v) = p at *
  constructor
  · exact Int.ediv_nonneg (by omega) (by omega)
  · have : (2 * (262144 * p) + (173946175488000 - p)) / (2 * (173946175488000 - p)) < 65537 := Int.ediv_lt_of_lt_mul (by omega) (by omega)
    omega
/-- the end of both -/
theorem sn_code {v num den : Int} (h1 : 0 ≤ v) (h2 : v ≤ 11796480) (hn : num = 262144 * (v * (11796480 - v))) (hd : den = 173946175488000 - v * (11796480 - v)) :
    (bif !eqI den 0 then (bif !ltI (wrapA .i64 (Int.mul 2 (Int.tmod num den))) den then some (wrapA .i64 (Int.add (wrapA .i64 (Int.tdiv num den)) 1)) else some (wrapA .i64 (Int.tdiv num den))) else none) = some (sn v) := by
  obtain ⟨p1, p2⟩ := p_bd h1 h2
  obtain ⟨s1, s2⟩ := sn_bd h1 h2
  unfold sn at *
  generalize v * (11796480 - v) = p at *
  subst hn hd
  have e0 : eqI (173946175488000 - p) 0 = false := by rw [eqI_f]; omega
  rw [e0, tdiv_pos (by omega), tmod_pos (by omega)]
  have hu := halfUp (a := 262144 * p) (b := 173946175488000 - p) (by omega) (by omega)
  have r1 := Int.emod_nonneg (262144 * p) (show 173946175488000 - p ≠ 0 by omega)
  have r2 := Int.emod_lt_of_pos (262144 * p) (show 0 < 173946175488000 - p by omega)
  have w1 : wrapA .i64 (Int.mul 2 (262144 * p % (173946175488000 - p))) = 2 * (262144 * p % (173946175488000 - p)) := by simp only [mul_int]; exact wrap64 (by omega) (by omega)
  rw [w1]
  rw [← hu] at s1 s2 ⊢
  by_cases q : 2 * (262144 * p % (173946175488000 - p)) ≥ 173946175488000 - p
  · rw [(ltI_f _ _).mpr q]
    rw [if_pos q] at s1 s2 ⊢
    have w2 : wrapA .i64 (262144 * p / (173946175488000 - p)) = 262144 * p / (173946175488000 - p) := wrap64 (by omega) (by omega)
    have w3 : wrapA .i64 (Int.add (262144 * p / (173946175488000 - p)) 1) = 262144 * p / (173946175488000 - p) + 1 := by simp only [add_int]; exact wrap64 (by omega) (by omega)
    rw [w2, w3]; rfl
  · rw [(ltI_t _ _).mpr (by omega)]
    rw [if_neg q] at s1 s2 ⊢
    have w2 : wrapA .i64 (262144 * p / (173946175488000 - p)) = 262144 * p / (173946175488000 - p) := wrap64 (by omega) (by omega)
    rw [w2]; rfl
theorem turn_mod {x : Int} (h1 : -4611686018427387904 ≤ x) (h2 : x ≤ 4611686018427387904) : Int.tmod (wrapA .i64 (Int.add (Int.tmod x 23592960) 23592960)) 23592960 = x % 23592960 := by
  obtain ⟨b1, b2⟩ := tmod_bd x (show (0 : Int) < 23592960 by decide)
  simp only [add_int]
  rw [wrap64 (by omega) (by omega), tmod_pos (by omega)]
  have := Int.tmod_eq_emod (a := x) (b := 23592960)
  split at this <;> omega
theorem sineb_ok {x : Int} (h1 : 0 ≤ x) (h2 : x < 11796480) : F55b x = some (sn x) := by
  have t := turn_mod (x := x) (by omega) (by omega)
  have e : x % 23592960 = x := by omega
  rw [e] at t
  have c : c55b_1 x = false := by unfold c55b_1; rw [t, (ltI_t _ _).mpr h2]; rfl
  have t0 : t55b_0 x = x := t
  obtain ⟨q1, q2⟩ := sn_parts h1 (by omega)
  unfold F55b c55b_4
  rw [c]
  exact sn_code h1 (by omega) (by unfold t55b_2; rw [t0, q1]) (by unfold t55b_3; rw [t0, q2])
theorem sine_ok {x : Int} (h1 : -4611686018427387904 ≤ x) (h2 : x ≤ 4611686018427387904) : F55 x = some (gs (x % 23592960)) := by
  have t := turn_mod h1 h2
  have b1 := Int.emod_nonneg x (show (23592960 : Int) ≠ 0 by decide)
  have b2 := Int.emod_lt_of_pos x (show (0 : Int) < 23592960 by decide)
  have t0 : t55_0 x = x % 23592960 := t
  unfold F55 c55_1 gs
  rw [t]
  by_cases q : x % 23592960 < 11796480
  · rw [(ltI_t _ _).mpr q, if_pos q]
    obtain ⟨q1, q2⟩ := sn_parts b1 (by omega)
    exact sn_code b1 (by omega) (by unfold t55_3; rw [t0, q1]) (by unfold t55_4; rw [t0, q2])
  · rw [(ltI_f _ _).mpr (by omega), if_neg q]
    have w : wrapA .i64 (Int.sub (t55_0 x) 11796480) = x % 23592960 - 11796480 := by rw [t0]; simp only [sub_int]; exact wrap64 (by omega) (by omega)
    have s := sineb_ok (x := x % 23592960 - 11796480) (by omega) (by omega)
    obtain ⟨s1, s2⟩ := sn_bd (v := x % 23592960 - 11796480) (by omega) (by omega)
    unfold t55_2 F55b_0
    rw [w, s]
    have w2 : wrapA .i64 (0 - sn (x % 23592960 - 11796480)) = -sn (x % 23592960 - 11796480) := by rw [Int.zero_sub]; exact wrap64 (by omega) (by omega)
    simp only [kwrap_eq, Option.getD_some, Option.isSome_some, w2, Bool.not_false, cond_true]
theorem refb_ok (n : Nat) {x : Int} (h1 : 0 ≤ x) (h2 : x < 11796480) : F56b (n + 2) x = some (sn x) := by
  have l0 : ltI x 0 = false := by rw [ltI_f]; omega
  have l1 : ltI x 23592960 = true := by rw [ltI_t]; omega
  have l2 : ltI x 11796480 = true := by rw [ltI_t]; omega
  obtain ⟨q1, q2⟩ := sn_parts h1 (by omega)
  unfold F56b
  rw [L56b_0_succ, l0, cond_false, L56b_1_succ, l1, l2]
  exact sn_code h1 (by omega) q1 q2
theorem ref1_base (x : Int) (n : Nat) {v : Int} (h1 : 0 ≤ v) (h2 : v < 23592960) : L56_1 x (n + 3) v = some (gs v) := by
  have l1 : ltI v 23592960 = true := by rw [ltI_t]; omega
  rw [L56_1_succ, l1]
  unfold gs
  by_cases q : v < 11796480
  · rw [(ltI_t _ _).mpr q, if_pos q]
    obtain ⟨q1, q2⟩ := sn_parts h1 (by omega)
    exact sn_code h1 (by omega) q1 q2
  · rw [(ltI_f _ _).mpr (by omega), if_neg q]
    have w : wrapA .i64 (Int.sub v 11796480) = v - 11796480 := by simp only [sub_int]; exact wrap64 (by omega) (by omega)
    have s := refb_ok n (x := v - 11796480) (by omega) (by omega)
    obtain ⟨s1, s2⟩ := sn_bd (v := v - 11796480) (by omega) (by omega)
    have w2 : wrapA .i64 (0 - sn (v - 11796480)) = -sn (v - 11796480) := by rw [Int.zero_sub]; exact wrap64 (by omega) (by omega)
    simp only [t56_13, F56b_0, w, s, w2, kwrap_eq, Option.getD_some, Option.isSome_some, Bool.not_false, Bool.not_true, cond_true, cond_false]
theorem ref1_ok (x : Int) (n k : Nat) : ∀ (v : Int), 0 ≤ v → v < (k : Int) * 23592960 + 23592960 → v ≤ 4611686018427387904 → L56_1 x (n + k + 3) v = some (gs (v % 23592960)) := by
  induction k with
  | zero =>
    intro v h1 h2 _
    have : v % 23592960 = v := by omega
    rw [this]; exact ref1_base x n h1 (by omega)
  | succ k ih =>
    intro v h1 h2 h3
    by_cases q : v < 23592960
    · have : v % 23592960 = v := by omega
      rw [this]; exact ref1_base x (n + (k + 1)) h1 q
    · have w : wrapA .i64 (Int.sub v 23592960) = v - 23592960 := by simp only [sub_int]; exact wrap64 (by omega) (by omega)
      rw [show n + (k + 1) + 3 = (n + k + 3) + 1 by omega, L56_1_succ, (ltI_f _ _).mpr (show 23592960 ≤ v by omega), w]
      have := ih (v - 23592960) (by omega) (by omega) (by omega)
      rw [Bool.not_false, cond_true, this]
      exact congrArg (fun t => some (gs t)) (by omega)
theorem ref0_ok (x : Int) (n j k : Nat) : ∀ (v : Int), -((k : Int) * 23592960) ≤ v → v < (j : Int) * 23592960 + 23592960 → v ≤ 4611686018427387904 → -4611686018427387904 ≤ v → L56_0 x (n + j + k + 4) v = some (gs (v % 23592960)) := by
  induction k with
  | zero =>
    intro v h1 h2 h3 _
    rw [show n + j + 0 + 4 = (n + j + 3) + 1 by omega, L56_0_succ, (ltI_f _ _).mpr (show 0 ≤ v by omega), cond_false]
    exact ref1_ok x n j v (by omega) h2 h3
  | succ k ih =>
    intro v h1 h2 h3 h4
    rw [show n + j + (k + 1) + 4 = (n + j + k + 4) + 1 by omega, L56_0_succ]
    by_cases q : v < 0
    · have w : wrapA .i64 (Int.add v 23592960) = v + 23592960 := by simp only [add_int]; exact wrap64 (by omega) (by omega)
      rw [(ltI_t _ _).mpr q, cond_true, w, ih (v + 23592960) (by omega) (by omega) (by omega) (by omega)]
      exact congrArg (fun t => some (gs t)) (by omega)
    · rw [(ltI_f _ _).mpr (by omega), cond_false, show n + j + k + 4 = (n + k + 1) + j + 3 by omega]
      exact ref1_ok x (n + k + 1) j v (by omega) h2 h3
theorem ref_ok (n : Nat) {x : Int} (h1 : -4718592000 ≤ x) (h2 : x ≤ 4718592000) : F56 (n + 404) x = some (gs (x % 23592960)) := by
  unfold F56
  have := ref0_ok x n 200 200 x (by omega) (by omega) (by omega) (by omega)
  rw [show n + 200 + 200 + 4 = n + 404 by omega] at this
  exact this
theorem draft_some (kd a b c d e f : Int) : ∃ A B C D E F : Int, F35 kd a b c d e f = some (A, B, C, D, E, F) ∧ F39_0 A B C D E F = true := by
  have m1 : ∀ x, -16777216 ≤ Int.tmod x 16777217 ∧ Int.tmod x 16777217 ≤ 16777216 := fun x => by
    have := tmod_bd x (show (0 : Int) < 16777217 by decide); omega
  have m2 : ∀ x, -536870912 ≤ Int.tmod x 536870913 ∧ Int.tmod x 536870913 ≤ 536870912 := fun x => by
    have := tmod_bd x (show (0 : Int) < 536870913 by decide); omega
  have m3 : ∀ x, -16777216 ≤ Int.tmod x 300000 ∧ Int.tmod x 300000 ≤ 16777216 := fun x => by
    have := tmod_bd x (show (0 : Int) < 300000 by decide); omega
  have m4 : ∀ x, -536870912 ≤ Int.tmod x 9000000 ∧ Int.tmod x 9000000 ≤ 536870912 := fun x => by
    have := tmod_bd x (show (0 : Int) < 9000000 by decide); omega
  unfold F35
  cases eqI (Int.tmod kd 4) 0 <;> cases eqI (Int.tmod kd 4) 1 <;> cases eqI (Int.tmod kd 4) 2 <;> refine ⟨_, _, _, _, _, _, rfl, ?_⟩ <;> rw [ok_t] <;> simp only [m1, m2, m3, m4, and_self, true_and, and_true] <;> decide
theorem draft_0 (kd a b c d e f : Int) : F39_0 (F35_0 kd a b c d e f) (F35_1 kd a b c d e f) (F35_2 kd a b c d e f) (F35_3 kd a b c d e f) (F35_4 kd a b c d e f) (F35_5 kd a b c d e f) = true := by
  obtain ⟨A, B, C, D, E, F, h, g⟩ := draft_some kd a b c d e f
  simp only [F35_0, F35_1, F35_2, F35_3, F35_4, F35_5, h, Option.getD_some]; exact g
theorem frac_mono {p q c k : Int} (hp : 0 ≤ p) (hpq : p ≤ q) (hq : q < k) (hc : 0 ≤ c) : (2 * (c * p) + (k - p)) / (2 * (k - p)) ≤ (2 * (c * q) + (k - q)) / (2 * (k - q)) := by
  have hkp : 0 < k - p := by omega
  have hkq : 0 < k - q := by omega
  have h1 : ((2 * (c * p) + (k - p)) / (2 * (k - p))) * (2 * (k - p)) ≤ 2 * (c * p) + (k - p) := Int.ediv_mul_le _ (by omega)
  generalize (2 * (c * p) + (k - p)) / (2 * (k - p)) = t at *
  rw [Int.le_ediv_iff_mul_le (by omega)]
  -- (2t - 1) (k - p) ≤ 2 c p, so (2t - 1)(k - q) ≤ 2 c q
  have h2 : (2 * t - 1) * (k - p) ≤ 2 * (c * p) := by
    have e : (2 * t - 1) * (k - p) = t * (2 * (k - p)) - (k - p) := by rw [Int.sub_mul, Int.one_mul, Int.mul_comm 2 t, Int.mul_assoc]
    omega
  have goal : (2 * t - 1) * (k - q) ≤ 2 * (c * q) := by
    have cpq : c * p ≤ c * q := Int.mul_le_mul_of_nonneg_left hpq hc
    rcases Int.le_total 0 (2 * t - 1) with s | s
    · have : (2 * t - 1) * (k - q) ≤ (2 * t - 1) * (k - p) := Int.mul_le_mul_of_nonneg_left (by omega) s
      omega
    · have : (2 * t - 1) * (k - q) ≤ 0 := Int.mul_nonpos_of_nonpos_of_nonneg s (by omega)
      have : 0 ≤ c * q := Int.mul_nonneg hc (by omega)
      omega
  have e : t * (2 * (k - q)) = (2 * t - 1) * (k - q) + (k - q) := by rw [Int.sub_mul, Int.one_mul, Int.mul_comm 2 t, Int.mul_assoc]; omega
  omega
theorem sn_mono {x y : Int} (h1 : 0 ≤ x) (h2 : x ≤ y) (h3 : y ≤ 5898240) : sn x ≤ sn y := by
  obtain ⟨p1, p2⟩ := p_bd (v := x) h1 (by omega)
  obtain ⟨q1, q2⟩ := p_bd (v := y) (by omega) (by omega)
  have m : x * (11796480 - x) ≤ y * (11796480 - y) := by
    obtain ⟨d, hd⟩ : ∃ d, y = x + d := ⟨y - x, by omega⟩
    subst hd
    have e : (x + d) * (11796480 - (x + d)) = x * (11796480 - x) + d * (11796480 - 2 * x - d) := by
      rw [show 11796480 - 2 * x - d = 11796480 - x - x - d by omega]
      simp only [Int.add_mul, Int.mul_add, Int.mul_sub, Int.mul_comm d x]; omega
    have : 0 ≤ d * (11796480 - 2 * x - d) := Int.mul_nonneg (by omega) (by omega)
    omega
  exact frac_mono p1 m (by omega) (by decide)
theorem sn_sym (v : Int) : sn (11796480 - v) = sn v := by
  have e : (11796480 - v) * (11796480 - (11796480 - v)) = v * (11796480 - v) := by rw [show 11796480 - (11796480 - v) = v by omega, Int.mul_comm]
  unfold sn; rw [e]
theorem sn_0 : sn 0 = 0 := by decide
theorem sn_half : sn 11796480 = 0 := by decide
theorem gs_neg {x : Int} (h1 : 0 ≤ x) (h2 : x < 23592960) : gs ((-x) % 23592960) = -gs x := by
  unfold gs
  by_cases q0 : x = 0
  · subst q0; rfl
  · have e : (-x) % 23592960 = 23592960 - x := by omega
    rw [e]
    by_cases q : x < 11796480
    · rw [if_neg (by omega), if_pos q, show 23592960 - x - 11796480 = 11796480 - x by omega, sn_sym]
    · by_cases q2 : x = 11796480
      · subst q2; rw [if_neg (by omega), if_neg (by omega)]
        show -sn 0 = -(-sn 0)
        rw [sn_0]; rfl
      · rw [if_pos (by omega), if_neg q]
        have : sn (23592960 - x) = sn (x - 11796480) := by rw [← sn_sym (x - 11796480)]; exact congrArg sn (by omega)
        omega
theorem gs_sup {x : Int} (h1 : 0 ≤ x) (h2 : x < 23592960) : gs ((11796480 - x) % 23592960) = gs x := by
  unfold gs
  by_cases q : x < 11796480
  · by_cases q0 : x = 0
    · subst q0
      show (if (11796480 : Int) < 11796480 then sn 11796480 else -sn 0) = sn 0
      rw [if_neg (by omega), sn_0]; rfl
    · have e : (11796480 - x) % 23592960 = 11796480 - x := by omega
      rw [e, if_pos (by omega), if_pos q, sn_sym]
  · by_cases q2 : x = 11796480
    · subst q2
      show sn 0 = -sn 0
      rw [sn_0]; rfl
    · have e : (11796480 - x) % 23592960 = 35389440 - x := by omega
      rw [e, if_neg (by omega), if_neg q]
      have : sn (35389440 - x - 11796480) = sn (x - 11796480) := by rw [← sn_sym (x - 11796480)]; exact congrArg sn (by omega)
      omega
theorem gs_bd {x : Int} (h1 : 0 ≤ x) (h2 : x < 23592960) : -65536 ≤ gs x ∧ gs x ≤ 65536 := by
  unfold gs
  split
  · have := sn_bd (v := x) h1 (by omega); omega
  · have := sn_bd (v := x - 11796480) (by omega) (by omega); omega
theorem Sine_ok {x : Int} (h1 : -2147483648 ≤ x) (h2 : x ≤ 2147483648) : F29 x = some (gs (x % 23592960), 0) := by
  have g : F38_0 x 2147483648 = true := by rw [in_t _ _ (by decide) (by decide)]; exact ⟨h1, h2⟩
  have s := sine_ok (x := x) (by omega) (by omega)
  unfold F29; simp only [g, s, F55_0, Option.getD_some, Option.isSome_some, Bool.not_true, cond_true, cond_false]
theorem gs_low {x : Int} (h1 : 0 ≤ x) (h2 : x ≤ 5898240) : gs (x % 23592960) = sn x := by
  have e : x % 23592960 = x := by omega
  rw [e]; unfold gs; rw [if_pos (by omega)]
theorem law_ok (a0 a1 : Int) (w0 : (Lit.int .i32 a0).wf = true) (w1 : (Lit.int .u16 a1).wf = true) : ∃ n : Nat, F8 a0 a1 = some true := by
  refine ⟨0, ?_⟩
  have w0 := wf_i32 w0
  have w1 := wf_u16 w1
  have e0 : wrapA .i64 a0 = a0 := wrap64 (by omega) (by omega)
  have e1 : wrapA .i64 a1 = a1 := wrap64 (by omega) (by omega)
  obtain ⟨u, hu⟩ : ∃ u, wrapA .u32 a0 = u := ⟨_, rfl⟩
  have ub : 0 ≤ u ∧ u ≤ 4294967295 := by
    rw [← hu, wrapA_eq]
    simp only [IntKind.wrap, IntKind.signed, IntKind.bits, Bool.false_and, Bool.false_eq_true, if_false]
    have : (0 : Int) < 2 ^ 32 := by decide
    have h1 := Int.emod_nonneg a0 (show (2 ^ 32 : Int) ≠ 0 by decide)
    have h2 := Int.emod_lt_of_pos a0 this
    have h3 : (2 ^ 32 : Int) = 4294967296 := by decide
    omega
  have e2 : wrapA .i64 u = u := wrap64 (by omega) (by omega)
  obtain ⟨m, hm⟩ : ∃ m, Int.tmod a0 2100297728 = m := ⟨_, rfl⟩
  have mb := tmod_bd a0 (show (0 : Int) < 2100297728 by decide)
  rw [hm] at mb
  obtain ⟨l, hl⟩ : ∃ l, Int.tmod u 5898240 = l := ⟨_, rfl⟩
  have lb : 0 ≤ l ∧ l < 5898240 := by rw [← hl, tmod_pos ub.1]; omega
  have t0 : wrapA .i64 (0 - m) = -m := by rw [Int.zero_sub]; exact wrap64 (by omega) (by omega)
  have t1 : wrapA .i64 (Int.add m 23592960) = m + 23592960 := by simp only [add_int]; exact wrap64 (by omega) (by omega)
  have t2 : wrapA .i64 (Int.sub 11796480 m) = 11796480 - m := by simp only [sub_int]; exact wrap64 (by omega) (by omega)
  have t3 : wrapA .i64 (Int.add l a1) = l + a1 := by simp only [add_int]; exact wrap64 (by omega) (by omega)
  obtain ⟨k, hk⟩ : ∃ k, (if 5898240 < l + a1 then 5898240 else l + a1) = k := ⟨_, rfl⟩
  have kb : l ≤ k ∧ k ≤ 5898240 := by rw [← hk]; split <;> omega
  have b1 := Int.emod_nonneg m (show (23592960 : Int) ≠ 0 by decide)
  have b2 := Int.emod_lt_of_pos m (show (0 : Int) < 23592960 by decide)
  obtain ⟨g1, g2⟩ := gs_bd b1 b2
  have gn : gs ((-m) % 23592960) = -gs (m % 23592960) := by rw [← gs_neg b1 b2]; exact congrArg gs (by omega)
  have ga : gs ((m + 23592960) % 23592960) = gs (m % 23592960) := congrArg gs (by omega)
  have gp : gs ((11796480 - m) % 23592960) = gs (m % 23592960) := by rw [← gs_sup b1 b2]; exact congrArg gs (by omega)
  have s0 := Sine_ok (x := m) (by omega) (by omega)
  have s1 := Sine_ok (x := -m) (by omega) (by omega)
  have s2 := Sine_ok (x := m + 23592960) (by omega) (by omega)
  have s3 := Sine_ok (x := 11796480 - m) (by omega) (by omega)
  have s4 := Sine_ok (x := l) (by omega) (by omega)
  have s5 := Sine_ok (x := k) (by omega) (by omega)
  rw [gn] at s1; rw [ga] at s2; rw [gp] at s3
  rw [gs_low (by omega) (by omega)] at s4 s5
  have mo := sn_mono lb.1 kb.1 kb.2
  have lo := (sn_bd (v := l) lb.1 (by omega)).1
  obtain ⟨G, hG⟩ : ∃ G, gs (m % 23592960) = G := ⟨_, rfl⟩
  rw [hG] at s0 s1 s2 s3 g1 g2
  have n0 : wrapA .i64 (0 - G) = -G := by rw [Int.zero_sub]; exact wrap64 (by omega) (by omega)
  have z : eqI 0 0 = true := rfl
  have c1 : ltI G (-65536) = false := by rw [ltI_f]; omega
  have c2 : ltI 65536 G = false := by rw [ltI_f]; omega
  have c3 : ltI (sn k) (sn l) = false := by rw [ltI_f]; omega
  have c4 : ltI (sn l) 0 = false := by rw [ltI_f]; omega
  unfold F8
  simp only [t8_0, t8_1, t8_2, t8_3, c8_4, c8_5, c8_6, c8_7, c8_8, c8_9, kwrap_eq, e0, e1, hu, e2, hm, hl, t0, t1, t2, t3, hk, s0, s1, s2, s3, s4, s5, F29_0, F29_1, n0, z, c1, c2, c3, c4, eqI_same, Option.getD_some, Option.isSome_some, Bool.not_true, Bool.not_false, cond_true, cond_false]

end

theorem walk (a0 : Int) (a1 : Int) (wa0 : (Lit.int .i32 a0).wf = true) (wa1 : (Lit.int .u16 a1).wf = true) {w : World} {ARGS : List Value} (ha : Go.Sx.RelL (fun _ => none) [.int .i32 a0, .int .u16 a1] ARGS) :
    Calls Try.prog 8 ARGS.toArray w fun e w' => e = .returned (.bool true) ∧ Below w.heap.size w w' := by
  obtain ⟨n, hn⟩ := law_ok a0 a1 wa0 wa1
  exact Go.Sx.call_args okayed rfl ha Try.func8 body8_eq (run8 n a0 a1 true hn) (fun _ _ h => by cases h)

set_option maxRecDepth 100000 in
theorem lifted (os : Os) (started : os.Started) (H : Type) (enc : TypeId × Value → H) :
    ReturnsInHanded {} Try.checked os 8 .any (Rows.matrixSinesSpec.pre6 enc Try.prog Try.f8 Rows.matrixSinesRow.domain false) (Rows.matrixSinesSpec.post enc Try.prog Try.f8 false true false false) := by
  refine returnsInHanded_of_change (C := Try.checked) own started (by kernel_rfl) Try.func8
    (ChangeSpec.witness6 (enc := enc) (C := Try.checked) false ⟨#[], #[.int .i32 0, .int .u16 0], []⟩ 8 (by kernel_rfl) (by kernel_rfl) (by kernel_rfl) (by kernel_rfl)) ?_
  intro W base args ds gs before hval0 hW hcnd _
  have hval : ∀ (j : Nat) t v, Try.f8.params[j]? = some t → args[j]? = some v → Value.okWide Try.prog W .any base t v := hval0
  have hW' := hW
  obtain ⟨p, q, hA0, hV, rfl, hfz, hnd⟩ := hW
  have hA : DataW.TrodAll enc Try.prog W 0 (fun _ => true) true Try.f8.params.toList args.toList ds p := hA0
  rw [Try.params8] at hA hval
  obtain ⟨v0, vs0, d0, ds0, p0, q0, hargs, rfl, rfl, h0, r0⟩ := trodAll_cons hA
  obtain ⟨v1, vs1, d1, ds1, p1, q1, rfl, rfl, rfl, h1, r1⟩ := trodAll_cons r0
  obtain ⟨rfl, rfl, rfl⟩ := trodAll_nil r1
  obtain rfl : args = #[v0, v1] := by cases args; simp_all
  obtain ⟨rfl, rfl⟩ := trodVars_none hV
  obtain ⟨rfl, as0, k0, e0⟩ := Go.Sx.open_kinds (ks := [.int .i32]) (by kernel_rfl) h0
  obtain ⟨a0, r0, rfl, wa0, k0⟩ := k0
  obtain rfl := k0
  obtain ⟨rfl, as1, k1, e1⟩ := Go.Sx.open_kinds (ks := [.int .u16]) (by kernel_rfl) h1
  obtain ⟨a1, r1, rfl, wa1, k1⟩ := k1
  obtain rfl := k1
  clear hA0
  simp only [List.append_nil] at hW'
  have hrel : Go.Sx.RelL (fun _ => none) [.int .i32 a0, .int .u16 a1] [v0, v1] := ⟨_, _, Go.Sx.rel_int Try.underlying21 (hval 0 21 v0 rfl rfl) e0, ⟨_, _, Go.Sx.rel_int Try.underlying56 (hval 1 56 v1 rfl rfl) e1, rfl, rfl⟩, rfl⟩
  refine (walk a0 a1 wa0 wa1  hrel).mono fun e W' ⟨he, hg⟩ => ?_
  subst he
  exact ⟨_, rfl, Go.Sx.post_of_below (pa := []) (pv := []) hW' (fun _ _ _ => (trodAll_cons_mk (shut_bool Try.underlying4 _) trodAll_mk0)) (fun sp _ => (trodAll_cons_mk (Go.Sx.stays laidOut (by kernel_rfl) (Nat.le_of_ble_eq_true (by kernel_rfl)) h0) (trodAll_cons_mk (Go.Sx.stays laidOut (by kernel_rfl) (Nat.le_of_ble_eq_true (by kernel_rfl)) h1) trodAll_mk0))) (fun _ _ => rfl) rfl
    hg (ok_one (by kernel_rfl) rfl (okWide_bool_mk Try.underlying4 _))⟩

theorem over : Rows.matrixSinesRow.holds Try.pinned (OpenSpec.ofChange Rows.matrixSinesSpec) :=
  OpenClaim.holds_of_wide 8 Try.f8 rfl rfl rfl rfl rfl rfl rfl ⟨rfl, rfl, rfl, rfl, rfl⟩ rfl rfl rfl rfl rfl (by kernel_rfl) Try.func8 (by kernel_rfl)
    (of_decide_eq_true (by kernel_rfl)) (by unfold Func.isWrapper; first | (rw [if_pos (by decide +kernel)]; kernel_rfl) | (rw [if_neg (by decide +kernel)]; exact ⟨rfl, rfl⟩))
    (fun os started H enc _ => lifted os started H enc)

theorem proved : Rows.MatrixSinesSaid := over
#print axioms proved
end Go.Proofs.Ytlfmockpeajfkaa.matrixSines
