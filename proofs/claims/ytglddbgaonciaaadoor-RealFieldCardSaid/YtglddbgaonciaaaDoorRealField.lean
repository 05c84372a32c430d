/- 'chase/chaselaw01.RealField' returns true for every argument, and nothing that was there is changed. Condition: the package variables that the row lists hold what the program's text gives them. Its run, with unknown arguments, is worked out by an executor that is proved sound against the model: so each function is a term; the rest is arithmetic. -/
import Derived.Test.YtglddbgaonciaaaDoorRows
import Derived.Test.YtglddbgaonciaaaDoorCards
import Derived.Test.YtglddbgaonciaaaDoorTie
import Derived.WalkKit
import Derived.ProofKit
import Derived.LaidMore
import Derived.OpenShut
import Derived.Stop.Joined
import Derived.SevenTiedAt
import Derived.Test.YtglddbgaonciaaaDoorSxF
namespace Go.Proofs.YtglddbgaonciaaaDoor.realField
open Go.ChangeShapes Go.WideShapes Go.ChangeAt Go.WideMaps Go.WideElems Go.RowKit
set_option linter.unusedVariables false

theorem own : ownKnob Tryd.prog.godebug = none := by kernel_rfl
theorem okayed : Go.Sx.okProg Tryd.prog = true := by kernel_rfl
theorem laidOut : laidOutB Tryd.prog = true := by kernel_rfl
noncomputable def laid : List (String × DataW Unit) := [("math/bits.deBruijn32tab", Rows.laid_math_bits_deBruijn32tab), ("math/bits.deBruijn64tab", Rows.laid_math_bits_deBruijn64tab), ("internal/strconv.uint64pow10", Rows.laid_internal_strconv_uint64pow10)]
noncomputable def vars : List (Nat × List Go.Sx.AV) := [(2, [.int .u8 (.ofNat 0), .int .u8 (.ofNat 1), .int .u8 (.ofNat 28), .int .u8 (.ofNat 2), .int .u8 (.ofNat 29), .int .u8 (.ofNat 14), .int .u8 (.ofNat 24), .int .u8 (.ofNat 3), .int .u8 (.ofNat 30), .int .u8 (.ofNat 22), .int .u8 (.ofNat 20), .int .u8 (.ofNat 15), .int .u8 (.ofNat 25), .int .u8 (.ofNat 17), .int .u8 (.ofNat 4), .int .u8 (.ofNat 8), .int .u8 (.ofNat 31), .int .u8 (.ofNat 27), .int .u8 (.ofNat 13), .int .u8 (.ofNat 23), .int .u8 (.ofNat 21), .int .u8 (.ofNat 19), .int .u8 (.ofNat 16), .int .u8 (.ofNat 7), .int .u8 (.ofNat 26), .int .u8 (.ofNat 12), .int .u8 (.ofNat 18), .int .u8 (.ofNat 6), .int .u8 (.ofNat 11), .int .u8 (.ofNat 5), .int .u8 (.ofNat 10), .int .u8 (.ofNat 9)]), (3, [.int .u8 (.ofNat 0), .int .u8 (.ofNat 1), .int .u8 (.ofNat 56), .int .u8 (.ofNat 2), .int .u8 (.ofNat 57), .int .u8 (.ofNat 49), .int .u8 (.ofNat 28), .int .u8 (.ofNat 3), .int .u8 (.ofNat 61), .int .u8 (.ofNat 58), .int .u8 (.ofNat 42), .int .u8 (.ofNat 50), .int .u8 (.ofNat 38), .int .u8 (.ofNat 29), .int .u8 (.ofNat 17), .int .u8 (.ofNat 4), .int .u8 (.ofNat 62), .int .u8 (.ofNat 47), .int .u8 (.ofNat 59), .int .u8 (.ofNat 36), .int .u8 (.ofNat 45), .int .u8 (.ofNat 43), .int .u8 (.ofNat 51), .int .u8 (.ofNat 22), .int .u8 (.ofNat 53), .int .u8 (.ofNat 39), .int .u8 (.ofNat 33), .int .u8 (.ofNat 30), .int .u8 (.ofNat 24), .int .u8 (.ofNat 18), .int .u8 (.ofNat 12), .int .u8 (.ofNat 5), .int .u8 (.ofNat 63), .int .u8 (.ofNat 55), .int .u8 (.ofNat 48), .int .u8 (.ofNat 27), .int .u8 (.ofNat 60), .int .u8 (.ofNat 41), .int .u8 (.ofNat 37), .int .u8 (.ofNat 16), .int .u8 (.ofNat 46), .int .u8 (.ofNat 35), .int .u8 (.ofNat 44), .int .u8 (.ofNat 21), .int .u8 (.ofNat 52), .int .u8 (.ofNat 32), .int .u8 (.ofNat 23), .int .u8 (.ofNat 11), .int .u8 (.ofNat 54), .int .u8 (.ofNat 26), .int .u8 (.ofNat 40), .int .u8 (.ofNat 15), .int .u8 (.ofNat 34), .int .u8 (.ofNat 20), .int .u8 (.ofNat 31), .int .u8 (.ofNat 10), .int .u8 (.ofNat 25), .int .u8 (.ofNat 14), .int .u8 (.ofNat 19), .int .u8 (.ofNat 9), .int .u8 (.ofNat 13), .int .u8 (.ofNat 8), .int .u8 (.ofNat 7), .int .u8 (.ofNat 6)]), (0, [.int .u64 (.ofNat 1), .int .u64 (.ofNat 10), .int .u64 (.ofNat 100), .int .u64 (.ofNat 1000), .int .u64 (.ofNat 10000), .int .u64 (.ofNat 100000), .int .u64 (.ofNat 1000000), .int .u64 (.ofNat 10000000), .int .u64 (.ofNat 100000000), .int .u64 (.ofNat 1000000000), .int .u64 (.ofNat 10000000000), .int .u64 (.ofNat 100000000000), .int .u64 (.ofNat 1000000000000), .int .u64 (.ofNat 10000000000000), .int .u64 (.ofNat 100000000000000), .int .u64 (.ofNat 1000000000000000), .int .u64 (.ofNat 10000000000000000), .int .u64 (.ofNat 100000000000000000), .int .u64 (.ofNat 1000000000000000000), .int .u64 (.ofNat 10000000000000000000)])]
theorem vars_eq : Go.Sx.laidOf Tryd.prog laid = some vars := by kernel_rfl
section
open Go.Sx
set_option maxRecDepth 1000000
noncomputable def body14 : Go.Code := (Tryd.f14.body).getD .skip
theorem body14_eq : Tryd.f14.body = some body14 := Go.Sx.some_getD (by kernel_rfl)
noncomputable def F14 (x : Int) : Option (Bool) := (bif (!Go.Sx.ltI x ((-2147483648))) then (some (!Go.Sx.ltI 2147483648 x)) else (some false))
theorem form14 (n : Nat) (x : Int) (vz : Go.Sx.AV) : Go.Sx.wpS Tryd.prog Tryd.f14 vars vz (.st [0, 0, 2, 0, 0, 0, 0, 2, 2, 2] (.br 5 (.st [2, 2, 2, 2, 0, 0, 2] .ans) (.st [2, 2, 2, 2, 0, 0, 2] .ans))) [] (.code body14 (Go.Sx.startA [.int .i64 x] Tryd.f14) (Go.Sx.laidHeap vars)) = (Go.Sx.BR (!Go.Sx.ltI x ((-2147483648))) (vz = .bool (!Go.Sx.ltI 2147483648 x)) (vz = .bool false)) := by kernel_rfl
theorem run14 (n : Nat) (x : Int) (r : Bool) (h : F14 x = some r) : Go.Sx.Run Tryd.prog Tryd.f14 vars (.bool r) [] (.code body14 (Go.Sx.startA [.int .i64 x] Tryd.f14) (Go.Sx.laidHeap vars)) := by
  exact Go.Sx.wpS_run (L := vars) (by kernel_rfl) (form14 n x (.bool r)) ((Go.Sx.br_of (fun h0 => (fun h => by cases h; rfl)) (fun h0 => (fun h => by cases h; rfl))) h)
noncomputable def F14_0 (x : Int) : Bool := ((F14 x).getD default)
theorem F14_some (x : Int) : (F14 x).isSome = true := by
  unfold F14
  repeat' (first | rfl | apply Go.Sx.some_br)
theorem fact14 (x : Int) : Go.Sx.Fact Tryd.prog vars 14 [.int .i64 x] (.bool (F14_0 x)) := Go.Sx.fact_of_run okayed (by kernel_rfl) (by kernel_rfl) (by kernel_rfl) Tryd.func14 body14_eq (run14 0 x ((F14 x).getD default) (Go.Sx.getD_some (F14_some x)))
noncomputable def body19 : Go.Code := (Tryd.f19.body).getD .skip
theorem body19_eq : Tryd.f19.body = some body19 := Go.Sx.some_getD (by kernel_rfl)
noncomputable def F19 (x : Int) : Option (Int × Int) := (bif (!F14_0 x) then (some (0, 2)) else (some ((Go.IntKind.wrap Go.IntKind.i64 (0 - x)), 0)))
theorem form19 (n : Nat) (x : Int) (vz : Go.Sx.AV) : Go.Sx.wpS Tryd.prog Tryd.f19 vars vz (.st [0, 0, 2, 2, 0, 0, 0, 0, 2, 0, 0, 0, 2, 2, 0, 0, 0, 0, 0, 2] (.use (.bool (F14_0 x)) (.st [2, 0, 0] (.br 8 (.st [0, 0, 0, 2, 2, 0, 0, 2, 0, 0, 2, 2, 2, 2, 0, 0, 2] .ans) (.st [0, 2, 0, 0, 0, 2, 2, 0, 0, 0, 2, 0, 0, 0, 0, 2, 2, 2, 0, 0, 2, 0, 2, 2, 0, 0, 2, 0, 2, 2, 2, 2, 0, 0, 2] .ans))))) [] (.code body19 (Go.Sx.startA [.int .i64 x] Tryd.f19) (Go.Sx.laidHeap vars)) = (Go.Sx.Fact Tryd.prog vars 14 [.int .i64 (x)] (.bool (F14_0 x)) ∧ (Go.Sx.BR (!F14_0 x) (vz = .tup [.int .i64 (.ofNat 0), .int .i64 (.ofNat 2)]) (vz = .tup [.int .i64 (Go.IntKind.wrap Go.IntKind.i64 (0 - x)), .int .i64 (.ofNat 0)]))) := by kernel_rfl
theorem run19 (n : Nat) (x : Int) (r : Int × Int) (h : F19 x = some r) : Go.Sx.Run Tryd.prog Tryd.f19 vars (.tup [.int .i64 r.1, .int .i64 r.2]) [] (.code body19 (Go.Sx.startA [.int .i64 x] Tryd.f19) (Go.Sx.laidHeap vars)) := by
  exact Go.Sx.wpS_run (L := vars) (by kernel_rfl) (form19 n x (.tup [.int .i64 r.1, .int .i64 r.2])) ((fun h => ⟨fact14 (x), (Go.Sx.br_of (fun h0 => (fun h => by cases h; rfl)) (fun h0 => (fun h => by cases h; rfl))) h⟩) h)
noncomputable def F19_0 (x : Int) : Int := ((F19 x).getD default).1
noncomputable def F19_1 (x : Int) : Int := ((F19 x).getD default).2
theorem F19_some (x : Int) : (F19 x).isSome = true := by
  unfold F19
  repeat' (first | rfl | apply Go.Sx.some_br)
theorem fact19 (x : Int) : Go.Sx.Fact Tryd.prog vars 19 [.int .i64 x] (.tup [.int .i64 (F19_0 x), .int .i64 (F19_1 x)]) := Go.Sx.fact_of_run okayed (by kernel_rfl) (by kernel_rfl) (by kernel_rfl) Tryd.func19 body19_eq (run19 0 x ((F19 x).getD default) (Go.Sx.getD_some (F19_some x)))
noncomputable def body20 : Go.Code := (Tryd.f20.body).getD .skip
theorem body20_eq : Tryd.f20.body = some body20 := Go.Sx.some_getD (by kernel_rfl)
noncomputable def F20 (x : Int) (y : Int) : Option (Int × Int) := (bif (!F14_0 x) then (some (0, 2)) else (bif (!F14_0 y) then (some (0, 2)) else (bif (!F14_0 (Go.Sx.wrapA Go.IntKind.i64 (Int.add x y))) then (some (0, 25)) else (some ((Go.Sx.wrapA Go.IntKind.i64 (Int.add x y)), 0)))))
theorem form20 (n : Nat) (x : Int) (y : Int) (vz : Go.Sx.AV) : Go.Sx.wpS Tryd.prog Tryd.f20 vars vz (.st [0, 0, 2, 2, 0, 0, 0, 0, 2, 2, 0, 0, 0, 2, 2, 0, 0, 0, 0, 0, 2] (.use (.bool (F14_0 x)) (.st [2, 2] (.br 12 (.st [2, 2, 2, 2, 0, 0, 0, 0, 0, 2, 2, 0, 0, 2, 0, 0, 2, 2, 2, 2, 0, 0, 2] .ans) (.st [2] (.use (.bool (F14_0 y)) (.st [2, 2, 0, 0] (.br 16 (.st [0, 0, 0, 2, 2, 0, 0, 2, 0, 0, 2, 2, 2, 2, 0, 0, 2] .ans) (.st [0, 2, 0, 0, 0, 2, 2, 2, 0, 0, 0, 2, 0, 0, 0, 0, 2, 2, 2, 2, 0, 0, 2, 0, 2, 0, 0, 0, 0, 0, 2] (.use (.bool (F14_0 (Go.Sx.wrapA Go.IntKind.i64 (Int.add x y)))) (.st [2, 0, 0] (.br 23 (.st [0, 0, 0, 2, 2, 0, 0, 2, 0, 0, 2, 2, 2, 2, 0, 0, 2] .ans) (.st [0, 2, 0, 0, 0, 2, 2, 2, 0, 0, 2, 0, 2, 2, 2, 2, 0, 0, 2] .ans))))))))))))) [] (.code body20 (Go.Sx.startA [.int .i64 x, .int .i64 y] Tryd.f20) (Go.Sx.laidHeap vars)) = (Go.Sx.Fact Tryd.prog vars 14 [.int .i64 (x)] (.bool (F14_0 x)) ∧ (Go.Sx.BR (!F14_0 x) (vz = .tup [.int .i64 (.ofNat 0), .int .i64 (.ofNat 2)]) (Go.Sx.Fact Tryd.prog vars 14 [.int .i64 (y)] (.bool (F14_0 y)) ∧ (Go.Sx.BR (!F14_0 y) (vz = .tup [.int .i64 (.ofNat 0), .int .i64 (.ofNat 2)]) (Go.Sx.Fact Tryd.prog vars 14 [.int .i64 (Go.Sx.wrapA Go.IntKind.i64 (Int.add x y))] (.bool (F14_0 (Go.Sx.wrapA Go.IntKind.i64 (Int.add x y)))) ∧ (Go.Sx.BR (!F14_0 (Go.Sx.wrapA Go.IntKind.i64 (Int.add x y))) (vz = .tup [.int .i64 (.ofNat 0), .int .i64 (.ofNat 25)]) (vz = .tup [.int .i64 (Go.Sx.wrapA Go.IntKind.i64 (Int.add x y)), .int .i64 (.ofNat 0)]))))))) := by kernel_rfl
theorem run20 (n : Nat) (x : Int) (y : Int) (r : Int × Int) (h : F20 x y = some r) : Go.Sx.Run Tryd.prog Tryd.f20 vars (.tup [.int .i64 r.1, .int .i64 r.2]) [] (.code body20 (Go.Sx.startA [.int .i64 x, .int .i64 y] Tryd.f20) (Go.Sx.laidHeap vars)) := by
  exact Go.Sx.wpS_run (L := vars) (by kernel_rfl) (form20 n x y (.tup [.int .i64 r.1, .int .i64 r.2])) ((fun h => ⟨fact14 (x), (Go.Sx.br_of (fun h0 => (fun h => by cases h; rfl)) (fun h0 => (fun h => ⟨fact14 (y), (Go.Sx.br_of (fun h1 => (fun h => by cases h; rfl)) (fun h1 => (fun h => ⟨fact14 (Go.Sx.wrapA Go.IntKind.i64 (Int.add x y)), (Go.Sx.br_of (fun h2 => (fun h => by cases h; rfl)) (fun h2 => (fun h => by cases h; rfl))) h⟩))) h⟩))) h⟩) h)
noncomputable def F20_0 (x : Int) (y : Int) : Int := ((F20 x y).getD default).1
noncomputable def F20_1 (x : Int) (y : Int) : Int := ((F20 x y).getD default).2
theorem F20_some (x : Int) (y : Int) : (F20 x y).isSome = true := by
  unfold F20
  repeat' (first | rfl | apply Go.Sx.some_br)
theorem fact20 (x : Int) (y : Int) : Go.Sx.Fact Tryd.prog vars 20 [.int .i64 x, .int .i64 y] (.tup [.int .i64 (F20_0 x y), .int .i64 (F20_1 x y)]) := Go.Sx.fact_of_run okayed (by kernel_rfl) (by kernel_rfl) (by kernel_rfl) Tryd.func20 body20_eq (run20 0 x y ((F20 x y).getD default) (Go.Sx.getD_some (F20_some x y)))
noncomputable def body22 : Go.Code := (Tryd.f22.body).getD .skip
theorem body22_eq : Tryd.f22.body = some body22 := Go.Sx.some_getD (by kernel_rfl)
noncomputable def F22 (x : Int) (y : Int) : Option (Int × Int) := (bif (!F14_0 x) then (some (0, 2)) else (bif (!F14_0 y) then (some (0, 2)) else (bif (!F14_0 (Go.Sx.wrapA Go.IntKind.i64 (Int.sub x y))) then (some (0, 25)) else (some ((Go.Sx.wrapA Go.IntKind.i64 (Int.sub x y)), 0)))))
theorem form22 (n : Nat) (x : Int) (y : Int) (vz : Go.Sx.AV) : Go.Sx.wpS Tryd.prog Tryd.f22 vars vz (.st [0, 0, 2, 2, 0, 0, 0, 0, 2, 2, 0, 0, 0, 2, 2, 0, 0, 0, 0, 0, 2] (.use (.bool (F14_0 x)) (.st [2, 2] (.br 12 (.st [2, 2, 2, 2, 0, 0, 0, 0, 0, 2, 2, 0, 0, 2, 0, 0, 2, 2, 2, 2, 0, 0, 2] .ans) (.st [2] (.use (.bool (F14_0 y)) (.st [2, 2, 0, 0] (.br 16 (.st [0, 0, 0, 2, 2, 0, 0, 2, 0, 0, 2, 2, 2, 2, 0, 0, 2] .ans) (.st [0, 2, 0, 0, 0, 2, 2, 2, 0, 0, 0, 2, 0, 0, 0, 0, 2, 2, 2, 2, 0, 0, 2, 0, 2, 0, 0, 0, 0, 0, 2] (.use (.bool (F14_0 (Go.Sx.wrapA Go.IntKind.i64 (Int.sub x y)))) (.st [2, 0, 0] (.br 23 (.st [0, 0, 0, 2, 2, 0, 0, 2, 0, 0, 2, 2, 2, 2, 0, 0, 2] .ans) (.st [0, 2, 0, 0, 0, 2, 2, 2, 0, 0, 2, 0, 2, 2, 2, 2, 0, 0, 2] .ans))))))))))))) [] (.code body22 (Go.Sx.startA [.int .i64 x, .int .i64 y] Tryd.f22) (Go.Sx.laidHeap vars)) = (Go.Sx.Fact Tryd.prog vars 14 [.int .i64 (x)] (.bool (F14_0 x)) ∧ (Go.Sx.BR (!F14_0 x) (vz = .tup [.int .i64 (.ofNat 0), .int .i64 (.ofNat 2)]) (Go.Sx.Fact Tryd.prog vars 14 [.int .i64 (y)] (.bool (F14_0 y)) ∧ (Go.Sx.BR (!F14_0 y) (vz = .tup [.int .i64 (.ofNat 0), .int .i64 (.ofNat 2)]) (Go.Sx.Fact Tryd.prog vars 14 [.int .i64 (Go.Sx.wrapA Go.IntKind.i64 (Int.sub x y))] (.bool (F14_0 (Go.Sx.wrapA Go.IntKind.i64 (Int.sub x y)))) ∧ (Go.Sx.BR (!F14_0 (Go.Sx.wrapA Go.IntKind.i64 (Int.sub x y))) (vz = .tup [.int .i64 (.ofNat 0), .int .i64 (.ofNat 25)]) (vz = .tup [.int .i64 (Go.Sx.wrapA Go.IntKind.i64 (Int.sub x y)), .int .i64 (.ofNat 0)]))))))) := by kernel_rfl
theorem run22 (n : Nat) (x : Int) (y : Int) (r : Int × Int) (h : F22 x y = some r) : Go.Sx.Run Tryd.prog Tryd.f22 vars (.tup [.int .i64 r.1, .int .i64 r.2]) [] (.code body22 (Go.Sx.startA [.int .i64 x, .int .i64 y] Tryd.f22) (Go.Sx.laidHeap vars)) := by
  exact Go.Sx.wpS_run (L := vars) (by kernel_rfl) (form22 n x y (.tup [.int .i64 r.1, .int .i64 r.2])) ((fun h => ⟨fact14 (x), (Go.Sx.br_of (fun h0 => (fun h => by cases h; rfl)) (fun h0 => (fun h => ⟨fact14 (y), (Go.Sx.br_of (fun h1 => (fun h => by cases h; rfl)) (fun h1 => (fun h => ⟨fact14 (Go.Sx.wrapA Go.IntKind.i64 (Int.sub x y)), (Go.Sx.br_of (fun h2 => (fun h => by cases h; rfl)) (fun h2 => (fun h => by cases h; rfl))) h⟩))) h⟩))) h⟩) h)
noncomputable def F22_0 (x : Int) (y : Int) : Int := ((F22 x y).getD default).1
noncomputable def F22_1 (x : Int) (y : Int) : Int := ((F22 x y).getD default).2
theorem F22_some (x : Int) (y : Int) : (F22 x y).isSome = true := by
  unfold F22
  repeat' (first | rfl | apply Go.Sx.some_br)
theorem fact22 (x : Int) (y : Int) : Go.Sx.Fact Tryd.prog vars 22 [.int .i64 x, .int .i64 y] (.tup [.int .i64 (F22_0 x y), .int .i64 (F22_1 x y)]) := Go.Sx.fact_of_run okayed (by kernel_rfl) (by kernel_rfl) (by kernel_rfl) Tryd.func22 body22_eq (run22 0 x y ((F22 x y).getD default) (Go.Sx.getD_some (F22_some x y)))
noncomputable def body24 : Go.Code := (Tryd.f24.body).getD .skip
theorem body24_eq : Tryd.f24.body = some body24 := Go.Sx.some_getD (by kernel_rfl)
noncomputable def t24_0 (x : Int) (y : Int) : Int := (Int.fdiv (Go.Sx.wrapA Go.IntKind.i64 (Int.add (Go.Sx.wrapA Go.IntKind.i64 (Int.mul x y)) 32768)) (65536))
noncomputable def F24 (x : Int) (y : Int) : Option (Int × Int) := (bif (!F14_0 x) then (some (0, 2)) else (bif (!F14_0 y) then (some (0, 2)) else (bif (!F14_0 (t24_0 x y)) then (some (0, 25)) else (some ((t24_0 x y), 0)))))
theorem form24 (n : Nat) (x : Int) (y : Int) (vz : Go.Sx.AV) : Go.Sx.wpS Tryd.prog Tryd.f24 vars vz (.st [0, 0, 2, 2, 0, 0, 0, 0, 2, 2, 0, 0, 0, 2, 2, 0, 0, 0, 0, 0, 2] (.use (.bool (F14_0 x)) (.st [2, 2] (.br 12 (.st [2, 2, 2, 2, 0, 0, 0, 0, 0, 2, 2, 0, 0, 2, 0, 0, 2, 2, 2, 2, 0, 0, 2] .ans) (.st [2] (.use (.bool (F14_0 y)) (.st [2, 2, 0, 0] (.br 16 (.st [0, 0, 0, 2, 2, 0, 0, 2, 0, 0, 2, 2, 2, 2, 0, 0, 2] .ans) (.st [0, 2, 0, 0, 0, 2, 2, 2, 0, 0, 0, 2, 0, 0, 0, 0, 2, 2, 2, 2, 2, 2, 0, 0, 2, 0, 2, 0, 0, 0, 0, 0, 2] (.use (.bool (F14_0 (t24_0 x y))) (.st [2, 0, 0] (.br 23 (.st [0, 0, 0, 2, 2, 0, 0, 2, 0, 0, 2, 2, 2, 2, 0, 0, 2] .ans) (.st [0, 2, 0, 0, 0, 2, 2, 2, 0, 0, 2, 0, 2, 2, 2, 2, 0, 0, 2] .ans))))))))))))) [] (.code body24 (Go.Sx.startA [.int .i64 x, .int .i64 y] Tryd.f24) (Go.Sx.laidHeap vars)) = (Go.Sx.Fact Tryd.prog vars 14 [.int .i64 (x)] (.bool (F14_0 x)) ∧ (Go.Sx.BR (!F14_0 x) (vz = .tup [.int .i64 (.ofNat 0), .int .i64 (.ofNat 2)]) (Go.Sx.Fact Tryd.prog vars 14 [.int .i64 (y)] (.bool (F14_0 y)) ∧ (Go.Sx.BR (!F14_0 y) (vz = .tup [.int .i64 (.ofNat 0), .int .i64 (.ofNat 2)]) (Go.Sx.Fact Tryd.prog vars 14 [.int .i64 (t24_0 x y)] (.bool (F14_0 (t24_0 x y))) ∧ (Go.Sx.BR (!F14_0 (t24_0 x y)) (vz = .tup [.int .i64 (.ofNat 0), .int .i64 (.ofNat 25)]) (vz = .tup [.int .i64 (t24_0 x y), .int .i64 (.ofNat 0)]))))))) := by kernel_rfl
theorem run24 (n : Nat) (x : Int) (y : Int) (r : Int × Int) (h : F24 x y = some r) : Go.Sx.Run Tryd.prog Tryd.f24 vars (.tup [.int .i64 r.1, .int .i64 r.2]) [] (.code body24 (Go.Sx.startA [.int .i64 x, .int .i64 y] Tryd.f24) (Go.Sx.laidHeap vars)) := by
  exact Go.Sx.wpS_run (L := vars) (by kernel_rfl) (form24 n x y (.tup [.int .i64 r.1, .int .i64 r.2])) ((fun h => ⟨fact14 (x), (Go.Sx.br_of (fun h0 => (fun h => by cases h; rfl)) (fun h0 => (fun h => ⟨fact14 (y), (Go.Sx.br_of (fun h1 => (fun h => by cases h; rfl)) (fun h1 => (fun h => ⟨fact14 (t24_0 x y), (Go.Sx.br_of (fun h2 => (fun h => by cases h; rfl)) (fun h2 => (fun h => by cases h; rfl))) h⟩))) h⟩))) h⟩) h)
noncomputable def F24_0 (x : Int) (y : Int) : Int := ((F24 x y).getD default).1
noncomputable def F24_1 (x : Int) (y : Int) : Int := ((F24 x y).getD default).2
theorem F24_some (x : Int) (y : Int) : (F24 x y).isSome = true := by
  unfold F24
  repeat' (first | rfl | apply Go.Sx.some_br)
theorem fact24 (x : Int) (y : Int) : Go.Sx.Fact Tryd.prog vars 24 [.int .i64 x, .int .i64 y] (.tup [.int .i64 (F24_0 x y), .int .i64 (F24_1 x y)]) := Go.Sx.fact_of_run okayed (by kernel_rfl) (by kernel_rfl) (by kernel_rfl) Tryd.func24 body24_eq (run24 0 x y ((F24 x y).getD default) (Go.Sx.getD_some (F24_some x y)))
noncomputable def body52 : Go.Code := (Tryd.f52.body).getD .skip
theorem body52_eq : Tryd.f52.body = some body52 := Go.Sx.some_getD (by kernel_rfl)
noncomputable def F52 (x : Int) (y : Int) : Option (Int) := (bif (!Go.Sx.eqI y 0) then (bif (Go.Sx.ltI (Int.tmod x y) 0) then (some (Go.Sx.wrapA Go.IntKind.i64 (Int.sub (Go.Sx.wrapA Go.IntKind.i64 (Int.tdiv x y)) 1))) else (some (Go.Sx.wrapA Go.IntKind.i64 (Int.tdiv x y)))) else none)
theorem form52 (n : Nat) (x : Int) (y : Int) (vz : Go.Sx.AV) : Go.Sx.wpS Tryd.prog Tryd.f52 vars vz (.st [0, 0, 2, 0, 0, 0, 0, 2, 2] (.sp 2 (.st [2, 0, 0, 0, 0, 0, 2, 2] (.sp 2 (.st [2, 0, 0] (.br 12 (.st [0, 0, 2, 2, 2, 0, 0, 0, 0, 2, 2, 0, 0, 2] .ans) (.st [0, 2, 0, 0, 0, 2, 2, 0, 0, 2] .ans))))))) [] (.code body52 (Go.Sx.startA [.int .i64 x, .int .i64 y] Tryd.f52) (Go.Sx.laidHeap vars)) = (Go.Sx.AN (!Go.Sx.eqI y 0) (Go.Sx.AN (!Go.Sx.eqI y 0) (Go.Sx.BR (Go.Sx.ltI (Int.tmod x y) 0) (vz = .int .i64 (Go.Sx.wrapA Go.IntKind.i64 (Int.sub (Go.Sx.wrapA Go.IntKind.i64 (Int.tdiv x y)) 1))) (vz = .int .i64 (Go.Sx.wrapA Go.IntKind.i64 (Int.tdiv x y)))))) := by kernel_rfl
theorem run52 (n : Nat) (x : Int) (y : Int) (r : Int) (h : F52 x y = some r) : Go.Sx.Run Tryd.prog Tryd.f52 vars (.int .i64 r) [] (.code body52 (Go.Sx.startA [.int .i64 x, .int .i64 y] Tryd.f52) (Go.Sx.laidHeap vars)) := by
  exact Go.Sx.wpS_run (L := vars) (by kernel_rfl) (form52 n x y (.int .i64 r)) ((Go.Sx.guard_of fun h0 => (fun h => ⟨h0, (fun h => ⟨h0, (Go.Sx.br_of (fun h1 => (fun h => by cases h; rfl)) (fun h1 => (fun h => by cases h; rfl))) h⟩) h⟩)) h)
noncomputable def F52_0 (x : Int) (y : Int) : Int := ((F52 x y).getD default)
theorem fact52 (x : Int) (y : Int) (h : (F52 x y).isSome = true) : Go.Sx.Fact Tryd.prog vars 52 [.int .i64 x, .int .i64 y] (.int .i64 (F52_0 x y)) := Go.Sx.fact_of_run okayed (by kernel_rfl) (by kernel_rfl) (by kernel_rfl) Tryd.func52 body52_eq (run52 0 x y ((F52 x y).getD default) (Go.Sx.getD_some h))
noncomputable def body26 : Go.Code := (Tryd.f26.body).getD .skip
theorem body26_eq : Tryd.f26.body = some body26 := Go.Sx.some_getD (by kernel_rfl)
noncomputable def t26_0 (x : Int) (y : Int) : Int := (Go.Sx.wrapA Go.IntKind.i64 (Int.add (Go.Sx.wrapA Go.IntKind.i64 (Int.mul (Go.Sx.wrapA Go.IntKind.i64 (Int.mul 2 (Go.IntKind.wrap Go.IntKind.i64 (0 - x)))) 65536)) (Go.IntKind.wrap Go.IntKind.i64 (0 - y))))
noncomputable def t26_1 (y : Int) : Int := (Go.Sx.wrapA Go.IntKind.i64 (Int.mul 2 (Go.IntKind.wrap Go.IntKind.i64 (0 - y))))
noncomputable def t26_2 (x : Int) (y : Int) : Int := (Go.Sx.wrapA Go.IntKind.i64 (Int.add (Go.Sx.wrapA Go.IntKind.i64 (Int.mul (Go.Sx.wrapA Go.IntKind.i64 (Int.mul 2 x)) 65536)) y))
noncomputable def F26 (x : Int) (y : Int) : Option (Int × Int) := (bif (Go.Sx.eqI y 0) then (bif (F14_0 x) then (some (0, 25)) else (some (0, 2))) else (bif (!F14_0 x) then (some (0, 2)) else (bif (!F14_0 y) then (some (0, 2)) else (bif (Go.Sx.ltI y 0) then (bif (Option.isSome (F52 (t26_0 x y) (t26_1 y))) then (bif (!F14_0 (F52_0 (t26_0 x y) (t26_1 y))) then (some (0, 25)) else (some ((F52_0 (t26_0 x y) (t26_1 y)), 0))) else none) else (bif (Option.isSome (F52 (t26_2 x y) (Go.Sx.wrapA Go.IntKind.i64 (Int.mul 2 y)))) then (bif (!F14_0 (F52_0 (t26_2 x y) (Go.Sx.wrapA Go.IntKind.i64 (Int.mul 2 y)))) then (some (0, 25)) else (some ((F52_0 (t26_2 x y) (Go.Sx.wrapA Go.IntKind.i64 (Int.mul 2 y))), 0))) else none)))))
theorem form26 (n : Nat) (x : Int) (y : Int) (vz : Go.Sx.AV) : Go.Sx.wpS Tryd.prog Tryd.f26 vars vz (.st [0, 0, 2, 2, 0, 0, 0, 0, 0, 2, 2, 2] (.br 8 (.st [2] (.use (.bool (F14_0 x)) (.st [2, 0, 0] (.br 11 (.st [0, 0, 0, 2, 2, 0, 0, 2, 0] .ans) (.st [0, 2, 0, 0, 0, 2, 2, 0, 0, 0, 2, 2, 0, 0, 0, 0, 0, 2] (.use (.bool (F14_0 x)) (.st [2, 2] (.br 12 (.st [2, 2, 2, 2, 0, 0, 0, 0, 0, 2, 2, 0, 0, 2, 0, 0, 2, 2, 2, 2, 0, 0, 2] .ans) .dead)))))))) (.st [2, 2, 2, 0, 0, 0, 2, 0, 0, 0, 2, 2, 0, 0, 0, 2, 2, 0, 0, 0, 0, 0, 2] (.use (.bool (F14_0 x)) (.st [2, 2] (.br 12 (.st [2, 2, 2, 2, 0, 0, 0, 0, 0, 2, 2, 0, 0, 2, 0, 0, 2, 2, 2, 2, 0, 0, 2] .ans) (.st [2] (.use (.bool (F14_0 y)) (.st [2, 2, 0, 0] (.br 16 (.st [0, 0, 0, 2, 2, 0, 0, 2, 0, 0, 2, 2, 2, 2, 0, 0, 2] .ans) (.st [0, 2, 0, 0, 0, 2, 2, 2, 0, 0, 0, 2, 0, 0, 0, 0, 0, 2, 2, 0, 0] (.br 6 (.st [0, 0, 2, 2, 2, 2, 2, 2, 0, 0, 0, 0, 2, 2, 2, 2, 2, 2, 2] (.use (.int .i64 (F52_0 (t26_0 x y) (t26_1 y))) (.st [2, 0, 0, 2, 0, 2, 0, 0, 0, 0, 0, 2] (.use (.bool (F14_0 (F52_0 (t26_0 x y) (t26_1 y)))) (.st [2, 0, 0] (.br 23 (.st [0, 0, 0, 2, 2, 0, 0, 2, 0, 0, 2, 2, 2, 2, 0, 0, 2] .ans) (.st [0, 2, 0, 0, 0, 2, 2, 2, 0, 0, 2, 0, 2, 2, 2, 2, 0, 0, 2] .ans))))))) (.st [0, 2, 0, 0, 0, 2, 2, 2, 2, 2, 2, 2] (.use (.int .i64 (F52_0 (t26_2 x y) (Go.Sx.wrapA Go.IntKind.i64 (Int.mul 2 y)))) (.st [2, 0, 0, 2, 0, 2, 0, 0, 0, 0, 0, 2] (.use (.bool (F14_0 (F52_0 (t26_2 x y) (Go.Sx.wrapA Go.IntKind.i64 (Int.mul 2 y))))) (.st [2, 0, 0] (.br 23 (.st [0, 0, 0, 2, 2, 0, 0, 2, 0, 0, 2, 2, 2, 2, 0, 0, 2] .ans) (.st [0, 2, 0, 0, 0, 2, 2, 2, 0, 0, 2, 0, 2, 2, 2, 2, 0, 0, 2] .ans))))))))))))))))))) [] (.code body26 (Go.Sx.startA [.int .i64 x, .int .i64 y] Tryd.f26) (Go.Sx.laidHeap vars)) = (Go.Sx.BR (Go.Sx.eqI y 0) (Go.Sx.Fact Tryd.prog vars 14 [.int .i64 (x)] (.bool (F14_0 x)) ∧ (Go.Sx.BR (F14_0 x) (vz = .tup [.int .i64 (.ofNat 0), .int .i64 (.ofNat 25)]) (Go.Sx.Fact Tryd.prog vars 14 [.int .i64 (x)] (.bool (F14_0 x)) ∧ (Go.Sx.BR (!F14_0 x) (vz = .tup [.int .i64 (.ofNat 0), .int .i64 (.ofNat 2)]) False)))) (Go.Sx.Fact Tryd.prog vars 14 [.int .i64 (x)] (.bool (F14_0 x)) ∧ (Go.Sx.BR (!F14_0 x) (vz = .tup [.int .i64 (.ofNat 0), .int .i64 (.ofNat 2)]) (Go.Sx.Fact Tryd.prog vars 14 [.int .i64 (y)] (.bool (F14_0 y)) ∧ (Go.Sx.BR (!F14_0 y) (vz = .tup [.int .i64 (.ofNat 0), .int .i64 (.ofNat 2)]) (Go.Sx.BR (Go.Sx.ltI y 0) (Go.Sx.Fact Tryd.prog vars 52 [.int .i64 (t26_0 x y), .int .i64 (t26_1 y)] (.int .i64 (F52_0 (t26_0 x y) (t26_1 y))) ∧ (Go.Sx.Fact Tryd.prog vars 14 [.int .i64 (F52_0 (t26_0 x y) (t26_1 y))] (.bool (F14_0 (F52_0 (t26_0 x y) (t26_1 y)))) ∧ (Go.Sx.BR (!F14_0 (F52_0 (t26_0 x y) (t26_1 y))) (vz = .tup [.int .i64 (.ofNat 0), .int .i64 (.ofNat 25)]) (vz = .tup [.int .i64 (F52_0 (t26_0 x y) (t26_1 y)), .int .i64 (.ofNat 0)])))) (Go.Sx.Fact Tryd.prog vars 52 [.int .i64 (t26_2 x y), .int .i64 (Go.Sx.wrapA Go.IntKind.i64 (Int.mul 2 y))] (.int .i64 (F52_0 (t26_2 x y) (Go.Sx.wrapA Go.IntKind.i64 (Int.mul 2 y)))) ∧ (Go.Sx.Fact Tryd.prog vars 14 [.int .i64 (F52_0 (t26_2 x y) (Go.Sx.wrapA Go.IntKind.i64 (Int.mul 2 y)))] (.bool (F14_0 (F52_0 (t26_2 x y) (Go.Sx.wrapA Go.IntKind.i64 (Int.mul 2 y))))) ∧ (Go.Sx.BR (!F14_0 (F52_0 (t26_2 x y) (Go.Sx.wrapA Go.IntKind.i64 (Int.mul 2 y)))) (vz = .tup [.int .i64 (.ofNat 0), .int .i64 (.ofNat 25)]) (vz = .tup [.int .i64 (F52_0 (t26_2 x y) (Go.Sx.wrapA Go.IntKind.i64 (Int.mul 2 y))), .int .i64 (.ofNat 0)])))))))))) := by kernel_rfl
theorem run26 (n : Nat) (x : Int) (y : Int) (r : Int × Int) (h : F26 x y = some r) : Go.Sx.Run Tryd.prog Tryd.f26 vars (.tup [.int .i64 r.1, .int .i64 r.2]) [] (.code body26 (Go.Sx.startA [.int .i64 x, .int .i64 y] Tryd.f26) (Go.Sx.laidHeap vars)) := by
  exact Go.Sx.wpS_run (L := vars) (by kernel_rfl) (form26 n x y (.tup [.int .i64 r.1, .int .i64 r.2])) ((Go.Sx.br_of (fun h0 => (fun h => ⟨fact14 (x), (Go.Sx.br_of (fun h1 => (fun h => by cases h; rfl)) (fun h1 => (fun h => ⟨fact14 (x), (fun h => ⟨fun _ => (fun h => by cases h; rfl) h, fun q => Go.Sx.tf (Go.Sx.not_t h1) q⟩) h⟩))) h⟩)) (fun h0 => (fun h => ⟨fact14 (x), (Go.Sx.br_of (fun h2 => (fun h => by cases h; rfl)) (fun h2 => (fun h => ⟨fact14 (y), (Go.Sx.br_of (fun h3 => (fun h => by cases h; rfl)) (fun h3 => (Go.Sx.br_of (fun h4 => (Go.Sx.guard_of fun h5 => (fun h => ⟨fact52 (t26_0 x y) (t26_1 y) h5, (fun h => ⟨fact14 (F52_0 (t26_0 x y) (t26_1 y)), (Go.Sx.br_of (fun h6 => (fun h => by cases h; rfl)) (fun h6 => (fun h => by cases h; rfl))) h⟩) h⟩))) (fun h4 => (Go.Sx.guard_of fun h7 => (fun h => ⟨fact52 (t26_2 x y) (Go.Sx.wrapA Go.IntKind.i64 (Int.mul 2 y)) h7, (fun h => ⟨fact14 (F52_0 (t26_2 x y) (Go.Sx.wrapA Go.IntKind.i64 (Int.mul 2 y))), (Go.Sx.br_of (fun h8 => (fun h => by cases h; rfl)) (fun h8 => (fun h => by cases h; rfl))) h⟩) h⟩)))))) h⟩))) h⟩))) h)
noncomputable def F26_0 (x : Int) (y : Int) : Int := ((F26 x y).getD default).1
noncomputable def F26_1 (x : Int) (y : Int) : Int := ((F26 x y).getD default).2
theorem fact26 (x : Int) (y : Int) (h : (F26 x y).isSome = true) : Go.Sx.Fact Tryd.prog vars 26 [.int .i64 x, .int .i64 y] (.tup [.int .i64 (F26_0 x y), .int .i64 (F26_1 x y)]) := Go.Sx.fact_of_run okayed (by kernel_rfl) (by kernel_rfl) (by kernel_rfl) Tryd.func26 body26_eq (run26 0 x y ((F26 x y).getD default) (Go.Sx.getD_some h))
noncomputable def body41 : Go.Code := (Tryd.f41.body).getD .skip
theorem body41_eq : Tryd.f41.body = some body41 := Go.Sx.some_getD (by kernel_rfl)
noncomputable def F41 (x : Int) : Option (Int) := (some (Int.tmod x 2147483649))
theorem form41 (n : Nat) (x : Int) (vz : Go.Sx.AV) : Go.Sx.wpS Tryd.prog Tryd.f41 vars vz (.st [0, 0, 2, 0, 0, 0, 0, 2, 2, 2, 0, 0, 2] .ans) [] (.code body41 (Go.Sx.startA [.int .i64 x] Tryd.f41) (Go.Sx.laidHeap vars)) = (vz = .int .i64 (Int.tmod x 2147483649)) := by kernel_rfl
theorem run41 (n : Nat) (x : Int) (r : Int) (h : F41 x = some r) : Go.Sx.Run Tryd.prog Tryd.f41 vars (.int .i64 r) [] (.code body41 (Go.Sx.startA [.int .i64 x] Tryd.f41) (Go.Sx.laidHeap vars)) := by
  exact Go.Sx.wpS_run (L := vars) (by kernel_rfl) (form41 n x (.int .i64 r)) ((fun h => by cases h; rfl) h)
noncomputable def F41_0 (x : Int) : Int := ((F41 x).getD default)
theorem F41_some (x : Int) : (F41 x).isSome = true := by
  unfold F41
  repeat' (first | rfl | apply Go.Sx.some_br)
theorem fact41 (x : Int) : Go.Sx.Fact Tryd.prog vars 41 [.int .i64 x] (.int .i64 (F41_0 x)) := Go.Sx.fact_of_run okayed (by kernel_rfl) (by kernel_rfl) (by kernel_rfl) Tryd.func41 body41_eq (run41 0 x ((F41 x).getD default) (Go.Sx.getD_some (F41_some x)))
noncomputable def body10 : Go.Code := (Tryd.f10.body).getD .skip
theorem body10_eq : Tryd.f10.body = some body10 := Go.Sx.some_getD (by kernel_rfl)
set_option maxRecDepth 1000000 in
theorem ran10 : Go.Sx.endB Tryd.prog Tryd.f10 (Go.Sx.go Tryd.prog 100000 vars (Go.Sx.script [1]) [] (.code body10 (Go.Sx.startA [] Tryd.f10) (Go.Sx.laidHeap vars))) = true := by kernel_rfl
theorem fact10 : Go.Sx.Fact Tryd.prog vars 10 [] (.bool true) := Go.Sx.fact_of_run okayed (by kernel_rfl) (by kernel_rfl) (by kernel_rfl) Tryd.func10 body10_eq (Go.Sx.run_end ran10)
noncomputable def body8 : Go.Code := (Tryd.f8.body).getD .skip
theorem body8_eq : Tryd.f8.body = some body8 := Go.Sx.some_getD (by kernel_rfl)
noncomputable def c8_0 (a0 : Int) : Bool := (Go.Sx.eqI (F19_0 (F41_0 a0)) (Go.IntKind.wrap Go.IntKind.i64 (0 - F41_0 a0)))
noncomputable def F8 (a0 : Int) (a1 : Int) : Option (Bool) := (bif (!Go.Sx.eqI (F20_0 (F41_0 a0) (F41_0 a1)) (F20_0 (F41_0 a1) (F41_0 a0))) then (some false) else (bif (!Go.Sx.eqI (F20_1 (F41_0 a0) (F41_0 a1)) (F20_1 (F41_0 a1) (F41_0 a0))) then (some false) else (bif (Go.Sx.eqI (F20_1 (F41_0 a0) (F41_0 a1)) 0) then (bif (!Go.Sx.eqI (F22_1 (F20_0 (F41_0 a0) (F41_0 a1)) (F41_0 a1)) 0) then (some false) else (bif (!Go.Sx.eqI (F22_0 (F20_0 (F41_0 a0) (F41_0 a1)) (F41_0 a1)) (F41_0 a0)) then (some false) else (bif (!Go.Sx.eqI (F24_0 (F41_0 a0) (F41_0 a1)) (F24_0 (F41_0 a1) (F41_0 a0))) then (some false) else (bif (!Go.Sx.eqI (F24_1 (F41_0 a0) (F41_0 a1)) (F24_1 (F41_0 a1) (F41_0 a0))) then (some false) else (bif (Option.isSome (F26 (F41_0 a0) 65536)) then (bif (Go.Sx.eqI (F24_1 (F41_0 a0) (65536)) 0) then (bif (Go.Sx.eqI (F24_0 (F41_0 a0) (65536)) (F41_0 a0)) then (bif (Go.Sx.eqI (F26_1 (F41_0 a0) (65536)) 0) then (bif (Go.Sx.eqI (F26_0 (F41_0 a0) (65536)) (F41_0 a0)) then (bif (Go.Sx.eqI (F19_1 (F41_0 a0)) 0) then (bif (Go.Sx.eqI (F19_1 (F19_0 (F41_0 a0))) 0) then (bif (Go.Sx.eqI (F19_0 (F19_0 (F41_0 a0))) (F41_0 a0)) then (some (c8_0 a0)) else (some false)) else (some false)) else (some false)) else (some false)) else (some false)) else (some false)) else (some false)) else none))))) else (bif (!Go.Sx.eqI (F24_0 (F41_0 a0) (F41_0 a1)) (F24_0 (F41_0 a1) (F41_0 a0))) then (some false) else (bif (!Go.Sx.eqI (F24_1 (F41_0 a0) (F41_0 a1)) (F24_1 (F41_0 a1) (F41_0 a0))) then (some false) else (bif (Option.isSome (F26 (F41_0 a0) 65536)) then (bif (Go.Sx.eqI (F24_1 (F41_0 a0) (65536)) 0) then (bif (Go.Sx.eqI (F24_0 (F41_0 a0) (65536)) (F41_0 a0)) then (bif (Go.Sx.eqI (F26_1 (F41_0 a0) (65536)) 0) then (bif (Go.Sx.eqI (F26_0 (F41_0 a0) (65536)) (F41_0 a0)) then (bif (Go.Sx.eqI (F19_1 (F41_0 a0)) 0) then (bif (Go.Sx.eqI (F19_1 (F19_0 (F41_0 a0))) 0) then (bif (Go.Sx.eqI (F19_0 (F19_0 (F41_0 a0))) (F41_0 a0)) then (some (c8_0 a0)) else (some false)) else (some false)) else (some false)) else (some false)) else (some false)) else (some false)) else (some false)) else none))))))
theorem form8 (n : Nat) (a0 : Int) (a1 : Int) (vz : Go.Sx.AV) : Go.Sx.wpS Tryd.prog Tryd.f8 vars vz (.st [0, 0, 2, 0, 0, 0, 0, 0] (.use (.bool true) (.st [2, 0, 0, 0, 2, 0, 0, 0, 2] (.use (.int .i64 (F41_0 a0)) (.st [2] (.use (.int .i64 (F41_0 a1)) (.st [2, 2, 0, 0, 0, 0, 2, 2] (.use (.tup [.int .i64 (F20_0 (F41_0 a0) (F41_0 a1)), .int .i64 (F20_1 (F41_0 a0) (F41_0 a1))]) (.st [2, 2, 2, 2, 2, 0, 0, 0, 0, 2, 2] (.use (.tup [.int .i64 (F20_0 (F41_0 a1) (F41_0 a0)), .int .i64 (F20_1 (F41_0 a1) (F41_0 a0))]) (.st [2, 2, 2, 2, 2, 0, 0, 0, 0, 0, 2, 2, 2, 2] (.br 44 (.st [2, 2, 2, 2, 0, 0, 0, 0, 0, 2, 0, 0, 2, 0] .ans) (.st [2, 2, 2, 2, 0, 0] (.br 48 (.st [0, 0, 0, 2, 0, 0, 2, 0] .ans) (.st [0, 2, 0, 0, 0, 0, 2, 2, 0, 0] (.br 50 (.st [0, 0, 0, 2, 2] (.use (.tup [.int .i64 (F22_0 (F20_0 (F41_0 a0) (F41_0 a1)) (F41_0 a1)), .int .i64 (F22_1 (F20_0 (F41_0 a0) (F41_0 a1)) (F41_0 a1))]) (.st [2, 2, 2, 2, 2, 0, 0, 0, 0, 2, 2, 2] (.br 59 (.st [2, 2, 2, 2, 0, 0, 0, 0, 0, 2, 0, 0, 2, 0] .ans) (.st [2, 2, 2, 2, 0, 0] (.br 63 (.st [0, 0, 0, 2, 0, 0, 2, 0] .ans) (.st [0, 2, 0, 0, 0, 2, 2] (.use (.tup [.int .i64 (F24_0 (F41_0 a0) (F41_0 a1)), .int .i64 (F24_1 (F41_0 a0) (F41_0 a1))]) (.st [2, 2, 2, 2, 2, 0, 0, 0, 0, 2, 2] (.use (.tup [.int .i64 (F24_0 (F41_0 a1) (F41_0 a0)), .int .i64 (F24_1 (F41_0 a1) (F41_0 a0))]) (.st [2, 2, 2, 2, 2, 0, 0, 0, 0, 0, 2, 2, 2, 2] (.br 79 (.st [2, 2, 2, 2, 0, 0, 0, 0, 0, 2, 0, 0, 2, 0] .ans) (.st [2, 2, 2, 2, 0, 0] (.br 83 (.st [0, 0, 0, 2, 0, 0, 2, 0] .ans) (.st [0, 2, 0, 0, 0, 2] (.use (.tup [.int .i64 (F24_0 (F41_0 a0) (Int.ofNat 65536)), .int .i64 (F24_1 (F41_0 a0) (Int.ofNat 65536))]) (.st [2, 2, 2, 2, 2, 0, 0, 0, 0, 2] (.use (.tup [.int .i64 (F26_0 (F41_0 a0) (Int.ofNat 65536)), .int .i64 (F26_1 (F41_0 a0) (Int.ofNat 65536))]) (.st [2, 2, 2, 2, 2, 0, 0, 0, 0, 2] (.use (.tup [.int .i64 (F19_0 (F41_0 a0)), .int .i64 (F19_1 (F41_0 a0))]) (.st [2, 2, 2, 2, 2, 0, 0, 0, 0, 2] (.use (.tup [.int .i64 (F19_0 (F19_0 (F41_0 a0))), .int .i64 (F19_1 (F19_0 (F41_0 a0)))]) (.st [2, 2, 2, 2, 2, 0, 0, 0, 0, 2, 2, 2] (.br 106 (.st [2, 2, 2, 2, 2] (.br 111 (.st [2, 2, 2, 2] (.br 115 (.st [2, 2, 2, 2, 2] (.br 120 (.st [2, 2, 2, 2] (.br 124 (.st [2, 2, 2, 2] (.br 128 (.st [2, 2, 2, 2, 2] (.br 133 (.st [2, 2, 2, 2, 2, 2, 0, 0, 2] .ans) (.st [2, 2, 2, 2, 2, 2, 0, 0, 2] .ans))) (.st [2, 2, 2, 2, 2, 2, 2, 2, 2, 2, 2, 0, 0, 2] .ans))) (.st [2, 2, 2, 2, 2, 2, 2, 2, 2, 2, 2, 2, 2, 2, 2, 0, 0, 2] .ans))) (.st [2, 2, 2, 2, 2, 2, 2, 2, 2, 2, 2, 2, 2, 2, 2, 2, 2, 2, 2, 0, 0, 2] .ans))) (.st [2, 2, 2, 2, 2, 2, 2, 2, 2, 2, 2, 2, 2, 2, 2, 2, 2, 2, 2, 2, 2, 2, 2, 2, 0, 0, 2] .ans))) (.st [2, 2, 2, 2, 2, 2, 2, 2, 2, 2, 2, 2, 2, 2, 2, 2, 2, 2, 2, 2, 2, 2, 2, 2, 2, 2, 2, 2, 0, 0, 2] .ans))) (.st [2, 2, 2, 2, 2, 2, 2, 2, 2, 2, 2, 2, 2, 2, 2, 2, 2, 2, 2, 2, 2, 2, 2, 2, 2, 2, 2, 2, 2, 2, 2, 2, 2, 0, 0, 2] .ans))))))))))))))))))))))))) (.st [0, 2, 0, 0, 0, 2, 2] (.use (.tup [.int .i64 (F24_0 (F41_0 a0) (F41_0 a1)), .int .i64 (F24_1 (F41_0 a0) (F41_0 a1))]) (.st [2, 2, 2, 2, 2, 0, 0, 0, 0, 2, 2] (.use (.tup [.int .i64 (F24_0 (F41_0 a1) (F41_0 a0)), .int .i64 (F24_1 (F41_0 a1) (F41_0 a0))]) (.st [2, 2, 2, 2, 2, 0, 0, 0, 0, 0, 2, 2, 2, 2] (.br 79 (.st [2, 2, 2, 2, 0, 0, 0, 0, 0, 2, 0, 0, 2, 0] .ans) (.st [2, 2, 2, 2, 0, 0] (.br 83 (.st [0, 0, 0, 2, 0, 0, 2, 0] .ans) (.st [0, 2, 0, 0, 0, 2] (.use (.tup [.int .i64 (F24_0 (F41_0 a0) (Int.ofNat 65536)), .int .i64 (F24_1 (F41_0 a0) (Int.ofNat 65536))]) (.st [2, 2, 2, 2, 2, 0, 0, 0, 0, 2] (.use (.tup [.int .i64 (F26_0 (F41_0 a0) (Int.ofNat 65536)), .int .i64 (F26_1 (F41_0 a0) (Int.ofNat 65536))]) (.st [2, 2, 2, 2, 2, 0, 0, 0, 0, 2] (.use (.tup [.int .i64 (F19_0 (F41_0 a0)), .int .i64 (F19_1 (F41_0 a0))]) (.st [2, 2, 2, 2, 2, 0, 0, 0, 0, 2] (.use (.tup [.int .i64 (F19_0 (F19_0 (F41_0 a0))), .int .i64 (F19_1 (F19_0 (F41_0 a0)))]) (.st [2, 2, 2, 2, 2, 0, 0, 0, 0, 2, 2, 2] (.br 106 (.st [2, 2, 2, 2, 2] (.br 111 (.st [2, 2, 2, 2] (.br 115 (.st [2, 2, 2, 2, 2] (.br 120 (.st [2, 2, 2, 2] (.br 124 (.st [2, 2, 2, 2] (.br 128 (.st [2, 2, 2, 2, 2] (.br 133 (.st [2, 2, 2, 2, 2, 2, 0, 0, 2] .ans) (.st [2, 2, 2, 2, 2, 2, 0, 0, 2] .ans))) (.st [2, 2, 2, 2, 2, 2, 2, 2, 2, 2, 2, 0, 0, 2] .ans))) (.st [2, 2, 2, 2, 2, 2, 2, 2, 2, 2, 2, 2, 2, 2, 2, 0, 0, 2] .ans))) (.st [2, 2, 2, 2, 2, 2, 2, 2, 2, 2, 2, 2, 2, 2, 2, 2, 2, 2, 2, 0, 0, 2] .ans))) (.st [2, 2, 2, 2, 2, 2, 2, 2, 2, 2, 2, 2, 2, 2, 2, 2, 2, 2, 2, 2, 2, 2, 2, 2, 0, 0, 2] .ans))) (.st [2, 2, 2, 2, 2, 2, 2, 2, 2, 2, 2, 2, 2, 2, 2, 2, 2, 2, 2, 2, 2, 2, 2, 2, 2, 2, 2, 2, 0, 0, 2] .ans))) (.st [2, 2, 2, 2, 2, 2, 2, 2, 2, 2, 2, 2, 2, 2, 2, 2, 2, 2, 2, 2, 2, 2, 2, 2, 2, 2, 2, 2, 2, 2, 2, 2, 2, 0, 0, 2] .ans))))))))))))))))))))))))))))))))))) [] (.code body8 (Go.Sx.startA [.int .i64 a0, .int .i64 a1] Tryd.f8) (Go.Sx.laidHeap vars)) = (Go.Sx.Fact Tryd.prog vars 10 [] (.bool true) ∧ (Go.Sx.Fact Tryd.prog vars 41 [.int .i64 (a0)] (.int .i64 (F41_0 a0)) ∧ (Go.Sx.Fact Tryd.prog vars 41 [.int .i64 (a1)] (.int .i64 (F41_0 a1)) ∧ (Go.Sx.Fact Tryd.prog vars 20 [.int .i64 (F41_0 a0), .int .i64 (F41_0 a1)] (.tup [.int .i64 (F20_0 (F41_0 a0) (F41_0 a1)), .int .i64 (F20_1 (F41_0 a0) (F41_0 a1))]) ∧ (Go.Sx.Fact Tryd.prog vars 20 [.int .i64 (F41_0 a1), .int .i64 (F41_0 a0)] (.tup [.int .i64 (F20_0 (F41_0 a1) (F41_0 a0)), .int .i64 (F20_1 (F41_0 a1) (F41_0 a0))]) ∧ (Go.Sx.BR (!Go.Sx.eqI (F20_0 (F41_0 a0) (F41_0 a1)) (F20_0 (F41_0 a1) (F41_0 a0))) (vz = .bool false) (Go.Sx.BR (!Go.Sx.eqI (F20_1 (F41_0 a0) (F41_0 a1)) (F20_1 (F41_0 a1) (F41_0 a0))) (vz = .bool false) (Go.Sx.BR (Go.Sx.eqI (F20_1 (F41_0 a0) (F41_0 a1)) 0) (Go.Sx.Fact Tryd.prog vars 22 [.int .i64 (F20_0 (F41_0 a0) (F41_0 a1)), .int .i64 (F41_0 a1)] (.tup [.int .i64 (F22_0 (F20_0 (F41_0 a0) (F41_0 a1)) (F41_0 a1)), .int .i64 (F22_1 (F20_0 (F41_0 a0) (F41_0 a1)) (F41_0 a1))]) ∧ (Go.Sx.BR (!Go.Sx.eqI (F22_1 (F20_0 (F41_0 a0) (F41_0 a1)) (F41_0 a1)) 0) (vz = .bool false) (Go.Sx.BR (!Go.Sx.eqI (F22_0 (F20_0 (F41_0 a0) (F41_0 a1)) (F41_0 a1)) (F41_0 a0)) (vz = .bool false) (Go.Sx.Fact Tryd.prog vars 24 [.int .i64 (F41_0 a0), .int .i64 (F41_0 a1)] (.tup [.int .i64 (F24_0 (F41_0 a0) (F41_0 a1)), .int .i64 (F24_1 (F41_0 a0) (F41_0 a1))]) ∧ (Go.Sx.Fact Tryd.prog vars 24 [.int .i64 (F41_0 a1), .int .i64 (F41_0 a0)] (.tup [.int .i64 (F24_0 (F41_0 a1) (F41_0 a0)), .int .i64 (F24_1 (F41_0 a1) (F41_0 a0))]) ∧ (Go.Sx.BR (!Go.Sx.eqI (F24_0 (F41_0 a0) (F41_0 a1)) (F24_0 (F41_0 a1) (F41_0 a0))) (vz = .bool false) (Go.Sx.BR (!Go.Sx.eqI (F24_1 (F41_0 a0) (F41_0 a1)) (F24_1 (F41_0 a1) (F41_0 a0))) (vz = .bool false) (Go.Sx.Fact Tryd.prog vars 24 [.int .i64 (F41_0 a0), .int .i64 (.ofNat 65536)] (.tup [.int .i64 (F24_0 (F41_0 a0) (Int.ofNat 65536)), .int .i64 (F24_1 (F41_0 a0) (Int.ofNat 65536))]) ∧ (Go.Sx.Fact Tryd.prog vars 26 [.int .i64 (F41_0 a0), .int .i64 (.ofNat 65536)] (.tup [.int .i64 (F26_0 (F41_0 a0) (Int.ofNat 65536)), .int .i64 (F26_1 (F41_0 a0) (Int.ofNat 65536))]) ∧ (Go.Sx.Fact Tryd.prog vars 19 [.int .i64 (F41_0 a0)] (.tup [.int .i64 (F19_0 (F41_0 a0)), .int .i64 (F19_1 (F41_0 a0))]) ∧ (Go.Sx.Fact Tryd.prog vars 19 [.int .i64 (F19_0 (F41_0 a0))] (.tup [.int .i64 (F19_0 (F19_0 (F41_0 a0))), .int .i64 (F19_1 (F19_0 (F41_0 a0)))]) ∧ (Go.Sx.BR (Go.Sx.eqI (F24_1 (F41_0 a0) (65536)) 0) (Go.Sx.BR (Go.Sx.eqI (F24_0 (F41_0 a0) (65536)) (F41_0 a0)) (Go.Sx.BR (Go.Sx.eqI (F26_1 (F41_0 a0) (65536)) 0) (Go.Sx.BR (Go.Sx.eqI (F26_0 (F41_0 a0) (65536)) (F41_0 a0)) (Go.Sx.BR (Go.Sx.eqI (F19_1 (F41_0 a0)) 0) (Go.Sx.BR (Go.Sx.eqI (F19_1 (F19_0 (F41_0 a0))) 0) (Go.Sx.BR (Go.Sx.eqI (F19_0 (F19_0 (F41_0 a0))) (F41_0 a0)) (vz = .bool (c8_0 a0)) (vz = .bool false)) (vz = .bool false)) (vz = .bool false)) (vz = .bool false)) (vz = .bool false)) (vz = .bool false)) (vz = .bool false))))))))))))) (Go.Sx.Fact Tryd.prog vars 24 [.int .i64 (F41_0 a0), .int .i64 (F41_0 a1)] (.tup [.int .i64 (F24_0 (F41_0 a0) (F41_0 a1)), .int .i64 (F24_1 (F41_0 a0) (F41_0 a1))]) ∧ (Go.Sx.Fact Tryd.prog vars 24 [.int .i64 (F41_0 a1), .int .i64 (F41_0 a0)] (.tup [.int .i64 (F24_0 (F41_0 a1) (F41_0 a0)), .int .i64 (F24_1 (F41_0 a1) (F41_0 a0))]) ∧ (Go.Sx.BR (!Go.Sx.eqI (F24_0 (F41_0 a0) (F41_0 a1)) (F24_0 (F41_0 a1) (F41_0 a0))) (vz = .bool false) (Go.Sx.BR (!Go.Sx.eqI (F24_1 (F41_0 a0) (F41_0 a1)) (F24_1 (F41_0 a1) (F41_0 a0))) (vz = .bool false) (Go.Sx.Fact Tryd.prog vars 24 [.int .i64 (F41_0 a0), .int .i64 (.ofNat 65536)] (.tup [.int .i64 (F24_0 (F41_0 a0) (Int.ofNat 65536)), .int .i64 (F24_1 (F41_0 a0) (Int.ofNat 65536))]) ∧ (Go.Sx.Fact Tryd.prog vars 26 [.int .i64 (F41_0 a0), .int .i64 (.ofNat 65536)] (.tup [.int .i64 (F26_0 (F41_0 a0) (Int.ofNat 65536)), .int .i64 (F26_1 (F41_0 a0) (Int.ofNat 65536))]) ∧ (Go.Sx.Fact Tryd.prog vars 19 [.int .i64 (F41_0 a0)] (.tup [.int .i64 (F19_0 (F41_0 a0)), .int .i64 (F19_1 (F41_0 a0))]) ∧ (Go.Sx.Fact Tryd.prog vars 19 [.int .i64 (F19_0 (F41_0 a0))] (.tup [.int .i64 (F19_0 (F19_0 (F41_0 a0))), .int .i64 (F19_1 (F19_0 (F41_0 a0)))]) ∧ (Go.Sx.BR (Go.Sx.eqI (F24_1 (F41_0 a0) (65536)) 0) (Go.Sx.BR (Go.Sx.eqI (F24_0 (F41_0 a0) (65536)) (F41_0 a0)) (Go.Sx.BR (Go.Sx.eqI (F26_1 (F41_0 a0) (65536)) 0) (Go.Sx.BR (Go.Sx.eqI (F26_0 (F41_0 a0) (65536)) (F41_0 a0)) (Go.Sx.BR (Go.Sx.eqI (F19_1 (F41_0 a0)) 0) (Go.Sx.BR (Go.Sx.eqI (F19_1 (F19_0 (F41_0 a0))) 0) (Go.Sx.BR (Go.Sx.eqI (F19_0 (F19_0 (F41_0 a0))) (F41_0 a0)) (vz = .bool (c8_0 a0)) (vz = .bool false)) (vz = .bool false)) (vz = .bool false)) (vz = .bool false)) (vz = .bool false)) (vz = .bool false)) (vz = .bool false)))))))))))))))))) := by kernel_rfl
theorem run8 (n : Nat) (a0 : Int) (a1 : Int) (r : Bool) (h : F8 a0 a1 = some r) : Go.Sx.Run Tryd.prog Tryd.f8 vars (.bool r) [] (.code body8 (Go.Sx.startA [.int .i64 a0, .int .i64 a1] Tryd.f8) (Go.Sx.laidHeap vars)) := by
  exact Go.Sx.wpS_run (L := vars) (by kernel_rfl) (form8 n a0 a1 (.bool r)) ((fun h => ⟨fact10 , (fun h => ⟨fact41 (a0), (fun h => ⟨fact41 (a1), (fun h => ⟨fact20 (F41_0 a0) (F41_0 a1), (fun h => ⟨fact20 (F41_0 a1) (F41_0 a0), (Go.Sx.br_of (fun h0 => (fun h => by cases h; rfl)) (fun h0 => (Go.Sx.br_of (fun h1 => (fun h => by cases h; rfl)) (fun h1 => (Go.Sx.br_of (fun h2 => (fun h => ⟨fact22 (F20_0 (F41_0 a0) (F41_0 a1)) (F41_0 a1), (Go.Sx.br_of (fun h3 => (fun h => by cases h; rfl)) (fun h3 => (Go.Sx.br_of (fun h4 => (fun h => by cases h; rfl)) (fun h4 => (fun h => ⟨fact24 (F41_0 a0) (F41_0 a1), (fun h => ⟨fact24 (F41_0 a1) (F41_0 a0), (Go.Sx.br_of (fun h5 => (fun h => by cases h; rfl)) (fun h5 => (Go.Sx.br_of (fun h6 => (fun h => by cases h; rfl)) (fun h6 => (fun h => ⟨fact24 (F41_0 a0) (65536), (Go.Sx.guard_of fun h7 => (fun h => ⟨fact26 (F41_0 a0) (65536) h7, (fun h => ⟨fact19 (F41_0 a0), (fun h => ⟨fact19 (F19_0 (F41_0 a0)), (Go.Sx.br_of (fun h8 => (Go.Sx.br_of (fun h9 => (Go.Sx.br_of (fun h10 => (Go.Sx.br_of (fun h11 => (Go.Sx.br_of (fun h12 => (Go.Sx.br_of (fun h13 => (Go.Sx.br_of (fun h14 => (fun h => by cases h; rfl)) (fun h14 => (fun h => by cases h; rfl)))) (fun h13 => (fun h => by cases h; rfl)))) (fun h12 => (fun h => by cases h; rfl)))) (fun h11 => (fun h => by cases h; rfl)))) (fun h10 => (fun h => by cases h; rfl)))) (fun h9 => (fun h => by cases h; rfl)))) (fun h8 => (fun h => by cases h; rfl))) h⟩) h⟩) h⟩)) h⟩))))) h⟩) h⟩))))) h⟩)) (fun h2 => (fun h => ⟨fact24 (F41_0 a0) (F41_0 a1), (fun h => ⟨fact24 (F41_0 a1) (F41_0 a0), (Go.Sx.br_of (fun h15 => (fun h => by cases h; rfl)) (fun h15 => (Go.Sx.br_of (fun h16 => (fun h => by cases h; rfl)) (fun h16 => (fun h => ⟨fact24 (F41_0 a0) (65536), (Go.Sx.guard_of fun h17 => (fun h => ⟨fact26 (F41_0 a0) (65536) h17, (fun h => ⟨fact19 (F41_0 a0), (fun h => ⟨fact19 (F19_0 (F41_0 a0)), (Go.Sx.br_of (fun h18 => (Go.Sx.br_of (fun h19 => (Go.Sx.br_of (fun h20 => (Go.Sx.br_of (fun h21 => (Go.Sx.br_of (fun h22 => (Go.Sx.br_of (fun h23 => (Go.Sx.br_of (fun h24 => (fun h => by cases h; rfl)) (fun h24 => (fun h => by cases h; rfl)))) (fun h23 => (fun h => by cases h; rfl)))) (fun h22 => (fun h => by cases h; rfl)))) (fun h21 => (fun h => by cases h; rfl)))) (fun h20 => (fun h => by cases h; rfl)))) (fun h19 => (fun h => by cases h; rfl)))) (fun h18 => (fun h => by cases h; rfl))) h⟩) h⟩) h⟩)) h⟩))))) h⟩) h⟩))))))) h⟩) h⟩) h⟩) h⟩) h⟩) h)


theorem F14_0_t (x : Int) : (F14_0 x = true) = (-2147483648 ≤ x ∧ x ≤ 2147483648) := by
  simp only [F14_0, F14, condI, nneg_n, ltI_f]
  by_cases h : -2147483648 ≤ x
  · simp only [h, if_true, true_and, Option.getD_some, nneg_n, ltI_f]
  · simp [h]
theorem F14_0_f (x : Int) : (F14_0 x = false) = ¬ (-2147483648 ≤ x ∧ x ≤ 2147483648) := by
  rw [← F14_0_t]; simp
theorem F20_ok {x y : Int} (hx : -2147483648 ≤ x ∧ x ≤ 2147483648) (hy : -2147483648 ≤ y ∧ y ≤ 2147483648) : F20 x y = if -2147483648 ≤ x + y ∧ x + y ≤ 2147483648 then some (x + y, 0) else some (0, 25) := by
  have h : wrapA .i64 (Int.add x y) = x + y := wrap64 (by simp only [add_int]; omega) (by simp only [add_int]; omega)
  simp only [F20, condI, nneg_n, F14_0_f, h, hx, hy, and_self, not_true_eq_false, if_false, ite_not]
theorem F22_ok {x y : Int} (hx : -2147483648 ≤ x ∧ x ≤ 2147483648) (hy : -2147483648 ≤ y ∧ y ≤ 2147483648) : F22 x y = if -2147483648 ≤ x - y ∧ x - y ≤ 2147483648 then some (x - y, 0) else some (0, 25) := by
  have h : wrapA .i64 (Int.sub x y) = x - y := wrap64 (by simp only [sub_int]; omega) (by simp only [sub_int]; omega)
  simp only [F22, condI, nneg_n, F14_0_f, h, hx, hy, and_self, not_true_eq_false, if_false, ite_not]
theorem t24_ok {x y : Int} (hx : -2147483648 ≤ x ∧ x ≤ 2147483648) (hy : -2147483648 ≤ y ∧ y ≤ 2147483648) : t24_0 x y = (x * y + 32768) / 65536 := by
  obtain ⟨h1, h2⟩ := mul_bd hx.1 hx.2 hy.1 hy.2
  simp only [t24_0, mul_int, add_int]
  rw [wrap64 (n := x * y) (by omega) (by omega), wrap64 (by omega) (by omega), fdiv_pos _ (by omega)]
theorem F24_ok {x y : Int} (hx : -2147483648 ≤ x ∧ x ≤ 2147483648) (hy : -2147483648 ≤ y ∧ y ≤ 2147483648) : F24 x y = if -2147483648 ≤ (x * y + 32768) / 65536 ∧ (x * y + 32768) / 65536 ≤ 2147483648 then some ((x * y + 32768) / 65536, 0) else some (0, 25) := by
  simp only [F24, condI, nneg_n, F14_0_f, t24_ok hx hy, hx, hy, and_self, not_true_eq_false, if_false, ite_not]
theorem F52_ok {a y : Int} (hy : 0 < y) (h1 : -9223372036854775807 ≤ a) (h2 : a ≤ 9223372036854775807) : F52 a y = some (a / y) := by
  have hd := tdiv_floor (a := a) hy
  have hb := tdiv_bd (a := a) hy
  simp only [F52, condI, nneg_n, eqI_f, ltI_t, sub_int]
  rw [if_pos (by omega)]
  split
  · rename_i h; rw [if_pos h] at hd
    rw [wrap64 (n := Int.tdiv a y) (by omega) (by omega), wrap64 (by omega) (by omega), hd]
  · rename_i h; rw [if_neg h] at hd
    rw [wrap64 (by omega) (by omega), hd]
theorem F26_one {x : Int} (hx : -2147483648 ≤ x ∧ x ≤ 2147483648) : F26 x 65536 = some (x, 0) := by
  have ht : t26_2 x 65536 = 131072 * x + 65536 := by
    simp only [t26_2, mul_int, add_int]
    rw [wrap64 (n := 2 * x) (by omega) (by omega), wrap64 (n := 2 * x * 65536) (by omega) (by omega), wrap64 (by omega) (by omega)]; omega
  have h5 : F52 (131072 * x + 65536) 131072 = some x := by
    rw [F52_ok (by omega) (by omega) (by omega)]; congr 1; omega
  have hw : wrapA .i64 (Int.mul 2 65536) = 131072 := by decide
  have h50 : F52_0 (131072 * x + 65536) 131072 = x := by simp only [F52_0, h5]; rfl
  simp only [F26, condI, nneg_n, F14_0_f, F14_0_t, eqI_t, ltI_t, ht, hw, h5, h50, hx, and_self, not_true_eq_false, if_false]
  simp
theorem F19_ok {x : Int} (hx : -2147483648 ≤ x ∧ x ≤ 2147483648) : F19 x = some (-x, 0) := by
  have : IntKind.wrap .i64 (0 - x) = -x := by rw [wk64]; omega
  simp only [F19, condI, nneg_n, F14_0_f, hx, and_self, not_true_eq_false, if_false, this]
theorem law8 (a0 a1 : Int) : F8 a0 a1 = some true := by
  have e1 : F41_0 a0 = Int.tmod a0 2147483649 := rfl
  have e2 : F41_0 a1 = Int.tmod a1 2147483649 := rfl
  have b1 := tmod_bd a0 (c := 2147483649) (by omega)
  have b2 := tmod_bd a1 (c := 2147483649) (by omega)
  have hx : -2147483648 ≤ F41_0 a0 ∧ F41_0 a0 ≤ 2147483648 := by rw [e1]; omega
  have hy : -2147483648 ≤ F41_0 a1 ∧ F41_0 a1 ≤ 2147483648 := by rw [e2]; omega
  simp only [F8, c8_0]
  generalize F41_0 a0 = x at *
  generalize F41_0 a1 = y at *
  have c20 : F20 y x = F20 x y := by rw [F20_ok hy hx, F20_ok hx hy, Int.add_comm]
  have c24 : F24 y x = F24 x y := by rw [F24_ok hy hx, F24_ok hx hy, Int.mul_comm]
  have o24 : F24 x 65536 = some (x, 0) := by
    rw [F24_ok hx (by omega), show (x * 65536 + 32768) / 65536 = x by omega, if_pos hx]
  have n19 : -2147483648 ≤ -x ∧ -x ≤ 2147483648 := by omega
  have w19 : IntKind.wrap .i64 (0 - x) = -x := by rw [wk64]; omega
  have f19 := F19_ok hx
  have f19' := F19_ok n19
  have k0 : F19_0 x = -x := by simp only [F19_0, f19]; rfl
  have k1 : F19_1 x = 0 := by simp only [F19_1, f19]; rfl
  have k2 : F19_0 (-x) = x := by simp only [F19_0, f19']; simp
  have k3 : F19_1 (-x) = 0 := by simp only [F19_1, f19']; rfl
  have k4 : F24_0 x 65536 = x := by simp only [F24_0, o24]; rfl
  have k5 : F24_1 x 65536 = 0 := by simp only [F24_1, o24]; rfl
  have f26 := F26_one hx
  have k6 : F26_0 x 65536 = x := by simp only [F26_0, f26]; rfl
  have k7 : F26_1 x 65536 = 0 := by simp only [F26_1, f26]; rfl
  have k8 : F20_0 y x = F20_0 x y := by simp only [F20_0, c20]
  have k9 : F20_1 y x = F20_1 x y := by simp only [F20_1, c20]
  have k10 : F24_0 y x = F24_0 x y := by simp only [F24_0, c24]
  have k11 : F24_1 y x = F24_1 x y := by simp only [F24_1, c24]
  have k12 : F20_1 x y = 0 → F22 (F20_0 x y) y = some (x, 0) := by
    intro h
    simp only [F20_1, F20_0, F20_ok hx hy] at *
    split at h
    · rename_i q
      simp only [if_pos q, Option.getD_some]
      rw [F22_ok q hy, show x + y - y = x by omega, if_pos hx]
    · simp at h
  simp only [condI, nneg_n, eqI_f, eqI_t, k0, k1, k2, k3, k4, k5, k6, k7, k8, k9, k10, k11, f26, w19, ne_eq, not_true_eq_false, if_false, if_true, Option.isSome_some]
  split
  · rename_i h
    have := k12 h
    have m0 : F22_0 (F20_0 x y) y = x := by simp only [F22_0, this]; rfl
    have m1 : F22_1 (F20_0 x y) y = 0 := by simp only [F22_1, this]; rfl
    simp only [m0, m1, not_true_eq_false, if_false]
    rw [(eqI_t _ _).mpr rfl]
  · rw [(eqI_t _ _).mpr rfl]
theorem law_ok (a0 a1 : Int) (w0 : (Lit.int .i64 a0).wf = true) (w1 : (Lit.int .i64 a1).wf = true) : ∃ n : Nat, F8 a0 a1 = some true := ⟨0, law8 a0 a1⟩

end

theorem walk (a0 : Int) (a1 : Int) (wa0 : (Lit.int .i64 a0).wf = true) (wa1 : (Lit.int .i64 a1).wf = true) {w : World} (h : Go.Sx.LaidIn w vars) {ARGS : List Value} (ha : Go.Sx.RelL (fun _ => none) [.int .i64 a0, .int .i64 a1] ARGS) :
    Calls Tryd.prog 8 ARGS.toArray w fun e w' => e = .returned (.bool true) ∧ Below w.heap.size w w' := by
  obtain ⟨n, hn⟩ := law_ok a0 a1 wa0 wa1
  exact Go.Sx.call_args okayed rfl ha Tryd.func8 body8_eq (run8 n a0 a1 true hn) h

theorem door_met (os : Os) (args : Array Value) : laidMetH Tryd.prog laid ((World.doorLaid Tryd.prog 400 os).forCall (fun _ _ => 0) ⟨#[], args, []⟩).memory :=
  laidMetH_of_parts3 (fuel := 8) (laidMet_of_run' 8 (by kernel_rfl) (by kernel_rfl)) (by kernel_rfl) (by kernel_rfl)

set_option maxRecDepth 100000 in
theorem lifted (os : Os) (started : os.Started) (H : Type) (enc : TypeId × Value → H) :
    ReturnsInHanded {} Tryd.checked os 8 .any (fun w args => (Rows.realFieldSpec.pre enc Tryd.prog Tryd.f8 [] false w args ∧ laidMetH Tryd.prog laid w) ∧ sizedMet enc Tryd.prog Tryd.f8 (OpenSpec.ofChange Rows.realFieldSpec) false w args)
      (Rows.realFieldSpec.post enc Tryd.prog Tryd.f8 false true false false) := by
  refine returnsInHanded_of_change_and (C := Tryd.checked) (X := fun w _ => laidMetH Tryd.prog laid w) (fun _ _ _ hh h => h.of_heap hh) own started (by kernel_rfl) Tryd.func8
    (ChangeSpec.witness_shaped (enc := enc) (C := Tryd.checked) (os := os) (X := fun w _ => laidMetH Tryd.prog laid w) false (World.doorLaid Tryd.prog 400 os) #[.int .i64 0, .int .i64 0] 8 rfl (World.shaped_of_RefB (by kernel_rfl) (by kernel_rfl)) (by kernel_rfl) (by kernel_rfl) (by kernel_rfl) (door_met os _)) ?_
  intro W base args ds gs before hval0 hW _ _ hL _
  have hval : ∀ (j : Nat) t v, Tryd.f8.params[j]? = some t → args[j]? = some v → Value.okWide Tryd.prog W .any base t v := hval0
  have hW' := hW
  obtain ⟨p, q, hA0, hV, rfl, hfz, hnd⟩ := hW
  have hA : DataW.TrodAll enc Tryd.prog W 0 (fun _ => true) true Tryd.f8.params.toList args.toList ds p := hA0
  rw [Tryd.params8] at hA hval
  obtain ⟨v0, vs0, d0, ds0, p0, q0, hargs, rfl, rfl, h0, r0⟩ := trodAll_cons hA
  obtain ⟨v1, vs1, d1, ds1, p1, q1, rfl, rfl, rfl, h1, r1⟩ := trodAll_cons r0
  obtain ⟨rfl, rfl, rfl⟩ := trodAll_nil r1
  obtain rfl : args = #[v0, v1] := by cases args; simp_all
  obtain ⟨rfl, rfl⟩ := trodVars_none hV
  obtain ⟨rfl, as0, k0, e0⟩ := Go.Sx.open_kinds (ks := [.int .i64]) (by kernel_rfl) h0
  obtain ⟨a0, r0, rfl, wa0, k0⟩ := k0
  obtain rfl := k0
  obtain ⟨rfl, as1, k1, e1⟩ := Go.Sx.open_kinds (ks := [.int .i64]) (by kernel_rfl) h1
  obtain ⟨a1, r1, rfl, wa1, k1⟩ := k1
  obtain rfl := k1
  clear hA0
  simp only [List.append_nil] at hW'
  have hrel : Go.Sx.RelL (fun _ => none) [.int .i64 a0, .int .i64 a1] [v0, v1] := ⟨_, _, Go.Sx.rel_int Tryd.underlying3 (hval 0 3 v0 rfl rfl) e0, ⟨_, _, Go.Sx.rel_int Tryd.underlying3 (hval 1 3 v1 rfl rfl) e1, rfl, rfl⟩, rfl⟩
  refine (walk a0 a1 wa0 wa1 (Go.Sx.laidIn_of hL (by kernel_rfl) vars_eq) hrel).mono fun e W' ⟨he, hg⟩ => ?_
  subst he
  exact ⟨_, rfl, Go.Sx.post_of_below (pa := []) (pv := []) hW' (fun _ _ _ => (trodAll_cons_mk (shut_bool Tryd.underlying4 _) trodAll_mk0)) (fun sp _ => (trodAll_cons_mk (Go.Sx.stays laidOut (by kernel_rfl) (Nat.le_of_ble_eq_true (by kernel_rfl)) h0) (trodAll_cons_mk (Go.Sx.stays laidOut (by kernel_rfl) (Nat.le_of_ble_eq_true (by kernel_rfl)) h1) trodAll_mk0))) (fun _ _ => rfl) rfl
    hg (ok_one (by kernel_rfl) rfl (okWide_bool_mk Tryd.underlying4 _))⟩

theorem over : Rows.RealFieldSaid :=
  OpenClaim.holds_of_wide 8 Tryd.f8 rfl rfl rfl rfl rfl rfl rfl ⟨rfl, rfl, rfl, rfl, rfl⟩ rfl rfl rfl rfl rfl (by kernel_rfl) Tryd.func8 (by kernel_rfl)
    (of_decide_eq_true (by kernel_rfl)) (by unfold Func.isWrapper; first | (rw [if_pos (by decide +kernel)]; kernel_rfl) | (rw [if_neg (by decide +kernel)]; exact ⟨rfl, rfl⟩))
    (fun os started H enc _ => lifted os started H enc)

theorem noStandIn : ([3, 3].all fun t => Tryd.prog.wantsStandIn t == false) = true := by kernel_rfl
theorem proved : Rows.RealFieldCardSaid :=
  Claim7.holds_tied_plain_at .later [] [.data, .data, .data] true (true, "6bb3bf17aa11547aa6681b340682b41d7ccfe301ed5df77c173ed9e7f240872f") false
    over (fun _ h => by cases h) (by kernel_rfl) (fun _ h => by cases h) realField_row_tie rfl ⟨rfl, rfl⟩ (by kernel_rfl) rfl
    (fun f fn hf hfn => by
      obtain rfl : f = 8 := Option.some.inj ((show Tryd.prog.funcNamed "chase/chaselaw01.RealField" = some 8 by kernel_rfl).symm.trans hf) |>.symm
      obtain rfl : fn = Tryd.f8 := (Option.some.inj (Tryd.func8.symm.trans hfn)).symm
      exact ⟨by kernel_rfl, fun j t ht => by
        rw [Tryd.params8] at ht
        have hm := Array.mem_of_getElem? ht
        have := List.all_eq_true.1 noStandIn t (by simpa using hm)
        exact beq_iff_eq.1 this⟩)
    (by kernel_rfl)
#print axioms proved
end Go.Proofs.YtglddbgaonciaaaDoor.realField
