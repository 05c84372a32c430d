/- 'chase/chaselaw01.RealOrders' returns true for every argument, and nothing that was there is changed. Condition: the package variables that the row lists hold what the program's text gives them. Its run, with unknown arguments, is worked out by an executor that is proved sound against the model: so each function is a term; the rest is arithmetic. -/
import Derived.Test.YtglddbgaonciaaaDoorRows
import Derived.Test.YtglddbgaonciaaaDoorCards
import Derived.Test.YtglddbgaonciaaaDoorTie
import Derived.WalkKit
import Derived.ProofKit
import Derived.LaidMore
import Derived.OpenShut
import Derived.Stop.Joined
import Derived.SevenTiedAt
import Derived.Test.YtglddbgaonciaaaDoorSxF
namespace Go.Proofs.YtglddbgaonciaaaDoor.realOrders
open Go.ChangeShapes Go.WideShapes Go.ChangeAt Go.WideMaps Go.WideElems Go.RowKit
set_option linter.unusedVariables false

theorem own : ownKnob Tryd.prog.godebug = none := by kernel_rfl
theorem okayed : Go.Sx.okProg Tryd.prog = true := by kernel_rfl
theorem laidOut : laidOutB Tryd.prog = true := by kernel_rfl
noncomputable def laid : List (String × DataW Unit) := [("math/bits.deBruijn32tab", Rows.laid_math_bits_deBruijn32tab), ("math/bits.deBruijn64tab", Rows.laid_math_bits_deBruijn64tab), ("internal/strconv.uint64pow10", Rows.laid_internal_strconv_uint64pow10)]
noncomputable def vars : List (Nat × List Go.Sx.AV) := [(2, [.int .u8 (.ofNat 0), .int .u8 (.ofNat 1), .int .u8 (.ofNat 28), .int .u8 (.ofNat 2), .int .u8 (.ofNat 29), .int .u8 (.ofNat 14), .int .u8 (.ofNat 24), .int .u8 (.ofNat 3), .int .u8 (.ofNat 30), .int .u8 (.ofNat 22), .int .u8 (.ofNat 20), .int .u8 (.ofNat 15), .int .u8 (.ofNat 25), .int .u8 (.ofNat 17), .int .u8 (.ofNat 4), .int .u8 (.ofNat 8), .int .u8 (.ofNat 31), .int .u8 (.ofNat 27), .int .u8 (.ofNat 13), .int .u8 (.ofNat 23), .int .u8 (.ofNat 21), .int .u8 (.ofNat 19), .int .u8 (.ofNat 16), .int .u8 (.ofNat 7), .int .u8 (.ofNat 26), .int .u8 (.ofNat 12), .int .u8 (.ofNat 18), .int .u8 (.ofNat 6), .int .u8 (.ofNat 11), .int .u8 (.ofNat 5), .int .u8 (.ofNat 10), .int .u8 (.ofNat 9)]), (3, [.int .u8 (.ofNat 0), .int .u8 (.ofNat 1), .int .u8 (.ofNat 56), .int .u8 (.ofNat 2), .int .u8 (.ofNat 57), .int .u8 (.ofNat 49), .int .u8 (.ofNat 28), .int .u8 (.ofNat 3), .int .u8 (.ofNat 61), .int .u8 (.ofNat 58), .int .u8 (.ofNat 42), .int .u8 (.ofNat 50), .int .u8 (.ofNat 38), .int .u8 (.ofNat 29), .int .u8 (.ofNat 17), .int .u8 (.ofNat 4), .int .u8 (.ofNat 62), .int .u8 (.ofNat 47), .int .u8 (.ofNat 59), .int .u8 (.ofNat 36), .int .u8 (.ofNat 45), .int .u8 (.ofNat 43), .int .u8 (.ofNat 51), .int .u8 (.ofNat 22), .int .u8 (.ofNat 53), .int .u8 (.ofNat 39), .int .u8 (.ofNat 33), .int .u8 (.ofNat 30), .int .u8 (.ofNat 24), .int .u8 (.ofNat 18), .int .u8 (.ofNat 12), .int .u8 (.ofNat 5), .int .u8 (.ofNat 63), .int .u8 (.ofNat 55), .int .u8 (.ofNat 48), .int .u8 (.ofNat 27), .int .u8 (.ofNat 60), .int .u8 (.ofNat 41), .int .u8 (.ofNat 37), .int .u8 (.ofNat 16), .int .u8 (.ofNat 46), .int .u8 (.ofNat 35), .int .u8 (.ofNat 44), .int .u8 (.ofNat 21), .int .u8 (.ofNat 52), .int .u8 (.ofNat 32), .int .u8 (.ofNat 23), .int .u8 (.ofNat 11), .int .u8 (.ofNat 54), .int .u8 (.ofNat 26), .int .u8 (.ofNat 40), .int .u8 (.ofNat 15), .int .u8 (.ofNat 34), .int .u8 (.ofNat 20), .int .u8 (.ofNat 31), .int .u8 (.ofNat 10), .int .u8 (.ofNat 25), .int .u8 (.ofNat 14), .int .u8 (.ofNat 19), .int .u8 (.ofNat 9), .int .u8 (.ofNat 13), .int .u8 (.ofNat 8), .int .u8 (.ofNat 7), .int .u8 (.ofNat 6)]), (0, [.int .u64 (.ofNat 1), .int .u64 (.ofNat 10), .int .u64 (.ofNat 100), .int .u64 (.ofNat 1000), .int .u64 (.ofNat 10000), .int .u64 (.ofNat 100000), .int .u64 (.ofNat 1000000), .int .u64 (.ofNat 10000000), .int .u64 (.ofNat 100000000), .int .u64 (.ofNat 1000000000), .int .u64 (.ofNat 10000000000), .int .u64 (.ofNat 100000000000), .int .u64 (.ofNat 1000000000000), .int .u64 (.ofNat 10000000000000), .int .u64 (.ofNat 100000000000000), .int .u64 (.ofNat 1000000000000000), .int .u64 (.ofNat 10000000000000000), .int .u64 (.ofNat 100000000000000000), .int .u64 (.ofNat 1000000000000000000), .int .u64 (.ofNat 10000000000000000000)])]
theorem vars_eq : Go.Sx.laidOf Tryd.prog laid = some vars := by kernel_rfl
section
open Go.Sx
set_option maxRecDepth 1000000
noncomputable def body14 : Go.Code := (Tryd.f14.body).getD .skip
theorem body14_eq : Tryd.f14.body = some body14 := Go.Sx.some_getD (by kernel_rfl)
noncomputable def F14 (x : Int) : Option (Bool) := (bif (!Go.Sx.ltI x ((-2147483648))) then (some (!Go.Sx.ltI 2147483648 x)) else (some false))
theorem form14 (n : Nat) (x : Int) (vz : Go.Sx.AV) : Go.Sx.wpS Tryd.prog Tryd.f14 vars vz (.st [0, 0, 2, 0, 0, 0, 0, 2, 2, 2] (.br 5 (.st [2, 2, 2, 2, 0, 0, 2] .ans) (.st [2, 2, 2, 2, 0, 0, 2] .ans))) [] (.code body14 (Go.Sx.startA [.int .i64 x] Tryd.f14) (Go.Sx.laidHeap vars)) = (Go.Sx.BR (!Go.Sx.ltI x ((-2147483648))) (vz = .bool (!Go.Sx.ltI 2147483648 x)) (vz = .bool false)) := by kernel_rfl
theorem run14 (n : Nat) (x : Int) (r : Bool) (h : F14 x = some r) : Go.Sx.Run Tryd.prog Tryd.f14 vars (.bool r) [] (.code body14 (Go.Sx.startA [.int .i64 x] Tryd.f14) (Go.Sx.laidHeap vars)) := by
  exact Go.Sx.wpS_run (L := vars) (by kernel_rfl) (form14 n x (.bool r)) ((Go.Sx.br_of (fun h0 => (fun h => by cases h; rfl)) (fun h0 => (fun h => by cases h; rfl))) h)
noncomputable def F14_0 (x : Int) : Bool := ((F14 x).getD default)
theorem F14_some (x : Int) : (F14 x).isSome = true := by
  unfold F14
  repeat' (first | rfl | apply Go.Sx.some_br)
theorem fact14 (x : Int) : Go.Sx.Fact Tryd.prog vars 14 [.int .i64 x] (.bool (F14_0 x)) := Go.Sx.fact_of_run okayed (by kernel_rfl) (by kernel_rfl) (by kernel_rfl) Tryd.func14 body14_eq (run14 0 x ((F14 x).getD default) (Go.Sx.getD_some (F14_some x)))
noncomputable def body15 : Go.Code := (Tryd.f15.body).getD .skip
theorem body15_eq : Tryd.f15.body = some body15 := Go.Sx.some_getD (by kernel_rfl)
noncomputable def F15 (x : Int) : Option (Bool) := (bif (!Go.Sx.ltI x ((-2147483648))) then (some (!Go.Sx.ltI 2147483648 x)) else (some false))
theorem form15 (n : Nat) (x : Int) (vz : Go.Sx.AV) : Go.Sx.wpS Tryd.prog Tryd.f15 vars vz (.st [0, 0, 2, 0, 0, 0, 0, 2, 2, 2] (.br 5 (.st [2, 2, 2, 2, 0, 0, 2] .ans) (.st [2, 2, 2, 2, 0, 0, 2] .ans))) [] (.code body15 (Go.Sx.startA [.int .i64 x] Tryd.f15) (Go.Sx.laidHeap vars)) = (Go.Sx.BR (!Go.Sx.ltI x ((-2147483648))) (vz = .bool (!Go.Sx.ltI 2147483648 x)) (vz = .bool false)) := by kernel_rfl
theorem run15 (n : Nat) (x : Int) (r : Bool) (h : F15 x = some r) : Go.Sx.Run Tryd.prog Tryd.f15 vars (.bool r) [] (.code body15 (Go.Sx.startA [.int .i64 x] Tryd.f15) (Go.Sx.laidHeap vars)) := by
  exact Go.Sx.wpS_run (L := vars) (by kernel_rfl) (form15 n x (.bool r)) ((Go.Sx.br_of (fun h0 => (fun h => by cases h; rfl)) (fun h0 => (fun h => by cases h; rfl))) h)
noncomputable def F15_0 (x : Int) : Bool := ((F15 x).getD default)
theorem F15_some (x : Int) : (F15 x).isSome = true := by
  unfold F15
  repeat' (first | rfl | apply Go.Sx.some_br)
theorem fact15 (x : Int) : Go.Sx.Fact Tryd.prog vars 15 [.int .i64 x] (.bool (F15_0 x)) := Go.Sx.fact_of_run okayed (by kernel_rfl) (by kernel_rfl) (by kernel_rfl) Tryd.func15 body15_eq (run15 0 x ((F15 x).getD default) (Go.Sx.getD_some (F15_some x)))
noncomputable def body12 : Go.Code := (Tryd.f12.body).getD .skip
theorem body12_eq : Tryd.f12.body = some body12 := Go.Sx.some_getD (by kernel_rfl)
noncomputable def F12 (x : Int) : Option (Int × Int) := (bif (Go.Sx.ltI x ((-32768))) then (some (0, 25)) else (bif (Go.Sx.ltI 32768 x) then (some (0, 25)) else (some ((Go.Sx.wrapA Go.IntKind.i64 (Int.mul x 65536)), 0))))
theorem form12 (n : Nat) (x : Int) (vz : Go.Sx.AV) : Go.Sx.wpS Tryd.prog Tryd.f12 vars vz (.st [0, 0, 2, 2, 0, 0, 0, 0, 0, 2, 2, 2] (.br 6 (.st [2, 2, 2, 0, 0, 0, 0, 0, 2, 2, 0, 0, 2, 0] .ans) (.st [2, 2, 2, 0, 0] (.br 9 (.st [0, 0, 0, 2, 2, 0, 0, 2, 0] .ans) (.st [0, 2, 0, 0, 0, 2, 2, 2, 2, 0, 0, 2] .ans))))) [] (.code body12 (Go.Sx.startA [.int .i64 x] Tryd.f12) (Go.Sx.laidHeap vars)) = (Go.Sx.BR (Go.Sx.ltI x ((-32768))) (vz = .tup [.int .i64 (.ofNat 0), .int .i64 (.ofNat 25)]) (Go.Sx.BR (Go.Sx.ltI 32768 x) (vz = .tup [.int .i64 (.ofNat 0), .int .i64 (.ofNat 25)]) (vz = .tup [.int .i64 (Go.Sx.wrapA Go.IntKind.i64 (Int.mul x 65536)), .int .i64 (.ofNat 0)]))) := by kernel_rfl
theorem run12 (n : Nat) (x : Int) (r : Int × Int) (h : F12 x = some r) : Go.Sx.Run Tryd.prog Tryd.f12 vars (.tup [.int .i64 r.1, .int .i64 r.2]) [] (.code body12 (Go.Sx.startA [.int .i64 x] Tryd.f12) (Go.Sx.laidHeap vars)) := by
  exact Go.Sx.wpS_run (L := vars) (by kernel_rfl) (form12 n x (.tup [.int .i64 r.1, .int .i64 r.2])) ((Go.Sx.br_of (fun h0 => (fun h => by cases h; rfl)) (fun h0 => (Go.Sx.br_of (fun h1 => (fun h => by cases h; rfl)) (fun h1 => (fun h => by cases h; rfl))))) h)
noncomputable def F12_0 (x : Int) : Int := ((F12 x).getD default).1
noncomputable def F12_1 (x : Int) : Int := ((F12 x).getD default).2
theorem F12_some (x : Int) : (F12 x).isSome = true := by
  unfold F12
  repeat' (first | rfl | apply Go.Sx.some_br)
theorem fact12 (x : Int) : Go.Sx.Fact Tryd.prog vars 12 [.int .i64 x] (.tup [.int .i64 (F12_0 x), .int .i64 (F12_1 x)]) := Go.Sx.fact_of_run okayed (by kernel_rfl) (by kernel_rfl) (by kernel_rfl) Tryd.func12 body12_eq (run12 0 x ((F12 x).getD default) (Go.Sx.getD_some (F12_some x)))
noncomputable def body13 : Go.Code := (Tryd.f13.body).getD .skip
theorem body13_eq : Tryd.f13.body = some body13 := Go.Sx.some_getD (by kernel_rfl)
noncomputable def F13 (x : Int) : Option (Int × Int) := (bif (Go.Sx.ltI x ((-32768))) then (some (0, 25)) else (bif (Go.Sx.ltI 32768 x) then (some (0, 25)) else (some ((Go.Sx.wrapA Go.IntKind.i64 (Int.mul x 65536)), 0))))
theorem form13 (n : Nat) (x : Int) (vz : Go.Sx.AV) : Go.Sx.wpS Tryd.prog Tryd.f13 vars vz (.st [0, 0, 2, 2, 0, 0, 0, 0, 0, 2, 2, 2] (.br 6 (.st [2, 2, 2, 0, 0, 0, 0, 0, 2, 2, 0, 0, 2, 0] .ans) (.st [2, 2, 2, 0, 0] (.br 9 (.st [0, 0, 0, 2, 2, 0, 0, 2, 0] .ans) (.st [0, 2, 0, 0, 0, 2, 2, 2, 2, 0, 0, 2] .ans))))) [] (.code body13 (Go.Sx.startA [.int .i64 x] Tryd.f13) (Go.Sx.laidHeap vars)) = (Go.Sx.BR (Go.Sx.ltI x ((-32768))) (vz = .tup [.int .i64 (.ofNat 0), .int .i64 (.ofNat 25)]) (Go.Sx.BR (Go.Sx.ltI 32768 x) (vz = .tup [.int .i64 (.ofNat 0), .int .i64 (.ofNat 25)]) (vz = .tup [.int .i64 (Go.Sx.wrapA Go.IntKind.i64 (Int.mul x 65536)), .int .i64 (.ofNat 0)]))) := by kernel_rfl
theorem run13 (n : Nat) (x : Int) (r : Int × Int) (h : F13 x = some r) : Go.Sx.Run Tryd.prog Tryd.f13 vars (.tup [.int .i64 r.1, .int .i64 r.2]) [] (.code body13 (Go.Sx.startA [.int .i64 x] Tryd.f13) (Go.Sx.laidHeap vars)) := by
  exact Go.Sx.wpS_run (L := vars) (by kernel_rfl) (form13 n x (.tup [.int .i64 r.1, .int .i64 r.2])) ((Go.Sx.br_of (fun h0 => (fun h => by cases h; rfl)) (fun h0 => (Go.Sx.br_of (fun h1 => (fun h => by cases h; rfl)) (fun h1 => (fun h => by cases h; rfl))))) h)
noncomputable def F13_0 (x : Int) : Int := ((F13 x).getD default).1
noncomputable def F13_1 (x : Int) : Int := ((F13 x).getD default).2
theorem F13_some (x : Int) : (F13 x).isSome = true := by
  unfold F13
  repeat' (first | rfl | apply Go.Sx.some_br)
theorem fact13 (x : Int) : Go.Sx.Fact Tryd.prog vars 13 [.int .i64 x] (.tup [.int .i64 (F13_0 x), .int .i64 (F13_1 x)]) := Go.Sx.fact_of_run okayed (by kernel_rfl) (by kernel_rfl) (by kernel_rfl) Tryd.func13 body13_eq (run13 0 x ((F13 x).getD default) (Go.Sx.getD_some (F13_some x)))
noncomputable def body11 : Go.Code := (Tryd.f11.body).getD .skip
theorem body11_eq : Tryd.f11.body = some body11 := Go.Sx.some_getD (by kernel_rfl)
noncomputable def F11 (x : Int) : Option (Int) := (bif (F15_0 x) then (some (x)) else (some (Int.tmod x 2147483648)))
theorem form11 (n : Nat) (x : Int) (vz : Go.Sx.AV) : Go.Sx.wpS Tryd.prog Tryd.f11 vars vz (.st [0, 0, 2, 0, 0, 0, 0, 0, 2] (.use (.bool (F15_0 x)) (.st [0, 0] (.br 4 (.st [0, 0, 0, 2, 2, 0, 0, 2, 0] .ans) (.st [0, 2, 0, 0, 0, 2, 2, 2, 0, 0, 2] .ans))))) [] (.code body11 (Go.Sx.startA [.int .i64 x] Tryd.f11) (Go.Sx.laidHeap vars)) = (Go.Sx.Fact Tryd.prog vars 15 [.int .i64 (x)] (.bool (F15_0 x)) ∧ (Go.Sx.BR (F15_0 x) (vz = .int .i64 (x)) (vz = .int .i64 (Int.tmod x 2147483648)))) := by kernel_rfl
theorem run11 (n : Nat) (x : Int) (r : Int) (h : F11 x = some r) : Go.Sx.Run Tryd.prog Tryd.f11 vars (.int .i64 r) [] (.code body11 (Go.Sx.startA [.int .i64 x] Tryd.f11) (Go.Sx.laidHeap vars)) := by
  exact Go.Sx.wpS_run (L := vars) (by kernel_rfl) (form11 n x (.int .i64 r)) ((fun h => ⟨fact15 (x), (Go.Sx.br_of (fun h0 => (fun h => by cases h; rfl)) (fun h0 => (fun h => by cases h; rfl))) h⟩) h)
noncomputable def F11_0 (x : Int) : Int := ((F11 x).getD default)
theorem F11_some (x : Int) : (F11 x).isSome = true := by
  unfold F11
  repeat' (first | rfl | apply Go.Sx.some_br)
theorem fact11 (x : Int) : Go.Sx.Fact Tryd.prog vars 11 [.int .i64 x] (.int .i64 (F11_0 x)) := Go.Sx.fact_of_run okayed (by kernel_rfl) (by kernel_rfl) (by kernel_rfl) Tryd.func11 body11_eq (run11 0 x ((F11 x).getD default) (Go.Sx.getD_some (F11_some x)))
noncomputable def body16 : Go.Code := (Tryd.f16.body).getD .skip
theorem body16_eq : Tryd.f16.body = some body16 := Go.Sx.some_getD (by kernel_rfl)
noncomputable def F16 (x : Int) : Option (Int × Int) := (bif (!F14_0 x) then (some (0, 2)) else (some ((Go.Sx.wrapA Go.IntKind.i64 (Int.tdiv x 65536)), 0)))
theorem form16 (n : Nat) (x : Int) (vz : Go.Sx.AV) : Go.Sx.wpS Tryd.prog Tryd.f16 vars vz (.st [0, 0, 2, 2, 0, 0, 0, 0, 2, 0, 0, 0, 2, 2, 0, 0, 0, 0, 0, 2] (.use (.bool (F14_0 x)) (.st [2, 0, 0] (.br 8 (.st [0, 0, 0, 2, 2, 0, 0, 2, 0, 0, 2, 2, 2, 2, 0, 0, 2] .ans) (.st [0, 2, 0, 0, 0, 2, 2, 0, 0, 0, 2, 0, 0, 0, 0, 2, 2, 2, 0, 0, 2, 0, 2, 2, 0, 0, 2, 0, 2, 2, 2, 2, 0, 0, 2] .ans))))) [] (.code body16 (Go.Sx.startA [.int .i64 x] Tryd.f16) (Go.Sx.laidHeap vars)) = (Go.Sx.Fact Tryd.prog vars 14 [.int .i64 (x)] (.bool (F14_0 x)) ∧ (Go.Sx.BR (!F14_0 x) (vz = .tup [.int .i64 (.ofNat 0), .int .i64 (.ofNat 2)]) (vz = .tup [.int .i64 (Go.Sx.wrapA Go.IntKind.i64 (Int.tdiv x 65536)), .int .i64 (.ofNat 0)]))) := by kernel_rfl
theorem run16 (n : Nat) (x : Int) (r : Int × Int) (h : F16 x = some r) : Go.Sx.Run Tryd.prog Tryd.f16 vars (.tup [.int .i64 r.1, .int .i64 r.2]) [] (.code body16 (Go.Sx.startA [.int .i64 x] Tryd.f16) (Go.Sx.laidHeap vars)) := by
  exact Go.Sx.wpS_run (L := vars) (by kernel_rfl) (form16 n x (.tup [.int .i64 r.1, .int .i64 r.2])) ((fun h => ⟨fact14 (x), (Go.Sx.br_of (fun h0 => (fun h => by cases h; rfl)) (fun h0 => (fun h => by cases h; rfl))) h⟩) h)
noncomputable def F16_0 (x : Int) : Int := ((F16 x).getD default).1
noncomputable def F16_1 (x : Int) : Int := ((F16 x).getD default).2
theorem F16_some (x : Int) : (F16 x).isSome = true := by
  unfold F16
  repeat' (first | rfl | apply Go.Sx.some_br)
theorem fact16 (x : Int) : Go.Sx.Fact Tryd.prog vars 16 [.int .i64 x] (.tup [.int .i64 (F16_0 x), .int .i64 (F16_1 x)]) := Go.Sx.fact_of_run okayed (by kernel_rfl) (by kernel_rfl) (by kernel_rfl) Tryd.func16 body16_eq (run16 0 x ((F16 x).getD default) (Go.Sx.getD_some (F16_some x)))
noncomputable def body18 : Go.Code := (Tryd.f18.body).getD .skip
theorem body18_eq : Tryd.f18.body = some body18 := Go.Sx.some_getD (by kernel_rfl)
noncomputable def t18_0 (x : Int) : Int := (Go.IntKind.wrap Go.IntKind.i64 (0 - Go.Sx.wrapA Go.IntKind.i64 (Int.tdiv (Go.IntKind.wrap Go.IntKind.i64 (0 - x)) 65536)))
noncomputable def F18 (x : Int) : Option (Int) := (bif (Go.Sx.ltI x 0) then (some (t18_0 x)) else (some (Go.Sx.wrapA Go.IntKind.i64 (Int.tdiv x 65536))))
theorem form18 (n : Nat) (x : Int) (vz : Go.Sx.AV) : Go.Sx.wpS Tryd.prog Tryd.f18 vars vz (.st [0, 0, 2, 0, 0, 0, 0, 0, 2, 2, 0, 0] (.br 4 (.st [0, 0, 0, 2, 2, 2, 2, 2, 0, 0, 2, 0] .ans) (.st [0, 2, 0, 0, 0, 2, 2, 2, 0, 0, 2] .ans))) [] (.code body18 (Go.Sx.startA [.int .i64 x] Tryd.f18) (Go.Sx.laidHeap vars)) = (Go.Sx.BR (Go.Sx.ltI x 0) (vz = .int .i64 (t18_0 x)) (vz = .int .i64 (Go.Sx.wrapA Go.IntKind.i64 (Int.tdiv x 65536)))) := by kernel_rfl
theorem run18 (n : Nat) (x : Int) (r : Int) (h : F18 x = some r) : Go.Sx.Run Tryd.prog Tryd.f18 vars (.int .i64 r) [] (.code body18 (Go.Sx.startA [.int .i64 x] Tryd.f18) (Go.Sx.laidHeap vars)) := by
  exact Go.Sx.wpS_run (L := vars) (by kernel_rfl) (form18 n x (.int .i64 r)) ((Go.Sx.br_of (fun h0 => (fun h => by cases h; rfl)) (fun h0 => (fun h => by cases h; rfl))) h)
noncomputable def F18_0 (x : Int) : Int := ((F18 x).getD default)
theorem F18_some (x : Int) : (F18 x).isSome = true := by
  unfold F18
  repeat' (first | rfl | apply Go.Sx.some_br)
theorem fact18 (x : Int) : Go.Sx.Fact Tryd.prog vars 18 [.int .i64 x] (.int .i64 (F18_0 x)) := Go.Sx.fact_of_run okayed (by kernel_rfl) (by kernel_rfl) (by kernel_rfl) Tryd.func18 body18_eq (run18 0 x ((F18 x).getD default) (Go.Sx.getD_some (F18_some x)))
noncomputable def body19 : Go.Code := (Tryd.f19.body).getD .skip
theorem body19_eq : Tryd.f19.body = some body19 := Go.Sx.some_getD (by kernel_rfl)
noncomputable def F19 (x : Int) : Option (Int × Int) := (bif (!F14_0 x) then (some (0, 2)) else (some ((Go.IntKind.wrap Go.IntKind.i64 (0 - x)), 0)))
theorem form19 (n : Nat) (x : Int) (vz : Go.Sx.AV) : Go.Sx.wpS Tryd.prog Tryd.f19 vars vz (.st [0, 0, 2, 2, 0, 0, 0, 0, 2, 0, 0, 0, 2, 2, 0, 0, 0, 0, 0, 2] (.use (.bool (F14_0 x)) (.st [2, 0, 0] (.br 8 (.st [0, 0, 0, 2, 2, 0, 0, 2, 0, 0, 2, 2, 2, 2, 0, 0, 2] .ans) (.st [0, 2, 0, 0, 0, 2, 2, 0, 0, 0, 2, 0, 0, 0, 0, 2, 2, 2, 0, 0, 2, 0, 2, 2, 0, 0, 2, 0, 2, 2, 2, 2, 0, 0, 2] .ans))))) [] (.code body19 (Go.Sx.startA [.int .i64 x] Tryd.f19) (Go.Sx.laidHeap vars)) = (Go.Sx.Fact Tryd.prog vars 14 [.int .i64 (x)] (.bool (F14_0 x)) ∧ (Go.Sx.BR (!F14_0 x) (vz = .tup [.int .i64 (.ofNat 0), .int .i64 (.ofNat 2)]) (vz = .tup [.int .i64 (Go.IntKind.wrap Go.IntKind.i64 (0 - x)), .int .i64 (.ofNat 0)]))) := by kernel_rfl
theorem run19 (n : Nat) (x : Int) (r : Int × Int) (h : F19 x = some r) : Go.Sx.Run Tryd.prog Tryd.f19 vars (.tup [.int .i64 r.1, .int .i64 r.2]) [] (.code body19 (Go.Sx.startA [.int .i64 x] Tryd.f19) (Go.Sx.laidHeap vars)) := by
  exact Go.Sx.wpS_run (L := vars) (by kernel_rfl) (form19 n x (.tup [.int .i64 r.1, .int .i64 r.2])) ((fun h => ⟨fact14 (x), (Go.Sx.br_of (fun h0 => (fun h => by cases h; rfl)) (fun h0 => (fun h => by cases h; rfl))) h⟩) h)
noncomputable def F19_0 (x : Int) : Int := ((F19 x).getD default).1
noncomputable def F19_1 (x : Int) : Int := ((F19 x).getD default).2
theorem F19_some (x : Int) : (F19 x).isSome = true := by
  unfold F19
  repeat' (first | rfl | apply Go.Sx.some_br)
theorem fact19 (x : Int) : Go.Sx.Fact Tryd.prog vars 19 [.int .i64 x] (.tup [.int .i64 (F19_0 x), .int .i64 (F19_1 x)]) := Go.Sx.fact_of_run okayed (by kernel_rfl) (by kernel_rfl) (by kernel_rfl) Tryd.func19 body19_eq (run19 0 x ((F19 x).getD default) (Go.Sx.getD_some (F19_some x)))
noncomputable def body20 : Go.Code := (Tryd.f20.body).getD .skip
theorem body20_eq : Tryd.f20.body = some body20 := Go.Sx.some_getD (by kernel_rfl)
noncomputable def F20 (x : Int) (y : Int) : Option (Int × Int) := (bif (!F14_0 x) then (some (0, 2)) else (bif (!F14_0 y) then (some (0, 2)) else (bif (!F14_0 (Go.Sx.wrapA Go.IntKind.i64 (Int.add x y))) then (some (0, 25)) else (some ((Go.Sx.wrapA Go.IntKind.i64 (Int.add x y)), 0)))))
theorem form20 (n : Nat) (x : Int) (y : Int) (vz : Go.Sx.AV) : Go.Sx.wpS Tryd.prog Tryd.f20 vars vz (.st [0, 0, 2, 2, 0, 0, 0, 0, 2, 2, 0, 0, 0, 2, 2, 0, 0, 0, 0, 0, 2] (.use (.bool (F14_0 x)) (.st [2, 2] (.br 12 (.st [2, 2, 2, 2, 0, 0, 0, 0, 0, 2, 2, 0, 0, 2, 0, 0, 2, 2, 2, 2, 0, 0, 2] .ans) (.st [2] (.use (.bool (F14_0 y)) (.st [2, 2, 0, 0] (.br 16 (.st [0, 0, 0, 2, 2, 0, 0, 2, 0, 0, 2, 2, 2, 2, 0, 0, 2] .ans) (.st [0, 2, 0, 0, 0, 2, 2, 2, 0, 0, 0, 2, 0, 0, 0, 0, 2, 2, 2, 2, 0, 0, 2, 0, 2, 0, 0, 0, 0, 0, 2] (.use (.bool (F14_0 (Go.Sx.wrapA Go.IntKind.i64 (Int.add x y)))) (.st [2, 0, 0] (.br 23 (.st [0, 0, 0, 2, 2, 0, 0, 2, 0, 0, 2, 2, 2, 2, 0, 0, 2] .ans) (.st [0, 2, 0, 0, 0, 2, 2, 2, 0, 0, 2, 0, 2, 2, 2, 2, 0, 0, 2] .ans))))))))))))) [] (.code body20 (Go.Sx.startA [.int .i64 x, .int .i64 y] Tryd.f20) (Go.Sx.laidHeap vars)) = (Go.Sx.Fact Tryd.prog vars 14 [.int .i64 (x)] (.bool (F14_0 x)) ∧ (Go.Sx.BR (!F14_0 x) (vz = .tup [.int .i64 (.ofNat 0), .int .i64 (.ofNat 2)]) (Go.Sx.Fact Tryd.prog vars 14 [.int .i64 (y)] (.bool (F14_0 y)) ∧ (Go.Sx.BR (!F14_0 y) (vz = .tup [.int .i64 (.ofNat 0), .int .i64 (.ofNat 2)]) (Go.Sx.Fact Tryd.prog vars 14 [.int .i64 (Go.Sx.wrapA Go.IntKind.i64 (Int.add x y))] (.bool (F14_0 (Go.Sx.wrapA Go.IntKind.i64 (Int.add x y)))) ∧ (Go.Sx.BR (!F14_0 (Go.Sx.wrapA Go.IntKind.i64 (Int.add x y))) (vz = .tup [.int .i64 (.ofNat 0), .int .i64 (.ofNat 25)]) (vz = .tup [.int .i64 (Go.Sx.wrapA Go.IntKind.i64 (Int.add x y)), .int .i64 (.ofNat 0)]))))))) := by kernel_rfl
theorem run20 (n : Nat) (x : Int) (y : Int) (r : Int × Int) (h : F20 x y = some r) : Go.Sx.Run Tryd.prog Tryd.f20 vars (.tup [.int .i64 r.1, .int .i64 r.2]) [] (.code body20 (Go.Sx.startA [.int .i64 x, .int .i64 y] Tryd.f20) (Go.Sx.laidHeap vars)) := by
  exact Go.Sx.wpS_run (L := vars) (by kernel_rfl) (form20 n x y (.tup [.int .i64 r.1, .int .i64 r.2])) ((fun h => ⟨fact14 (x), (Go.Sx.br_of (fun h0 => (fun h => by cases h; rfl)) (fun h0 => (fun h => ⟨fact14 (y), (Go.Sx.br_of (fun h1 => (fun h => by cases h; rfl)) (fun h1 => (fun h => ⟨fact14 (Go.Sx.wrapA Go.IntKind.i64 (Int.add x y)), (Go.Sx.br_of (fun h2 => (fun h => by cases h; rfl)) (fun h2 => (fun h => by cases h; rfl))) h⟩))) h⟩))) h⟩) h)
noncomputable def F20_0 (x : Int) (y : Int) : Int := ((F20 x y).getD default).1
noncomputable def F20_1 (x : Int) (y : Int) : Int := ((F20 x y).getD default).2
theorem F20_some (x : Int) (y : Int) : (F20 x y).isSome = true := by
  unfold F20
  repeat' (first | rfl | apply Go.Sx.some_br)
theorem fact20 (x : Int) (y : Int) : Go.Sx.Fact Tryd.prog vars 20 [.int .i64 x, .int .i64 y] (.tup [.int .i64 (F20_0 x y), .int .i64 (F20_1 x y)]) := Go.Sx.fact_of_run okayed (by kernel_rfl) (by kernel_rfl) (by kernel_rfl) Tryd.func20 body20_eq (run20 0 x y ((F20 x y).getD default) (Go.Sx.getD_some (F20_some x y)))
noncomputable def body47 : Go.Code := (Tryd.f47.body).getD .skip
theorem body47_eq : Tryd.f47.body = some body47 := Go.Sx.some_getD (by kernel_rfl)
noncomputable def F47 (x : Int) : Option (Int × Int) := (bif (!F15_0 x) then (some (0, 25)) else (some ((x), 0)))
theorem form47 (n : Nat) (x : Int) (vz : Go.Sx.AV) : Go.Sx.wpS Tryd.prog Tryd.f47 vars vz (.st [0, 0, 2, 2, 0, 0, 0, 0, 0, 2] (.use (.bool (F15_0 x)) (.st [2, 0, 0] (.br 6 (.st [0, 0, 0, 2, 2, 0, 0, 2, 0] .ans) (.st [0, 2, 0, 0, 0, 2, 2, 2, 0, 0, 2] .ans))))) [] (.code body47 (Go.Sx.startA [.int .i64 x] Tryd.f47) (Go.Sx.laidHeap vars)) = (Go.Sx.Fact Tryd.prog vars 15 [.int .i64 (x)] (.bool (F15_0 x)) ∧ (Go.Sx.BR (!F15_0 x) (vz = .tup [.int .i64 (.ofNat 0), .int .i64 (.ofNat 25)]) (vz = .tup [.int .i64 (x), .int .i64 (.ofNat 0)]))) := by kernel_rfl
theorem run47 (n : Nat) (x : Int) (r : Int × Int) (h : F47 x = some r) : Go.Sx.Run Tryd.prog Tryd.f47 vars (.tup [.int .i64 r.1, .int .i64 r.2]) [] (.code body47 (Go.Sx.startA [.int .i64 x] Tryd.f47) (Go.Sx.laidHeap vars)) := by
  exact Go.Sx.wpS_run (L := vars) (by kernel_rfl) (form47 n x (.tup [.int .i64 r.1, .int .i64 r.2])) ((fun h => ⟨fact15 (x), (Go.Sx.br_of (fun h0 => (fun h => by cases h; rfl)) (fun h0 => (fun h => by cases h; rfl))) h⟩) h)
noncomputable def F47_0 (x : Int) : Int := ((F47 x).getD default).1
noncomputable def F47_1 (x : Int) : Int := ((F47 x).getD default).2
theorem F47_some (x : Int) : (F47 x).isSome = true := by
  unfold F47
  repeat' (first | rfl | apply Go.Sx.some_br)
theorem fact47 (x : Int) : Go.Sx.Fact Tryd.prog vars 47 [.int .i64 x] (.tup [.int .i64 (F47_0 x), .int .i64 (F47_1 x)]) := Go.Sx.fact_of_run okayed (by kernel_rfl) (by kernel_rfl) (by kernel_rfl) Tryd.func47 body47_eq (run47 0 x ((F47 x).getD default) (Go.Sx.getD_some (F47_some x)))
noncomputable def body21 : Go.Code := (Tryd.f21.body).getD .skip
theorem body21_eq : Tryd.f21.body = some body21 := Go.Sx.some_getD (by kernel_rfl)
noncomputable def F21 (x : Int) (y : Int) : Option (Int × Int) := (some ((F47_0 (Go.Sx.wrapA Go.IntKind.i64 (Int.add x y))), (F47_1 (Go.Sx.wrapA Go.IntKind.i64 (Int.add x y)))))
theorem form21 (n : Nat) (x : Int) (y : Int) (vz : Go.Sx.AV) : Go.Sx.wpS Tryd.prog Tryd.f21 vars vz (.st [0, 0, 2, 2, 0, 0, 0, 0, 2, 2, 2] (.use (.tup [.int .i64 (F47_0 (Go.Sx.wrapA Go.IntKind.i64 (Int.add x y))), .int .i64 (F47_1 (Go.Sx.wrapA Go.IntKind.i64 (Int.add x y)))]) (.st [2, 2, 2, 2, 0, 0, 2] .ans))) [] (.code body21 (Go.Sx.startA [.int .i64 x, .int .i64 y] Tryd.f21) (Go.Sx.laidHeap vars)) = (Go.Sx.Fact Tryd.prog vars 47 [.int .i64 (Go.Sx.wrapA Go.IntKind.i64 (Int.add x y))] (.tup [.int .i64 (F47_0 (Go.Sx.wrapA Go.IntKind.i64 (Int.add x y))), .int .i64 (F47_1 (Go.Sx.wrapA Go.IntKind.i64 (Int.add x y)))]) ∧ (vz = .tup [.int .i64 (F47_0 (Go.Sx.wrapA Go.IntKind.i64 (Int.add x y))), .int .i64 (F47_1 (Go.Sx.wrapA Go.IntKind.i64 (Int.add x y)))])) := by kernel_rfl
theorem run21 (n : Nat) (x : Int) (y : Int) (r : Int × Int) (h : F21 x y = some r) : Go.Sx.Run Tryd.prog Tryd.f21 vars (.tup [.int .i64 r.1, .int .i64 r.2]) [] (.code body21 (Go.Sx.startA [.int .i64 x, .int .i64 y] Tryd.f21) (Go.Sx.laidHeap vars)) := by
  exact Go.Sx.wpS_run (L := vars) (by kernel_rfl) (form21 n x y (.tup [.int .i64 r.1, .int .i64 r.2])) ((fun h => ⟨fact47 (Go.Sx.wrapA Go.IntKind.i64 (Int.add x y)), (fun h => by cases h; rfl) h⟩) h)
noncomputable def F21_0 (x : Int) (y : Int) : Int := ((F21 x y).getD default).1
noncomputable def F21_1 (x : Int) (y : Int) : Int := ((F21 x y).getD default).2
theorem F21_some (x : Int) (y : Int) : (F21 x y).isSome = true := by
  unfold F21
  repeat' (first | rfl | apply Go.Sx.some_br)
theorem fact21 (x : Int) (y : Int) : Go.Sx.Fact Tryd.prog vars 21 [.int .i64 x, .int .i64 y] (.tup [.int .i64 (F21_0 x y), .int .i64 (F21_1 x y)]) := Go.Sx.fact_of_run okayed (by kernel_rfl) (by kernel_rfl) (by kernel_rfl) Tryd.func21 body21_eq (run21 0 x y ((F21 x y).getD default) (Go.Sx.getD_some (F21_some x y)))
noncomputable def body22 : Go.Code := (Tryd.f22.body).getD .skip
theorem body22_eq : Tryd.f22.body = some body22 := Go.Sx.some_getD (by kernel_rfl)
noncomputable def F22 (x : Int) (y : Int) : Option (Int × Int) := (bif (!F14_0 x) then (some (0, 2)) else (bif (!F14_0 y) then (some (0, 2)) else (bif (!F14_0 (Go.Sx.wrapA Go.IntKind.i64 (Int.sub x y))) then (some (0, 25)) else (some ((Go.Sx.wrapA Go.IntKind.i64 (Int.sub x y)), 0)))))
theorem form22 (n : Nat) (x : Int) (y : Int) (vz : Go.Sx.AV) : Go.Sx.wpS Tryd.prog Tryd.f22 vars vz (.st [0, 0, 2, 2, 0, 0, 0, 0, 2, 2, 0, 0, 0, 2, 2, 0, 0, 0, 0, 0, 2] (.use (.bool (F14_0 x)) (.st [2, 2] (.br 12 (.st [2, 2, 2, 2, 0, 0, 0, 0, 0, 2, 2, 0, 0, 2, 0, 0, 2, 2, 2, 2, 0, 0, 2] .ans) (.st [2] (.use (.bool (F14_0 y)) (.st [2, 2, 0, 0] (.br 16 (.st [0, 0, 0, 2, 2, 0, 0, 2, 0, 0, 2, 2, 2, 2, 0, 0, 2] .ans) (.st [0, 2, 0, 0, 0, 2, 2, 2, 0, 0, 0, 2, 0, 0, 0, 0, 2, 2, 2, 2, 0, 0, 2, 0, 2, 0, 0, 0, 0, 0, 2] (.use (.bool (F14_0 (Go.Sx.wrapA Go.IntKind.i64 (Int.sub x y)))) (.st [2, 0, 0] (.br 23 (.st [0, 0, 0, 2, 2, 0, 0, 2, 0, 0, 2, 2, 2, 2, 0, 0, 2] .ans) (.st [0, 2, 0, 0, 0, 2, 2, 2, 0, 0, 2, 0, 2, 2, 2, 2, 0, 0, 2] .ans))))))))))))) [] (.code body22 (Go.Sx.startA [.int .i64 x, .int .i64 y] Tryd.f22) (Go.Sx.laidHeap vars)) = (Go.Sx.Fact Tryd.prog vars 14 [.int .i64 (x)] (.bool (F14_0 x)) ∧ (Go.Sx.BR (!F14_0 x) (vz = .tup [.int .i64 (.ofNat 0), .int .i64 (.ofNat 2)]) (Go.Sx.Fact Tryd.prog vars 14 [.int .i64 (y)] (.bool (F14_0 y)) ∧ (Go.Sx.BR (!F14_0 y) (vz = .tup [.int .i64 (.ofNat 0), .int .i64 (.ofNat 2)]) (Go.Sx.Fact Tryd.prog vars 14 [.int .i64 (Go.Sx.wrapA Go.IntKind.i64 (Int.sub x y))] (.bool (F14_0 (Go.Sx.wrapA Go.IntKind.i64 (Int.sub x y)))) ∧ (Go.Sx.BR (!F14_0 (Go.Sx.wrapA Go.IntKind.i64 (Int.sub x y))) (vz = .tup [.int .i64 (.ofNat 0), .int .i64 (.ofNat 25)]) (vz = .tup [.int .i64 (Go.Sx.wrapA Go.IntKind.i64 (Int.sub x y)), .int .i64 (.ofNat 0)]))))))) := by kernel_rfl
theorem run22 (n : Nat) (x : Int) (y : Int) (r : Int × Int) (h : F22 x y = some r) : Go.Sx.Run Tryd.prog Tryd.f22 vars (.tup [.int .i64 r.1, .int .i64 r.2]) [] (.code body22 (Go.Sx.startA [.int .i64 x, .int .i64 y] Tryd.f22) (Go.Sx.laidHeap vars)) := by
  exact Go.Sx.wpS_run (L := vars) (by kernel_rfl) (form22 n x y (.tup [.int .i64 r.1, .int .i64 r.2])) ((fun h => ⟨fact14 (x), (Go.Sx.br_of (fun h0 => (fun h => by cases h; rfl)) (fun h0 => (fun h => ⟨fact14 (y), (Go.Sx.br_of (fun h1 => (fun h => by cases h; rfl)) (fun h1 => (fun h => ⟨fact14 (Go.Sx.wrapA Go.IntKind.i64 (Int.sub x y)), (Go.Sx.br_of (fun h2 => (fun h => by cases h; rfl)) (fun h2 => (fun h => by cases h; rfl))) h⟩))) h⟩))) h⟩) h)
noncomputable def F22_0 (x : Int) (y : Int) : Int := ((F22 x y).getD default).1
noncomputable def F22_1 (x : Int) (y : Int) : Int := ((F22 x y).getD default).2
theorem F22_some (x : Int) (y : Int) : (F22 x y).isSome = true := by
  unfold F22
  repeat' (first | rfl | apply Go.Sx.some_br)
theorem fact22 (x : Int) (y : Int) : Go.Sx.Fact Tryd.prog vars 22 [.int .i64 x, .int .i64 y] (.tup [.int .i64 (F22_0 x y), .int .i64 (F22_1 x y)]) := Go.Sx.fact_of_run okayed (by kernel_rfl) (by kernel_rfl) (by kernel_rfl) Tryd.func22 body22_eq (run22 0 x y ((F22 x y).getD default) (Go.Sx.getD_some (F22_some x y)))
noncomputable def body23 : Go.Code := (Tryd.f23.body).getD .skip
theorem body23_eq : Tryd.f23.body = some body23 := Go.Sx.some_getD (by kernel_rfl)
noncomputable def F23 (x : Int) (y : Int) : Option (Int × Int) := (some ((F47_0 (Go.Sx.wrapA Go.IntKind.i64 (Int.sub x y))), (F47_1 (Go.Sx.wrapA Go.IntKind.i64 (Int.sub x y)))))
theorem form23 (n : Nat) (x : Int) (y : Int) (vz : Go.Sx.AV) : Go.Sx.wpS Tryd.prog Tryd.f23 vars vz (.st [0, 0, 2, 2, 0, 0, 0, 0, 2, 2, 2] (.use (.tup [.int .i64 (F47_0 (Go.Sx.wrapA Go.IntKind.i64 (Int.sub x y))), .int .i64 (F47_1 (Go.Sx.wrapA Go.IntKind.i64 (Int.sub x y)))]) (.st [2, 2, 2, 2, 0, 0, 2] .ans))) [] (.code body23 (Go.Sx.startA [.int .i64 x, .int .i64 y] Tryd.f23) (Go.Sx.laidHeap vars)) = (Go.Sx.Fact Tryd.prog vars 47 [.int .i64 (Go.Sx.wrapA Go.IntKind.i64 (Int.sub x y))] (.tup [.int .i64 (F47_0 (Go.Sx.wrapA Go.IntKind.i64 (Int.sub x y))), .int .i64 (F47_1 (Go.Sx.wrapA Go.IntKind.i64 (Int.sub x y)))]) ∧ (vz = .tup [.int .i64 (F47_0 (Go.Sx.wrapA Go.IntKind.i64 (Int.sub x y))), .int .i64 (F47_1 (Go.Sx.wrapA Go.IntKind.i64 (Int.sub x y)))])) := by kernel_rfl
theorem run23 (n : Nat) (x : Int) (y : Int) (r : Int × Int) (h : F23 x y = some r) : Go.Sx.Run Tryd.prog Tryd.f23 vars (.tup [.int .i64 r.1, .int .i64 r.2]) [] (.code body23 (Go.Sx.startA [.int .i64 x, .int .i64 y] Tryd.f23) (Go.Sx.laidHeap vars)) := by
  exact Go.Sx.wpS_run (L := vars) (by kernel_rfl) (form23 n x y (.tup [.int .i64 r.1, .int .i64 r.2])) ((fun h => ⟨fact47 (Go.Sx.wrapA Go.IntKind.i64 (Int.sub x y)), (fun h => by cases h; rfl) h⟩) h)
noncomputable def F23_0 (x : Int) (y : Int) : Int := ((F23 x y).getD default).1
noncomputable def F23_1 (x : Int) (y : Int) : Int := ((F23 x y).getD default).2
theorem F23_some (x : Int) (y : Int) : (F23 x y).isSome = true := by
  unfold F23
  repeat' (first | rfl | apply Go.Sx.some_br)
theorem fact23 (x : Int) (y : Int) : Go.Sx.Fact Tryd.prog vars 23 [.int .i64 x, .int .i64 y] (.tup [.int .i64 (F23_0 x y), .int .i64 (F23_1 x y)]) := Go.Sx.fact_of_run okayed (by kernel_rfl) (by kernel_rfl) (by kernel_rfl) Tryd.func23 body23_eq (run23 0 x y ((F23 x y).getD default) (Go.Sx.getD_some (F23_some x y)))
noncomputable def body50 : Go.Code := (Tryd.f50.body).getD .skip
theorem body50_eq : Tryd.f50.body = some body50 := Go.Sx.some_getD (by kernel_rfl)
noncomputable def F50 (x : Int) (y : Int) : Option (Int) := (bif (!Go.Sx.eqI y 0) then (bif (Go.Sx.ltI (Int.tmod x y) 0) then (some (Go.Sx.wrapA Go.IntKind.i64 (Int.sub (Go.Sx.wrapA Go.IntKind.i64 (Int.tdiv x y)) 1))) else (some (Go.Sx.wrapA Go.IntKind.i64 (Int.tdiv x y)))) else none)
theorem form50 (n : Nat) (x : Int) (y : Int) (vz : Go.Sx.AV) : Go.Sx.wpS Tryd.prog Tryd.f50 vars vz (.st [0, 0, 2, 0, 0, 0, 0, 0, 2, 2] (.sp 2 (.st [2, 0, 0] (.br 8 (.st [0, 0, 0, 2, 2] (.sp 2 (.st [2, 2, 0, 0, 2, 0] .ans))) (.st [0, 2, 0, 0, 0, 2, 2] (.sp 2 (.st [2, 0, 0, 2] .ans))))))) [] (.code body50 (Go.Sx.startA [.int .i64 x, .int .i64 y] Tryd.f50) (Go.Sx.laidHeap vars)) = (Go.Sx.AN (!Go.Sx.eqI y 0) (Go.Sx.BR (Go.Sx.ltI (Int.tmod x y) 0) (Go.Sx.AN (!Go.Sx.eqI y 0) (vz = .int .i64 (Go.Sx.wrapA Go.IntKind.i64 (Int.sub (Go.Sx.wrapA Go.IntKind.i64 (Int.tdiv x y)) 1)))) (Go.Sx.AN (!Go.Sx.eqI y 0) (vz = .int .i64 (Go.Sx.wrapA Go.IntKind.i64 (Int.tdiv x y)))))) := by kernel_rfl
theorem run50 (n : Nat) (x : Int) (y : Int) (r : Int) (h : F50 x y = some r) : Go.Sx.Run Tryd.prog Tryd.f50 vars (.int .i64 r) [] (.code body50 (Go.Sx.startA [.int .i64 x, .int .i64 y] Tryd.f50) (Go.Sx.laidHeap vars)) := by
  exact Go.Sx.wpS_run (L := vars) (by kernel_rfl) (form50 n x y (.int .i64 r)) ((Go.Sx.guard_of fun h0 => (fun h => ⟨h0, (Go.Sx.br_of (fun h1 => (fun h => ⟨h0, (fun h => by cases h; rfl) h⟩)) (fun h1 => (fun h => ⟨h0, (fun h => by cases h; rfl) h⟩))) h⟩)) h)
noncomputable def F50_0 (x : Int) (y : Int) : Int := ((F50 x y).getD default)
theorem fact50 (x : Int) (y : Int) (h : (F50 x y).isSome = true) : Go.Sx.Fact Tryd.prog vars 50 [.int .i64 x, .int .i64 y] (.int .i64 (F50_0 x y)) := Go.Sx.fact_of_run okayed (by kernel_rfl) (by kernel_rfl) (by kernel_rfl) Tryd.func50 body50_eq (run50 0 x y ((F50 x y).getD default) (Go.Sx.getD_some h))
noncomputable def body52 : Go.Code := (Tryd.f52.body).getD .skip
theorem body52_eq : Tryd.f52.body = some body52 := Go.Sx.some_getD (by kernel_rfl)
noncomputable def F52 (x : Int) (y : Int) : Option (Int) := (bif (!Go.Sx.eqI y 0) then (bif (Go.Sx.ltI (Int.tmod x y) 0) then (some (Go.Sx.wrapA Go.IntKind.i64 (Int.sub (Go.Sx.wrapA Go.IntKind.i64 (Int.tdiv x y)) 1))) else (some (Go.Sx.wrapA Go.IntKind.i64 (Int.tdiv x y)))) else none)
theorem form52 (n : Nat) (x : Int) (y : Int) (vz : Go.Sx.AV) : Go.Sx.wpS Tryd.prog Tryd.f52 vars vz (.st [0, 0, 2, 0, 0, 0, 0, 2, 2] (.sp 2 (.st [2, 0, 0, 0, 0, 0, 2, 2] (.sp 2 (.st [2, 0, 0] (.br 12 (.st [0, 0, 2, 2, 2, 0, 0, 0, 0, 2, 2, 0, 0, 2] .ans) (.st [0, 2, 0, 0, 0, 2, 2, 0, 0, 2] .ans))))))) [] (.code body52 (Go.Sx.startA [.int .i64 x, .int .i64 y] Tryd.f52) (Go.Sx.laidHeap vars)) = (Go.Sx.AN (!Go.Sx.eqI y 0) (Go.Sx.AN (!Go.Sx.eqI y 0) (Go.Sx.BR (Go.Sx.ltI (Int.tmod x y) 0) (vz = .int .i64 (Go.Sx.wrapA Go.IntKind.i64 (Int.sub (Go.Sx.wrapA Go.IntKind.i64 (Int.tdiv x y)) 1))) (vz = .int .i64 (Go.Sx.wrapA Go.IntKind.i64 (Int.tdiv x y)))))) := by kernel_rfl
theorem run52 (n : Nat) (x : Int) (y : Int) (r : Int) (h : F52 x y = some r) : Go.Sx.Run Tryd.prog Tryd.f52 vars (.int .i64 r) [] (.code body52 (Go.Sx.startA [.int .i64 x, .int .i64 y] Tryd.f52) (Go.Sx.laidHeap vars)) := by
  exact Go.Sx.wpS_run (L := vars) (by kernel_rfl) (form52 n x y (.int .i64 r)) ((Go.Sx.guard_of fun h0 => (fun h => ⟨h0, (fun h => ⟨h0, (Go.Sx.br_of (fun h1 => (fun h => by cases h; rfl)) (fun h1 => (fun h => by cases h; rfl))) h⟩) h⟩)) h)
noncomputable def F52_0 (x : Int) (y : Int) : Int := ((F52 x y).getD default)
theorem fact52 (x : Int) (y : Int) (h : (F52 x y).isSome = true) : Go.Sx.Fact Tryd.prog vars 52 [.int .i64 x, .int .i64 y] (.int .i64 (F52_0 x y)) := Go.Sx.fact_of_run okayed (by kernel_rfl) (by kernel_rfl) (by kernel_rfl) Tryd.func52 body52_eq (run52 0 x y ((F52 x y).getD default) (Go.Sx.getD_some h))
noncomputable def body24 : Go.Code := (Tryd.f24.body).getD .skip
theorem body24_eq : Tryd.f24.body = some body24 := Go.Sx.some_getD (by kernel_rfl)
noncomputable def t24_0 (x : Int) (y : Int) : Int := (Int.fdiv (Go.Sx.wrapA Go.IntKind.i64 (Int.add (Go.Sx.wrapA Go.IntKind.i64 (Int.mul x y)) 32768)) (65536))
noncomputable def F24 (x : Int) (y : Int) : Option (Int × Int) := (bif (!F14_0 x) then (some (0, 2)) else (bif (!F14_0 y) then (some (0, 2)) else (bif (!F14_0 (t24_0 x y)) then (some (0, 25)) else (some ((t24_0 x y), 0)))))
theorem form24 (n : Nat) (x : Int) (y : Int) (vz : Go.Sx.AV) : Go.Sx.wpS Tryd.prog Tryd.f24 vars vz (.st [0, 0, 2, 2, 0, 0, 0, 0, 2, 2, 0, 0, 0, 2, 2, 0, 0, 0, 0, 0, 2] (.use (.bool (F14_0 x)) (.st [2, 2] (.br 12 (.st [2, 2, 2, 2, 0, 0, 0, 0, 0, 2, 2, 0, 0, 2, 0, 0, 2, 2, 2, 2, 0, 0, 2] .ans) (.st [2] (.use (.bool (F14_0 y)) (.st [2, 2, 0, 0] (.br 16 (.st [0, 0, 0, 2, 2, 0, 0, 2, 0, 0, 2, 2, 2, 2, 0, 0, 2] .ans) (.st [0, 2, 0, 0, 0, 2, 2, 2, 0, 0, 0, 2, 0, 0, 0, 0, 2, 2, 2, 2, 2, 2, 0, 0, 2, 0, 2, 0, 0, 0, 0, 0, 2] (.use (.bool (F14_0 (t24_0 x y))) (.st [2, 0, 0] (.br 23 (.st [0, 0, 0, 2, 2, 0, 0, 2, 0, 0, 2, 2, 2, 2, 0, 0, 2] .ans) (.st [0, 2, 0, 0, 0, 2, 2, 2, 0, 0, 2, 0, 2, 2, 2, 2, 0, 0, 2] .ans))))))))))))) [] (.code body24 (Go.Sx.startA [.int .i64 x, .int .i64 y] Tryd.f24) (Go.Sx.laidHeap vars)) = (Go.Sx.Fact Tryd.prog vars 14 [.int .i64 (x)] (.bool (F14_0 x)) ∧ (Go.Sx.BR (!F14_0 x) (vz = .tup [.int .i64 (.ofNat 0), .int .i64 (.ofNat 2)]) (Go.Sx.Fact Tryd.prog vars 14 [.int .i64 (y)] (.bool (F14_0 y)) ∧ (Go.Sx.BR (!F14_0 y) (vz = .tup [.int .i64 (.ofNat 0), .int .i64 (.ofNat 2)]) (Go.Sx.Fact Tryd.prog vars 14 [.int .i64 (t24_0 x y)] (.bool (F14_0 (t24_0 x y))) ∧ (Go.Sx.BR (!F14_0 (t24_0 x y)) (vz = .tup [.int .i64 (.ofNat 0), .int .i64 (.ofNat 25)]) (vz = .tup [.int .i64 (t24_0 x y), .int .i64 (.ofNat 0)]))))))) := by kernel_rfl
theorem run24 (n : Nat) (x : Int) (y : Int) (r : Int × Int) (h : F24 x y = some r) : Go.Sx.Run Tryd.prog Tryd.f24 vars (.tup [.int .i64 r.1, .int .i64 r.2]) [] (.code body24 (Go.Sx.startA [.int .i64 x, .int .i64 y] Tryd.f24) (Go.Sx.laidHeap vars)) := by
  exact Go.Sx.wpS_run (L := vars) (by kernel_rfl) (form24 n x y (.tup [.int .i64 r.1, .int .i64 r.2])) ((fun h => ⟨fact14 (x), (Go.Sx.br_of (fun h0 => (fun h => by cases h; rfl)) (fun h0 => (fun h => ⟨fact14 (y), (Go.Sx.br_of (fun h1 => (fun h => by cases h; rfl)) (fun h1 => (fun h => ⟨fact14 (t24_0 x y), (Go.Sx.br_of (fun h2 => (fun h => by cases h; rfl)) (fun h2 => (fun h => by cases h; rfl))) h⟩))) h⟩))) h⟩) h)
noncomputable def F24_0 (x : Int) (y : Int) : Int := ((F24 x y).getD default).1
noncomputable def F24_1 (x : Int) (y : Int) : Int := ((F24 x y).getD default).2
theorem F24_some (x : Int) (y : Int) : (F24 x y).isSome = true := by
  unfold F24
  repeat' (first | rfl | apply Go.Sx.some_br)
theorem fact24 (x : Int) (y : Int) : Go.Sx.Fact Tryd.prog vars 24 [.int .i64 x, .int .i64 y] (.tup [.int .i64 (F24_0 x y), .int .i64 (F24_1 x y)]) := Go.Sx.fact_of_run okayed (by kernel_rfl) (by kernel_rfl) (by kernel_rfl) Tryd.func24 body24_eq (run24 0 x y ((F24 x y).getD default) (Go.Sx.getD_some (F24_some x y)))
noncomputable def body25 : Go.Code := (Tryd.f25.body).getD .skip
theorem body25_eq : Tryd.f25.body = some body25 := Go.Sx.some_getD (by kernel_rfl)
noncomputable def t25_0 (x : Int) (y : Int) : Int := (F50_0 (Go.Sx.wrapA Go.IntKind.i64 (Int.add (Go.Sx.wrapA Go.IntKind.i64 (Int.mul x y)) 32768)) (65536))
noncomputable def F25 (x : Int) (y : Int) : Option (Int × Int) := (bif (Option.isSome (F50 (Go.Sx.wrapA Go.IntKind.i64 (Int.add (Go.Sx.wrapA Go.IntKind.i64 (Int.mul x y)) 32768)) 65536)) then (some ((F47_0 (t25_0 x y)), (F47_1 (t25_0 x y)))) else none)
theorem form25 (n : Nat) (x : Int) (y : Int) (vz : Go.Sx.AV) : Go.Sx.wpS Tryd.prog Tryd.f25 vars vz (.st [0, 0, 2, 2, 0, 0, 0, 0, 2, 2, 2, 2] (.use (.int .i64 (F50_0 (Go.Sx.wrapA Go.IntKind.i64 (Int.add (Go.Sx.wrapA Go.IntKind.i64 (Int.mul x y)) 32768)) (Int.ofNat 65536))) (.use (.tup [.int .i64 (F47_0 (t25_0 x y)), .int .i64 (F47_1 (t25_0 x y))]) (.st [2, 2, 2, 2, 0, 0, 2] .ans)))) [] (.code body25 (Go.Sx.startA [.int .i64 x, .int .i64 y] Tryd.f25) (Go.Sx.laidHeap vars)) = (Go.Sx.Fact Tryd.prog vars 50 [.int .i64 (Go.Sx.wrapA Go.IntKind.i64 (Int.add (Go.Sx.wrapA Go.IntKind.i64 (Int.mul x y)) 32768)), .int .i64 (.ofNat 65536)] (.int .i64 (F50_0 (Go.Sx.wrapA Go.IntKind.i64 (Int.add (Go.Sx.wrapA Go.IntKind.i64 (Int.mul x y)) 32768)) (Int.ofNat 65536))) ∧ (Go.Sx.Fact Tryd.prog vars 47 [.int .i64 (t25_0 x y)] (.tup [.int .i64 (F47_0 (t25_0 x y)), .int .i64 (F47_1 (t25_0 x y))]) ∧ (vz = .tup [.int .i64 (F47_0 (t25_0 x y)), .int .i64 (F47_1 (t25_0 x y))]))) := by kernel_rfl
theorem run25 (n : Nat) (x : Int) (y : Int) (r : Int × Int) (h : F25 x y = some r) : Go.Sx.Run Tryd.prog Tryd.f25 vars (.tup [.int .i64 r.1, .int .i64 r.2]) [] (.code body25 (Go.Sx.startA [.int .i64 x, .int .i64 y] Tryd.f25) (Go.Sx.laidHeap vars)) := by
  exact Go.Sx.wpS_run (L := vars) (by kernel_rfl) (form25 n x y (.tup [.int .i64 r.1, .int .i64 r.2])) ((Go.Sx.guard_of fun h0 => (fun h => ⟨fact50 (Go.Sx.wrapA Go.IntKind.i64 (Int.add (Go.Sx.wrapA Go.IntKind.i64 (Int.mul x y)) 32768)) (65536) h0, (fun h => ⟨fact47 (t25_0 x y), (fun h => by cases h; rfl) h⟩) h⟩)) h)
noncomputable def F25_0 (x : Int) (y : Int) : Int := ((F25 x y).getD default).1
noncomputable def F25_1 (x : Int) (y : Int) : Int := ((F25 x y).getD default).2
theorem fact25 (x : Int) (y : Int) (h : (F25 x y).isSome = true) : Go.Sx.Fact Tryd.prog vars 25 [.int .i64 x, .int .i64 y] (.tup [.int .i64 (F25_0 x y), .int .i64 (F25_1 x y)]) := Go.Sx.fact_of_run okayed (by kernel_rfl) (by kernel_rfl) (by kernel_rfl) Tryd.func25 body25_eq (run25 0 x y ((F25 x y).getD default) (Go.Sx.getD_some h))
noncomputable def body26 : Go.Code := (Tryd.f26.body).getD .skip
theorem body26_eq : Tryd.f26.body = some body26 := Go.Sx.some_getD (by kernel_rfl)
noncomputable def t26_0 (x : Int) (y : Int) : Int := (Go.Sx.wrapA Go.IntKind.i64 (Int.add (Go.Sx.wrapA Go.IntKind.i64 (Int.mul (Go.Sx.wrapA Go.IntKind.i64 (Int.mul 2 (Go.IntKind.wrap Go.IntKind.i64 (0 - x)))) 65536)) (Go.IntKind.wrap Go.IntKind.i64 (0 - y))))
noncomputable def t26_1 (y : Int) : Int := (Go.Sx.wrapA Go.IntKind.i64 (Int.mul 2 (Go.IntKind.wrap Go.IntKind.i64 (0 - y))))
noncomputable def t26_2 (x : Int) (y : Int) : Int := (Go.Sx.wrapA Go.IntKind.i64 (Int.add (Go.Sx.wrapA Go.IntKind.i64 (Int.mul (Go.Sx.wrapA Go.IntKind.i64 (Int.mul 2 x)) 65536)) y))
noncomputable def F26 (x : Int) (y : Int) : Option (Int × Int) := (bif (Go.Sx.eqI y 0) then (bif (F14_0 x) then (some (0, 25)) else (some (0, 2))) else (bif (!F14_0 x) then (some (0, 2)) else (bif (!F14_0 y) then (some (0, 2)) else (bif (Go.Sx.ltI y 0) then (bif (Option.isSome (F52 (t26_0 x y) (t26_1 y))) then (bif (!F14_0 (F52_0 (t26_0 x y) (t26_1 y))) then (some (0, 25)) else (some ((F52_0 (t26_0 x y) (t26_1 y)), 0))) else none) else (bif (Option.isSome (F52 (t26_2 x y) (Go.Sx.wrapA Go.IntKind.i64 (Int.mul 2 y)))) then (bif (!F14_0 (F52_0 (t26_2 x y) (Go.Sx.wrapA Go.IntKind.i64 (Int.mul 2 y)))) then (some (0, 25)) else (some ((F52_0 (t26_2 x y) (Go.Sx.wrapA Go.IntKind.i64 (Int.mul 2 y))), 0))) else none)))))
theorem form26 (n : Nat) (x : Int) (y : Int) (vz : Go.Sx.AV) : Go.Sx.wpS Tryd.prog Tryd.f26 vars vz (.st [0, 0, 2, 2, 0, 0, 0, 0, 0, 2, 2, 2] (.br 8 (.st [2] (.use (.bool (F14_0 x)) (.st [2, 0, 0] (.br 11 (.st [0, 0, 0, 2, 2, 0, 0, 2, 0] .ans) (.st [0, 2, 0, 0, 0, 2, 2, 0, 0, 0, 2, 2, 0, 0, 0, 0, 0, 2] (.use (.bool (F14_0 x)) (.st [2, 2] (.br 12 (.st [2, 2, 2, 2, 0, 0, 0, 0, 0, 2, 2, 0, 0, 2, 0, 0, 2, 2, 2, 2, 0, 0, 2] .ans) .dead)))))))) (.st [2, 2, 2, 0, 0, 0, 2, 0, 0, 0, 2, 2, 0, 0, 0, 2, 2, 0, 0, 0, 0, 0, 2] (.use (.bool (F14_0 x)) (.st [2, 2] (.br 12 (.st [2, 2, 2, 2, 0, 0, 0, 0, 0, 2, 2, 0, 0, 2, 0, 0, 2, 2, 2, 2, 0, 0, 2] .ans) (.st [2] (.use (.bool (F14_0 y)) (.st [2, 2, 0, 0] (.br 16 (.st [0, 0, 0, 2, 2, 0, 0, 2, 0, 0, 2, 2, 2, 2, 0, 0, 2] .ans) (.st [0, 2, 0, 0, 0, 2, 2, 2, 0, 0, 0, 2, 0, 0, 0, 0, 0, 2, 2, 0, 0] (.br 6 (.st [0, 0, 2, 2, 2, 2, 2, 2, 0, 0, 0, 0, 2, 2, 2, 2, 2, 2, 2] (.use (.int .i64 (F52_0 (t26_0 x y) (t26_1 y))) (.st [2, 0, 0, 2, 0, 2, 0, 0, 0, 0, 0, 2] (.use (.bool (F14_0 (F52_0 (t26_0 x y) (t26_1 y)))) (.st [2, 0, 0] (.br 23 (.st [0, 0, 0, 2, 2, 0, 0, 2, 0, 0, 2, 2, 2, 2, 0, 0, 2] .ans) (.st [0, 2, 0, 0, 0, 2, 2, 2, 0, 0, 2, 0, 2, 2, 2, 2, 0, 0, 2] .ans))))))) (.st [0, 2, 0, 0, 0, 2, 2, 2, 2, 2, 2, 2] (.use (.int .i64 (F52_0 (t26_2 x y) (Go.Sx.wrapA Go.IntKind.i64 (Int.mul 2 y)))) (.st [2, 0, 0, 2, 0, 2, 0, 0, 0, 0, 0, 2] (.use (.bool (F14_0 (F52_0 (t26_2 x y) (Go.Sx.wrapA Go.IntKind.i64 (Int.mul 2 y))))) (.st [2, 0, 0] (.br 23 (.st [0, 0, 0, 2, 2, 0, 0, 2, 0, 0, 2, 2, 2, 2, 0, 0, 2] .ans) (.st [0, 2, 0, 0, 0, 2, 2, 2, 0, 0, 2, 0, 2, 2, 2, 2, 0, 0, 2] .ans))))))))))))))))))) [] (.code body26 (Go.Sx.startA [.int .i64 x, .int .i64 y] Tryd.f26) (Go.Sx.laidHeap vars)) = (Go.Sx.BR (Go.Sx.eqI y 0) (Go.Sx.Fact Tryd.prog vars 14 [.int .i64 (x)] (.bool (F14_0 x)) ∧ (Go.Sx.BR (F14_0 x) (vz = .tup [.int .i64 (.ofNat 0), .int .i64 (.ofNat 25)]) (Go.Sx.Fact Tryd.prog vars 14 [.int .i64 (x)] (.bool (F14_0 x)) ∧ (Go.Sx.BR (!F14_0 x) (vz = .tup [.int .i64 (.ofNat 0), .int .i64 (.ofNat 2)]) False)))) (Go.Sx.Fact Tryd.prog vars 14 [.int .i64 (x)] (.bool (F14_0 x)) ∧ (Go.Sx.BR (!F14_0 x) (vz = .tup [.int .i64 (.ofNat 0), .int .i64 (.ofNat 2)]) (Go.Sx.Fact Tryd.prog vars 14 [.int .i64 (y)] (.bool (F14_0 y)) ∧ (Go.Sx.BR (!F14_0 y) (vz = .tup [.int .i64 (.ofNat 0), .int .i64 (.ofNat 2)]) (Go.Sx.BR (Go.Sx.ltI y 0) (Go.Sx.Fact Tryd.prog vars 52 [.int .i64 (t26_0 x y), .int .i64 (t26_1 y)] (.int .i64 (F52_0 (t26_0 x y) (t26_1 y))) ∧ (Go.Sx.Fact Tryd.prog vars 14 [.int .i64 (F52_0 (t26_0 x y) (t26_1 y))] (.bool (F14_0 (F52_0 (t26_0 x y) (t26_1 y)))) ∧ (Go.Sx.BR (!F14_0 (F52_0 (t26_0 x y) (t26_1 y))) (vz = .tup [.int .i64 (.ofNat 0), .int .i64 (.ofNat 25)]) (vz = .tup [.int .i64 (F52_0 (t26_0 x y) (t26_1 y)), .int .i64 (.ofNat 0)])))) (Go.Sx.Fact Tryd.prog vars 52 [.int .i64 (t26_2 x y), .int .i64 (Go.Sx.wrapA Go.IntKind.i64 (Int.mul 2 y))] (.int .i64 (F52_0 (t26_2 x y) (Go.Sx.wrapA Go.IntKind.i64 (Int.mul 2 y)))) ∧ (Go.Sx.Fact Tryd.prog vars 14 [.int .i64 (F52_0 (t26_2 x y) (Go.Sx.wrapA Go.IntKind.i64 (Int.mul 2 y)))] (.bool (F14_0 (F52_0 (t26_2 x y) (Go.Sx.wrapA Go.IntKind.i64 (Int.mul 2 y))))) ∧ (Go.Sx.BR (!F14_0 (F52_0 (t26_2 x y) (Go.Sx.wrapA Go.IntKind.i64 (Int.mul 2 y)))) (vz = .tup [.int .i64 (.ofNat 0), .int .i64 (.ofNat 25)]) (vz = .tup [.int .i64 (F52_0 (t26_2 x y) (Go.Sx.wrapA Go.IntKind.i64 (Int.mul 2 y))), .int .i64 (.ofNat 0)])))))))))) := by kernel_rfl
theorem run26 (n : Nat) (x : Int) (y : Int) (r : Int × Int) (h : F26 x y = some r) : Go.Sx.Run Tryd.prog Tryd.f26 vars (.tup [.int .i64 r.1, .int .i64 r.2]) [] (.code body26 (Go.Sx.startA [.int .i64 x, .int .i64 y] Tryd.f26) (Go.Sx.laidHeap vars)) := by
  exact Go.Sx.wpS_run (L := vars) (by kernel_rfl) (form26 n x y (.tup [.int .i64 r.1, .int .i64 r.2])) ((Go.Sx.br_of (fun h0 => (fun h => ⟨fact14 (x), (Go.Sx.br_of (fun h1 => (fun h => by cases h; rfl)) (fun h1 => (fun h => ⟨fact14 (x), (fun h => ⟨fun _ => (fun h => by cases h; rfl) h, fun q => Go.Sx.tf (Go.Sx.not_t h1) q⟩) h⟩))) h⟩)) (fun h0 => (fun h => ⟨fact14 (x), (Go.Sx.br_of (fun h2 => (fun h => by cases h; rfl)) (fun h2 => (fun h => ⟨fact14 (y), (Go.Sx.br_of (fun h3 => (fun h => by cases h; rfl)) (fun h3 => (Go.Sx.br_of (fun h4 => (Go.Sx.guard_of fun h5 => (fun h => ⟨fact52 (t26_0 x y) (t26_1 y) h5, (fun h => ⟨fact14 (F52_0 (t26_0 x y) (t26_1 y)), (Go.Sx.br_of (fun h6 => (fun h => by cases h; rfl)) (fun h6 => (fun h => by cases h; rfl))) h⟩) h⟩))) (fun h4 => (Go.Sx.guard_of fun h7 => (fun h => ⟨fact52 (t26_2 x y) (Go.Sx.wrapA Go.IntKind.i64 (Int.mul 2 y)) h7, (fun h => ⟨fact14 (F52_0 (t26_2 x y) (Go.Sx.wrapA Go.IntKind.i64 (Int.mul 2 y))), (Go.Sx.br_of (fun h8 => (fun h => by cases h; rfl)) (fun h8 => (fun h => by cases h; rfl))) h⟩) h⟩)))))) h⟩))) h⟩))) h)
noncomputable def F26_0 (x : Int) (y : Int) : Int := ((F26 x y).getD default).1
noncomputable def F26_1 (x : Int) (y : Int) : Int := ((F26 x y).getD default).2
theorem fact26 (x : Int) (y : Int) (h : (F26 x y).isSome = true) : Go.Sx.Fact Tryd.prog vars 26 [.int .i64 x, .int .i64 y] (.tup [.int .i64 (F26_0 x y), .int .i64 (F26_1 x y)]) := Go.Sx.fact_of_run okayed (by kernel_rfl) (by kernel_rfl) (by kernel_rfl) Tryd.func26 body26_eq (run26 0 x y ((F26 x y).getD default) (Go.Sx.getD_some h))
noncomputable def body27 : Go.Code := (Tryd.f27.body).getD .skip
theorem body27_eq : Tryd.f27.body = some body27 := Go.Sx.some_getD (by kernel_rfl)
noncomputable def t27_0 (x : Int) (y : Int) : Int := (Go.Sx.wrapA Go.IntKind.i64 (Int.add (Go.Sx.wrapA Go.IntKind.i64 (Int.mul 131072 (Go.IntKind.wrap Go.IntKind.i64 (0 - x)))) (Go.IntKind.wrap Go.IntKind.i64 (0 - y))))
noncomputable def t27_1 (y : Int) : Int := (Go.Sx.wrapA Go.IntKind.i64 (Int.mul 2 (Go.IntKind.wrap Go.IntKind.i64 (0 - y))))
noncomputable def t27_2 (x : Int) (y : Int) : Int := (F50_0 (Go.Sx.wrapA Go.IntKind.i64 (Int.add (Go.Sx.wrapA Go.IntKind.i64 (Int.mul 131072 x)) y)) (Go.Sx.wrapA Go.IntKind.i64 (Int.mul 2 y)))
noncomputable def F27 (x : Int) (y : Int) : Option (Int × Int) := (bif (Go.Sx.eqI y 0) then (some (0, 25)) else (bif (Go.Sx.ltI y 0) then (bif (Option.isSome (F50 (t27_0 x y) (t27_1 y))) then (some ((F47_0 (F50_0 (t27_0 x y) (t27_1 y))), (F47_1 (F50_0 (t27_0 x y) (t27_1 y))))) else none) else (bif (Option.isSome (F50 (Go.Sx.wrapA Go.IntKind.i64 (Int.add (Go.Sx.wrapA Go.IntKind.i64 (Int.mul 131072 x)) y)) (Go.Sx.wrapA Go.IntKind.i64 (Int.mul 2 y)))) then (some ((F47_0 (t27_2 x y)), (F47_1 (t27_2 x y)))) else none)))
theorem form27 (n : Nat) (x : Int) (y : Int) (vz : Go.Sx.AV) : Go.Sx.wpS Tryd.prog Tryd.f27 vars vz (.st [0, 0, 2, 2, 0, 0, 0, 0, 0, 2, 2, 0, 0] (.br 7 (.st [0, 0, 0, 2, 2, 0, 0, 2, 0] .ans) (.st [0, 2, 0, 0, 0, 0, 2, 2, 0, 0] (.br 9 (.st [0, 0, 0, 2, 2, 2, 0, 0, 0, 2, 2, 2, 0, 0, 0, 0, 2, 2, 2, 2, 2, 2] (.use (.int .i64 (F50_0 (t27_0 x y) (t27_1 y))) (.use (.tup [.int .i64 (F47_0 (F50_0 (t27_0 x y) (t27_1 y))), .int .i64 (F47_1 (F50_0 (t27_0 x y) (t27_1 y)))]) (.st [2, 2, 2, 2, 0, 0, 2] .ans)))) (.st [0, 2, 0, 0, 0, 2, 2, 2, 2, 2, 2] (.use (.int .i64 (F50_0 (Go.Sx.wrapA Go.IntKind.i64 (Int.add (Go.Sx.wrapA Go.IntKind.i64 (Int.mul 131072 x)) y)) (Go.Sx.wrapA Go.IntKind.i64 (Int.mul 2 y)))) (.use (.tup [.int .i64 (F47_0 (t27_2 x y)), .int .i64 (F47_1 (t27_2 x y))]) (.st [2, 2, 2, 2, 0, 0, 2] .ans)))))))) [] (.code body27 (Go.Sx.startA [.int .i64 x, .int .i64 y] Tryd.f27) (Go.Sx.laidHeap vars)) = (Go.Sx.BR (Go.Sx.eqI y 0) (vz = .tup [.int .i64 (.ofNat 0), .int .i64 (.ofNat 25)]) (Go.Sx.BR (Go.Sx.ltI y 0) (Go.Sx.Fact Tryd.prog vars 50 [.int .i64 (t27_0 x y), .int .i64 (t27_1 y)] (.int .i64 (F50_0 (t27_0 x y) (t27_1 y))) ∧ (Go.Sx.Fact Tryd.prog vars 47 [.int .i64 (F50_0 (t27_0 x y) (t27_1 y))] (.tup [.int .i64 (F47_0 (F50_0 (t27_0 x y) (t27_1 y))), .int .i64 (F47_1 (F50_0 (t27_0 x y) (t27_1 y)))]) ∧ (vz = .tup [.int .i64 (F47_0 (F50_0 (t27_0 x y) (t27_1 y))), .int .i64 (F47_1 (F50_0 (t27_0 x y) (t27_1 y)))]))) (Go.Sx.Fact Tryd.prog vars 50 [.int .i64 (Go.Sx.wrapA Go.IntKind.i64 (Int.add (Go.Sx.wrapA Go.IntKind.i64 (Int.mul 131072 x)) y)), .int .i64 (Go.Sx.wrapA Go.IntKind.i64 (Int.mul 2 y))] (.int .i64 (F50_0 (Go.Sx.wrapA Go.IntKind.i64 (Int.add (Go.Sx.wrapA Go.IntKind.i64 (Int.mul 131072 x)) y)) (Go.Sx.wrapA Go.IntKind.i64 (Int.mul 2 y)))) ∧ (Go.Sx.Fact Tryd.prog vars 47 [.int .i64 (t27_2 x y)] (.tup [.int .i64 (F47_0 (t27_2 x y)), .int .i64 (F47_1 (t27_2 x y))]) ∧ (vz = .tup [.int .i64 (F47_0 (t27_2 x y)), .int .i64 (F47_1 (t27_2 x y))]))))) := by kernel_rfl
theorem run27 (n : Nat) (x : Int) (y : Int) (r : Int × Int) (h : F27 x y = some r) : Go.Sx.Run Tryd.prog Tryd.f27 vars (.tup [.int .i64 r.1, .int .i64 r.2]) [] (.code body27 (Go.Sx.startA [.int .i64 x, .int .i64 y] Tryd.f27) (Go.Sx.laidHeap vars)) := by
  exact Go.Sx.wpS_run (L := vars) (by kernel_rfl) (form27 n x y (.tup [.int .i64 r.1, .int .i64 r.2])) ((Go.Sx.br_of (fun h0 => (fun h => by cases h; rfl)) (fun h0 => (Go.Sx.br_of (fun h1 => (Go.Sx.guard_of fun h2 => (fun h => ⟨fact50 (t27_0 x y) (t27_1 y) h2, (fun h => ⟨fact47 (F50_0 (t27_0 x y) (t27_1 y)), (fun h => by cases h; rfl) h⟩) h⟩))) (fun h1 => (Go.Sx.guard_of fun h3 => (fun h => ⟨fact50 (Go.Sx.wrapA Go.IntKind.i64 (Int.add (Go.Sx.wrapA Go.IntKind.i64 (Int.mul 131072 x)) y)) (Go.Sx.wrapA Go.IntKind.i64 (Int.mul 2 y)) h3, (fun h => ⟨fact47 (t27_2 x y), (fun h => by cases h; rfl) h⟩) h⟩)))))) h)
noncomputable def F27_0 (x : Int) (y : Int) : Int := ((F27 x y).getD default).1
noncomputable def F27_1 (x : Int) (y : Int) : Int := ((F27 x y).getD default).2
theorem fact27 (x : Int) (y : Int) (h : (F27 x y).isSome = true) : Go.Sx.Fact Tryd.prog vars 27 [.int .i64 x, .int .i64 y] (.tup [.int .i64 (F27_0 x y), .int .i64 (F27_1 x y)]) := Go.Sx.fact_of_run okayed (by kernel_rfl) (by kernel_rfl) (by kernel_rfl) Tryd.func27 body27_eq (run27 0 x y ((F27 x y).getD default) (Go.Sx.getD_some h))
noncomputable def body53 : Go.Code := (Tryd.f53.body).getD .skip
theorem body53_eq : Tryd.f53.body = some body53 := Go.Sx.some_getD (by kernel_rfl)
noncomputable def F53 (x : Int) : Option (Int) := (some (Go.Sx.wrapA Go.IntKind.i64 (Int.mul (Int.fdiv x (65536)) (65536))))
theorem form53 (n : Nat) (x : Int) (vz : Go.Sx.AV) : Go.Sx.wpS Tryd.prog Tryd.f53 vars vz (.st [0, 0, 2, 0, 0, 0, 0, 2, 2, 2, 2, 0, 0, 2] .ans) [] (.code body53 (Go.Sx.startA [.int .i64 x] Tryd.f53) (Go.Sx.laidHeap vars)) = (vz = .int .i64 (Go.Sx.wrapA Go.IntKind.i64 (Int.mul (Int.fdiv x (Int.ofNat 65536)) (Int.ofNat 65536)))) := by kernel_rfl
theorem run53 (n : Nat) (x : Int) (r : Int) (h : F53 x = some r) : Go.Sx.Run Tryd.prog Tryd.f53 vars (.int .i64 r) [] (.code body53 (Go.Sx.startA [.int .i64 x] Tryd.f53) (Go.Sx.laidHeap vars)) := by
  exact Go.Sx.wpS_run (L := vars) (by kernel_rfl) (form53 n x (.int .i64 r)) ((fun h => by cases h; rfl) h)
noncomputable def F53_0 (x : Int) : Int := ((F53 x).getD default)
theorem F53_some (x : Int) : (F53 x).isSome = true := by
  unfold F53
  repeat' (first | rfl | apply Go.Sx.some_br)
theorem fact53 (x : Int) : Go.Sx.Fact Tryd.prog vars 53 [.int .i64 x] (.int .i64 (F53_0 x)) := Go.Sx.fact_of_run okayed (by kernel_rfl) (by kernel_rfl) (by kernel_rfl) Tryd.func53 body53_eq (run53 0 x ((F53 x).getD default) (Go.Sx.getD_some (F53_some x)))
noncomputable def body28 : Go.Code := (Tryd.f28.body).getD .skip
theorem body28_eq : Tryd.f28.body = some body28 := Go.Sx.some_getD (by kernel_rfl)
noncomputable def F28 (x : Int) : Option (Int × Int) := (bif (!F14_0 x) then (some (0, 2)) else (some ((F53_0 x), 0)))
theorem form28 (n : Nat) (x : Int) (vz : Go.Sx.AV) : Go.Sx.wpS Tryd.prog Tryd.f28 vars vz (.st [0, 0, 2, 2, 0, 0, 0, 0, 2, 0, 0, 0, 2, 2, 0, 0, 0, 0, 0, 2] (.use (.bool (F14_0 x)) (.st [2, 0, 0] (.br 8 (.st [0, 0, 0, 2, 2, 0, 0, 2, 0, 0, 2, 2, 2, 2, 0, 0, 2] .ans) (.st [0, 2, 0, 0, 0, 2, 2] (.use (.int .i64 (F53_0 x)) (.st [2, 2, 0, 0, 2, 0, 2, 2, 2, 2, 0, 0, 2] .ans))))))) [] (.code body28 (Go.Sx.startA [.int .i64 x] Tryd.f28) (Go.Sx.laidHeap vars)) = (Go.Sx.Fact Tryd.prog vars 14 [.int .i64 (x)] (.bool (F14_0 x)) ∧ (Go.Sx.BR (!F14_0 x) (vz = .tup [.int .i64 (.ofNat 0), .int .i64 (.ofNat 2)]) (Go.Sx.Fact Tryd.prog vars 53 [.int .i64 (x)] (.int .i64 (F53_0 x)) ∧ (vz = .tup [.int .i64 (F53_0 x), .int .i64 (.ofNat 0)])))) := by kernel_rfl
theorem run28 (n : Nat) (x : Int) (r : Int × Int) (h : F28 x = some r) : Go.Sx.Run Tryd.prog Tryd.f28 vars (.tup [.int .i64 r.1, .int .i64 r.2]) [] (.code body28 (Go.Sx.startA [.int .i64 x] Tryd.f28) (Go.Sx.laidHeap vars)) := by
  exact Go.Sx.wpS_run (L := vars) (by kernel_rfl) (form28 n x (.tup [.int .i64 r.1, .int .i64 r.2])) ((fun h => ⟨fact14 (x), (Go.Sx.br_of (fun h0 => (fun h => by cases h; rfl)) (fun h0 => (fun h => ⟨fact53 (x), (fun h => by cases h; rfl) h⟩))) h⟩) h)
noncomputable def F28_0 (x : Int) : Int := ((F28 x).getD default).1
noncomputable def F28_1 (x : Int) : Int := ((F28 x).getD default).2
theorem F28_some (x : Int) : (F28 x).isSome = true := by
  unfold F28
  repeat' (first | rfl | apply Go.Sx.some_br)
theorem fact28 (x : Int) : Go.Sx.Fact Tryd.prog vars 28 [.int .i64 x] (.tup [.int .i64 (F28_0 x), .int .i64 (F28_1 x)]) := Go.Sx.fact_of_run okayed (by kernel_rfl) (by kernel_rfl) (by kernel_rfl) Tryd.func28 body28_eq (run28 0 x ((F28 x).getD default) (Go.Sx.getD_some (F28_some x)))
noncomputable def body29 : Go.Code := (Tryd.f29.body).getD .skip
theorem body29_eq : Tryd.f29.body = some body29 := Go.Sx.some_getD (by kernel_rfl)
noncomputable def t29_0 (x : Int) : Int := (Go.IntKind.wrap Go.IntKind.i64 (0 - F53_0 (Go.IntKind.wrap Go.IntKind.i64 (0 - x))))
noncomputable def F29 (x : Int) : Option (Int × Int) := (bif (!F14_0 x) then (some (0, 2)) else (some ((t29_0 x), 0)))
theorem form29 (n : Nat) (x : Int) (vz : Go.Sx.AV) : Go.Sx.wpS Tryd.prog Tryd.f29 vars vz (.st [0, 0, 2, 2, 0, 0, 0, 0, 2, 0, 0, 0, 2, 2, 0, 0, 0, 0, 0, 2] (.use (.bool (F14_0 x)) (.st [2, 0, 0] (.br 8 (.st [0, 0, 0, 2, 2, 0, 0, 2, 0, 0, 2, 2, 2, 2, 0, 0, 2] .ans) (.st [0, 2, 0, 0, 0, 2, 2, 0, 0, 0, 2, 0, 0, 0, 0, 2, 2] (.use (.int .i64 (F53_0 (Go.IntKind.wrap Go.IntKind.i64 (0 - x)))) (.st [2, 2, 0, 0, 2, 0, 2, 2, 0, 0, 2, 0, 2, 2, 2, 2, 0, 0, 2] .ans))))))) [] (.code body29 (Go.Sx.startA [.int .i64 x] Tryd.f29) (Go.Sx.laidHeap vars)) = (Go.Sx.Fact Tryd.prog vars 14 [.int .i64 (x)] (.bool (F14_0 x)) ∧ (Go.Sx.BR (!F14_0 x) (vz = .tup [.int .i64 (.ofNat 0), .int .i64 (.ofNat 2)]) (Go.Sx.Fact Tryd.prog vars 53 [.int .i64 (Go.IntKind.wrap Go.IntKind.i64 (0 - x))] (.int .i64 (F53_0 (Go.IntKind.wrap Go.IntKind.i64 (0 - x)))) ∧ (vz = .tup [.int .i64 (t29_0 x), .int .i64 (.ofNat 0)])))) := by kernel_rfl
theorem run29 (n : Nat) (x : Int) (r : Int × Int) (h : F29 x = some r) : Go.Sx.Run Tryd.prog Tryd.f29 vars (.tup [.int .i64 r.1, .int .i64 r.2]) [] (.code body29 (Go.Sx.startA [.int .i64 x] Tryd.f29) (Go.Sx.laidHeap vars)) := by
  exact Go.Sx.wpS_run (L := vars) (by kernel_rfl) (form29 n x (.tup [.int .i64 r.1, .int .i64 r.2])) ((fun h => ⟨fact14 (x), (Go.Sx.br_of (fun h0 => (fun h => by cases h; rfl)) (fun h0 => (fun h => ⟨fact53 (Go.IntKind.wrap Go.IntKind.i64 (0 - x)), (fun h => by cases h; rfl) h⟩))) h⟩) h)
noncomputable def F29_0 (x : Int) : Int := ((F29 x).getD default).1
noncomputable def F29_1 (x : Int) : Int := ((F29 x).getD default).2
theorem F29_some (x : Int) : (F29 x).isSome = true := by
  unfold F29
  repeat' (first | rfl | apply Go.Sx.some_br)
theorem fact29 (x : Int) : Go.Sx.Fact Tryd.prog vars 29 [.int .i64 x] (.tup [.int .i64 (F29_0 x), .int .i64 (F29_1 x)]) := Go.Sx.fact_of_run okayed (by kernel_rfl) (by kernel_rfl) (by kernel_rfl) Tryd.func29 body29_eq (run29 0 x ((F29 x).getD default) (Go.Sx.getD_some (F29_some x)))
noncomputable def body30 : Go.Code := (Tryd.f30.body).getD .skip
theorem body30_eq : Tryd.f30.body = some body30 := Go.Sx.some_getD (by kernel_rfl)
noncomputable def F30 (x : Int) : Option (Int × Int) := (bif (!F14_0 x) then (some (0, 2)) else (some ((F53_0 (Go.Sx.wrapA Go.IntKind.i64 (Int.add x 32768))), 0)))
theorem form30 (n : Nat) (x : Int) (vz : Go.Sx.AV) : Go.Sx.wpS Tryd.prog Tryd.f30 vars vz (.st [0, 0, 2, 2, 0, 0, 0, 0, 2, 0, 0, 0, 2, 2, 0, 0, 0, 0, 0, 2] (.use (.bool (F14_0 x)) (.st [2, 0, 0] (.br 8 (.st [0, 0, 0, 2, 2, 0, 0, 2, 0, 0, 2, 2, 2, 2, 0, 0, 2] .ans) (.st [0, 2, 0, 0, 0, 2, 2, 0, 0, 0, 2, 0, 0, 0, 0, 2, 2] (.use (.int .i64 (F53_0 (Go.Sx.wrapA Go.IntKind.i64 (Int.add x 32768)))) (.st [2, 0, 0, 2, 0, 2, 2, 0, 0, 2, 0, 2, 2, 2, 2, 0, 0, 2] .ans))))))) [] (.code body30 (Go.Sx.startA [.int .i64 x] Tryd.f30) (Go.Sx.laidHeap vars)) = (Go.Sx.Fact Tryd.prog vars 14 [.int .i64 (x)] (.bool (F14_0 x)) ∧ (Go.Sx.BR (!F14_0 x) (vz = .tup [.int .i64 (.ofNat 0), .int .i64 (.ofNat 2)]) (Go.Sx.Fact Tryd.prog vars 53 [.int .i64 (Go.Sx.wrapA Go.IntKind.i64 (Int.add x 32768))] (.int .i64 (F53_0 (Go.Sx.wrapA Go.IntKind.i64 (Int.add x 32768)))) ∧ (vz = .tup [.int .i64 (F53_0 (Go.Sx.wrapA Go.IntKind.i64 (Int.add x 32768))), .int .i64 (.ofNat 0)])))) := by kernel_rfl
theorem run30 (n : Nat) (x : Int) (r : Int × Int) (h : F30 x = some r) : Go.Sx.Run Tryd.prog Tryd.f30 vars (.tup [.int .i64 r.1, .int .i64 r.2]) [] (.code body30 (Go.Sx.startA [.int .i64 x] Tryd.f30) (Go.Sx.laidHeap vars)) := by
  exact Go.Sx.wpS_run (L := vars) (by kernel_rfl) (form30 n x (.tup [.int .i64 r.1, .int .i64 r.2])) ((fun h => ⟨fact14 (x), (Go.Sx.br_of (fun h0 => (fun h => by cases h; rfl)) (fun h0 => (fun h => ⟨fact53 (Go.Sx.wrapA Go.IntKind.i64 (Int.add x 32768)), (fun h => by cases h; rfl) h⟩))) h⟩) h)
noncomputable def F30_0 (x : Int) : Int := ((F30 x).getD default).1
noncomputable def F30_1 (x : Int) : Int := ((F30 x).getD default).2
theorem F30_some (x : Int) : (F30 x).isSome = true := by
  unfold F30
  repeat' (first | rfl | apply Go.Sx.some_br)
theorem fact30 (x : Int) : Go.Sx.Fact Tryd.prog vars 30 [.int .i64 x] (.tup [.int .i64 (F30_0 x), .int .i64 (F30_1 x)]) := Go.Sx.fact_of_run okayed (by kernel_rfl) (by kernel_rfl) (by kernel_rfl) Tryd.func30 body30_eq (run30 0 x ((F30 x).getD default) (Go.Sx.getD_some (F30_some x)))
noncomputable def body31 : Go.Code := (Tryd.f31.body).getD .skip
theorem body31_eq : Tryd.f31.body = some body31 := Go.Sx.some_getD (by kernel_rfl)
noncomputable def t31_0 (x : Int) : Int := (Go.Sx.wrapA Go.IntKind.i64 (Int.mul (Go.Sx.wrapA Go.IntKind.i64 (Int.tdiv x 65536)) 65536))
noncomputable def F31 (x : Int) : Option (Int × Int) := (bif (!F14_0 x) then (some (0, 2)) else (some ((t31_0 x), 0)))
theorem form31 (n : Nat) (x : Int) (vz : Go.Sx.AV) : Go.Sx.wpS Tryd.prog Tryd.f31 vars vz (.st [0, 0, 2, 2, 0, 0, 0, 0, 2, 0, 0, 0, 2, 2, 0, 0, 0, 0, 0, 2] (.use (.bool (F14_0 x)) (.st [2, 0, 0] (.br 8 (.st [0, 0, 0, 2, 2, 0, 0, 2, 0, 0, 2, 2, 2, 2, 0, 0, 2] .ans) (.st [0, 2, 0, 0, 0, 2, 2, 0, 0, 0, 2, 0, 0, 0, 0, 2, 2, 2, 2, 0, 0, 2, 0, 2, 2, 0, 0, 2, 0, 2, 2, 2, 2, 0, 0, 2] .ans))))) [] (.code body31 (Go.Sx.startA [.int .i64 x] Tryd.f31) (Go.Sx.laidHeap vars)) = (Go.Sx.Fact Tryd.prog vars 14 [.int .i64 (x)] (.bool (F14_0 x)) ∧ (Go.Sx.BR (!F14_0 x) (vz = .tup [.int .i64 (.ofNat 0), .int .i64 (.ofNat 2)]) (vz = .tup [.int .i64 (t31_0 x), .int .i64 (.ofNat 0)]))) := by kernel_rfl
theorem run31 (n : Nat) (x : Int) (r : Int × Int) (h : F31 x = some r) : Go.Sx.Run Tryd.prog Tryd.f31 vars (.tup [.int .i64 r.1, .int .i64 r.2]) [] (.code body31 (Go.Sx.startA [.int .i64 x] Tryd.f31) (Go.Sx.laidHeap vars)) := by
  exact Go.Sx.wpS_run (L := vars) (by kernel_rfl) (form31 n x (.tup [.int .i64 r.1, .int .i64 r.2])) ((fun h => ⟨fact14 (x), (Go.Sx.br_of (fun h0 => (fun h => by cases h; rfl)) (fun h0 => (fun h => by cases h; rfl))) h⟩) h)
noncomputable def F31_0 (x : Int) : Int := ((F31 x).getD default).1
noncomputable def F31_1 (x : Int) : Int := ((F31 x).getD default).2
theorem F31_some (x : Int) : (F31 x).isSome = true := by
  unfold F31
  repeat' (first | rfl | apply Go.Sx.some_br)
theorem fact31 (x : Int) : Go.Sx.Fact Tryd.prog vars 31 [.int .i64 x] (.tup [.int .i64 (F31_0 x), .int .i64 (F31_1 x)]) := Go.Sx.fact_of_run okayed (by kernel_rfl) (by kernel_rfl) (by kernel_rfl) Tryd.func31 body31_eq (run31 0 x ((F31 x).getD default) (Go.Sx.getD_some (F31_some x)))
noncomputable def body34 : Go.Code := (Tryd.f34.body).getD .skip
theorem body34_eq : Tryd.f34.body = some body34 := Go.Sx.some_getD (by kernel_rfl)
noncomputable def F34 (x : Int) : Option (Int) := (bif (Option.isSome (F50 x 65536)) then (some (Go.Sx.wrapA Go.IntKind.i64 (Int.mul (F50_0 x (65536)) 65536))) else none)
theorem form34 (n : Nat) (x : Int) (vz : Go.Sx.AV) : Go.Sx.wpS Tryd.prog Tryd.f34 vars vz (.st [0, 0, 2, 0, 0, 0, 0, 2] (.use (.int .i64 (F50_0 x (Int.ofNat 65536))) (.st [2, 2, 0, 0, 2] .ans))) [] (.code body34 (Go.Sx.startA [.int .i64 x] Tryd.f34) (Go.Sx.laidHeap vars)) = (Go.Sx.Fact Tryd.prog vars 50 [.int .i64 (x), .int .i64 (.ofNat 65536)] (.int .i64 (F50_0 x (Int.ofNat 65536))) ∧ (vz = .int .i64 (Go.Sx.wrapA Go.IntKind.i64 (Int.mul (F50_0 x (Int.ofNat 65536)) 65536)))) := by kernel_rfl
theorem run34 (n : Nat) (x : Int) (r : Int) (h : F34 x = some r) : Go.Sx.Run Tryd.prog Tryd.f34 vars (.int .i64 r) [] (.code body34 (Go.Sx.startA [.int .i64 x] Tryd.f34) (Go.Sx.laidHeap vars)) := by
  exact Go.Sx.wpS_run (L := vars) (by kernel_rfl) (form34 n x (.int .i64 r)) ((Go.Sx.guard_of fun h0 => (fun h => ⟨fact50 (x) (65536) h0, (fun h => by cases h; rfl) h⟩)) h)
noncomputable def F34_0 (x : Int) : Int := ((F34 x).getD default)
theorem fact34 (x : Int) (h : (F34 x).isSome = true) : Go.Sx.Fact Tryd.prog vars 34 [.int .i64 x] (.int .i64 (F34_0 x)) := Go.Sx.fact_of_run okayed (by kernel_rfl) (by kernel_rfl) (by kernel_rfl) Tryd.func34 body34_eq (run34 0 x ((F34 x).getD default) (Go.Sx.getD_some h))
noncomputable def body35 : Go.Code := (Tryd.f35.body).getD .skip
theorem body35_eq : Tryd.f35.body = some body35 := Go.Sx.some_getD (by kernel_rfl)
noncomputable def t35_0 (x : Int) : Int := (Go.IntKind.wrap Go.IntKind.i64 (0 - F34_0 (Go.IntKind.wrap Go.IntKind.i64 (0 - x))))
noncomputable def F35 (x : Int) : Option (Int) := (bif (Option.isSome (F34 (Go.IntKind.wrap Go.IntKind.i64 (0 - x)))) then (some (t35_0 x)) else none)
theorem form35 (n : Nat) (x : Int) (vz : Go.Sx.AV) : Go.Sx.wpS Tryd.prog Tryd.f35 vars vz (.st [0, 0, 2, 0, 0, 0, 0, 2, 2] (.use (.int .i64 (F34_0 (Go.IntKind.wrap Go.IntKind.i64 (0 - x)))) (.st [2, 2, 0, 0, 2] .ans))) [] (.code body35 (Go.Sx.startA [.int .i64 x] Tryd.f35) (Go.Sx.laidHeap vars)) = (Go.Sx.Fact Tryd.prog vars 34 [.int .i64 (Go.IntKind.wrap Go.IntKind.i64 (0 - x))] (.int .i64 (F34_0 (Go.IntKind.wrap Go.IntKind.i64 (0 - x)))) ∧ (vz = .int .i64 (t35_0 x))) := by kernel_rfl
theorem run35 (n : Nat) (x : Int) (r : Int) (h : F35 x = some r) : Go.Sx.Run Tryd.prog Tryd.f35 vars (.int .i64 r) [] (.code body35 (Go.Sx.startA [.int .i64 x] Tryd.f35) (Go.Sx.laidHeap vars)) := by
  exact Go.Sx.wpS_run (L := vars) (by kernel_rfl) (form35 n x (.int .i64 r)) ((Go.Sx.guard_of fun h0 => (fun h => ⟨fact34 (Go.IntKind.wrap Go.IntKind.i64 (0 - x)) h0, (fun h => by cases h; rfl) h⟩)) h)
noncomputable def F35_0 (x : Int) : Int := ((F35 x).getD default)
theorem fact35 (x : Int) (h : (F35 x).isSome = true) : Go.Sx.Fact Tryd.prog vars 35 [.int .i64 x] (.int .i64 (F35_0 x)) := Go.Sx.fact_of_run okayed (by kernel_rfl) (by kernel_rfl) (by kernel_rfl) Tryd.func35 body35_eq (run35 0 x ((F35 x).getD default) (Go.Sx.getD_some h))
noncomputable def body36 : Go.Code := (Tryd.f36.body).getD .skip
theorem body36_eq : Tryd.f36.body = some body36 := Go.Sx.some_getD (by kernel_rfl)
noncomputable def F36 (x : Int) : Option (Int) := (bif (Option.isSome (F34 (Go.Sx.wrapA Go.IntKind.i64 (Int.add x 32768)))) then (some (F34_0 (Go.Sx.wrapA Go.IntKind.i64 (Int.add x 32768)))) else none)
theorem form36 (n : Nat) (x : Int) (vz : Go.Sx.AV) : Go.Sx.wpS Tryd.prog Tryd.f36 vars vz (.st [0, 0, 2, 0, 0, 0, 0, 2, 2] (.use (.int .i64 (F34_0 (Go.Sx.wrapA Go.IntKind.i64 (Int.add x 32768)))) (.st [2, 0, 0, 2] .ans))) [] (.code body36 (Go.Sx.startA [.int .i64 x] Tryd.f36) (Go.Sx.laidHeap vars)) = (Go.Sx.Fact Tryd.prog vars 34 [.int .i64 (Go.Sx.wrapA Go.IntKind.i64 (Int.add x 32768))] (.int .i64 (F34_0 (Go.Sx.wrapA Go.IntKind.i64 (Int.add x 32768)))) ∧ (vz = .int .i64 (F34_0 (Go.Sx.wrapA Go.IntKind.i64 (Int.add x 32768))))) := by kernel_rfl
theorem run36 (n : Nat) (x : Int) (r : Int) (h : F36 x = some r) : Go.Sx.Run Tryd.prog Tryd.f36 vars (.int .i64 r) [] (.code body36 (Go.Sx.startA [.int .i64 x] Tryd.f36) (Go.Sx.laidHeap vars)) := by
  exact Go.Sx.wpS_run (L := vars) (by kernel_rfl) (form36 n x (.int .i64 r)) ((Go.Sx.guard_of fun h0 => (fun h => ⟨fact34 (Go.Sx.wrapA Go.IntKind.i64 (Int.add x 32768)) h0, (fun h => by cases h; rfl) h⟩)) h)
noncomputable def F36_0 (x : Int) : Int := ((F36 x).getD default)
theorem fact36 (x : Int) (h : (F36 x).isSome = true) : Go.Sx.Fact Tryd.prog vars 36 [.int .i64 x] (.int .i64 (F36_0 x)) := Go.Sx.fact_of_run okayed (by kernel_rfl) (by kernel_rfl) (by kernel_rfl) Tryd.func36 body36_eq (run36 0 x ((F36 x).getD default) (Go.Sx.getD_some h))
noncomputable def body32 : Go.Code := (Tryd.f32.body).getD .skip
theorem body32_eq : Tryd.f32.body = some body32 := Go.Sx.some_getD (by kernel_rfl)
noncomputable def sk32_0 : List Go.Sx.FC × Go.Sx.CC := (Go.Sx.skelAt Tryd.prog [.fn 32 [.r, .r, .r, .r, .l, .r, .i, .i, .l, .r]] []).getD ([], .code .skip)
noncomputable def sk32_1 : List Go.Sx.FC × Go.Sx.CC := (Go.Sx.skelAt Tryd.prog [.fn 32 [.r, .r, .r, .r, .l, .r, .i, .i, .r, .r]] []).getD ([], .code .skip)
noncomputable def t32_2 (v0 : Int) (v1 : Int) : Int := (Go.IntKind.wrap Go.IntKind.i64 ↑(BitVec.toNat (BitVec.ofInt 64 v0 ||| BitVec.ofInt 64 v1)))
noncomputable def c32_3 (x : Int) (v0 : Int) (v1 : Int) : Bool := (!Go.Sx.ltI (Go.Sx.wrapA Go.IntKind.i64 (Int.mul x 65536)) (Go.Sx.wrapA Go.IntKind.i64 (Int.mul (Go.IntKind.wrap Go.IntKind.i64 ↑(BitVec.toNat (BitVec.ofInt 64 v0 ||| BitVec.ofInt 64 v1))) (Go.IntKind.wrap Go.IntKind.i64 ↑(BitVec.toNat (BitVec.ofInt 64 v0 ||| BitVec.ofInt 64 v1))))))
noncomputable def pt32_0 (x : Int) (v0 : Int) (v1 : Int) (v2 : Bool) : Go.Sx.Pt := ⟨[(27, [(0, .int .i64 (x)), (4, .int .i64 (v0)), (5, .int .i64 (v1)), (13, .bool (v2))])], [], 0, []⟩
noncomputable def pt32_1 (x : Int) (v0 : Int) (v1 : Int) : Go.Sx.Pt := ⟨[(27, [(0, .int .i64 (x)), (4, .int .i64 (v0)), (5, .int .i64 (v1))])], [], 0, []⟩
mutual
noncomputable def L32_0 (x : Int) : Nat → Int → Int → Bool → Option (Int × Int)
  | 0, _, _, _ => none
  | n + 1, v0, v1, v2 => (bif (v2) then (bif (c32_3 x v0 v1) then (L32_1 x n (t32_2 v0 v1) (v1)) else (L32_1 x n (v0) (v1))) else (some ((v0), 0)))
termination_by structural n => n
noncomputable def L32_1 (x : Int) : Nat → Int → Int → Option (Int × Int)
  | 0, _, _ => none
  | n + 1, v0, v1 => (L32_0 x n (v0) (Int.fdiv v1 (2)) (Go.Sx.ltI 0 (Int.fdiv v1 (2))))
termination_by structural n => n
end
theorem L32_0_succ (x : Int) (n : Nat) (v0 : Int) (v1 : Int) (v2 : Bool) : L32_0 x (n + 1) v0 v1 v2 = (bif (v2) then (bif (c32_3 x v0 v1) then (L32_1 x n (t32_2 v0 v1) (v1)) else (L32_1 x n (v0) (v1))) else (some ((v0), 0))) := rfl
theorem L32_1_succ (x : Int) (n : Nat) (v0 : Int) (v1 : Int) : L32_1 x (n + 1) v0 v1 = (L32_0 x n (v0) (Int.fdiv v1 (2)) (Go.Sx.ltI 0 (Int.fdiv v1 (2)))) := rfl
theorem form32_0 (n : Nat) (x : Int) (v0 : Int) (v1 : Int) (v2 : Bool) (vz : Go.Sx.AV) : Go.Sx.wpS Tryd.prog Tryd.f32 vars vz (.br 13 (.st [0, 2, 0, 0, 0, 0, 0, 2, 2, 2, 2, 0, 0, 0, 0, 2, 2, 2, 2, 2, 2, 0, 0] (.br 24 (.st [0, 0, 2, 2, 0, 0, 0] (.stop ⟨[[0, 4, 5]], [], []⟩ [] 0 [])) (.st [0, 2, 0, 0] (.stop ⟨[[0, 4, 5]], [], []⟩ [] 0 [])))) (.st [0, 2, 0, 0, 0, 0, 0, 0, 2, 2, 2, 0, 0, 2] .ans)) (Go.Sx.mkK sk32_0.1 (pt32_0 x v0 v1 v2).frs.tail) (Go.Sx.mkC vars (pt32_0 x v0 v1 v2) sk32_0.1 sk32_0.2) = (Go.Sx.BR (v2) (Go.Sx.BR (c32_3 x v0 v1) (Go.Sx.RunAt Tryd.prog Tryd.f32 vars vz sk32_1 (pt32_1 x (t32_2 v0 v1) (v1))) (Go.Sx.RunAt Tryd.prog Tryd.f32 vars vz sk32_1 (pt32_1 x (v0) (v1)))) (vz = .tup [.int .i64 (v0), .int .i64 (.ofNat 0)])) := by kernel_rfl
theorem form32_1 (n : Nat) (x : Int) (v0 : Int) (v1 : Int) (vz : Go.Sx.AV) : Go.Sx.wpS Tryd.prog Tryd.f32 vars vz (.st [0, 2, 2, 2, 0, 0, 0, 0, 0, 0, 2, 2, 0, 0] (.stop ⟨[[0, 4, 5, 13]], [], []⟩ [] 0 [])) (Go.Sx.mkK sk32_1.1 (pt32_1 x v0 v1).frs.tail) (Go.Sx.mkC vars (pt32_1 x v0 v1) sk32_1.1 sk32_1.2) = (Go.Sx.RunAt Tryd.prog Tryd.f32 vars vz sk32_0 (pt32_0 x (v0) (Int.fdiv v1 (2)) (Go.Sx.ltI 0 (Int.fdiv v1 (2))))) := by kernel_rfl
theorem runs32 (x : Int) : ∀ (n : Nat), (∀ (v0 : Int) (v1 : Int) (v2 : Bool) (r : Int × Int), L32_0 x n v0 v1 v2 = some r → Go.Sx.RunAt Tryd.prog Tryd.f32 vars (.tup [.int .i64 r.1, .int .i64 r.2]) sk32_0 (pt32_0 x v0 v1 v2)) ∧ (∀ (v0 : Int) (v1 : Int) (r : Int × Int), L32_1 x n v0 v1 = some r → Go.Sx.RunAt Tryd.prog Tryd.f32 vars (.tup [.int .i64 r.1, .int .i64 r.2]) sk32_1 (pt32_1 x v0 v1)) := by
  intro n
  induction n with
  | zero => exact ⟨(fun _ _ _ r h => by cases h), (fun _ _ r h => by cases h)⟩
  | succ n ih =>
    obtain ⟨ih0, ih1⟩ := ih
    exact ⟨(fun v0 v1 v2 r h => Go.Sx.wpS_run (L := vars) (by kernel_rfl) (form32_0 n x v0 v1 v2 (.tup [.int .i64 r.1, .int .i64 r.2])) ((Go.Sx.br_of (fun h2 => (Go.Sx.br_of (fun h3 => (fun h => ih1 (t32_2 v0 v1) (v1) r h)) (fun h3 => (fun h => ih1 (v0) (v1) r h)))) (fun h2 => (fun h => by cases h; rfl))) ((L32_0_succ x n v0 v1 v2).symm.trans h))), (fun v0 v1 r h => Go.Sx.wpS_run (L := vars) (by kernel_rfl) (form32_1 n x v0 v1 (.tup [.int .i64 r.1, .int .i64 r.2])) ((fun h => ih0 (v0) (Int.fdiv v1 (2)) (Go.Sx.ltI 0 (Int.fdiv v1 (2))) r h) ((L32_1_succ x n v0 v1).symm.trans h)))⟩
noncomputable def F32 (n : Nat) (x : Int) : Option (Int × Int) := (bif (!F14_0 x) then (some (0, 2)) else (bif (Go.Sx.ltI x 0) then (some (0, 23)) else (L32_0 x n 0 16777216 true)))
theorem form32 (n : Nat) (x : Int) (vz : Go.Sx.AV) : Go.Sx.wpS Tryd.prog Tryd.f32 vars vz (.st [0, 0, 2, 2, 0, 0, 0, 0, 0, 2] (.use (.bool (F14_0 x)) (.st [2, 0, 0] (.br 9 (.st [0, 0, 0, 2, 2, 0, 0, 2, 0] .ans) (.st [0, 2, 0, 0, 0, 0, 2, 2, 0, 0] (.br 11 (.st [0, 0, 0, 2, 2, 0, 0, 2, 0] .ans) (.st [0, 2, 0, 0, 0, 2, 0, 0, 0, 0, 0, 2, 0, 0, 0, 0, 0, 0, 0, 0, 2, 2, 0, 0] (.stop ⟨[[0, 4, 5, 13]], [], []⟩ [] 0 [])))))))) [] (.code body32 (Go.Sx.startA [.int .i64 x] Tryd.f32) (Go.Sx.laidHeap vars)) = (Go.Sx.Fact Tryd.prog vars 14 [.int .i64 (x)] (.bool (F14_0 x)) ∧ (Go.Sx.BR (!F14_0 x) (vz = .tup [.int .i64 (.ofNat 0), .int .i64 (.ofNat 2)]) (Go.Sx.BR (Go.Sx.ltI x 0) (vz = .tup [.int .i64 (.ofNat 0), .int .i64 (.ofNat 23)]) (Go.Sx.RunAt Tryd.prog Tryd.f32 vars vz sk32_0 (pt32_0 x 0 16777216 true))))) := by kernel_rfl
theorem run32 (n : Nat) (x : Int) (r : Int × Int) (h : F32 n x = some r) : Go.Sx.Run Tryd.prog Tryd.f32 vars (.tup [.int .i64 r.1, .int .i64 r.2]) [] (.code body32 (Go.Sx.startA [.int .i64 x] Tryd.f32) (Go.Sx.laidHeap vars)) := by
  obtain ⟨ih0, ih1⟩ := runs32 x n
  exact Go.Sx.wpS_run (L := vars) (by kernel_rfl) (form32 n x (.tup [.int .i64 r.1, .int .i64 r.2])) ((fun h => ⟨fact14 (x), (Go.Sx.br_of (fun h0 => (fun h => by cases h; rfl)) (fun h0 => (Go.Sx.br_of (fun h1 => (fun h => by cases h; rfl)) (fun h1 => (fun h => ih0 0 16777216 true r h))))) h⟩) h)
noncomputable def F32_0 (n : Nat) (x : Int) : Int := ((F32 n x).getD default).1
noncomputable def F32_1 (n : Nat) (x : Int) : Int := ((F32 n x).getD default).2
theorem fact32 (n : Nat) (x : Int) (h : (F32 n x).isSome = true) : Go.Sx.Fact Tryd.prog vars 32 [.int .i64 x] (.tup [.int .i64 (F32_0 n x), .int .i64 (F32_1 n x)]) := Go.Sx.fact_of_run okayed (by kernel_rfl) (by kernel_rfl) (by kernel_rfl) Tryd.func32 body32_eq (run32 n x ((F32 n x).getD default) (Go.Sx.getD_some h))
noncomputable def body33 : Go.Code := (Tryd.f33.body).getD .skip
theorem body33_eq : Tryd.f33.body = some body33 := Go.Sx.some_getD (by kernel_rfl)
noncomputable def sk33_0 : List Go.Sx.FC × Go.Sx.CC := (Go.Sx.skelAt Tryd.prog [.fn 33 [.r, .r, .r, .l, .i, .i, .l, .r]] []).getD ([], .code .skip)
noncomputable def c33_6 (x : Int) (v0 : Int) (v1 : Int) : Bool := (!Go.Sx.ltI (Go.Sx.wrapA Go.IntKind.i64 (Int.mul x 65536)) (Go.Sx.wrapA Go.IntKind.i64 (Int.mul (Go.Sx.wrapA Go.IntKind.i64 (Int.tdiv (Go.Sx.wrapA Go.IntKind.i64 (Int.add v0 v1)) 2)) (Go.Sx.wrapA Go.IntKind.i64 (Int.tdiv (Go.Sx.wrapA Go.IntKind.i64 (Int.add v0 v1)) 2)))))
noncomputable def c33_7 (v0 : Int) (v1 : Int) : Bool := (Go.Sx.ltI 1 (Go.Sx.wrapA Go.IntKind.i64 (Int.sub v1 (Go.Sx.wrapA Go.IntKind.i64 (Int.tdiv (Go.Sx.wrapA Go.IntKind.i64 (Int.add v0 v1)) 2)))))
noncomputable def c33_8 (v0 : Int) (v1 : Int) : Bool := (Go.Sx.ltI 1 (Go.Sx.wrapA Go.IntKind.i64 (Int.sub (Go.Sx.wrapA Go.IntKind.i64 (Int.tdiv (Go.Sx.wrapA Go.IntKind.i64 (Int.add v0 v1)) 2)) v0)))
noncomputable def pt33_0 (x : Int) (v0 : Int) (v1 : Int) (v2 : Bool) : Go.Sx.Pt := ⟨[(26, [(0, .int .i64 (x)), (4, .int .i64 (v0)), (5, .int .i64 (v1)), (12, .bool (v2))])], [], 0, []⟩
mutual
noncomputable def L33_0 (x : Int) : Nat → Int → Int → Bool → Option (Int × Int)
  | 0, _, _, _ => none
  | n + 1, v0, v1, v2 => (bif (v2) then (bif (c33_6 x v0 v1) then (L33_0 x n (Go.Sx.wrapA Go.IntKind.i64 (Int.tdiv (Go.Sx.wrapA Go.IntKind.i64 (Int.add v0 v1)) 2)) (v1) (c33_7 v0 v1)) else (L33_0 x n (v0) (Go.Sx.wrapA Go.IntKind.i64 (Int.tdiv (Go.Sx.wrapA Go.IntKind.i64 (Int.add v0 v1)) 2)) (c33_8 v0 v1))) else (some ((v0), 0)))
termination_by structural n => n
end
theorem L33_0_succ (x : Int) (n : Nat) (v0 : Int) (v1 : Int) (v2 : Bool) : L33_0 x (n + 1) v0 v1 v2 = (bif (v2) then (bif (c33_6 x v0 v1) then (L33_0 x n (Go.Sx.wrapA Go.IntKind.i64 (Int.tdiv (Go.Sx.wrapA Go.IntKind.i64 (Int.add v0 v1)) 2)) (v1) (c33_7 v0 v1)) else (L33_0 x n (v0) (Go.Sx.wrapA Go.IntKind.i64 (Int.tdiv (Go.Sx.wrapA Go.IntKind.i64 (Int.add v0 v1)) 2)) (c33_8 v0 v1))) else (some ((v0), 0))) := rfl
theorem form33_0 (n : Nat) (x : Int) (v0 : Int) (v1 : Int) (v2 : Bool) (vz : Go.Sx.AV) : Go.Sx.wpS Tryd.prog Tryd.f33 vars vz (.br 12 (.st [0, 2, 0, 0, 0, 0, 2, 2, 2, 2, 2, 0, 0, 0, 0, 2, 2, 2, 2, 2, 2, 0, 0] (.br 22 (.st [0, 0, 2, 2, 0, 0, 0, 0, 0, 0, 0, 2, 2, 2, 2, 0, 0] (.stop ⟨[[0, 4, 5, 12]], [], []⟩ [] 0 [])) (.st [0, 0, 2, 2, 0, 0, 0, 0, 0, 0, 0, 2, 2, 2, 2, 0, 0] (.stop ⟨[[0, 4, 5, 12]], [], []⟩ [] 0 [])))) (.st [0, 2, 0, 0, 0, 0, 0, 0, 2, 2, 2, 0, 0, 2] .ans)) (Go.Sx.mkK sk33_0.1 (pt33_0 x v0 v1 v2).frs.tail) (Go.Sx.mkC vars (pt33_0 x v0 v1 v2) sk33_0.1 sk33_0.2) = (Go.Sx.BR (v2) (Go.Sx.BR (c33_6 x v0 v1) (Go.Sx.RunAt Tryd.prog Tryd.f33 vars vz sk33_0 (pt33_0 x (Go.Sx.wrapA Go.IntKind.i64 (Int.tdiv (Go.Sx.wrapA Go.IntKind.i64 (Int.add v0 v1)) 2)) (v1) (c33_7 v0 v1))) (Go.Sx.RunAt Tryd.prog Tryd.f33 vars vz sk33_0 (pt33_0 x (v0) (Go.Sx.wrapA Go.IntKind.i64 (Int.tdiv (Go.Sx.wrapA Go.IntKind.i64 (Int.add v0 v1)) 2)) (c33_8 v0 v1)))) (vz = .tup [.int .i64 (v0), .int .i64 (.ofNat 0)])) := by kernel_rfl
theorem runs33 (x : Int) : ∀ (n : Nat), (∀ (v0 : Int) (v1 : Int) (v2 : Bool) (r : Int × Int), L33_0 x n v0 v1 v2 = some r → Go.Sx.RunAt Tryd.prog Tryd.f33 vars (.tup [.int .i64 r.1, .int .i64 r.2]) sk33_0 (pt33_0 x v0 v1 v2)) := by
  intro n
  induction n with
  | zero => exact (fun _ _ _ r h => by cases h)
  | succ n ih =>
    have ih0 := ih
    exact (fun v0 v1 v2 r h => Go.Sx.wpS_run (L := vars) (by kernel_rfl) (form33_0 n x v0 v1 v2 (.tup [.int .i64 r.1, .int .i64 r.2])) ((Go.Sx.br_of (fun h1 => (Go.Sx.br_of (fun h2 => (fun h => ih0 (Go.Sx.wrapA Go.IntKind.i64 (Int.tdiv (Go.Sx.wrapA Go.IntKind.i64 (Int.add v0 v1)) 2)) (v1) (c33_7 v0 v1) r h)) (fun h2 => (fun h => ih0 (v0) (Go.Sx.wrapA Go.IntKind.i64 (Int.tdiv (Go.Sx.wrapA Go.IntKind.i64 (Int.add v0 v1)) 2)) (c33_8 v0 v1) r h)))) (fun h1 => (fun h => by cases h; rfl))) ((L33_0_succ x n v0 v1 v2).symm.trans h)))
noncomputable def F33 (n : Nat) (x : Int) : Option (Int × Int) := (bif (Go.Sx.ltI x 0) then (some (0, 23)) else (L33_0 x n 0 16777216 true))
theorem form33 (n : Nat) (x : Int) (vz : Go.Sx.AV) : Go.Sx.wpS Tryd.prog Tryd.f33 vars vz (.st [0, 0, 2, 2, 0, 0, 0, 0, 0, 2, 2, 0, 0] (.br 8 (.st [0, 0, 0, 2, 2, 0, 0, 2, 0] .ans) (.st [0, 2, 0, 0, 0, 2, 2, 0, 0, 0, 0, 0, 0, 0, 0, 0, 2, 2, 2, 2, 0, 0] (.stop ⟨[[0, 4, 5, 12]], [], []⟩ [] 0 [])))) [] (.code body33 (Go.Sx.startA [.int .i64 x] Tryd.f33) (Go.Sx.laidHeap vars)) = (Go.Sx.BR (Go.Sx.ltI x 0) (vz = .tup [.int .i64 (.ofNat 0), .int .i64 (.ofNat 23)]) (Go.Sx.RunAt Tryd.prog Tryd.f33 vars vz sk33_0 (pt33_0 x 0 16777216 true))) := by kernel_rfl
theorem run33 (n : Nat) (x : Int) (r : Int × Int) (h : F33 n x = some r) : Go.Sx.Run Tryd.prog Tryd.f33 vars (.tup [.int .i64 r.1, .int .i64 r.2]) [] (.code body33 (Go.Sx.startA [.int .i64 x] Tryd.f33) (Go.Sx.laidHeap vars)) := by
  have ih0 := runs33 x n
  exact Go.Sx.wpS_run (L := vars) (by kernel_rfl) (form33 n x (.tup [.int .i64 r.1, .int .i64 r.2])) ((Go.Sx.br_of (fun h0 => (fun h => by cases h; rfl)) (fun h0 => (fun h => ih0 0 16777216 true r h))) h)
noncomputable def F33_0 (n : Nat) (x : Int) : Int := ((F33 n x).getD default).1
noncomputable def F33_1 (n : Nat) (x : Int) : Int := ((F33 n x).getD default).2
theorem fact33 (n : Nat) (x : Int) (h : (F33 n x).isSome = true) : Go.Sx.Fact Tryd.prog vars 33 [.int .i64 x] (.tup [.int .i64 (F33_0 n x), .int .i64 (F33_1 n x)]) := Go.Sx.fact_of_run okayed (by kernel_rfl) (by kernel_rfl) (by kernel_rfl) Tryd.func33 body33_eq (run33 n x ((F33 n x).getD default) (Go.Sx.getD_some h))
noncomputable def body41 : Go.Code := (Tryd.f41.body).getD .skip
theorem body41_eq : Tryd.f41.body = some body41 := Go.Sx.some_getD (by kernel_rfl)
noncomputable def F41 (x : Int) : Option (Int) := (some (Int.tmod x 2147483649))
theorem form41 (n : Nat) (x : Int) (vz : Go.Sx.AV) : Go.Sx.wpS Tryd.prog Tryd.f41 vars vz (.st [0, 0, 2, 0, 0, 0, 0, 2, 2, 2, 0, 0, 2] .ans) [] (.code body41 (Go.Sx.startA [.int .i64 x] Tryd.f41) (Go.Sx.laidHeap vars)) = (vz = .int .i64 (Int.tmod x 2147483649)) := by kernel_rfl
theorem run41 (n : Nat) (x : Int) (r : Int) (h : F41 x = some r) : Go.Sx.Run Tryd.prog Tryd.f41 vars (.int .i64 r) [] (.code body41 (Go.Sx.startA [.int .i64 x] Tryd.f41) (Go.Sx.laidHeap vars)) := by
  exact Go.Sx.wpS_run (L := vars) (by kernel_rfl) (form41 n x (.int .i64 r)) ((fun h => by cases h; rfl) h)
noncomputable def F41_0 (x : Int) : Int := ((F41 x).getD default)
theorem F41_some (x : Int) : (F41 x).isSome = true := by
  unfold F41
  repeat' (first | rfl | apply Go.Sx.some_br)
theorem fact41 (x : Int) : Go.Sx.Fact Tryd.prog vars 41 [.int .i64 x] (.int .i64 (F41_0 x)) := Go.Sx.fact_of_run okayed (by kernel_rfl) (by kernel_rfl) (by kernel_rfl) Tryd.func41 body41_eq (run41 0 x ((F41 x).getD default) (Go.Sx.getD_some (F41_some x)))
noncomputable def body10 : Go.Code := (Tryd.f10.body).getD .skip
theorem body10_eq : Tryd.f10.body = some body10 := Go.Sx.some_getD (by kernel_rfl)
set_option maxRecDepth 1000000 in
theorem ran10 : Go.Sx.endB Tryd.prog Tryd.f10 (Go.Sx.go Tryd.prog 100000 vars (Go.Sx.script [1]) [] (.code body10 (Go.Sx.startA [] Tryd.f10) (Go.Sx.laidHeap vars))) = true := by kernel_rfl
theorem fact10 : Go.Sx.Fact Tryd.prog vars 10 [] (.bool true) := Go.Sx.fact_of_run okayed (by kernel_rfl) (by kernel_rfl) (by kernel_rfl) Tryd.func10 body10_eq (Go.Sx.run_end ran10)
noncomputable def body9 : Go.Code := (Tryd.f9.body).getD .skip
theorem body9_eq : Tryd.f9.body = some body9 := Go.Sx.some_getD (by kernel_rfl)
noncomputable def c9_0 (a0 : Int) : Bool := (!Go.Sx.eqI (Int.tmod (F28_0 (F41_0 a0)) 65536) 0)
noncomputable def c9_1 (a0 : Int) : Bool := (!Go.Sx.eqI (Int.tmod (F29_0 (F41_0 a0)) 65536) 0)
noncomputable def c9_2 (a0 : Int) : Bool := (!Go.Sx.eqI (F31_0 (F41_0 a0)) (Go.Sx.wrapA Go.IntKind.i64 (Int.mul (F16_0 (F41_0 a0)) 65536)))
noncomputable def t9_3 (a0 : Int) : Int := (if Go.IntKind.wrap Go.IntKind.i64 (0 - F41_0 a0) > F41_0 a0 then Go.IntKind.wrap Go.IntKind.i64 (0 - F41_0 a0) else F41_0 a0)
noncomputable def c9_4 (n : Nat) (a0 : Int) : Bool := (!Go.Sx.ltI (Go.Sx.wrapA Go.IntKind.i64 (Int.mul (if Go.IntKind.wrap Go.IntKind.i64 (0 - F41_0 a0) > F41_0 a0 then Go.IntKind.wrap Go.IntKind.i64 (0 - F41_0 a0) else F41_0 a0) 65536)) (Go.Sx.wrapA Go.IntKind.i64 (Int.mul (F32_0 n (t9_3 a0)) (F32_0 n (t9_3 a0)))))
noncomputable def c9_5 (n : Nat) (a0 : Int) : Bool := (Go.Sx.ltI (Go.Sx.wrapA Go.IntKind.i64 (Int.mul (if Go.IntKind.wrap Go.IntKind.i64 (0 - F41_0 a0) > F41_0 a0 then Go.IntKind.wrap Go.IntKind.i64 (0 - F41_0 a0) else F41_0 a0) 65536)) (Go.Sx.wrapA Go.IntKind.i64 (Int.mul (Go.Sx.wrapA Go.IntKind.i64 (Int.add (F32_0 n (t9_3 a0)) 1)) (Go.Sx.wrapA Go.IntKind.i64 (Int.add (F32_0 n (t9_3 a0)) 1)))))
noncomputable def F9 (n : Nat) (a0 : Int) : Option (Bool) := (bif (!Go.Sx.eqI (F28_1 (F41_0 a0)) 0) then (some false) else (bif (!Go.Sx.eqI (F29_1 (F41_0 a0)) 0) then (some false) else (bif (!Go.Sx.eqI (F30_1 (F41_0 a0)) 0) then (some false) else (bif (!Go.Sx.eqI (F31_1 (F41_0 a0)) 0) then (some false) else (bif (!Go.Sx.eqI (F16_1 (F41_0 a0)) 0) then (some false) else (bif (Go.Sx.ltI (F41_0 a0) (F28_0 (F41_0 a0))) then (some false) else (bif (Go.Sx.ltI (F29_0 (F41_0 a0)) (F41_0 a0)) then (some false) else (bif (Go.Sx.ltI 65536 (Go.Sx.wrapA Go.IntKind.i64 (Int.sub (F29_0 (F41_0 a0)) (F28_0 (F41_0 a0))))) then (some false) else (bif (c9_0 a0) then (some false) else (bif (c9_1 a0) then (some false) else (bif (!Go.Sx.eqI (F30_0 (F41_0 a0)) (F28_0 (F41_0 a0))) then (bif (!Go.Sx.eqI (F30_0 (F41_0 a0)) (F29_0 (F41_0 a0))) then (some false) else (bif (Go.Sx.ltI 32768 (Go.Sx.wrapA Go.IntKind.i64 (Int.sub (F30_0 (F41_0 a0)) (F41_0 a0)))) then (some false) else (bif (!Go.Sx.ltI (Go.Sx.wrapA Go.IntKind.i64 (Int.sub (F41_0 a0) (F30_0 (F41_0 a0)))) 32769) then (some false) else (bif (c9_2 a0) then (some false) else (bif (Option.isSome (F32 n (t9_3 a0))) then (bif (Go.Sx.eqI (F32_1 n (t9_3 a0)) 0) then (bif (c9_4 n a0) then (bif (c9_5 n a0) then (bif (!Go.Sx.ltI (F41_0 a0) 0) then (bif (Go.Sx.eqI (F31_0 (F41_0 a0)) (F28_0 (F41_0 a0))) then (some true) else (some false)) else (some (Go.Sx.eqI (F31_0 (F41_0 a0)) (F29_0 (F41_0 a0))))) else (some false)) else (some false)) else (some false)) else none))))) else (bif (Go.Sx.ltI 32768 (Go.Sx.wrapA Go.IntKind.i64 (Int.sub (F30_0 (F41_0 a0)) (F41_0 a0)))) then (some false) else (bif (!Go.Sx.ltI (Go.Sx.wrapA Go.IntKind.i64 (Int.sub (F41_0 a0) (F30_0 (F41_0 a0)))) 32769) then (some false) else (bif (c9_2 a0) then (some false) else (bif (Option.isSome (F32 n (t9_3 a0))) then (bif (Go.Sx.eqI (F32_1 n (t9_3 a0)) 0) then (bif (c9_4 n a0) then (bif (c9_5 n a0) then (bif (!Go.Sx.ltI (F41_0 a0) 0) then (bif (Go.Sx.eqI (F31_0 (F41_0 a0)) (F28_0 (F41_0 a0))) then (some true) else (some false)) else (some (Go.Sx.eqI (F31_0 (F41_0 a0)) (F29_0 (F41_0 a0))))) else (some false)) else (some false)) else (some false)) else none)))))))))))))))
theorem form9 (n : Nat) (a0 : Int) (vz : Go.Sx.AV) : Go.Sx.wpS Tryd.prog Tryd.f9 vars vz (.st [0, 0, 2, 0, 0, 0, 0, 0] (.use (.bool true) (.st [2, 0, 0, 0, 2, 0, 0, 0, 2] (.use (.int .i64 (F41_0 a0)) (.st [2, 0, 0, 0, 0, 2] (.use (.tup [.int .i64 (F28_0 (F41_0 a0)), .int .i64 (F28_1 (F41_0 a0))]) (.st [2, 2, 2, 2, 2, 0, 0, 0, 0, 2] (.use (.tup [.int .i64 (F29_0 (F41_0 a0)), .int .i64 (F29_1 (F41_0 a0))]) (.st [2, 2, 2, 2, 2, 0, 0, 0, 0, 2] (.use (.tup [.int .i64 (F30_0 (F41_0 a0)), .int .i64 (F30_1 (F41_0 a0))]) (.st [2, 2, 2, 2, 2, 0, 0, 0, 0, 2] (.use (.tup [.int .i64 (F31_0 (F41_0 a0)), .int .i64 (F31_1 (F41_0 a0))]) (.st [2, 2, 2, 2, 2, 0, 0, 0, 0, 2] (.use (.tup [.int .i64 (F16_0 (F41_0 a0)), .int .i64 (F16_1 (F41_0 a0))]) (.st [2, 2, 2, 2, 2, 0, 0, 0, 0, 0, 2, 2, 2] (.br 46 (.st [2, 2, 2, 2, 2, 2, 2, 2, 2, 2, 2, 2, 2, 2, 2, 0, 0, 0, 0, 0, 2, 0, 0, 2, 0] .ans) (.st [2, 2, 2, 2] (.br 50 (.st [2, 2, 2, 2, 2, 2, 2, 2, 2, 2, 2, 0, 0, 0, 0, 0, 2, 0, 0, 2, 0] .ans) (.st [2, 2, 2, 2] (.br 54 (.st [2, 2, 2, 2, 2, 2, 2, 0, 0, 0, 0, 0, 2, 0, 0, 2, 0] .ans) (.st [2, 2, 2, 2] (.br 58 (.st [2, 2, 2, 0, 0, 0, 0, 0, 2, 0, 0, 2, 0] .ans) (.st [2, 2, 2, 0, 0] (.br 61 (.st [0, 0, 0, 2, 0, 0, 2, 0] .ans) (.st [0, 2, 0, 0, 0, 0, 2, 2, 2, 2] (.br 65 (.st [2, 2, 2, 2, 2, 2, 2, 2, 2, 2, 2, 2, 2, 2, 2, 2, 2, 2, 2, 2, 2, 2, 2, 2, 2, 2, 2, 2, 2, 2, 2, 2, 2, 2, 2, 2, 2, 2, 2, 2, 2, 2, 2, 2, 2, 2, 2, 2, 0, 0, 0, 0, 0, 2, 0, 0, 2, 0] .ans) (.st [2, 2, 2, 2, 2] (.br 70 (.st [2, 2, 2, 2, 2, 2, 2, 2, 2, 2, 2, 2, 2, 2, 2, 2, 2, 2, 2, 2, 2, 2, 2, 2, 2, 2, 2, 2, 2, 2, 2, 2, 2, 2, 2, 2, 2, 2, 2, 2, 2, 2, 2, 0, 0, 0, 0, 0, 2, 0, 0, 2, 0] .ans) (.st [2, 2, 2, 2, 2, 2] (.br 76 (.st [2, 2, 2, 2, 2, 2, 2, 2, 2, 2, 2, 2, 2, 2, 2, 2, 2, 2, 2, 2, 2, 2, 2, 2, 2, 2, 2, 2, 2, 2, 2, 2, 2, 2, 2, 2, 2, 0, 0, 0, 0, 0, 2, 0, 0, 2, 0] .ans) (.st [2, 2, 2, 2, 2] (.br 81 (.st [2, 2, 2, 2, 2, 2, 2, 2, 2, 2, 2, 2, 2, 2, 2, 2, 2, 2, 2, 2, 2, 2, 2, 2, 2, 2, 2, 2, 2, 2, 2, 2, 0, 0, 0, 0, 0, 2, 0, 0, 2, 0] .ans) (.st [2, 2, 2, 2, 2] (.br 86 (.st [2, 2, 2, 2, 2, 2, 2, 2, 2, 2, 2, 2, 2, 2, 2, 2, 2, 2, 2, 2, 2, 2, 2, 2, 2, 2, 2, 0, 0, 0, 0, 0, 2, 0, 0, 2, 0] .ans) (.st [2, 2, 2, 2] (.br 90 (.st [2, 2, 2, 2, 2, 2] (.br 96 (.st [2, 2, 2, 2, 2, 2, 2, 2, 2, 2, 2, 2, 2, 2, 2, 2, 2, 0, 0, 0, 0, 0, 2, 0, 0, 2, 0] .ans) (.st [2, 2, 2, 2, 2, 2] (.br 102 (.st [2, 2, 2, 2, 2, 2, 2, 2, 2, 2, 2, 0, 0, 0, 0, 0, 2, 0, 0, 2, 0] .ans) (.st [2, 2, 2, 2, 2, 2] (.br 108 (.st [2, 2, 2, 2, 2, 0, 0, 0, 0, 0, 2, 0, 0, 2, 0] .ans) (.st [2, 2, 2, 2, 2, 0, 0] (.br 113 (.st [0, 0, 0, 2, 0, 0, 2, 0] .ans) (.st [0, 2, 0, 0, 0, 2, 2, 2, 2] (.use (.tup [.int .i64 (F32_0 n (t9_3 a0)), .int .i64 (F32_1 n (t9_3 a0))]) (.st [2, 2, 2, 2, 2, 0, 0, 0, 0, 2, 2, 2] (.br 124 (.st [2, 2, 2, 2, 2, 2, 2, 2, 2, 2, 2] (.br 135 (.st [2, 2, 2, 2, 2, 2, 2, 2, 2, 2, 2, 2, 2] (.br 148 (.st [2, 2, 2] (.br 151 (.st [2, 2, 2, 2, 2] (.br 156 (.st [2, 2, 2, 2, 2, 2, 2, 2, 2, 2, 0, 0, 2] .ans) (.st [2, 2, 2] (.br 159 .dead (.st [2, 2, 2, 2, 2, 2, 2, 0, 0, 2] .ans))))) (.st [2, 2, 2, 2, 2, 2, 2, 2] (.br 159 (.st [2, 2, 2, 2, 2, 2, 2, 0, 0, 2] .ans) .dead)))) (.st [2, 2, 2, 2, 2, 2, 2, 2, 2, 2, 2, 2, 2, 2, 2, 2, 2, 2, 0, 0, 2] .ans))) (.st [2, 2, 2, 2, 2, 2, 2, 2, 2, 2, 2, 2, 2, 2, 2, 2, 2, 2, 2, 2, 2, 2, 2, 2, 2, 2, 2, 2, 2, 2, 2, 0, 0, 2] .ans))) (.st [2, 2, 2, 2, 2, 2, 2, 2, 2, 2, 2, 2, 2, 2, 2, 2, 2, 2, 2, 2, 2, 2, 2, 2, 2, 2, 2, 2, 2, 2, 2, 2, 2, 2, 2, 2, 2, 2, 2, 2, 2, 2, 0, 0, 2] .ans))))))))))))) (.st [2, 2, 2, 2, 2, 2, 2, 2, 2, 2, 2, 2] (.br 102 (.st [2, 2, 2, 2, 2, 2, 2, 2, 2, 2, 2, 0, 0, 0, 0, 0, 2, 0, 0, 2, 0] .ans) (.st [2, 2, 2, 2, 2, 2] (.br 108 (.st [2, 2, 2, 2, 2, 0, 0, 0, 0, 0, 2, 0, 0, 2, 0] .ans) (.st [2, 2, 2, 2, 2, 0, 0] (.br 113 (.st [0, 0, 0, 2, 0, 0, 2, 0] .ans) (.st [0, 2, 0, 0, 0, 2, 2, 2, 2] (.use (.tup [.int .i64 (F32_0 n (t9_3 a0)), .int .i64 (F32_1 n (t9_3 a0))]) (.st [2, 2, 2, 2, 2, 0, 0, 0, 0, 2, 2, 2] (.br 124 (.st [2, 2, 2, 2, 2, 2, 2, 2, 2, 2, 2] (.br 135 (.st [2, 2, 2, 2, 2, 2, 2, 2, 2, 2, 2, 2, 2] (.br 148 (.st [2, 2, 2] (.br 151 (.st [2, 2, 2, 2, 2] (.br 156 (.st [2, 2, 2, 2, 2, 2, 2, 2, 2, 2, 0, 0, 2] .ans) (.st [2, 2, 2] (.br 159 .dead (.st [2, 2, 2, 2, 2, 2, 2, 0, 0, 2] .ans))))) (.st [2, 2, 2, 2, 2, 2, 2, 2] (.br 159 (.st [2, 2, 2, 2, 2, 2, 2, 0, 0, 2] .ans) .dead)))) (.st [2, 2, 2, 2, 2, 2, 2, 2, 2, 2, 2, 2, 2, 2, 2, 2, 2, 2, 0, 0, 2] .ans))) (.st [2, 2, 2, 2, 2, 2, 2, 2, 2, 2, 2, 2, 2, 2, 2, 2, 2, 2, 2, 2, 2, 2, 2, 2, 2, 2, 2, 2, 2, 2, 2, 0, 0, 2] .ans))) (.st [2, 2, 2, 2, 2, 2, 2, 2, 2, 2, 2, 2, 2, 2, 2, 2, 2, 2, 2, 2, 2, 2, 2, 2, 2, 2, 2, 2, 2, 2, 2, 2, 2, 2, 2, 2, 2, 2, 2, 2, 2, 2, 0, 0, 2] .ans))))))))))))))))))))))))))))))))))))))))))))))) [] (.code body9 (Go.Sx.startA [.int .i64 a0] Tryd.f9) (Go.Sx.laidHeap vars)) = (Go.Sx.Fact Tryd.prog vars 10 [] (.bool true) ∧ (Go.Sx.Fact Tryd.prog vars 41 [.int .i64 (a0)] (.int .i64 (F41_0 a0)) ∧ (Go.Sx.Fact Tryd.prog vars 28 [.int .i64 (F41_0 a0)] (.tup [.int .i64 (F28_0 (F41_0 a0)), .int .i64 (F28_1 (F41_0 a0))]) ∧ (Go.Sx.Fact Tryd.prog vars 29 [.int .i64 (F41_0 a0)] (.tup [.int .i64 (F29_0 (F41_0 a0)), .int .i64 (F29_1 (F41_0 a0))]) ∧ (Go.Sx.Fact Tryd.prog vars 30 [.int .i64 (F41_0 a0)] (.tup [.int .i64 (F30_0 (F41_0 a0)), .int .i64 (F30_1 (F41_0 a0))]) ∧ (Go.Sx.Fact Tryd.prog vars 31 [.int .i64 (F41_0 a0)] (.tup [.int .i64 (F31_0 (F41_0 a0)), .int .i64 (F31_1 (F41_0 a0))]) ∧ (Go.Sx.Fact Tryd.prog vars 16 [.int .i64 (F41_0 a0)] (.tup [.int .i64 (F16_0 (F41_0 a0)), .int .i64 (F16_1 (F41_0 a0))]) ∧ (Go.Sx.BR (!Go.Sx.eqI (F28_1 (F41_0 a0)) 0) (vz = .bool false) (Go.Sx.BR (!Go.Sx.eqI (F29_1 (F41_0 a0)) 0) (vz = .bool false) (Go.Sx.BR (!Go.Sx.eqI (F30_1 (F41_0 a0)) 0) (vz = .bool false) (Go.Sx.BR (!Go.Sx.eqI (F31_1 (F41_0 a0)) 0) (vz = .bool false) (Go.Sx.BR (!Go.Sx.eqI (F16_1 (F41_0 a0)) 0) (vz = .bool false) (Go.Sx.BR (Go.Sx.ltI (F41_0 a0) (F28_0 (F41_0 a0))) (vz = .bool false) (Go.Sx.BR (Go.Sx.ltI (F29_0 (F41_0 a0)) (F41_0 a0)) (vz = .bool false) (Go.Sx.BR (Go.Sx.ltI 65536 (Go.Sx.wrapA Go.IntKind.i64 (Int.sub (F29_0 (F41_0 a0)) (F28_0 (F41_0 a0))))) (vz = .bool false) (Go.Sx.BR (c9_0 a0) (vz = .bool false) (Go.Sx.BR (c9_1 a0) (vz = .bool false) (Go.Sx.BR (!Go.Sx.eqI (F30_0 (F41_0 a0)) (F28_0 (F41_0 a0))) (Go.Sx.BR (!Go.Sx.eqI (F30_0 (F41_0 a0)) (F29_0 (F41_0 a0))) (vz = .bool false) (Go.Sx.BR (Go.Sx.ltI 32768 (Go.Sx.wrapA Go.IntKind.i64 (Int.sub (F30_0 (F41_0 a0)) (F41_0 a0)))) (vz = .bool false) (Go.Sx.BR (!Go.Sx.ltI (Go.Sx.wrapA Go.IntKind.i64 (Int.sub (F41_0 a0) (F30_0 (F41_0 a0)))) 32769) (vz = .bool false) (Go.Sx.BR (c9_2 a0) (vz = .bool false) (Go.Sx.Fact Tryd.prog vars 32 [.int .i64 (t9_3 a0)] (.tup [.int .i64 (F32_0 n (t9_3 a0)), .int .i64 (F32_1 n (t9_3 a0))]) ∧ (Go.Sx.BR (Go.Sx.eqI (F32_1 n (t9_3 a0)) 0) (Go.Sx.BR (c9_4 n a0) (Go.Sx.BR (c9_5 n a0) (Go.Sx.BR (!Go.Sx.ltI (F41_0 a0) 0) (Go.Sx.BR (Go.Sx.eqI (F31_0 (F41_0 a0)) (F28_0 (F41_0 a0))) (vz = .bool true) (Go.Sx.BR (Go.Sx.ltI (F41_0 a0) 0) False (vz = .bool false))) (Go.Sx.BR (Go.Sx.ltI (F41_0 a0) 0) (vz = .bool (Go.Sx.eqI (F31_0 (F41_0 a0)) (F29_0 (F41_0 a0)))) False)) (vz = .bool false)) (vz = .bool false)) (vz = .bool false))))))) (Go.Sx.BR (Go.Sx.ltI 32768 (Go.Sx.wrapA Go.IntKind.i64 (Int.sub (F30_0 (F41_0 a0)) (F41_0 a0)))) (vz = .bool false) (Go.Sx.BR (!Go.Sx.ltI (Go.Sx.wrapA Go.IntKind.i64 (Int.sub (F41_0 a0) (F30_0 (F41_0 a0)))) 32769) (vz = .bool false) (Go.Sx.BR (c9_2 a0) (vz = .bool false) (Go.Sx.Fact Tryd.prog vars 32 [.int .i64 (t9_3 a0)] (.tup [.int .i64 (F32_0 n (t9_3 a0)), .int .i64 (F32_1 n (t9_3 a0))]) ∧ (Go.Sx.BR (Go.Sx.eqI (F32_1 n (t9_3 a0)) 0) (Go.Sx.BR (c9_4 n a0) (Go.Sx.BR (c9_5 n a0) (Go.Sx.BR (!Go.Sx.ltI (F41_0 a0) 0) (Go.Sx.BR (Go.Sx.eqI (F31_0 (F41_0 a0)) (F28_0 (F41_0 a0))) (vz = .bool true) (Go.Sx.BR (Go.Sx.ltI (F41_0 a0) 0) False (vz = .bool false))) (Go.Sx.BR (Go.Sx.ltI (F41_0 a0) 0) (vz = .bool (Go.Sx.eqI (F31_0 (F41_0 a0)) (F29_0 (F41_0 a0)))) False)) (vz = .bool false)) (vz = .bool false)) (vz = .bool false)))))))))))))))))))))))) := by kernel_rfl
theorem run9 (n : Nat) (a0 : Int) (r : Bool) (h : F9 n a0 = some r) : Go.Sx.Run Tryd.prog Tryd.f9 vars (.bool r) [] (.code body9 (Go.Sx.startA [.int .i64 a0] Tryd.f9) (Go.Sx.laidHeap vars)) := by
  exact Go.Sx.wpS_run (L := vars) (by kernel_rfl) (form9 n a0 (.bool r)) ((fun h => ⟨fact10 , (fun h => ⟨fact41 (a0), (fun h => ⟨fact28 (F41_0 a0), (fun h => ⟨fact29 (F41_0 a0), (fun h => ⟨fact30 (F41_0 a0), (fun h => ⟨fact31 (F41_0 a0), (fun h => ⟨fact16 (F41_0 a0), (Go.Sx.br_of (fun h0 => (fun h => by cases h; rfl)) (fun h0 => (Go.Sx.br_of (fun h1 => (fun h => by cases h; rfl)) (fun h1 => (Go.Sx.br_of (fun h2 => (fun h => by cases h; rfl)) (fun h2 => (Go.Sx.br_of (fun h3 => (fun h => by cases h; rfl)) (fun h3 => (Go.Sx.br_of (fun h4 => (fun h => by cases h; rfl)) (fun h4 => (Go.Sx.br_of (fun h5 => (fun h => by cases h; rfl)) (fun h5 => (Go.Sx.br_of (fun h6 => (fun h => by cases h; rfl)) (fun h6 => (Go.Sx.br_of (fun h7 => (fun h => by cases h; rfl)) (fun h7 => (Go.Sx.br_of (fun h8 => (fun h => by cases h; rfl)) (fun h8 => (Go.Sx.br_of (fun h9 => (fun h => by cases h; rfl)) (fun h9 => (Go.Sx.br_of (fun h10 => (Go.Sx.br_of (fun h11 => (fun h => by cases h; rfl)) (fun h11 => (Go.Sx.br_of (fun h12 => (fun h => by cases h; rfl)) (fun h12 => (Go.Sx.br_of (fun h13 => (fun h => by cases h; rfl)) (fun h13 => (Go.Sx.br_of (fun h14 => (fun h => by cases h; rfl)) (fun h14 => (Go.Sx.guard_of fun h15 => (fun h => ⟨fact32 (n) (t9_3 a0) h15, (Go.Sx.br_of (fun h16 => (Go.Sx.br_of (fun h17 => (Go.Sx.br_of (fun h18 => (Go.Sx.br_of (fun h19 => (Go.Sx.br_of (fun h20 => (fun h => by cases h; rfl)) (fun h20 => (fun h => ⟨fun q => Go.Sx.tf q (by have q := h19; simpa using q), fun _ => (fun h => by cases h; rfl) h⟩)))) (fun h19 => (fun h => ⟨fun _ => (fun h => by cases h; rfl) h, fun q => Go.Sx.tf (by have q := h19; simpa using q) q⟩)))) (fun h18 => (fun h => by cases h; rfl)))) (fun h17 => (fun h => by cases h; rfl)))) (fun h16 => (fun h => by cases h; rfl))) h⟩))))))))))) (fun h10 => (Go.Sx.br_of (fun h21 => (fun h => by cases h; rfl)) (fun h21 => (Go.Sx.br_of (fun h22 => (fun h => by cases h; rfl)) (fun h22 => (Go.Sx.br_of (fun h23 => (fun h => by cases h; rfl)) (fun h23 => (Go.Sx.guard_of fun h24 => (fun h => ⟨fact32 (n) (t9_3 a0) h24, (Go.Sx.br_of (fun h25 => (Go.Sx.br_of (fun h26 => (Go.Sx.br_of (fun h27 => (Go.Sx.br_of (fun h28 => (Go.Sx.br_of (fun h29 => (fun h => by cases h; rfl)) (fun h29 => (fun h => ⟨fun q => Go.Sx.tf q (by have q := h28; simpa using q), fun _ => (fun h => by cases h; rfl) h⟩)))) (fun h28 => (fun h => ⟨fun _ => (fun h => by cases h; rfl) h, fun q => Go.Sx.tf (by have q := h28; simpa using q) q⟩)))) (fun h27 => (fun h => by cases h; rfl)))) (fun h26 => (fun h => by cases h; rfl)))) (fun h25 => (fun h => by cases h; rfl))) h⟩)))))))))))))))))))))))))))))) h⟩) h⟩) h⟩) h⟩) h⟩) h⟩) h⟩) h)


set_option maxRecDepth 100000
theorem w64r (n : Int) : -9223372036854775808 ≤ wrapA .i64 n ∧ wrapA .i64 n ≤ 9223372036854775807 := by rw [w64]; omega
theorem F14_0_t (x : Int) : (F14_0 x = true) = (-2147483648 ≤ x ∧ x ≤ 2147483648) := by
  simp only [F14_0, F14, condI, nneg_n, ltI_f]
  by_cases h : -2147483648 ≤ x
  · simp only [h, if_true, true_and, Option.getD_some, nneg_n, ltI_f]
  · simp [h]
theorem F14_0_f (x : Int) : (F14_0 x = false) = ¬ (-2147483648 ≤ x ∧ x ≤ 2147483648) := by
  rw [← F14_0_t]; simp
theorem F15_eq (x : Int) : F15_0 x = F14_0 x := rfl
theorem tdiv_in {a y : Int} (hy : 2 ≤ y) (h : -9223372036854775808 ≤ a ∧ a ≤ 9223372036854775807) : -4611686018427387904 ≤ Int.tdiv a y ∧ Int.tdiv a y ≤ 4611686018427387904 := by
  have h1 : (Int.tdiv a y).natAbs = a.natAbs / y.natAbs := Int.natAbs_tdiv a y
  have h2 : a.natAbs / y.natAbs ≤ a.natAbs / 2 := Nat.div_le_div_left (by omega) (by omega)
  omega
theorem floor_ok {a y : Int} (hy : 2 ≤ y) (h : -9223372036854775808 ≤ a ∧ a ≤ 9223372036854775807) :
    (if Int.tmod a y < 0 then some (wrapA .i64 (Int.tdiv a y - 1)) else some (wrapA .i64 (Int.tdiv a y))) = some (a / y) := by
  have hb := tdiv_in hy h
  have hd := tdiv_floor (a := a) (y := y) (by omega)
  split
  · rename_i q; rw [if_pos q] at hd; rw [wrap64 (by omega) (by omega), hd]
  · rename_i q; rw [if_neg q] at hd; rw [wrap64 (by omega) (by omega), hd]
theorem wrap_tdiv {a y : Int} (hy : 2 ≤ y) (h : -9223372036854775808 ≤ a ∧ a ≤ 9223372036854775807) : wrapA .i64 (Int.tdiv a y) = Int.tdiv a y := by
  have hb := tdiv_in hy h
  exact wrap64 (by omega) (by omega)
theorem F50_ok {a y : Int} (hy : 2 ≤ y) (h : -9223372036854775808 ≤ a ∧ a ≤ 9223372036854775807) : F50 a y = some (a / y) := by
  simp only [F50, condI, nneg_n, eqI_f, ltI_t, sub_int, wrap_tdiv hy h]
  rw [if_pos (by omega)]
  simpa only [wrap_tdiv hy h] using floor_ok hy h
theorem F52_ok {a y : Int} (hy : 2 ≤ y) (h : -9223372036854775808 ≤ a ∧ a ≤ 9223372036854775807) : F52 a y = some (a / y) := by
  simp only [F52, condI, nneg_n, eqI_f, ltI_t, sub_int, wrap_tdiv hy h]
  rw [if_pos (by omega)]
  simpa only [wrap_tdiv hy h] using floor_ok hy h
theorem F47_pair (n : Int) : (F47_0 n, F47_1 n) = (F47 n).getD default := rfl
theorem F47_val (n : Int) : F47 n = bif !F14_0 n then some (0, 25) else some (n, 0) := rfl
theorem F21_ok {x y : Int} (hx : F14_0 x = true) (hy : F14_0 y = true) : F20 x y = F21 x y := by
  simp only [F20, F21, F47_0, F47_1, F47_val, hx, hy]
  cases F14_0 (wrapA .i64 (Int.add x y)) <;> rfl
theorem F23_ok {x y : Int} (hx : F14_0 x = true) (hy : F14_0 y = true) : F22 x y = F23 x y := by
  simp only [F22, F23, F47_0, F47_1, F47_val, hx, hy]
  cases F14_0 (wrapA .i64 (Int.sub x y)) <;> rfl
theorem F25_ok {x y : Int} (hx : F14_0 x = true) (hy : F14_0 y = true) : F24 x y = F25 x y ∧ (F25 x y).isSome = true := by
  have h := w64r (Int.add (wrapA .i64 (Int.mul x y)) 32768)
  have e := F50_ok (a := wrapA .i64 (Int.add (wrapA .i64 (Int.mul x y)) 32768)) (y := 65536) (by omega) h
  have e0 : F50_0 (wrapA .i64 (Int.add (wrapA .i64 (Int.mul x y)) 32768)) 65536 = wrapA .i64 (Int.add (wrapA .i64 (Int.mul x y)) 32768) / 65536 := by simp only [F50_0, e]; rfl
  simp only [F24, F25, t24_0, t25_0, hx, hy, e, e0, F15_eq, fdiv_pos _ (show (0:Int) ≤ 65536 by omega), F47_0, F47_1, F47_val]
  generalize wrapA .i64 (Int.add (wrapA .i64 (Int.mul x y)) 32768) / 65536 = s
  cases F14_0 s <;> exact ⟨rfl, rfl⟩
theorem cut_r {x : Int} (h : F14_0 x = true) : F11_0 x = x := by
  simp only [F11_0, F11, F15_eq, h]; rfl
theorem cut_n {x : Int} (h : F14_0 x = false) : F11_0 x = Int.tmod x 2147483648 := by
  simp only [F11_0, F11, F15_eq, h]; rfl
theorem cut_real (x : Int) : F14_0 (F11_0 x) = true := by
  cases h : F14_0 x with
  | true => rw [cut_r h]; exact h
  | false =>
    rw [cut_n h, F14_0_t]
    have := tmod_bd x (c := 2147483648) (by omega)
    omega
theorem cut_cut (x : Int) : F11_0 (F11_0 x) = F11_0 x := cut_r (cut_real x)
theorem toInt_ok {x : Int} (h : F14_0 x = true) : F16 x = some (F18_0 x, 0) := by
  have hr := (F14_0_t x).mp h
  have e : F18_0 x = wrapA .i64 (Int.tdiv x 65536) := by
    simp only [F18_0, F18, condI, ltI_t]
    split
    · rename_i q
      have hb := tdiv_bd (a := x) (y := 65536) (by omega)
      have hw : IntKind.wrap .i64 (0 - x) = -x := by rw [wk64]; omega
      simp only [t18_0, hw, Int.neg_tdiv, Option.getD_some]
      rw [wrap64 (n := -(Int.tdiv x 65536)) (by omega) (by omega), wrap64 (by omega) (by omega), wk64]
      omega
    · rfl
  simp only [F16, h, e]; rfl
theorem or64 {a b : Nat} (ha : a < 2 ^ 63) (hb : b < 2 ^ 63) : IntKind.wrap .i64 ((BitVec.toNat (BitVec.ofInt 64 (a : Int) ||| BitVec.ofInt 64 (b : Int)) : Nat) : Int) = ((a ||| b : Nat) : Int) := by
  have h1 : (BitVec.ofInt 64 (a : Int)).toNat = a := by rw [BitVec.toNat_ofInt]; omega
  have h2 : (BitVec.ofInt 64 (b : Int)).toNat = b := by rw [BitVec.toNat_ofInt]; omega
  have h3 : a ||| b < 2 ^ 63 := Nat.or_lt_two_pow ha hb
  rw [BitVec.toNat_or, h1, h2, wk64]
  omega
theorem or_step {k m : Nat} (h : 2 ^ (k + 1) * m + 2 ^ k < 2 ^ 63) : IntKind.wrap .i64 ((BitVec.toNat (BitVec.ofInt 64 ((2 ^ (k + 1) * m : Nat) : Int) ||| BitVec.ofInt 64 ((2 ^ k : Nat) : Int)) : Nat) : Int) = ((2 ^ (k + 1) * m + 2 ^ k : Nat) : Int) := by
  have hp : 2 ^ k < 2 ^ (k + 1) := Nat.pow_lt_pow_right (by omega) (by omega)
  rw [or64 (by omega) (by omega), Nat.two_pow_add_eq_or_of_lt hp]
theorem sq_le {a b : Nat} (h : a ≤ b) : a * a ≤ b * b := Nat.mul_le_mul h h
theorem sqrt_uniq {N r s : Nat} (h1 : r * r ≤ N) (h2 : N < (r + 1) * (r + 1)) (h3 : s * s ≤ N) (h4 : N < (s + 1) * (s + 1)) : r = s := by
  rcases Nat.lt_trichotomy r s with h | h | h
  · have := sq_le (show r + 1 ≤ s from h); omega
  · exact h
  · have := sq_le (show s + 1 ≤ r from h); omega
theorem c32_ok {x N R B : Nat} (hN : N = x * 65536) (hx : x ≤ 2147483648) (hor : t32_2 (R : Int) (B : Int) = ((R + B : Nat) : Int)) (hb : R + B ≤ 67108864) : c32_3 (x : Int) R B = decide ((R + B) * (R + B) ≤ N) := by
  have hor' : IntKind.wrap .i64 ((BitVec.toNat (BitVec.ofInt 64 (R : Int) ||| BitVec.ofInt 64 (B : Int)) : Nat) : Int) = ((R + B : Nat) : Int) := hor
  have hsq := sq_le hb
  have h1 : wrapA .i64 (((R + B : Nat) : Int) * ((R + B : Nat) : Int)) = (((R + B) * (R + B) : Nat) : Int) := by
    rw [← Int.natCast_mul]; exact wrap64 (by omega) (by omega)
  have h2 : wrapA .i64 ((x : Int) * 65536) = (N : Int) := by rw [wrap64 (by omega) (by omega), hN]; omega
  simp only [c32_3, mul_int, hor', h1, h2]
  rw [Bool.eq_iff_iff, nneg_n, ltI_f, decide_eq_true_iff]
  omega
theorem L32_ok {x N : Nat} (hN : N = x * 65536) (hx : x ≤ 2147483648) : ∀ (k m : Nat), k ≤ 24 → 2 ^ (k + 1) * m + 2 ^ (k + 1) ≤ 33554432 → (2 ^ (k + 1) * m) * (2 ^ (k + 1) * m) ≤ N → N < (2 ^ (k + 1) * m + 2 ^ (k + 1)) * (2 ^ (k + 1) * m + 2 ^ (k + 1)) →
    ∀ n, 2 * k + 3 ≤ n → ∃ r : Nat, L32_0 (x : Int) n ((2 ^ (k + 1) * m : Nat) : Int) ((2 ^ k : Nat) : Int) true = some ((r : Int), 0) ∧ r * r ≤ N ∧ N < (r + 1) * (r + 1) ∧ r < 33554432 := by
  intro k
  induction k with
  | zero =>
    intro m _ hb h1 h2 n hn
    obtain ⟨n, rfl⟩ : ∃ j, n = j + 3 := ⟨n - 3, by omega⟩
    have hor : t32_2 ((2 ^ (0 + 1) * m : Nat) : Int) ((2 ^ 0 : Nat) : Int) = ((2 ^ (0 + 1) * m + 2 ^ 0 : Nat) : Int) := or_step (by omega)
    have hc := c32_ok hN hx hor (by omega)
    have hz : ltI 0 (Int.fdiv ((2 ^ 0 : Nat) : Int) 2) = false := by decide
    rw [L32_0_succ, hc, cond_true]
    by_cases q : (2 ^ (0 + 1) * m + 2 ^ 0) * (2 ^ (0 + 1) * m + 2 ^ 0) ≤ N
    · rw [decide_eq_true q, cond_true, L32_1_succ, hz, L32_0_succ, cond_false, hor]
      refine ⟨_, rfl, q, ?_, by omega⟩
      have : 2 ^ (0 + 1) * m + 2 ^ 0 + 1 = 2 ^ (0 + 1) * m + 2 ^ (0 + 1) := by omega
      rw [this]; exact h2
    · rw [decide_eq_false q, cond_false, L32_1_succ, hz, L32_0_succ, cond_false]
      refine ⟨_, rfl, h1, ?_, by omega⟩
      exact Nat.lt_of_not_le q
  | succ k ih =>
    intro m hk hb h1 h2 n hn
    obtain ⟨n, rfl⟩ : ∃ j, n = j + 2 := ⟨n - 2, by omega⟩
    have hpow : 2 ^ (k + 1 + 1) = 2 * 2 ^ (k + 1) := by rw [Nat.pow_succ]; omega
    have hor : t32_2 ((2 ^ (k + 1 + 1) * m : Nat) : Int) ((2 ^ (k + 1) : Nat) : Int) = ((2 ^ (k + 1 + 1) * m + 2 ^ (k + 1) : Nat) : Int) := or_step (by omega)
    have hc := c32_ok hN hx hor (by omega)
    have hd : Int.fdiv ((2 ^ (k + 1) : Nat) : Int) 2 = ((2 ^ k : Nat) : Int) := by
      rw [fdiv_pos _ (by omega), Nat.pow_succ]; omega
    have hz : ltI 0 ((2 ^ k : Nat) : Int) = true := by
      have : 0 < 2 ^ k := Nat.pow_pos (by omega)
      rw [ltI_t]; omega
    rw [L32_0_succ, hc, cond_true]
    by_cases q : (2 ^ (k + 1 + 1) * m + 2 ^ (k + 1)) * (2 ^ (k + 1 + 1) * m + 2 ^ (k + 1)) ≤ N
    · rw [decide_eq_true q, cond_true, L32_1_succ, hd, hz, hor]
      have e : 2 ^ (k + 1 + 1) * m + 2 ^ (k + 1) = 2 ^ (k + 1) * (2 * m + 1) := by rw [hpow, Nat.mul_add, Nat.mul_one, ← Nat.mul_assoc, Nat.mul_comm (2 ^ (k + 1)) 2]
      have e2 : 2 ^ (k + 1) * (2 * m + 1) + 2 ^ (k + 1) = 2 ^ (k + 1 + 1) * m + 2 ^ (k + 1 + 1) := by rw [← e, hpow]; omega
      rw [e] at q ⊢
      exact ih (2 * m + 1) (by omega) (by rw [e2]; exact hb) q (by rw [e2]; exact h2) n (by omega)
    · rw [decide_eq_false q, cond_false, L32_1_succ, hd, hz]
      have e : 2 ^ (k + 1 + 1) * m = 2 ^ (k + 1) * (2 * m) := by rw [hpow, ← Nat.mul_assoc, Nat.mul_comm (2 ^ (k + 1)) 2]
      rw [e] at h1 q hb ⊢
      exact ih (2 * m) (by omega) (by omega) h1 (by omega) n (by omega)
theorem F32_ok {x : Int} (h0 : 0 ≤ x) (hx : x ≤ 2147483648) {n : Nat} (hn : 60 ≤ n) : ∃ r : Nat, F32 n x = some ((r : Int), 0) ∧ r * r ≤ x.toNat * 65536 ∧ x.toNat * 65536 < (r + 1) * (r + 1) ∧ r < 33554432 := by
  have e1 : F14_0 x = true := by rw [F14_0_t]; omega
  have e2 : ltI x 0 = false := by rw [ltI_f]; exact h0
  have hx' : x = (x.toNat : Int) := by omega
  obtain ⟨r, k1, k2, k3, k4⟩ := L32_ok (x := x.toNat) (N := x.toNat * 65536) rfl (by omega) 24 0 (by omega) (by decide) (by simp) (by simp; omega) n (by omega)
  refine ⟨r, ?_, k2, k3, k4⟩
  simp only [F32, e1, e2, Bool.not_true, cond_false]
  rw [hx']; exact k1
theorem law_ok (a0 : Int) (w0 : (Lit.int .i64 a0).wf = true) : ∃ n : Nat, F9 n a0 = some true := by
  refine ⟨60, ?_⟩
  have e1 : F41_0 a0 = Int.tmod a0 2147483649 := rfl
  have b1 := tmod_bd a0 (c := 2147483649) (by omega)
  have hx : -2147483648 ≤ F41_0 a0 ∧ F41_0 a0 ≤ 2147483648 := by rw [e1]; omega
  have hr : F14_0 (F41_0 a0) = true := by rw [F14_0_t]; exact hx
  simp only [F9, c9_0, c9_1, c9_2, t9_3, c9_4, c9_5]
  generalize F41_0 a0 = x at *
  have w53 : ∀ y, -4294967296 ≤ y → y ≤ 4294967296 → F53_0 y = y / 65536 * 65536 := by
    intro y h1 h2
    simp only [F53_0, F53, fdiv_pos _ (show (0:Int) ≤ 65536 by omega), mul_int, Option.getD_some, w64]; omega
  have nx : IntKind.wrap .i64 (0 - x) = -x := by rw [wk64]; omega
  have hb := tdiv_bd (a := x) (y := 65536) (by omega)
  have f28 : F28 x = some (x / 65536 * 65536, 0) := by simp only [F28, hr, w53 x (by omega) (by omega)]; rfl
  have f29 : F29 x = some (-((-x) / 65536 * 65536), 0) := by
    have : t29_0 x = -((-x) / 65536 * 65536) := by simp only [t29_0, nx, w53 (-x) (by omega) (by omega), wk64]; omega
    simp only [F29, hr, this]; rfl
  have f30 : F30 x = some ((x + 32768) / 65536 * 65536, 0) := by
    have : wrapA .i64 (Int.add x 32768) = x + 32768 := by simp only [add_int, w64]; omega
    simp only [F30, hr, this, w53 (x + 32768) (by omega) (by omega)]; rfl
  have f16 : F16 x = some (Int.tdiv x 65536, 0) := by
    simp only [F16, hr, wrap64 (n := Int.tdiv x 65536) (by omega) (by omega)]; rfl
  have f31 : F31 x = some (Int.tdiv x 65536 * 65536, 0) := by
    have : t31_0 x = Int.tdiv x 65536 * 65536 := by
      simp only [t31_0, mul_int]
      rw [wrap64 (n := Int.tdiv x 65536) (by omega) (by omega), w64]; omega
    simp only [F31, hr, this]; rfl
  have g0 : F28_0 x = x / 65536 * 65536 := by simp only [F28_0, f28]; rfl
  have g1 : F28_1 x = 0 := by simp only [F28_1, f28]; rfl
  have g2 : F29_0 x = -((-x) / 65536 * 65536) := by simp only [F29_0, f29]; rfl
  have g3 : F29_1 x = 0 := by simp only [F29_1, f29]; rfl
  have g4 : F30_0 x = (x + 32768) / 65536 * 65536 := by simp only [F30_0, f30]; rfl
  have g5 : F30_1 x = 0 := by simp only [F30_1, f30]; rfl
  have g6 : F16_0 x = Int.tdiv x 65536 := by simp only [F16_0, f16]; rfl
  have g7 : F16_1 x = 0 := by simp only [F16_1, f16]; rfl
  have g8 : F31_0 x = Int.tdiv x 65536 * 65536 := by simp only [F31_0, f31]; rfl
  have g9 : F31_1 x = 0 := by simp only [F31_1, f31]; rfl
  obtain ⟨y, hy, hy1, hy2⟩ : ∃ y, (if IntKind.wrap .i64 (0 - x) > x then IntKind.wrap .i64 (0 - x) else x) = y ∧ 0 ≤ y ∧ y ≤ 2147483648 := ⟨_, rfl, by rw [nx]; split <;> omega, by rw [nx]; split <;> omega⟩
  obtain ⟨r, k1, k2, k3, k4⟩ := F32_ok hy1 hy2 (n := 60) (by omega)
  have g10 : F32_0 60 y = r := by simp only [F32_0, k1]; rfl
  have g11 : F32_1 60 y = 0 := by simp only [F32_1, k1]; rfl
  have g12 : (F32 60 y).isSome = true := by rw [k1]; rfl
  have t1 : Int.tmod (x / 65536 * 65536) 65536 = 0 := Int.mul_tmod_left _ _
  have t2 : Int.tmod (-((-x) / 65536 * 65536)) 65536 = 0 := by rw [← Int.neg_mul]; exact Int.mul_tmod_left _ _
  have m1 : wrapA .i64 (Int.mul y 65536) = y * 65536 := by simp only [mul_int, w64]; omega
  have m2 : wrapA .i64 (Int.mul (r : Int) (r : Int)) = ((r * r : Nat) : Int) := by
    have := sq_le (Nat.le_of_lt k4)
    simp only [mul_int]; rw [← Int.natCast_mul]; exact wrap64 (by omega) (by omega)
  have m3 : wrapA .i64 (Int.add (r : Int) 1) = ((r + 1 : Nat) : Int) := by simp only [add_int, w64]; omega
  have m4 : wrapA .i64 (Int.mul ((r + 1 : Nat) : Int) ((r + 1 : Nat) : Int)) = (((r + 1) * (r + 1) : Nat) : Int) := by
    have := sq_le (show r + 1 ≤ 33554432 from k4)
    simp only [mul_int]; rw [← Int.natCast_mul]; exact wrap64 (by omega) (by omega)
  have m5 : wrapA .i64 (Int.mul (Int.tdiv x 65536) 65536) = Int.tdiv x 65536 * 65536 := by simp only [mul_int, w64]; omega
  have td : Int.tdiv x 65536 = if 0 ≤ x then x / 65536 else -((-x) / 65536) := by
    split
    · exact tdiv_pos (by assumption)
    · have := Int.neg_tdiv (-x) 65536
      rw [Int.neg_neg] at this
      rw [this, tdiv_pos (by omega)]
  have n1 : ¬ x < x / 65536 * 65536 := by omega
  have n2 : ¬ -((-x) / 65536 * 65536) < x := by omega
  have n3 : wrapA .i64 (Int.sub (-((-x) / 65536 * 65536)) (x / 65536 * 65536)) = -((-x) / 65536 * 65536) - x / 65536 * 65536 := by simp only [sub_int, w64]; omega
  have n4 : ¬ 65536 < -((-x) / 65536 * 65536) - x / 65536 * 65536 := by omega
  have n5 : wrapA .i64 (Int.sub ((x + 32768) / 65536 * 65536) x) = (x + 32768) / 65536 * 65536 - x := by simp only [sub_int, w64]; omega
  have n6 : wrapA .i64 (Int.sub x ((x + 32768) / 65536 * 65536)) = x - (x + 32768) / 65536 * 65536 := by simp only [sub_int, w64]; omega
  have n7 : ¬ 32768 < (x + 32768) / 65536 * 65536 - x := by omega
  have n8 : ¬ 32769 ≤ x - (x + 32768) / 65536 * 65536 := by omega
  have n9 : (x + 32768) / 65536 * 65536 ≠ x / 65536 * 65536 → (x + 32768) / 65536 * 65536 = -((-x) / 65536 * 65536) := by omega
  have n10 : ((r * r : Nat) : Int) ≤ y * 65536 := by omega
  have n11 : y * 65536 < (((r + 1) * (r + 1) : Nat) : Int) := by omega
  have s1 : eqI (F30_0 x) (F28_0 x) = false → eqI (F30_0 x) (F29_0 x) = true := by rw [g4, g0, g2, eqI_f, eqI_t]; exact n9
  have s2 : ltI x 0 = false → eqI (F31_0 x) (F28_0 x) = true := by
    rw [ltI_f, eqI_t, g8, g0, td]; intro h; rw [if_pos h]
  have s3 : ltI x 0 = true → eqI (F31_0 x) (F29_0 x) = true := by
    rw [ltI_t, eqI_t, g8, g2, td]; intro h; rw [if_neg (by omega)]; omega
  have u1 : eqI (F28_1 x) 0 = true := by rw [g1]; rfl
  have u2 : eqI (F29_1 x) 0 = true := by rw [g3]; rfl
  have u3 : eqI (F30_1 x) 0 = true := by rw [g5]; rfl
  have u4 : eqI (F31_1 x) 0 = true := by rw [g9]; rfl
  have u5 : eqI (F16_1 x) 0 = true := by rw [g7]; rfl
  have u6 : ltI x (F28_0 x) = false := by rw [g0, ltI_f]; omega
  have u7 : ltI (F29_0 x) x = false := by rw [g2, ltI_f]; omega
  have u8 : ltI 65536 (wrapA .i64 (Int.sub (F29_0 x) (F28_0 x))) = false := by rw [g0, g2, n3, ltI_f]; omega
  have u9 : eqI (Int.tmod (F28_0 x) 65536) 0 = true := by rw [g0, t1]; rfl
  have u10 : eqI (Int.tmod (F29_0 x) 65536) 0 = true := by rw [g2, t2]; rfl
  have u11 : ltI 32768 (wrapA .i64 (Int.sub (F30_0 x) x)) = false := by rw [g4, n5, ltI_f]; omega
  have u12 : ltI (wrapA .i64 (Int.sub x (F30_0 x))) 32769 = true := by rw [g4, n6, ltI_t]; omega
  have u13 : eqI (F31_0 x) (wrapA .i64 (Int.mul (F16_0 x) 65536)) = true := by rw [g8, g6, m5, eqI_t]
  have u14 : eqI (F32_1 60 y) 0 = true := by rw [g11]; rfl
  have u15 : ltI (wrapA .i64 (Int.mul y 65536)) (wrapA .i64 (Int.mul (F32_0 60 y) (F32_0 60 y))) = false := by rw [g10, m1, m2, ltI_f]; exact n10
  have u16 : ltI (wrapA .i64 (Int.mul y 65536)) (wrapA .i64 (Int.mul (wrapA .i64 (Int.add (F32_0 60 y) 1)) (wrapA .i64 (Int.add (F32_0 60 y) 1)))) = true := by rw [g10, m1, m3, m4, ltI_t]; exact n11
  simp only [hy, u1, u2, u3, u4, u5, u6, u7, u8, u9, u10, u11, u12, u13, u14, u15, u16, g12, Bool.not_true, Bool.not_false, cond_true, cond_false]
  cases h1 : eqI (F30_0 x) (F28_0 x) with
  | true =>
    cases h2 : ltI x 0 with
    | true => simp only [s3 h2, cond_true, cond_false, Bool.not_true, Bool.not_false]
    | false => simp only [s2 h2, cond_true, cond_false, Bool.not_true, Bool.not_false]
  | false =>
    cases h2 : ltI x 0 with
    | true => simp only [s1 h1, s3 h2, cond_true, cond_false, Bool.not_true, Bool.not_false]
    | false => simp only [s1 h1, s2 h2, cond_true, cond_false, Bool.not_true, Bool.not_false]

end

theorem walk (a0 : Int) (wa0 : (Lit.int .i64 a0).wf = true) {w : World} (h : Go.Sx.LaidIn w vars) {ARGS : List Value} (ha : Go.Sx.RelL (fun _ => none) [.int .i64 a0] ARGS) :
    Calls Tryd.prog 9 ARGS.toArray w fun e w' => e = .returned (.bool true) ∧ Below w.heap.size w w' := by
  obtain ⟨n, hn⟩ := law_ok a0 wa0
  exact Go.Sx.call_args okayed rfl ha Tryd.func9 body9_eq (run9 n a0 true hn) h

theorem door_met (os : Os) (args : Array Value) : laidMetH Tryd.prog laid ((World.doorLaid Tryd.prog 400 os).forCall (fun _ _ => 0) ⟨#[], args, []⟩).memory :=
  laidMetH_of_parts3 (fuel := 8) (laidMet_of_run' 8 (by kernel_rfl) (by kernel_rfl)) (by kernel_rfl) (by kernel_rfl)

set_option maxRecDepth 100000 in
theorem lifted (os : Os) (started : os.Started) (H : Type) (enc : TypeId × Value → H) :
    ReturnsInHanded {} Tryd.checked os 9 .any (fun w args => (Rows.realOrdersSpec.pre enc Tryd.prog Tryd.f9 [] false w args ∧ laidMetH Tryd.prog laid w) ∧ sizedMet enc Tryd.prog Tryd.f9 (OpenSpec.ofChange Rows.realOrdersSpec) false w args)
      (Rows.realOrdersSpec.post enc Tryd.prog Tryd.f9 false true false false) := by
  refine returnsInHanded_of_change_and (C := Tryd.checked) (X := fun w _ => laidMetH Tryd.prog laid w) (fun _ _ _ hh h => h.of_heap hh) own started (by kernel_rfl) Tryd.func9
    (ChangeSpec.witness_shaped (enc := enc) (C := Tryd.checked) (os := os) (X := fun w _ => laidMetH Tryd.prog laid w) false (World.doorLaid Tryd.prog 400 os) #[.int .i64 0] 8 rfl (World.shaped_of_RefB (by kernel_rfl) (by kernel_rfl)) (by kernel_rfl) (by kernel_rfl) (by kernel_rfl) (door_met os _)) ?_
  intro W base args ds gs before hval0 hW _ _ hL _
  have hval : ∀ (j : Nat) t v, Tryd.f9.params[j]? = some t → args[j]? = some v → Value.okWide Tryd.prog W .any base t v := hval0
  have hW' := hW
  obtain ⟨p, q, hA0, hV, rfl, hfz, hnd⟩ := hW
  have hA : DataW.TrodAll enc Tryd.prog W 0 (fun _ => true) true Tryd.f9.params.toList args.toList ds p := hA0
  rw [Tryd.params9] at hA hval
  obtain ⟨v0, vs0, d0, ds0, p0, q0, hargs, rfl, rfl, h0, r0⟩ := trodAll_cons hA
  obtain ⟨rfl, rfl, rfl⟩ := trodAll_nil r0
  obtain rfl : args = #[v0] := by cases args; simp_all
  obtain ⟨rfl, rfl⟩ := trodVars_none hV
  obtain ⟨rfl, as0, k0, e0⟩ := Go.Sx.open_kinds (ks := [.int .i64]) (by kernel_rfl) h0
  obtain ⟨a0, r0, rfl, wa0, k0⟩ := k0
  obtain rfl := k0
  clear hA0
  simp only [List.append_nil] at hW'
  have hrel : Go.Sx.RelL (fun _ => none) [.int .i64 a0] [v0] := ⟨_, _, Go.Sx.rel_int Tryd.underlying3 (hval 0 3 v0 rfl rfl) e0, rfl, rfl⟩
  refine (walk a0 wa0 (Go.Sx.laidIn_of hL (by kernel_rfl) vars_eq) hrel).mono fun e W' ⟨he, hg⟩ => ?_
  subst he
  exact ⟨_, rfl, Go.Sx.post_of_below (pa := []) (pv := []) hW' (fun _ _ _ => (trodAll_cons_mk (shut_bool Tryd.underlying4 _) trodAll_mk0)) (fun sp _ => (trodAll_cons_mk (Go.Sx.stays laidOut (by kernel_rfl) (Nat.le_of_ble_eq_true (by kernel_rfl)) h0) trodAll_mk0)) (fun _ _ => rfl) rfl
    hg (ok_one (by kernel_rfl) rfl (okWide_bool_mk Tryd.underlying4 _))⟩

theorem over : Rows.RealOrdersSaid :=
  OpenClaim.holds_of_wide 9 Tryd.f9 rfl rfl rfl rfl rfl rfl rfl ⟨rfl, rfl, rfl, rfl, rfl⟩ rfl rfl rfl rfl rfl (by kernel_rfl) Tryd.func9 (by kernel_rfl)
    (of_decide_eq_true (by kernel_rfl)) (by unfold Func.isWrapper; first | (rw [if_pos (by decide +kernel)]; kernel_rfl) | (rw [if_neg (by decide +kernel)]; exact ⟨rfl, rfl⟩))
    (fun os started H enc _ => lifted os started H enc)

theorem noStandIn : ([3].all fun t => Tryd.prog.wantsStandIn t == false) = true := by kernel_rfl
theorem proved : Rows.RealOrdersCardSaid :=
  Claim7.holds_tied_plain_at .later [] [.data, .data, .data] true (true, "6bb3bf17aa11547aa6681b340682b41d7ccfe301ed5df77c173ed9e7f240872f") false
    over (fun _ h => by cases h) (by kernel_rfl) (fun _ h => by cases h) realOrders_row_tie rfl ⟨rfl, rfl⟩ (by kernel_rfl) rfl
    (fun f fn hf hfn => by
      obtain rfl : f = 9 := Option.some.inj ((show Tryd.prog.funcNamed "chase/chaselaw01.RealOrders" = some 9 by kernel_rfl).symm.trans hf) |>.symm
      obtain rfl : fn = Tryd.f9 := (Option.some.inj (Tryd.func9.symm.trans hfn)).symm
      exact ⟨by kernel_rfl, fun j t ht => by
        rw [Tryd.params9] at ht
        have hm := Array.mem_of_getElem? ht
        have := List.all_eq_true.1 noStandIn t (by simpa using hm)
        exact beq_iff_eq.1 this⟩)
    (by kernel_rfl)
#print axioms proved
end Go.Proofs.YtglddbgaonciaaaDoor.realOrders
