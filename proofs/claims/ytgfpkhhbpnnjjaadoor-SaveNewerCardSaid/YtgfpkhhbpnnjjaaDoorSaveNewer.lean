/- 'chase/chaselaw19.SaveNewer' returns true for every argument, and nothing that was there is changed. Condition: the package variables that the row lists hold what the program's text gives them. Its run, with unknown arguments, is worked out by an executor that is proved sound against the model: so each function is a term; the rest is arithmetic. -/
import Derived.Test.YtgfpkhhbpnnjjaaDoorRows
import Derived.Test.YtgfpkhhbpnnjjaaDoorCards
import Derived.Test.YtgfpkhhbpnnjjaaDoorTie
import Derived.WalkKit
import Derived.ProofKit
import Derived.LaidMore
import Derived.OpenShut
import Derived.Stop.Joined
import Derived.SevenTiedAt
import Derived.Test.YtgfpkhhbpnnjjaaDoorSxF
namespace Go.Proofs.YtgfpkhhbpnnjjaaDoor.saveNewer
open Go.ChangeShapes Go.WideShapes Go.ChangeAt Go.WideMaps Go.WideElems Go.RowKit
set_option linter.unusedVariables false

theorem own : ownKnob Tryd.prog.godebug = none := by kernel_rfl
theorem okayed : Go.Sx.okProg Tryd.prog = true := by kernel_rfl
theorem laidOut : laidOutB Tryd.prog = true := by kernel_rfl
noncomputable def laid : List (String × DataW Unit) := [("chase/object.kinds", Rows.laid_chase_object_kinds)]
noncomputable def vars : List (Nat × List Go.Sx.AV) := [(0, [.str [110, 117, 108, 108, 116, 121, 112, 101], .int .i64 (.ofNat 0), .int .i64 (.ofNat 0), .int .i64 (.ofNat 0), .int .i64 (.ofNat 0), .int .i64 (.ofNat 0), .int .i64 (.ofNat 0), .int .i64 (.ofNat 0), .str [109, 97, 114, 107, 116, 121, 112, 101], .int .i64 (.ofNat 0), .int .i64 (.ofNat 0), .int .i64 (.ofNat 0), .int .i64 (.ofNat 0), .int .i64 (.ofNat 0), .int .i64 (.ofNat 0), .int .i64 (.ofNat 0), .str [98, 111, 111, 108, 101, 97, 110, 116, 121, 112, 101], .int .i64 (.ofNat 0), .int .i64 (.ofNat 1), .int .i64 (.ofNat 0), .int .i64 (.ofNat 0), .int .i64 (.ofNat 0), .int .i64 (.ofNat 0), .int .i64 (.ofNat 0), .str [105, 110, 116, 101, 103, 101, 114, 116, 121, 112, 101], .int .i64 (.negSucc 2147483647), .int .i64 (.ofNat 2147483647), .int .i64 (.ofNat 0), .int .i64 (.ofNat 0), .int .i64 (.ofNat 0), .int .i64 (.ofNat 0), .int .i64 (.ofNat 0), .str [114, 101, 97, 108, 116, 121, 112, 101], .int .i64 (.negSucc 2147483647), .int .i64 (.ofNat 2147483648), .int .i64 (.ofNat 0), .int .i64 (.ofNat 0), .int .i64 (.ofNat 0), .int .i64 (.ofNat 0), .int .i64 (.ofNat 0), .str [110, 97, 109, 101, 116, 121, 112, 101], .int .i64 (.ofNat 0), .int .i64 (.ofNat 0), .int .i64 (.ofNat 0), .int .i64 (.ofNat 100), .int .i64 (.ofNat 0), .int .i64 (.ofNat 0), .int .i64 (.ofNat 0), .str [115, 116, 114, 105, 110, 103, 116, 121, 112, 101], .int .i64 (.ofNat 0), .int .i64 (.ofNat 0), .int .i64 (.ofNat 0), .int .i64 (.ofNat 0), .int .i64 (.ofNat 0), .int .i64 (.ofNat 20000), .int .i64 (.ofNat 1000), .str [97, 114, 114, 97, 121, 116, 121, 112, 101], .int .i64 (.ofNat 0), .int .i64 (.ofNat 0), .int .i64 (.ofNat 0), .int .i64 (.ofNat 0), .int .i64 (.ofNat 0), .int .i64 (.ofNat 20000), .int .i64 (.ofNat 1000), .str [112, 97, 99, 107, 101, 100, 97, 114, 114, 97, 121, 116, 121, 112, 101], .int .i64 (.ofNat 0), .int .i64 (.ofNat 0), .int .i64 (.ofNat 0), .int .i64 (.ofNat 0), .int .i64 (.ofNat 0), .int .i64 (.ofNat 20000), .int .i64 (.ofNat 1000), .str [100, 105, 99, 116, 116, 121, 112, 101], .int .i64 (.ofNat 0), .int .i64 (.ofNat 0), .int .i64 (.ofNat 0), .int .i64 (.ofNat 0), .int .i64 (.ofNat 0), .int .i64 (.ofNat 20000), .int .i64 (.ofNat 0), .str [111, 112, 101, 114, 97, 116, 111, 114, 116, 121, 112, 101], .int .i64 (.ofNat 0), .int .i64 (.ofNat 0), .int .i64 (.ofNat 1), .int .i64 (.ofNat 100), .int .i64 (.ofNat 0), .int .i64 (.ofNat 0), .int .i64 (.ofNat 0), .str [102, 105, 108, 101, 116, 121, 112, 101], .int .i64 (.ofNat 0), .int .i64 (.ofNat 0), .int .i64 (.ofNat 0), .int .i64 (.ofNat 0), .int .i64 (.ofNat 0), .int .i64 (.ofNat 20000), .int .i64 (.ofNat 0), .str [115, 97, 118, 101, 116, 121, 112, 101], .int .i64 (.ofNat 1), .int .i64 (.ofNat 9223372036854775807), .int .i64 (.ofNat 0), .int .i64 (.ofNat 0), .int .i64 (.ofNat 0), .int .i64 (.ofNat 0), .int .i64 (.ofNat 0)])]
theorem vars_eq : Go.Sx.laidOf Tryd.prog laid = some vars := by kernel_rfl
section
open Go.Sx
set_option maxRecDepth 1000000

noncomputable def body8 : Go.Code := (Tryd.f8.body).getD .skip
theorem body8_eq : Tryd.f8.body = some body8 := Go.Sx.some_getD (by kernel_rfl)
set_option maxRecDepth 1000000 in
theorem ran8 : Go.Sx.endB Tryd.prog Tryd.f8 (Go.Sx.go Tryd.prog 100000 vars (Go.Sx.script [1]) [] (.code body8 (Go.Sx.startA [] Tryd.f8) (Go.Sx.laidHeap vars))) = true := by kernel_rfl
theorem fact8 : Go.Sx.Fact Tryd.prog vars 8 [] (.bool true) := Go.Sx.fact_of_run okayed (by kernel_rfl) (by kernel_rfl) (by kernel_rfl) Tryd.func8 body8_eq (Go.Sx.run_end ran8)
noncomputable def body28 : Go.Code := (Tryd.f28.body).getD .skip
theorem body28_eq : Tryd.f28.body = some body28 := Go.Sx.some_getD (by kernel_rfl)
noncomputable def F28 (kd : Int) (ex : Bool) (nn : Int) (nm : List Nat) (rf : Int) (of : Int) (ln : Int) : Option (Bool) := (bif (Go.Sx.eqI kd 6) then (some true) else (bif (Go.Sx.eqI kd 7) then (some true) else (bif (Go.Sx.eqI kd 8) then (some true) else (bif (Go.Sx.eqI kd 9) then (some true) else (some (Go.Sx.eqI kd 11))))))
set_option maxHeartbeats 4000000 in
theorem form28 (n : Nat) (kd : Int) (ex : Bool) (nn : Int) (nm : List Nat) (rf : Int) (of : Int) (ln : Int) (vz : Go.Sx.AV) : Go.Sx.wpS Tryd.prog Tryd.f28 vars vz (.st [0, 0, 2, 2, 0, 0, 0, 0, 2, 2, 2, 2] (.br 6 (.st [2, 2, 2, 2, 2, 2, 2, 2, 2, 2, 2, 2, 2, 2, 2, 2, 2, 2, 2, 2, 0, 0, 2] .ans) (.st [2, 2, 2, 2, 2] (.br 11 (.st [2, 2, 2, 2, 2, 2, 2, 2, 2, 2, 2, 2, 2, 2, 2, 0, 0, 2] .ans) (.st [2, 2, 2, 2, 2] (.br 16 (.st [2, 2, 2, 2, 2, 2, 2, 2, 2, 2, 0, 0, 2] .ans) (.st [2, 2, 2, 2, 2] (.br 21 (.st [2, 2, 2, 2, 2, 0, 0, 2] .ans) (.st [2, 2, 2, 2, 2, 0, 0, 2] .ans))))))))) [] (.code body28 (Go.Sx.startA [.agg [.int .i64 kd, .bool ex, .int .i64 nn, .str nm, .int .i64 rf, .int .i64 of, .int .i64 ln]] Tryd.f28) (Go.Sx.laidHeap vars)) = (Go.Sx.BR (Go.Sx.eqI kd 6) (vz = .bool true) (Go.Sx.BR (Go.Sx.eqI kd 7) (vz = .bool true) (Go.Sx.BR (Go.Sx.eqI kd 8) (vz = .bool true) (Go.Sx.BR (Go.Sx.eqI kd 9) (vz = .bool true) (vz = .bool (Go.Sx.eqI kd 11)))))) := by kernel_rfl
theorem run28 (n : Nat) (kd : Int) (ex : Bool) (nn : Int) (nm : List Nat) (rf : Int) (of : Int) (ln : Int) (r : Bool) (h : F28 kd ex nn nm rf of ln = some r) : Go.Sx.Run Tryd.prog Tryd.f28 vars (.bool r) [] (.code body28 (Go.Sx.startA [.agg [.int .i64 kd, .bool ex, .int .i64 nn, .str nm, .int .i64 rf, .int .i64 of, .int .i64 ln]] Tryd.f28) (Go.Sx.laidHeap vars)) := by
  exact Go.Sx.wpS_run (L := vars) (by kernel_rfl) (form28 n kd ex nn nm rf of ln (.bool r)) ((Go.Sx.br_of (fun h0 => (fun h => by cases h; rfl)) (fun h0 => (Go.Sx.br_of (fun h1 => (fun h => by cases h; rfl)) (fun h1 => (Go.Sx.br_of (fun h2 => (fun h => by cases h; rfl)) (fun h2 => (Go.Sx.br_of (fun h3 => (fun h => by cases h; rfl)) (fun h3 => (fun h => by cases h; rfl))))))))) h)
noncomputable def F28_0 (kd : Int) (ex : Bool) (nn : Int) (nm : List Nat) (rf : Int) (of : Int) (ln : Int) : Bool := ((F28 kd ex nn nm rf of ln).getD default)
theorem F28_some (kd : Int) (ex : Bool) (nn : Int) (nm : List Nat) (rf : Int) (of : Int) (ln : Int) : (F28 kd ex nn nm rf of ln).isSome = true := by
  unfold F28
  repeat' (first | rfl | apply Go.Sx.some_br)
theorem fact28 (kd : Int) (ex : Bool) (nn : Int) (nm : List Nat) (rf : Int) (of : Int) (ln : Int) : Go.Sx.Fact Tryd.prog vars 28 [.agg [.int .i64 kd, .bool ex, .int .i64 nn, .str nm, .int .i64 rf, .int .i64 of, .int .i64 ln]] (.bool (F28_0 kd ex nn nm rf of ln)) := Go.Sx.fact_of_run okayed (by kernel_rfl) (by kernel_rfl) (by kernel_rfl) Tryd.func28 body28_eq (run28 0 kd ex nn nm rf of ln ((F28 kd ex nn nm rf of ln).getD default) (Go.Sx.getD_some (F28_some kd ex nn nm rf of ln)))
noncomputable def body9 : Go.Code := (Tryd.f9.body).getD .skip
theorem body9_eq : Tryd.f9.body = some body9 := Go.Sx.some_getD (by kernel_rfl)
noncomputable def F9 (kd : Int) (ex : Bool) (nn : Int) (nm : List Nat) (rf : Int) (of : Int) (ln : Int) (x : Int) : Option (Bool) := (bif (Go.Sx.eqI kd 6) then (some (!Go.Sx.ltI rf x)) else (bif (Go.Sx.eqI kd 7) then (some (!Go.Sx.ltI rf x)) else (bif (Go.Sx.eqI kd 8) then (some (!Go.Sx.ltI rf x)) else (bif (Go.Sx.eqI kd 9) then (some (!Go.Sx.ltI rf x)) else (bif (Go.Sx.eqI kd 11) then (some (!Go.Sx.ltI rf x)) else (some false))))))
set_option maxHeartbeats 4000000 in
theorem form9 (n : Nat) (kd : Int) (ex : Bool) (nn : Int) (nm : List Nat) (rf : Int) (of : Int) (ln : Int) (x : Int) (vz : Go.Sx.AV) : Go.Sx.wpS Tryd.prog Tryd.f9 vars vz (.st [0, 0, 2, 2, 0, 0, 0, 0, 0, 2, 2, 0, 0, 0, 0, 0, 0, 2, 2, 0, 0] (.br 7 (.st [0, 2, 0, 0, 0, 0, 2, 2, 2, 2, 2, 0, 0, 2, 0, 0] .ans) (.st [0, 0, 0, 2, 2, 0, 0] (.br 7 (.st [0, 2, 0, 0, 0, 0, 2, 2, 2, 2, 2, 0, 0, 2, 0, 0] .ans) (.st [0, 0, 0, 2, 2, 0, 0] (.br 7 (.st [0, 2, 0, 0, 0, 0, 2, 2, 2, 2, 2, 0, 0, 2, 0, 0] .ans) (.st [0, 0, 0, 2, 2, 0, 0] (.br 7 (.st [0, 2, 0, 0, 0, 0, 2, 2, 2, 2, 2, 0, 0, 2, 0, 0] .ans) (.st [0, 0, 2, 2, 0, 0] (.br 7 (.st [0, 0, 0, 2, 2, 2, 2, 2, 0, 0, 2, 0, 0] .ans) (.st [0, 2, 0, 0, 0, 0, 2, 0, 0, 2] .ans))))))))))) [] (.code body9 (Go.Sx.startA [.agg [.int .i64 kd, .bool ex, .int .i64 nn, .str nm, .int .i64 rf, .int .i64 of, .int .i64 ln], .int .i64 x] Tryd.f9) (Go.Sx.laidHeap vars)) = (Go.Sx.BR (Go.Sx.eqI kd 6) (vz = .bool (!Go.Sx.ltI rf x)) (Go.Sx.BR (Go.Sx.eqI kd 7) (vz = .bool (!Go.Sx.ltI rf x)) (Go.Sx.BR (Go.Sx.eqI kd 8) (vz = .bool (!Go.Sx.ltI rf x)) (Go.Sx.BR (Go.Sx.eqI kd 9) (vz = .bool (!Go.Sx.ltI rf x)) (Go.Sx.BR (Go.Sx.eqI kd 11) (vz = .bool (!Go.Sx.ltI rf x)) (vz = .bool false)))))) := by kernel_rfl
theorem run9 (n : Nat) (kd : Int) (ex : Bool) (nn : Int) (nm : List Nat) (rf : Int) (of : Int) (ln : Int) (x : Int) (r : Bool) (h : F9 kd ex nn nm rf of ln x = some r) : Go.Sx.Run Tryd.prog Tryd.f9 vars (.bool r) [] (.code body9 (Go.Sx.startA [.agg [.int .i64 kd, .bool ex, .int .i64 nn, .str nm, .int .i64 rf, .int .i64 of, .int .i64 ln], .int .i64 x] Tryd.f9) (Go.Sx.laidHeap vars)) := by
  exact Go.Sx.wpS_run (L := vars) (by kernel_rfl) (form9 n kd ex nn nm rf of ln x (.bool r)) ((Go.Sx.br_of (fun h0 => (fun h => by cases h; rfl)) (fun h0 => (Go.Sx.br_of (fun h1 => (fun h => by cases h; rfl)) (fun h1 => (Go.Sx.br_of (fun h2 => (fun h => by cases h; rfl)) (fun h2 => (Go.Sx.br_of (fun h3 => (fun h => by cases h; rfl)) (fun h3 => (Go.Sx.br_of (fun h4 => (fun h => by cases h; rfl)) (fun h4 => (fun h => by cases h; rfl))))))))))) h)
noncomputable def F9_0 (kd : Int) (ex : Bool) (nn : Int) (nm : List Nat) (rf : Int) (of : Int) (ln : Int) (x : Int) : Bool := ((F9 kd ex nn nm rf of ln x).getD default)
theorem F9_some (kd : Int) (ex : Bool) (nn : Int) (nm : List Nat) (rf : Int) (of : Int) (ln : Int) (x : Int) : (F9 kd ex nn nm rf of ln x).isSome = true := by
  unfold F9
  repeat' (first | rfl | apply Go.Sx.some_br)
theorem fact9 (kd : Int) (ex : Bool) (nn : Int) (nm : List Nat) (rf : Int) (of : Int) (ln : Int) (x : Int) : Go.Sx.Fact Tryd.prog vars 9 [.agg [.int .i64 kd, .bool ex, .int .i64 nn, .str nm, .int .i64 rf, .int .i64 of, .int .i64 ln], .int .i64 x] (.bool (F9_0 kd ex nn nm rf of ln x)) := Go.Sx.fact_of_run okayed (by kernel_rfl) (by kernel_rfl) (by kernel_rfl) Tryd.func9 body9_eq (run9 0 kd ex nn nm rf of ln x ((F9 kd ex nn nm rf of ln x).getD default) (Go.Sx.getD_some (F9_some kd ex nn nm rf of ln x)))
noncomputable def body10 : Go.Code := (Tryd.f10.body).getD .skip
theorem body10_eq : Tryd.f10.body = some body10 := Go.Sx.some_getD (by kernel_rfl)
noncomputable def F10 (kd : Int) (ex : Bool) (nn : Int) (nm : List Nat) (rf : Int) (of : Int) (ln : Int) (x : Int) : Option (Bool) := (bif (F28_0 kd ex nn nm rf of ln) then (some (!Go.Sx.ltI rf x)) else (some false))
set_option maxHeartbeats 4000000 in
theorem form10 (n : Nat) (kd : Int) (ex : Bool) (nn : Int) (nm : List Nat) (rf : Int) (of : Int) (ln : Int) (x : Int) (vz : Go.Sx.AV) : Go.Sx.wpS Tryd.prog Tryd.f10 vars vz (.st [0, 0, 2, 2, 0, 0, 0, 0, 2] (.use (.bool (F28_0 kd ex nn nm rf of ln)) (.st [2] (.br 7 (.st [2, 2, 2, 2, 2, 2, 0, 0, 2] .ans) (.st [2, 2, 2, 2, 2, 2, 0, 0, 2] .ans))))) [] (.code body10 (Go.Sx.startA [.agg [.int .i64 kd, .bool ex, .int .i64 nn, .str nm, .int .i64 rf, .int .i64 of, .int .i64 ln], .int .i64 x] Tryd.f10) (Go.Sx.laidHeap vars)) = (Go.Sx.Fact Tryd.prog vars 28 [.agg [.int .i64 (kd), .bool (ex), .int .i64 (nn), .str (nm), .int .i64 (rf), .int .i64 (of), .int .i64 (ln)]] (.bool (F28_0 kd ex nn nm rf of ln)) ∧ (Go.Sx.BR (F28_0 kd ex nn nm rf of ln) (vz = .bool (!Go.Sx.ltI rf x)) (vz = .bool false))) := by kernel_rfl
theorem run10 (n : Nat) (kd : Int) (ex : Bool) (nn : Int) (nm : List Nat) (rf : Int) (of : Int) (ln : Int) (x : Int) (r : Bool) (h : F10 kd ex nn nm rf of ln x = some r) : Go.Sx.Run Tryd.prog Tryd.f10 vars (.bool r) [] (.code body10 (Go.Sx.startA [.agg [.int .i64 kd, .bool ex, .int .i64 nn, .str nm, .int .i64 rf, .int .i64 of, .int .i64 ln], .int .i64 x] Tryd.f10) (Go.Sx.laidHeap vars)) := by
  exact Go.Sx.wpS_run (L := vars) (by kernel_rfl) (form10 n kd ex nn nm rf of ln x (.bool r)) ((fun h => ⟨fact28 (kd) (ex) (nn) (nm) (rf) (of) (ln), (Go.Sx.br_of (fun h0 => (fun h => by cases h; rfl)) (fun h0 => (fun h => by cases h; rfl))) h⟩) h)
noncomputable def F10_0 (kd : Int) (ex : Bool) (nn : Int) (nm : List Nat) (rf : Int) (of : Int) (ln : Int) (x : Int) : Bool := ((F10 kd ex nn nm rf of ln x).getD default)
theorem F10_some (kd : Int) (ex : Bool) (nn : Int) (nm : List Nat) (rf : Int) (of : Int) (ln : Int) (x : Int) : (F10 kd ex nn nm rf of ln x).isSome = true := by
  unfold F10
  repeat' (first | rfl | apply Go.Sx.some_br)
theorem fact10 (kd : Int) (ex : Bool) (nn : Int) (nm : List Nat) (rf : Int) (of : Int) (ln : Int) (x : Int) : Go.Sx.Fact Tryd.prog vars 10 [.agg [.int .i64 kd, .bool ex, .int .i64 nn, .str nm, .int .i64 rf, .int .i64 of, .int .i64 ln], .int .i64 x] (.bool (F10_0 kd ex nn nm rf of ln x)) := Go.Sx.fact_of_run okayed (by kernel_rfl) (by kernel_rfl) (by kernel_rfl) Tryd.func10 body10_eq (run10 0 kd ex nn nm rf of ln x ((F10 kd ex nn nm rf of ln x).getD default) (Go.Sx.getD_some (F10_some kd ex nn nm rf of ln x)))
noncomputable def body3 : Go.Code := (Tryd.f3.body).getD .skip
theorem body3_eq : Tryd.f3.body = some body3 := Go.Sx.some_getD (by kernel_rfl)
noncomputable def c3_0 (a0_0 : (Int)) (a0_1 : (Bool)) (a0_2 : (Int)) (a0_3 : (List Nat)) (a0_4 : (Int)) (a0_5 : (Int)) (a0_6 : (Int)) (a1 : (Int)) : Bool := (F9_0 a0_0 a0_1 a0_2 a0_3 a0_4 a0_5 a0_6 a1 == F10_0 a0_0 a0_1 a0_2 a0_3 a0_4 a0_5 a0_6 a1)
noncomputable def F3 (a0_0 : Int) (a0_1 : Bool) (a0_2 : Int) (a0_3 : List Nat) (a0_4 : Int) (a0_5 : Int) (a0_6 : Int) (a1 : Int) : Option (Bool) := (some (c3_0 a0_0 a0_1 a0_2 a0_3 a0_4 a0_5 a0_6 a1))
set_option maxHeartbeats 4000000 in
theorem form3 (n : Nat) (a0_0 : Int) (a0_1 : Bool) (a0_2 : Int) (a0_3 : List Nat) (a0_4 : Int) (a0_5 : Int) (a0_6 : Int) (a1 : Int) (vz : Go.Sx.AV) : Go.Sx.wpS Tryd.prog Tryd.f3 vars vz (.st [0, 0, 2, 2, 0, 0, 0, 0, 0] (.use (.bool true) (.st [2, 0, 0, 0, 2, 0, 0] (.dr [.run, .run, .use (.bool (F9_0 a0_0 a0_1 a0_2 a0_3 a0_4 a0_5 a0_6 a1)), .run, .run] (.use (.bool (F10_0 a0_0 a0_1 a0_2 a0_3 a0_4 a0_5 a0_6 a1)) (.st [2, 2, 0, 0, 2] .ans)))))) [] (.code body3 (Go.Sx.startA [.agg [.int .i64 a0_0, .bool a0_1, .int .i64 a0_2, .str a0_3, .int .i64 a0_4, .int .i64 a0_5, .int .i64 a0_6], .int .i64 a1] Tryd.f3) (Go.Sx.laidHeap vars)) = (Go.Sx.Fact Tryd.prog vars 8 [] (.bool true) ∧ (Go.Sx.AN (Bool.true) (Go.Sx.Fact Tryd.prog vars 9 [.agg [.int .i64 (a0_0), .bool (a0_1), .int .i64 (a0_2), .str (a0_3), .int .i64 (a0_4), .int .i64 (a0_5), .int .i64 (a0_6)], .int .i64 (a1)] (.bool (F9_0 a0_0 a0_1 a0_2 a0_3 a0_4 a0_5 a0_6 a1)) ∧ (Go.Sx.Fact Tryd.prog vars 10 [.agg [.int .i64 (a0_0), .bool (a0_1), .int .i64 (a0_2), .str (a0_3), .int .i64 (a0_4), .int .i64 (a0_5), .int .i64 (a0_6)], .int .i64 (a1)] (.bool (F10_0 a0_0 a0_1 a0_2 a0_3 a0_4 a0_5 a0_6 a1)) ∧ (vz = .bool (c3_0 a0_0 a0_1 a0_2 a0_3 a0_4 a0_5 a0_6 a1)))))) := by kernel_rfl
theorem run3 (n : Nat) (a0_0 : Int) (a0_1 : Bool) (a0_2 : Int) (a0_3 : List Nat) (a0_4 : Int) (a0_5 : Int) (a0_6 : Int) (a1 : Int) (r : Bool) (h : F3 a0_0 a0_1 a0_2 a0_3 a0_4 a0_5 a0_6 a1 = some r) : Go.Sx.Run Tryd.prog Tryd.f3 vars (.bool r) [] (.code body3 (Go.Sx.startA [.agg [.int .i64 a0_0, .bool a0_1, .int .i64 a0_2, .str a0_3, .int .i64 a0_4, .int .i64 a0_5, .int .i64 a0_6], .int .i64 a1] Tryd.f3) (Go.Sx.laidHeap vars)) := by
  exact Go.Sx.wpS_run (L := vars) (by kernel_rfl) (form3 n a0_0 a0_1 a0_2 a0_3 a0_4 a0_5 a0_6 a1 (.bool r)) ((fun h => ⟨fact8 , (fun h => ⟨rfl, (fun h => ⟨fact9 (a0_0) (a0_1) (a0_2) (a0_3) (a0_4) (a0_5) (a0_6) (a1), (fun h => ⟨fact10 (a0_0) (a0_1) (a0_2) (a0_3) (a0_4) (a0_5) (a0_6) (a1), (fun h => by cases h; rfl) h⟩) h⟩) h⟩) h⟩) h)

set_option maxRecDepth 100000
theorem cS {α : Type} (b : Bool) (x y : α) : (bif b then some x else some y) = some (bif b then x else y) := by cases b <;> rfl
theorem condP (b x y : Bool) : ((bif b then x else y) = true) = ((b = true ∧ x = true) ∨ (b = false ∧ y = true)) := by cases b <;> simp
theorem condF (b x y : Bool) : ((bif b then x else y) = false) = ((b = true ∧ x = false) ∨ (b = false ∧ y = false)) := by cases b <;> simp
theorem nneg_f (b : Bool) : ((!b) = false) = (b = true) := by cases b <;> simp
theorem andB_t (a b : Bool) : (andB a b = true) = (a = true ∧ b = true) := by cases a <;> simp [andB]
theorem andB_f (a b : Bool) : (andB a b = false) = (a = false ∨ b = false) := by cases a <;> simp [andB]
theorem strNil_t (s : List Nat) : (strEq s [] = true) = (s.length = 0) := by cases s <;> simp [strEq]
theorem strNil_f (s : List Nat) : (strEq s [] = false) = (s.length ≠ 0) := by cases s <;> simp [strEq]
theorem strEq_same (s : List Nat) : strEq s s = true := by simp [strEq]
theorem eqI_same (n : Int) : eqI n n = true := by rw [eqI_t]
theorem law_ok (kd : Int) (ex : Bool) (nn : Int) (nm : List Nat) (rf of ln x : Int) (_ : (Lit.int .i64 kd).wf = true) (_ : (Lit.int .i64 nn).wf = true) (_ : IsBytes nm) (_ : (Lit.int .i64 rf).wf = true) (_ : (Lit.int .i64 of).wf = true) (_ : (Lit.int .i64 ln).wf = true) (_ : (Lit.int .i64 x).wf = true) : ∃ n : Nat, F3 kd ex nn nm rf of ln x = some true := by
  refine ⟨0, ?_⟩
  unfold F3 c3_0 F9_0 F10_0 F9 F10 F28_0 F28
  cases eqI kd 6 <;> cases eqI kd 7 <;> cases eqI kd 8 <;> cases eqI kd 9 <;> cases eqI kd 11 <;> cases ltI rf x <;> rfl

end

theorem walk (a0_0 : Int) (a0_1 : Bool) (a0_2 : Int) (a0_3 : List Nat) (a0_4 : Int) (a0_5 : Int) (a0_6 : Int) (a1 : Int) (wa0_0 : (Lit.int .i64 a0_0).wf = true) (wa0_2 : (Lit.int .i64 a0_2).wf = true) (wa0_3 : Go.Sx.IsBytes a0_3) (wa0_4 : (Lit.int .i64 a0_4).wf = true) (wa0_5 : (Lit.int .i64 a0_5).wf = true) (wa0_6 : (Lit.int .i64 a0_6).wf = true) (wa1 : (Lit.int .i64 a1).wf = true) {w : World} (h : Go.Sx.LaidIn w vars) {ARGS : List Value} (ha : Go.Sx.RelL (fun _ => none) [.agg [.int .i64 a0_0, .bool a0_1, .int .i64 a0_2, .str a0_3, .int .i64 a0_4, .int .i64 a0_5, .int .i64 a0_6], .int .i64 a1] ARGS) :
    Calls Tryd.prog 3 ARGS.toArray w fun e w' => e = .returned (.bool true) ∧ Below w.heap.size w w' := by
  obtain ⟨n, hn⟩ := law_ok a0_0 a0_1 a0_2 a0_3 a0_4 a0_5 a0_6 a1 wa0_0 wa0_2 wa0_3 wa0_4 wa0_5 wa0_6 wa1
  exact Go.Sx.call_args okayed rfl ha Tryd.func3 body3_eq (run3 n a0_0 a0_1 a0_2 a0_3 a0_4 a0_5 a0_6 a1 true hn) h

theorem door_met (os : Os) (args : Array Value) : laidMetH Tryd.prog laid ((World.doorLaid Tryd.prog 400 os).forCall (fun _ _ => 0) ⟨#[], args, []⟩).memory :=
  laidMetH_of_parts3 (fuel := 8) (laidMet_of_run' 8 (by kernel_rfl) (by kernel_rfl)) (by kernel_rfl) (by kernel_rfl)

set_option maxRecDepth 100000 in
theorem lifted (os : Os) (started : os.Started) (H : Type) (enc : TypeId × Value → H) :
    ReturnsInHanded {} Tryd.checked os 3 .any (fun w args => (Rows.saveNewerSpec.pre enc Tryd.prog Tryd.f3 [] false w args ∧ laidMetH Tryd.prog laid w) ∧ sizedMet enc Tryd.prog Tryd.f3 (OpenSpec.ofChange Rows.saveNewerSpec) false w args)
      (Rows.saveNewerSpec.post enc Tryd.prog Tryd.f3 false true false false) := by
  refine returnsInHanded_of_change_and (C := Tryd.checked) (X := fun w _ => laidMetH Tryd.prog laid w) (fun _ _ _ hh h => h.of_heap hh) own started (by kernel_rfl) Tryd.func3
    (ChangeSpec.witness_shaped (enc := enc) (C := Tryd.checked) (os := os) (X := fun w _ => laidMetH Tryd.prog laid w) false (World.doorLaid Tryd.prog 400 os) #[.agg #[.int .i64 0, .bool false, .int .i64 0, .string ⟨#[]⟩, .int .i64 0, .int .i64 0, .int .i64 0], .int .i64 0] 8 rfl (World.shaped_of_RefB (by kernel_rfl) (by kernel_rfl)) (by kernel_rfl) (by kernel_rfl) (by kernel_rfl) (door_met os _)) ?_
  intro W base args ds gs before hval0 hW _ _ hL _
  have hval : ∀ (j : Nat) t v, Tryd.f3.params[j]? = some t → args[j]? = some v → Value.okWide Tryd.prog W .any base t v := hval0
  have hW' := hW
  obtain ⟨p, q, hA0, hV, rfl, hfz, hnd⟩ := hW
  have hA : DataW.TrodAll enc Tryd.prog W 0 (fun _ => true) true Tryd.f3.params.toList args.toList ds p := hA0
  rw [Tryd.params3] at hA hval
  obtain ⟨v0, vs0, d0, ds0, p0, q0, hargs, rfl, rfl, h0, r0⟩ := trodAll_cons hA
  obtain ⟨v1, vs1, d1, ds1, p1, q1, rfl, rfl, rfl, h1, r1⟩ := trodAll_cons r0
  obtain ⟨rfl, rfl, rfl⟩ := trodAll_nil r1
  obtain rfl : args = #[v0, v1] := by cases args; simp_all
  obtain ⟨rfl, rfl⟩ := trodVars_none hV
  obtain ⟨rfl, as0, k0, e0⟩ := Go.Sx.open_kinds (ks := [.int .i64, .bool, .int .i64, .str, .int .i64, .int .i64, .int .i64]) (by kernel_rfl) h0
  obtain ⟨a0_0, r0, rfl, wa0_0, k0⟩ := k0
  obtain ⟨a0_1, r0, rfl, k0⟩ := k0
  obtain ⟨a0_2, r0, rfl, wa0_2, k0⟩ := k0
  obtain ⟨a0_3, r0, rfl, wa0_3, k0⟩ := k0
  obtain ⟨a0_4, r0, rfl, wa0_4, k0⟩ := k0
  obtain ⟨a0_5, r0, rfl, wa0_5, k0⟩ := k0
  obtain ⟨a0_6, r0, rfl, wa0_6, k0⟩ := k0
  obtain rfl := k0
  obtain ⟨rfl, as1, k1, e1⟩ := Go.Sx.open_kinds (ks := [.int .i64]) (by kernel_rfl) h1
  obtain ⟨a1, r1, rfl, wa1, k1⟩ := k1
  obtain rfl := k1
  clear hA0
  simp only [List.append_nil] at hW'
  have hrel : Go.Sx.RelL (fun _ => none) [.agg [.int .i64 a0_0, .bool a0_1, .int .i64 a0_2, .str (Go.Sx.bytesOf a0_3), .int .i64 a0_4, .int .i64 a0_5, .int .i64 a0_6], .int .i64 a1] [v0, v1] := ⟨_, _, Go.Sx.rel_agg (.inl ⟨_, Tryd.underlying23⟩) (hval 0 23 v0 rfl rfl) e0, ⟨_, _, Go.Sx.rel_int Tryd.underlying3 (hval 1 3 v1 rfl rfl) e1, rfl, rfl⟩, rfl⟩
  refine (walk a0_0 a0_1 a0_2 (Go.Sx.bytesOf a0_3) a0_4 a0_5 a0_6 a1 wa0_0 wa0_2 (Go.Sx.bytes_ok wa0_3) wa0_4 wa0_5 wa0_6 wa1 (Go.Sx.laidIn_of hL (by kernel_rfl) vars_eq) hrel).mono fun e W' ⟨he, hg⟩ => ?_
  subst he
  exact ⟨_, rfl, Go.Sx.post_of_below (pa := []) (pv := []) hW' (fun _ _ _ => (trodAll_cons_mk (shut_bool Tryd.underlying4 _) trodAll_mk0)) (fun sp _ => (trodAll_cons_mk (Go.Sx.stays laidOut (by kernel_rfl) (Nat.le_of_ble_eq_true (by kernel_rfl)) h0) (trodAll_cons_mk (Go.Sx.stays laidOut (by kernel_rfl) (Nat.le_of_ble_eq_true (by kernel_rfl)) h1) trodAll_mk0))) (fun _ _ => rfl) rfl
    hg (ok_one (by kernel_rfl) rfl (okWide_bool_mk Tryd.underlying4 _))⟩

theorem over : Rows.SaveNewerSaid :=
  OpenClaim.holds_of_wide 3 Tryd.f3 rfl rfl rfl rfl rfl rfl rfl ⟨rfl, rfl, rfl, rfl, rfl⟩ rfl rfl rfl rfl rfl (by kernel_rfl) Tryd.func3 (by kernel_rfl)
    (of_decide_eq_true (by kernel_rfl)) (by unfold Func.isWrapper; first | (rw [if_pos (by decide +kernel)]; kernel_rfl) | (rw [if_neg (by decide +kernel)]; exact ⟨rfl, rfl⟩))
    (fun os started H enc _ => lifted os started H enc)

theorem noStandIn : ([23, 3].all fun t => Tryd.prog.wantsStandIn t == false) = true := by kernel_rfl
theorem proved : Rows.SaveNewerCardSaid :=
  Claim7.holds_tied_plain_at .later [] [.data] true (true, "9fb8f5f77ded17419445f00e62730467f9c878f27fbaad2b8d86e1ef9843fde2") false
    over (fun _ h => by cases h) (by kernel_rfl) (fun _ h => by cases h) saveNewer_row_tie rfl ⟨rfl, rfl⟩ (by kernel_rfl) rfl
    (fun f fn hf hfn => by
      obtain rfl : f = 3 := Option.some.inj ((show Tryd.prog.funcNamed "chase/chaselaw19.SaveNewer" = some 3 by kernel_rfl).symm.trans hf) |>.symm
      obtain rfl : fn = Tryd.f3 := (Option.some.inj (Tryd.func3.symm.trans hfn)).symm
      exact ⟨by kernel_rfl, fun j t ht => by
        rw [Tryd.params3] at ht
        have hm := Array.mem_of_getElem? ht
        have := List.all_eq_true.1 noStandIn t (by simpa using hm)
        exact beq_iff_eq.1 this⟩)
    (by kernel_rfl)
#print axioms proved
end Go.Proofs.YtgfpkhhbpnnjjaaDoor.saveNewer
