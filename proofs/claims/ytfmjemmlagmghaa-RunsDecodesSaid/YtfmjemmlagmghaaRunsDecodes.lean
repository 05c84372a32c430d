/- 'chase/chaselaw05.RunsDecodes' returns true for every argument, and nothing that was there is changed. Its run, with unknown arguments, is worked out by an executor that is proved sound against the model: so each function is a term; the rest is arithmetic. -/
import Derived.Test.YtfmjemmlagmghaaRows
import Derived.WalkKit
import Derived.ProofKit
import Derived.OpenShut
import Derived.Test.YtfmjemmlagmghaaSxF
namespace Go.Proofs.Ytfmjemmlagmghaa.runsDecodes
open Go.ChangeShapes Go.WideShapes Go.ChangeAt Go.WideMaps Go.WideElems Go.RowKit
set_option linter.unusedVariables false

theorem own : ownKnob Try.prog.godebug = none := by kernel_rfl
theorem okayed : Go.Sx.okProg Try.prog = true := by kernel_rfl
theorem laidOut : laidOutB Try.prog = true := by kernel_rfl
section
open Go.Sx
set_option maxRecDepth 1000000

noncomputable def body10s : Go.Code := (Try.f10.body).getD .skip
theorem body10s_eq : Try.f10.body = some body10s := Go.Sx.some_getD (by kernel_rfl)
noncomputable def sk10s_0 : List Go.Sx.FC × Go.Sx.CC := (Go.Sx.skelAt Try.prog [.fn 10 [.r, .r, .l, .r, .i, .i, .r, .l, .i, .r, .i, .h]] []).getD ([], .code .skip)
noncomputable def sk10s_1 : List Go.Sx.FC × Go.Sx.CC := (Go.Sx.skelAt Try.prog [.fn 10 [.r, .r, .l, .r, .i, .h]] []).getD ([], .code .skip)
noncomputable def c10s_6 (x0 : (List AV)) (v0 : (Int)) : Bool := (!ltI (wrapA .i64 (intC x0 (atI 0 v0 2 + 1))) (0))
noncomputable def l10s_7 (x0 : (List AV)) (v0 : (Int)) : List AV := ([AV.int .u8 (intC x0 (atI 0 v0 2 + 0))])
noncomputable def c10s_8 (x0 : (List AV)) (v1 v2 : Int) : Bool := (!ltI (wrapA .i64 (intC x0 (atI 0 v1 2 + 1))) v2)
noncomputable def l10s_9 (x0 : (List AV)) (v1 : (Int)) (v3 : (List AV)) : List AV := (v3 ++ [AV.int .u8 (intC x0 (atI 0 v1 2 + 0))])
noncomputable def pt10s_0 (x0 : List AV) (c0 k0 : Nat) (v0 : Int) : Go.Sx.Pt := ⟨[(36, [(0, .slc 1048576 0 (c0) (.exact (k0))), (3, .nils), (4, .int .i64 (v0))])], [], 0, []⟩
noncomputable def pt10s_1 (x0 : List AV) (c0 k0 : Nat) (v0 : Int) : Go.Sx.Pt := ⟨[(36, [(0, .slc 1048576 0 (c0) (.exact (k0))), (3, .nils), (4, .int .i64 (v0)), (5, .int .i64 (.ofNat 0))])], [], 0, []⟩
noncomputable def pt10s_2 (x0 : List AV) (c0 k0 v0 : Nat) (v1 v2 : Int) (v3 : List AV) : Go.Sx.Pt := ⟨[(36, [(0, .slc 1048576 0 (c0) (.exact (k0))), (3, .slc 1 0 (v0) (.upto 1 (v0))), (4, .int .i64 (v1)), (5, .int .i64 (v2))])], [], 2, [(1, .cells 5 (v3) true)]⟩
noncomputable def pt10s_3 (x0 : List AV) (c0 k0 v0 : Nat) (v1 : Int) (v2 : List AV) : Go.Sx.Pt := ⟨[(36, [(0, .slc 1048576 0 (c0) (.exact (k0))), (3, .slc 1 0 (v0) (.upto 1 (v0))), (4, .int .i64 (v1))])], [], 2, [(1, .cells 5 (v2) true)]⟩
mutual
noncomputable def L10s_0 (x0 : List AV) (c0 k0 : Nat) : Nat → Int → Option (List Nat)
  | 0, _ => none
  | n + 1, v0 => (bif (ltI v0 (↑c0 : Int)) then (bif (ltI v0 50) then (L10s_1 x0 c0 k0 n (v0)) else (some [])) else (some []))
termination_by structural n => n
noncomputable def L10s_1 (x0 : List AV) (c0 k0 : Nat) : Nat → Int → Option (List Nat)
  | 0, _ => none
  | n + 1, v0 => (bif (inB v0 c0) then (bif (Go.Sx.cellB x0 (atI 0 v0 2 + 1) (CK.int .u8)) then (bif (c10s_6 x0 v0) then (bif (Go.Sx.cellB x0 (atI 0 v0 2 + 0) (CK.int .u8)) then (L10s_2 x0 c0 k0 n 1 (v0) 1 (l10s_7 x0 v0)) else none) else (L10s_0 x0 c0 k0 n (wrapA .i64 (Int.add v0 1)))) else none) else none)
termination_by structural n => n
noncomputable def L10s_2 (x0 : List AV) (c0 k0 : Nat) : Nat → Nat → Int → Int → (List AV) → Option (List Nat)
  | 0, _, _, _, _ => none
  | n + 1, v0, v1, v2, v3 => (bif (inB v1 c0) then (bif (Go.Sx.cellB x0 (atI 0 v1 2 + 1) (CK.int .u8)) then (bif (c10s_8 x0 v1 v2) then (bif (Go.Sx.cellB x0 (atI 0 v1 2 + 0) (CK.int .u8)) then (bif (Nat.blt v0 (v0 + 1)) then (bif (Nat.ble v0 10000000) then (bif (Nat.beq (List.length v3) (0 + v0 * 1)) then (bif (Go.Sx.pureAVs (l10s_9 x0 v1 v3)) then (L10s_2 x0 c0 k0 n (v0 + 1) (v1) (wrapA .i64 (Int.add v2 1)) (l10s_9 x0 v1 v3)) else none) else none) else none) else none) else none) else (bif (Go.Sx.pureAVs v3) then (L10s_3 x0 c0 k0 n (v0) (wrapA .i64 (Int.add v1 1)) (v3)) else none)) else none) else none)
termination_by structural n => n
noncomputable def L10s_3 (x0 : List AV) (c0 k0 : Nat) : Nat → Nat → Int → (List AV) → Option (List Nat)
  | 0, _, _, _ => none
  | n + 1, v0, v1, v2 => (bif (ltI v1 (↑c0 : Int)) then (bif (ltI v1 50) then (bif (Go.Sx.pureAVs v2) then (L10s_2 x0 c0 k0 n (v0) (v1) 0 (v2)) else none) else (bif (Go.Sx.strOk v2 0 v0) then (some (Go.Sx.strOf v2 0 v0)) else none)) else (bif (Go.Sx.strOk v2 0 v0) then (some (Go.Sx.strOf v2 0 v0)) else none))
termination_by structural n => n
end
theorem L10s_0_succ (x0 : List AV) (c0 k0 n : Nat) (v0 : Int) : L10s_0 x0 c0 k0 (n + 1) v0 = (bif (ltI v0 (↑c0 : Int)) then (bif (ltI v0 50) then (L10s_1 x0 c0 k0 n (v0)) else (some [])) else (some [])) := rfl
theorem L10s_1_succ (x0 : List AV) (c0 k0 n : Nat) (v0 : Int) : L10s_1 x0 c0 k0 (n + 1) v0 = (bif (inB v0 c0) then (bif (Go.Sx.cellB x0 (atI 0 v0 2 + 1) (CK.int .u8)) then (bif (c10s_6 x0 v0) then (bif (Go.Sx.cellB x0 (atI 0 v0 2 + 0) (CK.int .u8)) then (L10s_2 x0 c0 k0 n 1 (v0) 1 (l10s_7 x0 v0)) else none) else (L10s_0 x0 c0 k0 n (wrapA .i64 (Int.add v0 1)))) else none) else none) := rfl
theorem L10s_2_succ (x0 : List AV) (c0 k0 n v0 : Nat) (v1 v2 : Int) (v3 : List AV) : L10s_2 x0 c0 k0 (n + 1) v0 v1 v2 v3 = (bif (inB v1 c0) then (bif (Go.Sx.cellB x0 (atI 0 v1 2 + 1) (CK.int .u8)) then (bif (c10s_8 x0 v1 v2) then (bif (Go.Sx.cellB x0 (atI 0 v1 2 + 0) (CK.int .u8)) then (bif (Nat.blt v0 (v0 + 1)) then (bif (Nat.ble v0 10000000) then (bif (Nat.beq (List.length v3) (0 + v0 * 1)) then (bif (Go.Sx.pureAVs (l10s_9 x0 v1 v3)) then (L10s_2 x0 c0 k0 n (v0 + 1) (v1) (wrapA .i64 (Int.add v2 1)) (l10s_9 x0 v1 v3)) else none) else none) else none) else none) else none) else (bif (Go.Sx.pureAVs v3) then (L10s_3 x0 c0 k0 n (v0) (wrapA .i64 (Int.add v1 1)) (v3)) else none)) else none) else none) := rfl
theorem L10s_3_succ (x0 : List AV) (c0 k0 n v0 : Nat) (v1 : Int) (v2 : List AV) : L10s_3 x0 c0 k0 (n + 1) v0 v1 v2 = (bif (ltI v1 (↑c0 : Int)) then (bif (ltI v1 50) then (bif (Go.Sx.pureAVs v2) then (L10s_2 x0 c0 k0 n (v0) (v1) 0 (v2)) else none) else (bif (Go.Sx.strOk v2 0 v0) then (some (Go.Sx.strOf v2 0 v0)) else none)) else (bif (Go.Sx.strOk v2 0 v0) then (some (Go.Sx.strOf v2 0 v0)) else none)) := rfl
set_option maxHeartbeats 4000000 in
theorem form10s_0 (n : Nat) (x0 : List AV) (c0 k0 : Nat) (v0 : Int) (vz : AV) : Go.Sx.wpS Try.prog Try.f10 [(0, x0)] vz (.st [0, 0, 0, 0, 2, 2, 2, 2, 2] (.br 10 (.st [2, 2, 2, 0, 0] (.br 13 (.st [0, 2, 0, 0, 0, 0, 0, 2, 0, 0, 0, 0] (.stop ⟨[[0, 3, 4, 5]], [], []⟩ [] 0 [])) (.st [0, 2, 0, 0, 0, 0, 0, 0, 2, 2, 2, 0, 0, 2] .ans))) (.st [2, 2, 2, 0, 0, 0, 2, 0, 0, 0, 0, 0, 0, 2, 2, 2, 0, 0, 2] .ans))) (Go.Sx.mkK sk10s_1.1 (pt10s_0 x0 c0 k0 v0).frs.tail) (Go.Sx.mkC [(0, x0)] (pt10s_0 x0 c0 k0 v0) sk10s_1.1 sk10s_1.2) = (BR (ltI v0 (↑c0 : Int)) (BR (ltI v0 50) (Go.Sx.RunAt Try.prog Try.f10 [(0, x0)] vz sk10s_0 (pt10s_1 x0 c0 k0 (v0))) (vz = .str [])) (vz = .str [])) := by kernel_rfl
set_option maxHeartbeats 4000000 in
theorem form10s_1 (n : Nat) (x0 : List AV) (c0 k0 : Nat) (v0 : Int) (vz : AV) : Go.Sx.wpS Try.prog Try.f10 [(0, x0)] vz (.st [0, 0, 0, 0, 2, 2, 2] (.sp 2 (.st [2] (.sp 2 (.st [2, 2, 0, 0] (.br 23 (.st [0, 2, 0, 0, 0, 0, 2, 2, 2] (.sp 2 (.st [2] (.sp 2 (.st [2, 2, 2, 0, 0, 0, 0, 2, 2, 2, 0, 0] (.stop ⟨[[0, 3, 4, 5]], [], [1]⟩ [(1, 1)] 2 [1])))))) (.st [0, 2, 0, 0, 0, 0, 0, 0, 2, 2, 2, 0, 0] (.stop ⟨[[0, 3, 4]], [], []⟩ [] 0 [])))))))) (Go.Sx.mkK sk10s_0.1 (pt10s_1 x0 c0 k0 v0).frs.tail) (Go.Sx.mkC [(0, x0)] (pt10s_1 x0 c0 k0 v0) sk10s_0.1 sk10s_0.2) = (AN (inB v0 c0) (AN (Go.Sx.cellB x0 (atI 0 v0 2 + 1) (CK.int .u8)) (BR (c10s_6 x0 v0) (AN (inB v0 c0) (AN (Go.Sx.cellB x0 (atI 0 v0 2 + 0) (CK.int .u8)) (AN (Go.Sx.pureAVs (l10s_7 x0 v0)) (Go.Sx.RunAt Try.prog Try.f10 [(0, x0)] vz sk10s_0 (pt10s_2 x0 c0 k0 1 (v0) 1 (l10s_7 x0 v0)))))) (Go.Sx.RunAt Try.prog Try.f10 [(0, x0)] vz sk10s_1 (pt10s_0 x0 c0 k0 (wrapA .i64 (Int.add v0 1))))))) := by kernel_rfl
set_option maxHeartbeats 4000000 in
theorem form10s_2 (n : Nat) (x0 : List AV) (c0 k0 v0 : Nat) (v1 v2 : Int) (v3 : List AV) (vz : AV) : Go.Sx.wpS Try.prog Try.f10 [(0, x0)] vz (.st [0, 0, 0, 0, 2, 2, 2] (.sp 2 (.st [2] (.sp 2 (.st [2, 2, 0, 0] (.br 23 (.st [0, 2, 0, 0, 0, 0, 2, 2, 2] (.sp 2 (.st [2] (.sp 2 (.st [2] (.sp 2 (.st [2, 0, 0, 0, 0, 2, 2, 2, 0, 0] (.stop ⟨[[0, 3, 4, 5]], [], [3]⟩ [(3, 1)] 2 [3])))))))) (.st [0, 2, 0, 0, 0, 0, 0, 0, 2, 2, 2, 0, 0] (.stop ⟨[[0, 3, 4]], [], [1]⟩ [(1, 1)] 2 [1])))))))) (Go.Sx.mkK sk10s_0.1 (pt10s_2 x0 c0 k0 v0 v1 v2 v3).frs.tail) (Go.Sx.mkC [(0, x0)] (pt10s_2 x0 c0 k0 v0 v1 v2 v3) sk10s_0.1 sk10s_0.2) = (AN (inB v1 c0) (AN (Go.Sx.cellB x0 (atI 0 v1 2 + 1) (CK.int .u8)) (BR (c10s_8 x0 v1 v2) (AN (inB v1 c0) (AN (Go.Sx.cellB x0 (atI 0 v1 2 + 0) (CK.int .u8)) (AN (andB (Nat.blt v0 (v0 + 1)) (andB (Nat.ble v0 10000000) (Nat.beq (List.length v3) (0 + v0 * 1)))) (AN (Go.Sx.pureAVs (l10s_9 x0 v1 v3)) (Go.Sx.RunAt Try.prog Try.f10 [(0, x0)] vz sk10s_0 (pt10s_2 x0 c0 k0 (v0 + 1) (v1) (wrapA .i64 (Int.add v2 1)) (l10s_9 x0 v1 v3))))))) (AN (Go.Sx.pureAVs v3) (Go.Sx.RunAt Try.prog Try.f10 [(0, x0)] vz sk10s_1 (pt10s_3 x0 c0 k0 (v0) (wrapA .i64 (Int.add v1 1)) (v3))))))) := by kernel_rfl
set_option maxHeartbeats 4000000 in
theorem form10s_3 (n : Nat) (x0 : List AV) (c0 k0 v0 : Nat) (v1 : Int) (v2 : List AV) (vz : AV) : Go.Sx.wpS Try.prog Try.f10 [(0, x0)] vz (.st [0, 0, 0, 0, 2, 2, 2, 2, 2] (.br 10 (.st [2, 2, 2, 0, 0] (.br 13 (.st [0, 2, 0, 0, 0, 0, 0, 2, 0, 0, 0, 0] (.stop ⟨[[0, 3, 4, 5]], [], [1]⟩ [(1, 1)] 2 [1])) (.st [0, 2, 0, 0, 0, 0, 0, 0, 2] (.sp 2 (.st [2, 0, 0, 2] .ans))))) (.st [2, 2, 2, 0, 0, 0, 2, 0, 0, 0, 0, 0, 0, 2] (.sp 2 (.st [2, 0, 0, 2] .ans))))) (Go.Sx.mkK sk10s_1.1 (pt10s_3 x0 c0 k0 v0 v1 v2).frs.tail) (Go.Sx.mkC [(0, x0)] (pt10s_3 x0 c0 k0 v0 v1 v2) sk10s_1.1 sk10s_1.2) = (BR (ltI v1 (↑c0 : Int)) (BR (ltI v1 50) (AN (Go.Sx.pureAVs v2) (Go.Sx.RunAt Try.prog Try.f10 [(0, x0)] vz sk10s_0 (pt10s_2 x0 c0 k0 (v0) (v1) 0 (v2)))) (AN (Go.Sx.strOk v2 0 v0) (vz = .str (Go.Sx.strOf v2 0 v0)))) (AN (Go.Sx.strOk v2 0 v0) (vz = .str (Go.Sx.strOf v2 0 v0)))) := by kernel_rfl
set_option maxHeartbeats 4000000 in
theorem runs10s (x0 : List AV) (c0 k0 : Nat) (px0 : Go.Sx.pureAVs x0 = true) : ∀ (n : Nat), (∀ (v0 : Int) (r : List Nat), L10s_0 x0 c0 k0 n v0 = some r → Go.Sx.RunAt Try.prog Try.f10 [(0, x0)] (.str r) sk10s_1 (pt10s_0 x0 c0 k0 v0)) ∧ (∀ (v0 : Int) (r : List Nat), L10s_1 x0 c0 k0 n v0 = some r → Go.Sx.RunAt Try.prog Try.f10 [(0, x0)] (.str r) sk10s_0 (pt10s_1 x0 c0 k0 v0)) ∧ (∀ (v0 : Nat) (v1 v2 : Int) (v3 : List AV) (r : List Nat), L10s_2 x0 c0 k0 n v0 v1 v2 v3 = some r → Go.Sx.RunAt Try.prog Try.f10 [(0, x0)] (.str r) sk10s_0 (pt10s_2 x0 c0 k0 v0 v1 v2 v3)) ∧ (∀ (v0 : Nat) (v1 : Int) (v2 : List AV) (r : List Nat), L10s_3 x0 c0 k0 n v0 v1 v2 = some r → Go.Sx.RunAt Try.prog Try.f10 [(0, x0)] (.str r) sk10s_1 (pt10s_3 x0 c0 k0 v0 v1 v2)) := by
  intro n
  induction n with
  | zero => exact ⟨(fun _ r h => by cases h), (fun _ r h => by cases h), (fun _ _ _ _ r h => by cases h), (fun _ _ _ r h => by cases h)⟩
  | succ n ih =>
    obtain ⟨ih0, ih1, ih2, ih3⟩ := ih
    exact ⟨(fun v0 r h => Go.Sx.wpS_run (L := [(0, x0)]) (Go.Sx.laid_cons px0 (by kernel_rfl)) (form10s_0 n x0 c0 k0 v0 (.str r)) ((br_of (fun h0 => (br_of (fun h1 => (fun h => ih1 (v0) r h)) (fun h1 => (fun h => by cases h; rfl)))) (fun h0 => (fun h => by cases h; rfl))) ((L10s_0_succ x0 c0 k0 n v0).symm.trans h))), (fun v0 r h => Go.Sx.wpS_run (L := [(0, x0)]) (Go.Sx.laid_cons px0 (by kernel_rfl)) (form10s_1 n x0 c0 k0 v0 (.str r)) ((guard_of fun h2 => (fun h => ⟨h2, (guard_of fun h3 => (fun h => ⟨h3, (br_of (fun h4 => (fun h => ⟨h2, (guard_of fun h5 => (fun h => ⟨h5, (fun h => ⟨rfl, (fun h => ih2 1 (v0) 1 (l10s_7 x0 v0) r h) h⟩) h⟩)) h⟩)) (fun h4 => (fun h => ih0 (wrapA .i64 (Int.add v0 1)) r h))) h⟩)) h⟩)) ((L10s_1_succ x0 c0 k0 n v0).symm.trans h))), (fun v0 v1 v2 v3 r h => Go.Sx.wpS_run (L := [(0, x0)]) (Go.Sx.laid_cons px0 (by kernel_rfl)) (form10s_2 n x0 c0 k0 v0 v1 v2 v3 (.str r)) ((guard_of fun h6 => (fun h => ⟨h6, (guard_of fun h7 => (fun h => ⟨h7, (br_of (fun h8 => (fun h => ⟨h6, (guard_of fun h9 => (fun h => ⟨h9, (guard_of fun h10 => (guard_of fun h11 => (guard_of fun h12 => (fun h => ⟨(and_t h10 (and_t h11 h12)), (guard_of fun h13 => (fun h => ⟨h13, (fun h => ih2 (v0 + 1) (v1) (wrapA .i64 (Int.add v2 1)) (l10s_9 x0 v1 v3) r h) h⟩)) h⟩)))) h⟩)) h⟩)) (fun h8 => (guard_of fun h14 => (fun h => ⟨h14, (fun h => ih3 (v0) (wrapA .i64 (Int.add v1 1)) (v3) r h) h⟩)))) h⟩)) h⟩)) ((L10s_2_succ x0 c0 k0 n v0 v1 v2 v3).symm.trans h))), (fun v0 v1 v2 r h => Go.Sx.wpS_run (L := [(0, x0)]) (Go.Sx.laid_cons px0 (by kernel_rfl)) (form10s_3 n x0 c0 k0 v0 v1 v2 (.str r)) ((br_of (fun h15 => (br_of (fun h16 => (guard_of fun h17 => (fun h => ⟨h17, (fun h => ih2 (v0) (v1) 0 (v2) r h) h⟩))) (fun h16 => (guard_of fun h18 => (fun h => ⟨h18, (fun h => by cases h; rfl) h⟩))))) (fun h15 => (guard_of fun h19 => (fun h => ⟨h19, (fun h => by cases h; rfl) h⟩)))) ((L10s_3_succ x0 c0 k0 n v0 v1 v2).symm.trans h)))⟩
noncomputable def F10s (n : Nat) (x0 : List AV) (c0 k0 : Nat) : Option (List Nat) := (L10s_0 x0 c0 k0 n 0)
set_option maxHeartbeats 4000000 in
theorem form10s (n : Nat) (x0 : List AV) (c0 k0 : Nat) (vz : AV) : Go.Sx.wpS Try.prog Try.f10 [(0, x0)] vz (.st [0, 0, 2, 0, 0, 0, 0, 2, 0, 0, 0, 0, 0, 2, 0, 0, 0, 0] (.stop ⟨[[0, 3, 4]], [], []⟩ [] 0 [])) [] (.code body10s (Go.Sx.startA [.slc 1048576 0 c0 (.exact k0)] Try.f10) (Go.Sx.laidHeap [(0, x0)])) = (Go.Sx.RunAt Try.prog Try.f10 [(0, x0)] vz sk10s_1 (pt10s_0 x0 c0 k0 0)) := by kernel_rfl
set_option maxHeartbeats 4000000 in
theorem run10s (n : Nat) (x0 : List AV) (c0 k0 : Nat) (px0 : Go.Sx.pureAVs x0 = true) (r : List Nat) (h : F10s n x0 c0 k0 = some r) : Go.Sx.Run Try.prog Try.f10 [(0, x0)] (.str r) [] (.code body10s (Go.Sx.startA [.slc 1048576 0 c0 (.exact k0)] Try.f10) (Go.Sx.laidHeap [(0, x0)])) := by
  obtain ⟨ih0, ih1, ih2, ih3⟩ := runs10s x0 c0 k0 px0 n
  exact Go.Sx.wpS_run (L := [(0, x0)]) (Go.Sx.laid_cons px0 (by kernel_rfl)) (form10s n x0 c0 k0 (.str r)) ((fun h => ih0 0 r h) h)
noncomputable def F10s_0 (n : Nat) (x0 : List AV) (c0 k0 : Nat) : List Nat := ((F10s n x0 c0 k0).getD default)
theorem fact10s (n : Nat) (x0 : List AV) (c0 k0 : Nat) (px0 : Go.Sx.pureAVs x0 = true) (h : (F10s n x0 c0 k0).isSome = true) : Fact Try.prog [(0, x0)] 10 [.slc 1048576 0 c0 (.exact k0)] (.str (F10s_0 n x0 c0 k0)) := Go.Sx.fact_of_run okayed (Go.Sx.laid_cons px0 (by kernel_rfl)) (by kernel_rfl) Try.func10 body10s_eq (run10s n x0 c0 k0 px0 ((F10s n x0 c0 k0).getD default) (Go.Sx.getD_some h))
noncomputable def body10e : Go.Code := (Try.f10.body).getD .skip
theorem body10e_eq : Try.f10.body = some body10e := Go.Sx.some_getD (by kernel_rfl)
noncomputable def F10e  : Option (List Nat) := (some [])
set_option maxHeartbeats 4000000 in
theorem form10e (n : Nat)  (vz : AV) : Go.Sx.wpS Try.prog Try.f10 [] vz (.st [0, 0, 2, 0, 0, 0, 0, 2, 0, 0, 0, 0, 0, 2, 0, 0, 0, 0, 0, 0, 0, 0, 2, 2, 2, 2, 2, 2, 2, 2, 0, 0, 0, 2, 0, 0, 0, 0, 0, 0, 2, 2, 2, 0, 0, 2] .ans) [] (.code body10e (Go.Sx.startA [.emp] Try.f10) (Go.Sx.laidHeap [])) = (vz = .str []) := by kernel_rfl
set_option maxHeartbeats 4000000 in
theorem run10e (n : Nat)   (r : List Nat) (h : F10e  = some r) : Go.Sx.Run Try.prog Try.f10 [] (.str r) [] (.code body10e (Go.Sx.startA [.emp] Try.f10) (Go.Sx.laidHeap [])) := by
  exact Go.Sx.wpS_run (L := []) (by kernel_rfl) (form10e n  (.str r)) ((fun h => by cases h; rfl) h)
noncomputable def F10e_0  : List Nat := ((F10e ).getD default)
theorem F10e_some  : (F10e ).isSome = true := by
  unfold F10e
  repeat' (first | rfl | apply Go.Sx.some_br)
theorem fact10e   : Fact Try.prog [] 10 [.emp] (.str (F10e_0 )) := Go.Sx.fact_of_run okayed (by kernel_rfl) (by kernel_rfl) Try.func10 body10e_eq (run10e 0   ((F10e ).getD default) (Go.Sx.getD_some (F10e_some )))
noncomputable def body22 : Go.Code := (Try.f22.body).getD .skip
theorem body22_eq : Try.f22.body = some body22 := Go.Sx.some_getD (by kernel_rfl)
noncomputable def sk22_0 : List Go.Sx.FC × Go.Sx.CC := (Go.Sx.skelAt Try.prog [.fn 22 [.r, .r, .l, .i, .h]] []).getD ([], .code .skip)
noncomputable def pt22_0 (tt : List Nat) (pa v0 : Int) : Go.Sx.Pt := ⟨[(26, [(0, .str (tt)), (1, .int .i64 (pa)), (5, .int .i64 (v0))])], [], 0, []⟩
mutual
noncomputable def L22_0 (tt : List Nat) (pa : Int) : Nat → Int → Option (Int)
  | 0, _ => none
  | n + 1, v0 => (bif (ltI (wrapA .i64 (Int.add pa v0)) (↑(List.length tt) : Int)) then (bif (inB (wrapA .i64 (Int.add pa v0)) (List.length tt)) then (bif (inB pa (List.length tt)) then (bif (eqI (Go.Sx.byteI tt (wrapA .i64 (Int.add pa v0))) (Go.Sx.byteI tt pa)) then (L22_0 tt pa n (wrapA .i64 (Int.add v0 1))) else (some (v0))) else none) else none) else (some (v0)))
termination_by structural n => n
end
theorem L22_0_succ (tt : List Nat) (pa : Int) (n : Nat) (v0 : Int) : L22_0 tt pa (n + 1) v0 = (bif (ltI (wrapA .i64 (Int.add pa v0)) (↑(List.length tt) : Int)) then (bif (inB (wrapA .i64 (Int.add pa v0)) (List.length tt)) then (bif (inB pa (List.length tt)) then (bif (eqI (Go.Sx.byteI tt (wrapA .i64 (Int.add pa v0))) (Go.Sx.byteI tt pa)) then (L22_0 tt pa n (wrapA .i64 (Int.add v0 1))) else (some (v0))) else none) else none) else (some (v0))) := rfl
set_option maxHeartbeats 4000000 in
theorem form22_0 (n : Nat) (tt : List Nat) (pa v0 : Int) (vz : AV) : Go.Sx.wpS Try.prog Try.f22 [] vz (.st [0, 0, 0] (.split (ltI (wrapA .i64 (Int.add pa v0)) (↑(List.length tt) : Int)) (.dr [.run, .run, .run, .run, .run, .run, .lit (.run) true, .run, .run, .run, .run, .sp 0, .run, .run, .sp 0] (.st [2, 2, 0, 0] (.br 22 (.st [0, 2, 0, 0, 0, 2, 2, 2, 0, 0, 0] (.stop ⟨[[0, 1, 5]], [], []⟩ [] 0 [])) (.st [0, 2, 0, 0, 0, 0, 0, 0, 2, 2, 0, 0, 2] .ans)))) (.dr [.run, .run, .run, .run, .run, .run, .lit (.run) false, .run, .run, .run, .run, .run, .run, .run, .run] (.st [2, 2, 0, 0, 0, 2, 0, 0, 0, 0, 0, 0, 2, 2, 0, 0, 2] .ans)))) (Go.Sx.mkK sk22_0.1 (pt22_0 tt pa v0).frs.tail) (Go.Sx.mkC [] (pt22_0 tt pa v0) sk22_0.1 sk22_0.2) = (BR (ltI (wrapA .i64 (Int.add pa v0)) (↑(List.length tt) : Int)) (AN (andB (ltI (wrapA .i64 (Int.add pa v0)) (↑(List.length tt) : Int)) (andB (inB (wrapA .i64 (Int.add pa v0)) (List.length tt)) (andB (inB pa (List.length tt)) Bool.true))) (BR (eqI (Go.Sx.byteI tt (wrapA .i64 (Int.add pa v0))) (Go.Sx.byteI tt pa)) (Go.Sx.RunAt Try.prog Try.f22 [] vz sk22_0 (pt22_0 tt pa (wrapA .i64 (Int.add v0 1)))) (vz = .int .i64 (v0)))) (AN (andB (!ltI (wrapA .i64 (Int.add pa v0)) (↑(List.length tt) : Int)) Bool.true) (vz = .int .i64 (v0)))) := by kernel_rfl
set_option maxHeartbeats 4000000 in
theorem runs22 (tt : List Nat) (pa : Int)  : ∀ (n : Nat), (∀ (v0 r : Int), L22_0 tt pa n v0 = some r → Go.Sx.RunAt Try.prog Try.f22 [] (.int .i64 r) sk22_0 (pt22_0 tt pa v0)) := by
  intro n
  induction n with
  | zero => exact (fun _ r h => by cases h)
  | succ n ih =>
    have ih0 := ih
    exact (fun v0 r h => Go.Sx.wpS_run (L := []) (by kernel_rfl) (form22_0 n tt pa v0 (.int .i64 r)) ((br_of (fun h0 => (guard_of fun h1 => (guard_of fun h2 => (fun h => ⟨(and_t h0 (and_t h1 (and_t h2 rfl))), (br_of (fun h3 => (fun h => ih0 (wrapA .i64 (Int.add v0 1)) r h)) (fun h3 => (fun h => by cases h; rfl))) h⟩)))) (fun h0 => (fun h => ⟨(and_t (Go.Sx.not_t h0) rfl), (fun h => by cases h; rfl) h⟩))) ((L22_0_succ tt pa n v0).symm.trans h)))
noncomputable def F22 (n : Nat) (tt : List Nat) (pa : Int) : Option (Int) := (L22_0 tt pa n 0)
set_option maxHeartbeats 4000000 in
theorem form22 (n : Nat) (tt : List Nat) (pa : Int) (vz : AV) : Go.Sx.wpS Try.prog Try.f22 [] vz (.st [0, 0, 2, 0, 0, 0, 0, 2, 0, 0, 0, 0, 0] (.stop ⟨[[0, 1, 5]], [], []⟩ [] 0 [])) [] (.code body22 (Go.Sx.startA [.str tt, .int .i64 pa] Try.f22) (Go.Sx.laidHeap [])) = (Go.Sx.RunAt Try.prog Try.f22 [] vz sk22_0 (pt22_0 tt pa 0)) := by kernel_rfl
set_option maxHeartbeats 4000000 in
theorem run22 (n : Nat) (tt : List Nat) (pa : Int)  (r : Int) (h : F22 n tt pa = some r) : Go.Sx.Run Try.prog Try.f22 [] (.int .i64 r) [] (.code body22 (Go.Sx.startA [.str tt, .int .i64 pa] Try.f22) (Go.Sx.laidHeap [])) := by
  have ih0 := runs22 tt pa  n
  exact Go.Sx.wpS_run (L := []) (by kernel_rfl) (form22 n tt pa (.int .i64 r)) ((fun h => ih0 0 r h) h)
noncomputable def F22_0 (n : Nat) (tt : List Nat) (pa : Int) : Int := ((F22 n tt pa).getD default)
theorem fact22 (n : Nat) (tt : List Nat) (pa : Int)  (h : (F22 n tt pa).isSome = true) : Fact Try.prog [] 22 [.str tt, .int .i64 pa] (.int .i64 (F22_0 n tt pa)) := Go.Sx.fact_of_run okayed (by kernel_rfl) (by kernel_rfl) Try.func22 body22_eq (run22 n tt pa  ((F22 n tt pa).getD default) (Go.Sx.getD_some h))
noncomputable def body23 : Go.Code := (Try.f23.body).getD .skip
theorem body23_eq : Try.f23.body = some body23 := Go.Sx.some_getD (by kernel_rfl)
noncomputable def sk23_0 : List Go.Sx.FC × Go.Sx.CC := (Go.Sx.skelAt Try.prog [.fn 23 [.r, .r, .l, .i, .h]] []).getD ([], .code .skip)
noncomputable def t23_12 (v0 : (List Nat)) : Int := (if 128 < (↑(List.length v0) : Int) then 128 else (↑(List.length v0) : Int))
noncomputable def u23_13 (v0 : (List Nat)) (v1 : (List Nat)) : List Nat := (v1 ++ [Int.toNat (wrapA .u8 (wrapA .i64 (Int.sub (t23_12 v0) 1)))])
noncomputable def u23_14 (v0 : (List Nat)) (v1 : (List Nat)) : List Nat := (u23_13 v0 v1 ++ Go.Sx.subS v0 0 (Int.toNat (t23_12 v0)))
noncomputable def pt23_0 (tt : List Nat) (v0 : List Nat) (v1 : List Nat) : Go.Sx.Pt := ⟨[(26, [(0, .str (v0)), (3, .str (v1))])], [], 0, []⟩
mutual
noncomputable def L23_0 (tt : List Nat) : Nat → (List Nat) → (List Nat) → Option (List Nat)
  | 0, _, _ => none
  | n + 1, v0, v1 => (bif (ltI 0 (↑(List.length v0) : Int)) then (bif (Nat.blt (List.length v1 + List.length [Int.toNat (wrapA .u8 (wrapA .i64 (Int.sub (t23_12 v0) 1)))]) 9223372036854775808) then (bif (!ltI (t23_12 v0) 0) then (bif (leB (Int.toNat (t23_12 v0)) (List.length v0)) then (bif (Nat.blt (List.length (u23_13 v0 v1) + List.length (Go.Sx.subS v0 0 (Int.toNat (t23_12 v0)))) 9223372036854775808) then (bif (leB (List.length v0) (List.length v0)) then (L23_0 tt n (Go.Sx.subS v0 (Int.toNat (t23_12 v0)) (List.length v0)) (u23_14 v0 v1)) else none) else none) else none) else none) else none) else (some (v1)))
termination_by structural n => n
end
theorem L23_0_succ (tt : List Nat) (n : Nat) (v0 : List Nat) (v1 : List Nat) : L23_0 tt (n + 1) v0 v1 = (bif (ltI 0 (↑(List.length v0) : Int)) then (bif (Nat.blt (List.length v1 + List.length [Int.toNat (wrapA .u8 (wrapA .i64 (Int.sub (t23_12 v0) 1)))]) 9223372036854775808) then (bif (!ltI (t23_12 v0) 0) then (bif (leB (Int.toNat (t23_12 v0)) (List.length v0)) then (bif (Nat.blt (List.length (u23_13 v0 v1) + List.length (Go.Sx.subS v0 0 (Int.toNat (t23_12 v0)))) 9223372036854775808) then (bif (leB (List.length v0) (List.length v0)) then (L23_0 tt n (Go.Sx.subS v0 (Int.toNat (t23_12 v0)) (List.length v0)) (u23_14 v0 v1)) else none) else none) else none) else none) else none) else (some (v1))) := rfl
set_option maxHeartbeats 4000000 in
theorem form23_0 (n : Nat) (tt : List Nat) (v0 : List Nat) (v1 : List Nat) (vz : AV) : Go.Sx.wpS Try.prog Try.f23 [] vz (.st [0, 0, 0, 0, 2, 2, 2, 0, 0] (.br 7 (.st [0, 2, 0, 0, 0, 0, 2, 2, 2, 2, 0, 0, 0] (.dr [.run, .run, .run, .run, .run, .run, .sp 0, .run, .run, .sp 0] (.sp 2 (.st [2, 0, 0, 0, 2, 2] (.sp 2 (.st [2, 0, 0, 0] (.stop ⟨[[0, 3]], [], []⟩ [] 0 []))))))) (.st [0, 2, 0, 0, 0, 0, 0, 0, 2, 2, 0, 0, 2] .ans))) (Go.Sx.mkK sk23_0.1 (pt23_0 tt v0 v1).frs.tail) (Go.Sx.mkC [] (pt23_0 tt v0 v1) sk23_0.1 sk23_0.2) = (BR (ltI 0 (↑(List.length v0) : Int)) (AN (andB (Nat.blt (List.length v1 + List.length [Int.toNat (wrapA .u8 (wrapA .i64 (Int.sub (t23_12 v0) 1)))]) 9223372036854775808) (andB (andB (andB (!ltI (t23_12 v0) 0) Bool.true) (leB (Int.toNat (t23_12 v0)) (List.length v0))) Bool.true)) (AN (Nat.blt (List.length (u23_13 v0 v1) + List.length (Go.Sx.subS v0 0 (Int.toNat (t23_12 v0)))) 9223372036854775808) (AN (andB (!ltI (t23_12 v0) 0) (andB (leB (Int.toNat (t23_12 v0)) (List.length v0)) (leB (List.length v0) (List.length v0)))) (Go.Sx.RunAt Try.prog Try.f23 [] vz sk23_0 (pt23_0 tt (Go.Sx.subS v0 (Int.toNat (t23_12 v0)) (List.length v0)) (u23_14 v0 v1)))))) (vz = .str (v1))) := by kernel_rfl
set_option maxHeartbeats 4000000 in
theorem runs23 (tt : List Nat)  : ∀ (n : Nat), (∀ (v0 : List Nat) (v1 : List Nat) (r : List Nat), L23_0 tt n v0 v1 = some r → Go.Sx.RunAt Try.prog Try.f23 [] (.str r) sk23_0 (pt23_0 tt v0 v1)) := by
  intro n
  induction n with
  | zero => exact (fun _ _ r h => by cases h)
  | succ n ih =>
    have ih0 := ih
    exact (fun v0 v1 r h => Go.Sx.wpS_run (L := []) (by kernel_rfl) (form23_0 n tt v0 v1 (.str r)) ((br_of (fun h0 => (guard_of fun h1 => (guard_of fun h2 => (guard_of fun h3 => (fun h => ⟨(and_t h1 (and_t (and_t (and_t h2 rfl) h3) rfl)), (guard_of fun h4 => (fun h => ⟨h4, (guard_of fun h5 => (fun h => ⟨(and_t h2 (and_t h3 h5)), (fun h => ih0 (Go.Sx.subS v0 (Int.toNat (t23_12 v0)) (List.length v0)) (u23_14 v0 v1) r h) h⟩)) h⟩)) h⟩))))) (fun h0 => (fun h => by cases h; rfl))) ((L23_0_succ tt n v0 v1).symm.trans h)))
noncomputable def F23 (n : Nat) (tt : List Nat) : Option (List Nat) := (L23_0 tt n (tt) [])
set_option maxHeartbeats 4000000 in
theorem form23 (n : Nat) (tt : List Nat) (vz : AV) : Go.Sx.wpS Try.prog Try.f23 [] vz (.st [0, 0, 2, 0, 0, 0, 0, 2, 0, 0, 0, 0, 0] (.stop ⟨[[0, 3]], [], []⟩ [] 0 [])) [] (.code body23 (Go.Sx.startA [.str tt] Try.f23) (Go.Sx.laidHeap [])) = (Go.Sx.RunAt Try.prog Try.f23 [] vz sk23_0 (pt23_0 tt (tt) [])) := by kernel_rfl
set_option maxHeartbeats 4000000 in
theorem run23 (n : Nat) (tt : List Nat)  (r : List Nat) (h : F23 n tt = some r) : Go.Sx.Run Try.prog Try.f23 [] (.str r) [] (.code body23 (Go.Sx.startA [.str tt] Try.f23) (Go.Sx.laidHeap [])) := by
  have ih0 := runs23 tt  n
  exact Go.Sx.wpS_run (L := []) (by kernel_rfl) (form23 n tt (.str r)) ((fun h => ih0 (tt) [] r h) h)
noncomputable def F23_0 (n : Nat) (tt : List Nat) : List Nat := ((F23 n tt).getD default)
theorem fact23 (n : Nat) (tt : List Nat)  (h : (F23 n tt).isSome = true) : Fact Try.prog [] 23 [.str tt] (.str (F23_0 n tt)) := Go.Sx.fact_of_run okayed (by kernel_rfl) (by kernel_rfl) Try.func23 body23_eq (run23 n tt  ((F23 n tt).getD default) (Go.Sx.getD_some h))
noncomputable def body12 : Go.Code := (Try.f12.body).getD .skip
theorem body12_eq : Try.f12.body = some body12 := Go.Sx.some_getD (by kernel_rfl)
noncomputable def sk12_0 : List Go.Sx.FC × Go.Sx.CC := (Go.Sx.skelAt Try.prog [.fn 12 [.r, .r, .r, .r, .l, .r, .i, .h]] []).getD ([], .code .skip)
noncomputable def sk12_1 : List Go.Sx.FC × Go.Sx.CC := (Go.Sx.skelAt Try.prog [.fn 12 [.r, .r, .r, .r, .l, .r, .i, .i, .r, .i, .r, .r, .r, .r, .l, .i, .h]] []).getD ([], .code .skip)
noncomputable def u12_72 (n : (Nat)) (tt : (List Nat)) (v0 : (List Nat)) (v1 : (Int)) : List Nat := (v0 ++ Go.Sx.subS tt (Int.toNat v1) (Int.toNat (wrapA .i64 (Int.add v1 (F22_0 n tt v1)))))
noncomputable def l12_73 (n : (Nat)) (v0 : (List Nat)) : List AV := (List.map (fun b => AV.int .u8 ((b % 256 : Nat) : Int)) (List.take (List.length (F23_0 n v0)) (F23_0 n v0)))
noncomputable def c12_74 (n : (Nat)) (v0 : (List Nat)) : Bool := (ltI 65536 (↑(List.length (F23_0 n v0) + 1) : Int))
noncomputable def l12_75 (n : (Nat)) (v0 : (List Nat)) : List AV := (List.map (fun b => AV.int .u8 ((b % 256 : Nat) : Int)) (List.take (List.length (F23_0 n v0)) (F23_0 n v0)) ++ [AV.int .u8 (128)])
noncomputable def u12_76 (n : (Nat)) (v0 : (List Nat)) : List Nat := (Go.Sx.strOf (l12_75 n v0) 0 (List.length (F23_0 n v0) + 1))
noncomputable def t12_77 (v3 : (Int)) : Int := (if 128 < v3 then 128 else v3)
noncomputable def t12_78 (v3 : (Int)) : Int := (wrapA .u8 (wrapA .i64 (Int.sub 257 (if 128 < v3 then 128 else v3))))
noncomputable def l12_79 (tt : (List Nat)) (v2 v3 : Int) (v4 : (List AV)) : List AV := (v4 ++ [AV.int .u8 (t12_78 v3), AV.int .u8 (Go.Sx.byteI tt v2)])
noncomputable def l12_80 (tt : (List Nat)) (v0 : (Nat)) (v2 v3 : Int) (v4 : (List AV)) : List AV := (Go.Sx.putL v4 (0 + v0 * 1) [AV.int .u8 (t12_78 v3), AV.int .u8 (Go.Sx.byteI tt v2)])
noncomputable def t12_81 (v1 : (Int)) : Int := (if 128 < v1 then 128 else v1)
noncomputable def t12_82 (v1 : (Int)) : Int := (wrapA .u8 (wrapA .i64 (Int.sub 257 (if 128 < v1 then 128 else v1))))
noncomputable def u12_83 (n : (Nat)) (tt : (List Nat)) (v2 : (List Nat)) (v3 : (Int)) : List Nat := (v2 ++ Go.Sx.subS tt (Int.toNat v3) (Int.toNat (wrapA .i64 (Int.add v3 (F22_0 n tt v3)))))
noncomputable def l12_84 (n : (Nat)) (v2 : (List Nat)) (v4 : (List AV)) : List AV := (v4 ++ List.map (fun b => AV.int .u8 ((b % 256 : Nat) : Int)) (List.take (List.length (F23_0 n v2)) (F23_0 n v2)))
noncomputable def l12_85 (n v0 : Nat) (v2 : (List Nat)) (v4 : (List AV)) : List AV := (Go.Sx.putL v4 (0 + v0 * 1) (List.map (fun b => AV.int .u8 ((b % 256 : Nat) : Int)) (List.take (List.length (F23_0 n v2)) (F23_0 n v2))))
noncomputable def k12_86 (n v0 : Nat) (v2 : (List Nat)) : Nat := (v0 + List.length (F23_0 n v2) + 1)
noncomputable def c12_87 (n v0 : Nat) (v2 : (List Nat)) : Bool := (ltI 65536 (↑(v0 + List.length (F23_0 n v2) + 1) : Int))
noncomputable def l12_88 (n : (Nat)) (v2 : (List Nat)) (v4 : (List AV)) : List AV := (v4 ++ List.map (fun b => AV.int .u8 ((b % 256 : Nat) : Int)) (List.take (List.length (F23_0 n v2)) (F23_0 n v2)) ++ [AV.int .u8 (128)])
noncomputable def l12_89 (n v0 : Nat) (v2 : (List Nat)) (v4 : (List AV)) : List AV := (Go.Sx.putL v4 (0 + v0 * 1) (List.map (fun b => AV.int .u8 ((b % 256 : Nat) : Int)) (List.take (List.length (F23_0 n v2)) (F23_0 n v2))) ++ [AV.int .u8 (128)])
noncomputable def l12_90 (n v0 : Nat) (v2 : (List Nat)) (v4 : (List AV)) : List AV := (Go.Sx.putL (Go.Sx.putL v4 (0 + v0 * 1) (List.map (fun b => AV.int .u8 ((b % 256 : Nat) : Int)) (List.take (List.length (F23_0 n v2)) (F23_0 n v2)))) (0 + (v0 + List.length (F23_0 n v2)) * 1) [AV.int .u8 (128)])
noncomputable def l12_91 (n v0 : Nat) (v2 : (List Nat)) (v4 : (List AV)) : List AV := (Go.Sx.putL (Go.Sx.putL v4 (0 + v0 * 1) (List.map (fun b => AV.int .u8 ((b % 256 : Nat) : Int)) (List.take (List.length (F23_0 n v2)) (F23_0 n v2)))) (0 + (v0 + List.length (F23_0 n v2)) * 1) [AV.int .u8 (128)])
noncomputable def c12_92 (v0 : (Nat)) : Bool := (ltI 65536 (↑(v0 + 1) : Int))
noncomputable def l12_93 (v4 : (List AV)) : List AV := (v4 ++ [AV.int .u8 (128)])
noncomputable def l12_94 (v0 : (Nat)) (v4 : (List AV)) : List AV := (Go.Sx.putL v4 (0 + v0 * 1) [AV.int .u8 (128)])
noncomputable def l12_95 (v0 : (Nat)) (v4 : (List AV)) : List AV := (Go.Sx.putL v4 (0 + v0 * 1) [AV.int .u8 (128)])
noncomputable def pt12_0 (tt : List Nat) (v0 : List Nat) (v1 : Int) : Go.Sx.Pt := ⟨[(76, [(0, .str (tt)), (4, .nils), (5, .str (v0)), (6, .int .i64 (v1))])], [], 0, []⟩
noncomputable def pt12_1 (tt : List Nat) (v0 v1 : Nat) (v2 v3 : Int) (v4 : List AV) : Go.Sx.Pt := ⟨[(76, [(0, .str (tt)), (4, .slc 0 0 (v0) (.upto 1 (v1))), (5, .str []), (6, .int .i64 (v2)), (7, .int .i64 (v3))])], [], 1, [(0, .cells 5 (v4) true)]⟩
noncomputable def pt12_2 (tt : List Nat) (v0 v1 : Int) : Go.Sx.Pt := ⟨[(76, [(0, .str (tt)), (4, .nils), (5, .str []), (6, .int .i64 (v0)), (7, .int .i64 (v1))])], [], 0, []⟩
noncomputable def pt12_3 (tt : List Nat) (v0 v1 : Nat) (v2 : List Nat) (v3 : Int) (v4 : List AV) : Go.Sx.Pt := ⟨[(76, [(0, .str (tt)), (4, .slc 0 0 (v0) (.upto 1 (v1))), (5, .str (v2)), (6, .int .i64 (v3))])], [], 1, [(0, .cells 5 (v4) true)]⟩
mutual
noncomputable def L12_0 (tt : List Nat) : Nat → (List Nat) → Int → Option (List Nat × Int)
  | 0, _, _ => none
  | n + 1, v0, v1 => (bif (ltI v1 (↑(List.length tt) : Int)) then (bif (Option.isSome (F22 n tt v1)) then (bif (ltI (F22_0 n tt v1) 3) then (bif (!ltI (wrapA .i64 (Int.add v1 (F22_0 n tt v1))) 0) then (bif (!ltI v1 0) then (bif (leB (Int.toNat v1) (Int.toNat (wrapA .i64 (Int.add v1 (F22_0 n tt v1))))) then (bif (leB (Int.toNat (wrapA .i64 (Int.add v1 (F22_0 n tt v1)))) (List.length tt)) then (bif (Nat.blt (List.length v0 + List.length (Go.Sx.subS tt (Int.toNat v1) (Int.toNat (wrapA .i64 (Int.add v1 (F22_0 n tt v1)))))) 9223372036854775808) then (L12_0 tt n (u12_72 n tt v0 v1) (wrapA .i64 (Int.add v1 (F22_0 n tt v1)))) else none) else none) else none) else none) else none) else (bif (Option.isSome (F23 n v0)) then (bif (Nat.blt 0 (List.length (F23_0 n v0))) then (bif (Nat.ble (List.length (F23_0 n v0)) 10000000) then (bif (Go.Sx.pureAVs (l12_73 n v0)) then (L12_1 tt n (List.length (F23_0 n v0)) (List.length (F23_0 n v0)) (v1) (F22_0 n tt v1) (l12_73 n v0)) else none) else none) else (bif (Nat.beq (List.length (F23_0 n v0)) 0) then (L12_2 tt n (v1) (F22_0 n tt v1)) else none)) else none)) else none) else (bif (Option.isSome (F23 n v0)) then (bif (Nat.blt 0 (List.length (F23_0 n v0))) then (bif (Nat.ble (List.length (F23_0 n v0)) 10000000) then (bif (Nat.blt (List.length (F23_0 n v0)) (List.length (F23_0 n v0) + 1)) then (bif (Nat.beq (List.length (l12_73 n v0)) (0 + List.length (F23_0 n v0) * 1)) then (bif (c12_74 n v0) then (some ([], 3)) else (bif (Go.Sx.strOk (l12_75 n v0) 0 (List.length (F23_0 n v0) + 1)) then (some ((u12_76 n v0), 0)) else none)) else none) else none) else none) else (bif (Nat.beq (List.length (F23_0 n v0)) 0) then (some ([128], 0)) else none)) else none))
termination_by structural n => n
noncomputable def L12_1 (tt : List Nat) : Nat → Nat → Nat → Int → Int → (List AV) → Option (List Nat × Int)
  | 0, _, _, _, _, _ => none
  | n + 1, v0, v1, v2, v3, v4 => (bif (ltI 1 v3) then (bif (inB v2 (List.length tt)) then (bif (Nat.blt v1 (v0 + 2)) then (bif (Nat.ble v0 10000000) then (bif (Nat.beq (List.length v4) (0 + v0 * 1)) then (bif (Go.Sx.pureAVs (l12_79 tt v2 v3 v4)) then (L12_1 tt n (v0 + 2) (v0 + 2) (wrapA .i64 (Int.add v2 (t12_77 v3))) (wrapA .i64 (Int.sub v3 (t12_77 v3))) (l12_79 tt v2 v3 v4)) else none) else none) else none) else (bif (Nat.ble (v0 + 2) v1) then (bif (Nat.ble v0 10000000) then (bif (Go.Sx.putOk v4 (0 + v0 * 1) (List.length (List.take 2 (List.drop 0 [AV.int .u8 (t12_78 v3), AV.int .u8 (Go.Sx.byteI tt v2)])))) then (bif (Go.Sx.pureAVs (l12_80 tt v0 v2 v3 v4)) then (L12_1 tt n (v0 + 2) (v1) (wrapA .i64 (Int.add v2 (t12_77 v3))) (wrapA .i64 (Int.sub v3 (t12_77 v3))) (l12_80 tt v0 v2 v3 v4)) else none) else none) else none) else none)) else none) else (bif (eqI v3 1) then (bif (!ltI (wrapA .i64 (Int.add v2 1)) 0) then (bif (!ltI v2 0) then (bif (leB (Int.toNat v2) (Int.toNat (wrapA .i64 (Int.add v2 1)))) then (bif (leB (Int.toNat (wrapA .i64 (Int.add v2 1))) (List.length tt)) then (bif (Go.Sx.pureAVs v4) then (L12_3 tt n (v0) (v1) (Go.Sx.subS tt (Int.toNat v2) (Int.toNat (wrapA .i64 (Int.add v2 1)))) (wrapA .i64 (Int.add v2 1)) (v4)) else none) else none) else none) else none) else none) else (bif (Go.Sx.pureAVs v4) then (L12_3 tt n (v0) (v1) [] (v2) (v4)) else none)))
termination_by structural n => n
noncomputable def L12_2 (tt : List Nat) : Nat → Int → Int → Option (List Nat × Int)
  | 0, _, _ => none
  | n + 1, v0, v1 => (bif (ltI 1 v1) then (bif (inB v0 (List.length tt)) then (L12_1 tt n 2 2 (wrapA .i64 (Int.add v0 (t12_81 v1))) (wrapA .i64 (Int.sub v1 (t12_81 v1))) [.int .u8 (t12_82 v1), .int .u8 (Go.Sx.byteI tt v0)]) else none) else (bif (eqI v1 1) then (bif (!ltI (wrapA .i64 (Int.add v0 1)) 0) then (bif (!ltI v0 0) then (bif (leB (Int.toNat v0) (Int.toNat (wrapA .i64 (Int.add v0 1)))) then (bif (leB (Int.toNat (wrapA .i64 (Int.add v0 1))) (List.length tt)) then (L12_0 tt n (Go.Sx.subS tt (Int.toNat v0) (Int.toNat (wrapA .i64 (Int.add v0 1)))) (wrapA .i64 (Int.add v0 1))) else none) else none) else none) else none) else (L12_0 tt n [] (v0))))
termination_by structural n => n
noncomputable def L12_3 (tt : List Nat) : Nat → Nat → Nat → (List Nat) → Int → (List AV) → Option (List Nat × Int)
  | 0, _, _, _, _, _ => none
  | n + 1, v0, v1, v2, v3, v4 => (bif (ltI v3 (↑(List.length tt) : Int)) then (bif (Option.isSome (F22 n tt v3)) then (bif (ltI (F22_0 n tt v3) 3) then (bif (!ltI (wrapA .i64 (Int.add v3 (F22_0 n tt v3))) 0) then (bif (!ltI v3 0) then (bif (leB (Int.toNat v3) (Int.toNat (wrapA .i64 (Int.add v3 (F22_0 n tt v3))))) then (bif (leB (Int.toNat (wrapA .i64 (Int.add v3 (F22_0 n tt v3)))) (List.length tt)) then (bif (Nat.blt (List.length v2 + List.length (Go.Sx.subS tt (Int.toNat v3) (Int.toNat (wrapA .i64 (Int.add v3 (F22_0 n tt v3)))))) 9223372036854775808) then (bif (Go.Sx.pureAVs v4) then (L12_3 tt n (v0) (v1) (u12_83 n tt v2 v3) (wrapA .i64 (Int.add v3 (F22_0 n tt v3))) (v4)) else none) else none) else none) else none) else none) else none) else (bif (Option.isSome (F23 n v2)) then (bif (Nat.blt v1 (v0 + List.length (F23_0 n v2))) then (bif (Nat.ble (List.length (F23_0 n v2)) 10000000) then (bif (Nat.blt 0 (List.length (F23_0 n v2))) then (bif (Nat.ble v0 10000000) then (bif (Nat.beq (List.length v4) (0 + v0 * 1)) then (bif (Go.Sx.pureAVs (l12_84 n v2 v4)) then (L12_1 tt n (v0 + List.length (F23_0 n v2)) (v0 + List.length (F23_0 n v2)) (v3) (F22_0 n tt v3) (l12_84 n v2 v4)) else none) else none) else none) else none) else none) else (bif (Nat.blt 0 (List.length (F23_0 n v2))) then (bif (Nat.ble (List.length (F23_0 n v2)) 10000000) then (bif (Nat.ble (v0 + List.length (F23_0 n v2)) v1) then (bif (Nat.ble v0 10000000) then (bif (Go.Sx.putOk v4 (0 + v0 * 1) (List.length (List.map (fun b => AV.int .u8 ((b % 256 : Nat) : Int)) (List.take (List.length (F23_0 n v2)) (F23_0 n v2))))) then (bif (Go.Sx.pureAVs (l12_85 n v0 v2 v4)) then (L12_1 tt n (v0 + List.length (F23_0 n v2)) (v1) (v3) (F22_0 n tt v3) (l12_85 n v0 v2 v4)) else none) else none) else none) else none) else none) else (bif (Nat.beq (List.length (F23_0 n v2)) 0) then (bif (Go.Sx.pureAVs v4) then (L12_1 tt n (v0) (v1) (v3) (F22_0 n tt v3) (v4)) else none) else none))) else none)) else none) else (bif (Option.isSome (F23 n v2)) then (bif (Nat.blt v1 (v0 + List.length (F23_0 n v2))) then (bif (Nat.ble (List.length (F23_0 n v2)) 10000000) then (bif (Nat.blt 0 (List.length (F23_0 n v2))) then (bif (Nat.ble v0 10000000) then (bif (Nat.beq (List.length v4) (0 + v0 * 1)) then (bif (Nat.blt (v0 + List.length (F23_0 n v2)) (v0 + List.length (F23_0 n v2) + 1)) then (bif (Nat.ble (v0 + List.length (F23_0 n v2)) 10000000) then (bif (Nat.beq (List.length (l12_84 n v2 v4)) (0 + (v0 + List.length (F23_0 n v2)) * 1)) then (bif (c12_87 n v0 v2) then (some ([], 3)) else (bif (Go.Sx.strOk (l12_88 n v2 v4) 0 (k12_86 n v0 v2)) then (some ((Go.Sx.strOf (l12_88 n v2 v4) 0 (k12_86 n v0 v2)), 0)) else none)) else none) else none) else none) else none) else none) else none) else none) else (bif (Nat.blt 0 (List.length (F23_0 n v2))) then (bif (Nat.ble (List.length (F23_0 n v2)) 10000000) then (bif (Nat.ble (v0 + List.length (F23_0 n v2)) v1) then (bif (Nat.ble v0 10000000) then (bif (Go.Sx.putOk v4 (0 + v0 * 1) (List.length (List.map (fun b => AV.int .u8 ((b % 256 : Nat) : Int)) (List.take (List.length (F23_0 n v2)) (F23_0 n v2))))) then (bif (Nat.blt v1 (v0 + List.length (F23_0 n v2) + 1)) then (bif (Nat.ble (v0 + List.length (F23_0 n v2)) 10000000) then (bif (Nat.beq (List.length (l12_85 n v0 v2 v4)) (0 + (v0 + List.length (F23_0 n v2)) * 1)) then (bif (c12_87 n v0 v2) then (some ([], 3)) else (bif (Go.Sx.strOk (l12_89 n v0 v2 v4) 0 (k12_86 n v0 v2)) then (some ((Go.Sx.strOf (l12_89 n v0 v2 v4) 0 (k12_86 n v0 v2)), 0)) else none)) else none) else none) else (bif (Nat.ble (v0 + List.length (F23_0 n v2) + 1) v1) then (bif (Nat.ble (v0 + List.length (F23_0 n v2)) 10000000) then (bif (Go.Sx.putOk (l12_85 n v0 v2 v4) (0 + (v0 + List.length (F23_0 n v2)) * 1) 1) then (bif (c12_87 n v0 v2) then (some ([], 3)) else (bif (Go.Sx.strOk (l12_91 n v0 v2 v4) 0 (k12_86 n v0 v2)) then (some ((Go.Sx.strOf (l12_91 n v0 v2 v4) 0 (k12_86 n v0 v2)), 0)) else none)) else none) else none) else none)) else none) else none) else none) else none) else (bif (Nat.beq (List.length (F23_0 n v2)) 0) then (bif (Nat.blt v1 (v0 + 1)) then (bif (Nat.ble v0 10000000) then (bif (Nat.beq (List.length v4) (0 + v0 * 1)) then (bif (c12_92 v0) then (some ([], 3)) else (bif (Go.Sx.strOk (l12_93 v4) 0 (v0 + 1)) then (some ((Go.Sx.strOf (l12_93 v4) 0 (v0 + 1)), 0)) else none)) else none) else none) else (bif (Nat.ble (v0 + 1) v1) then (bif (Nat.ble v0 10000000) then (bif (Go.Sx.putOk v4 (0 + v0 * 1) 1) then (bif (c12_92 v0) then (some ([], 3)) else (bif (Go.Sx.strOk (l12_95 v0 v4) 0 (v0 + 1)) then (some ((Go.Sx.strOf (l12_95 v0 v4) 0 (v0 + 1)), 0)) else none)) else none) else none) else none)) else none))) else none))
termination_by structural n => n
end
theorem L12_0_succ (tt : List Nat) (n : Nat) (v0 : List Nat) (v1 : Int) : L12_0 tt (n + 1) v0 v1 = (bif (ltI v1 (↑(List.length tt) : Int)) then (bif (Option.isSome (F22 n tt v1)) then (bif (ltI (F22_0 n tt v1) 3) then (bif (!ltI (wrapA .i64 (Int.add v1 (F22_0 n tt v1))) 0) then (bif (!ltI v1 0) then (bif (leB (Int.toNat v1) (Int.toNat (wrapA .i64 (Int.add v1 (F22_0 n tt v1))))) then (bif (leB (Int.toNat (wrapA .i64 (Int.add v1 (F22_0 n tt v1)))) (List.length tt)) then (bif (Nat.blt (List.length v0 + List.length (Go.Sx.subS tt (Int.toNat v1) (Int.toNat (wrapA .i64 (Int.add v1 (F22_0 n tt v1)))))) 9223372036854775808) then (L12_0 tt n (u12_72 n tt v0 v1) (wrapA .i64 (Int.add v1 (F22_0 n tt v1)))) else none) else none) else none) else none) else none) else (bif (Option.isSome (F23 n v0)) then (bif (Nat.blt 0 (List.length (F23_0 n v0))) then (bif (Nat.ble (List.length (F23_0 n v0)) 10000000) then (bif (Go.Sx.pureAVs (l12_73 n v0)) then (L12_1 tt n (List.length (F23_0 n v0)) (List.length (F23_0 n v0)) (v1) (F22_0 n tt v1) (l12_73 n v0)) else none) else none) else (bif (Nat.beq (List.length (F23_0 n v0)) 0) then (L12_2 tt n (v1) (F22_0 n tt v1)) else none)) else none)) else none) else (bif (Option.isSome (F23 n v0)) then (bif (Nat.blt 0 (List.length (F23_0 n v0))) then (bif (Nat.ble (List.length (F23_0 n v0)) 10000000) then (bif (Nat.blt (List.length (F23_0 n v0)) (List.length (F23_0 n v0) + 1)) then (bif (Nat.beq (List.length (l12_73 n v0)) (0 + List.length (F23_0 n v0) * 1)) then (bif (c12_74 n v0) then (some ([], 3)) else (bif (Go.Sx.strOk (l12_75 n v0) 0 (List.length (F23_0 n v0) + 1)) then (some ((u12_76 n v0), 0)) else none)) else none) else none) else none) else (bif (Nat.beq (List.length (F23_0 n v0)) 0) then (some ([128], 0)) else none)) else none)) := rfl
theorem L12_1_succ (tt : List Nat) (n v0 v1 : Nat) (v2 v3 : Int) (v4 : List AV) : L12_1 tt (n + 1) v0 v1 v2 v3 v4 = (bif (ltI 1 v3) then (bif (inB v2 (List.length tt)) then (bif (Nat.blt v1 (v0 + 2)) then (bif (Nat.ble v0 10000000) then (bif (Nat.beq (List.length v4) (0 + v0 * 1)) then (bif (Go.Sx.pureAVs (l12_79 tt v2 v3 v4)) then (L12_1 tt n (v0 + 2) (v0 + 2) (wrapA .i64 (Int.add v2 (t12_77 v3))) (wrapA .i64 (Int.sub v3 (t12_77 v3))) (l12_79 tt v2 v3 v4)) else none) else none) else none) else (bif (Nat.ble (v0 + 2) v1) then (bif (Nat.ble v0 10000000) then (bif (Go.Sx.putOk v4 (0 + v0 * 1) (List.length (List.take 2 (List.drop 0 [AV.int .u8 (t12_78 v3), AV.int .u8 (Go.Sx.byteI tt v2)])))) then (bif (Go.Sx.pureAVs (l12_80 tt v0 v2 v3 v4)) then (L12_1 tt n (v0 + 2) (v1) (wrapA .i64 (Int.add v2 (t12_77 v3))) (wrapA .i64 (Int.sub v3 (t12_77 v3))) (l12_80 tt v0 v2 v3 v4)) else none) else none) else none) else none)) else none) else (bif (eqI v3 1) then (bif (!ltI (wrapA .i64 (Int.add v2 1)) 0) then (bif (!ltI v2 0) then (bif (leB (Int.toNat v2) (Int.toNat (wrapA .i64 (Int.add v2 1)))) then (bif (leB (Int.toNat (wrapA .i64 (Int.add v2 1))) (List.length tt)) then (bif (Go.Sx.pureAVs v4) then (L12_3 tt n (v0) (v1) (Go.Sx.subS tt (Int.toNat v2) (Int.toNat (wrapA .i64 (Int.add v2 1)))) (wrapA .i64 (Int.add v2 1)) (v4)) else none) else none) else none) else none) else none) else (bif (Go.Sx.pureAVs v4) then (L12_3 tt n (v0) (v1) [] (v2) (v4)) else none))) := rfl
theorem L12_2_succ (tt : List Nat) (n : Nat) (v0 v1 : Int) : L12_2 tt (n + 1) v0 v1 = (bif (ltI 1 v1) then (bif (inB v0 (List.length tt)) then (L12_1 tt n 2 2 (wrapA .i64 (Int.add v0 (t12_81 v1))) (wrapA .i64 (Int.sub v1 (t12_81 v1))) [.int .u8 (t12_82 v1), .int .u8 (Go.Sx.byteI tt v0)]) else none) else (bif (eqI v1 1) then (bif (!ltI (wrapA .i64 (Int.add v0 1)) 0) then (bif (!ltI v0 0) then (bif (leB (Int.toNat v0) (Int.toNat (wrapA .i64 (Int.add v0 1)))) then (bif (leB (Int.toNat (wrapA .i64 (Int.add v0 1))) (List.length tt)) then (L12_0 tt n (Go.Sx.subS tt (Int.toNat v0) (Int.toNat (wrapA .i64 (Int.add v0 1)))) (wrapA .i64 (Int.add v0 1))) else none) else none) else none) else none) else (L12_0 tt n [] (v0)))) := rfl
theorem L12_3_succ (tt : List Nat) (n v0 v1 : Nat) (v2 : List Nat) (v3 : Int) (v4 : List AV) : L12_3 tt (n + 1) v0 v1 v2 v3 v4 = (bif (ltI v3 (↑(List.length tt) : Int)) then (bif (Option.isSome (F22 n tt v3)) then (bif (ltI (F22_0 n tt v3) 3) then (bif (!ltI (wrapA .i64 (Int.add v3 (F22_0 n tt v3))) 0) then (bif (!ltI v3 0) then (bif (leB (Int.toNat v3) (Int.toNat (wrapA .i64 (Int.add v3 (F22_0 n tt v3))))) then (bif (leB (Int.toNat (wrapA .i64 (Int.add v3 (F22_0 n tt v3)))) (List.length tt)) then (bif (Nat.blt (List.length v2 + List.length (Go.Sx.subS tt (Int.toNat v3) (Int.toNat (wrapA .i64 (Int.add v3 (F22_0 n tt v3)))))) 9223372036854775808) then (bif (Go.Sx.pureAVs v4) then (L12_3 tt n (v0) (v1) (u12_83 n tt v2 v3) (wrapA .i64 (Int.add v3 (F22_0 n tt v3))) (v4)) else none) else none) else none) else none) else none) else none) else (bif (Option.isSome (F23 n v2)) then (bif (Nat.blt v1 (v0 + List.length (F23_0 n v2))) then (bif (Nat.ble (List.length (F23_0 n v2)) 10000000) then (bif (Nat.blt 0 (List.length (F23_0 n v2))) then (bif (Nat.ble v0 10000000) then (bif (Nat.beq (List.length v4) (0 + v0 * 1)) then (bif (Go.Sx.pureAVs (l12_84 n v2 v4)) then (L12_1 tt n (v0 + List.length (F23_0 n v2)) (v0 + List.length (F23_0 n v2)) (v3) (F22_0 n tt v3) (l12_84 n v2 v4)) else none) else none) else none) else none) else none) else (bif (Nat.blt 0 (List.length (F23_0 n v2))) then (bif (Nat.ble (List.length (F23_0 n v2)) 10000000) then (bif (Nat.ble (v0 + List.length (F23_0 n v2)) v1) then (bif (Nat.ble v0 10000000) then (bif (Go.Sx.putOk v4 (0 + v0 * 1) (List.length (List.map (fun b => AV.int .u8 ((b % 256 : Nat) : Int)) (List.take (List.length (F23_0 n v2)) (F23_0 n v2))))) then (bif (Go.Sx.pureAVs (l12_85 n v0 v2 v4)) then (L12_1 tt n (v0 + List.length (F23_0 n v2)) (v1) (v3) (F22_0 n tt v3) (l12_85 n v0 v2 v4)) else none) else none) else none) else none) else none) else (bif (Nat.beq (List.length (F23_0 n v2)) 0) then (bif (Go.Sx.pureAVs v4) then (L12_1 tt n (v0) (v1) (v3) (F22_0 n tt v3) (v4)) else none) else none))) else none)) else none) else (bif (Option.isSome (F23 n v2)) then (bif (Nat.blt v1 (v0 + List.length (F23_0 n v2))) then (bif (Nat.ble (List.length (F23_0 n v2)) 10000000) then (bif (Nat.blt 0 (List.length (F23_0 n v2))) then (bif (Nat.ble v0 10000000) then (bif (Nat.beq (List.length v4) (0 + v0 * 1)) then (bif (Nat.blt (v0 + List.length (F23_0 n v2)) (v0 + List.length (F23_0 n v2) + 1)) then (bif (Nat.ble (v0 + List.length (F23_0 n v2)) 10000000) then (bif (Nat.beq (List.length (l12_84 n v2 v4)) (0 + (v0 + List.length (F23_0 n v2)) * 1)) then (bif (c12_87 n v0 v2) then (some ([], 3)) else (bif (Go.Sx.strOk (l12_88 n v2 v4) 0 (k12_86 n v0 v2)) then (some ((Go.Sx.strOf (l12_88 n v2 v4) 0 (k12_86 n v0 v2)), 0)) else none)) else none) else none) else none) else none) else none) else none) else none) else (bif (Nat.blt 0 (List.length (F23_0 n v2))) then (bif (Nat.ble (List.length (F23_0 n v2)) 10000000) then (bif (Nat.ble (v0 + List.length (F23_0 n v2)) v1) then (bif (Nat.ble v0 10000000) then (bif (Go.Sx.putOk v4 (0 + v0 * 1) (List.length (List.map (fun b => AV.int .u8 ((b % 256 : Nat) : Int)) (List.take (List.length (F23_0 n v2)) (F23_0 n v2))))) then (bif (Nat.blt v1 (v0 + List.length (F23_0 n v2) + 1)) then (bif (Nat.ble (v0 + List.length (F23_0 n v2)) 10000000) then (bif (Nat.beq (List.length (l12_85 n v0 v2 v4)) (0 + (v0 + List.length (F23_0 n v2)) * 1)) then (bif (c12_87 n v0 v2) then (some ([], 3)) else (bif (Go.Sx.strOk (l12_89 n v0 v2 v4) 0 (k12_86 n v0 v2)) then (some ((Go.Sx.strOf (l12_89 n v0 v2 v4) 0 (k12_86 n v0 v2)), 0)) else none)) else none) else none) else (bif (Nat.ble (v0 + List.length (F23_0 n v2) + 1) v1) then (bif (Nat.ble (v0 + List.length (F23_0 n v2)) 10000000) then (bif (Go.Sx.putOk (l12_85 n v0 v2 v4) (0 + (v0 + List.length (F23_0 n v2)) * 1) 1) then (bif (c12_87 n v0 v2) then (some ([], 3)) else (bif (Go.Sx.strOk (l12_91 n v0 v2 v4) 0 (k12_86 n v0 v2)) then (some ((Go.Sx.strOf (l12_91 n v0 v2 v4) 0 (k12_86 n v0 v2)), 0)) else none)) else none) else none) else none)) else none) else none) else none) else none) else (bif (Nat.beq (List.length (F23_0 n v2)) 0) then (bif (Nat.blt v1 (v0 + 1)) then (bif (Nat.ble v0 10000000) then (bif (Nat.beq (List.length v4) (0 + v0 * 1)) then (bif (c12_92 v0) then (some ([], 3)) else (bif (Go.Sx.strOk (l12_93 v4) 0 (v0 + 1)) then (some ((Go.Sx.strOf (l12_93 v4) 0 (v0 + 1)), 0)) else none)) else none) else none) else (bif (Nat.ble (v0 + 1) v1) then (bif (Nat.ble v0 10000000) then (bif (Go.Sx.putOk v4 (0 + v0 * 1) 1) then (bif (c12_92 v0) then (some ([], 3)) else (bif (Go.Sx.strOk (l12_95 v0 v4) 0 (v0 + 1)) then (some ((Go.Sx.strOf (l12_95 v0 v4) 0 (v0 + 1)), 0)) else none)) else none) else none) else none)) else none))) else none)) := rfl
set_option maxHeartbeats 4000000 in
theorem form12_0 (n : Nat) (tt : List Nat) (v0 : List Nat) (v1 : Int) (vz : AV) : Go.Sx.wpS Try.prog Try.f12 [] vz (.st [0, 0, 0, 0, 2, 2, 2, 2, 0, 0] (.br 15 (.st [0, 2, 0, 0, 0, 0, 2, 2] (.use [] (.int .i64 (F22_0 n tt v1)) (.st [2, 0, 0, 0, 0, 0, 2, 2, 0, 0] (.br 20 (.st [0, 0, 0, 2, 2, 2, 2, 2, 2] (.sp 2 (.sp 2 (.st [2, 0, 0, 0, 0, 2, 2, 2, 2, 0, 0, 2, 0, 0, 0] (.stop ⟨[[0, 4, 5, 6]], [], []⟩ [] 0 []))))) (.st [0, 2, 0, 0, 0, 2, 2] (.use [] (.str (F23_0 n v0)) (.split (Nat.blt 0 (List.length (F23_0 n v0))) (.sp 2 (.st [2, 0, 0, 0, 0, 2, 0, 0, 0, 0, 0] (.stop ⟨[[0, 4, 5, 6, 7]], [], [0]⟩ [(0, 0)] 1 [0]))) (.sp 0 (.st [2, 0, 0, 0, 0, 2, 0, 0, 0, 0, 0] (.stop ⟨[[0, 4, 5, 6, 7]], [], []⟩ [] 0 [])))))))))) (.st [0, 2, 0, 0, 0, 0, 0, 0, 2, 2] (.use [] (.str (F23_0 n v0)) (.split (Nat.blt 0 (List.length (F23_0 n v0))) (.sp 2 (.st [2, 0, 0, 0, 0, 2, 2] (.sp 2 (.st [2, 0, 0, 0, 0, 0, 2, 2, 2, 0, 0] (.br 73 (.st [0, 0, 0, 2, 2, 0, 0, 2, 0] .ans) (.st [0, 2, 0, 0, 0, 2] (.sp 2 (.st [2, 2, 0, 0, 2] .ans)))))))) (.sp 0 (.st [2, 0, 0, 0, 0, 2, 2, 2, 2, 0, 0, 0, 0, 0, 2, 2, 2, 0, 0, 0, 2, 0, 0, 0, 2, 2, 2, 2, 0, 0, 2] .ans))))))) (Go.Sx.mkK sk12_0.1 (pt12_0 tt v0 v1).frs.tail) (Go.Sx.mkC [] (pt12_0 tt v0 v1) sk12_0.1 sk12_0.2) = (BR (ltI v1 (↑(List.length tt) : Int)) (Fact Try.prog [] 22 [.str (tt), .int .i64 (v1)] (.int .i64 (F22_0 n tt v1)) ∧ (BR (ltI (F22_0 n tt v1) 3) (AN (andB (andB (!ltI (wrapA .i64 (Int.add v1 (F22_0 n tt v1))) 0) !ltI v1 0) (andB (leB (Int.toNat v1) (Int.toNat (wrapA .i64 (Int.add v1 (F22_0 n tt v1))))) (leB (Int.toNat (wrapA .i64 (Int.add v1 (F22_0 n tt v1)))) (List.length tt)))) (AN (Nat.blt (List.length v0 + List.length (Go.Sx.subS tt (Int.toNat v1) (Int.toNat (wrapA .i64 (Int.add v1 (F22_0 n tt v1)))))) 9223372036854775808) (Go.Sx.RunAt Try.prog Try.f12 [] vz sk12_0 (pt12_0 tt (u12_72 n tt v0 v1) (wrapA .i64 (Int.add v1 (F22_0 n tt v1))))))) (Fact Try.prog [] 23 [.str (v0)] (.str (F23_0 n v0)) ∧ (BR (Nat.blt 0 (List.length (F23_0 n v0))) (AN (andB (andB (Nat.ble (List.length (F23_0 n v0)) 10000000) Bool.true) (Nat.blt 0 (List.length (F23_0 n v0)))) (AN (Go.Sx.pureAVs (l12_73 n v0)) (Go.Sx.RunAt Try.prog Try.f12 [] vz sk12_1 (pt12_1 tt (List.length (F23_0 n v0)) (List.length (F23_0 n v0)) (v1) (F22_0 n tt v1) (l12_73 n v0))))) (AN (andB (Nat.beq (List.length (F23_0 n v0)) 0) Bool.true) (Go.Sx.RunAt Try.prog Try.f12 [] vz sk12_1 (pt12_2 tt (v1) (F22_0 n tt v1)))))))) (Fact Try.prog [] 23 [.str (v0)] (.str (F23_0 n v0)) ∧ (BR (Nat.blt 0 (List.length (F23_0 n v0))) (AN (andB (andB (Nat.ble (List.length (F23_0 n v0)) 10000000) Bool.true) (Nat.blt 0 (List.length (F23_0 n v0)))) (AN (andB (Nat.blt (List.length (F23_0 n v0)) (List.length (F23_0 n v0) + 1)) (andB (Nat.ble (List.length (F23_0 n v0)) 10000000) (Nat.beq (List.length (l12_73 n v0)) (0 + List.length (F23_0 n v0) * 1)))) (BR (c12_74 n v0) (vz = .tup [.str [], .int .i64 (.ofNat 3)]) (AN (Go.Sx.strOk (l12_75 n v0) 0 (List.length (F23_0 n v0) + 1)) (vz = .tup [.str (u12_76 n v0), .int .i64 (.ofNat 0)]))))) (AN (andB (Nat.beq (List.length (F23_0 n v0)) 0) Bool.true) (vz = .tup [.str [128], .int .i64 (.ofNat 0)]))))) := by kernel_rfl
set_option maxHeartbeats 4000000 in
theorem form12_1 (n : Nat) (tt : List Nat) (v0 v1 : Nat) (v2 v3 : Int) (v4 : List AV) (vz : AV) : Go.Sx.wpS Try.prog Try.f12 [] vz (.st [0, 0, 0, 0, 2, 2, 0, 0] (.br 37 (.st [0, 2, 0, 0, 0, 0, 2, 2, 2, 0, 0, 0, 0, 2, 2, 2, 2, 2, 2] (.sp 2 (.st [2] (.split (Nat.blt v1 (v0 + 2)) (.sp 2 (.st [2, 0, 0, 0, 0, 2, 2, 2, 2, 0, 0, 0, 2, 2, 2, 2, 0, 0, 0] (.stop ⟨[[0, 4, 5, 6, 7]], [], [2]⟩ [(2, 0)] 1 [2]))) (.sp 1 (.st [2, 0, 0, 0, 0, 2, 2, 2, 2, 0, 0, 0, 2, 2, 2, 2, 0, 0, 0] (.stop ⟨[[0, 4, 5, 6, 7]], [], [0]⟩ [(0, 0)] 1 [0]))))))) (.st [0, 2, 0, 0, 0, 0, 0, 0, 2, 2, 0, 0] (.br 56 (.st [0, 0, 0, 2, 2, 2, 2] (.sp 2 (.st [2, 0, 0, 0, 2, 2, 2, 0, 0, 0] (.stop ⟨[[0, 4, 5, 6]], [], [0]⟩ [(0, 0)] 1 [0])))) (.st [0, 2, 0, 0] (.stop ⟨[[0, 4, 5, 6]], [], [0]⟩ [(0, 0)] 1 [0])))))) (Go.Sx.mkK sk12_1.1 (pt12_1 tt v0 v1 v2 v3 v4).frs.tail) (Go.Sx.mkC [] (pt12_1 tt v0 v1 v2 v3 v4) sk12_1.1 sk12_1.2) = (BR (ltI 1 v3) (AN (inB v2 (List.length tt)) (BR (Nat.blt v1 (v0 + 2)) (AN (andB (Nat.blt v1 (v0 + 2)) (andB (Nat.ble v0 10000000) (Nat.beq (List.length v4) (0 + v0 * 1)))) (AN (Go.Sx.pureAVs (l12_79 tt v2 v3 v4)) (Go.Sx.RunAt Try.prog Try.f12 [] vz sk12_1 (pt12_1 tt (v0 + 2) (v0 + 2) (wrapA .i64 (Int.add v2 (t12_77 v3))) (wrapA .i64 (Int.sub v3 (t12_77 v3))) (l12_79 tt v2 v3 v4))))) (AN (andB (Nat.ble (v0 + 2) v1) (andB (Nat.ble v0 10000000) (Go.Sx.putOk v4 (0 + v0 * 1) (List.length (List.take 2 (List.drop 0 [AV.int .u8 (t12_78 v3), AV.int .u8 (Go.Sx.byteI tt v2)])))))) (AN (Go.Sx.pureAVs (l12_80 tt v0 v2 v3 v4)) (Go.Sx.RunAt Try.prog Try.f12 [] vz sk12_1 (pt12_1 tt (v0 + 2) (v1) (wrapA .i64 (Int.add v2 (t12_77 v3))) (wrapA .i64 (Int.sub v3 (t12_77 v3))) (l12_80 tt v0 v2 v3 v4))))))) (BR (eqI v3 1) (AN (andB (andB (!ltI (wrapA .i64 (Int.add v2 1)) 0) !ltI v2 0) (andB (leB (Int.toNat v2) (Int.toNat (wrapA .i64 (Int.add v2 1)))) (leB (Int.toNat (wrapA .i64 (Int.add v2 1))) (List.length tt)))) (AN (Go.Sx.pureAVs v4) (Go.Sx.RunAt Try.prog Try.f12 [] vz sk12_0 (pt12_3 tt (v0) (v1) (Go.Sx.subS tt (Int.toNat v2) (Int.toNat (wrapA .i64 (Int.add v2 1)))) (wrapA .i64 (Int.add v2 1)) (v4))))) (AN (Go.Sx.pureAVs v4) (Go.Sx.RunAt Try.prog Try.f12 [] vz sk12_0 (pt12_3 tt (v0) (v1) [] (v2) (v4)))))) := by kernel_rfl
set_option maxHeartbeats 4000000 in
theorem form12_2 (n : Nat) (tt : List Nat) (v0 v1 : Int) (vz : AV) : Go.Sx.wpS Try.prog Try.f12 [] vz (.st [0, 0, 0, 0, 2, 2, 0, 0] (.br 37 (.st [0, 2, 0, 0, 0, 0, 2, 2, 2, 0, 0, 0, 0, 2, 2, 2, 2, 2, 2] (.sp 2 (.st [2, 2, 2, 0, 0, 0, 0, 2, 2, 2, 2, 0, 0, 0, 2, 2, 2, 2, 0, 0, 0] (.stop ⟨[[0, 4, 5, 6, 7]], [], [1]⟩ [(1, 0)] 1 [1])))) (.st [0, 2, 0, 0, 0, 0, 0, 0, 2, 2, 0, 0] (.br 56 (.st [0, 0, 0, 2, 2, 2, 2] (.sp 2 (.st [2, 0, 0, 0, 2, 2, 2, 0, 0, 0] (.stop ⟨[[0, 4, 5, 6]], [], []⟩ [] 0 [])))) (.st [0, 2, 0, 0] (.stop ⟨[[0, 4, 5, 6]], [], []⟩ [] 0 [])))))) (Go.Sx.mkK sk12_1.1 (pt12_2 tt v0 v1).frs.tail) (Go.Sx.mkC [] (pt12_2 tt v0 v1) sk12_1.1 sk12_1.2) = (BR (ltI 1 v1) (AN (inB v0 (List.length tt)) (AN (Go.Sx.pureAVs [AV.int .u8 (t12_82 v1), AV.int .u8 (Go.Sx.byteI tt v0)]) (Go.Sx.RunAt Try.prog Try.f12 [] vz sk12_1 (pt12_1 tt 2 2 (wrapA .i64 (Int.add v0 (t12_81 v1))) (wrapA .i64 (Int.sub v1 (t12_81 v1))) [.int .u8 (t12_82 v1), .int .u8 (Go.Sx.byteI tt v0)])))) (BR (eqI v1 1) (AN (andB (andB (!ltI (wrapA .i64 (Int.add v0 1)) 0) !ltI v0 0) (andB (leB (Int.toNat v0) (Int.toNat (wrapA .i64 (Int.add v0 1)))) (leB (Int.toNat (wrapA .i64 (Int.add v0 1))) (List.length tt)))) (Go.Sx.RunAt Try.prog Try.f12 [] vz sk12_0 (pt12_0 tt (Go.Sx.subS tt (Int.toNat v0) (Int.toNat (wrapA .i64 (Int.add v0 1)))) (wrapA .i64 (Int.add v0 1))))) (Go.Sx.RunAt Try.prog Try.f12 [] vz sk12_0 (pt12_0 tt [] (v0))))) := by kernel_rfl
set_option maxHeartbeats 4000000 in
theorem form12_3 (n : Nat) (tt : List Nat) (v0 v1 : Nat) (v2 : List Nat) (v3 : Int) (v4 : List AV) (vz : AV) : Go.Sx.wpS Try.prog Try.f12 [] vz (.st [0, 0, 0, 0, 2, 2, 2, 2, 0, 0] (.br 15 (.st [0, 2, 0, 0, 0, 0, 2, 2] (.use [] (.int .i64 (F22_0 n tt v3)) (.st [2, 0, 0, 0, 0, 0, 2, 2, 0, 0] (.br 20 (.st [0, 0, 0, 2, 2, 2, 2, 2, 2] (.sp 2 (.sp 2 (.st [2, 0, 0, 0, 0, 2, 2, 2, 2, 0, 0, 2, 0, 0, 0] (.stop ⟨[[0, 4, 5, 6]], [], [0]⟩ [(0, 0)] 1 [0]))))) (.st [0, 2, 0, 0, 0, 2, 2] (.use [] (.str (F23_0 n v2)) (.split (Nat.blt v1 (v0 + List.length (F23_0 n v2))) (.sp 2 (.st [2, 0, 0, 0, 0, 2, 0, 0, 0, 0, 0] (.stop ⟨[[0, 4, 5, 6, 7]], [], [1]⟩ [(1, 0)] 1 [1]))) (.split (Nat.blt 0 (List.length (F23_0 n v2))) (.sp 1 (.st [2, 0, 0, 0, 0, 2, 0, 0, 0, 0, 0] (.stop ⟨[[0, 4, 5, 6, 7]], [], [0]⟩ [(0, 0)] 1 [0]))) (.sp 0 (.st [2, 0, 0, 0, 0, 2, 0, 0, 0, 0, 0] (.stop ⟨[[0, 4, 5, 6, 7]], [], [0]⟩ [(0, 0)] 1 [0]))))))))))) (.st [0, 2, 0, 0, 0, 0, 0, 0, 2, 2] (.use [] (.str (F23_0 n v2)) (.split (Nat.blt v1 (v0 + List.length (F23_0 n v2))) (.sp 2 (.st [2, 0, 0, 0, 0, 2, 2] (.sp 2 (.st [2, 0, 0, 0, 0, 0, 2, 2, 2, 0, 0] (.br 73 (.st [0, 0, 0, 2, 2, 0, 0, 2, 0] .ans) (.st [0, 2, 0, 0, 0, 2] (.sp 2 (.st [2, 2, 0, 0, 2] .ans)))))))) (.split (Nat.blt 0 (List.length (F23_0 n v2))) (.sp 1 (.st [2, 0, 0, 0, 0, 2, 2] (.split (Nat.blt v1 (v0 + List.length (F23_0 n v2) + 1)) (.sp 2 (.st [2, 0, 0, 0, 0, 0, 2, 2, 2, 0, 0] (.br 73 (.st [0, 0, 0, 2, 2, 0, 0, 2, 0] .ans) (.st [0, 2, 0, 0, 0, 2] (.sp 2 (.st [2, 2, 0, 0, 2] .ans)))))) (.sp 1 (.st [2, 0, 0, 0, 0, 0, 2, 2, 2, 0, 0] (.br 73 (.st [0, 0, 0, 2, 2, 0, 0, 2, 0] .ans) (.st [0, 2, 0, 0, 0, 2] (.sp 2 (.st [2, 2, 0, 0, 2] .ans))))))))) (.sp 0 (.st [2, 0, 0, 0, 0, 2, 2] (.split (Nat.blt v1 (v0 + 1)) (.sp 2 (.st [2, 0, 0, 0, 0, 0, 2, 2, 2, 0, 0] (.br 73 (.st [0, 0, 0, 2, 2, 0, 0, 2, 0] .ans) (.st [0, 2, 0, 0, 0, 2] (.sp 2 (.st [2, 2, 0, 0, 2] .ans)))))) (.sp 1 (.st [2, 0, 0, 0, 0, 0, 2, 2, 2, 0, 0] (.br 73 (.st [0, 0, 0, 2, 2, 0, 0, 2, 0] .ans) (.st [0, 2, 0, 0, 0, 2] (.sp 2 (.st [2, 2, 0, 0, 2] .ans))))))))))))))) (Go.Sx.mkK sk12_0.1 (pt12_3 tt v0 v1 v2 v3 v4).frs.tail) (Go.Sx.mkC [] (pt12_3 tt v0 v1 v2 v3 v4) sk12_0.1 sk12_0.2) = (BR (ltI v3 (↑(List.length tt) : Int)) (Fact Try.prog [] 22 [.str (tt), .int .i64 (v3)] (.int .i64 (F22_0 n tt v3)) ∧ (BR (ltI (F22_0 n tt v3) 3) (AN (andB (andB (!ltI (wrapA .i64 (Int.add v3 (F22_0 n tt v3))) 0) !ltI v3 0) (andB (leB (Int.toNat v3) (Int.toNat (wrapA .i64 (Int.add v3 (F22_0 n tt v3))))) (leB (Int.toNat (wrapA .i64 (Int.add v3 (F22_0 n tt v3)))) (List.length tt)))) (AN (Nat.blt (List.length v2 + List.length (Go.Sx.subS tt (Int.toNat v3) (Int.toNat (wrapA .i64 (Int.add v3 (F22_0 n tt v3)))))) 9223372036854775808) (AN (Go.Sx.pureAVs v4) (Go.Sx.RunAt Try.prog Try.f12 [] vz sk12_0 (pt12_3 tt (v0) (v1) (u12_83 n tt v2 v3) (wrapA .i64 (Int.add v3 (F22_0 n tt v3))) (v4)))))) (Fact Try.prog [] 23 [.str (v2)] (.str (F23_0 n v2)) ∧ (BR (Nat.blt v1 (v0 + List.length (F23_0 n v2))) (AN (andB (andB (Nat.ble (List.length (F23_0 n v2)) 10000000) Bool.true) (andB (Nat.blt v1 (v0 + List.length (F23_0 n v2))) (andB (Nat.blt 0 (List.length (F23_0 n v2))) (andB (Nat.ble v0 10000000) (Nat.beq (List.length v4) (0 + v0 * 1)))))) (AN (Go.Sx.pureAVs (l12_84 n v2 v4)) (Go.Sx.RunAt Try.prog Try.f12 [] vz sk12_1 (pt12_1 tt (v0 + List.length (F23_0 n v2)) (v0 + List.length (F23_0 n v2)) (v3) (F22_0 n tt v3) (l12_84 n v2 v4))))) (BR (Nat.blt 0 (List.length (F23_0 n v2))) (AN (andB (andB (Nat.ble (List.length (F23_0 n v2)) 10000000) Bool.true) (andB (Nat.ble (v0 + List.length (F23_0 n v2)) v1) (andB (Nat.blt 0 (List.length (F23_0 n v2))) (andB (Nat.ble v0 10000000) (Go.Sx.putOk v4 (0 + v0 * 1) (List.length (List.map (fun b => AV.int .u8 ((b % 256 : Nat) : Int)) (List.take (List.length (F23_0 n v2)) (F23_0 n v2))))))))) (AN (Go.Sx.pureAVs (l12_85 n v0 v2 v4)) (Go.Sx.RunAt Try.prog Try.f12 [] vz sk12_1 (pt12_1 tt (v0 + List.length (F23_0 n v2)) (v1) (v3) (F22_0 n tt v3) (l12_85 n v0 v2 v4))))) (AN (andB (Nat.beq (List.length (F23_0 n v2)) 0) Bool.true) (AN (Go.Sx.pureAVs v4) (Go.Sx.RunAt Try.prog Try.f12 [] vz sk12_1 (pt12_1 tt (v0) (v1) (v3) (F22_0 n tt v3) (v4)))))))))) (Fact Try.prog [] 23 [.str (v2)] (.str (F23_0 n v2)) ∧ (BR (Nat.blt v1 (v0 + List.length (F23_0 n v2))) (AN (andB (andB (Nat.ble (List.length (F23_0 n v2)) 10000000) Bool.true) (andB (Nat.blt v1 (v0 + List.length (F23_0 n v2))) (andB (Nat.blt 0 (List.length (F23_0 n v2))) (andB (Nat.ble v0 10000000) (Nat.beq (List.length v4) (0 + v0 * 1)))))) (AN (andB (Nat.blt (v0 + List.length (F23_0 n v2)) (v0 + List.length (F23_0 n v2) + 1)) (andB (Nat.ble (v0 + List.length (F23_0 n v2)) 10000000) (Nat.beq (List.length (l12_84 n v2 v4)) (0 + (v0 + List.length (F23_0 n v2)) * 1)))) (BR (c12_87 n v0 v2) (vz = .tup [.str [], .int .i64 (.ofNat 3)]) (AN (Go.Sx.strOk (l12_88 n v2 v4) 0 (k12_86 n v0 v2)) (vz = .tup [.str (Go.Sx.strOf (l12_88 n v2 v4) 0 (k12_86 n v0 v2)), .int .i64 (.ofNat 0)]))))) (BR (Nat.blt 0 (List.length (F23_0 n v2))) (AN (andB (andB (Nat.ble (List.length (F23_0 n v2)) 10000000) Bool.true) (andB (Nat.ble (v0 + List.length (F23_0 n v2)) v1) (andB (Nat.blt 0 (List.length (F23_0 n v2))) (andB (Nat.ble v0 10000000) (Go.Sx.putOk v4 (0 + v0 * 1) (List.length (List.map (fun b => AV.int .u8 ((b % 256 : Nat) : Int)) (List.take (List.length (F23_0 n v2)) (F23_0 n v2))))))))) (BR (Nat.blt v1 (v0 + List.length (F23_0 n v2) + 1)) (AN (andB (Nat.blt v1 (v0 + List.length (F23_0 n v2) + 1)) (andB (Nat.ble (v0 + List.length (F23_0 n v2)) 10000000) (Nat.beq (List.length (l12_85 n v0 v2 v4)) (0 + (v0 + List.length (F23_0 n v2)) * 1)))) (BR (c12_87 n v0 v2) (vz = .tup [.str [], .int .i64 (.ofNat 3)]) (AN (Go.Sx.strOk (l12_89 n v0 v2 v4) 0 (k12_86 n v0 v2)) (vz = .tup [.str (Go.Sx.strOf (l12_89 n v0 v2 v4) 0 (k12_86 n v0 v2)), .int .i64 (.ofNat 0)])))) (AN (andB (Nat.ble (v0 + List.length (F23_0 n v2) + 1) v1) (andB (Nat.ble (v0 + List.length (F23_0 n v2)) 10000000) (Go.Sx.putOk (l12_85 n v0 v2 v4) (0 + (v0 + List.length (F23_0 n v2)) * 1) 1))) (BR (c12_87 n v0 v2) (vz = .tup [.str [], .int .i64 (.ofNat 3)]) (AN (Go.Sx.strOk (l12_91 n v0 v2 v4) 0 (k12_86 n v0 v2)) (vz = .tup [.str (Go.Sx.strOf (l12_91 n v0 v2 v4) 0 (k12_86 n v0 v2)), .int .i64 (.ofNat 0)])))))) (AN (andB (Nat.beq (List.length (F23_0 n v2)) 0) Bool.true) (BR (Nat.blt v1 (v0 + 1)) (AN (andB (Nat.blt v1 (v0 + 1)) (andB (Nat.ble v0 10000000) (Nat.beq (List.length v4) (0 + v0 * 1)))) (BR (c12_92 v0) (vz = .tup [.str [], .int .i64 (.ofNat 3)]) (AN (Go.Sx.strOk (l12_93 v4) 0 (v0 + 1)) (vz = .tup [.str (Go.Sx.strOf (l12_93 v4) 0 (v0 + 1)), .int .i64 (.ofNat 0)])))) (AN (andB (Nat.ble (v0 + 1) v1) (andB (Nat.ble v0 10000000) (Go.Sx.putOk v4 (0 + v0 * 1) 1))) (BR (c12_92 v0) (vz = .tup [.str [], .int .i64 (.ofNat 3)]) (AN (Go.Sx.strOk (l12_95 v0 v4) 0 (v0 + 1)) (vz = .tup [.str (Go.Sx.strOf (l12_95 v0 v4) 0 (v0 + 1)), .int .i64 (.ofNat 0)])))))))))) := by kernel_rfl
set_option maxHeartbeats 4000000 in
theorem runs12 (tt : List Nat)  : ∀ (n : Nat), (∀ (v0 : List Nat) (v1 : Int) (r : List Nat × Int), L12_0 tt n v0 v1 = some r → Go.Sx.RunAt Try.prog Try.f12 [] (.tup [.str r.1, .int .i64 r.2]) sk12_0 (pt12_0 tt v0 v1)) ∧ (∀ (v0 v1 : Nat) (v2 v3 : Int) (v4 : List AV) (r : List Nat × Int), L12_1 tt n v0 v1 v2 v3 v4 = some r → Go.Sx.RunAt Try.prog Try.f12 [] (.tup [.str r.1, .int .i64 r.2]) sk12_1 (pt12_1 tt v0 v1 v2 v3 v4)) ∧ (∀ (v0 v1 : Int) (r : List Nat × Int), L12_2 tt n v0 v1 = some r → Go.Sx.RunAt Try.prog Try.f12 [] (.tup [.str r.1, .int .i64 r.2]) sk12_1 (pt12_2 tt v0 v1)) ∧ (∀ (v0 v1 : Nat) (v2 : List Nat) (v3 : Int) (v4 : List AV) (r : List Nat × Int), L12_3 tt n v0 v1 v2 v3 v4 = some r → Go.Sx.RunAt Try.prog Try.f12 [] (.tup [.str r.1, .int .i64 r.2]) sk12_0 (pt12_3 tt v0 v1 v2 v3 v4)) := by
  intro n
  induction n with
  | zero => exact ⟨(fun _ _ r h => by cases h), (fun _ _ _ _ _ r h => by cases h), (fun _ _ r h => by cases h), (fun _ _ _ _ _ r h => by cases h)⟩
  | succ n ih =>
    obtain ⟨ih0, ih1, ih2, ih3⟩ := ih
    exact ⟨(fun v0 v1 r h => Go.Sx.wpS_run (L := []) (by kernel_rfl) (form12_0 n tt v0 v1 (.tup [.str r.1, .int .i64 r.2])) ((br_of (fun h1 => (guard_of fun h2 => (fun h => ⟨fact22 (n) (tt) (v1) h2, (br_of (fun h3 => (guard_of fun h4 => (guard_of fun h5 => (guard_of fun h6 => (guard_of fun h7 => (fun h => ⟨(and_t (and_t h4 h5) (and_t h6 h7)), (guard_of fun h8 => (fun h => ⟨h8, (fun h => ih0 (u12_72 n tt v0 v1) (wrapA .i64 (Int.add v1 (F22_0 n tt v1))) r h) h⟩)) h⟩)))))) (fun h3 => (guard_of fun h9 => (fun h => ⟨fact23 (n) (v0) h9, (br_of (fun h10 => (guard_of fun h11 => (fun h => ⟨(and_t (and_t h11 rfl) h10), (guard_of fun h12 => (fun h => ⟨h12, (fun h => ih1 (List.length (F23_0 n v0)) (List.length (F23_0 n v0)) (v1) (F22_0 n tt v1) (l12_73 n v0) r h) h⟩)) h⟩))) (fun h10 => (guard_of fun h13 => (fun h => ⟨(and_t h13 rfl), (fun h => ih2 (v1) (F22_0 n tt v1) r h) h⟩)))) h⟩)))) h⟩))) (fun h1 => (guard_of fun h14 => (fun h => ⟨fact23 (n) (v0) h14, (br_of (fun h15 => (guard_of fun h16 => (fun h => ⟨(and_t (and_t h16 rfl) h15), (guard_of fun h17 => (guard_of fun h18 => (fun h => ⟨(and_t h17 (and_t h16 h18)), (br_of (fun h19 => (fun h => by cases h; rfl)) (fun h19 => (guard_of fun h20 => (fun h => ⟨h20, (fun h => by cases h; rfl) h⟩)))) h⟩))) h⟩))) (fun h15 => (guard_of fun h21 => (fun h => ⟨(and_t h21 rfl), (fun h => by cases h; rfl) h⟩)))) h⟩)))) ((L12_0_succ tt n v0 v1).symm.trans h))), (fun v0 v1 v2 v3 v4 r h => Go.Sx.wpS_run (L := []) (by kernel_rfl) (form12_1 n tt v0 v1 v2 v3 v4 (.tup [.str r.1, .int .i64 r.2])) ((br_of (fun h22 => (guard_of fun h23 => (fun h => ⟨h23, (br_of (fun h24 => (guard_of fun h25 => (guard_of fun h26 => (fun h => ⟨(and_t h24 (and_t h25 h26)), (guard_of fun h27 => (fun h => ⟨h27, (fun h => ih1 (v0 + 2) (v0 + 2) (wrapA .i64 (Int.add v2 (t12_77 v3))) (wrapA .i64 (Int.sub v3 (t12_77 v3))) (l12_79 tt v2 v3 v4) r h) h⟩)) h⟩)))) (fun h24 => (guard_of fun h28 => (guard_of fun h29 => (guard_of fun h30 => (fun h => ⟨(and_t h28 (and_t h29 h30)), (guard_of fun h31 => (fun h => ⟨h31, (fun h => ih1 (v0 + 2) (v1) (wrapA .i64 (Int.add v2 (t12_77 v3))) (wrapA .i64 (Int.sub v3 (t12_77 v3))) (l12_80 tt v0 v2 v3 v4) r h) h⟩)) h⟩)))))) h⟩))) (fun h22 => (br_of (fun h32 => (guard_of fun h33 => (guard_of fun h34 => (guard_of fun h35 => (guard_of fun h36 => (fun h => ⟨(and_t (and_t h33 h34) (and_t h35 h36)), (guard_of fun h37 => (fun h => ⟨h37, (fun h => ih3 (v0) (v1) (Go.Sx.subS tt (Int.toNat v2) (Int.toNat (wrapA .i64 (Int.add v2 1)))) (wrapA .i64 (Int.add v2 1)) (v4) r h) h⟩)) h⟩)))))) (fun h32 => (guard_of fun h38 => (fun h => ⟨h38, (fun h => ih3 (v0) (v1) [] (v2) (v4) r h) h⟩)))))) ((L12_1_succ tt n v0 v1 v2 v3 v4).symm.trans h))), (fun v0 v1 r h => Go.Sx.wpS_run (L := []) (by kernel_rfl) (form12_2 n tt v0 v1 (.tup [.str r.1, .int .i64 r.2])) ((br_of (fun h39 => (guard_of fun h40 => (fun h => ⟨h40, (fun h => ⟨rfl, (fun h => ih1 2 2 (wrapA .i64 (Int.add v0 (t12_81 v1))) (wrapA .i64 (Int.sub v1 (t12_81 v1))) [.int .u8 (t12_82 v1), .int .u8 (Go.Sx.byteI tt v0)] r h) h⟩) h⟩))) (fun h39 => (br_of (fun h41 => (guard_of fun h42 => (guard_of fun h43 => (guard_of fun h44 => (guard_of fun h45 => (fun h => ⟨(and_t (and_t h42 h43) (and_t h44 h45)), (fun h => ih0 (Go.Sx.subS tt (Int.toNat v0) (Int.toNat (wrapA .i64 (Int.add v0 1)))) (wrapA .i64 (Int.add v0 1)) r h) h⟩)))))) (fun h41 => (fun h => ih0 [] (v0) r h))))) ((L12_2_succ tt n v0 v1).symm.trans h))), (fun v0 v1 v2 v3 v4 r h => Go.Sx.wpS_run (L := []) (by kernel_rfl) (form12_3 n tt v0 v1 v2 v3 v4 (.tup [.str r.1, .int .i64 r.2])) ((br_of (fun h46 => (guard_of fun h47 => (fun h => ⟨fact22 (n) (tt) (v3) h47, (br_of (fun h48 => (guard_of fun h49 => (guard_of fun h50 => (guard_of fun h51 => (guard_of fun h52 => (fun h => ⟨(and_t (and_t h49 h50) (and_t h51 h52)), (guard_of fun h53 => (fun h => ⟨h53, (guard_of fun h54 => (fun h => ⟨h54, (fun h => ih3 (v0) (v1) (u12_83 n tt v2 v3) (wrapA .i64 (Int.add v3 (F22_0 n tt v3))) (v4) r h) h⟩)) h⟩)) h⟩)))))) (fun h48 => (guard_of fun h55 => (fun h => ⟨fact23 (n) (v2) h55, (br_of (fun h56 => (guard_of fun h57 => (guard_of fun h58 => (guard_of fun h59 => (guard_of fun h60 => (fun h => ⟨(and_t (and_t h57 rfl) (and_t h56 (and_t h58 (and_t h59 h60)))), (guard_of fun h61 => (fun h => ⟨h61, (fun h => ih1 (v0 + List.length (F23_0 n v2)) (v0 + List.length (F23_0 n v2)) (v3) (F22_0 n tt v3) (l12_84 n v2 v4) r h) h⟩)) h⟩)))))) (fun h56 => (br_of (fun h62 => (guard_of fun h63 => (guard_of fun h64 => (guard_of fun h65 => (guard_of fun h66 => (fun h => ⟨(and_t (and_t h63 rfl) (and_t h64 (and_t h62 (and_t h65 h66)))), (guard_of fun h67 => (fun h => ⟨h67, (fun h => ih1 (v0 + List.length (F23_0 n v2)) (v1) (v3) (F22_0 n tt v3) (l12_85 n v0 v2 v4) r h) h⟩)) h⟩)))))) (fun h62 => (guard_of fun h68 => (fun h => ⟨(and_t h68 rfl), (guard_of fun h69 => (fun h => ⟨h69, (fun h => ih1 (v0) (v1) (v3) (F22_0 n tt v3) (v4) r h) h⟩)) h⟩)))))) h⟩)))) h⟩))) (fun h46 => (guard_of fun h70 => (fun h => ⟨fact23 (n) (v2) h70, (br_of (fun h71 => (guard_of fun h72 => (guard_of fun h73 => (guard_of fun h74 => (guard_of fun h75 => (fun h => ⟨(and_t (and_t h72 rfl) (and_t h71 (and_t h73 (and_t h74 h75)))), (guard_of fun h76 => (guard_of fun h77 => (guard_of fun h78 => (fun h => ⟨(and_t h76 (and_t h77 h78)), (br_of (fun h79 => (fun h => by cases h; rfl)) (fun h79 => (guard_of fun h80 => (fun h => ⟨h80, (fun h => by cases h; rfl) h⟩)))) h⟩)))) h⟩)))))) (fun h71 => (br_of (fun h81 => (guard_of fun h82 => (guard_of fun h83 => (guard_of fun h84 => (guard_of fun h85 => (fun h => ⟨(and_t (and_t h82 rfl) (and_t h83 (and_t h81 (and_t h84 h85)))), (br_of (fun h86 => (guard_of fun h87 => (guard_of fun h88 => (fun h => ⟨(and_t h86 (and_t h87 h88)), (br_of (fun h89 => (fun h => by cases h; rfl)) (fun h89 => (guard_of fun h90 => (fun h => ⟨h90, (fun h => by cases h; rfl) h⟩)))) h⟩)))) (fun h86 => (guard_of fun h91 => (guard_of fun h92 => (guard_of fun h93 => (fun h => ⟨(and_t h91 (and_t h92 h93)), (br_of (fun h94 => (fun h => by cases h; rfl)) (fun h94 => (guard_of fun h95 => (fun h => ⟨h95, (fun h => by cases h; rfl) h⟩)))) h⟩)))))) h⟩)))))) (fun h81 => (guard_of fun h96 => (fun h => ⟨(and_t h96 rfl), (br_of (fun h97 => (guard_of fun h98 => (guard_of fun h99 => (fun h => ⟨(and_t h97 (and_t h98 h99)), (br_of (fun h100 => (fun h => by cases h; rfl)) (fun h100 => (guard_of fun h101 => (fun h => ⟨h101, (fun h => by cases h; rfl) h⟩)))) h⟩)))) (fun h97 => (guard_of fun h102 => (guard_of fun h103 => (guard_of fun h104 => (fun h => ⟨(and_t h102 (and_t h103 h104)), (br_of (fun h105 => (fun h => by cases h; rfl)) (fun h105 => (guard_of fun h106 => (fun h => ⟨h106, (fun h => by cases h; rfl) h⟩)))) h⟩)))))) h⟩)))))) h⟩)))) ((L12_3_succ tt n v0 v1 v2 v3 v4).symm.trans h)))⟩
noncomputable def F12 (n : Nat) (tt : List Nat) : Option (List Nat × Int) := (bif (ltI 65536 (↑(List.length tt) : Int)) then (some ([], 3)) else (L12_0 tt n [] 0))
set_option maxHeartbeats 4000000 in
theorem form12 (n : Nat) (tt : List Nat) (vz : AV) : Go.Sx.wpS Try.prog Try.f12 [] vz (.st [0, 0, 2, 2, 0, 0, 0, 0, 0, 2, 2, 2, 0, 0] (.br 11 (.st [0, 0, 0, 2, 2, 0, 0, 2, 0] .ans) (.st [0, 2, 0, 0, 0, 2, 0, 0, 0, 0, 2, 0, 0, 0, 0, 0, 2, 0, 0, 0, 0] (.stop ⟨[[0, 4, 5, 6]], [], []⟩ [] 0 [])))) [] (.code body12 (Go.Sx.startA [.str tt] Try.f12) (Go.Sx.laidHeap [])) = (BR (ltI 65536 (↑(List.length tt) : Int)) (vz = .tup [.str [], .int .i64 (.ofNat 3)]) (Go.Sx.RunAt Try.prog Try.f12 [] vz sk12_0 (pt12_0 tt [] 0))) := by kernel_rfl
set_option maxHeartbeats 4000000 in
theorem run12 (n : Nat) (tt : List Nat)  (r : List Nat × Int) (h : F12 n tt = some r) : Go.Sx.Run Try.prog Try.f12 [] (.tup [.str r.1, .int .i64 r.2]) [] (.code body12 (Go.Sx.startA [.str tt] Try.f12) (Go.Sx.laidHeap [])) := by
  obtain ⟨ih0, ih1, ih2, ih3⟩ := runs12 tt  n
  exact Go.Sx.wpS_run (L := []) (by kernel_rfl) (form12 n tt (.tup [.str r.1, .int .i64 r.2])) ((br_of (fun h0 => (fun h => by cases h; rfl)) (fun h0 => (fun h => ih0 [] 0 r h))) h)
noncomputable def F12_0 (n : Nat) (tt : List Nat) : List Nat := ((F12 n tt).getD default).1
noncomputable def F12_1 (n : Nat) (tt : List Nat) : Int := ((F12 n tt).getD default).2
theorem fact12 (n : Nat) (tt : List Nat)  (h : (F12 n tt).isSome = true) : Fact Try.prog [] 12 [.str tt] (.tup [.str (F12_0 n tt), .int .i64 (F12_1 n tt)]) := Go.Sx.fact_of_run okayed (by kernel_rfl) (by kernel_rfl) Try.func12 body12_eq (run12 n tt  ((F12 n tt).getD default) (Go.Sx.getD_some h))
noncomputable def body14 : Go.Code := (Try.f14.body).getD .skip
theorem body14_eq : Try.f14.body = some body14 := Go.Sx.some_getD (by kernel_rfl)
noncomputable def sk14_0 : List Go.Sx.FC × Go.Sx.CC := (Go.Sx.skelAt Try.prog [.fn 14 [.r, .r, .r, .l, .r, .i, .h]] []).getD ([], .code .skip)
noncomputable def sk14_1 : List Go.Sx.FC × Go.Sx.CC := (Go.Sx.skelAt Try.prog [.fn 14 [.r, .r, .r, .l, .r, .i, .i, .r, .i, .r, .r, .r, .r, .l, .r, .i, .h]] []).getD ([], .code .skip)
noncomputable def c14_48 (tt : (List Nat)) (v0 : (Int)) : Bool := (ltI (wrapA .i64 (Int.sub (↑(List.length tt) : Int) v0)) (wrapA .i64 (Int.add (wrapA .i64 (Go.Sx.byteI tt v0)) 2)))
noncomputable def t14_49 (tt : (List Nat)) (v0 : (Int)) : Int := (wrapA .i64 (Int.add (wrapA .i64 (Int.add v0 (wrapA .i64 (Go.Sx.byteI tt v0)))) 2))
noncomputable def u14_50 (tt : (List Nat)) (v0 : (Int)) : List Nat := (Go.Sx.subS tt (Int.toNat (wrapA .i64 (Int.add v0 1))) (Int.toNat (t14_49 tt v0)))
noncomputable def l14_51 (tt : (List Nat)) (v0 : (Int)) : List AV := (List.map (fun b => AV.int .u8 ((b % 256 : Nat) : Int)) (List.take (List.length (u14_50 tt v0)) (u14_50 tt v0)))
noncomputable def c14_52 (tt : (List Nat)) (v0 : (Int)) : Bool := (ltI (wrapA .i64 (Int.sub (↑(List.length tt) : Int) v0)) 2)
noncomputable def c14_53 (tt : (List Nat)) (v2 : (Int)) : Bool := (ltI (wrapA .i64 (Int.sub (↑(List.length tt) : Int) v2)) (wrapA .i64 (Int.add (wrapA .i64 (Go.Sx.byteI tt v2)) 2)))
noncomputable def t14_54 (tt : (List Nat)) (v2 : (Int)) : Int := (wrapA .i64 (Int.add (wrapA .i64 (Int.add v2 (wrapA .i64 (Go.Sx.byteI tt v2)))) 2))
noncomputable def u14_55 (tt : (List Nat)) (v2 : (Int)) : List Nat := (Go.Sx.subS tt (Int.toNat (wrapA .i64 (Int.add v2 1))) (Int.toNat (t14_54 tt v2)))
noncomputable def l14_56 (tt : (List Nat)) (v2 : (Int)) (v3 : (List AV)) : List AV := (v3 ++ List.map (fun b => AV.int .u8 ((b % 256 : Nat) : Int)) (List.take (List.length (u14_55 tt v2)) (u14_55 tt v2)))
noncomputable def l14_57 (tt : (List Nat)) (v0 : (Nat)) (v2 : (Int)) (v3 : (List AV)) : List AV := (Go.Sx.putL v3 (0 + v0 * 1) (List.map (fun b => AV.int .u8 ((b % 256 : Nat) : Int)) (List.take (List.length (u14_55 tt v2)) (u14_55 tt v2))))
noncomputable def c14_58 (tt : (List Nat)) (v2 : (Int)) : Bool := (ltI (wrapA .i64 (Int.sub (↑(List.length tt) : Int) v2)) 2)
noncomputable def l14_59 (tt : (List Nat)) (v0 : (Int)) : List AV := ([AV.int .u8 (Go.Sx.byteI tt (wrapA .i64 (Int.add v0 1)))])
noncomputable def l14_60 (tt : (List Nat)) (v2 : (Int)) (v5 : (List AV)) : List AV := (v5 ++ [AV.int .u8 (Go.Sx.byteI tt (wrapA .i64 (Int.add v2 1)))])
noncomputable def l14_61 (tt : (List Nat)) (v0 : (Nat)) (v2 : (Int)) (v5 : (List AV)) : List AV := (Go.Sx.putL v5 (0 + v0 * 1) [AV.int .u8 (Go.Sx.byteI tt (wrapA .i64 (Int.add v2 1)))])
noncomputable def pt14_0 (tt : List Nat) (v0 : Int) : Go.Sx.Pt := ⟨[(72, [(0, .str (tt)), (5, .nils), (6, .int .i64 (v0))])], [], 0, []⟩
noncomputable def pt14_1 (tt : List Nat) (v0 v1 : Nat) (v2 : Int) (v3 : List AV) : Go.Sx.Pt := ⟨[(72, [(0, .str (tt)), (5, .slc 0 0 (v0) (.upto 1 (v1))), (6, .int .i64 (v2))])], [], 1, [(0, .cells 5 (v3) true)]⟩
noncomputable def pt14_2 (tt : List Nat) (v0 v1 : Int) : Go.Sx.Pt := ⟨[(72, [(0, .str (tt)), (5, .nils), (6, .int .i64 (v0)), (7, .int .i64 (v1)), (8, .int .i64 (.ofNat 0))])], [], 0, []⟩
noncomputable def pt14_3 (tt : List Nat) (v0 v1 : Nat) (v2 v3 v4 : Int) (v5 : List AV) : Go.Sx.Pt := ⟨[(72, [(0, .str (tt)), (5, .slc 0 0 (v0) (.upto 1 (v1))), (6, .int .i64 (v2)), (7, .int .i64 (v3)), (8, .int .i64 (v4))])], [], 1, [(0, .cells 5 (v5) true)]⟩
mutual
noncomputable def L14_0 (tt : List Nat) : Nat → Int → Option (List Nat × Int × Int)
  | 0, _ => none
  | n + 1, v0 => (bif (ltI v0 (↑(List.length tt) : Int)) then (bif (inB v0 (List.length tt)) then (bif (eqI (wrapA .i64 (Go.Sx.byteI tt v0)) 128) then (some ([], (wrapA .i64 (Int.add v0 1)), 0)) else (bif (ltI (wrapA .i64 (Go.Sx.byteI tt v0)) 128) then (bif (c14_48 tt v0) then (some ([], 0, 5)) else (bif (!ltI (t14_49 tt v0) 0) then (bif (!ltI (wrapA .i64 (Int.add v0 1)) 0) then (bif (leB (Int.toNat (wrapA .i64 (Int.add v0 1))) (Int.toNat (t14_49 tt v0))) then (bif (leB (Int.toNat (t14_49 tt v0)) (List.length tt)) then (bif (Nat.blt 0 (List.length (u14_50 tt v0))) then (bif (Nat.ble (List.length (u14_50 tt v0)) 10000000) then (bif (Go.Sx.pureAVs (l14_51 tt v0)) then (L14_1 tt n (List.length (u14_50 tt v0)) (List.length (u14_50 tt v0)) (t14_49 tt v0) (l14_51 tt v0)) else none) else none) else (bif (Nat.beq (List.length (u14_50 tt v0)) 0) then (L14_0 tt n (t14_49 tt v0)) else none)) else none) else none) else none) else none)) else (bif (c14_52 tt v0) then (some ([], 0, 5)) else (L14_2 tt n (v0) (wrapA .i64 (Go.Sx.byteI tt v0)))))) else none) else (some ([], 0, 5)))
termination_by structural n => n
noncomputable def L14_1 (tt : List Nat) : Nat → Nat → Nat → Int → (List AV) → Option (List Nat × Int × Int)
  | 0, _, _, _, _ => none
  | n + 1, v0, v1, v2, v3 => (bif (ltI v2 (↑(List.length tt) : Int)) then (bif (inB v2 (List.length tt)) then (bif (eqI (wrapA .i64 (Go.Sx.byteI tt v2)) 128) then (bif (ltI 65536 (↑v0 : Int)) then (some ([], 0, 3)) else (bif (Go.Sx.strOk v3 0 v0) then (some ((Go.Sx.strOf v3 0 v0), (wrapA .i64 (Int.add v2 1)), 0)) else none)) else (bif (ltI (wrapA .i64 (Go.Sx.byteI tt v2)) 128) then (bif (c14_53 tt v2) then (some ([], 0, 5)) else (bif (!ltI (t14_54 tt v2) 0) then (bif (!ltI (wrapA .i64 (Int.add v2 1)) 0) then (bif (leB (Int.toNat (wrapA .i64 (Int.add v2 1))) (Int.toNat (t14_54 tt v2))) then (bif (leB (Int.toNat (t14_54 tt v2)) (List.length tt)) then (bif (Nat.blt v1 (v0 + List.length (u14_55 tt v2))) then (bif (Nat.ble (List.length (u14_55 tt v2)) 10000000) then (bif (Nat.blt 0 (List.length (u14_55 tt v2))) then (bif (Nat.ble v0 10000000) then (bif (Nat.beq (List.length v3) (0 + v0 * 1)) then (bif (Go.Sx.pureAVs (l14_56 tt v2 v3)) then (L14_1 tt n (v0 + List.length (u14_55 tt v2)) (v0 + List.length (u14_55 tt v2)) (t14_54 tt v2) (l14_56 tt v2 v3)) else none) else none) else none) else none) else none) else (bif (Nat.blt 0 (List.length (u14_55 tt v2))) then (bif (Nat.ble (List.length (u14_55 tt v2)) 10000000) then (bif (Nat.ble (v0 + List.length (u14_55 tt v2)) v1) then (bif (Nat.ble v0 10000000) then (bif (Go.Sx.putOk v3 (0 + v0 * 1) (List.length (List.map (fun b => AV.int .u8 ((b % 256 : Nat) : Int)) (List.take (List.length (u14_55 tt v2)) (u14_55 tt v2))))) then (bif (Go.Sx.pureAVs (l14_57 tt v0 v2 v3)) then (L14_1 tt n (v0 + List.length (u14_55 tt v2)) (v1) (t14_54 tt v2) (l14_57 tt v0 v2 v3)) else none) else none) else none) else none) else none) else (bif (Nat.beq (List.length (u14_55 tt v2)) 0) then (bif (Go.Sx.pureAVs v3) then (L14_1 tt n (v0) (v1) (t14_54 tt v2) (v3)) else none) else none))) else none) else none) else none) else none)) else (bif (c14_58 tt v2) then (some ([], 0, 5)) else (bif (Go.Sx.pureAVs v3) then (L14_3 tt n (v0) (v1) (v2) (wrapA .i64 (Go.Sx.byteI tt v2)) 0 (v3)) else none)))) else none) else (some ([], 0, 5)))
termination_by structural n => n
noncomputable def L14_2 (tt : List Nat) : Nat → Int → Int → Option (List Nat × Int × Int)
  | 0, _, _ => none
  | n + 1, v0, v1 => (bif (ltI (0) (wrapA .i64 (Int.sub 257 v1))) then (bif (inB (wrapA .i64 (Int.add v0 1)) (List.length tt)) then (L14_3 tt n 1 1 (v0) (v1) 1 (l14_59 tt v0)) else none) else (L14_0 tt n (wrapA .i64 (Int.add v0 2))))
termination_by structural n => n
noncomputable def L14_3 (tt : List Nat) : Nat → Nat → Nat → Int → Int → Int → (List AV) → Option (List Nat × Int × Int)
  | 0, _, _, _, _, _, _ => none
  | n + 1, v0, v1, v2, v3, v4, v5 => (bif (ltI v4 (wrapA .i64 (Int.sub 257 v3))) then (bif (inB (wrapA .i64 (Int.add v2 1)) (List.length tt)) then (bif (Nat.blt v1 (v0 + 1)) then (bif (Nat.ble v0 10000000) then (bif (Nat.beq (List.length v5) (0 + v0 * 1)) then (bif (Go.Sx.pureAVs (l14_60 tt v2 v5)) then (L14_3 tt n (v0 + 1) (v0 + 1) (v2) (v3) (wrapA .i64 (Int.add v4 1)) (l14_60 tt v2 v5)) else none) else none) else none) else (bif (Nat.ble (v0 + 1) v1) then (bif (Nat.ble v0 10000000) then (bif (Go.Sx.putOk v5 (0 + v0 * 1) (List.length (List.take 1 (List.drop 0 [AV.int .u8 (Go.Sx.byteI tt (wrapA .i64 (Int.add v2 1)))])))) then (bif (Go.Sx.pureAVs (l14_61 tt v0 v2 v5)) then (L14_3 tt n (v0 + 1) (v1) (v2) (v3) (wrapA .i64 (Int.add v4 1)) (l14_61 tt v0 v2 v5)) else none) else none) else none) else none)) else none) else (bif (Go.Sx.pureAVs v5) then (L14_1 tt n (v0) (v1) (wrapA .i64 (Int.add v2 2)) (v5)) else none))
termination_by structural n => n
end
theorem L14_0_succ (tt : List Nat) (n : Nat) (v0 : Int) : L14_0 tt (n + 1) v0 = (bif (ltI v0 (↑(List.length tt) : Int)) then (bif (inB v0 (List.length tt)) then (bif (eqI (wrapA .i64 (Go.Sx.byteI tt v0)) 128) then (some ([], (wrapA .i64 (Int.add v0 1)), 0)) else (bif (ltI (wrapA .i64 (Go.Sx.byteI tt v0)) 128) then (bif (c14_48 tt v0) then (some ([], 0, 5)) else (bif (!ltI (t14_49 tt v0) 0) then (bif (!ltI (wrapA .i64 (Int.add v0 1)) 0) then (bif (leB (Int.toNat (wrapA .i64 (Int.add v0 1))) (Int.toNat (t14_49 tt v0))) then (bif (leB (Int.toNat (t14_49 tt v0)) (List.length tt)) then (bif (Nat.blt 0 (List.length (u14_50 tt v0))) then (bif (Nat.ble (List.length (u14_50 tt v0)) 10000000) then (bif (Go.Sx.pureAVs (l14_51 tt v0)) then (L14_1 tt n (List.length (u14_50 tt v0)) (List.length (u14_50 tt v0)) (t14_49 tt v0) (l14_51 tt v0)) else none) else none) else (bif (Nat.beq (List.length (u14_50 tt v0)) 0) then (L14_0 tt n (t14_49 tt v0)) else none)) else none) else none) else none) else none)) else (bif (c14_52 tt v0) then (some ([], 0, 5)) else (L14_2 tt n (v0) (wrapA .i64 (Go.Sx.byteI tt v0)))))) else none) else (some ([], 0, 5))) := rfl
theorem L14_1_succ (tt : List Nat) (n v0 v1 : Nat) (v2 : Int) (v3 : List AV) : L14_1 tt (n + 1) v0 v1 v2 v3 = (bif (ltI v2 (↑(List.length tt) : Int)) then (bif (inB v2 (List.length tt)) then (bif (eqI (wrapA .i64 (Go.Sx.byteI tt v2)) 128) then (bif (ltI 65536 (↑v0 : Int)) then (some ([], 0, 3)) else (bif (Go.Sx.strOk v3 0 v0) then (some ((Go.Sx.strOf v3 0 v0), (wrapA .i64 (Int.add v2 1)), 0)) else none)) else (bif (ltI (wrapA .i64 (Go.Sx.byteI tt v2)) 128) then (bif (c14_53 tt v2) then (some ([], 0, 5)) else (bif (!ltI (t14_54 tt v2) 0) then (bif (!ltI (wrapA .i64 (Int.add v2 1)) 0) then (bif (leB (Int.toNat (wrapA .i64 (Int.add v2 1))) (Int.toNat (t14_54 tt v2))) then (bif (leB (Int.toNat (t14_54 tt v2)) (List.length tt)) then (bif (Nat.blt v1 (v0 + List.length (u14_55 tt v2))) then (bif (Nat.ble (List.length (u14_55 tt v2)) 10000000) then (bif (Nat.blt 0 (List.length (u14_55 tt v2))) then (bif (Nat.ble v0 10000000) then (bif (Nat.beq (List.length v3) (0 + v0 * 1)) then (bif (Go.Sx.pureAVs (l14_56 tt v2 v3)) then (L14_1 tt n (v0 + List.length (u14_55 tt v2)) (v0 + List.length (u14_55 tt v2)) (t14_54 tt v2) (l14_56 tt v2 v3)) else none) else none) else none) else none) else none) else (bif (Nat.blt 0 (List.length (u14_55 tt v2))) then (bif (Nat.ble (List.length (u14_55 tt v2)) 10000000) then (bif (Nat.ble (v0 + List.length (u14_55 tt v2)) v1) then (bif (Nat.ble v0 10000000) then (bif (Go.Sx.putOk v3 (0 + v0 * 1) (List.length (List.map (fun b => AV.int .u8 ((b % 256 : Nat) : Int)) (List.take (List.length (u14_55 tt v2)) (u14_55 tt v2))))) then (bif (Go.Sx.pureAVs (l14_57 tt v0 v2 v3)) then (L14_1 tt n (v0 + List.length (u14_55 tt v2)) (v1) (t14_54 tt v2) (l14_57 tt v0 v2 v3)) else none) else none) else none) else none) else none) else (bif (Nat.beq (List.length (u14_55 tt v2)) 0) then (bif (Go.Sx.pureAVs v3) then (L14_1 tt n (v0) (v1) (t14_54 tt v2) (v3)) else none) else none))) else none) else none) else none) else none)) else (bif (c14_58 tt v2) then (some ([], 0, 5)) else (bif (Go.Sx.pureAVs v3) then (L14_3 tt n (v0) (v1) (v2) (wrapA .i64 (Go.Sx.byteI tt v2)) 0 (v3)) else none)))) else none) else (some ([], 0, 5))) := rfl
theorem L14_2_succ (tt : List Nat) (n : Nat) (v0 v1 : Int) : L14_2 tt (n + 1) v0 v1 = (bif (ltI (0) (wrapA .i64 (Int.sub 257 v1))) then (bif (inB (wrapA .i64 (Int.add v0 1)) (List.length tt)) then (L14_3 tt n 1 1 (v0) (v1) 1 (l14_59 tt v0)) else none) else (L14_0 tt n (wrapA .i64 (Int.add v0 2)))) := rfl
theorem L14_3_succ (tt : List Nat) (n v0 v1 : Nat) (v2 v3 v4 : Int) (v5 : List AV) : L14_3 tt (n + 1) v0 v1 v2 v3 v4 v5 = (bif (ltI v4 (wrapA .i64 (Int.sub 257 v3))) then (bif (inB (wrapA .i64 (Int.add v2 1)) (List.length tt)) then (bif (Nat.blt v1 (v0 + 1)) then (bif (Nat.ble v0 10000000) then (bif (Nat.beq (List.length v5) (0 + v0 * 1)) then (bif (Go.Sx.pureAVs (l14_60 tt v2 v5)) then (L14_3 tt n (v0 + 1) (v0 + 1) (v2) (v3) (wrapA .i64 (Int.add v4 1)) (l14_60 tt v2 v5)) else none) else none) else none) else (bif (Nat.ble (v0 + 1) v1) then (bif (Nat.ble v0 10000000) then (bif (Go.Sx.putOk v5 (0 + v0 * 1) (List.length (List.take 1 (List.drop 0 [AV.int .u8 (Go.Sx.byteI tt (wrapA .i64 (Int.add v2 1)))])))) then (bif (Go.Sx.pureAVs (l14_61 tt v0 v2 v5)) then (L14_3 tt n (v0 + 1) (v1) (v2) (v3) (wrapA .i64 (Int.add v4 1)) (l14_61 tt v0 v2 v5)) else none) else none) else none) else none)) else none) else (bif (Go.Sx.pureAVs v5) then (L14_1 tt n (v0) (v1) (wrapA .i64 (Int.add v2 2)) (v5)) else none)) := rfl
set_option maxHeartbeats 4000000 in
theorem form14_0 (n : Nat) (tt : List Nat) (v0 : Int) (vz : AV) : Go.Sx.wpS Try.prog Try.f14 [] vz (.st [0, 0, 0, 0, 2, 2, 2, 2, 0, 0] (.br 15 (.st [0, 2, 0, 0, 0, 0, 2, 2] (.sp 2 (.st [2, 2, 0, 0, 0, 0, 0, 2, 2, 0, 0] (.br 21 (.st [0, 0, 0, 0, 2, 2, 2, 0, 0, 0, 2, 0, 0, 0, 2, 2, 2, 2, 2, 2, 2, 0, 0, 2, 0, 0, 0, 0, 0] .ans) (.st [0, 2, 0, 0, 0, 0, 2, 2, 0, 0] (.br 30 (.st [0, 0, 0, 0, 2, 2, 2, 2, 2, 2, 2, 0, 0] (.br 37 (.st [0, 0, 0, 2, 2, 2, 0, 0, 2, 0, 0, 0, 0, 0, 0] .ans) (.st [0, 2, 0, 0, 0, 2, 2, 2, 2, 2, 2, 2, 2] (.sp 2 (.split (Nat.blt 0 (List.length (u14_50 tt v0))) (.sp 2 (.st [2, 0, 0, 0, 0, 2, 2, 2, 2, 2, 0, 0, 2, 0, 0, 0] (.stop ⟨[[0, 5, 6]], [], [0]⟩ [(0, 0)] 1 [0]))) (.sp 0 (.st [2, 0, 0, 0, 0, 2, 2, 2, 2, 2, 0, 0, 2, 0, 0, 0] (.stop ⟨[[0, 5, 6]], [], []⟩ [] 0 [])))))))) (.st [0, 2, 0, 0, 0, 0, 2, 2, 2, 2, 2, 0, 0] (.br 56 (.st [0, 0, 0, 2, 2, 2, 0, 0, 2, 0, 0, 0, 0, 0] .ans) (.st [0, 2, 0, 0, 0, 0, 2, 0, 0, 0, 0] (.stop ⟨[[0, 5, 6, 7, 8]], [], []⟩ [] 0 [])))))))))) (.st [0, 2, 0, 0, 0, 0, 0, 0, 2, 2, 2, 0, 0, 2] .ans))) (Go.Sx.mkK sk14_0.1 (pt14_0 tt v0).frs.tail) (Go.Sx.mkC [] (pt14_0 tt v0) sk14_0.1 sk14_0.2) = (BR (ltI v0 (↑(List.length tt) : Int)) (AN (inB v0 (List.length tt)) (BR (eqI (wrapA .i64 (Go.Sx.byteI tt v0)) 128) (vz = .tup [.str [], .int .i64 (wrapA .i64 (Int.add v0 1)), .int .i64 (.ofNat 0)]) (BR (ltI (wrapA .i64 (Go.Sx.byteI tt v0)) 128) (BR (c14_48 tt v0) (vz = .tup [.str [], .int .i64 (.ofNat 0), .int .i64 (.ofNat 5)]) (AN (andB (andB (!ltI (t14_49 tt v0) 0) !ltI (wrapA .i64 (Int.add v0 1)) 0) (andB (leB (Int.toNat (wrapA .i64 (Int.add v0 1))) (Int.toNat (t14_49 tt v0))) (leB (Int.toNat (t14_49 tt v0)) (List.length tt)))) (BR (Nat.blt 0 (List.length (u14_50 tt v0))) (AN (andB (andB (Nat.ble (List.length (u14_50 tt v0)) 10000000) Bool.true) (Nat.blt 0 (List.length (u14_50 tt v0)))) (AN (Go.Sx.pureAVs (l14_51 tt v0)) (Go.Sx.RunAt Try.prog Try.f14 [] vz sk14_0 (pt14_1 tt (List.length (u14_50 tt v0)) (List.length (u14_50 tt v0)) (t14_49 tt v0) (l14_51 tt v0))))) (AN (andB (Nat.beq (List.length (u14_50 tt v0)) 0) Bool.true) (Go.Sx.RunAt Try.prog Try.f14 [] vz sk14_0 (pt14_0 tt (t14_49 tt v0))))))) (BR (c14_52 tt v0) (vz = .tup [.str [], .int .i64 (.ofNat 0), .int .i64 (.ofNat 5)]) (Go.Sx.RunAt Try.prog Try.f14 [] vz sk14_1 (pt14_2 tt (v0) (wrapA .i64 (Go.Sx.byteI tt v0)))))))) (vz = .tup [.str [], .int .i64 (.ofNat 0), .int .i64 (.ofNat 5)])) := by kernel_rfl
set_option maxHeartbeats 4000000 in
theorem form14_1 (n : Nat) (tt : List Nat) (v0 v1 : Nat) (v2 : Int) (v3 : List AV) (vz : AV) : Go.Sx.wpS Try.prog Try.f14 [] vz (.st [0, 0, 0, 0, 2, 2, 2, 2, 0, 0] (.br 15 (.st [0, 2, 0, 0, 0, 0, 2, 2] (.sp 2 (.st [2, 2, 0, 0, 0, 0, 0, 2, 2, 0, 0] (.br 21 (.st [0, 0, 0, 0, 2, 2, 2, 0, 0] (.br 24 (.st [0, 0, 0, 2, 2, 2, 0, 0, 2, 0, 0, 0, 0, 0, 0] .ans) (.st [0, 2, 0, 0, 0, 2] (.sp 2 (.st [2, 2, 2, 2, 2, 0, 0, 2, 0, 0, 0, 0, 0] .ans))))) (.st [0, 2, 0, 0, 0, 0, 2, 2, 0, 0] (.br 30 (.st [0, 0, 0, 0, 2, 2, 2, 2, 2, 2, 2, 0, 0] (.br 37 (.st [0, 0, 0, 2, 2, 2, 0, 0, 2, 0, 0, 0, 0, 0, 0] .ans) (.st [0, 2, 0, 0, 0, 2, 2, 2, 2, 2, 2, 2, 2] (.sp 2 (.split (Nat.blt v1 (v0 + List.length (u14_55 tt v2))) (.sp 2 (.st [2, 0, 0, 0, 0, 2, 2, 2, 2, 2, 0, 0, 2, 0, 0, 0] (.stop ⟨[[0, 5, 6]], [], [1]⟩ [(1, 0)] 1 [1]))) (.split (Nat.blt 0 (List.length (u14_55 tt v2))) (.sp 1 (.st [2, 0, 0, 0, 0, 2, 2, 2, 2, 2, 0, 0, 2, 0, 0, 0] (.stop ⟨[[0, 5, 6]], [], [0]⟩ [(0, 0)] 1 [0]))) (.sp 0 (.st [2, 0, 0, 0, 0, 2, 2, 2, 2, 2, 0, 0, 2, 0, 0, 0] (.stop ⟨[[0, 5, 6]], [], [0]⟩ [(0, 0)] 1 [0]))))))))) (.st [0, 2, 0, 0, 0, 0, 2, 2, 2, 2, 2, 0, 0] (.br 56 (.st [0, 0, 0, 2, 2, 2, 0, 0, 2, 0, 0, 0, 0, 0] .ans) (.st [0, 2, 0, 0, 0, 0, 2, 0, 0, 0, 0] (.stop ⟨[[0, 5, 6, 7, 8]], [], [0]⟩ [(0, 0)] 1 [0])))))))))) (.st [0, 2, 0, 0, 0, 0, 0, 0, 2, 2, 2, 0, 0, 2] .ans))) (Go.Sx.mkK sk14_0.1 (pt14_1 tt v0 v1 v2 v3).frs.tail) (Go.Sx.mkC [] (pt14_1 tt v0 v1 v2 v3) sk14_0.1 sk14_0.2) = (BR (ltI v2 (↑(List.length tt) : Int)) (AN (inB v2 (List.length tt)) (BR (eqI (wrapA .i64 (Go.Sx.byteI tt v2)) 128) (BR (ltI 65536 (↑v0 : Int)) (vz = .tup [.str [], .int .i64 (.ofNat 0), .int .i64 (.ofNat 3)]) (AN (Go.Sx.strOk v3 0 v0) (vz = .tup [.str (Go.Sx.strOf v3 0 v0), .int .i64 (wrapA .i64 (Int.add v2 1)), .int .i64 (.ofNat 0)]))) (BR (ltI (wrapA .i64 (Go.Sx.byteI tt v2)) 128) (BR (c14_53 tt v2) (vz = .tup [.str [], .int .i64 (.ofNat 0), .int .i64 (.ofNat 5)]) (AN (andB (andB (!ltI (t14_54 tt v2) 0) !ltI (wrapA .i64 (Int.add v2 1)) 0) (andB (leB (Int.toNat (wrapA .i64 (Int.add v2 1))) (Int.toNat (t14_54 tt v2))) (leB (Int.toNat (t14_54 tt v2)) (List.length tt)))) (BR (Nat.blt v1 (v0 + List.length (u14_55 tt v2))) (AN (andB (andB (Nat.ble (List.length (u14_55 tt v2)) 10000000) Bool.true) (andB (Nat.blt v1 (v0 + List.length (u14_55 tt v2))) (andB (Nat.blt 0 (List.length (u14_55 tt v2))) (andB (Nat.ble v0 10000000) (Nat.beq (List.length v3) (0 + v0 * 1)))))) (AN (Go.Sx.pureAVs (l14_56 tt v2 v3)) (Go.Sx.RunAt Try.prog Try.f14 [] vz sk14_0 (pt14_1 tt (v0 + List.length (u14_55 tt v2)) (v0 + List.length (u14_55 tt v2)) (t14_54 tt v2) (l14_56 tt v2 v3))))) (BR (Nat.blt 0 (List.length (u14_55 tt v2))) (AN (andB (andB (Nat.ble (List.length (u14_55 tt v2)) 10000000) Bool.true) (andB (Nat.ble (v0 + List.length (u14_55 tt v2)) v1) (andB (Nat.blt 0 (List.length (u14_55 tt v2))) (andB (Nat.ble v0 10000000) (Go.Sx.putOk v3 (0 + v0 * 1) (List.length (List.map (fun b => AV.int .u8 ((b % 256 : Nat) : Int)) (List.take (List.length (u14_55 tt v2)) (u14_55 tt v2))))))))) (AN (Go.Sx.pureAVs (l14_57 tt v0 v2 v3)) (Go.Sx.RunAt Try.prog Try.f14 [] vz sk14_0 (pt14_1 tt (v0 + List.length (u14_55 tt v2)) (v1) (t14_54 tt v2) (l14_57 tt v0 v2 v3))))) (AN (andB (Nat.beq (List.length (u14_55 tt v2)) 0) Bool.true) (AN (Go.Sx.pureAVs v3) (Go.Sx.RunAt Try.prog Try.f14 [] vz sk14_0 (pt14_1 tt (v0) (v1) (t14_54 tt v2) (v3))))))))) (BR (c14_58 tt v2) (vz = .tup [.str [], .int .i64 (.ofNat 0), .int .i64 (.ofNat 5)]) (AN (Go.Sx.pureAVs v3) (Go.Sx.RunAt Try.prog Try.f14 [] vz sk14_1 (pt14_3 tt (v0) (v1) (v2) (wrapA .i64 (Go.Sx.byteI tt v2)) 0 (v3)))))))) (vz = .tup [.str [], .int .i64 (.ofNat 0), .int .i64 (.ofNat 5)])) := by kernel_rfl
set_option maxHeartbeats 4000000 in
theorem form14_2 (n : Nat) (tt : List Nat) (v0 v1 : Int) (vz : AV) : Go.Sx.wpS Try.prog Try.f14 [] vz (.st [0, 0, 0, 0, 2, 2, 2, 2, 0, 0] (.br 60 (.st [0, 2, 0, 0, 0, 0, 2, 2, 2, 2] (.sp 2 (.st [2, 2, 2, 0, 0, 0, 0, 2, 2, 2, 0, 0] (.stop ⟨[[0, 5, 6, 7, 8]], [], [1]⟩ [(1, 0)] 1 [1])))) (.st [0, 2, 0, 0, 0, 0, 0, 2, 2, 2, 0, 0, 0] (.stop ⟨[[0, 5, 6]], [], []⟩ [] 0 [])))) (Go.Sx.mkK sk14_1.1 (pt14_2 tt v0 v1).frs.tail) (Go.Sx.mkC [] (pt14_2 tt v0 v1) sk14_1.1 sk14_1.2) = (BR (ltI (0) (wrapA .i64 (Int.sub 257 v1))) (AN (inB (wrapA .i64 (Int.add v0 1)) (List.length tt)) (AN (Go.Sx.pureAVs (l14_59 tt v0)) (Go.Sx.RunAt Try.prog Try.f14 [] vz sk14_1 (pt14_3 tt 1 1 (v0) (v1) 1 (l14_59 tt v0))))) (Go.Sx.RunAt Try.prog Try.f14 [] vz sk14_0 (pt14_0 tt (wrapA .i64 (Int.add v0 2))))) := by kernel_rfl
set_option maxHeartbeats 4000000 in
theorem form14_3 (n : Nat) (tt : List Nat) (v0 v1 : Nat) (v2 v3 v4 : Int) (v5 : List AV) (vz : AV) : Go.Sx.wpS Try.prog Try.f14 [] vz (.st [0, 0, 0, 0, 2, 2, 2, 2, 0, 0] (.br 60 (.st [0, 2, 0, 0, 0, 0, 2, 2, 2, 2] (.sp 2 (.st [2] (.split (Nat.blt v1 (v0 + 1)) (.sp 2 (.st [2, 0, 0, 0, 0, 2, 2, 2, 0, 0] (.stop ⟨[[0, 5, 6, 7, 8]], [], [2]⟩ [(2, 0)] 1 [2]))) (.sp 1 (.st [2, 0, 0, 0, 0, 2, 2, 2, 0, 0] (.stop ⟨[[0, 5, 6, 7, 8]], [], [0]⟩ [(0, 0)] 1 [0]))))))) (.st [0, 2, 0, 0, 0, 0, 0, 2, 2, 2, 0, 0, 0] (.stop ⟨[[0, 5, 6]], [], [0]⟩ [(0, 0)] 1 [0])))) (Go.Sx.mkK sk14_1.1 (pt14_3 tt v0 v1 v2 v3 v4 v5).frs.tail) (Go.Sx.mkC [] (pt14_3 tt v0 v1 v2 v3 v4 v5) sk14_1.1 sk14_1.2) = (BR (ltI v4 (wrapA .i64 (Int.sub 257 v3))) (AN (inB (wrapA .i64 (Int.add v2 1)) (List.length tt)) (BR (Nat.blt v1 (v0 + 1)) (AN (andB (Nat.blt v1 (v0 + 1)) (andB (Nat.ble v0 10000000) (Nat.beq (List.length v5) (0 + v0 * 1)))) (AN (Go.Sx.pureAVs (l14_60 tt v2 v5)) (Go.Sx.RunAt Try.prog Try.f14 [] vz sk14_1 (pt14_3 tt (v0 + 1) (v0 + 1) (v2) (v3) (wrapA .i64 (Int.add v4 1)) (l14_60 tt v2 v5))))) (AN (andB (Nat.ble (v0 + 1) v1) (andB (Nat.ble v0 10000000) (Go.Sx.putOk v5 (0 + v0 * 1) (List.length (List.take 1 (List.drop 0 [AV.int .u8 (Go.Sx.byteI tt (wrapA .i64 (Int.add v2 1)))])))))) (AN (Go.Sx.pureAVs (l14_61 tt v0 v2 v5)) (Go.Sx.RunAt Try.prog Try.f14 [] vz sk14_1 (pt14_3 tt (v0 + 1) (v1) (v2) (v3) (wrapA .i64 (Int.add v4 1)) (l14_61 tt v0 v2 v5))))))) (AN (Go.Sx.pureAVs v5) (Go.Sx.RunAt Try.prog Try.f14 [] vz sk14_0 (pt14_1 tt (v0) (v1) (wrapA .i64 (Int.add v2 2)) (v5))))) := by kernel_rfl
set_option maxHeartbeats 4000000 in
theorem runs14 (tt : List Nat)  : ∀ (n : Nat), (∀ (v0 : Int) (r : List Nat × Int × Int), L14_0 tt n v0 = some r → Go.Sx.RunAt Try.prog Try.f14 [] (.tup [.str r.1, .int .i64 r.2.1, .int .i64 r.2.2]) sk14_0 (pt14_0 tt v0)) ∧ (∀ (v0 v1 : Nat) (v2 : Int) (v3 : List AV) (r : List Nat × Int × Int), L14_1 tt n v0 v1 v2 v3 = some r → Go.Sx.RunAt Try.prog Try.f14 [] (.tup [.str r.1, .int .i64 r.2.1, .int .i64 r.2.2]) sk14_0 (pt14_1 tt v0 v1 v2 v3)) ∧ (∀ (v0 v1 : Int) (r : List Nat × Int × Int), L14_2 tt n v0 v1 = some r → Go.Sx.RunAt Try.prog Try.f14 [] (.tup [.str r.1, .int .i64 r.2.1, .int .i64 r.2.2]) sk14_1 (pt14_2 tt v0 v1)) ∧ (∀ (v0 v1 : Nat) (v2 v3 v4 : Int) (v5 : List AV) (r : List Nat × Int × Int), L14_3 tt n v0 v1 v2 v3 v4 v5 = some r → Go.Sx.RunAt Try.prog Try.f14 [] (.tup [.str r.1, .int .i64 r.2.1, .int .i64 r.2.2]) sk14_1 (pt14_3 tt v0 v1 v2 v3 v4 v5)) := by
  intro n
  induction n with
  | zero => exact ⟨(fun _ r h => by cases h), (fun _ _ _ _ r h => by cases h), (fun _ _ r h => by cases h), (fun _ _ _ _ _ _ r h => by cases h)⟩
  | succ n ih =>
    obtain ⟨ih0, ih1, ih2, ih3⟩ := ih
    exact ⟨(fun v0 r h => Go.Sx.wpS_run (L := []) (by kernel_rfl) (form14_0 n tt v0 (.tup [.str r.1, .int .i64 r.2.1, .int .i64 r.2.2])) ((br_of (fun h1 => (guard_of fun h2 => (fun h => ⟨h2, (br_of (fun h3 => (fun h => by cases h; rfl)) (fun h3 => (br_of (fun h4 => (br_of (fun h5 => (fun h => by cases h; rfl)) (fun h5 => (guard_of fun h6 => (guard_of fun h7 => (guard_of fun h8 => (guard_of fun h9 => (fun h => ⟨(and_t (and_t h6 h7) (and_t h8 h9)), (br_of (fun h10 => (guard_of fun h11 => (fun h => ⟨(and_t (and_t h11 rfl) h10), (guard_of fun h12 => (fun h => ⟨h12, (fun h => ih1 (List.length (u14_50 tt v0)) (List.length (u14_50 tt v0)) (t14_49 tt v0) (l14_51 tt v0) r h) h⟩)) h⟩))) (fun h10 => (guard_of fun h13 => (fun h => ⟨(and_t h13 rfl), (fun h => ih0 (t14_49 tt v0) r h) h⟩)))) h⟩)))))))) (fun h4 => (br_of (fun h14 => (fun h => by cases h; rfl)) (fun h14 => (fun h => ih2 (v0) (wrapA .i64 (Go.Sx.byteI tt v0)) r h))))))) h⟩))) (fun h1 => (fun h => by cases h; rfl))) ((L14_0_succ tt n v0).symm.trans h))), (fun v0 v1 v2 v3 r h => Go.Sx.wpS_run (L := []) (by kernel_rfl) (form14_1 n tt v0 v1 v2 v3 (.tup [.str r.1, .int .i64 r.2.1, .int .i64 r.2.2])) ((br_of (fun h15 => (guard_of fun h16 => (fun h => ⟨h16, (br_of (fun h17 => (br_of (fun h18 => (fun h => by cases h; rfl)) (fun h18 => (guard_of fun h19 => (fun h => ⟨h19, (fun h => by cases h; rfl) h⟩))))) (fun h17 => (br_of (fun h20 => (br_of (fun h21 => (fun h => by cases h; rfl)) (fun h21 => (guard_of fun h22 => (guard_of fun h23 => (guard_of fun h24 => (guard_of fun h25 => (fun h => ⟨(and_t (and_t h22 h23) (and_t h24 h25)), (br_of (fun h26 => (guard_of fun h27 => (guard_of fun h28 => (guard_of fun h29 => (guard_of fun h30 => (fun h => ⟨(and_t (and_t h27 rfl) (and_t h26 (and_t h28 (and_t h29 h30)))), (guard_of fun h31 => (fun h => ⟨h31, (fun h => ih1 (v0 + List.length (u14_55 tt v2)) (v0 + List.length (u14_55 tt v2)) (t14_54 tt v2) (l14_56 tt v2 v3) r h) h⟩)) h⟩)))))) (fun h26 => (br_of (fun h32 => (guard_of fun h33 => (guard_of fun h34 => (guard_of fun h35 => (guard_of fun h36 => (fun h => ⟨(and_t (and_t h33 rfl) (and_t h34 (and_t h32 (and_t h35 h36)))), (guard_of fun h37 => (fun h => ⟨h37, (fun h => ih1 (v0 + List.length (u14_55 tt v2)) (v1) (t14_54 tt v2) (l14_57 tt v0 v2 v3) r h) h⟩)) h⟩)))))) (fun h32 => (guard_of fun h38 => (fun h => ⟨(and_t h38 rfl), (guard_of fun h39 => (fun h => ⟨h39, (fun h => ih1 (v0) (v1) (t14_54 tt v2) (v3) r h) h⟩)) h⟩)))))) h⟩)))))))) (fun h20 => (br_of (fun h40 => (fun h => by cases h; rfl)) (fun h40 => (guard_of fun h41 => (fun h => ⟨h41, (fun h => ih3 (v0) (v1) (v2) (wrapA .i64 (Go.Sx.byteI tt v2)) 0 (v3) r h) h⟩)))))))) h⟩))) (fun h15 => (fun h => by cases h; rfl))) ((L14_1_succ tt n v0 v1 v2 v3).symm.trans h))), (fun v0 v1 r h => Go.Sx.wpS_run (L := []) (by kernel_rfl) (form14_2 n tt v0 v1 (.tup [.str r.1, .int .i64 r.2.1, .int .i64 r.2.2])) ((br_of (fun h42 => (guard_of fun h43 => (fun h => ⟨h43, (fun h => ⟨rfl, (fun h => ih3 1 1 (v0) (v1) 1 (l14_59 tt v0) r h) h⟩) h⟩))) (fun h42 => (fun h => ih0 (wrapA .i64 (Int.add v0 2)) r h))) ((L14_2_succ tt n v0 v1).symm.trans h))), (fun v0 v1 v2 v3 v4 v5 r h => Go.Sx.wpS_run (L := []) (by kernel_rfl) (form14_3 n tt v0 v1 v2 v3 v4 v5 (.tup [.str r.1, .int .i64 r.2.1, .int .i64 r.2.2])) ((br_of (fun h44 => (guard_of fun h45 => (fun h => ⟨h45, (br_of (fun h46 => (guard_of fun h47 => (guard_of fun h48 => (fun h => ⟨(and_t h46 (and_t h47 h48)), (guard_of fun h49 => (fun h => ⟨h49, (fun h => ih3 (v0 + 1) (v0 + 1) (v2) (v3) (wrapA .i64 (Int.add v4 1)) (l14_60 tt v2 v5) r h) h⟩)) h⟩)))) (fun h46 => (guard_of fun h50 => (guard_of fun h51 => (guard_of fun h52 => (fun h => ⟨(and_t h50 (and_t h51 h52)), (guard_of fun h53 => (fun h => ⟨h53, (fun h => ih3 (v0 + 1) (v1) (v2) (v3) (wrapA .i64 (Int.add v4 1)) (l14_61 tt v0 v2 v5) r h) h⟩)) h⟩)))))) h⟩))) (fun h44 => (guard_of fun h54 => (fun h => ⟨h54, (fun h => ih1 (v0) (v1) (wrapA .i64 (Int.add v2 2)) (v5) r h) h⟩)))) ((L14_3_succ tt n v0 v1 v2 v3 v4 v5).symm.trans h)))⟩
noncomputable def F14 (n : Nat) (tt : List Nat) : Option (List Nat × Int × Int) := (bif (ltI 65536 (↑(List.length tt) : Int)) then (some ([], 0, 3)) else (L14_0 tt n 0))
set_option maxHeartbeats 4000000 in
theorem form14 (n : Nat) (tt : List Nat) (vz : AV) : Go.Sx.wpS Try.prog Try.f14 [] vz (.st [0, 0, 2, 2, 2, 0, 0, 0, 0, 0, 2, 2, 2, 0, 0] (.br 11 (.st [0, 0, 0, 2, 2, 2, 0, 0, 2, 0] .ans) (.st [0, 2, 0, 0, 0, 2, 0, 0, 0, 0, 0, 2, 0, 0, 0, 0] (.stop ⟨[[0, 5, 6]], [], []⟩ [] 0 [])))) [] (.code body14 (Go.Sx.startA [.str tt] Try.f14) (Go.Sx.laidHeap [])) = (BR (ltI 65536 (↑(List.length tt) : Int)) (vz = .tup [.str [], .int .i64 (.ofNat 0), .int .i64 (.ofNat 3)]) (Go.Sx.RunAt Try.prog Try.f14 [] vz sk14_0 (pt14_0 tt 0))) := by kernel_rfl
set_option maxHeartbeats 4000000 in
theorem run14 (n : Nat) (tt : List Nat)  (r : List Nat × Int × Int) (h : F14 n tt = some r) : Go.Sx.Run Try.prog Try.f14 [] (.tup [.str r.1, .int .i64 r.2.1, .int .i64 r.2.2]) [] (.code body14 (Go.Sx.startA [.str tt] Try.f14) (Go.Sx.laidHeap [])) := by
  obtain ⟨ih0, ih1, ih2, ih3⟩ := runs14 tt  n
  exact Go.Sx.wpS_run (L := []) (by kernel_rfl) (form14 n tt (.tup [.str r.1, .int .i64 r.2.1, .int .i64 r.2.2])) ((br_of (fun h0 => (fun h => by cases h; rfl)) (fun h0 => (fun h => ih0 0 r h))) h)
noncomputable def F14_0 (n : Nat) (tt : List Nat) : List Nat := ((F14 n tt).getD default).1
noncomputable def F14_1 (n : Nat) (tt : List Nat) : Int := ((F14 n tt).getD default).2.1
noncomputable def F14_2 (n : Nat) (tt : List Nat) : Int := ((F14 n tt).getD default).2.2
theorem fact14 (n : Nat) (tt : List Nat)  (h : (F14 n tt).isSome = true) : Fact Try.prog [] 14 [.str tt] (.tup [.str (F14_0 n tt), .int .i64 (F14_1 n tt), .int .i64 (F14_2 n tt)]) := Go.Sx.fact_of_run okayed (by kernel_rfl) (by kernel_rfl) Try.func14 body14_eq (run14 n tt  ((F14 n tt).getD default) (Go.Sx.getD_some h))
noncomputable def body13 : Go.Code := (Try.f13.body).getD .skip
theorem body13_eq : Try.f13.body = some body13 := Go.Sx.some_getD (by kernel_rfl)
noncomputable def sk13_0 : List Go.Sx.FC × Go.Sx.CC := (Go.Sx.skelAt Try.prog [.fn 13 [.r, .i, .r, .r, .r, .r, .l, .r, .i, .rg 3 false], .fn 32 [.r, .i, .h]] []).getD ([], .code .skip)
noncomputable def sk13_1 : List Go.Sx.FC × Go.Sx.CC := (Go.Sx.skelAt Try.prog [.fn 13 [.r, .i, .r, .r, .r, .r, .l, .r, .i, .rg 3 false], .fn 32 [.r, .i, .i, .r, .i, .r, .r, .r, .l, .i, .r, .r, .r, .r, .r, .l, .l, .r, .i, .h]] []).getD ([], .code .skip)
noncomputable def c13_84 (tt : (List Nat)) (v0 : (Int)) : Bool := (ltI (wrapA .i64 (Int.add (wrapA .i64 (Int.add v0 1)) (wrapA .i64 (Go.Sx.byteI tt v0)))) (↑(List.length tt) : Int))
noncomputable def t13_85 (tt : (List Nat)) (v0 : (Int)) : Int := (wrapA .i64 (Int.add (wrapA .i64 (Int.add (wrapA .i64 (Int.add v0 1)) (wrapA .i64 (Go.Sx.byteI tt v0)))) 1))
noncomputable def t13_86 (tt : (List Nat)) (v0 : (Int)) : Int := (wrapA .i64 (Int.add (wrapA .i64 (Int.add v0 1)) (wrapA .i64 (Int.add (wrapA .i64 (Go.Sx.byteI tt v0)) 1))))
noncomputable def k13_87 (tt : (List Nat)) (v0 : (Int)) : Nat := (List.length (Go.Sx.subS tt (Int.toNat (wrapA .i64 (Int.add v0 1))) (Int.toNat (t13_85 tt v0))))
noncomputable def c13_88 (tt : (List Nat)) (v0 : (Int)) : Bool := (eqI (↑(List.length (Go.Sx.subS tt (Int.toNat (wrapA .i64 (Int.add v0 1))) (Int.toNat (t13_85 tt v0)))) : Int) 0)
noncomputable def l13_89 (tt : (List Nat)) (v0 : (Int)) : List AV := (List.map (fun b => AV.int .u8 ((b % 256 : Nat) : Int)) (Go.Sx.subS tt (Int.toNat (wrapA .i64 (Int.add v0 1))) (Int.toNat (t13_85 tt v0))))
noncomputable def l13_90 (tt : (List Nat)) (v0 : (Int)) : List AV := (List.take (k13_87 tt v0 * 1) (List.map (fun b => AV.int .u8 ((b % 256 : Nat) : Int)) (Go.Sx.subS tt (Int.toNat (wrapA .i64 (Int.add v0 1))) (Int.toNat (t13_85 tt v0)))))
noncomputable def c13_91 (tt : (List Nat)) (v0 : (Int)) : Bool := (ltI (wrapA .i64 (Int.add v0 1)) (↑(List.length tt) : Int))
noncomputable def c13_92 (tt : (List Nat)) (v0 : (Int)) : Bool := (ltI (wrapA .i64 (Int.add (wrapA .i64 (Int.add v0 1)) (wrapA .i64 (Go.Sx.byteI tt v0)))) (↑(List.length tt) : Int))
noncomputable def t13_93 (tt : (List Nat)) (v0 : (Int)) : Int := (wrapA .i64 (Int.add (wrapA .i64 (Int.add (wrapA .i64 (Int.add v0 1)) (wrapA .i64 (Go.Sx.byteI tt v0)))) 1))
noncomputable def t13_94 (tt : (List Nat)) (v0 : (Int)) : Int := (wrapA .i64 (Int.add (wrapA .i64 (Int.add v0 1)) (wrapA .i64 (Int.add (wrapA .i64 (Go.Sx.byteI tt v0)) 1))))
noncomputable def k13_95 (tt : (List Nat)) (v0 : (Int)) : Nat := (List.length (Go.Sx.subS tt (Int.toNat (wrapA .i64 (Int.add v0 1))) (Int.toNat (t13_93 tt v0))))
noncomputable def c13_96 (tt : (List Nat)) (v0 : (Int)) : Bool := (eqI (↑(List.length (Go.Sx.subS tt (Int.toNat (wrapA .i64 (Int.add v0 1))) (Int.toNat (t13_93 tt v0)))) : Int) 0)
noncomputable def l13_97 (tt : (List Nat)) (v0 : (Int)) : List AV := (List.map (fun b => AV.int .u8 ((b % 256 : Nat) : Int)) (Go.Sx.subS tt (Int.toNat (wrapA .i64 (Int.add v0 1))) (Int.toNat (t13_93 tt v0))))
noncomputable def l13_98 (tt : (List Nat)) (v0 : (Int)) (v3 : (List AV)) : List AV := (v3 ++ List.take (k13_95 tt v0 * 1) (List.map (fun b => AV.int .u8 ((b % 256 : Nat) : Int)) (Go.Sx.subS tt (Int.toNat (wrapA .i64 (Int.add v0 1))) (Int.toNat (t13_93 tt v0)))))
noncomputable def l13_99 (tt : (List Nat)) (v0 : (Int)) (v1 : (Nat)) (v3 : (List AV)) : List AV := (Go.Sx.putL v3 (0 + v1 * 1) (List.take (k13_95 tt v0 * 1) (List.map (fun b => AV.int .u8 ((b % 256 : Nat) : Int)) (Go.Sx.subS tt (Int.toNat (wrapA .i64 (Int.add v0 1))) (Int.toNat (t13_93 tt v0))))))
noncomputable def c13_100 (tt : (List Nat)) (v0 : (Int)) : Bool := (ltI (wrapA .i64 (Int.add v0 1)) (↑(List.length tt) : Int))
noncomputable def l13_101 (tt : (List Nat)) (v0 : (Int)) (v4 : (List AV)) : List AV := (v4 ++ [AV.int .u8 (Go.Sx.byteI tt v0)])
noncomputable def l13_102 (tt : (List Nat)) (v0 : (Int)) (v4 : (List AV)) : List AV := (v4 ++ [AV.int .u8 (Go.Sx.byteI tt v0)])
noncomputable def l13_103 (v1 : (Nat)) (v4 : (List AV)) (v7 : (List AV)) : List AV := (v7 ++ List.take (v1 * 1) v4)
noncomputable def l13_104 (v1 : (Nat)) (v4 : (List AV)) (v5 : (Nat)) (v7 : (List AV)) : List AV := (Go.Sx.putL v7 (0 + v5 * 1) (List.take (v1 * 1) v4))
noncomputable def pt13_0 (tt : List Nat) (v0 : Int) : Go.Sx.Pt := ⟨[(69, [(0, .fn (.yield 3) [] []), (1, .ptr 2 0), (3, .int .i64 (v0))]), (37, [(2, .str []), (3, .int .i64 (.ofNat 0)), (4, .int .i64 (.ofNat 0)), (5, .ptr 0 0), (6, .ptr 1 0)])], [(37, [(5, .ptr 0 0), (6, .ptr 1 0)])], 4, [(2, .cells 9 [.str (tt)] false), (0, .cells 32 [.nils] false), (1, .cells 3 [.int .i64 (.ofNat 0)] false)]⟩
noncomputable def pt13_1 (tt : List Nat) (v0 : Int) (v1 v2 : Nat) (v3 : List AV) : Go.Sx.Pt := ⟨[(69, [(0, .fn (.yield 3) [] []), (1, .ptr 2 0), (3, .int .i64 (v0))]), (37, [(2, .str []), (3, .int .i64 (.ofNat 0)), (4, .int .i64 (.ofNat 0)), (5, .ptr 0 0), (6, .ptr 1 0)])], [(37, [(5, .ptr 0 0), (6, .ptr 1 0)])], 6, [(2, .cells 9 [.str (tt)] false), (0, .cells 32 [.slc 5 0 (v1) (.upto 1 (v2))] false), (1, .cells 3 [.int .i64 (.ofNat 0)] false), (5, .cells 5 (v3) true)]⟩
noncomputable def pt13_2 (tt : List Nat) (v0 v1 : Int) : Go.Sx.Pt := ⟨[(69, [(0, .fn (.yield 3) [] []), (1, .ptr 2 0), (3, .int .i64 (v0)), (5, .nils), (52, .int .i64 (v1)), (53, .int .i64 (.ofNat 0))]), (37, [(2, .str []), (3, .int .i64 (.ofNat 0)), (4, .int .i64 (.ofNat 0)), (5, .ptr 0 0), (6, .ptr 1 0)])], [(37, [(5, .ptr 0 0), (6, .ptr 1 0)])], 4, [(2, .cells 9 [.str (tt)] false), (0, .cells 32 [.nils] false), (1, .cells 3 [.int .i64 (.ofNat 0)] false)]⟩
noncomputable def pt13_3 (tt : List Nat) (v0 v1 : Int) (v2 v3 : Nat) (v4 : List AV) : Go.Sx.Pt := ⟨[(69, [(0, .fn (.yield 3) [] []), (1, .ptr 2 0), (3, .int .i64 (v0)), (5, .nils), (52, .int .i64 (v1)), (53, .int .i64 (.ofNat 0))]), (37, [(2, .str []), (3, .int .i64 (.ofNat 0)), (4, .int .i64 (.ofNat 0)), (5, .ptr 0 0), (6, .ptr 1 0)])], [(37, [(5, .ptr 0 0), (6, .ptr 1 0)])], 6, [(2, .cells 9 [.str (tt)] false), (0, .cells 32 [.slc 5 0 (v2) (.upto 1 (v3))] false), (1, .cells 3 [.int .i64 (.ofNat 0)] false), (5, .cells 5 (v4) true)]⟩
noncomputable def pt13_4 (tt : List Nat) (v0 : Int) (v1 : Nat) (v2 v3 : Int) (v4 : List AV) : Go.Sx.Pt := ⟨[(69, [(0, .fn (.yield 3) [] []), (1, .ptr 2 0), (3, .int .i64 (v0)), (5, .slc 5 0 (v1) (.upto 1 (v1))), (52, .int .i64 (v2)), (53, .int .i64 (v3))]), (37, [(2, .str []), (3, .int .i64 (.ofNat 0)), (4, .int .i64 (.ofNat 0)), (5, .ptr 0 0), (6, .ptr 1 0)])], [(37, [(5, .ptr 0 0), (6, .ptr 1 0)])], 6, [(2, .cells 9 [.str (tt)] false), (5, .cells 5 (v4) true), (0, .cells 32 [.nils] false), (1, .cells 3 [.int .i64 (.ofNat 0)] false)]⟩
noncomputable def pt13_5 (tt : List Nat) (v0 : Int) (v1 : Nat) (v2 v3 : Int) (v4 : List AV) (v5 v6 : Nat) (v7 : List AV) : Go.Sx.Pt := ⟨[(69, [(0, .fn (.yield 3) [] []), (1, .ptr 2 0), (3, .int .i64 (v0)), (5, .slc 7 0 (v1) (.upto 1 (v1))), (52, .int .i64 (v2)), (53, .int .i64 (v3))]), (37, [(2, .str []), (3, .int .i64 (.ofNat 0)), (4, .int .i64 (.ofNat 0)), (5, .ptr 0 0), (6, .ptr 1 0)])], [(37, [(5, .ptr 0 0), (6, .ptr 1 0)])], 8, [(2, .cells 9 [.str (tt)] false), (7, .cells 5 (v4) true), (0, .cells 32 [.slc 5 0 (v5) (.upto 1 (v6))] false), (1, .cells 3 [.int .i64 (.ofNat 0)] false), (5, .cells 5 (v7) true)]⟩
mutual
noncomputable def L13_0 (tt : List Nat) : Nat → Int → Option (List Nat × Int × Int)
  | 0, _ => none
  | n + 1, v0 => (bif (ltI v0 (↑(List.length tt) : Int)) then (bif (inB v0 (List.length tt)) then (bif (eqI (wrapA .i64 (Go.Sx.byteI tt v0)) 128) then (bif (eqI (wrapA .i64 (Int.add v0 1)) 0) then (some ([], 0, 5)) else (some ([], (wrapA .i64 (Int.add v0 1)), 0))) else (bif (ltI (wrapA .i64 (Go.Sx.byteI tt v0)) 128) then (bif (c13_84 tt v0) then (bif (!ltI (t13_85 tt v0) 0) then (bif (!ltI (wrapA .i64 (Int.add v0 1)) 0) then (bif (leB (Int.toNat (wrapA .i64 (Int.add v0 1))) (Int.toNat (t13_85 tt v0))) then (bif (leB (Int.toNat (t13_85 tt v0)) (List.length tt)) then (bif (c13_88 tt v0) then (bif (eqI (t13_86 tt v0) 0) then (some ([], 0, 5)) else (some ([], (t13_86 tt v0), 0))) else (bif (Nat.blt 0 (k13_87 tt v0)) then (bif (Nat.ble (k13_87 tt v0) 10000000) then (bif (Nat.ble (0 + k13_87 tt v0 * 1) (List.length (l13_89 tt v0))) then (bif (List.all (List.take (k13_87 tt v0 * 1) (List.drop 0 (l13_89 tt v0))) AV.plain) then (bif (Go.Sx.pureAVs (l13_90 tt v0)) then (L13_1 tt n (t13_86 tt v0) (k13_87 tt v0) (k13_87 tt v0) (l13_90 tt v0)) else none) else none) else none) else none) else (bif (Nat.beq (k13_87 tt v0) 0) then (bif (Nat.ble (0 + k13_87 tt v0 * 1) (List.length (l13_89 tt v0))) then (bif (List.all (List.take (k13_87 tt v0 * 1) (List.drop 0 (l13_89 tt v0))) AV.plain) then (L13_0 tt n (t13_86 tt v0)) else none) else none) else none))) else none) else none) else none) else none) else (bif (ltI 128 (wrapA .i64 (Go.Sx.byteI tt v0))) then (bif (c13_91 tt v0) then (L13_2 tt n (wrapA .i64 (Int.add v0 1)) (wrapA .i64 (Int.sub 257 (wrapA .i64 (Go.Sx.byteI tt v0))))) else (some ([], 0, 5))) else (some ([], 0, 5)))) else (bif (ltI 128 (wrapA .i64 (Go.Sx.byteI tt v0))) then (bif (c13_91 tt v0) then (L13_2 tt n (wrapA .i64 (Int.add v0 1)) (wrapA .i64 (Int.sub 257 (wrapA .i64 (Go.Sx.byteI tt v0))))) else (some ([], 0, 5))) else (some ([], 0, 5))))) else none) else (some ([], 0, 5)))
termination_by structural n => n
noncomputable def L13_1 (tt : List Nat) : Nat → Int → Nat → Nat → (List AV) → Option (List Nat × Int × Int)
  | 0, _, _, _, _ => none
  | n + 1, v0, v1, v2, v3 => (bif (ltI v0 (↑(List.length tt) : Int)) then (bif (inB v0 (List.length tt)) then (bif (eqI (wrapA .i64 (Go.Sx.byteI tt v0)) 128) then (bif (eqI (wrapA .i64 (Int.add v0 1)) 0) then (some ([], 0, 5)) else (bif (ltI 65536 (↑v1 : Int)) then (some ([], 0, 3)) else (bif (Go.Sx.strOk v3 0 v1) then (some ((Go.Sx.strOf v3 0 v1), (wrapA .i64 (Int.add v0 1)), 0)) else none))) else (bif (ltI (wrapA .i64 (Go.Sx.byteI tt v0)) 128) then (bif (c13_92 tt v0) then (bif (!ltI (t13_93 tt v0) 0) then (bif (!ltI (wrapA .i64 (Int.add v0 1)) 0) then (bif (leB (Int.toNat (wrapA .i64 (Int.add v0 1))) (Int.toNat (t13_93 tt v0))) then (bif (leB (Int.toNat (t13_93 tt v0)) (List.length tt)) then (bif (c13_96 tt v0) then (bif (eqI (t13_94 tt v0) 0) then (some ([], 0, 5)) else (bif (ltI 65536 (↑v1 : Int)) then (some ([], 0, 3)) else (bif (Go.Sx.strOk v3 0 v1) then (some ((Go.Sx.strOf v3 0 v1), (t13_94 tt v0), 0)) else none))) else (bif (Nat.blt v2 (v1 + k13_95 tt v0)) then (bif (Nat.ble (k13_95 tt v0) 10000000) then (bif (Nat.ble (0 + k13_95 tt v0 * 1) (List.length (l13_97 tt v0))) then (bif (List.all (List.take (k13_95 tt v0 * 1) (List.drop 0 (l13_97 tt v0))) AV.plain) then (bif (Nat.blt 0 (k13_95 tt v0)) then (bif (Nat.ble v1 10000000) then (bif (Nat.beq (List.length v3) (0 + v1 * 1)) then (bif (Go.Sx.pureAVs (l13_98 tt v0 v3)) then (L13_1 tt n (t13_94 tt v0) (v1 + k13_95 tt v0) (v1 + k13_95 tt v0) (l13_98 tt v0 v3)) else none) else none) else none) else none) else none) else none) else none) else (bif (Nat.blt 0 (k13_95 tt v0)) then (bif (Nat.ble (k13_95 tt v0) 10000000) then (bif (Nat.ble (0 + k13_95 tt v0 * 1) (List.length (l13_97 tt v0))) then (bif (List.all (List.take (k13_95 tt v0 * 1) (List.drop 0 (l13_97 tt v0))) AV.plain) then (bif (Nat.ble (v1 + k13_95 tt v0) v2) then (bif (Nat.ble v1 10000000) then (bif (Go.Sx.putOk v3 (0 + v1 * 1) (List.length (List.take (k13_95 tt v0 * 1) (List.drop 0 (l13_97 tt v0))))) then (bif (Go.Sx.pureAVs (l13_99 tt v0 v1 v3)) then (L13_1 tt n (t13_94 tt v0) (v1 + k13_95 tt v0) (v2) (l13_99 tt v0 v1 v3)) else none) else none) else none) else none) else none) else none) else none) else (bif (Nat.beq (k13_95 tt v0) 0) then (bif (Nat.ble (0 + k13_95 tt v0 * 1) (List.length (l13_97 tt v0))) then (bif (List.all (List.take (k13_95 tt v0 * 1) (List.drop 0 (l13_97 tt v0))) AV.plain) then (bif (Go.Sx.pureAVs v3) then (L13_1 tt n (t13_94 tt v0) (v1) (v2) (v3)) else none) else none) else none) else none)))) else none) else none) else none) else none) else (bif (ltI 128 (wrapA .i64 (Go.Sx.byteI tt v0))) then (bif (c13_100 tt v0) then (bif (Go.Sx.pureAVs v3) then (L13_3 tt n (wrapA .i64 (Int.add v0 1)) (wrapA .i64 (Int.sub 257 (wrapA .i64 (Go.Sx.byteI tt v0)))) (v1) (v2) (v3)) else none) else (some ([], 0, 5))) else (some ([], 0, 5)))) else (bif (ltI 128 (wrapA .i64 (Go.Sx.byteI tt v0))) then (bif (c13_100 tt v0) then (bif (Go.Sx.pureAVs v3) then (L13_3 tt n (wrapA .i64 (Int.add v0 1)) (wrapA .i64 (Int.sub 257 (wrapA .i64 (Go.Sx.byteI tt v0)))) (v1) (v2) (v3)) else none) else (some ([], 0, 5))) else (some ([], 0, 5))))) else none) else (some ([], 0, 5)))
termination_by structural n => n
noncomputable def L13_2 (tt : List Nat) : Nat → Int → Int → Option (List Nat × Int × Int)
  | 0, _, _ => none
  | n + 1, v0, v1 => (bif (ltI (0) v1) then (bif (inB v0 (List.length tt)) then (L13_4 tt n (v0) 1 (v1) 1 [.int .u8 (Go.Sx.byteI tt v0)]) else none) else (bif (eqI (wrapA .i64 (Int.add v0 1)) 0) then (some ([], 0, 5)) else (some ([], (wrapA .i64 (Int.add v0 1)), 0))))
termination_by structural n => n
noncomputable def L13_3 (tt : List Nat) : Nat → Int → Int → Nat → Nat → (List AV) → Option (List Nat × Int × Int)
  | 0, _, _, _, _, _ => none
  | n + 1, v0, v1, v2, v3, v4 => (bif (ltI (0) v1) then (bif (inB v0 (List.length tt)) then (bif (Go.Sx.pureAVs v4) then (L13_5 tt n (v0) 1 (v1) 1 [.int .u8 (Go.Sx.byteI tt v0)] (v2) (v3) (v4)) else none) else none) else (bif (eqI (wrapA .i64 (Int.add v0 1)) 0) then (some ([], 0, 5)) else (bif (ltI 65536 (↑v2 : Int)) then (some ([], 0, 3)) else (bif (Go.Sx.strOk v4 0 v2) then (some ((Go.Sx.strOf v4 0 v2), (wrapA .i64 (Int.add v0 1)), 0)) else none))))
termination_by structural n => n
noncomputable def L13_4 (tt : List Nat) : Nat → Int → Nat → Int → Int → (List AV) → Option (List Nat × Int × Int)
  | 0, _, _, _, _, _ => none
  | n + 1, v0, v1, v2, v3, v4 => (bif (ltI v3 v2) then (bif (inB v0 (List.length tt)) then (bif (Nat.blt v1 (v1 + 1)) then (bif (Nat.ble v1 10000000) then (bif (Nat.beq (List.length v4) (0 + v1 * 1)) then (bif (Go.Sx.pureAVs (l13_101 tt v0 v4)) then (L13_4 tt n (v0) (v1 + 1) (v2) (wrapA .i64 (Int.add v3 1)) (l13_101 tt v0 v4)) else none) else none) else none) else none) else none) else (bif (eqI (↑v1 : Int) 0) then (bif (eqI (wrapA .i64 (Int.add v0 1)) 0) then (some ([], 0, 5)) else (some ([], (wrapA .i64 (Int.add v0 1)), 0))) else (bif (Nat.blt 0 v1) then (bif (Nat.ble v1 10000000) then (bif (Nat.ble (0 + v1 * 1) (List.length v4)) then (bif (List.all (List.take (v1 * 1) (List.drop 0 v4)) AV.plain) then (bif (Go.Sx.pureAVs (List.take (v1 * 1) v4)) then (L13_1 tt n (wrapA .i64 (Int.add v0 1)) (v1) (v1) (List.take (v1 * 1) v4)) else none) else none) else none) else none) else (bif (Nat.beq v1 0) then (bif (Nat.ble (0 + v1 * 1) (List.length v4)) then (bif (List.all (List.take (v1 * 1) (List.drop 0 v4)) AV.plain) then (L13_0 tt n (wrapA .i64 (Int.add v0 1))) else none) else none) else none))))
termination_by structural n => n
noncomputable def L13_5 (tt : List Nat) : Nat → Int → Nat → Int → Int → (List AV) → Nat → Nat → (List AV) → Option (List Nat × Int × Int)
  | 0, _, _, _, _, _, _, _, _ => none
  | n + 1, v0, v1, v2, v3, v4, v5, v6, v7 => (bif (ltI v3 v2) then (bif (inB v0 (List.length tt)) then (bif (Nat.blt v1 (v1 + 1)) then (bif (Nat.ble v1 10000000) then (bif (Nat.beq (List.length v4) (0 + v1 * 1)) then (bif (Go.Sx.pureAVs (l13_102 tt v0 v4)) then (bif (Go.Sx.pureAVs v7) then (L13_5 tt n (v0) (v1 + 1) (v2) (wrapA .i64 (Int.add v3 1)) (l13_102 tt v0 v4) (v5) (v6) (v7)) else none) else none) else none) else none) else none) else none) else (bif (eqI (↑v1 : Int) 0) then (bif (eqI (wrapA .i64 (Int.add v0 1)) 0) then (some ([], 0, 5)) else (bif (ltI 65536 (↑v5 : Int)) then (some ([], 0, 3)) else (bif (Go.Sx.strOk v7 0 v5) then (some ((Go.Sx.strOf v7 0 v5), (wrapA .i64 (Int.add v0 1)), 0)) else none))) else (bif (Nat.blt v6 (v5 + v1)) then (bif (Nat.ble v1 10000000) then (bif (Nat.ble (0 + v1 * 1) (List.length v4)) then (bif (List.all (List.take (v1 * 1) (List.drop 0 v4)) AV.plain) then (bif (Nat.blt 0 v1) then (bif (Nat.ble v5 10000000) then (bif (Nat.beq (List.length v7) (0 + v5 * 1)) then (bif (Go.Sx.pureAVs (l13_103 v1 v4 v7)) then (L13_1 tt n (wrapA .i64 (Int.add v0 1)) (v5 + v1) (v5 + v1) (l13_103 v1 v4 v7)) else none) else none) else none) else none) else none) else none) else none) else (bif (Nat.blt 0 v1) then (bif (Nat.ble v1 10000000) then (bif (Nat.ble (0 + v1 * 1) (List.length v4)) then (bif (List.all (List.take (v1 * 1) (List.drop 0 v4)) AV.plain) then (bif (Nat.ble (v5 + v1) v6) then (bif (Nat.ble v5 10000000) then (bif (Go.Sx.putOk v7 (0 + v5 * 1) (List.length (List.take (v1 * 1) (List.drop 0 v4)))) then (bif (Go.Sx.pureAVs (l13_104 v1 v4 v5 v7)) then (L13_1 tt n (wrapA .i64 (Int.add v0 1)) (v5 + v1) (v6) (l13_104 v1 v4 v5 v7)) else none) else none) else none) else none) else none) else none) else none) else (bif (Nat.beq v1 0) then (bif (Nat.ble (0 + v1 * 1) (List.length v4)) then (bif (List.all (List.take (v1 * 1) (List.drop 0 v4)) AV.plain) then (bif (Go.Sx.pureAVs v7) then (L13_1 tt n (wrapA .i64 (Int.add v0 1)) (v5) (v6) (v7)) else none) else none) else none) else none)))))
termination_by structural n => n
end
theorem L13_0_succ (tt : List Nat) (n : Nat) (v0 : Int) : L13_0 tt (n + 1) v0 = (bif (ltI v0 (↑(List.length tt) : Int)) then (bif (inB v0 (List.length tt)) then (bif (eqI (wrapA .i64 (Go.Sx.byteI tt v0)) 128) then (bif (eqI (wrapA .i64 (Int.add v0 1)) 0) then (some ([], 0, 5)) else (some ([], (wrapA .i64 (Int.add v0 1)), 0))) else (bif (ltI (wrapA .i64 (Go.Sx.byteI tt v0)) 128) then (bif (c13_84 tt v0) then (bif (!ltI (t13_85 tt v0) 0) then (bif (!ltI (wrapA .i64 (Int.add v0 1)) 0) then (bif (leB (Int.toNat (wrapA .i64 (Int.add v0 1))) (Int.toNat (t13_85 tt v0))) then (bif (leB (Int.toNat (t13_85 tt v0)) (List.length tt)) then (bif (c13_88 tt v0) then (bif (eqI (t13_86 tt v0) 0) then (some ([], 0, 5)) else (some ([], (t13_86 tt v0), 0))) else (bif (Nat.blt 0 (k13_87 tt v0)) then (bif (Nat.ble (k13_87 tt v0) 10000000) then (bif (Nat.ble (0 + k13_87 tt v0 * 1) (List.length (l13_89 tt v0))) then (bif (List.all (List.take (k13_87 tt v0 * 1) (List.drop 0 (l13_89 tt v0))) AV.plain) then (bif (Go.Sx.pureAVs (l13_90 tt v0)) then (L13_1 tt n (t13_86 tt v0) (k13_87 tt v0) (k13_87 tt v0) (l13_90 tt v0)) else none) else none) else none) else none) else (bif (Nat.beq (k13_87 tt v0) 0) then (bif (Nat.ble (0 + k13_87 tt v0 * 1) (List.length (l13_89 tt v0))) then (bif (List.all (List.take (k13_87 tt v0 * 1) (List.drop 0 (l13_89 tt v0))) AV.plain) then (L13_0 tt n (t13_86 tt v0)) else none) else none) else none))) else none) else none) else none) else none) else (bif (ltI 128 (wrapA .i64 (Go.Sx.byteI tt v0))) then (bif (c13_91 tt v0) then (L13_2 tt n (wrapA .i64 (Int.add v0 1)) (wrapA .i64 (Int.sub 257 (wrapA .i64 (Go.Sx.byteI tt v0))))) else (some ([], 0, 5))) else (some ([], 0, 5)))) else (bif (ltI 128 (wrapA .i64 (Go.Sx.byteI tt v0))) then (bif (c13_91 tt v0) then (L13_2 tt n (wrapA .i64 (Int.add v0 1)) (wrapA .i64 (Int.sub 257 (wrapA .i64 (Go.Sx.byteI tt v0))))) else (some ([], 0, 5))) else (some ([], 0, 5))))) else none) else (some ([], 0, 5))) := rfl
theorem L13_1_succ (tt : List Nat) (n : Nat) (v0 : Int) (v1 v2 : Nat) (v3 : List AV) : L13_1 tt (n + 1) v0 v1 v2 v3 = (bif (ltI v0 (↑(List.length tt) : Int)) then (bif (inB v0 (List.length tt)) then (bif (eqI (wrapA .i64 (Go.Sx.byteI tt v0)) 128) then (bif (eqI (wrapA .i64 (Int.add v0 1)) 0) then (some ([], 0, 5)) else (bif (ltI 65536 (↑v1 : Int)) then (some ([], 0, 3)) else (bif (Go.Sx.strOk v3 0 v1) then (some ((Go.Sx.strOf v3 0 v1), (wrapA .i64 (Int.add v0 1)), 0)) else none))) else (bif (ltI (wrapA .i64 (Go.Sx.byteI tt v0)) 128) then (bif (c13_92 tt v0) then (bif (!ltI (t13_93 tt v0) 0) then (bif (!ltI (wrapA .i64 (Int.add v0 1)) 0) then (bif (leB (Int.toNat (wrapA .i64 (Int.add v0 1))) (Int.toNat (t13_93 tt v0))) then (bif (leB (Int.toNat (t13_93 tt v0)) (List.length tt)) then (bif (c13_96 tt v0) then (bif (eqI (t13_94 tt v0) 0) then (some ([], 0, 5)) else (bif (ltI 65536 (↑v1 : Int)) then (some ([], 0, 3)) else (bif (Go.Sx.strOk v3 0 v1) then (some ((Go.Sx.strOf v3 0 v1), (t13_94 tt v0), 0)) else none))) else (bif (Nat.blt v2 (v1 + k13_95 tt v0)) then (bif (Nat.ble (k13_95 tt v0) 10000000) then (bif (Nat.ble (0 + k13_95 tt v0 * 1) (List.length (l13_97 tt v0))) then (bif (List.all (List.take (k13_95 tt v0 * 1) (List.drop 0 (l13_97 tt v0))) AV.plain) then (bif (Nat.blt 0 (k13_95 tt v0)) then (bif (Nat.ble v1 10000000) then (bif (Nat.beq (List.length v3) (0 + v1 * 1)) then (bif (Go.Sx.pureAVs (l13_98 tt v0 v3)) then (L13_1 tt n (t13_94 tt v0) (v1 + k13_95 tt v0) (v1 + k13_95 tt v0) (l13_98 tt v0 v3)) else none) else none) else none) else none) else none) else none) else none) else (bif (Nat.blt 0 (k13_95 tt v0)) then (bif (Nat.ble (k13_95 tt v0) 10000000) then (bif (Nat.ble (0 + k13_95 tt v0 * 1) (List.length (l13_97 tt v0))) then (bif (List.all (List.take (k13_95 tt v0 * 1) (List.drop 0 (l13_97 tt v0))) AV.plain) then (bif (Nat.ble (v1 + k13_95 tt v0) v2) then (bif (Nat.ble v1 10000000) then (bif (Go.Sx.putOk v3 (0 + v1 * 1) (List.length (List.take (k13_95 tt v0 * 1) (List.drop 0 (l13_97 tt v0))))) then (bif (Go.Sx.pureAVs (l13_99 tt v0 v1 v3)) then (L13_1 tt n (t13_94 tt v0) (v1 + k13_95 tt v0) (v2) (l13_99 tt v0 v1 v3)) else none) else none) else none) else none) else none) else none) else none) else (bif (Nat.beq (k13_95 tt v0) 0) then (bif (Nat.ble (0 + k13_95 tt v0 * 1) (List.length (l13_97 tt v0))) then (bif (List.all (List.take (k13_95 tt v0 * 1) (List.drop 0 (l13_97 tt v0))) AV.plain) then (bif (Go.Sx.pureAVs v3) then (L13_1 tt n (t13_94 tt v0) (v1) (v2) (v3)) else none) else none) else none) else none)))) else none) else none) else none) else none) else (bif (ltI 128 (wrapA .i64 (Go.Sx.byteI tt v0))) then (bif (c13_100 tt v0) then (bif (Go.Sx.pureAVs v3) then (L13_3 tt n (wrapA .i64 (Int.add v0 1)) (wrapA .i64 (Int.sub 257 (wrapA .i64 (Go.Sx.byteI tt v0)))) (v1) (v2) (v3)) else none) else (some ([], 0, 5))) else (some ([], 0, 5)))) else (bif (ltI 128 (wrapA .i64 (Go.Sx.byteI tt v0))) then (bif (c13_100 tt v0) then (bif (Go.Sx.pureAVs v3) then (L13_3 tt n (wrapA .i64 (Int.add v0 1)) (wrapA .i64 (Int.sub 257 (wrapA .i64 (Go.Sx.byteI tt v0)))) (v1) (v2) (v3)) else none) else (some ([], 0, 5))) else (some ([], 0, 5))))) else none) else (some ([], 0, 5))) := rfl
theorem L13_2_succ (tt : List Nat) (n : Nat) (v0 v1 : Int) : L13_2 tt (n + 1) v0 v1 = (bif (ltI (0) v1) then (bif (inB v0 (List.length tt)) then (L13_4 tt n (v0) 1 (v1) 1 [.int .u8 (Go.Sx.byteI tt v0)]) else none) else (bif (eqI (wrapA .i64 (Int.add v0 1)) 0) then (some ([], 0, 5)) else (some ([], (wrapA .i64 (Int.add v0 1)), 0)))) := rfl
theorem L13_3_succ (tt : List Nat) (n : Nat) (v0 v1 : Int) (v2 v3 : Nat) (v4 : List AV) : L13_3 tt (n + 1) v0 v1 v2 v3 v4 = (bif (ltI (0) v1) then (bif (inB v0 (List.length tt)) then (bif (Go.Sx.pureAVs v4) then (L13_5 tt n (v0) 1 (v1) 1 [.int .u8 (Go.Sx.byteI tt v0)] (v2) (v3) (v4)) else none) else none) else (bif (eqI (wrapA .i64 (Int.add v0 1)) 0) then (some ([], 0, 5)) else (bif (ltI 65536 (↑v2 : Int)) then (some ([], 0, 3)) else (bif (Go.Sx.strOk v4 0 v2) then (some ((Go.Sx.strOf v4 0 v2), (wrapA .i64 (Int.add v0 1)), 0)) else none)))) := rfl
theorem L13_4_succ (tt : List Nat) (n : Nat) (v0 : Int) (v1 : Nat) (v2 v3 : Int) (v4 : List AV) : L13_4 tt (n + 1) v0 v1 v2 v3 v4 = (bif (ltI v3 v2) then (bif (inB v0 (List.length tt)) then (bif (Nat.blt v1 (v1 + 1)) then (bif (Nat.ble v1 10000000) then (bif (Nat.beq (List.length v4) (0 + v1 * 1)) then (bif (Go.Sx.pureAVs (l13_101 tt v0 v4)) then (L13_4 tt n (v0) (v1 + 1) (v2) (wrapA .i64 (Int.add v3 1)) (l13_101 tt v0 v4)) else none) else none) else none) else none) else none) else (bif (eqI (↑v1 : Int) 0) then (bif (eqI (wrapA .i64 (Int.add v0 1)) 0) then (some ([], 0, 5)) else (some ([], (wrapA .i64 (Int.add v0 1)), 0))) else (bif (Nat.blt 0 v1) then (bif (Nat.ble v1 10000000) then (bif (Nat.ble (0 + v1 * 1) (List.length v4)) then (bif (List.all (List.take (v1 * 1) (List.drop 0 v4)) AV.plain) then (bif (Go.Sx.pureAVs (List.take (v1 * 1) v4)) then (L13_1 tt n (wrapA .i64 (Int.add v0 1)) (v1) (v1) (List.take (v1 * 1) v4)) else none) else none) else none) else none) else (bif (Nat.beq v1 0) then (bif (Nat.ble (0 + v1 * 1) (List.length v4)) then (bif (List.all (List.take (v1 * 1) (List.drop 0 v4)) AV.plain) then (L13_0 tt n (wrapA .i64 (Int.add v0 1))) else none) else none) else none)))) := rfl
theorem L13_5_succ (tt : List Nat) (n : Nat) (v0 : Int) (v1 : Nat) (v2 v3 : Int) (v4 : List AV) (v5 v6 : Nat) (v7 : List AV) : L13_5 tt (n + 1) v0 v1 v2 v3 v4 v5 v6 v7 = (bif (ltI v3 v2) then (bif (inB v0 (List.length tt)) then (bif (Nat.blt v1 (v1 + 1)) then (bif (Nat.ble v1 10000000) then (bif (Nat.beq (List.length v4) (0 + v1 * 1)) then (bif (Go.Sx.pureAVs (l13_102 tt v0 v4)) then (bif (Go.Sx.pureAVs v7) then (L13_5 tt n (v0) (v1 + 1) (v2) (wrapA .i64 (Int.add v3 1)) (l13_102 tt v0 v4) (v5) (v6) (v7)) else none) else none) else none) else none) else none) else none) else (bif (eqI (↑v1 : Int) 0) then (bif (eqI (wrapA .i64 (Int.add v0 1)) 0) then (some ([], 0, 5)) else (bif (ltI 65536 (↑v5 : Int)) then (some ([], 0, 3)) else (bif (Go.Sx.strOk v7 0 v5) then (some ((Go.Sx.strOf v7 0 v5), (wrapA .i64 (Int.add v0 1)), 0)) else none))) else (bif (Nat.blt v6 (v5 + v1)) then (bif (Nat.ble v1 10000000) then (bif (Nat.ble (0 + v1 * 1) (List.length v4)) then (bif (List.all (List.take (v1 * 1) (List.drop 0 v4)) AV.plain) then (bif (Nat.blt 0 v1) then (bif (Nat.ble v5 10000000) then (bif (Nat.beq (List.length v7) (0 + v5 * 1)) then (bif (Go.Sx.pureAVs (l13_103 v1 v4 v7)) then (L13_1 tt n (wrapA .i64 (Int.add v0 1)) (v5 + v1) (v5 + v1) (l13_103 v1 v4 v7)) else none) else none) else none) else none) else none) else none) else none) else (bif (Nat.blt 0 v1) then (bif (Nat.ble v1 10000000) then (bif (Nat.ble (0 + v1 * 1) (List.length v4)) then (bif (List.all (List.take (v1 * 1) (List.drop 0 v4)) AV.plain) then (bif (Nat.ble (v5 + v1) v6) then (bif (Nat.ble v5 10000000) then (bif (Go.Sx.putOk v7 (0 + v5 * 1) (List.length (List.take (v1 * 1) (List.drop 0 v4)))) then (bif (Go.Sx.pureAVs (l13_104 v1 v4 v5 v7)) then (L13_1 tt n (wrapA .i64 (Int.add v0 1)) (v5 + v1) (v6) (l13_104 v1 v4 v5 v7)) else none) else none) else none) else none) else none) else none) else none) else (bif (Nat.beq v1 0) then (bif (Nat.ble (0 + v1 * 1) (List.length v4)) then (bif (List.all (List.take (v1 * 1) (List.drop 0 v4)) AV.plain) then (bif (Go.Sx.pureAVs v7) then (L13_1 tt n (wrapA .i64 (Int.add v0 1)) (v5) (v6) (v7)) else none) else none) else none) else none))))) := rfl
set_option maxHeartbeats 4000000 in
theorem form13_0 (n : Nat) (tt : List Nat) (v0 : Int) (vz : AV) : Go.Sx.wpS Try.prog Try.f13 [] vz (.st [0, 0, 0, 0, 2, 2, 2, 2, 0, 0] (.br 9 (.st [0, 2, 0, 0, 0, 0, 2, 2] (.sp 2 (.st [2, 2, 0, 0, 0, 0, 2, 2, 2, 0, 0, 0, 0, 2, 0, 0, 0, 0, 0, 0, 2, 2, 2, 0, 0] (.br 16 (.st [0, 2, 0, 0, 0, 0, 2, 2, 2, 0, 0, 0, 0, 0, 2, 2, 2, 0, 0, 0, 0, 0, 2, 2, 0, 0, 2, 0, 0, 0, 2, 0, 0, 0, 2, 0, 0, 0, 0, 0, 0, 0, 0, 0, 2, 2, 0, 0] (.br 26 (.st [0, 0, 0, 2, 2, 2, 0, 0, 2, 0, 0] .ans) (.st [0, 2, 0, 0, 0, 2, 0, 0, 0, 2, 2, 0, 0, 0, 0, 0, 2, 2, 2, 0, 0, 0, 2, 0, 0, 0, 2, 2, 2, 2, 0, 0, 2, 0, 2, 2, 2, 2, 2, 0, 0, 0, 0, 0, 2, 2, 0, 0, 0, 2, 0, 0, 3, 2, 2, 0, 0, 2, 0] .ans))) (.st [0, 0, 0, 2, 2, 2] (.br 22 (.st [2, 2, 2, 2, 2, 2, 2, 2, 0, 0] (.br 19 (.st [0, 0, 0, 2, 2, 2, 2, 2, 2] (.sp 2 (.st [2, 2, 0, 0, 0, 2, 2, 2, 2, 2, 0, 0, 0, 0, 0, 2, 2, 2, 0, 0, 0, 0, 0, 2, 2, 2, 0, 0] (.br 20 (.st [0, 0, 0, 2, 2, 0, 0, 2, 0, 0, 0, 2, 0, 0, 0, 2, 0, 0, 0, 0, 0, 0, 0, 0, 0, 2, 2, 0, 0] (.br 26 (.st [0, 0, 0, 2, 2, 2, 0, 0, 2, 0, 0] .ans) (.st [0, 2, 0, 0, 0, 2, 0, 0, 0, 2, 2, 0, 0, 0, 0, 0, 2, 2, 2, 0, 0, 0, 2, 0, 0, 0, 2, 2, 2, 2, 0, 0, 2, 0, 2, 2, 2, 2, 2, 0, 0, 0, 0, 0, 2, 2, 0, 0, 0, 2, 0, 0, 3, 2, 2, 0, 0, 2, 0] .ans))) (.st [0, 2, 0, 0, 2, 2] (.split (Nat.blt 0 (k13_87 tt v0)) (.sp 2 (.st [2, 0, 0, 0, 2, 0, 0, 0, 2, 0, 0] (.stop ⟨[[0, 1, 3], [2, 3, 4, 5, 6]], [[5, 6]], [2, 0, 1, 5]⟩ [(3, 3), (2, 2), (0, 0), (1, 1), (5, 5)] 6 [5]))) (.sp 0 (.st [2, 0, 0, 0, 2, 0, 0, 0, 2, 0, 0] (.stop ⟨[[0, 1, 3], [2, 3, 4, 5, 6]], [[5, 6]], [2, 0, 1]⟩ [(3, 3), (2, 2), (0, 0), (1, 1)] 4 []))))))))) (.st [0, 0, 0, 2, 2, 2] (.br 45 (.st [2, 2, 2, 2, 2, 2, 0, 0] (.br 42 (.st [0, 0, 0, 0, 2, 2, 2, 0, 0, 0, 0] (.stop ⟨[[0, 1, 3, 5, 52, 53], [2, 3, 4, 5, 6]], [[5, 6]], [2, 0, 1]⟩ [(3, 3), (2, 2), (0, 0), (1, 1)] 4 [])) (.st [0, 2, 0, 0, 0, 0, 0, 0, 0, 0, 0, 0, 0, 2, 2, 0, 0, 0, 0, 0, 2, 2, 2, 0, 0, 2, 0, 0] .ans))) (.st [2, 2, 2, 2, 2, 2, 0, 0, 0, 2, 0, 0, 0, 0, 0, 0, 0, 0, 0, 0, 0, 2, 2, 0, 0, 0, 0, 0, 2, 2, 2, 0, 0, 2, 0, 0] .ans))))) (.st [2, 2, 2, 2, 2, 2, 2, 2, 0, 0, 0, 0, 0, 2, 2, 2] (.br 45 (.st [2, 2, 2, 2, 2, 2, 0, 0] (.br 42 (.st [0, 0, 0, 0, 2, 2, 2, 0, 0, 0, 0] (.stop ⟨[[0, 1, 3, 5, 52, 53], [2, 3, 4, 5, 6]], [[5, 6]], [2, 0, 1]⟩ [(3, 3), (2, 2), (0, 0), (1, 1)] 4 [])) (.st [0, 2, 0, 0, 0, 0, 0, 0, 0, 0, 0, 0, 0, 2, 2, 0, 0, 0, 0, 0, 2, 2, 2, 0, 0, 2, 0, 0] .ans))) (.st [2, 2, 2, 2, 2, 2, 0, 0, 0, 2, 0, 0, 0, 0, 0, 0, 0, 0, 0, 0, 0, 2, 2, 0, 0, 0, 0, 0, 2, 2, 2, 0, 0, 2, 0, 0] .ans))))))))) (.st [0, 2, 0, 0, 0, 0, 0, 0, 0, 0, 0, 2, 2, 0, 0, 0, 0, 0, 2, 2, 2, 0, 0, 2, 0, 0] .ans))) (Go.Sx.mkK sk13_0.1 (pt13_0 tt v0).frs.tail) (Go.Sx.mkC [] (pt13_0 tt v0) sk13_0.1 sk13_0.2) = (BR (ltI v0 (↑(List.length tt) : Int)) (AN (inB v0 (List.length tt)) (BR (eqI (wrapA .i64 (Go.Sx.byteI tt v0)) 128) (BR (eqI (wrapA .i64 (Int.add v0 1)) 0) (vz = .tup [.str [], .int .i64 (.ofNat 0), .int .i64 (.ofNat 5)]) (vz = .tup [.str [], .int .i64 (wrapA .i64 (Int.add v0 1)), .int .i64 (.ofNat 0)])) (BR (ltI (wrapA .i64 (Go.Sx.byteI tt v0)) 128) (BR (c13_84 tt v0) (AN (andB (andB (!ltI (t13_85 tt v0) 0) !ltI (wrapA .i64 (Int.add v0 1)) 0) (andB (leB (Int.toNat (wrapA .i64 (Int.add v0 1))) (Int.toNat (t13_85 tt v0))) (leB (Int.toNat (t13_85 tt v0)) (List.length tt)))) (BR (c13_88 tt v0) (BR (eqI (t13_86 tt v0) 0) (vz = .tup [.str [], .int .i64 (.ofNat 0), .int .i64 (.ofNat 5)]) (vz = .tup [.str [], .int .i64 (t13_86 tt v0), .int .i64 (.ofNat 0)])) (BR (Nat.blt 0 (k13_87 tt v0)) (AN (andB (andB (Nat.ble (k13_87 tt v0) 10000000) (Nat.ble (0 + k13_87 tt v0 * 1) (List.length (l13_89 tt v0)) && List.all (List.take (k13_87 tt v0 * 1) (List.drop 0 (l13_89 tt v0))) AV.plain)) (Nat.blt 0 (k13_87 tt v0))) (AN (Go.Sx.pureAVs (l13_90 tt v0)) (Go.Sx.RunAt Try.prog Try.f13 [] vz sk13_0 (pt13_1 tt (t13_86 tt v0) (k13_87 tt v0) (k13_87 tt v0) (l13_90 tt v0))))) (AN (andB (Nat.beq (k13_87 tt v0) 0) (Nat.ble (0 + k13_87 tt v0 * 1) (List.length (l13_89 tt v0)) && List.all (List.take (k13_87 tt v0 * 1) (List.drop 0 (l13_89 tt v0))) AV.plain)) (Go.Sx.RunAt Try.prog Try.f13 [] vz sk13_0 (pt13_0 tt (t13_86 tt v0))))))) (BR (ltI 128 (wrapA .i64 (Go.Sx.byteI tt v0))) (BR (c13_91 tt v0) (Go.Sx.RunAt Try.prog Try.f13 [] vz sk13_1 (pt13_2 tt (wrapA .i64 (Int.add v0 1)) (wrapA .i64 (Int.sub 257 (wrapA .i64 (Go.Sx.byteI tt v0)))))) (vz = .tup [.str [], .int .i64 (.ofNat 0), .int .i64 (.ofNat 5)])) (vz = .tup [.str [], .int .i64 (.ofNat 0), .int .i64 (.ofNat 5)]))) (BR (ltI 128 (wrapA .i64 (Go.Sx.byteI tt v0))) (BR (c13_91 tt v0) (Go.Sx.RunAt Try.prog Try.f13 [] vz sk13_1 (pt13_2 tt (wrapA .i64 (Int.add v0 1)) (wrapA .i64 (Int.sub 257 (wrapA .i64 (Go.Sx.byteI tt v0)))))) (vz = .tup [.str [], .int .i64 (.ofNat 0), .int .i64 (.ofNat 5)])) (vz = .tup [.str [], .int .i64 (.ofNat 0), .int .i64 (.ofNat 5)]))))) (vz = .tup [.str [], .int .i64 (.ofNat 0), .int .i64 (.ofNat 5)])) := by kernel_rfl
set_option maxHeartbeats 4000000 in
theorem form13_1 (n : Nat) (tt : List Nat) (v0 : Int) (v1 v2 : Nat) (v3 : List AV) (vz : AV) : Go.Sx.wpS Try.prog Try.f13 [] vz (.st [0, 0, 0, 0, 2, 2, 2, 2, 0, 0] (.br 9 (.st [0, 2, 0, 0, 0, 0, 2, 2] (.sp 2 (.st [2, 2, 0, 0, 0, 0, 2, 2, 2, 0, 0, 0, 0, 2, 0, 0, 0, 0, 0, 0, 2, 2, 2, 0, 0] (.br 16 (.st [0, 2, 0, 0, 0, 0, 2, 2, 2, 0, 0, 0, 0, 0, 2, 2, 2, 0, 0, 0, 0, 0, 2, 2, 0, 0, 2, 0, 0, 0, 2, 0, 0, 0, 2, 0, 0, 0, 0, 0, 0, 0, 0, 0, 2, 2, 0, 0] (.br 26 (.st [0, 0, 0, 2, 2, 2, 0, 0, 2, 0, 0] .ans) (.st [0, 2, 0, 0, 0, 2, 0, 0, 0, 2, 2, 0, 0, 0, 0, 0, 2, 2, 2, 0, 0] (.br 6 (.st [0, 0, 0, 2, 2, 0, 0, 2, 0, 0, 2, 2, 2, 2, 2, 0, 0, 0, 0, 0, 2, 2, 0, 0, 0, 0, 0, 2, 2, 2, 2, 0, 0, 2, 0, 0] .ans) (.st [0, 2, 0, 0, 0, 2] (.sp 2 (.st [2, 2, 0, 0, 2, 0, 2, 2, 2, 2, 2, 0, 0, 0, 0, 0, 2, 2, 0, 0, 0, 2, 0, 0, 3, 2, 2, 0, 0, 2, 0] .ans))))))) (.st [0, 0, 0, 2, 2, 2] (.br 22 (.st [2, 2, 2, 2, 2, 2, 2, 2, 0, 0] (.br 19 (.st [0, 0, 0, 2, 2, 2, 2, 2, 2] (.sp 2 (.st [2, 2, 0, 0, 0, 2, 2, 2, 2, 2, 0, 0, 0, 0, 0, 2, 2, 2, 0, 0, 0, 0, 0, 2, 2, 2, 0, 0] (.br 20 (.st [0, 0, 0, 2, 2, 0, 0, 2, 0, 0, 0, 2, 0, 0, 0, 2, 0, 0, 0, 0, 0, 0, 0, 0, 0, 2, 2, 0, 0] (.br 26 (.st [0, 0, 0, 2, 2, 2, 0, 0, 2, 0, 0] .ans) (.st [0, 2, 0, 0, 0, 2, 0, 0, 0, 2, 2, 0, 0, 0, 0, 0, 2, 2, 2, 0, 0] (.br 6 (.st [0, 0, 0, 2, 2, 0, 0, 2, 0, 0, 2, 2, 2, 2, 2, 0, 0, 0, 0, 0, 2, 2, 0, 0, 0, 0, 0, 2, 2, 2, 2, 0, 0, 2, 0, 0] .ans) (.st [0, 2, 0, 0, 0, 2] (.sp 2 (.st [2, 2, 0, 0, 2, 0, 2, 2, 2, 2, 2, 0, 0, 0, 0, 0, 2, 2, 0, 0, 0, 2, 0, 0, 3, 2, 2, 0, 0, 2, 0] .ans))))))) (.st [0, 2, 0, 0, 2, 2] (.split (Nat.blt v2 (v1 + k13_95 tt v0)) (.sp 2 (.st [2, 0, 0, 0, 2, 0, 0, 0, 2, 0, 0] (.stop ⟨[[0, 1, 3], [2, 3, 4, 5, 6]], [[5, 6]], [2, 0, 1, 7]⟩ [(3, 3), (2, 2), (0, 0), (1, 1), (7, 5)] 6 [7]))) (.split (Nat.blt 0 (k13_95 tt v0)) (.sp 1 (.st [2, 0, 0, 0, 2, 0, 0, 0, 2, 0, 0] (.stop ⟨[[0, 1, 3], [2, 3, 4, 5, 6]], [[5, 6]], [2, 0, 1, 5]⟩ [(3, 3), (2, 2), (0, 0), (1, 1), (5, 5)] 6 [5]))) (.sp 0 (.st [2, 0, 0, 0, 2, 0, 0, 0, 2, 0, 0] (.stop ⟨[[0, 1, 3], [2, 3, 4, 5, 6]], [[5, 6]], [2, 0, 1, 5]⟩ [(3, 3), (2, 2), (0, 0), (1, 1), (5, 5)] 6 [5])))))))))) (.st [0, 0, 0, 2, 2, 2] (.br 45 (.st [2, 2, 2, 2, 2, 2, 0, 0] (.br 42 (.st [0, 0, 0, 0, 2, 2, 2, 0, 0, 0, 0] (.stop ⟨[[0, 1, 3, 5, 52, 53], [2, 3, 4, 5, 6]], [[5, 6]], [2, 0, 1, 5]⟩ [(3, 3), (2, 2), (0, 0), (1, 1), (5, 5)] 6 [5])) (.st [0, 2, 0, 0, 0, 0, 0, 0, 0, 0, 0, 0, 0, 2, 2, 0, 0, 0, 0, 0, 2, 2, 2, 0, 0, 2, 0, 0] .ans))) (.st [2, 2, 2, 2, 2, 2, 0, 0, 0, 2, 0, 0, 0, 0, 0, 0, 0, 0, 0, 0, 0, 2, 2, 0, 0, 0, 0, 0, 2, 2, 2, 0, 0, 2, 0, 0] .ans))))) (.st [2, 2, 2, 2, 2, 2, 2, 2, 0, 0, 0, 0, 0, 2, 2, 2] (.br 45 (.st [2, 2, 2, 2, 2, 2, 0, 0] (.br 42 (.st [0, 0, 0, 0, 2, 2, 2, 0, 0, 0, 0] (.stop ⟨[[0, 1, 3, 5, 52, 53], [2, 3, 4, 5, 6]], [[5, 6]], [2, 0, 1, 5]⟩ [(3, 3), (2, 2), (0, 0), (1, 1), (5, 5)] 6 [5])) (.st [0, 2, 0, 0, 0, 0, 0, 0, 0, 0, 0, 0, 0, 2, 2, 0, 0, 0, 0, 0, 2, 2, 2, 0, 0, 2, 0, 0] .ans))) (.st [2, 2, 2, 2, 2, 2, 0, 0, 0, 2, 0, 0, 0, 0, 0, 0, 0, 0, 0, 0, 0, 2, 2, 0, 0, 0, 0, 0, 2, 2, 2, 0, 0, 2, 0, 0] .ans))))))))) (.st [0, 2, 0, 0, 0, 0, 0, 0, 0, 0, 0, 2, 2, 0, 0, 0, 0, 0, 2, 2, 2, 0, 0, 2, 0, 0] .ans))) (Go.Sx.mkK sk13_0.1 (pt13_1 tt v0 v1 v2 v3).frs.tail) (Go.Sx.mkC [] (pt13_1 tt v0 v1 v2 v3) sk13_0.1 sk13_0.2) = (BR (ltI v0 (↑(List.length tt) : Int)) (AN (inB v0 (List.length tt)) (BR (eqI (wrapA .i64 (Go.Sx.byteI tt v0)) 128) (BR (eqI (wrapA .i64 (Int.add v0 1)) 0) (vz = .tup [.str [], .int .i64 (.ofNat 0), .int .i64 (.ofNat 5)]) (BR (ltI 65536 (↑v1 : Int)) (vz = .tup [.str [], .int .i64 (.ofNat 0), .int .i64 (.ofNat 3)]) (AN (Go.Sx.strOk v3 0 v1) (vz = .tup [.str (Go.Sx.strOf v3 0 v1), .int .i64 (wrapA .i64 (Int.add v0 1)), .int .i64 (.ofNat 0)])))) (BR (ltI (wrapA .i64 (Go.Sx.byteI tt v0)) 128) (BR (c13_92 tt v0) (AN (andB (andB (!ltI (t13_93 tt v0) 0) !ltI (wrapA .i64 (Int.add v0 1)) 0) (andB (leB (Int.toNat (wrapA .i64 (Int.add v0 1))) (Int.toNat (t13_93 tt v0))) (leB (Int.toNat (t13_93 tt v0)) (List.length tt)))) (BR (c13_96 tt v0) (BR (eqI (t13_94 tt v0) 0) (vz = .tup [.str [], .int .i64 (.ofNat 0), .int .i64 (.ofNat 5)]) (BR (ltI 65536 (↑v1 : Int)) (vz = .tup [.str [], .int .i64 (.ofNat 0), .int .i64 (.ofNat 3)]) (AN (Go.Sx.strOk v3 0 v1) (vz = .tup [.str (Go.Sx.strOf v3 0 v1), .int .i64 (t13_94 tt v0), .int .i64 (.ofNat 0)])))) (BR (Nat.blt v2 (v1 + k13_95 tt v0)) (AN (andB (andB (Nat.ble (k13_95 tt v0) 10000000) (Nat.ble (0 + k13_95 tt v0 * 1) (List.length (l13_97 tt v0)) && List.all (List.take (k13_95 tt v0 * 1) (List.drop 0 (l13_97 tt v0))) AV.plain)) (andB (Nat.blt v2 (v1 + k13_95 tt v0)) (andB (Nat.blt 0 (k13_95 tt v0)) (andB (Nat.ble v1 10000000) (Nat.beq (List.length v3) (0 + v1 * 1)))))) (AN (Go.Sx.pureAVs (l13_98 tt v0 v3)) (Go.Sx.RunAt Try.prog Try.f13 [] vz sk13_0 (pt13_1 tt (t13_94 tt v0) (v1 + k13_95 tt v0) (v1 + k13_95 tt v0) (l13_98 tt v0 v3))))) (BR (Nat.blt 0 (k13_95 tt v0)) (AN (andB (andB (Nat.ble (k13_95 tt v0) 10000000) (Nat.ble (0 + k13_95 tt v0 * 1) (List.length (l13_97 tt v0)) && List.all (List.take (k13_95 tt v0 * 1) (List.drop 0 (l13_97 tt v0))) AV.plain)) (andB (Nat.ble (v1 + k13_95 tt v0) v2) (andB (Nat.blt 0 (k13_95 tt v0)) (andB (Nat.ble v1 10000000) (Go.Sx.putOk v3 (0 + v1 * 1) (List.length (List.take (k13_95 tt v0 * 1) (List.drop 0 (l13_97 tt v0))))))))) (AN (Go.Sx.pureAVs (l13_99 tt v0 v1 v3)) (Go.Sx.RunAt Try.prog Try.f13 [] vz sk13_0 (pt13_1 tt (t13_94 tt v0) (v1 + k13_95 tt v0) (v2) (l13_99 tt v0 v1 v3))))) (AN (andB (Nat.beq (k13_95 tt v0) 0) (Nat.ble (0 + k13_95 tt v0 * 1) (List.length (l13_97 tt v0)) && List.all (List.take (k13_95 tt v0 * 1) (List.drop 0 (l13_97 tt v0))) AV.plain)) (AN (Go.Sx.pureAVs v3) (Go.Sx.RunAt Try.prog Try.f13 [] vz sk13_0 (pt13_1 tt (t13_94 tt v0) (v1) (v2) (v3))))))))) (BR (ltI 128 (wrapA .i64 (Go.Sx.byteI tt v0))) (BR (c13_100 tt v0) (AN (Go.Sx.pureAVs v3) (Go.Sx.RunAt Try.prog Try.f13 [] vz sk13_1 (pt13_3 tt (wrapA .i64 (Int.add v0 1)) (wrapA .i64 (Int.sub 257 (wrapA .i64 (Go.Sx.byteI tt v0)))) (v1) (v2) (v3)))) (vz = .tup [.str [], .int .i64 (.ofNat 0), .int .i64 (.ofNat 5)])) (vz = .tup [.str [], .int .i64 (.ofNat 0), .int .i64 (.ofNat 5)]))) (BR (ltI 128 (wrapA .i64 (Go.Sx.byteI tt v0))) (BR (c13_100 tt v0) (AN (Go.Sx.pureAVs v3) (Go.Sx.RunAt Try.prog Try.f13 [] vz sk13_1 (pt13_3 tt (wrapA .i64 (Int.add v0 1)) (wrapA .i64 (Int.sub 257 (wrapA .i64 (Go.Sx.byteI tt v0)))) (v1) (v2) (v3)))) (vz = .tup [.str [], .int .i64 (.ofNat 0), .int .i64 (.ofNat 5)])) (vz = .tup [.str [], .int .i64 (.ofNat 0), .int .i64 (.ofNat 5)]))))) (vz = .tup [.str [], .int .i64 (.ofNat 0), .int .i64 (.ofNat 5)])) := by kernel_rfl
set_option maxHeartbeats 4000000 in
theorem form13_2 (n : Nat) (tt : List Nat) (v0 v1 : Int) (vz : AV) : Go.Sx.wpS Try.prog Try.f13 [] vz (.st [0, 0, 0, 2, 0, 0, 0] (.br 54 (.st [0, 2, 0, 0, 0, 0, 2, 2, 2] (.sp 2 (.st [2, 2, 2, 0, 0, 0, 0, 2, 2, 0, 0] (.stop ⟨[[0, 1, 3, 5, 52, 53], [2, 3, 4, 5, 6]], [[5, 6]], [2, 5, 0, 1]⟩ [(3, 3), (2, 2), (5, 5), (0, 0), (1, 1)] 6 [5])))) (.st [0, 2, 0, 0, 0, 0, 0, 2, 2, 2, 0, 0, 0, 0, 0, 2, 2, 2, 0, 0, 0, 0, 0, 2, 2, 2, 0, 0, 0, 0, 0, 2, 2, 0, 0, 2, 0, 0, 0, 2, 0, 0, 0, 2, 0, 0, 0, 0, 0, 0, 0, 0, 0, 2, 2, 0, 0] (.br 26 (.st [0, 0, 0, 2, 2, 2, 0, 0, 2, 0, 0] .ans) (.st [0, 2, 0, 0, 0, 2, 0, 0, 0, 2, 2, 0, 0, 0, 0, 0, 2, 2, 2, 0, 0, 0, 2, 0, 0, 0, 2, 2, 2, 2, 0, 0, 2, 0, 2, 2, 2, 2, 2, 0, 0, 0, 0, 0, 2, 2, 0, 0, 0, 2, 0, 0, 3, 2, 2, 0, 0, 2, 0] .ans))))) (Go.Sx.mkK sk13_1.1 (pt13_2 tt v0 v1).frs.tail) (Go.Sx.mkC [] (pt13_2 tt v0 v1) sk13_1.1 sk13_1.2) = (BR (ltI (0) v1) (AN (inB v0 (List.length tt)) (AN (Go.Sx.pureAVs [AV.int .u8 (Go.Sx.byteI tt v0)]) (Go.Sx.RunAt Try.prog Try.f13 [] vz sk13_1 (pt13_4 tt (v0) 1 (v1) 1 [.int .u8 (Go.Sx.byteI tt v0)])))) (BR (eqI (wrapA .i64 (Int.add v0 1)) 0) (vz = .tup [.str [], .int .i64 (.ofNat 0), .int .i64 (.ofNat 5)]) (vz = .tup [.str [], .int .i64 (wrapA .i64 (Int.add v0 1)), .int .i64 (.ofNat 0)]))) := by kernel_rfl
set_option maxHeartbeats 4000000 in
theorem form13_3 (n : Nat) (tt : List Nat) (v0 v1 : Int) (v2 v3 : Nat) (v4 : List AV) (vz : AV) : Go.Sx.wpS Try.prog Try.f13 [] vz (.st [0, 0, 0, 2, 0, 0, 0] (.br 54 (.st [0, 2, 0, 0, 0, 0, 2, 2, 2] (.sp 2 (.st [2, 2, 2, 0, 0, 0, 0, 2, 2, 0, 0] (.stop ⟨[[0, 1, 3, 5, 52, 53], [2, 3, 4, 5, 6]], [[5, 6]], [2, 7, 0, 1, 5]⟩ [(3, 3), (2, 2), (7, 7), (0, 0), (1, 1), (5, 5)] 8 [7, 5])))) (.st [0, 2, 0, 0, 0, 0, 0, 2, 2, 2, 0, 0, 0, 0, 0, 2, 2, 2, 0, 0, 0, 0, 0, 2, 2, 2, 0, 0, 0, 0, 0, 2, 2, 0, 0, 2, 0, 0, 0, 2, 0, 0, 0, 2, 0, 0, 0, 0, 0, 0, 0, 0, 0, 2, 2, 0, 0] (.br 26 (.st [0, 0, 0, 2, 2, 2, 0, 0, 2, 0, 0] .ans) (.st [0, 2, 0, 0, 0, 2, 0, 0, 0, 2, 2, 0, 0, 0, 0, 0, 2, 2, 2, 0, 0] (.br 6 (.st [0, 0, 0, 2, 2, 0, 0, 2, 0, 0, 2, 2, 2, 2, 2, 0, 0, 0, 0, 0, 2, 2, 0, 0, 0, 0, 0, 2, 2, 2, 2, 0, 0, 2, 0, 0] .ans) (.st [0, 2, 0, 0, 0, 2] (.sp 2 (.st [2, 2, 0, 0, 2, 0, 2, 2, 2, 2, 2, 0, 0, 0, 0, 0, 2, 2, 0, 0, 0, 2, 0, 0, 3, 2, 2, 0, 0, 2, 0] .ans))))))))) (Go.Sx.mkK sk13_1.1 (pt13_3 tt v0 v1 v2 v3 v4).frs.tail) (Go.Sx.mkC [] (pt13_3 tt v0 v1 v2 v3 v4) sk13_1.1 sk13_1.2) = (BR (ltI (0) v1) (AN (inB v0 (List.length tt)) (AN (Go.Sx.pureAVs [AV.int .u8 (Go.Sx.byteI tt v0)]) (AN (Go.Sx.pureAVs v4) (Go.Sx.RunAt Try.prog Try.f13 [] vz sk13_1 (pt13_5 tt (v0) 1 (v1) 1 [.int .u8 (Go.Sx.byteI tt v0)] (v2) (v3) (v4)))))) (BR (eqI (wrapA .i64 (Int.add v0 1)) 0) (vz = .tup [.str [], .int .i64 (.ofNat 0), .int .i64 (.ofNat 5)]) (BR (ltI 65536 (↑v2 : Int)) (vz = .tup [.str [], .int .i64 (.ofNat 0), .int .i64 (.ofNat 3)]) (AN (Go.Sx.strOk v4 0 v2) (vz = .tup [.str (Go.Sx.strOf v4 0 v2), .int .i64 (wrapA .i64 (Int.add v0 1)), .int .i64 (.ofNat 0)]))))) := by kernel_rfl
set_option maxHeartbeats 4000000 in
theorem form13_4 (n : Nat) (tt : List Nat) (v0 : Int) (v1 : Nat) (v2 v3 : Int) (v4 : List AV) (vz : AV) : Go.Sx.wpS Try.prog Try.f13 [] vz (.st [0, 0, 0, 2, 0, 0, 0] (.br 54 (.st [0, 2, 0, 0, 0, 0, 2, 2, 2] (.sp 2 (.st [2] (.sp 2 (.st [2, 0, 0, 0, 0, 2, 2, 0, 0] (.stop ⟨[[0, 1, 3, 5, 52, 53], [2, 3, 4, 5, 6]], [[5, 6]], [2, 7, 0, 1]⟩ [(3, 3), (2, 2), (7, 5), (0, 0), (1, 1)] 6 [7])))))) (.st [0, 2, 0, 0, 0, 0, 0, 2, 2, 2, 0, 0, 0, 0, 0, 2, 2, 2, 0, 0, 0, 0, 0, 2, 2, 2, 0, 0] (.br 20 (.st [0, 0, 0, 2, 2, 0, 0, 2, 0, 0, 0, 2, 0, 0, 0, 2, 0, 0, 0, 0, 0, 0, 0, 0, 0, 2, 2, 0, 0] (.br 26 (.st [0, 0, 0, 2, 2, 2, 0, 0, 2, 0, 0] .ans) (.st [0, 2, 0, 0, 0, 2, 0, 0, 0, 2, 2, 0, 0, 0, 0, 0, 2, 2, 2, 0, 0, 0, 2, 0, 0, 0, 2, 2, 2, 2, 0, 0, 2, 0, 2, 2, 2, 2, 2, 0, 0, 0, 0, 0, 2, 2, 0, 0, 0, 2, 0, 0, 3, 2, 2, 0, 0, 2, 0] .ans))) (.st [0, 2, 0, 0, 2, 2] (.split (Nat.blt 0 v1) (.sp 2 (.st [2, 0, 0, 0, 2, 0, 0, 0, 2, 0, 0] (.stop ⟨[[0, 1, 3], [2, 3, 4, 5, 6]], [[5, 6]], [2, 0, 1, 6]⟩ [(3, 3), (2, 2), (0, 0), (1, 1), (6, 5)] 6 [6]))) (.sp 0 (.st [2, 0, 0, 0, 2, 0, 0, 0, 2, 0, 0] (.stop ⟨[[0, 1, 3], [2, 3, 4, 5, 6]], [[5, 6]], [2, 0, 1]⟩ [(3, 3), (2, 2), (0, 0), (1, 1)] 4 []))))))))) (Go.Sx.mkK sk13_1.1 (pt13_4 tt v0 v1 v2 v3 v4).frs.tail) (Go.Sx.mkC [] (pt13_4 tt v0 v1 v2 v3 v4) sk13_1.1 sk13_1.2) = (BR (ltI v3 v2) (AN (inB v0 (List.length tt)) (AN (andB (Nat.blt v1 (v1 + 1)) (andB (Nat.ble v1 10000000) (Nat.beq (List.length v4) (0 + v1 * 1)))) (AN (Go.Sx.pureAVs (l13_101 tt v0 v4)) (Go.Sx.RunAt Try.prog Try.f13 [] vz sk13_1 (pt13_4 tt (v0) (v1 + 1) (v2) (wrapA .i64 (Int.add v3 1)) (l13_101 tt v0 v4)))))) (BR (eqI (↑v1 : Int) 0) (BR (eqI (wrapA .i64 (Int.add v0 1)) 0) (vz = .tup [.str [], .int .i64 (.ofNat 0), .int .i64 (.ofNat 5)]) (vz = .tup [.str [], .int .i64 (wrapA .i64 (Int.add v0 1)), .int .i64 (.ofNat 0)])) (BR (Nat.blt 0 v1) (AN (andB (andB (Nat.ble v1 10000000) (Nat.ble (0 + v1 * 1) (List.length v4) && List.all (List.take (v1 * 1) (List.drop 0 v4)) AV.plain)) (Nat.blt 0 v1)) (AN (Go.Sx.pureAVs (List.take (v1 * 1) v4)) (Go.Sx.RunAt Try.prog Try.f13 [] vz sk13_0 (pt13_1 tt (wrapA .i64 (Int.add v0 1)) (v1) (v1) (List.take (v1 * 1) v4))))) (AN (andB (Nat.beq v1 0) (Nat.ble (0 + v1 * 1) (List.length v4) && List.all (List.take (v1 * 1) (List.drop 0 v4)) AV.plain)) (Go.Sx.RunAt Try.prog Try.f13 [] vz sk13_0 (pt13_0 tt (wrapA .i64 (Int.add v0 1)))))))) := by kernel_rfl
set_option maxHeartbeats 4000000 in
theorem form13_5 (n : Nat) (tt : List Nat) (v0 : Int) (v1 : Nat) (v2 v3 : Int) (v4 : List AV) (v5 v6 : Nat) (v7 : List AV) (vz : AV) : Go.Sx.wpS Try.prog Try.f13 [] vz (.st [0, 0, 0, 2, 0, 0, 0] (.br 54 (.st [0, 2, 0, 0, 0, 0, 2, 2, 2] (.sp 2 (.st [2] (.sp 2 (.st [2, 0, 0, 0, 0, 2, 2, 0, 0] (.stop ⟨[[0, 1, 3, 5, 52, 53], [2, 3, 4, 5, 6]], [[5, 6]], [2, 9, 0, 1, 5]⟩ [(3, 3), (2, 2), (9, 7), (0, 0), (1, 1), (5, 5)] 8 [9, 5])))))) (.st [0, 2, 0, 0, 0, 0, 0, 2, 2, 2, 0, 0, 0, 0, 0, 2, 2, 2, 0, 0, 0, 0, 0, 2, 2, 2, 0, 0] (.br 20 (.st [0, 0, 0, 2, 2, 0, 0, 2, 0, 0, 0, 2, 0, 0, 0, 2, 0, 0, 0, 0, 0, 0, 0, 0, 0, 2, 2, 0, 0] (.br 26 (.st [0, 0, 0, 2, 2, 2, 0, 0, 2, 0, 0] .ans) (.st [0, 2, 0, 0, 0, 2, 0, 0, 0, 2, 2, 0, 0, 0, 0, 0, 2, 2, 2, 0, 0] (.br 6 (.st [0, 0, 0, 2, 2, 0, 0, 2, 0, 0, 2, 2, 2, 2, 2, 0, 0, 0, 0, 0, 2, 2, 0, 0, 0, 0, 0, 2, 2, 2, 2, 0, 0, 2, 0, 0] .ans) (.st [0, 2, 0, 0, 0, 2] (.sp 2 (.st [2, 2, 0, 0, 2, 0, 2, 2, 2, 2, 2, 0, 0, 0, 0, 0, 2, 2, 0, 0, 0, 2, 0, 0, 3, 2, 2, 0, 0, 2, 0] .ans))))))) (.st [0, 2, 0, 0, 2, 2] (.split (Nat.blt v6 (v5 + v1)) (.sp 2 (.st [2, 0, 0, 0, 2, 0, 0, 0, 2, 0, 0] (.stop ⟨[[0, 1, 3], [2, 3, 4, 5, 6]], [[5, 6]], [2, 0, 1, 8]⟩ [(3, 3), (2, 2), (0, 0), (1, 1), (8, 5)] 6 [8]))) (.split (Nat.blt 0 v1) (.sp 1 (.st [2, 0, 0, 0, 2, 0, 0, 0, 2, 0, 0] (.stop ⟨[[0, 1, 3], [2, 3, 4, 5, 6]], [[5, 6]], [2, 0, 1, 5]⟩ [(3, 3), (2, 2), (0, 0), (1, 1), (5, 5)] 6 [5]))) (.sp 0 (.st [2, 0, 0, 0, 2, 0, 0, 0, 2, 0, 0] (.stop ⟨[[0, 1, 3], [2, 3, 4, 5, 6]], [[5, 6]], [2, 0, 1, 5]⟩ [(3, 3), (2, 2), (0, 0), (1, 1), (5, 5)] 6 [5])))))))))) (Go.Sx.mkK sk13_1.1 (pt13_5 tt v0 v1 v2 v3 v4 v5 v6 v7).frs.tail) (Go.Sx.mkC [] (pt13_5 tt v0 v1 v2 v3 v4 v5 v6 v7) sk13_1.1 sk13_1.2) = (BR (ltI v3 v2) (AN (inB v0 (List.length tt)) (AN (andB (Nat.blt v1 (v1 + 1)) (andB (Nat.ble v1 10000000) (Nat.beq (List.length v4) (0 + v1 * 1)))) (AN (Go.Sx.pureAVs (l13_102 tt v0 v4)) (AN (Go.Sx.pureAVs v7) (Go.Sx.RunAt Try.prog Try.f13 [] vz sk13_1 (pt13_5 tt (v0) (v1 + 1) (v2) (wrapA .i64 (Int.add v3 1)) (l13_102 tt v0 v4) (v5) (v6) (v7))))))) (BR (eqI (↑v1 : Int) 0) (BR (eqI (wrapA .i64 (Int.add v0 1)) 0) (vz = .tup [.str [], .int .i64 (.ofNat 0), .int .i64 (.ofNat 5)]) (BR (ltI 65536 (↑v5 : Int)) (vz = .tup [.str [], .int .i64 (.ofNat 0), .int .i64 (.ofNat 3)]) (AN (Go.Sx.strOk v7 0 v5) (vz = .tup [.str (Go.Sx.strOf v7 0 v5), .int .i64 (wrapA .i64 (Int.add v0 1)), .int .i64 (.ofNat 0)])))) (BR (Nat.blt v6 (v5 + v1)) (AN (andB (andB (Nat.ble v1 10000000) (Nat.ble (0 + v1 * 1) (List.length v4) && List.all (List.take (v1 * 1) (List.drop 0 v4)) AV.plain)) (andB (Nat.blt v6 (v5 + v1)) (andB (Nat.blt 0 v1) (andB (Nat.ble v5 10000000) (Nat.beq (List.length v7) (0 + v5 * 1)))))) (AN (Go.Sx.pureAVs (l13_103 v1 v4 v7)) (Go.Sx.RunAt Try.prog Try.f13 [] vz sk13_0 (pt13_1 tt (wrapA .i64 (Int.add v0 1)) (v5 + v1) (v5 + v1) (l13_103 v1 v4 v7))))) (BR (Nat.blt 0 v1) (AN (andB (andB (Nat.ble v1 10000000) (Nat.ble (0 + v1 * 1) (List.length v4) && List.all (List.take (v1 * 1) (List.drop 0 v4)) AV.plain)) (andB (Nat.ble (v5 + v1) v6) (andB (Nat.blt 0 v1) (andB (Nat.ble v5 10000000) (Go.Sx.putOk v7 (0 + v5 * 1) (List.length (List.take (v1 * 1) (List.drop 0 v4)))))))) (AN (Go.Sx.pureAVs (l13_104 v1 v4 v5 v7)) (Go.Sx.RunAt Try.prog Try.f13 [] vz sk13_0 (pt13_1 tt (wrapA .i64 (Int.add v0 1)) (v5 + v1) (v6) (l13_104 v1 v4 v5 v7))))) (AN (andB (Nat.beq v1 0) (Nat.ble (0 + v1 * 1) (List.length v4) && List.all (List.take (v1 * 1) (List.drop 0 v4)) AV.plain)) (AN (Go.Sx.pureAVs v7) (Go.Sx.RunAt Try.prog Try.f13 [] vz sk13_0 (pt13_1 tt (wrapA .i64 (Int.add v0 1)) (v5) (v6) (v7))))))))) := by kernel_rfl
set_option maxHeartbeats 4000000 in
theorem runs13 (tt : List Nat)  : ∀ (n : Nat), (∀ (v0 : Int) (r : List Nat × Int × Int), L13_0 tt n v0 = some r → Go.Sx.RunAt Try.prog Try.f13 [] (.tup [.str r.1, .int .i64 r.2.1, .int .i64 r.2.2]) sk13_0 (pt13_0 tt v0)) ∧ (∀ (v0 : Int) (v1 v2 : Nat) (v3 : List AV) (r : List Nat × Int × Int), L13_1 tt n v0 v1 v2 v3 = some r → Go.Sx.RunAt Try.prog Try.f13 [] (.tup [.str r.1, .int .i64 r.2.1, .int .i64 r.2.2]) sk13_0 (pt13_1 tt v0 v1 v2 v3)) ∧ (∀ (v0 v1 : Int) (r : List Nat × Int × Int), L13_2 tt n v0 v1 = some r → Go.Sx.RunAt Try.prog Try.f13 [] (.tup [.str r.1, .int .i64 r.2.1, .int .i64 r.2.2]) sk13_1 (pt13_2 tt v0 v1)) ∧ (∀ (v0 v1 : Int) (v2 v3 : Nat) (v4 : List AV) (r : List Nat × Int × Int), L13_3 tt n v0 v1 v2 v3 v4 = some r → Go.Sx.RunAt Try.prog Try.f13 [] (.tup [.str r.1, .int .i64 r.2.1, .int .i64 r.2.2]) sk13_1 (pt13_3 tt v0 v1 v2 v3 v4)) ∧ (∀ (v0 : Int) (v1 : Nat) (v2 v3 : Int) (v4 : List AV) (r : List Nat × Int × Int), L13_4 tt n v0 v1 v2 v3 v4 = some r → Go.Sx.RunAt Try.prog Try.f13 [] (.tup [.str r.1, .int .i64 r.2.1, .int .i64 r.2.2]) sk13_1 (pt13_4 tt v0 v1 v2 v3 v4)) ∧ (∀ (v0 : Int) (v1 : Nat) (v2 v3 : Int) (v4 : List AV) (v5 v6 : Nat) (v7 : List AV) (r : List Nat × Int × Int), L13_5 tt n v0 v1 v2 v3 v4 v5 v6 v7 = some r → Go.Sx.RunAt Try.prog Try.f13 [] (.tup [.str r.1, .int .i64 r.2.1, .int .i64 r.2.2]) sk13_1 (pt13_5 tt v0 v1 v2 v3 v4 v5 v6 v7)) := by
  intro n
  induction n with
  | zero => exact ⟨(fun _ r h => by cases h), (fun _ _ _ _ r h => by cases h), (fun _ _ r h => by cases h), (fun _ _ _ _ _ r h => by cases h), (fun _ _ _ _ _ r h => by cases h), (fun _ _ _ _ _ _ _ _ r h => by cases h)⟩
  | succ n ih =>
    obtain ⟨ih0, ih1, ih2, ih3, ih4, ih5⟩ := ih
    exact ⟨(fun v0 r h => Go.Sx.wpS_run (L := []) (by kernel_rfl) (form13_0 n tt v0 (.tup [.str r.1, .int .i64 r.2.1, .int .i64 r.2.2])) ((br_of (fun h1 => (guard_of fun h2 => (fun h => ⟨h2, (br_of (fun h3 => (br_of (fun h4 => (fun h => by cases h; rfl)) (fun h4 => (fun h => by cases h; rfl)))) (fun h3 => (br_of (fun h5 => (br_of (fun h6 => (guard_of fun h7 => (guard_of fun h8 => (guard_of fun h9 => (guard_of fun h10 => (fun h => ⟨(and_t (and_t h7 h8) (and_t h9 h10)), (br_of (fun h11 => (br_of (fun h12 => (fun h => by cases h; rfl)) (fun h12 => (fun h => by cases h; rfl)))) (fun h11 => (br_of (fun h13 => (guard_of fun h14 => (guard_of fun h15 => (guard_of fun h16 => (fun h => ⟨(and_t (and_t h14 (and_t' h15 h16)) h13), (guard_of fun h17 => (fun h => ⟨h17, (fun h => ih1 (t13_86 tt v0) (k13_87 tt v0) (k13_87 tt v0) (l13_90 tt v0) r h) h⟩)) h⟩))))) (fun h13 => (guard_of fun h18 => (guard_of fun h19 => (guard_of fun h20 => (fun h => ⟨(and_t h18 (and_t' h19 h20)), (fun h => ih0 (t13_86 tt v0) r h) h⟩)))))))) h⟩)))))) (fun h6 => (br_of (fun h21 => (br_of (fun h22 => (fun h => ih2 (wrapA .i64 (Int.add v0 1)) (wrapA .i64 (Int.sub 257 (wrapA .i64 (Go.Sx.byteI tt v0)))) r h)) (fun h22 => (fun h => by cases h; rfl)))) (fun h21 => (fun h => by cases h; rfl)))))) (fun h5 => (br_of (fun h23 => (br_of (fun h24 => (fun h => ih2 (wrapA .i64 (Int.add v0 1)) (wrapA .i64 (Int.sub 257 (wrapA .i64 (Go.Sx.byteI tt v0)))) r h)) (fun h24 => (fun h => by cases h; rfl)))) (fun h23 => (fun h => by cases h; rfl))))))) h⟩))) (fun h1 => (fun h => by cases h; rfl))) ((L13_0_succ tt n v0).symm.trans h))), (fun v0 v1 v2 v3 r h => Go.Sx.wpS_run (L := []) (by kernel_rfl) (form13_1 n tt v0 v1 v2 v3 (.tup [.str r.1, .int .i64 r.2.1, .int .i64 r.2.2])) ((br_of (fun h25 => (guard_of fun h26 => (fun h => ⟨h26, (br_of (fun h27 => (br_of (fun h28 => (fun h => by cases h; rfl)) (fun h28 => (br_of (fun h29 => (fun h => by cases h; rfl)) (fun h29 => (guard_of fun h30 => (fun h => ⟨h30, (fun h => by cases h; rfl) h⟩))))))) (fun h27 => (br_of (fun h31 => (br_of (fun h32 => (guard_of fun h33 => (guard_of fun h34 => (guard_of fun h35 => (guard_of fun h36 => (fun h => ⟨(and_t (and_t h33 h34) (and_t h35 h36)), (br_of (fun h37 => (br_of (fun h38 => (fun h => by cases h; rfl)) (fun h38 => (br_of (fun h39 => (fun h => by cases h; rfl)) (fun h39 => (guard_of fun h40 => (fun h => ⟨h40, (fun h => by cases h; rfl) h⟩))))))) (fun h37 => (br_of (fun h41 => (guard_of fun h42 => (guard_of fun h43 => (guard_of fun h44 => (guard_of fun h45 => (guard_of fun h46 => (guard_of fun h47 => (fun h => ⟨(and_t (and_t h42 (and_t' h43 h44)) (and_t h41 (and_t h45 (and_t h46 h47)))), (guard_of fun h48 => (fun h => ⟨h48, (fun h => ih1 (t13_94 tt v0) (v1 + k13_95 tt v0) (v1 + k13_95 tt v0) (l13_98 tt v0 v3) r h) h⟩)) h⟩)))))))) (fun h41 => (br_of (fun h49 => (guard_of fun h50 => (guard_of fun h51 => (guard_of fun h52 => (guard_of fun h53 => (guard_of fun h54 => (guard_of fun h55 => (fun h => ⟨(and_t (and_t h50 (and_t' h51 h52)) (and_t h53 (and_t h49 (and_t h54 h55)))), (guard_of fun h56 => (fun h => ⟨h56, (fun h => ih1 (t13_94 tt v0) (v1 + k13_95 tt v0) (v2) (l13_99 tt v0 v1 v3) r h) h⟩)) h⟩)))))))) (fun h49 => (guard_of fun h57 => (guard_of fun h58 => (guard_of fun h59 => (fun h => ⟨(and_t h57 (and_t' h58 h59)), (guard_of fun h60 => (fun h => ⟨h60, (fun h => ih1 (t13_94 tt v0) (v1) (v2) (v3) r h) h⟩)) h⟩)))))))))) h⟩)))))) (fun h32 => (br_of (fun h61 => (br_of (fun h62 => (guard_of fun h63 => (fun h => ⟨h63, (fun h => ih3 (wrapA .i64 (Int.add v0 1)) (wrapA .i64 (Int.sub 257 (wrapA .i64 (Go.Sx.byteI tt v0)))) (v1) (v2) (v3) r h) h⟩))) (fun h62 => (fun h => by cases h; rfl)))) (fun h61 => (fun h => by cases h; rfl)))))) (fun h31 => (br_of (fun h64 => (br_of (fun h65 => (guard_of fun h66 => (fun h => ⟨h66, (fun h => ih3 (wrapA .i64 (Int.add v0 1)) (wrapA .i64 (Int.sub 257 (wrapA .i64 (Go.Sx.byteI tt v0)))) (v1) (v2) (v3) r h) h⟩))) (fun h65 => (fun h => by cases h; rfl)))) (fun h64 => (fun h => by cases h; rfl))))))) h⟩))) (fun h25 => (fun h => by cases h; rfl))) ((L13_1_succ tt n v0 v1 v2 v3).symm.trans h))), (fun v0 v1 r h => Go.Sx.wpS_run (L := []) (by kernel_rfl) (form13_2 n tt v0 v1 (.tup [.str r.1, .int .i64 r.2.1, .int .i64 r.2.2])) ((br_of (fun h67 => (guard_of fun h68 => (fun h => ⟨h68, (fun h => ⟨rfl, (fun h => ih4 (v0) 1 (v1) 1 [.int .u8 (Go.Sx.byteI tt v0)] r h) h⟩) h⟩))) (fun h67 => (br_of (fun h69 => (fun h => by cases h; rfl)) (fun h69 => (fun h => by cases h; rfl))))) ((L13_2_succ tt n v0 v1).symm.trans h))), (fun v0 v1 v2 v3 v4 r h => Go.Sx.wpS_run (L := []) (by kernel_rfl) (form13_3 n tt v0 v1 v2 v3 v4 (.tup [.str r.1, .int .i64 r.2.1, .int .i64 r.2.2])) ((br_of (fun h70 => (guard_of fun h71 => (fun h => ⟨h71, (fun h => ⟨rfl, (guard_of fun h72 => (fun h => ⟨h72, (fun h => ih5 (v0) 1 (v1) 1 [.int .u8 (Go.Sx.byteI tt v0)] (v2) (v3) (v4) r h) h⟩)) h⟩) h⟩))) (fun h70 => (br_of (fun h73 => (fun h => by cases h; rfl)) (fun h73 => (br_of (fun h74 => (fun h => by cases h; rfl)) (fun h74 => (guard_of fun h75 => (fun h => ⟨h75, (fun h => by cases h; rfl) h⟩)))))))) ((L13_3_succ tt n v0 v1 v2 v3 v4).symm.trans h))), (fun v0 v1 v2 v3 v4 r h => Go.Sx.wpS_run (L := []) (by kernel_rfl) (form13_4 n tt v0 v1 v2 v3 v4 (.tup [.str r.1, .int .i64 r.2.1, .int .i64 r.2.2])) ((br_of (fun h76 => (guard_of fun h77 => (fun h => ⟨h77, (guard_of fun h78 => (guard_of fun h79 => (guard_of fun h80 => (fun h => ⟨(and_t h78 (and_t h79 h80)), (guard_of fun h81 => (fun h => ⟨h81, (fun h => ih4 (v0) (v1 + 1) (v2) (wrapA .i64 (Int.add v3 1)) (l13_101 tt v0 v4) r h) h⟩)) h⟩)))) h⟩))) (fun h76 => (br_of (fun h82 => (br_of (fun h83 => (fun h => by cases h; rfl)) (fun h83 => (fun h => by cases h; rfl)))) (fun h82 => (br_of (fun h84 => (guard_of fun h85 => (guard_of fun h86 => (guard_of fun h87 => (fun h => ⟨(and_t (and_t h85 (and_t' h86 h87)) h84), (guard_of fun h88 => (fun h => ⟨h88, (fun h => ih1 (wrapA .i64 (Int.add v0 1)) (v1) (v1) (List.take (v1 * 1) v4) r h) h⟩)) h⟩))))) (fun h84 => (guard_of fun h89 => (guard_of fun h90 => (guard_of fun h91 => (fun h => ⟨(and_t h89 (and_t' h90 h91)), (fun h => ih0 (wrapA .i64 (Int.add v0 1)) r h) h⟩)))))))))) ((L13_4_succ tt n v0 v1 v2 v3 v4).symm.trans h))), (fun v0 v1 v2 v3 v4 v5 v6 v7 r h => Go.Sx.wpS_run (L := []) (by kernel_rfl) (form13_5 n tt v0 v1 v2 v3 v4 v5 v6 v7 (.tup [.str r.1, .int .i64 r.2.1, .int .i64 r.2.2])) ((br_of (fun h92 => (guard_of fun h93 => (fun h => ⟨h93, (guard_of fun h94 => (guard_of fun h95 => (guard_of fun h96 => (fun h => ⟨(and_t h94 (and_t h95 h96)), (guard_of fun h97 => (fun h => ⟨h97, (guard_of fun h98 => (fun h => ⟨h98, (fun h => ih5 (v0) (v1 + 1) (v2) (wrapA .i64 (Int.add v3 1)) (l13_102 tt v0 v4) (v5) (v6) (v7) r h) h⟩)) h⟩)) h⟩)))) h⟩))) (fun h92 => (br_of (fun h99 => (br_of (fun h100 => (fun h => by cases h; rfl)) (fun h100 => (br_of (fun h101 => (fun h => by cases h; rfl)) (fun h101 => (guard_of fun h102 => (fun h => ⟨h102, (fun h => by cases h; rfl) h⟩))))))) (fun h99 => (br_of (fun h103 => (guard_of fun h104 => (guard_of fun h105 => (guard_of fun h106 => (guard_of fun h107 => (guard_of fun h108 => (guard_of fun h109 => (fun h => ⟨(and_t (and_t h104 (and_t' h105 h106)) (and_t h103 (and_t h107 (and_t h108 h109)))), (guard_of fun h110 => (fun h => ⟨h110, (fun h => ih1 (wrapA .i64 (Int.add v0 1)) (v5 + v1) (v5 + v1) (l13_103 v1 v4 v7) r h) h⟩)) h⟩)))))))) (fun h103 => (br_of (fun h111 => (guard_of fun h112 => (guard_of fun h113 => (guard_of fun h114 => (guard_of fun h115 => (guard_of fun h116 => (guard_of fun h117 => (fun h => ⟨(and_t (and_t h112 (and_t' h113 h114)) (and_t h115 (and_t h111 (and_t h116 h117)))), (guard_of fun h118 => (fun h => ⟨h118, (fun h => ih1 (wrapA .i64 (Int.add v0 1)) (v5 + v1) (v6) (l13_104 v1 v4 v5 v7) r h) h⟩)) h⟩)))))))) (fun h111 => (guard_of fun h119 => (guard_of fun h120 => (guard_of fun h121 => (fun h => ⟨(and_t h119 (and_t' h120 h121)), (guard_of fun h122 => (fun h => ⟨h122, (fun h => ih1 (wrapA .i64 (Int.add v0 1)) (v5) (v6) (v7) r h) h⟩)) h⟩)))))))))))) ((L13_5_succ tt n v0 v1 v2 v3 v4 v5 v6 v7).symm.trans h)))⟩
noncomputable def F13 (n : Nat) (tt : List Nat) : Option (List Nat × Int × Int) := (bif (ltI 65536 (↑(List.length tt) : Int)) then (some ([], 0, 3)) else (L13_0 tt n 0))
set_option maxHeartbeats 4000000 in
theorem form13 (n : Nat) (tt : List Nat) (vz : AV) : Go.Sx.wpS Try.prog Try.f13 [] vz (.st [0, 0, 2, 2, 2, 0, 0, 0, 0, 0, 0, 2, 2, 2, 0, 0] (.br 13 (.st [0, 0, 0, 2, 2, 2, 0, 0, 2, 0, 0] .ans) (.st [0, 2, 0, 0, 0, 2, 0, 0, 0, 0, 2, 2, 0, 0, 0, 2, 0, 0, 0, 0, 2, 0, 0, 0, 2, 2, 0, 0, 0, 0, 2, 2, 0, 0, 2, 0, 0, 0, 0, 0, 0, 0, 2, 0, 0, 0, 0] (.stop ⟨[[0, 1, 3], [2, 3, 4, 5, 6]], [[5, 6]], [2, 0, 1]⟩ [(3, 3), (2, 2), (0, 0), (1, 1)] 4 [])))) [] (.code body13 (Go.Sx.startA [.str tt] Try.f13) (Go.Sx.laidHeap [])) = (BR (ltI 65536 (↑(List.length tt) : Int)) (vz = .tup [.str [], .int .i64 (.ofNat 0), .int .i64 (.ofNat 3)]) (Go.Sx.RunAt Try.prog Try.f13 [] vz sk13_0 (pt13_0 tt 0))) := by kernel_rfl
set_option maxHeartbeats 4000000 in
theorem run13 (n : Nat) (tt : List Nat)  (r : List Nat × Int × Int) (h : F13 n tt = some r) : Go.Sx.Run Try.prog Try.f13 [] (.tup [.str r.1, .int .i64 r.2.1, .int .i64 r.2.2]) [] (.code body13 (Go.Sx.startA [.str tt] Try.f13) (Go.Sx.laidHeap [])) := by
  obtain ⟨ih0, ih1, ih2, ih3, ih4, ih5⟩ := runs13 tt  n
  exact Go.Sx.wpS_run (L := []) (by kernel_rfl) (form13 n tt (.tup [.str r.1, .int .i64 r.2.1, .int .i64 r.2.2])) ((br_of (fun h0 => (fun h => by cases h; rfl)) (fun h0 => (fun h => ih0 0 r h))) h)
noncomputable def F13_0 (n : Nat) (tt : List Nat) : List Nat := ((F13 n tt).getD default).1
noncomputable def F13_1 (n : Nat) (tt : List Nat) : Int := ((F13 n tt).getD default).2.1
noncomputable def F13_2 (n : Nat) (tt : List Nat) : Int := ((F13 n tt).getD default).2.2
theorem fact13 (n : Nat) (tt : List Nat)  (h : (F13 n tt).isSome = true) : Fact Try.prog [] 13 [.str tt] (.tup [.str (F13_0 n tt), .int .i64 (F13_1 n tt), .int .i64 (F13_2 n tt)]) := Go.Sx.fact_of_run okayed (by kernel_rfl) (by kernel_rfl) Try.func13 body13_eq (run13 n tt  ((F13 n tt).getD default) (Go.Sx.getD_some h))
noncomputable def body9 : Go.Code := (Try.f9.body).getD .skip
theorem body9_eq : Try.f9.body = some body9 := Go.Sx.some_getD (by kernel_rfl)
set_option maxRecDepth 10000000 in
theorem ran9 : Go.Sx.endB Try.prog Try.f9 (Go.Sx.go Try.prog 100000 [] (Go.Sx.script [1]) [] (.code body9 (Go.Sx.startA [] Try.f9) (Go.Sx.laidHeap []))) = true := by kernel_rfl
theorem fact9 : Fact Try.prog [] 9 [] (.bool true) := Go.Sx.fact_of_run okayed (by kernel_rfl) (by kernel_rfl) Try.func9 body9_eq (Go.Sx.run_end ran9)
noncomputable def body4s : Go.Code := (Try.f4.body).getD .skip
theorem body4s_eq : Try.f4.body = some body4s := Go.Sx.some_getD (by kernel_rfl)
noncomputable def sk4s_0 : List Go.Sx.FC × Go.Sx.CC := (Go.Sx.skelAt Try.prog [.fn 4 [.r, .r, .r, .r, .r, .l, .r, .i, .h]] []).getD ([], .code .skip)
noncomputable def k4s_29 (n : (Nat)) (x0 : (List AV)) (c0 k0 : Nat) : Nat := (List.length (F12_0 n (F10s_0 n x0 c0 k0) ++ F12_0 n (F10s_0 n x0 c0 k0)))
noncomputable def t4s_30 (n : (Nat)) (x0 : (List AV)) (c0 k0 : Nat) : Int := ((↑(List.length (F12_0 n (F10s_0 n x0 c0 k0) ++ F12_0 n (F10s_0 n x0 c0 k0))) : Int))
noncomputable def l4s_31 (n : (Nat)) (x0 : (List AV)) (c0 k0 : Nat) : List AV := (List.map (fun b => AV.int .u8 ((b % 256 : Nat) : Int)) (F12_0 n (F10s_0 n x0 c0 k0) ++ F12_0 n (F10s_0 n x0 c0 k0)))
noncomputable def l4s_32 (n : (Nat)) (x0 : (List AV)) (c0 k0 : Nat) (a2 a3 : Int) : List AV := (Go.Sx.putL (List.map (fun b => AV.int .u8 ((b % 256 : Nat) : Int)) (F12_0 n (F10s_0 n x0 c0 k0) ++ F12_0 n (F10s_0 n x0 c0 k0))) (atI 0 (Int.tmod (wrapA .i64 a2) (t4s_30 n x0 c0 k0)) 1) [AV.int .u8 a3])
noncomputable def u4s_33 (a0 : (List Nat)) : List Nat := (Go.Sx.subS a0 0 (Int.toNat (if 70000 < (↑(List.length a0) : Int) then 70000 else (↑(List.length a0) : Int))))
noncomputable def u4s_34 (v0 : (List Nat)) (v1 : (List Nat)) (v2 : (List Nat)) (v3 : (Int)) : List Nat := (strC [AV.str v0, AV.str v1, AV.str v2] (Int.toNat v3 * 1))
noncomputable def c4s_35 (n : (Nat)) (v0 : (List Nat)) (v1 : (List Nat)) (v2 : (List Nat)) (v3 : (Int)) : Bool := (!strEq (F13_0 n (u4s_34 v0 v1 v2 v3)) (F14_0 n (u4s_34 v0 v1 v2 v3)))
noncomputable def c4s_36 (n : (Nat)) (v0 : (List Nat)) (v1 : (List Nat)) (v2 : (List Nat)) (v3 : (Int)) : Bool := (!eqI (F13_1 n (u4s_34 v0 v1 v2 v3)) (F14_1 n (u4s_34 v0 v1 v2 v3)))
noncomputable def c4s_37 (n : (Nat)) (v0 : (List Nat)) (v1 : (List Nat)) (v2 : (List Nat)) (v3 : (Int)) : Bool := (!eqI (F13_2 n (u4s_34 v0 v1 v2 v3)) (F14_2 n (u4s_34 v0 v1 v2 v3)))
noncomputable def pt4s_0 (a0 : List Nat) (x0 : List AV) (c0 k0 : Nat) (a2 a3 : Int) (v0 : List Nat) (v1 : List Nat) (v2 : List Nat) (v3 : Int) : Go.Sx.Pt := ⟨[(78, [(48, .agg [.str (v0), .str (v1), .str (v2)]), (49, .int .i64 (v3))])], [], 11, []⟩
mutual
noncomputable def L4s_0 (a0 : List Nat) (x0 : List AV) (c0 k0 : Nat) (a2 a3 : Int) : Nat → (List Nat) → (List Nat) → (List Nat) → Int → Option (Bool)
  | 0, _, _, _, _ => none
  | n + 1, v0, v1, v2, v3 => (bif (ltI v3 3) then (bif (inB v3 3) then (bif (Go.Sx.cellB [AV.str v0, AV.str v1, AV.str v2] (Int.toNat v3 * 1) CK.str) then (bif (Option.isSome (F13 n (u4s_34 v0 v1 v2 v3))) then (bif (Option.isSome (F14 n (u4s_34 v0 v1 v2 v3))) then (bif (c4s_35 n v0 v1 v2 v3) then (some false) else (bif (c4s_36 n v0 v1 v2 v3) then (some false) else (bif (c4s_37 n v0 v1 v2 v3) then (some false) else (L4s_0 a0 x0 c0 k0 a2 a3 n (v0) (v1) (v2) (wrapA .i64 (Int.add v3 1)))))) else none) else none) else none) else none) else (some true))
termination_by structural n => n
end
theorem L4s_0_succ (a0 : List Nat) (x0 : List AV) (c0 k0 : Nat) (a2 a3 : Int) (n : Nat) (v0 : List Nat) (v1 : List Nat) (v2 : List Nat) (v3 : Int) : L4s_0 a0 x0 c0 k0 a2 a3 (n + 1) v0 v1 v2 v3 = (bif (ltI v3 3) then (bif (inB v3 3) then (bif (Go.Sx.cellB [AV.str v0, AV.str v1, AV.str v2] (Int.toNat v3 * 1) CK.str) then (bif (Option.isSome (F13 n (u4s_34 v0 v1 v2 v3))) then (bif (Option.isSome (F14 n (u4s_34 v0 v1 v2 v3))) then (bif (c4s_35 n v0 v1 v2 v3) then (some false) else (bif (c4s_36 n v0 v1 v2 v3) then (some false) else (bif (c4s_37 n v0 v1 v2 v3) then (some false) else (L4s_0 a0 x0 c0 k0 a2 a3 n (v0) (v1) (v2) (wrapA .i64 (Int.add v3 1)))))) else none) else none) else none) else none) else (some true)) := rfl
set_option maxHeartbeats 4000000 in
theorem form4s_0 (n : Nat) (a0 : List Nat) (x0 : List AV) (c0 k0 : Nat) (a2 a3 : Int) (v0 : List Nat) (v1 : List Nat) (v2 : List Nat) (v3 : Int) (vz : AV) : Go.Sx.wpS Try.prog Try.f4 [(0, x0)] vz (.st [0, 0, 0, 2, 0, 0, 0] (.br 50 (.st [0, 2, 0, 0, 0, 0, 0] (.sp 2 (.st [2, 0, 0, 0, 0, 2] (.use [] (.tup [.str (F13_0 n (u4s_34 v0 v1 v2 v3)), .int .i64 (F13_1 n (u4s_34 v0 v1 v2 v3)), .int .i64 (F13_2 n (u4s_34 v0 v1 v2 v3))]) (.st [2, 2, 2, 2, 2, 2, 2, 0, 0, 0, 0, 2] (.use [] (.tup [.str (F14_0 n (u4s_34 v0 v1 v2 v3)), .int .i64 (F14_1 n (u4s_34 v0 v1 v2 v3)), .int .i64 (F14_2 n (u4s_34 v0 v1 v2 v3))]) (.st [2, 2, 2, 2, 2, 2, 2, 0, 0, 0, 0, 2, 2, 2, 2] (.br 67 (.st [2, 2, 2, 2, 2, 2, 2, 2, 2, 0, 0, 0, 0, 0, 2, 0, 0, 2, 0, 0, 0, 0, 0] .ans) (.st [2, 2, 2, 2, 2] (.br 72 (.st [2, 2, 2, 2, 0, 0, 0, 0, 0, 2, 0, 0, 2, 0, 0, 0, 0, 0] .ans) (.st [2, 2, 2, 2, 0, 0] (.br 76 (.st [0, 0, 0, 2, 0, 0, 2, 0, 0, 0, 0, 0] .ans) (.st [0, 2, 0, 0, 0, 2, 2, 0, 0] (.stop ⟨[[48, 49]], [], []⟩ [] 11 [])))))))))))))) (.st [0, 2, 0, 0, 0, 0, 0, 0, 2, 0, 0, 2] .ans))) (Go.Sx.mkK sk4s_0.1 (pt4s_0 a0 x0 c0 k0 a2 a3 v0 v1 v2 v3).frs.tail) (Go.Sx.mkC [(0, x0)] (pt4s_0 a0 x0 c0 k0 a2 a3 v0 v1 v2 v3) sk4s_0.1 sk4s_0.2) = (BR (ltI v3 3) (AN (andB (inB v3 3) (Go.Sx.cellB [AV.str v0, AV.str v1, AV.str v2] (Int.toNat v3 * 1) CK.str)) (Fact Try.prog [] 13 [.str (u4s_34 v0 v1 v2 v3)] (.tup [.str (F13_0 n (u4s_34 v0 v1 v2 v3)), .int .i64 (F13_1 n (u4s_34 v0 v1 v2 v3)), .int .i64 (F13_2 n (u4s_34 v0 v1 v2 v3))]) ∧ (Fact Try.prog [] 14 [.str (u4s_34 v0 v1 v2 v3)] (.tup [.str (F14_0 n (u4s_34 v0 v1 v2 v3)), .int .i64 (F14_1 n (u4s_34 v0 v1 v2 v3)), .int .i64 (F14_2 n (u4s_34 v0 v1 v2 v3))]) ∧ (BR (c4s_35 n v0 v1 v2 v3) (vz = .bool false) (BR (c4s_36 n v0 v1 v2 v3) (vz = .bool false) (BR (c4s_37 n v0 v1 v2 v3) (vz = .bool false) (Go.Sx.RunAt Try.prog Try.f4 [(0, x0)] vz sk4s_0 (pt4s_0 a0 x0 c0 k0 a2 a3 (v0) (v1) (v2) (wrapA .i64 (Int.add v3 1)))))))))) (vz = .bool true)) := by kernel_rfl
set_option maxHeartbeats 4000000 in
theorem runs4s (a0 : List Nat) (x0 : List AV) (c0 k0 : Nat) (a2 a3 : Int) (px0 : Go.Sx.pureAVs x0 = true) : ∀ (n : Nat), (∀ (v0 : List Nat) (v1 : List Nat) (v2 : List Nat) (v3 : Int) (r : Bool), L4s_0 a0 x0 c0 k0 a2 a3 n v0 v1 v2 v3 = some r → Go.Sx.RunAt Try.prog Try.f4 [(0, x0)] (.bool r) sk4s_0 (pt4s_0 a0 x0 c0 k0 a2 a3 v0 v1 v2 v3)) := by
  intro n
  induction n with
  | zero => exact (fun _ _ _ _ r h => by cases h)
  | succ n ih =>
    have ih0 := ih
    exact (fun v0 v1 v2 v3 r h => Go.Sx.wpS_run (L := [(0, x0)]) (Go.Sx.laid_cons px0 (by kernel_rfl)) (form4s_0 n a0 x0 c0 k0 a2 a3 v0 v1 v2 v3 (.bool r)) ((br_of (fun h10 => (guard_of fun h11 => (guard_of fun h12 => (fun h => ⟨(and_t h11 h12), (guard_of fun h13 => (fun h => ⟨fact13 (n) (u4s_34 v0 v1 v2 v3) h13, (guard_of fun h14 => (fun h => ⟨fact14 (n) (u4s_34 v0 v1 v2 v3) h14, (br_of (fun h15 => (fun h => by cases h; rfl)) (fun h15 => (br_of (fun h16 => (fun h => by cases h; rfl)) (fun h16 => (br_of (fun h17 => (fun h => by cases h; rfl)) (fun h17 => (fun h => ih0 (v0) (v1) (v2) (wrapA .i64 (Int.add v3 1)) r h))))))) h⟩)) h⟩)) h⟩)))) (fun h10 => (fun h => by cases h; rfl))) ((L4s_0_succ a0 x0 c0 k0 a2 a3 n v0 v1 v2 v3).symm.trans h)))
noncomputable def F4s (n : Nat) (a0 : List Nat) (x0 : List AV) (c0 k0 : Nat) (a2 a3 : Int) : Option (Bool) := (bif (Go.Sx.pureAVs x0) then (bif (Option.isSome (F10s n x0 c0 k0)) then (bif (Option.isSome (F12 n (F10s_0 n x0 c0 k0))) then (bif (Nat.blt (List.length (F12_0 n (F10s_0 n x0 c0 k0)) + List.length (F12_0 n (F10s_0 n x0 c0 k0))) 9223372036854775808) then (bif (!eqI (t4s_30 n x0 c0 k0) 0) then (bif (inB (Int.tmod (wrapA .i64 a2) (t4s_30 n x0 c0 k0)) (k4s_29 n x0 c0 k0)) then (bif (Go.Sx.putOk (l4s_31 n x0 c0 k0) (atI 0 (Int.tmod (wrapA .i64 a2) (t4s_30 n x0 c0 k0)) 1) 1) then (bif (!ltI (if Bool.true = Bool.true then if 70000 < (↑(List.length a0) : Int) then 70000 else (↑(List.length a0) : Int) else if 70000 > (↑(List.length a0) : Int) then 70000 else (↑(List.length a0) : Int)) 0) then (bif (leB (Int.toNat (if Bool.true = Bool.true then if 70000 < (↑(List.length a0) : Int) then 70000 else (↑(List.length a0) : Int) else if 70000 > (↑(List.length a0) : Int) then 70000 else (↑(List.length a0) : Int))) (List.length a0)) then (bif (Go.Sx.strOk (l4s_32 n x0 c0 k0 a2 a3) 0 (k4s_29 n x0 c0 k0)) then (L4s_0 a0 x0 c0 k0 a2 a3 n (u4s_33 a0) (F12_0 n (F10s_0 n x0 c0 k0)) (Go.Sx.strOf (l4s_32 n x0 c0 k0 a2 a3) 0 (k4s_29 n x0 c0 k0)) 0) else none) else none) else none) else none) else none) else none) else none) else none) else none) else none)
set_option maxHeartbeats 4000000 in
theorem form4s (n : Nat) (a0 : List Nat) (x0 : List AV) (c0 k0 : Nat) (a2 a3 : Int) (vz : AV) : Go.Sx.wpS Try.prog Try.f4 [(0, x0)] vz (.st [0, 0, 2, 0, 0, 0, 0, 0] (.use [] (.bool true) (.st [2, 0, 0, 0, 2, 0, 0, 0, 2] (.use [1048576] (.str (F10s_0 n x0 c0 k0)) (.use [] (.tup [.str (F12_0 n (F10s_0 n x0 c0 k0)), .int .i64 (F12_1 n (F10s_0 n x0 c0 k0))]) (.st [2, 2, 2, 2, 2, 0, 0, 0, 0, 2, 2] (.sp 2 (.st [2, 2, 0, 0, 0, 0, 2, 2, 2, 2, 2] (.sp 2 (.st [2] (.sp 2 (.sp 2 (.st [0, 0, 0, 0] (.dr [.run, .run, .run, .run, .sp 0, .run, .run, .sp 0, .run, .run] (.st [0, 0, 0, 0] (.stop ⟨[[48, 49]], [], []⟩ [] 11 [])))))))))))))))) [] (.code body4s (Go.Sx.startA [.str a0, .slc 1048576 0 c0 (.exact k0), .int .u16 a2, .int .u8 a3] Try.f4) (Go.Sx.laidHeap [(0, x0)])) = (Fact Try.prog [] 9 [] (.bool true) ∧ (Fact Try.prog [(0, (x0))] 10 [.slc 1048576 0 (c0) (.exact (k0))] (.str (F10s_0 n x0 c0 k0)) ∧ (Fact Try.prog [] 12 [.str (F10s_0 n x0 c0 k0)] (.tup [.str (F12_0 n (F10s_0 n x0 c0 k0)), .int .i64 (F12_1 n (F10s_0 n x0 c0 k0))]) ∧ (AN (Nat.blt (List.length (F12_0 n (F10s_0 n x0 c0 k0)) + List.length (F12_0 n (F10s_0 n x0 c0 k0))) 9223372036854775808) (AN (!eqI (t4s_30 n x0 c0 k0) 0) (AN (inB (Int.tmod (wrapA .i64 a2) (t4s_30 n x0 c0 k0)) (k4s_29 n x0 c0 k0)) (AN (Go.Sx.putOk (l4s_31 n x0 c0 k0) (atI 0 (Int.tmod (wrapA .i64 a2) (t4s_30 n x0 c0 k0)) 1) 1) (AN (andB (andB (andB (!ltI (if Bool.true = Bool.true then if 70000 < (↑(List.length a0) : Int) then 70000 else (↑(List.length a0) : Int) else if 70000 > (↑(List.length a0) : Int) then 70000 else (↑(List.length a0) : Int)) 0) Bool.true) (leB (Int.toNat (if Bool.true = Bool.true then if 70000 < (↑(List.length a0) : Int) then 70000 else (↑(List.length a0) : Int) else if 70000 > (↑(List.length a0) : Int) then 70000 else (↑(List.length a0) : Int))) (List.length a0))) (andB (Go.Sx.strOk (l4s_32 n x0 c0 k0 a2 a3) 0 (k4s_29 n x0 c0 k0)) Bool.true)) (Go.Sx.RunAt Try.prog Try.f4 [(0, x0)] vz sk4s_0 (pt4s_0 a0 x0 c0 k0 a2 a3 (u4s_33 a0) (F12_0 n (F10s_0 n x0 c0 k0)) (Go.Sx.strOf (l4s_32 n x0 c0 k0 a2 a3) 0 (k4s_29 n x0 c0 k0)) 0)))))))))) := by kernel_rfl
set_option maxHeartbeats 4000000 in
theorem run4s (n : Nat) (a0 : List Nat) (x0 : List AV) (c0 k0 : Nat) (a2 a3 : Int) (px0 : Go.Sx.pureAVs x0 = true) (r : Bool) (h : F4s n a0 x0 c0 k0 a2 a3 = some r) : Go.Sx.Run Try.prog Try.f4 [(0, x0)] (.bool r) [] (.code body4s (Go.Sx.startA [.str a0, .slc 1048576 0 c0 (.exact k0), .int .u16 a2, .int .u8 a3] Try.f4) (Go.Sx.laidHeap [(0, x0)])) := by
  have ih0 := runs4s a0 x0 c0 k0 a2 a3 px0 n
  exact Go.Sx.wpS_run (L := [(0, x0)]) (Go.Sx.laid_cons px0 (by kernel_rfl)) (form4s n a0 x0 c0 k0 a2 a3 (.bool r)) ((fun h => ⟨fact9 , (guard_of fun h0 => (guard_of fun h1 => (fun h => ⟨fact10s (n) (x0) (c0) (k0) h0 h1, (guard_of fun h2 => (fun h => ⟨fact12 (n) (F10s_0 n x0 c0 k0) h2, (guard_of fun h3 => (fun h => ⟨h3, (guard_of fun h4 => (fun h => ⟨h4, (guard_of fun h5 => (fun h => ⟨h5, (guard_of fun h6 => (fun h => ⟨h6, (guard_of fun h7 => (guard_of fun h8 => (guard_of fun h9 => (fun h => ⟨(and_t (and_t (and_t h7 rfl) h8) (and_t h9 rfl)), (fun h => ih0 (u4s_33 a0) (F12_0 n (F10s_0 n x0 c0 k0)) (Go.Sx.strOf (l4s_32 n x0 c0 k0 a2 a3) 0 (k4s_29 n x0 c0 k0)) 0 r h) h⟩)))) h⟩)) h⟩)) h⟩)) h⟩)) h⟩)) h⟩))) h⟩) h)
noncomputable def body4e : Go.Code := (Try.f4.body).getD .skip
theorem body4e_eq : Try.f4.body = some body4e := Go.Sx.some_getD (by kernel_rfl)
noncomputable def sk4e_0 : List Go.Sx.FC × Go.Sx.CC := (Go.Sx.skelAt Try.prog [.fn 4 [.r, .r, .r, .r, .r, .l, .r, .i, .h]] []).getD ([], .code .skip)
noncomputable def k4e_22 (n : (Nat)) : Nat := (List.length (F12_0 n [] ++ F12_0 n []))
noncomputable def t4e_23 (n : (Nat)) : Int := ((↑(List.length (F12_0 n [] ++ F12_0 n [])) : Int))
noncomputable def l4e_24 (n : (Nat)) : List AV := (List.map (fun b => AV.int .u8 ((b % 256 : Nat) : Int)) (F12_0 n [] ++ F12_0 n []))
noncomputable def l4e_25 (n : (Nat)) (a2 a3 : Int) : List AV := (Go.Sx.putL (List.map (fun b => AV.int .u8 ((b % 256 : Nat) : Int)) (F12_0 n [] ++ F12_0 n [])) (atI 0 (Int.tmod (wrapA .i64 a2) (t4e_23 n)) 1) [AV.int .u8 a3])
noncomputable def u4e_26 (a0 : (List Nat)) : List Nat := (Go.Sx.subS a0 0 (Int.toNat (if 70000 < (↑(List.length a0) : Int) then 70000 else (↑(List.length a0) : Int))))
noncomputable def u4e_27 (v0 : (List Nat)) (v1 : (List Nat)) (v2 : (List Nat)) (v3 : (Int)) : List Nat := (strC [AV.str v0, AV.str v1, AV.str v2] (Int.toNat v3 * 1))
noncomputable def c4e_28 (n : (Nat)) (v0 : (List Nat)) (v1 : (List Nat)) (v2 : (List Nat)) (v3 : (Int)) : Bool := (!strEq (F13_0 n (u4e_27 v0 v1 v2 v3)) (F14_0 n (u4e_27 v0 v1 v2 v3)))
noncomputable def c4e_29 (n : (Nat)) (v0 : (List Nat)) (v1 : (List Nat)) (v2 : (List Nat)) (v3 : (Int)) : Bool := (!eqI (F13_1 n (u4e_27 v0 v1 v2 v3)) (F14_1 n (u4e_27 v0 v1 v2 v3)))
noncomputable def c4e_30 (n : (Nat)) (v0 : (List Nat)) (v1 : (List Nat)) (v2 : (List Nat)) (v3 : (Int)) : Bool := (!eqI (F13_2 n (u4e_27 v0 v1 v2 v3)) (F14_2 n (u4e_27 v0 v1 v2 v3)))
noncomputable def pt4e_0 (a0 : List Nat) (a2 a3 : Int) (v0 : List Nat) (v1 : List Nat) (v2 : List Nat) (v3 : Int) : Go.Sx.Pt := ⟨[(78, [(48, .agg [.str (v0), .str (v1), .str (v2)]), (49, .int .i64 (v3))])], [], 11, []⟩
mutual
noncomputable def L4e_0 (a0 : List Nat) (a2 a3 : Int) : Nat → (List Nat) → (List Nat) → (List Nat) → Int → Option (Bool)
  | 0, _, _, _, _ => none
  | n + 1, v0, v1, v2, v3 => (bif (ltI v3 3) then (bif (inB v3 3) then (bif (Go.Sx.cellB [AV.str v0, AV.str v1, AV.str v2] (Int.toNat v3 * 1) CK.str) then (bif (Option.isSome (F13 n (u4e_27 v0 v1 v2 v3))) then (bif (Option.isSome (F14 n (u4e_27 v0 v1 v2 v3))) then (bif (c4e_28 n v0 v1 v2 v3) then (some false) else (bif (c4e_29 n v0 v1 v2 v3) then (some false) else (bif (c4e_30 n v0 v1 v2 v3) then (some false) else (L4e_0 a0 a2 a3 n (v0) (v1) (v2) (wrapA .i64 (Int.add v3 1)))))) else none) else none) else none) else none) else (some true))
termination_by structural n => n
end
theorem L4e_0_succ (a0 : List Nat) (a2 a3 : Int) (n : Nat) (v0 : List Nat) (v1 : List Nat) (v2 : List Nat) (v3 : Int) : L4e_0 a0 a2 a3 (n + 1) v0 v1 v2 v3 = (bif (ltI v3 3) then (bif (inB v3 3) then (bif (Go.Sx.cellB [AV.str v0, AV.str v1, AV.str v2] (Int.toNat v3 * 1) CK.str) then (bif (Option.isSome (F13 n (u4e_27 v0 v1 v2 v3))) then (bif (Option.isSome (F14 n (u4e_27 v0 v1 v2 v3))) then (bif (c4e_28 n v0 v1 v2 v3) then (some false) else (bif (c4e_29 n v0 v1 v2 v3) then (some false) else (bif (c4e_30 n v0 v1 v2 v3) then (some false) else (L4e_0 a0 a2 a3 n (v0) (v1) (v2) (wrapA .i64 (Int.add v3 1)))))) else none) else none) else none) else none) else (some true)) := rfl
set_option maxHeartbeats 4000000 in
theorem form4e_0 (n : Nat) (a0 : List Nat) (a2 a3 : Int) (v0 : List Nat) (v1 : List Nat) (v2 : List Nat) (v3 : Int) (vz : AV) : Go.Sx.wpS Try.prog Try.f4 [] vz (.st [0, 0, 0, 2, 0, 0, 0] (.br 50 (.st [0, 2, 0, 0, 0, 0, 0] (.sp 2 (.st [2, 0, 0, 0, 0, 2] (.use [] (.tup [.str (F13_0 n (u4e_27 v0 v1 v2 v3)), .int .i64 (F13_1 n (u4e_27 v0 v1 v2 v3)), .int .i64 (F13_2 n (u4e_27 v0 v1 v2 v3))]) (.st [2, 2, 2, 2, 2, 2, 2, 0, 0, 0, 0, 2] (.use [] (.tup [.str (F14_0 n (u4e_27 v0 v1 v2 v3)), .int .i64 (F14_1 n (u4e_27 v0 v1 v2 v3)), .int .i64 (F14_2 n (u4e_27 v0 v1 v2 v3))]) (.st [2, 2, 2, 2, 2, 2, 2, 0, 0, 0, 0, 2, 2, 2, 2] (.br 67 (.st [2, 2, 2, 2, 2, 2, 2, 2, 2, 0, 0, 0, 0, 0, 2, 0, 0, 2, 0, 0, 0, 0, 0] .ans) (.st [2, 2, 2, 2, 2] (.br 72 (.st [2, 2, 2, 2, 0, 0, 0, 0, 0, 2, 0, 0, 2, 0, 0, 0, 0, 0] .ans) (.st [2, 2, 2, 2, 0, 0] (.br 76 (.st [0, 0, 0, 2, 0, 0, 2, 0, 0, 0, 0, 0] .ans) (.st [0, 2, 0, 0, 0, 2, 2, 0, 0] (.stop ⟨[[48, 49]], [], []⟩ [] 11 [])))))))))))))) (.st [0, 2, 0, 0, 0, 0, 0, 0, 2, 0, 0, 2] .ans))) (Go.Sx.mkK sk4e_0.1 (pt4e_0 a0 a2 a3 v0 v1 v2 v3).frs.tail) (Go.Sx.mkC [] (pt4e_0 a0 a2 a3 v0 v1 v2 v3) sk4e_0.1 sk4e_0.2) = (BR (ltI v3 3) (AN (andB (inB v3 3) (Go.Sx.cellB [AV.str v0, AV.str v1, AV.str v2] (Int.toNat v3 * 1) CK.str)) (Fact Try.prog [] 13 [.str (u4e_27 v0 v1 v2 v3)] (.tup [.str (F13_0 n (u4e_27 v0 v1 v2 v3)), .int .i64 (F13_1 n (u4e_27 v0 v1 v2 v3)), .int .i64 (F13_2 n (u4e_27 v0 v1 v2 v3))]) ∧ (Fact Try.prog [] 14 [.str (u4e_27 v0 v1 v2 v3)] (.tup [.str (F14_0 n (u4e_27 v0 v1 v2 v3)), .int .i64 (F14_1 n (u4e_27 v0 v1 v2 v3)), .int .i64 (F14_2 n (u4e_27 v0 v1 v2 v3))]) ∧ (BR (c4e_28 n v0 v1 v2 v3) (vz = .bool false) (BR (c4e_29 n v0 v1 v2 v3) (vz = .bool false) (BR (c4e_30 n v0 v1 v2 v3) (vz = .bool false) (Go.Sx.RunAt Try.prog Try.f4 [] vz sk4e_0 (pt4e_0 a0 a2 a3 (v0) (v1) (v2) (wrapA .i64 (Int.add v3 1)))))))))) (vz = .bool true)) := by kernel_rfl
set_option maxHeartbeats 4000000 in
theorem runs4e (a0 : List Nat) (a2 a3 : Int)  : ∀ (n : Nat), (∀ (v0 : List Nat) (v1 : List Nat) (v2 : List Nat) (v3 : Int) (r : Bool), L4e_0 a0 a2 a3 n v0 v1 v2 v3 = some r → Go.Sx.RunAt Try.prog Try.f4 [] (.bool r) sk4e_0 (pt4e_0 a0 a2 a3 v0 v1 v2 v3)) := by
  intro n
  induction n with
  | zero => exact (fun _ _ _ _ r h => by cases h)
  | succ n ih =>
    have ih0 := ih
    exact (fun v0 v1 v2 v3 r h => Go.Sx.wpS_run (L := []) (by kernel_rfl) (form4e_0 n a0 a2 a3 v0 v1 v2 v3 (.bool r)) ((br_of (fun h8 => (guard_of fun h9 => (guard_of fun h10 => (fun h => ⟨(and_t h9 h10), (guard_of fun h11 => (fun h => ⟨fact13 (n) (u4e_27 v0 v1 v2 v3) h11, (guard_of fun h12 => (fun h => ⟨fact14 (n) (u4e_27 v0 v1 v2 v3) h12, (br_of (fun h13 => (fun h => by cases h; rfl)) (fun h13 => (br_of (fun h14 => (fun h => by cases h; rfl)) (fun h14 => (br_of (fun h15 => (fun h => by cases h; rfl)) (fun h15 => (fun h => ih0 (v0) (v1) (v2) (wrapA .i64 (Int.add v3 1)) r h))))))) h⟩)) h⟩)) h⟩)))) (fun h8 => (fun h => by cases h; rfl))) ((L4e_0_succ a0 a2 a3 n v0 v1 v2 v3).symm.trans h)))
noncomputable def F4e (n : Nat) (a0 : List Nat) (a2 a3 : Int) : Option (Bool) := (bif (Option.isSome (F12 n [])) then (bif (Nat.blt (List.length (F12_0 n []) + List.length (F12_0 n [])) 9223372036854775808) then (bif (!eqI (t4e_23 n) 0) then (bif (inB (Int.tmod (wrapA .i64 a2) (t4e_23 n)) (k4e_22 n)) then (bif (Go.Sx.putOk (l4e_24 n) (atI 0 (Int.tmod (wrapA .i64 a2) (t4e_23 n)) 1) 1) then (bif (!ltI (if Bool.true = Bool.true then if 70000 < (↑(List.length a0) : Int) then 70000 else (↑(List.length a0) : Int) else if 70000 > (↑(List.length a0) : Int) then 70000 else (↑(List.length a0) : Int)) 0) then (bif (leB (Int.toNat (if Bool.true = Bool.true then if 70000 < (↑(List.length a0) : Int) then 70000 else (↑(List.length a0) : Int) else if 70000 > (↑(List.length a0) : Int) then 70000 else (↑(List.length a0) : Int))) (List.length a0)) then (bif (Go.Sx.strOk (l4e_25 n a2 a3) 0 (k4e_22 n)) then (L4e_0 a0 a2 a3 n (u4e_26 a0) (F12_0 n []) (Go.Sx.strOf (l4e_25 n a2 a3) 0 (k4e_22 n)) 0) else none) else none) else none) else none) else none) else none) else none) else none)
set_option maxHeartbeats 4000000 in
theorem form4e (n : Nat) (a0 : List Nat) (a2 a3 : Int) (vz : AV) : Go.Sx.wpS Try.prog Try.f4 [] vz (.st [0, 0, 2, 0, 0, 0, 0, 0] (.use [] (.bool true) (.st [2, 0, 0, 0, 2, 0, 0, 0, 2] (.use [] (.str []) (.use [] (.tup [.str (F12_0 n []), .int .i64 (F12_1 n [])]) (.st [2, 2, 2, 2, 2, 0, 0, 0, 0, 2, 2] (.sp 2 (.st [2, 2, 0, 0, 0, 0, 2, 2, 2, 2, 2] (.sp 2 (.st [2] (.sp 2 (.sp 2 (.st [0, 0, 0, 0] (.dr [.run, .run, .run, .run, .sp 0, .run, .run, .sp 0, .run, .run] (.st [0, 0, 0, 0] (.stop ⟨[[48, 49]], [], []⟩ [] 11 [])))))))))))))))) [] (.code body4e (Go.Sx.startA [.str a0, .emp, .int .u16 a2, .int .u8 a3] Try.f4) (Go.Sx.laidHeap [])) = (Fact Try.prog [] 9 [] (.bool true) ∧ (Fact Try.prog [] 10 [.emp] (.str []) ∧ (Fact Try.prog [] 12 [.str []] (.tup [.str (F12_0 n []), .int .i64 (F12_1 n [])]) ∧ (AN (Nat.blt (List.length (F12_0 n []) + List.length (F12_0 n [])) 9223372036854775808) (AN (!eqI (t4e_23 n) 0) (AN (inB (Int.tmod (wrapA .i64 a2) (t4e_23 n)) (k4e_22 n)) (AN (Go.Sx.putOk (l4e_24 n) (atI 0 (Int.tmod (wrapA .i64 a2) (t4e_23 n)) 1) 1) (AN (andB (andB (andB (!ltI (if Bool.true = Bool.true then if 70000 < (↑(List.length a0) : Int) then 70000 else (↑(List.length a0) : Int) else if 70000 > (↑(List.length a0) : Int) then 70000 else (↑(List.length a0) : Int)) 0) Bool.true) (leB (Int.toNat (if Bool.true = Bool.true then if 70000 < (↑(List.length a0) : Int) then 70000 else (↑(List.length a0) : Int) else if 70000 > (↑(List.length a0) : Int) then 70000 else (↑(List.length a0) : Int))) (List.length a0))) (andB (Go.Sx.strOk (l4e_25 n a2 a3) 0 (k4e_22 n)) Bool.true)) (Go.Sx.RunAt Try.prog Try.f4 [] vz sk4e_0 (pt4e_0 a0 a2 a3 (u4e_26 a0) (F12_0 n []) (Go.Sx.strOf (l4e_25 n a2 a3) 0 (k4e_22 n)) 0)))))))))) := by kernel_rfl
set_option maxHeartbeats 4000000 in
theorem run4e (n : Nat) (a0 : List Nat) (a2 a3 : Int)  (r : Bool) (h : F4e n a0 a2 a3 = some r) : Go.Sx.Run Try.prog Try.f4 [] (.bool r) [] (.code body4e (Go.Sx.startA [.str a0, .emp, .int .u16 a2, .int .u8 a3] Try.f4) (Go.Sx.laidHeap [])) := by
  have ih0 := runs4e a0 a2 a3  n
  exact Go.Sx.wpS_run (L := []) (by kernel_rfl) (form4e n a0 a2 a3 (.bool r)) ((fun h => ⟨fact9 , (fun h => ⟨fact10e , (guard_of fun h0 => (fun h => ⟨fact12 (n) ([]) h0, (guard_of fun h1 => (fun h => ⟨h1, (guard_of fun h2 => (fun h => ⟨h2, (guard_of fun h3 => (fun h => ⟨h3, (guard_of fun h4 => (fun h => ⟨h4, (guard_of fun h5 => (guard_of fun h6 => (guard_of fun h7 => (fun h => ⟨(and_t (and_t (and_t h5 rfl) h6) (and_t h7 rfl)), (fun h => ih0 (u4e_26 a0) (F12_0 n []) (Go.Sx.strOf (l4e_25 n a2 a3) 0 (k4e_22 n)) 0 r h) h⟩)))) h⟩)) h⟩)) h⟩)) h⟩)) h⟩)) h⟩) h⟩) h)

set_option maxRecDepth 100000
theorem cT {α : Type} {b : Bool} {x y : α} (h : b = true) : (bif b then x else y) = x := by rw [h]; rfl
theorem cF {α : Type} {b : Bool} {x y : α} (h : b = false) : (bif b then x else y) = y := by rw [h]; rfl
theorem ltT {x y : Int} (h : x < y) : ltI x y = true := by rw [ltI_t]; exact h
theorem ltF {x y : Int} (h : y ≤ x) : ltI x y = false := by rw [ltI_f]; exact h
theorem nltT {x y : Int} (h : y ≤ x) : (!ltI x y) = true := by rw [ltF h]; rfl
theorem nltF {x y : Int} (h : x < y) : (!ltI x y) = false := by rw [ltT h]; rfl
theorem eqT {x y : Int} (h : x = y) : eqI x y = true := by rw [eqI_t]; exact h
theorem eqF {x y : Int} (h : x ≠ y) : eqI x y = false := by rw [eqI_f]; exact h
theorem inT {i : Int} {n : Nat} (h1 : 0 ≤ i) (h2 : i.toNat < n) : inB i n = true := by rw [inB_t]; exact ⟨h1, h2⟩
theorem nbltT {a b : Nat} (h : a < b) : Nat.blt a b = true := Nat.ble_eq_true_of_le h
theorem nbleT {a b : Nat} (h : a ≤ b) : Nat.ble a b = true := Nat.ble_eq_true_of_le h
theorem nbeqT {a b : Nat} (h : a = b) : Nat.beq a b = true := by rw [h]; exact Nat.beq_refl b
theorem w8 {n : Int} (h1 : 0 ≤ n) (h2 : n ≤ 255) : wrapA .u8 n = n := wrap_in (by simpa [IntKind.min, IntKind.signed] using h1) (by simpa [IntKind.max, IntKind.signed, IntKind.bits] using h2)
theorem w16 {n : Int} (h1 : 0 ≤ n) (h2 : n ≤ 65535) : wrapA .u16 n = n := wrap_in (by simpa [IntKind.min, IntKind.signed] using h1) (by simpa [IntKind.max, IntKind.signed, IntKind.bits] using h2)
theorem ku (k : IntKind) (h : k.signed = false) (n : Int) : IntKind.wrap k n = n % (2 ^ k.bits : Nat) := by
  unfold IntKind.wrap; rw [h]; simp
theorem wu8 (n : Int) : wrapA .u8 n = n % 256 := by rw [← kwrap_eq, ku .u8 rfl]; rfl
theorem wu16 (n : Int) : wrapA .u16 n = n % 65536 := by rw [← kwrap_eq, ku .u16 rfl]; rfl
theorem wu32 (n : Int) : wrapA .u32 n = n % 4294967296 := by rw [← kwrap_eq, ku .u32 rfl]; rfl
theorem kku8 (n : Int) : IntKind.wrap .u8 n = n % 256 := by rw [ku .u8 rfl]; rfl
/-- octets as cells -/
def by8 (l : List Nat) : List AV := l.map fun (b : Nat) => AV.int .u8 (b : Int)
theorem by8_len (l : List Nat) : (by8 l).length = l.length := by simp [by8]
theorem by8_app (a b : List Nat) : by8 a ++ by8 b = by8 (a ++ b) := by simp [by8]
theorem by8_pure : ∀ (l : List Nat), pureAVs (by8 l) = true
  | [] => rfl
  | x :: l => by show pureAVs (.int .u8 (x : Int) :: by8 l) = true; simp only [pureAVs, pureAV, Bool.true_and]; exact by8_pure l
theorem by8_plain : ∀ (l : List Nat), (by8 l).all AV.plain = true
  | [] => rfl
  | x :: l => by show (AV.plain (.int .u8 (x : Int)) && (by8 l).all AV.plain) = true; simp only [AV.plain, Bool.true_and]; exact by8_plain l
theorem by8_u8 : ∀ (l : List Nat), (by8 l).all isU8 = true
  | [] => rfl
  | x :: l => by show (isU8 (.int .u8 (x : Int)) && (by8 l).all isU8) = true; simp only [isU8, Bool.true_and]; exact by8_u8 l
theorem by8_str (l : List Nat) {k : Nat} (h : k = l.length) : strOk (by8 l) 0 k = true ∧ strOf (by8 l) 0 k = l := by
  subst h
  have ht : ((by8 l).drop 0).take l.length = by8 l := by rw [List.drop_zero, List.take_of_length_le (by rw [by8_len]; exact Nat.le_refl _)]
  refine ⟨?_, ?_⟩
  · simp only [strOk, ht, Bool.and_eq_true]
    exact ⟨nbleT (by rw [by8_len]; omega), by8_u8 l⟩
  · unfold Go.Sx.strOf; rw [ht]; simp only [by8, List.map_map]
    conv => rhs; rw [← List.map_id l]
    exact List.map_congr_left fun x _ => by simp
theorem dropc {s : List Nat} {i : Nat} (h : i < s.length) : s.drop i = s.getD i 0 :: s.drop (i + 1) := by
  rw [List.drop_eq_getElem_cons h, List.getD_eq_getElem?_getD, List.getElem?_eq_getElem h]; rfl
theorem byteI_at (s : List Nat) (i : Nat) : byteI s (i : Int) = ((s.getD i 0 % 256 : Nat) : Int) := rfl
theorem strEq_same (s : List Nat) : strEq s s = true := by simp [strEq]
theorem strEq_bytes {a b : List Nat} (ha : ∀ x ∈ a, x < 256) (hb : ∀ x ∈ b, x < 256) : strEq a b = decide (a = b) := by
  have key : ∀ l : List Nat, (∀ x ∈ l, x < 256) → l.map (· % 256) = l := fun l h => by
    conv => rhs; rw [← List.map_id l]
    exact List.map_congr_left fun x hx => by have := h x hx; simp; omega
  unfold strEq; rw [key a ha, key b hb]
  by_cases e : a = b
  · subst e; simp
  · simp [e]
theorem xor_u8 {p m : Nat} (hp : p < 256) (hm : m < 256) : IntKind.wrap .u8 (↑(BitVec.toNat (BitVec.ofInt 8 (p : Int) ^^^ BitVec.ofInt 8 (m : Int))) : Int) = ((p ^^^ m : Nat) : Int) := by
  have h := Nat.xor_lt_two_pow (n := 8) (x := p) (y := m) (by omega) (by omega)
  rw [BitVec.toNat_xor, BitVec.ofInt_natCast, BitVec.ofInt_natCast, BitVec.toNat_ofNat, BitVec.toNat_ofNat, Nat.mod_eq_of_lt (by omega), Nat.mod_eq_of_lt (by omega), kku8]
  omega
theorem xor_step (a b : Nat) : a ^^^ b = (if a % 2 = b % 2 then 0 else 1) + 2 * (a / 2 ^^^ b / 2) := by
  have h1 : (a ^^^ b) / 2 = a / 2 ^^^ b / 2 := Nat.xor_div_two
  have h2 : (a ^^^ b) % 2 = 1 ↔ ¬ ((a % 2 = 1) ↔ (b % 2 = 1)) := Nat.xor_mod_two_eq_one
  have h3 := Nat.div_add_mod (a ^^^ b) 2
  rw [h1] at h3
  have ha : a % 2 < 2 := Nat.mod_lt _ (by omega)
  have hb : b % 2 < 2 := Nat.mod_lt _ (by omega)
  have hx : (a ^^^ b) % 2 < 2 := Nat.mod_lt _ (by omega)
  split
  · rename_i e
    have : (a ^^^ b) % 2 ≠ 1 := fun q => (h2.1 q) (by rw [e])
    omega
  · rename_i e
    have : (a ^^^ b) % 2 = 1 := h2.2 (fun q => e (by
      by_cases z : a % 2 = 1
      · have := q.1 z; omega
      · have : ¬ b % 2 = 1 := fun y => z (q.2 y)
        omega))
    omega
def bt (s : List Nat) (i : Nat) : Nat := s.getD i 0 % 256
theorem bt_lt (s : List Nat) (i : Nat) : bt s i < 256 := Nat.mod_lt _ (by omega)
theorem bI (s : List Nat) (i : Nat) : wrapA .i64 (byteI s (i : Int)) = (bt s i : Int) := by
  have h := bt_lt s i
  have e : byteI s (i : Int) = (bt s i : Int) := rfl
  rw [e, wrap64 (by omega) (by omega)]
theorem bI' (s : List Nat) (i : Nat) : byteI s (i : Int) = (bt s i : Int) := rfl
theorem nx {i k : Nat} (h : i ≤ 9000000) (hk : k ≤ 9000000) : wrapA .i64 (Int.add (i : Int) (k : Int)) = ((i + k : Nat) : Int) := by rw [add_int, wrap64 (by omega) (by omega)]; omega
theorem nx1 {i : Nat} (h : i ≤ 9000000) : wrapA .i64 (Int.add (i : Int) 1) = ((i + 1 : Nat) : Int) := nx h (k := 1) (by omega)
theorem nx2 {i : Nat} (h : i ≤ 9000000) : wrapA .i64 (Int.add (i : Int) 2) = ((i + 2 : Nat) : Int) := nx h (k := 2) (by omega)
theorem sb {a : Nat} (h : a ≤ 256) : wrapA .i64 (Int.sub 257 (a : Int)) = ((257 - a : Nat) : Int) := by rw [sub_int, wrap64 (by omega) (by omega)]; omega
theorem sbl {a b : Nat} (h : a ≤ 90000) (h2 : b ≤ a) : wrapA .i64 (Int.sub (a : Int) (b : Int)) = ((a - b : Nat) : Int) := by rw [sub_int, wrap64 (by omega) (by omega)]; omega
theorem mapm (l : List Nat) : List.map (fun (b : Nat) => AV.int IntKind.u8 ((b % 256 : Nat) : Int)) l = by8 (l.map (· % 256)) := by simp [by8, List.map_map]
def seg (s : List Nat) (i : Nat) : List Nat := (s.drop (i + 1)).take (bt s i + 1)
theorem seg_len {s : List Nat} {i : Nat} (h : i + bt s i + 2 ≤ s.length) : (seg s i).length = bt s i + 1 := by
  unfold seg; rw [List.length_take, List.length_drop]; omega
theorem subSeg {s : List Nat} {i : Nat} : subS s (i + 1) (i + bt s i + 2) = seg s i := by
  unfold subS seg; rw [show i + bt s i + 2 - (i + 1) = bt s i + 1 by omega]
/-- what the records of a text from an index on denote -/
def rd (s : List Nat) : Nat → Nat → List Nat → List Nat × Int × Int
  | 0, _, _ => ([], 0, 5)
  | k + 1, i, out => if i < s.length then (if bt s i = 128 then (if 65536 < out.length then ([], 0, 3) else (out, ((i + 1 : Nat) : Int), 0)) else if bt s i < 128 then (if i + bt s i + 2 ≤ s.length then rd s k (i + bt s i + 2) (out ++ (seg s i).map (· % 256)) else ([], 0, 5)) else (if i + 2 ≤ s.length then rd s k (i + 2) (out ++ List.replicate (257 - bt s i) (bt s (i + 1))) else ([], 0, 5))) else ([], 0, 5)
theorem rd_succ (s : List Nat) (k i : Nat) (out : List Nat) : rd s (k + 1) i out = if i < s.length then (if bt s i = 128 then (if 65536 < out.length then ([], 0, 3) else (out, ((i + 1 : Nat) : Int), 0)) else if bt s i < 128 then (if i + bt s i + 2 ≤ s.length then rd s k (i + bt s i + 2) (out ++ (seg s i).map (· % 256)) else ([], 0, 5)) else (if i + 2 ≤ s.length then rd s k (i + 2) (out ++ List.replicate (257 - bt s i) (bt s (i + 1))) else ([], 0, 5))) else ([], 0, 5) := rfl
def rdS (s : List Nat) : List Nat × Int × Int := if 65536 < s.length then ([], 0, 3) else rd s 40000 0 []
theorem leT {a b : Nat} (h : a ≤ b) : leB a b = true := nbleT h
theorem rep_snoc (x j : Nat) : List.replicate j x ++ [x] = List.replicate (j + 1) x := by rw [List.replicate_succ']
theorem by8_snoc (a : List Nat) (x : Nat) : by8 a ++ [AV.int .u8 (x : Int)] = by8 (a ++ [x]) := by simp [by8]
theorem c48 {s : List Nat} {i : Nat} (hs : s.length ≤ 65536) (hi : i < s.length) : c14_48 s (i : Int) = decide (s.length < i + bt s i + 2) ∧ c14_53 s (i : Int) = decide (s.length < i + bt s i + 2) := by
  have hb := bt_lt s i
  have e : ltI (wrapA .i64 (Int.sub (s.length : Int) (i : Int))) (wrapA .i64 (Int.add (wrapA .i64 (byteI s (i : Int))) 2)) = decide (s.length < i + bt s i + 2) := by
    rw [bI, nx2 (by omega), sbl (by omega) (by omega)]
    by_cases q : s.length < i + bt s i + 2
    · rw [ltT (by omega)]; simp [q]
    · rw [ltF (by omega)]; simp [q]
  exact ⟨e, e⟩
theorem c52 {s : List Nat} {i : Nat} (hs : s.length ≤ 65536) (hi : i < s.length) : c14_52 s (i : Int) = decide (s.length < i + 2) ∧ c14_58 s (i : Int) = decide (s.length < i + 2) := by
  have e : ltI (wrapA .i64 (Int.sub (s.length : Int) (i : Int))) 2 = decide (s.length < i + 2) := by
    rw [sbl (by omega) (by omega)]
    by_cases q : s.length < i + 2
    · rw [ltT (by omega)]; simp [q]
    · rw [ltF (by omega)]; simp [q]
  exact ⟨e, e⟩
theorem t49 {s : List Nat} {i : Nat} (hi : i ≤ 65536) : t14_49 s (i : Int) = ((i + bt s i + 2 : Nat) : Int) ∧ t14_54 s (i : Int) = ((i + bt s i + 2 : Nat) : Int) := by
  have hb := bt_lt s i
  have e : wrapA .i64 (Int.add (wrapA .i64 (Int.add (i : Int) (wrapA .i64 (byteI s (i : Int))))) 2) = ((i + bt s i + 2 : Nat) : Int) := by
    rw [bI, nx (by omega) (by omega), nx2 (by omega)]
  exact ⟨e, e⟩
theorem u50 {s : List Nat} {i : Nat} (hi : i ≤ 65536) : u14_50 s (i : Int) = seg s i ∧ u14_55 s (i : Int) = seg s i := by
  constructor
  · unfold u14_50; rw [nx1 (by omega), (t49 hi).1, Int.toNat_natCast, Int.toNat_natCast, subSeg]
  · unfold u14_55; rw [nx1 (by omega), (t49 hi).2, Int.toNat_natCast, Int.toNat_natCast, subSeg]
/-- the reference: equal octets -/
theorem l14_3 (s : List Nat) (hs : s.length ≤ 65536) (i b : Nat) (hi : i + 2 ≤ s.length) (hb : 129 ≤ b) (hb2 : b ≤ 255) (out : List Nat) (ho : out.length ≤ 9000000) : ∀ (d n j m : Nat), j + d = 257 - b → n = m + d + 1 →
    L14_3 s n (out.length + j) (out.length + j) (i : Int) (b : Int) (j : Int) (by8 (out ++ List.replicate j (bt s (i + 1)))) = L14_1 s m (out.length + (257 - b)) (out.length + (257 - b)) ((i + 2 : Nat) : Int) (by8 (out ++ List.replicate (257 - b) (bt s (i + 1)))) := by
  intro d
  induction d with
  | zero =>
    intro n j m hj hn
    have : j = 257 - b := by omega
    subst this; subst hn
    rw [L14_3_succ, sb (by omega), ltF (by omega), nx2 (by omega), by8_pure]
    rfl
  | succ d ih =>
    intro n j m hj hn
    subst hn
    rw [show m + (d + 1) + 1 = (m + d + 1) + 1 by omega, L14_3_succ, sb (by omega), ltT (by omega), nx1 (i := i) (by omega), inT (by omega) (by rw [Int.toNat_natCast]; omega), nx1 (i := j) (by omega)]
    have e60 : l14_60 s (i : Int) (by8 (out ++ List.replicate j (bt s (i + 1)))) = by8 (out ++ List.replicate (j + 1) (bt s (i + 1))) := by
      unfold l14_60; rw [nx1 (by omega), bI', by8_snoc, List.append_assoc, rep_snoc]
    have el : (by8 (out ++ List.replicate j (bt s (i + 1)))).length = out.length + j := by rw [by8_len, List.length_append, List.length_replicate]
    rw [e60, by8_pure, el]
    rw [nbltT (by omega), nbleT (by omega), nbeqT (by omega)]
    simp only [cond_true]
    have := ih (m + d + 1) (j + 1) m (by omega) rfl
    rw [← Nat.add_assoc] at this
    exact this
theorem l14_1 (s : List Nat) (hs : s.length ≤ 65536) : ∀ (k n i : Nat) (out : List Nat), 140 * k ≤ n → i ≤ s.length → out.length + 130 * k ≤ 8000000 → s.length < 2 * k + i →
    L14_1 s n out.length out.length (i : Int) (by8 out) = some (rd s k i out) := by
  intro k
  induction k with
  | zero => intro n i out hn hk ho h2; omega
  | succ k ih =>
    intro n i out hn hk ho h2
    obtain ⟨m, rfl⟩ : ∃ m, n = m + 1 := ⟨n - 1, by omega⟩
    rw [L14_1_succ, rd_succ]
    by_cases hi : i < s.length
    · rw [if_pos hi, ltT (by omega), inT (by omega) (by rw [Int.toNat_natCast]; omega), bI]
      simp only [cond_true]
      by_cases h8 : bt s i = 128
      · rw [if_pos h8, eqT (by omega)]
        simp only [cond_true]
        by_cases hL : 65536 < out.length
        · rw [if_pos hL, ltT (by omega)]; rfl
        · rw [if_neg hL, ltF (by omega), (by8_str out rfl).1, (by8_str out rfl).2, nx1 (by omega)]; rfl
      · rw [if_neg h8, eqF (by omega)]
        simp only [cond_false]
        by_cases h7 : bt s i < 128
        · rw [if_pos h7, ltT (by omega), (c48 hs hi).2]
          simp only [cond_true]
          by_cases hc : i + bt s i + 2 ≤ s.length
          · rw [if_pos hc]
            have hl := seg_len hc
            have e56 : l14_56 s (i : Int) (by8 out) = by8 (out ++ (seg s i).map (· % 256)) := by
              unfold l14_56; rw [(u50 (by omega)).2, List.take_length, mapm, by8_app]
            have lq : (out ++ (seg s i).map (· % 256)).length = out.length + (bt s i + 1) := by rw [List.length_append, List.length_map, hl]
            rw [e56, (t49 (by omega)).2, (u50 (by omega)).2, hl, by8_pure, by8_len, nx1 (by omega), decide_eq_false (by omega : ¬ s.length < i + bt s i + 2), Int.toNat_natCast, Int.toNat_natCast]
            have q1 : (!ltI ((i + bt s i + 2 : Nat) : Int) 0) = true := nltT (by omega)
            have q2 : (!ltI ((i + 1 : Nat) : Int) 0) = true := nltT (by omega)
            have q3 : leB (i + 1) (i + bt s i + 2) = true := leT (by omega)
            have q4 : leB (i + bt s i + 2) s.length = true := leT (by omega)
            have q5 : Nat.blt out.length (out.length + (bt s i + 1)) = true := nbltT (by omega)
            have q6 : Nat.ble (bt s i + 1) 10000000 = true := nbleT (by omega)
            have q7 : Nat.blt 0 (bt s i + 1) = true := nbltT (by omega)
            have q8 : Nat.ble out.length 10000000 = true := nbleT (by omega)
            have q9 : Nat.beq out.length (0 + out.length * 1) = true := nbeqT (by omega)
            rw [q1, q2, q3, q4, q5, q6, q7, q8, q9]
            simp only [cond_true, cond_false]
            have := ih m (i + bt s i + 2) (out ++ (seg s i).map (· % 256)) (by omega) (by omega) (by omega) (by omega)
            rw [lq] at this
            exact this
          · rw [if_neg hc, decide_eq_true (by omega : s.length < i + bt s i + 2)]; rfl
        · rw [if_neg h7, ltF (by omega), (c52 hs hi).2, by8_pure]
          simp only [cond_false]
          have hb := bt_lt s i
          by_cases hc : i + 2 ≤ s.length
          · rw [if_pos hc, decide_eq_false (by omega : ¬ s.length < i + 2)]
            simp only [cond_true, cond_false]
            obtain ⟨p, hp⟩ : ∃ p, m = p + (257 - bt s i) + 1 := ⟨m - (257 - bt s i) - 1, by omega⟩
            have h3 := l14_3 s hs i (bt s i) hc (by omega) (by omega) out (by omega) (257 - bt s i) m 0 p (by omega) hp
            have lq : (out ++ List.replicate (257 - bt s i) (bt s (i + 1))).length = out.length + (257 - bt s i) := by rw [List.length_append, List.length_replicate]
            have := ih p (i + 2) (out ++ List.replicate (257 - bt s i) (bt s (i + 1))) (by omega) (by omega) (by omega) (by omega)
            rw [lq] at this
            rw [← this, ← h3]
            simp only [List.replicate_zero, List.append_nil, Nat.add_zero]; rfl
          · rw [if_neg hc, decide_eq_true (by omega : s.length < i + 2)]; rfl
    · rw [if_neg hi, ltF (by omega)]; rfl
theorem l14_0 (s : List Nat) (hs : s.length ≤ 65536) (k n : Nat) (hn : 140 * k + 200 ≤ n) (hk : 130 * k ≤ 7000000) (h2 : s.length < 2 * k) : L14_0 s n 0 = some (rd s k 0 []) := by
  obtain ⟨m, rfl⟩ : ∃ m, n = m + 1 := ⟨n - 1, by omega⟩
  obtain ⟨j, rfl⟩ : ∃ j, k = j + 1 := ⟨k - 1, by omega⟩
  rw [L14_0_succ, rd_succ]
  have z0 : (0 : Int) = ((0 : Nat) : Int) := rfl
  by_cases hi : 0 < s.length
  · have hb := bt_lt s 0
    rw [if_pos hi, ltT (by omega), inT (by omega) (by simpa using hi), z0, bI]
    simp only [cond_true]
    by_cases h8 : bt s 0 = 128
    · rw [if_pos h8, eqT (by omega), nx1 (by omega), if_neg (by simp)]
      rfl
    · rw [if_neg h8, eqF (by omega)]
      simp only [cond_false]
      by_cases h7 : bt s 0 < 128
      · rw [if_pos h7, ltT (by omega), (c48 hs hi).1]
        simp only [cond_true]
        by_cases hc : 0 + bt s 0 + 2 ≤ s.length
        · rw [if_pos hc]
          have hl := seg_len hc
          have e56 : l14_51 s ((0 : Nat) : Int) = by8 ([] ++ (seg s 0).map (· % 256)) := by
            unfold l14_51; rw [(u50 (by omega)).1, List.take_length, mapm]; rfl
          have lq : ([] ++ (seg s 0).map (· % 256)).length = bt s 0 + 1 := by rw [List.length_append, List.length_map, hl]; simp
          rw [e56, (t49 (by omega)).1, (u50 (by omega)).1, hl, by8_pure, nx1 (by omega), decide_eq_false (by omega : ¬ s.length < 0 + bt s 0 + 2), Int.toNat_natCast, Int.toNat_natCast]
          have q1 : (!ltI ((0 + bt s 0 + 2 : Nat) : Int) ((0 : Nat) : Int)) = true := nltT (by omega)
          have q2 : (!ltI ((0 + 1 : Nat) : Int) ((0 : Nat) : Int)) = true := nltT (by omega)
          have q3 : leB (0 + 1) (0 + bt s 0 + 2) = true := leT (by omega)
          have q4 : leB (0 + bt s 0 + 2) s.length = true := leT (by omega)
          have q6 : Nat.ble (bt s 0 + 1) 10000000 = true := nbleT (by omega)
          have q7 : Nat.blt 0 (bt s 0 + 1) = true := nbltT (by omega)
          rw [q1, q2, q3, q4, q6, q7]
          simp only [cond_true, cond_false]
          have := l14_1 s hs j m (0 + bt s 0 + 2) ([] ++ (seg s 0).map (· % 256)) (by omega) (by omega) (by rw [lq]; omega) (by omega)
          rw [lq] at this
          exact this
        · rw [if_neg hc, decide_eq_true (by omega : s.length < 0 + bt s 0 + 2)]; rfl
      · rw [if_neg h7, ltF (by omega), (c52 hs hi).1]
        simp only [cond_false]
        by_cases hc : 0 + 2 ≤ s.length
        · rw [if_pos hc, decide_eq_false (by omega : ¬ s.length < 0 + 2)]
          simp only [cond_false]
          obtain ⟨p, rfl⟩ : ∃ p, m = p + 1 := ⟨m - 1, by omega⟩
          rw [L14_2_succ, sb (by omega), ltT (by omega), nx1 (by omega), inT (by omega) (by rw [Int.toNat_natCast]; omega)]
          simp only [cond_true]
          obtain ⟨r, hr⟩ : ∃ r, p = r + (256 - bt s 0) + 1 := ⟨p - (256 - bt s 0) - 1, by omega⟩
          have h3 := l14_3 s hs 0 (bt s 0) hc (by omega) (by omega) [] (by simp) (256 - bt s 0) p 1 r (by omega) hr
          have e59 : l14_59 s ((0 : Nat) : Int) = by8 ([] ++ List.replicate 1 (bt s (0 + 1))) := by
            unfold l14_59; rw [nx1 (by omega)]; rfl
          have lq : ([] ++ List.replicate (257 - bt s 0) (bt s (0 + 1))).length = 257 - bt s 0 := by simp
          have := l14_1 s hs j r (0 + 2) ([] ++ List.replicate (257 - bt s 0) (bt s (0 + 1))) (by omega) (by omega) (by rw [lq]; omega) (by omega)
          rw [lq] at this
          rw [e59, ← this]
          simp only [List.length_nil, Nat.zero_add] at h3
          exact h3
        · rw [if_neg hc, decide_eq_true (by omega : s.length < 0 + 2)]; rfl
  · rw [if_neg hi, ltF (by omega)]; rfl
theorem f14 {n : Nat} (hn : 5700000 ≤ n) (s : List Nat) : F14 n s = some (rdS s) := by
  unfold F14 rdS
  by_cases h : 65536 < s.length
  · rw [ltT (by omega), if_pos h]; rfl
  · rw [ltF (by omega), if_neg h]
    exact l14_0 s (by omega) 40000 n (by omega) (by omega) (by omega)
theorem by8_take (l : List Nat) (k : Nat) : (by8 l).take k = by8 (l.take k) := by unfold by8; rw [List.map_take]
theorem c92 {s : List Nat} {i : Nat} (hs : s.length ≤ 65536) (hi : i < s.length) : c13_84 s (i : Int) = decide (i + bt s i + 2 ≤ s.length) ∧ c13_92 s (i : Int) = decide (i + bt s i + 2 ≤ s.length) := by
  have hb := bt_lt s i
  have e : ltI (wrapA .i64 (Int.add (wrapA .i64 (Int.add (i : Int) 1)) (wrapA .i64 (byteI s (i : Int))))) (s.length : Int) = decide (i + bt s i + 2 ≤ s.length) := by
    rw [bI, nx1 (by omega), nx (by omega) (by omega)]
    by_cases q : i + bt s i + 2 ≤ s.length
    · rw [ltT (by omega)]; simp [q]
    · rw [ltF (by omega)]; simp [q]
  exact ⟨e, e⟩
theorem c100 {s : List Nat} {i : Nat} (hs : s.length ≤ 65536) (hi : i < s.length) : c13_91 s (i : Int) = decide (i + 2 ≤ s.length) ∧ c13_100 s (i : Int) = decide (i + 2 ≤ s.length) := by
  have e : ltI (wrapA .i64 (Int.add (i : Int) 1)) (s.length : Int) = decide (i + 2 ≤ s.length) := by
    rw [nx1 (by omega)]
    by_cases q : i + 2 ≤ s.length
    · rw [ltT (by omega)]; simp [q]
    · rw [ltF (by omega)]; simp [q]
  exact ⟨e, e⟩
theorem t93 {s : List Nat} {i : Nat} (hi : i ≤ 65536) : t13_85 s (i : Int) = ((i + bt s i + 2 : Nat) : Int) ∧ t13_93 s (i : Int) = ((i + bt s i + 2 : Nat) : Int) := by
  have hb := bt_lt s i
  have e : wrapA .i64 (Int.add (wrapA .i64 (Int.add (wrapA .i64 (Int.add (i : Int) 1)) (wrapA .i64 (byteI s (i : Int))))) 1) = ((i + bt s i + 2 : Nat) : Int) := by
    rw [bI, nx1 (by omega), nx (by omega) (by omega), nx1 (by omega)]; omega
  exact ⟨e, e⟩
theorem t94 {s : List Nat} {i : Nat} (hi : i ≤ 65536) : t13_86 s (i : Int) = ((i + bt s i + 2 : Nat) : Int) ∧ t13_94 s (i : Int) = ((i + bt s i + 2 : Nat) : Int) := by
  have hb := bt_lt s i
  have e : wrapA .i64 (Int.add (wrapA .i64 (Int.add (i : Int) 1)) (wrapA .i64 (Int.add (wrapA .i64 (byteI s (i : Int))) 1))) = ((i + bt s i + 2 : Nat) : Int) := by
    rw [bI, nx1 (i := i) (by omega), nx1 (i := bt s i) (by omega), nx (by omega) (by omega)]; omega
  exact ⟨e, e⟩
theorem k95 {s : List Nat} {i : Nat} (h : i + bt s i + 2 ≤ s.length) (hi : i ≤ 65536) : k13_87 s (i : Int) = bt s i + 1 ∧ k13_95 s (i : Int) = bt s i + 1 ∧ c13_88 s (i : Int) = false ∧ c13_96 s (i : Int) = false ∧ l13_89 s (i : Int) = by8 ((seg s i).map (· % 256)) ∧ l13_97 s (i : Int) = by8 ((seg s i).map (· % 256)) := by
  have e1 : subS s (wrapA .i64 (Int.add (i : Int) 1)).toNat (t13_85 s (i : Int)).toNat = seg s i := by
    rw [nx1 (by omega), (t93 hi).1, Int.toNat_natCast, Int.toNat_natCast, subSeg]
  have e2 : subS s (wrapA .i64 (Int.add (i : Int) 1)).toNat (t13_93 s (i : Int)).toNat = seg s i := by
    rw [nx1 (by omega), (t93 hi).2, Int.toNat_natCast, Int.toNat_natCast, subSeg]
  have hl := seg_len h
  refine ⟨?_, ?_, ?_, ?_, ?_, ?_⟩
  · unfold k13_87; rw [e1, hl]
  · unfold k13_95; rw [e2, hl]
  · unfold c13_88; rw [e1, hl]; exact eqF (by omega)
  · unfold c13_96; rw [e2, hl]; exact eqF (by omega)
  · unfold l13_89; rw [e1, mapm]
  · unfold l13_97; rw [e2, mapm]
theorem l98 {s : List Nat} {i : Nat} (h : i + bt s i + 2 ≤ s.length) (hi : i ≤ 65536) (out : List Nat) : l13_90 s (i : Int) = by8 ((seg s i).map (· % 256)) ∧ l13_98 s (i : Int) (by8 out) = by8 (out ++ (seg s i).map (· % 256)) := by
  have hk := k95 h hi
  have hl := seg_len h
  have tk : List.take ((bt s i + 1) * 1) (by8 ((seg s i).map (· % 256))) = by8 ((seg s i).map (· % 256)) := List.take_of_length_le (by rw [by8_len, List.length_map, hl]; omega)
  constructor
  · have e : l13_90 s (i : Int) = List.take (k13_87 s (i : Int) * 1) (l13_89 s (i : Int)) := rfl
    rw [e, hk.1, hk.2.2.2.2.1, tk]
  · have e : l13_98 s (i : Int) (by8 out) = by8 out ++ List.take (k13_95 s (i : Int) * 1) (l13_97 s (i : Int)) := rfl
    rw [e, hk.2.1, hk.2.2.2.2.2, tk, by8_app]
theorem all_take (l : List Nat) (k : Nat) : List.all (List.take k (List.drop 0 (by8 l))) AV.plain = true := by
  rw [List.drop_zero, by8_take, by8_plain]
theorem l13_5 (s : List Nat) (hs : s.length ≤ 65536) (i b : Nat) (hi : i + 2 ≤ s.length) (hb : 129 ≤ b) (hb2 : b ≤ 255) (out : List Nat) (ho : out.length ≤ 9000000) : ∀ (d n j m : Nat), 1 ≤ j → j + d = 257 - b → n = m + d + 1 →
    L13_5 s n ((i + 1 : Nat) : Int) j ((257 - b : Nat) : Int) (j : Int) (by8 (List.replicate j (bt s (i + 1)))) out.length out.length (by8 out) = L13_1 s m ((i + 2 : Nat) : Int) (out.length + (257 - b)) (out.length + (257 - b)) (by8 (out ++ List.replicate (257 - b) (bt s (i + 1)))) := by
  intro d
  induction d with
  | zero =>
    intro n j m h1 hj hn
    have : j = 257 - b := by omega
    subst this; subst hn
    have lr : (by8 (List.replicate (257 - b) (bt s (i + 1)))).length = 257 - b := by rw [by8_len, List.length_replicate]
    have e103 : l13_103 (257 - b) (by8 (List.replicate (257 - b) (bt s (i + 1)))) (by8 out) = by8 (out ++ List.replicate (257 - b) (bt s (i + 1))) := by
      unfold l13_103; rw [List.take_of_length_le (by rw [lr]; omega), by8_app]
    rw [L13_5_succ, ltF (by omega), eqF (by omega), e103, all_take, lr, by8_len, nx1 (i := i + 1) (by omega)]
    rw [show Nat.blt out.length (out.length + (257 - b)) = true from nbltT (by omega), show Nat.ble (257 - b) 10000000 = true from nbleT (by omega), show Nat.ble (0 + (257 - b) * 1) (257 - b) = true from nbleT (by omega), show Nat.blt 0 (257 - b) = true from nbltT (by omega), show Nat.ble out.length 10000000 = true from nbleT (by omega), show Nat.beq out.length (0 + out.length * 1) = true from nbeqT (by omega)]
    simp only [by8_pure, cond_true, cond_false]
  | succ d ih =>
    intro n j m h1 hj hn
    subst hn
    rw [show m + (d + 1) + 1 = (m + d + 1) + 1 by omega, L13_5_succ, ltT (by omega), inT (by omega) (by rw [Int.toNat_natCast]; omega), nx1 (i := j) (by omega)]
    have e102 : l13_102 s ((i + 1 : Nat) : Int) (by8 (List.replicate j (bt s (i + 1)))) = by8 (List.replicate (j + 1) (bt s (i + 1))) := by
      unfold l13_102; rw [bI', by8_snoc, rep_snoc]
    rw [e102, by8_pure, by8_pure, by8_len, List.length_replicate]
    rw [show Nat.blt j (j + 1) = true from nbltT (by omega), show Nat.ble j 10000000 = true from nbleT (by omega), show Nat.beq j (0 + j * 1) = true from nbeqT (by omega)]
    simp only [cond_true]
    exact ih (m + d + 1) (j + 1) m (by omega) (by omega) rfl
theorem l13_4 (s : List Nat) (hs : s.length ≤ 65536) (i b : Nat) (hi : i + 2 ≤ s.length) (hb : 129 ≤ b) (hb2 : b ≤ 255) : ∀ (d n j m : Nat), 1 ≤ j → j + d = 257 - b → n = m + d + 1 →
    L13_4 s n ((i + 1 : Nat) : Int) j ((257 - b : Nat) : Int) (j : Int) (by8 (List.replicate j (bt s (i + 1)))) = L13_1 s m ((i + 2 : Nat) : Int) (257 - b) (257 - b) (by8 (List.replicate (257 - b) (bt s (i + 1)))) := by
  intro d
  induction d with
  | zero =>
    intro n j m h1 hj hn
    have : j = 257 - b := by omega
    subst this; subst hn
    have lr : (by8 (List.replicate (257 - b) (bt s (i + 1)))).length = 257 - b := by rw [by8_len, List.length_replicate]
    have tk : List.take ((257 - b) * 1) (by8 (List.replicate (257 - b) (bt s (i + 1)))) = by8 (List.replicate (257 - b) (bt s (i + 1))) := List.take_of_length_le (by rw [lr]; omega)
    rw [L13_4_succ, ltF (by omega), eqF (by omega), all_take, tk, lr, nx1 (i := i + 1) (by omega)]
    rw [show Nat.ble (257 - b) 10000000 = true from nbleT (by omega), show Nat.ble (0 + (257 - b) * 1) (257 - b) = true from nbleT (by omega), show Nat.blt 0 (257 - b) = true from nbltT (by omega)]
    simp only [by8_pure, cond_true, cond_false]
  | succ d ih =>
    intro n j m h1 hj hn
    subst hn
    rw [show m + (d + 1) + 1 = (m + d + 1) + 1 by omega, L13_4_succ, ltT (by omega), inT (by omega) (by rw [Int.toNat_natCast]; omega), nx1 (i := j) (by omega)]
    have e102 : l13_101 s ((i + 1 : Nat) : Int) (by8 (List.replicate j (bt s (i + 1)))) = by8 (List.replicate (j + 1) (bt s (i + 1))) := by
      unfold l13_101; rw [bI', by8_snoc, rep_snoc]
    rw [e102, by8_pure, by8_len, List.length_replicate]
    rw [show Nat.blt j (j + 1) = true from nbltT (by omega), show Nat.ble j 10000000 = true from nbleT (by omega), show Nat.beq j (0 + j * 1) = true from nbeqT (by omega)]
    simp only [cond_true]
    exact ih (m + d + 1) (j + 1) m (by omega) (by omega) rfl
theorem l13_1 (s : List Nat) (hs : s.length ≤ 65536) : ∀ (k n i : Nat) (out : List Nat), 140 * k ≤ n → i ≤ s.length → out.length + 130 * k ≤ 8000000 → s.length < 2 * k + i →
    L13_1 s n (i : Int) out.length out.length (by8 out) = some (rd s k i out) := by
  intro k
  induction k with
  | zero => intro n i out hn hk ho h2; omega
  | succ k ih =>
    intro n i out hn hk ho h2
    obtain ⟨m, rfl⟩ : ∃ m, n = m + 1 := ⟨n - 1, by omega⟩
    rw [L13_1_succ, rd_succ]
    by_cases hi : i < s.length
    · rw [if_pos hi, ltT (by omega), inT (by omega) (by rw [Int.toNat_natCast]; omega), bI]
      simp only [cond_true]
      by_cases h8 : bt s i = 128
      · rw [if_pos h8, eqT (by omega), nx1 (by omega), eqF (by omega : ((i + 1 : Nat) : Int) ≠ 0)]
        simp only [cond_true, cond_false]
        by_cases hL : 65536 < out.length
        · rw [if_pos hL, ltT (by omega)]; rfl
        · rw [if_neg hL, ltF (by omega), (by8_str out rfl).1, (by8_str out rfl).2]; rfl
      · rw [if_neg h8, eqF (by omega : ((bt s i : Nat) : Int) ≠ 128)]
        simp only [cond_false]
        by_cases h7 : bt s i < 128
        · rw [if_pos h7, ltT (by omega : ((bt s i : Nat) : Int) < 128), (c92 hs hi).2]
          simp only [cond_true]
          by_cases hc : i + bt s i + 2 ≤ s.length
          · rw [if_pos hc]
            have hl := seg_len hc
            have hk := k95 hc (by omega)
            have lq : (out ++ (seg s i).map (· % 256)).length = out.length + (bt s i + 1) := by rw [List.length_append, List.length_map, hl]
            have lg : (by8 ((seg s i).map (· % 256))).length = bt s i + 1 := by rw [by8_len, List.length_map, hl]
            rw [(l98 hc (by omega) out).2, hk.2.1, hk.2.2.2.1, hk.2.2.2.2.2, all_take, (t93 (by omega)).2, (t94 (by omega)).2, by8_pure, lg, by8_len, nx1 (by omega), decide_eq_true hc, Int.toNat_natCast, Int.toNat_natCast]
            have q1 : (!ltI ((i + bt s i + 2 : Nat) : Int) 0) = true := nltT (by omega)
            have q2 : (!ltI ((i + 1 : Nat) : Int) 0) = true := nltT (by omega)
            have q3 : leB (i + 1) (i + bt s i + 2) = true := leT (by omega)
            have q4 : leB (i + bt s i + 2) s.length = true := leT (by omega)
            have q5 : Nat.blt out.length (out.length + (bt s i + 1)) = true := nbltT (by omega)
            have q6 : Nat.ble (bt s i + 1) 10000000 = true := nbleT (by omega)
            have q7 : Nat.blt 0 (bt s i + 1) = true := nbltT (by omega)
            have q8 : Nat.ble out.length 10000000 = true := nbleT (by omega)
            have q9 : Nat.beq out.length (0 + out.length * 1) = true := nbeqT (by omega)
            have q0 : Nat.ble (0 + (bt s i + 1) * 1) (bt s i + 1) = true := nbleT (by omega)
            rw [q1, q2, q3, q4, q5, q6, q0, q7, q8, q9]
            simp only [cond_true, cond_false]
            have := ih m (i + bt s i + 2) (out ++ (seg s i).map (· % 256)) (by omega) (by omega) (by omega) (by omega)
            rw [lq] at this
            exact this
          · rw [if_neg hc, decide_eq_false hc, ltF (by omega : ((bt s i : Nat) : Int) ≤ 128)]; rfl
        · have hb := bt_lt s i
          rw [if_neg h7, ltF (by omega : (128 : Int) ≤ ((bt s i : Nat) : Int)), ltT (by omega : (128 : Int) < ((bt s i : Nat) : Int)), (c100 hs hi).2, by8_pure]
          simp only [cond_true, cond_false]
          by_cases hc : i + 2 ≤ s.length
          · rw [if_pos hc, decide_eq_true hc, nx1 (by omega), sb (by omega)]
            simp only [cond_true]
            obtain ⟨p, rfl⟩ : ∃ p, m = p + 1 := ⟨m - 1, by omega⟩
            rw [L13_3_succ, ltT (by omega), inT (by omega) (by rw [Int.toNat_natCast]; omega), by8_pure]
            simp only [cond_true]
            obtain ⟨r, hr⟩ : ∃ r, p = r + (256 - bt s i) + 1 := ⟨p - (256 - bt s i) - 1, by omega⟩
            have h3 := l13_5 s hs i (bt s i) hc (by omega) (by omega) out (by omega) (256 - bt s i) p 1 r (by omega) (by omega) hr
            have lq : (out ++ List.replicate (257 - bt s i) (bt s (i + 1))).length = out.length + (257 - bt s i) := by rw [List.length_append, List.length_replicate]
            have := ih r (i + 2) (out ++ List.replicate (257 - bt s i) (bt s (i + 1))) (by omega) (by omega) (by omega) (by omega)
            rw [lq] at this
            rw [← this, ← h3]; rfl
          · rw [if_neg hc, decide_eq_false hc]; rfl
    · rw [if_neg hi, ltF (by omega)]; rfl
theorem l13_0 (s : List Nat) (hs : s.length ≤ 65536) (k n : Nat) (hn : 140 * k + 300 ≤ n) (hk : 130 * k ≤ 7000000) (h2 : s.length < 2 * k) : L13_0 s n 0 = some (rd s k 0 []) := by
  obtain ⟨m, rfl⟩ : ∃ m, n = m + 1 := ⟨n - 1, by omega⟩
  obtain ⟨j, rfl⟩ : ∃ j, k = j + 1 := ⟨k - 1, by omega⟩
  rw [L13_0_succ, rd_succ]
  by_cases hi : 0 < s.length
  · have hb := bt_lt s 0
    have b0 : wrapA .i64 (byteI s 0) = (bt s 0 : Int) := bI s 0
    have n0 : wrapA .i64 (Int.add 0 1) = ((0 + 1 : Nat) : Int) := nx1 (i := 0) (by omega)
    rw [if_pos hi, ltT (by omega), inT (by omega) (by simpa using hi), b0, n0]
    simp only [cond_true]
    by_cases h8 : bt s 0 = 128
    · rw [if_pos h8, eqT (by omega), eqF (by omega : ((0 + 1 : Nat) : Int) ≠ 0), if_neg (by simp)]
      rfl
    · rw [if_neg h8, eqF (by omega : ((bt s 0 : Nat) : Int) ≠ 128)]
      simp only [cond_false]
      by_cases h7 : bt s 0 < 128
      · have c0 : c13_84 s 0 = decide (0 + bt s 0 + 2 ≤ s.length) := (c92 hs hi).1
        rw [if_pos h7, ltT (by omega : ((bt s 0 : Nat) : Int) < 128), c0]
        simp only [cond_true]
        by_cases hc : 0 + bt s 0 + 2 ≤ s.length
        · rw [if_pos hc]
          have hl := seg_len hc
          have hk := k95 hc (by omega)
          have k0 : k13_87 s 0 = bt s 0 + 1 := hk.1
          have k1 : c13_88 s 0 = false := hk.2.2.1
          have k2 : l13_89 s 0 = by8 ((seg s 0).map (· % 256)) := hk.2.2.2.2.1
          have k3 : t13_85 s 0 = ((0 + bt s 0 + 2 : Nat) : Int) := (t93 (s := s) (i := 0) (by omega)).1
          have k4 : t13_86 s 0 = ((0 + bt s 0 + 2 : Nat) : Int) := (t94 (s := s) (i := 0) (by omega)).1
          have k5 : l13_90 s 0 = by8 ((seg s 0).map (· % 256)) := (l98 hc (by omega) []).1
          have lq : ((seg s 0).map (· % 256)).length = bt s 0 + 1 := by rw [List.length_map, hl]
          rw [k0, k1, k2, k3, k4, k5, all_take, by8_pure, by8_len, lq, decide_eq_true hc, Int.toNat_natCast, Int.toNat_natCast]
          have q1 : (!ltI ((0 + bt s 0 + 2 : Nat) : Int) 0) = true := nltT (by omega)
          have q2 : (!ltI ((0 + 1 : Nat) : Int) 0) = true := nltT (by omega)
          have q3 : leB (0 + 1) (0 + bt s 0 + 2) = true := leT (by omega)
          have q4 : leB (0 + bt s 0 + 2) s.length = true := leT (by omega)
          have q6 : Nat.ble (bt s 0 + 1) 10000000 = true := nbleT (by omega)
          have q7 : Nat.blt 0 (bt s 0 + 1) = true := nbltT (by omega)
          have q0 : Nat.ble (0 + (bt s 0 + 1) * 1) (bt s 0 + 1) = true := nbleT (by omega)
          rw [q1, q2, q3, q4, q6, q7, q0]
          simp only [cond_true, cond_false]
          have := l13_1 s hs j m (0 + bt s 0 + 2) ((seg s 0).map (· % 256)) (by omega) (by omega) (by rw [lq]; omega) (by omega)
          rw [lq] at this
          exact this
        · rw [if_neg hc, decide_eq_false hc, ltF (by omega : ((bt s 0 : Nat) : Int) ≤ 128)]; rfl
      · have c0 : c13_91 s 0 = decide (0 + 2 ≤ s.length) := (c100 hs hi).1
        rw [if_neg h7, ltF (by omega : (128 : Int) ≤ ((bt s 0 : Nat) : Int)), ltT (by omega : (128 : Int) < ((bt s 0 : Nat) : Int)), c0]
        simp only [cond_true, cond_false]
        by_cases hc : 0 + 2 ≤ s.length
        · rw [if_pos hc, decide_eq_true hc, sb (by omega)]
          simp only [cond_true]
          obtain ⟨p, rfl⟩ : ∃ p, m = p + 1 := ⟨m - 1, by omega⟩
          rw [L13_2_succ, ltT (by omega), inT (by omega) (by rw [Int.toNat_natCast]; omega)]
          simp only [cond_true]
          obtain ⟨r, hr⟩ : ∃ r, p = r + (256 - bt s 0) + 1 := ⟨p - (256 - bt s 0) - 1, by omega⟩
          have h3 := l13_4 s hs 0 (bt s 0) hc (by omega) (by omega) (256 - bt s 0) p 1 r (by omega) (by omega) hr
          have lq : ([] ++ List.replicate (257 - bt s 0) (bt s (0 + 1))).length = 257 - bt s 0 := by simp
          have := l13_1 s hs j r (0 + 2) ([] ++ List.replicate (257 - bt s 0) (bt s (0 + 1))) (by omega) (by omega) (by rw [lq]; omega) (by omega)
          rw [lq] at this
          rw [← this]
          exact h3
        · rw [if_neg hc, decide_eq_false hc]; rfl
  · rw [if_neg hi, ltF (by omega)]; rfl
theorem f13 {n : Nat} (hn : 5700000 ≤ n) (s : List Nat) : F13 n s = some (rdS s) := by
  unfold F13 rdS
  by_cases h : 65536 < s.length
  · rw [ltT (by omega), if_pos h]; rfl
  · rw [ltF (by omega), if_neg h]
    exact l13_0 s (by omega) 40000 n (by omega) (by omega) (by omega)
theorem nbltF {a b : Nat} (h : b ≤ a) : Nat.blt a b = false := by
  cases q : Nat.blt a b with
  | false => rfl
  | true => have := Nat.le_of_ble_eq_true q; omega
theorem l22 (s : List Nat) (hs : s.length ≤ 65536) (i : Nat) : ∀ (d n v : Nat), s.length - (i + v) ≤ d → d < n → i + v ≤ s.length → ∃ r : Nat, L22_0 s (i : Int) n (v : Int) = some (r : Int) ∧ v ≤ r ∧ i + r ≤ s.length := by
  intro d
  induction d with
  | zero =>
    intro n v hd hn hv
    obtain ⟨m, rfl⟩ : ∃ m, n = m + 1 := ⟨n - 1, by omega⟩
    rw [L22_0_succ, nx (by omega) (by omega), ltF (by omega)]
    exact ⟨v, rfl, by omega, hv⟩
  | succ d ih =>
    intro n v hd hn hv
    obtain ⟨m, rfl⟩ : ∃ m, n = m + 1 := ⟨n - 1, by omega⟩
    rw [L22_0_succ, nx (by omega) (by omega), nx1 (by omega)]
    by_cases h : i + v < s.length
    · rw [ltT (by omega), inT (i := ((i + v : Nat) : Int)) (by omega) (by rw [Int.toNat_natCast]; omega), inT (i := (i : Int)) (by omega) (by rw [Int.toNat_natCast]; omega)]
      simp only [cond_true]
      cases hE : eqI (byteI s ((i + v : Nat) : Int)) (byteI s (i : Int))
      · exact ⟨v, rfl, by omega, hv⟩
      · obtain ⟨r, h1, h2, h3⟩ := ih m (v + 1) (by omega) (by omega) (by omega)
        exact ⟨r, h1, by omega, h3⟩
    · rw [ltF (by omega)]
      exact ⟨v, rfl, by omega, hv⟩
theorem f22 (s : List Nat) (hs : s.length ≤ 65536) (i : Nat) (hi : i < s.length) {n : Nat} (hn : 66000 ≤ n) : ∃ r : Nat, F22 n s (i : Int) = some (r : Int) ∧ F22_0 n s (i : Int) = (r : Int) ∧ 1 ≤ r ∧ i + r ≤ s.length := by
  obtain ⟨m, rfl⟩ : ∃ m, n = m + 1 := ⟨n - 1, by omega⟩
  obtain ⟨r, h1, h2, h3⟩ := l22 s hs i 65536 m 1 (by omega) (by omega) (by omega)
  have e : F22 (m + 1) s (i : Int) = some (r : Int) := by
    have z : wrapA .i64 (Int.add (i : Int) 0) = (i : Int) := by rw [add_int, wrap64 (by omega) (by omega)]; omega
    have o : wrapA .i64 (Int.add 0 1) = ((1 : Nat) : Int) := by decide
    unfold F22
    rw [L22_0_succ, z, o, ltT (by omega), inT (by omega) (by rw [Int.toNat_natCast]; omega), eqT rfl]
    exact h1
  exact ⟨r, e, by unfold F22_0; rw [e]; rfl, h2, h3⟩
theorem t23 (v : List Nat) : t23_12 v = ((min v.length 128 : Nat) : Int) := by
  unfold t23_12; split <;> omega
theorem l23 (tt : List Nat) : ∀ (d n : Nat) (v acc : List Nat), v.length ≤ d → d < n → acc.length + 2 * v.length ≤ 400000 → ∃ r, L23_0 tt n v acc = some r ∧ r.length ≤ acc.length + 2 * v.length := by
  intro d
  induction d with
  | zero =>
    intro n v acc hd hn ha
    obtain ⟨m, rfl⟩ : ∃ m, n = m + 1 := ⟨n - 1, by omega⟩
    rw [L23_0_succ, ltF (by omega)]
    exact ⟨acc, rfl, by omega⟩
  | succ d ih =>
    intro n v acc hd hn ha
    obtain ⟨m, rfl⟩ : ∃ m, n = m + 1 := ⟨n - 1, by omega⟩
    rw [L23_0_succ]
    by_cases h : 0 < v.length
    · have l1 : (subS v 0 (min v.length 128)).length = min v.length 128 := by unfold subS; rw [List.length_take, List.length_drop]; omega
      have l2 : (subS v (min v.length 128) v.length).length = v.length - min v.length 128 := by unfold subS; rw [List.length_take, List.length_drop]; omega
      have e13 : (u23_13 v acc).length = acc.length + 1 := by unfold u23_13; rw [List.length_append]; rfl
      have e14 : (u23_14 v acc).length = acc.length + 1 + min v.length 128 := by
        unfold u23_14; rw [List.length_append, e13, t23, Int.toNat_natCast, l1]
      rw [ltT (by omega), t23, Int.toNat_natCast, l1, e13]
      have q1 : Nat.blt (acc.length + [(wrapA IntKind.u8 (wrapA IntKind.i64 (Int.sub ((min v.length 128 : Nat) : Int) 1))).toNat].length) 9223372036854775808 = true := nbltT (by simp only [List.length_cons, List.length_nil]; omega)
      have q2 : (!ltI ((min v.length 128 : Nat) : Int) 0) = true := nltT (by omega)
      have q3 : leB (min v.length 128) v.length = true := leT (by omega)
      have q4 : Nat.blt (acc.length + 1 + min v.length 128) 9223372036854775808 = true := nbltT (by omega)
      have q5 : leB v.length v.length = true := leT (by omega)
      rw [q1, q2, q3, q4, q5]
      simp only [cond_true]
      obtain ⟨r, h1, h2⟩ := ih m (subS v (min v.length 128) v.length) (u23_14 v acc) (by omega) (by omega) (by omega)
      exact ⟨r, h1, by omega⟩
    · rw [ltF (by omega)]
      exact ⟨acc, rfl, by omega⟩
theorem f23 (v : List Nat) (hv : v.length ≤ 60000) {n : Nat} (hn : 66000 ≤ n) : ∃ r, F23 n v = some r ∧ F23_0 n v = r ∧ r.length ≤ 2 * v.length := by
  obtain ⟨r, h1, h2⟩ := l23 v 60000 n v [] hv (by omega) (by simp; omega)
  have e : F23 n v = some r := h1
  exact ⟨r, e, by unfold F23_0; rw [e]; rfl, by simpa using h2⟩
theorem c128 {v : Nat} (h : v ≤ 65536) : (if (128 : Int) < (v : Int) then (128 : Int) else (v : Int)) = ((min v 128 : Nat) : Int) := by split <;> omega
theorem rl {v : Nat} (h1 : 2 ≤ v) (h : v ≤ 65536) : wrapA .u8 (wrapA .i64 (Int.sub 257 (if (128 : Int) < (v : Int) then (128 : Int) else (v : Int)))) = ((257 - min v 128 : Nat) : Int) := by
  rw [c128 h, sb (by omega), w8 (by omega) (by omega)]
theorem enc (s : List Nat) (hs : s.length ≤ 20000) : ∀ n,
    (∀ (i : Nat) (out short : List Nat), i ≤ s.length → out.length + 2 * short.length ≤ 2 * i → 70000 + 4 * (s.length - i) + 2 < n → ∃ r, L12_3 s n out.length out.length short (i : Int) (by8 out) = some (r, 0) ∧ 1 ≤ r.length ∧ r.length ≤ 2 * s.length + 1) ∧
    (∀ (i : Nat) (out : List Nat) (v : Nat), i + v ≤ s.length → out.length ≤ 2 * i → 70000 + 4 * (s.length - i) + (if v = 0 then 3 else 1) < n → ∃ r, L12_1 s n out.length out.length (i : Int) (v : Int) (by8 out) = some (r, 0) ∧ 1 ≤ r.length ∧ r.length ≤ 2 * s.length + 1) := by
  intro n
  induction n with
  | zero => exact ⟨fun i out short _ _ h => by omega, fun i out v _ _ h => by omega⟩
  | succ n ih =>
    constructor
    · intro i out short hi ho hn
      rw [L12_3_succ]
      obtain ⟨r, r1, r2, r3⟩ := f23 short (by omega) (n := n) (by omega)
      have e84 : l12_84 n short (by8 out) = by8 (out ++ r.map (· % 256)) := by unfold l12_84; rw [r2, List.take_length, mapm, by8_app]
      have e88 : l12_88 n short (by8 out) = by8 (out ++ r.map (· % 256) ++ [128]) := by unfold l12_88; rw [r2, List.take_length, mapm, by8_app]; exact by8_snoc _ 128
      have lq : (out ++ r.map (· % 256)).length = out.length + r.length := by rw [List.length_append, List.length_map]
      have b5 : Nat.ble out.length 10000000 = true := nbleT (by omega)
      have b6 : Nat.beq out.length (0 + out.length * 1) = true := nbeqT (by omega)
      by_cases h : i < s.length
      · obtain ⟨c, c1, c2, c3, c4⟩ := f22 s (by omega) i h (n := n) (by omega)
        rw [ltT (by omega : (i : Int) < (s.length : Int)), c1, c2, nx (by omega) (by omega)]
        simp only [Option.isSome_some, cond_true]
        by_cases h3 : c < 3
        · have e83 : u12_83 n s short (i : Int) = short ++ subS s i (i + c) := by unfold u12_83; rw [c2, nx (by omega) (by omega), Int.toNat_natCast, Int.toNat_natCast]
          have ls : (subS s i (i + c)).length = c := by unfold subS; rw [List.length_take, List.length_drop]; omega
          rw [ltT (by omega : (c : Int) < 3), e83, by8_pure, Int.toNat_natCast, Int.toNat_natCast, ls]
          have q1 : (!ltI ((i + c : Nat) : Int) 0) = true := nltT (by omega)
          have q2 : (!ltI (i : Int) 0) = true := nltT (by omega)
          have q3 : leB i (i + c) = true := leT (by omega)
          have q4 : leB (i + c) s.length = true := leT (by omega)
          have q5 : Nat.blt (short.length + c) 9223372036854775808 = true := nbltT (by omega)
          rw [q1, q2, q3, q4, q5]
          simp only [cond_true]
          exact ih.1 (i + c) out (short ++ subS s i (i + c)) c4 (by rw [List.length_append, ls]; omega) (by omega)
        · rw [ltF (by omega : (3 : Int) ≤ (c : Int)), r1, r2, e84]
          simp only [Option.isSome_some, cond_true, cond_false, by8_pure, by8_len]
          by_cases hr : r.length = 0
          · have hr' : r = [] := List.eq_nil_of_length_eq_zero hr
            rw [hr, show Nat.blt out.length (out.length + 0) = false from nbltF (by omega), show Nat.blt 0 0 = false from rfl, show Nat.beq 0 0 = true from rfl]
            simp only [cond_true, cond_false]
            exact ih.2 i out c c4 (by omega) (by rw [if_neg (by omega)]; omega)
          · rw [show Nat.blt out.length (out.length + r.length) = true from nbltT (by omega), show Nat.ble r.length 10000000 = true from nbleT (by omega), show Nat.blt 0 r.length = true from nbltT (by omega), b5, b6]
            simp only [cond_true]
            have := ih.2 i (out ++ r.map (· % 256)) c c4 (by rw [lq]; omega) (by rw [if_neg (by omega)]; omega)
            rw [lq] at this
            exact this
      · rw [ltF (by omega : (s.length : Int) ≤ (i : Int)), r1]
        simp only [Option.isSome_some, cond_true, cond_false]
        by_cases hr : r.length = 0
        · rw [r2, hr, show Nat.blt out.length (out.length + 0) = false from nbltF (by omega), show Nat.blt 0 0 = false from rfl, show Nat.beq 0 0 = true from rfl]
          have e93 : l12_93 (by8 out) = by8 (out ++ [128]) := by8_snoc out 128
          have c92 : c12_92 out.length = false := ltF (by omega)
          have so := by8_str (out ++ [128]) (k := out.length + 1) (by simp)
          rw [e93, c92, so.1, so.2, by8_len, b5, b6, show Nat.blt out.length (out.length + 1) = true from nbltT (by omega)]
          exact ⟨_, rfl, by simp, by rw [List.length_append]; simp; omega⟩
        · have c87 : c12_87 n out.length short = false := by unfold c12_87; rw [r2]; exact ltF (by omega)
          have k86 : k12_86 n out.length short = out.length + r.length + 1 := by unfold k12_86; rw [r2]
          have so := by8_str (out ++ r.map (· % 256) ++ [128]) (k := out.length + r.length + 1) (by rw [List.length_append, lq]; rfl)
          rw [c87, k86, r2, e84, e88, so.1, so.2, by8_len, by8_len, lq]
          rw [show Nat.blt out.length (out.length + r.length) = true from nbltT (by omega), show Nat.ble r.length 10000000 = true from nbleT (by omega), show Nat.blt 0 r.length = true from nbltT (by omega), b5, b6, show Nat.blt (out.length + r.length) (out.length + r.length + 1) = true from nbltT (by omega), show Nat.ble (out.length + r.length) 10000000 = true from nbleT (by omega), show Nat.beq (out.length + r.length) (0 + (out.length + r.length) * 1) = true from nbeqT (by omega)]
          exact ⟨_, rfl, by rw [List.length_append]; simp, by rw [List.length_append, lq]; simp; omega⟩
    · intro i out v hi ho hn
      rw [L12_1_succ]
      have b5 : Nat.ble out.length 10000000 = true := nbleT (by omega)
      have b6 : Nat.beq out.length (0 + out.length * 1) = true := nbeqT (by omega)
      by_cases h1 : 1 < v
      · rw [if_neg (by omega)] at hn
        have e79 : l12_79 s (i : Int) (v : Int) (by8 out) = by8 (out ++ [257 - min v 128, bt s i]) := by
          unfold l12_79 t12_78; rw [rl (by omega) (by omega), bI']; simp [by8]
        have e77 : t12_77 (v : Int) = ((min v 128 : Nat) : Int) := c128 (by omega)
        rw [ltT (by omega : (1 : Int) < (v : Int)), inT (by omega) (by rw [Int.toNat_natCast]; omega), e79, e77, by8_pure, by8_len, b5, b6, show Nat.blt out.length (out.length + 2) = true from nbltT (by omega), nx (by omega) (by omega), sbl (by omega) (by omega)]
        simp only [cond_true]
        have := ih.2 (i + min v 128) (out ++ [257 - min v 128, bt s i]) (v - min v 128) (by omega) (by rw [List.length_append]; simp; omega) (by split <;> omega)
        rw [List.length_append] at this
        exact this
      · rw [ltF (by omega : (v : Int) ≤ 1), by8_pure]
        simp only [cond_true, cond_false]
        by_cases h2 : v = 1
        · rw [eqT (by omega : (v : Int) = 1), nx1 (by omega), Int.toNat_natCast, Int.toNat_natCast, show (!ltI ((i + 1 : Nat) : Int) 0) = true from nltT (by omega), show (!ltI (i : Int) 0) = true from nltT (by omega), show leB i (i + 1) = true from leT (by omega), show leB (i + 1) s.length = true from leT (by omega)]
          simp only [cond_true]
          have ls : (subS s i (i + 1)).length = 1 := by unfold subS; rw [List.length_take, List.length_drop]; omega
          rw [if_neg (by omega)] at hn
          exact ih.1 (i + 1) out (subS s i (i + 1)) (by omega) (by rw [ls]; omega) (by omega)
        · rw [eqF (by omega : (v : Int) ≠ 1)]
          simp only [cond_false]
          rw [if_pos (by omega)] at hn
          exact ih.1 i out [] (by omega) (by simp; omega) (by omega)
theorem enc0 (s : List Nat) (hs : s.length ≤ 20000) : ∀ n,
    (∀ (i : Nat) (short : List Nat), i ≤ s.length → short.length ≤ i → 170000 + 4 * (s.length - i) + 2 < n → ∃ r, L12_0 s n short (i : Int) = some (r, 0) ∧ 1 ≤ r.length ∧ r.length ≤ 2 * s.length + 1) ∧
    (∀ (i v : Nat), i + v ≤ s.length → 170000 + 4 * (s.length - i) + (if v = 0 then 3 else 1) < n → ∃ r, L12_2 s n (i : Int) (v : Int) = some (r, 0) ∧ 1 ≤ r.length ∧ r.length ≤ 2 * s.length + 1) := by
  intro n
  induction n with
  | zero => exact ⟨fun i short _ _ h => by omega, fun i v _ h => by omega⟩
  | succ n ih =>
    constructor
    · intro i short hi ho hn
      rw [L12_0_succ]
      obtain ⟨r, r1, r2, r3⟩ := f23 short (by omega) (n := n) (by omega)
      have e73 : l12_73 n short = by8 (r.map (· % 256)) := by unfold l12_73; rw [r2, List.take_length, mapm]
      have e75 : l12_75 n short = by8 (r.map (· % 256) ++ [128]) := by unfold l12_75; rw [r2, List.take_length, mapm]; exact by8_snoc _ 128
      have lm : (r.map (· % 256)).length = r.length := List.length_map _
      by_cases h : i < s.length
      · obtain ⟨c, c1, c2, c3, c4⟩ := f22 s (by omega) i h (n := n) (by omega)
        rw [ltT (by omega : (i : Int) < (s.length : Int)), c1, c2, nx (by omega) (by omega)]
        simp only [Option.isSome_some, cond_true]
        by_cases h3 : c < 3
        · have e72 : u12_72 n s short (i : Int) = short ++ subS s i (i + c) := by unfold u12_72; rw [c2, nx (by omega) (by omega), Int.toNat_natCast, Int.toNat_natCast]
          have ls : (subS s i (i + c)).length = c := by unfold subS; rw [List.length_take, List.length_drop]; omega
          rw [ltT (by omega : (c : Int) < 3), e72, Int.toNat_natCast, Int.toNat_natCast, ls]
          have q1 : (!ltI ((i + c : Nat) : Int) 0) = true := nltT (by omega)
          have q2 : (!ltI (i : Int) 0) = true := nltT (by omega)
          have q3 : leB i (i + c) = true := leT (by omega)
          have q4 : leB (i + c) s.length = true := leT (by omega)
          have q5 : Nat.blt (short.length + c) 9223372036854775808 = true := nbltT (by omega)
          rw [q1, q2, q3, q4, q5]
          simp only [cond_true]
          exact ih.1 (i + c) (short ++ subS s i (i + c)) c4 (by rw [List.length_append, ls]; omega) (by omega)
        · rw [ltF (by omega : (3 : Int) ≤ (c : Int)), r1, r2, e73]
          simp only [Option.isSome_some, cond_true, cond_false, by8_pure]
          by_cases hr : r.length = 0
          · rw [hr, show Nat.blt 0 0 = false from rfl, show Nat.beq 0 0 = true from rfl]
            simp only [cond_true, cond_false]
            exact ih.2 i c c4 (by rw [if_neg (by omega)]; omega)
          · rw [show Nat.ble r.length 10000000 = true from nbleT (by omega), show Nat.blt 0 r.length = true from nbltT (by omega)]
            simp only [cond_true]
            have := (enc s hs n).2 i (r.map (· % 256)) c c4 (by rw [lm]; omega) (by rw [if_neg (by omega)]; omega)
            rw [lm] at this
            exact this
      · rw [ltF (by omega : (s.length : Int) ≤ (i : Int)), r1]
        simp only [Option.isSome_some, cond_true, cond_false]
        by_cases hr : r.length = 0
        · rw [r2, hr, show Nat.blt 0 0 = false from rfl, show Nat.beq 0 0 = true from rfl]
          exact ⟨[128], rfl, by simp, by simp⟩
        · have c74 : c12_74 n short = false := by unfold c12_74; rw [r2]; exact ltF (by omega)
          have so := by8_str (r.map (· % 256) ++ [128]) (k := r.length + 1) (by rw [List.length_append, lm]; rfl)
          have e76 : u12_76 n short = r.map (· % 256) ++ [128] := by unfold u12_76; rw [e75, r2, so.2]
          rw [c74, e76, r2, e73, e75, so.1, by8_len, lm]
          rw [show Nat.ble r.length 10000000 = true from nbleT (by omega), show Nat.blt 0 r.length = true from nbltT (by omega), show Nat.blt r.length (r.length + 1) = true from nbltT (by omega), show Nat.beq r.length (0 + r.length * 1) = true from nbeqT (by omega)]
          exact ⟨_, rfl, by rw [List.length_append]; simp, by rw [List.length_append, lm]; simp; omega⟩
    · intro i v hi hn
      rw [L12_2_succ]
      by_cases h1 : 1 < v
      · rw [if_neg (by omega)] at hn
        have e79 : [AV.int .u8 (t12_82 (v : Int)), AV.int .u8 (byteI s (i : Int))] = by8 [257 - min v 128, bt s i] := by
          unfold t12_82; rw [rl (by omega) (by omega), bI']; simp [by8]
        have e77 : t12_81 (v : Int) = ((min v 128 : Nat) : Int) := c128 (by omega)
        rw [ltT (by omega : (1 : Int) < (v : Int)), inT (by omega) (by rw [Int.toNat_natCast]; omega), e79, e77, nx (by omega) (by omega), sbl (by omega) (by omega)]
        simp only [cond_true]
        exact (enc s hs n).2 (i + min v 128) [257 - min v 128, bt s i] (v - min v 128) (by omega) (by simp; omega) (by split <;> omega)
      · rw [ltF (by omega : (v : Int) ≤ 1)]
        simp only [cond_false]
        by_cases h2 : v = 1
        · rw [eqT (by omega : (v : Int) = 1), nx1 (by omega), Int.toNat_natCast, Int.toNat_natCast, show (!ltI ((i + 1 : Nat) : Int) 0) = true from nltT (by omega), show (!ltI (i : Int) 0) = true from nltT (by omega), show leB i (i + 1) = true from leT (by omega), show leB (i + 1) s.length = true from leT (by omega)]
          simp only [cond_true]
          have ls : (subS s i (i + 1)).length = 1 := by unfold subS; rw [List.length_take, List.length_drop]; omega
          rw [if_neg (by omega)] at hn
          exact ih.1 (i + 1) (subS s i (i + 1)) (by omega) (by rw [ls]; omega) (by omega)
        · rw [eqF (by omega : (v : Int) ≠ 1)]
          simp only [cond_false]
          rw [if_pos (by omega)] at hn
          exact ih.1 i [] (by omega) (by simp) (by omega)
theorem f12 (s : List Nat) (hs : s.length ≤ 20000) {n : Nat} (hn : 260000 ≤ n) : ∃ r, F12 n s = some (r, 0) ∧ F12_0 n s = r ∧ 1 ≤ r.length ∧ r.length ≤ 2 * s.length + 1 := by
  obtain ⟨r, h1, h2, h3⟩ := (enc0 s hs n).1 0 [] (by omega) (by simp) (by omega)
  have e : F12 n s = some (r, 0) := by
    unfold F12; rw [ltF (by omega)]; exact h1
  exact ⟨r, e, by unfold F12_0; rw [e]; rfl, h2, h3⟩
theorem u8_at : ∀ {m : Nat} {x : List AV}, KOk (kRep m [.int .u8]) x → ∀ i, i < m → ∃ b : Int, nth x i = some (.int .u8 b) ∧ 0 ≤ b ∧ b ≤ 255
  | 0, _, _, i, hi => by omega
  | m + 1, _, h, i, hi => by
    obtain ⟨b, r, rfl, hb, h⟩ := h
    cases i with
    | zero => exact ⟨b, rfl, wf_u8 hb⟩
    | succ i => exact u8_at h i (by omega)
theorem u8_cell {m : Nat} {x : List AV} (h : KOk (kRep m [.int .u8]) x) {i : Nat} (hi : i < m) : cellB x i (.int .u8) = true ∧ 0 ≤ intC x i ∧ intC x i ≤ 255 := by
  obtain ⟨b, h1, h2, h3⟩ := u8_at h i hi
  refine ⟨?_, ?_, ?_⟩ <;> simp only [cellB, isIntC, intC, h1]
  · simp
  · exact h2
  · exact h3
theorem krep2 (a : CK) : ∀ c, kRep c [a, a] = kRep (2 * c) [a]
  | 0 => rfl
  | c + 1 => by rw [show 2 * (c + 1) = 2 * c + 1 + 1 by omega]; simp only [kRep, krep2 a c]; rfl
theorem pairAt {c : Nat} {x : List AV} (h : KOk (kRep c [.int .u8, .int .u8]) x) {i : Nat} (hi : i < c) :
    cellB x (atI 0 (i : Int) 2 + 0) (.int .u8) = true ∧ cellB x (atI 0 (i : Int) 2 + 1) (.int .u8) = true ∧ (∃ b : Nat, intC x (atI 0 (i : Int) 2 + 0) = b) ∧ ∃ b : Nat, b ≤ 255 ∧ intC x (atI 0 (i : Int) 2 + 1) = b := by
  rw [krep2] at h
  have e : atI 0 (i : Int) 2 = 2 * i := by rw [atI_eq]; omega
  rw [e]
  have h0 := u8_cell h (i := 2 * i + 0) (by omega)
  have h1 := u8_cell h (i := 2 * i + 1) (by omega)
  exact ⟨h0.1, h1.1, ⟨(intC x (2 * i + 0)).toNat, by omega⟩, ⟨(intC x (2 * i + 1)).toNat, by omega, by omega⟩⟩
theorem l10_2 {x0 : List AV} {c0 k0 : Nat} (wx : KOk (kRep c0 [.int .u8, .int .u8]) x0) {i : Nat} (hi : i < c0) (h50 : i < 50) : ∀ (d n k : Nat) (out : List Nat), 256 - k ≤ d → k ≤ 256 → d < n → out.length + d ≤ 100000 →
    ∃ m out', n ≤ m + d + 1 ∧ out'.length ≤ out.length + d ∧ L10s_2 x0 c0 k0 n out.length (i : Int) (k : Int) (by8 out) = L10s_3 x0 c0 k0 m out'.length ((i + 1 : Nat) : Int) (by8 out') := by
  obtain ⟨p1, p2, ⟨b, hb⟩, ⟨q, hq, hq'⟩⟩ := pairAt wx hi
  intro d
  induction d with
  | zero =>
    intro n k out hd hk hn ho
    obtain ⟨m, rfl⟩ : ∃ m, n = m + 1 := ⟨n - 1, by omega⟩
    refine ⟨m, out, by omega, by omega, ?_⟩
    have c8 : c10s_8 x0 (i : Int) (k : Int) = false := by
      unfold c10s_8; rw [hq', wrap64 (by omega) (by omega)]; exact nltF (by omega)
    rw [L10s_2_succ, inT (by omega) (by rw [Int.toNat_natCast]; omega), p2, c8, by8_pure, nx1 (i := i) (by omega)]
    rfl
  | succ d ih =>
    intro n k out hd hk hn ho
    obtain ⟨m, rfl⟩ : ∃ m, n = m + 1 := ⟨n - 1, by omega⟩
    rw [L10s_2_succ, inT (by omega) (by rw [Int.toNat_natCast]; omega), p2]
    simp only [cond_true]
    by_cases hc : k ≤ q
    · have c8 : c10s_8 x0 (i : Int) (k : Int) = true := by
        unfold c10s_8; rw [hq', wrap64 (by omega) (by omega)]; exact nltT (by omega)
      have e9 : l10s_9 x0 (i : Int) (by8 out) = by8 (out ++ [b]) := by unfold l10s_9; rw [hb, by8_snoc]
      have lq : (out ++ [b]).length = out.length + 1 := by simp
      rw [c8, p1, e9, by8_pure, by8_len, nx1 (i := k) (by omega), show Nat.blt out.length (out.length + 1) = true from nbltT (by omega), show Nat.ble out.length 10000000 = true from nbleT (by omega), show Nat.beq out.length (0 + out.length * 1) = true from nbeqT (by omega)]
      simp only [cond_true]
      by_cases hk2 : k = 256
      · omega
      obtain ⟨m', out', h1, h2, h3⟩ := ih m (k + 1) (out ++ [b]) (by omega) (by omega) (by omega) (by omega)
      rw [lq] at h3 h2
      exact ⟨m', out', by omega, by omega, h3⟩
    · have c8 : c10s_8 x0 (i : Int) (k : Int) = false := by
        unfold c10s_8; rw [hq', wrap64 (by omega) (by omega)]; exact nltF (by omega)
      refine ⟨m, out, by omega, by omega, ?_⟩
      rw [c8, by8_pure, nx1 (i := i) (by omega)]
      rfl
theorem l10_3 {x0 : List AV} {c0 k0 : Nat} (wx : KOk (kRep c0 [.int .u8, .int .u8]) x0) : ∀ (d n i : Nat) (out : List Nat), 50 - i ≤ d → i ≤ 50 → 300 * d + 10 ≤ n → out.length + 257 * d ≤ 90000 →
    ∃ r, L10s_3 x0 c0 k0 n out.length (i : Int) (by8 out) = some r ∧ r.length ≤ out.length + 257 * d := by
  intro d
  induction d with
  | zero =>
    intro n i out hd hi hn ho
    obtain ⟨m, rfl⟩ : ∃ m, n = m + 1 := ⟨n - 1, by omega⟩
    rw [L10s_3_succ, (by8_str out rfl).1, (by8_str out rfl).2, ltF (by omega : (50 : Int) ≤ (i : Int))]
    cases ltI (i : Int) (c0 : Int) <;> exact ⟨out, rfl, by omega⟩
  | succ d ih =>
    intro n i out hd hi hn ho
    obtain ⟨m, rfl⟩ : ∃ m, n = m + 1 := ⟨n - 1, by omega⟩
    rw [L10s_3_succ, (by8_str out rfl).1, (by8_str out rfl).2, by8_pure]
    by_cases h : i < c0
    · by_cases h5 : i < 50
      · rw [ltT (by omega : (i : Int) < (c0 : Int)), ltT (by omega : (i : Int) < 50)]
        simp only [cond_true]
        obtain ⟨m', out', h1, h2, h3⟩ := l10_2 wx (k0 := k0) h h5 256 m 0 out (by omega) (by omega) (by omega) (by omega)
        obtain ⟨r, h4, h6⟩ := ih m' (i + 1) out' (by omega) (by omega) (by omega) (by omega)
        exact ⟨r, by rw [← h4, ← h3]; rfl, by omega⟩
      · rw [ltF (by omega : (50 : Int) ≤ (i : Int))]
        cases ltI (i : Int) (c0 : Int) <;> exact ⟨out, rfl, by omega⟩
    · rw [ltF (by omega : (c0 : Int) ≤ (i : Int))]
      exact ⟨out, rfl, by omega⟩
theorem f10s {x0 : List AV} {c0 k0 : Nat} (wx : 0 < c0 ∧ c0 ≤ k0 ∧ k0 ≤ maxLen ∧ KOk (kRep c0 [.int .u8, .int .u8]) x0) {n : Nat} (hn : 20000 ≤ n) : ∃ r, F10s n x0 c0 k0 = some r ∧ F10s_0 n x0 c0 k0 = r ∧ r.length ≤ 20000 := by
  obtain ⟨w0, _, _, wk⟩ := wx
  obtain ⟨m, rfl⟩ : ∃ m, n = m + 2 := ⟨n - 2, by omega⟩
  obtain ⟨p1, p2, ⟨b, hb⟩, ⟨q, hq, hq'⟩⟩ := pairAt wk w0
  have p1' : cellB x0 (atI 0 0 2 + 0) (.int .u8) = true := p1
  have p2' : cellB x0 (atI 0 0 2 + 1) (.int .u8) = true := p2
  have hb' : intC x0 (atI 0 0 2 + 0) = b := hb
  have hq2 : intC x0 (atI 0 0 2 + 1) = q := hq'
  obtain ⟨m', out', h1, h2, h3⟩ := l10_2 wk (k0 := k0) w0 (by omega) 255 m 1 [b] (by omega) (by omega) (by omega) (by simp)
  obtain ⟨r, h4, h6⟩ := l10_3 (k0 := k0) wk 49 m' 1 out' (by omega) (by omega) (by omega) (by simp at h2; omega)
  have e : F10s (m + 2) x0 c0 k0 = some r := by
    have c6 : c10s_6 x0 0 = true := by
      unfold c10s_6; rw [hq2, wrap64 (by omega) (by omega)]; exact nltT (by omega)
    have l7 : l10s_7 x0 0 = by8 [b] := by unfold l10s_7; rw [hb']; rfl
    unfold F10s
    rw [L10s_0_succ, ltT (by omega : (0 : Int) < (c0 : Int)), ltT (by omega : (0 : Int) < 50)]
    simp only [cond_true]
    rw [L10s_1_succ, inT (by omega) (by simpa using w0), p1', p2', c6, l7]
    simp only [cond_true]
    rw [← h4]; exact h3
  exact ⟨r, e, by unfold F10s_0; rw [e]; rfl, by simp at h2; omega⟩
theorem atN (v : Nat) : atI 0 (v : Int) 1 = v := by rw [atI_eq]; omega
theorem put_str (s : List Nat) (m : Nat) (a : Int) (h : m < s.length) : putOk (List.map (fun b => AV.int IntKind.u8 ((b % 256 : Nat) : Int)) s) m 1 = true ∧ strOk (putL (List.map (fun b => AV.int IntKind.u8 ((b % 256 : Nat) : Int)) s) m [AV.int .u8 a]) 0 s.length = true := by
  refine ⟨nbleT (by rw [List.length_map]; omega), ?_⟩
  have hm : ∀ l : List Nat, (List.map (fun b => AV.int IntKind.u8 ((b % 256 : Nat) : Int)) l).all isU8 = true := fun l => by
    rw [List.all_eq_true]; intro c hc; obtain ⟨x, _, rfl⟩ := List.mem_map.1 hc; rfl
  have hlen : (putL (List.map (fun b => AV.int IntKind.u8 ((b % 256 : Nat) : Int)) s) m [AV.int .u8 a]).length = s.length := by
    unfold putL; simp; omega
  simp only [strOk, Bool.and_eq_true]
  refine ⟨nbleT (by rw [hlen]; omega), ?_⟩
  rw [List.drop_zero, List.take_of_length_le (by omega)]
  unfold putL
  rw [List.all_append, List.all_append, ← List.map_take, ← List.map_drop, hm, hm]; rfl
theorem same13 {n : Nat} (hn : 5700000 ≤ n) (s : List Nat) : (F13 n s).isSome = true ∧ (F14 n s).isSome = true ∧ F13_0 n s = F14_0 n s ∧ F13_1 n s = F14_1 n s ∧ F13_2 n s = F14_2 n s := by
  have a := f13 hn s
  have b := f14 hn s
  unfold F13_0 F13_1 F13_2 F14_0 F14_1 F14_2
  rw [a, b]; exact ⟨rfl, rfl, rfl, rfl, rfl⟩
theorem round_s (a0 : List Nat) (x0 : List AV) (c0 k0 : Nat) (a2 a3 : Int) {n : Nat} (hn : 5700000 ≤ n) (X Y Z : List Nat) : L4s_0 a0 x0 c0 k0 a2 a3 (n + 4) X Y Z 0 = some true := by
  have st : ∀ (m : Nat) (v : Int) (hm : 5700000 ≤ m) (h0 : 0 ≤ v) (h3 : v < 3), L4s_0 a0 x0 c0 k0 a2 a3 (m + 1) X Y Z v = L4s_0 a0 x0 c0 k0 a2 a3 m X Y Z (v + 1) := by
    intro m v hm h0 h3
    have hc : cellB [AV.str X, AV.str Y, AV.str Z] (v.toNat * 1) CK.str = true := by
      have : v = 0 ∨ v = 1 ∨ v = 2 := by omega
      rcases this with rfl | rfl | rfl <;> rfl
    obtain ⟨s1, s2, s3, s4, s5⟩ := same13 hm (u4s_34 X Y Z v)
    rw [L4s_0_succ, ltT h3, inT h0 (by omega), hc, s1, s2]
    unfold c4s_35 c4s_36 c4s_37
    rw [s3, s4, s5, strEq_same, eqT rfl, eqT rfl, add_int, wrap64 (by omega) (by omega)]
    rfl
  rw [st (n + 3) 0 (by omega) (by omega) (by omega), st (n + 2) (0 + 1) (by omega) (by omega) (by omega), st (n + 1) (0 + 1 + 1) (by omega) (by omega) (by omega), L4s_0_succ, ltF (by omega)]; rfl
theorem round_e (a0 : List Nat) (a2 a3 : Int) {n : Nat} (hn : 5700000 ≤ n) (X Y Z : List Nat) : L4e_0 a0 a2 a3 (n + 4) X Y Z 0 = some true := by
  have st : ∀ (m : Nat) (v : Int) (hm : 5700000 ≤ m) (h0 : 0 ≤ v) (h3 : v < 3), L4e_0 a0 a2 a3 (m + 1) X Y Z v = L4e_0 a0 a2 a3 m X Y Z (v + 1) := by
    intro m v hm h0 h3
    have hc : cellB [AV.str X, AV.str Y, AV.str Z] (v.toNat * 1) CK.str = true := by
      have : v = 0 ∨ v = 1 ∨ v = 2 := by omega
      rcases this with rfl | rfl | rfl <;> rfl
    obtain ⟨s1, s2, s3, s4, s5⟩ := same13 hm (u4e_27 X Y Z v)
    rw [L4e_0_succ, ltT h3, inT h0 (by omega), hc, s1, s2]
    unfold c4e_28 c4e_29 c4e_30
    rw [s3, s4, s5, strEq_same, eqT rfl, eqT rfl, add_int, wrap64 (by omega) (by omega)]
    rfl
  rw [st (n + 3) 0 (by omega) (by omega) (by omega), st (n + 2) (0 + 1) (by omega) (by omega) (by omega), st (n + 1) (0 + 1 + 1) (by omega) (by omega) (by omega), L4e_0_succ, ltF (by omega)]; rfl
theorem mins {α : Type} (a : List α) : (!ltI (if Bool.true = Bool.true then if (70000 : Int) < (a.length : Int) then (70000 : Int) else (a.length : Int) else if (70000 : Int) > (a.length : Int) then (70000 : Int) else (a.length : Int)) 0) = true ∧ leB (Int.toNat (if Bool.true = Bool.true then if (70000 : Int) < (a.length : Int) then (70000 : Int) else (a.length : Int) else if (70000 : Int) > (a.length : Int) then (70000 : Int) else (a.length : Int))) a.length = true := by
  simp only [if_true]
  constructor
  · exact nltT (by split <;> omega)
  · exact leT (by split <;> omega)
theorem bend (R : List Nat) (h1 : 1 ≤ R.length) (a2 a3 : Int) (h2 : 0 ≤ a2 ∧ a2 ≤ 65535) : inB (Int.tmod (wrapA .i64 a2) (R.length : Int)) R.length = true ∧ eqI (R.length : Int) 0 = false ∧
    putOk (List.map (fun (b : Nat) => AV.int IntKind.u8 ((b % 256 : Nat) : Int)) R) (atI 0 (Int.tmod (wrapA .i64 a2) (R.length : Int)) 1) 1 = true ∧ strOk (putL (List.map (fun (b : Nat) => AV.int IntKind.u8 ((b % 256 : Nat) : Int)) R) (atI 0 (Int.tmod (wrapA .i64 a2) (R.length : Int)) 1) [AV.int .u8 a3]) 0 R.length = true := by
  rw [wrap64 (by omega) (by omega), tmod_pos h2.1]
  have d1 : 0 ≤ a2 % (R.length : Int) ∧ a2 % (R.length : Int) < (R.length : Int) := ⟨Int.emod_nonneg a2 (by omega), Int.emod_lt_of_pos a2 (by omega)⟩
  generalize a2 % (R.length : Int) = x at *
  obtain ⟨x, rfl⟩ : ∃ m : Nat, x = m := ⟨x.toNat, by omega⟩
  rw [atN]
  obtain ⟨o1, o2⟩ := put_str R x a3 (by omega)
  exact ⟨inT (by omega) (by omega), eqF (by omega), o1, o2⟩
theorem law_ok_s (a0 : List Nat) (x0 : List AV) (c0 k0 : Nat) (a2 a3 : Int) (wa0 : IsBytes a0) (wx : 0 < c0 ∧ c0 ≤ k0 ∧ k0 ≤ maxLen ∧ KOk (kRep c0 [.int .u8, .int .u8]) x0) (wa2 : (Lit.int .u16 a2).wf = true) (wa3 : (Lit.int .u8 a3).wf = true) : ∃ n, F4s n a0 x0 c0 k0 a2 a3 = some true := by
  obtain ⟨n, hn⟩ : ∃ n : Nat, 5700000 ≤ n := ⟨5700000, Nat.le_refl _⟩
  refine ⟨n + 4, ?_⟩
  obtain ⟨r, r1, r2, r3⟩ := f10s wx (n := n + 4) (by omega)
  obtain ⟨e, e1, e2, e3, e4⟩ := f12 r r3 (n := n + 4) (by omega)
  have w2 := wf_u16 wa2
  have lR : (e ++ e).length = e.length + e.length := List.length_append
  obtain ⟨b1, b2, b3, b4⟩ := bend (e ++ e) (by omega) a2 a3 w2
  have mm := mins a0
  have hq : Nat.blt (e.length + e.length) 9223372036854775808 = true := nbltT (by omega)
  have rd := round_s a0 x0 c0 k0 a2 a3 hn (u4s_33 a0) e (strOf (l4s_32 (n + 4) x0 c0 k0 a2 a3) 0 (k4s_29 (n + 4) x0 c0 k0))
  have e29 : k4s_29 (n + 4) x0 c0 k0 = (e ++ e).length := by unfold k4s_29; rw [r2, e2]
  have e30 : t4s_30 (n + 4) x0 c0 k0 = ((e ++ e).length : Int) := by unfold t4s_30; rw [r2, e2]
  have e31 : l4s_31 (n + 4) x0 c0 k0 = List.map (fun (b : Nat) => AV.int IntKind.u8 ((b % 256 : Nat) : Int)) (e ++ e) := by unfold l4s_31; rw [r2, e2]
  have e32 : l4s_32 (n + 4) x0 c0 k0 a2 a3 = putL (List.map (fun (b : Nat) => AV.int IntKind.u8 ((b % 256 : Nat) : Int)) (e ++ e)) (atI 0 (Int.tmod (wrapA .i64 a2) ((e ++ e).length : Int)) 1) [AV.int .u8 a3] := by unfold l4s_32; rw [r2, e2, e30]
  unfold F4s
  rw [r1, r2, e1, e2, hq, mm.1, mm.2, wx.2.2.2.pure, rd, e29, e30, e31, e32, b1, b2, b3, b4]
  rfl
theorem law_ok_e (a0 : List Nat) (a2 a3 : Int) (wa0 : IsBytes a0) (wa2 : (Lit.int .u16 a2).wf = true) (wa3 : (Lit.int .u8 a3).wf = true) : ∃ n, F4e n a0 a2 a3 = some true := by
  obtain ⟨n, hn⟩ : ∃ n : Nat, 5700000 ≤ n := ⟨5700000, Nat.le_refl _⟩
  refine ⟨n + 4, ?_⟩
  obtain ⟨e, e1, e2, e3, e4⟩ := f12 [] (by simp) (n := n + 4) (by omega)
  have w2 := wf_u16 wa2
  have lR : (e ++ e).length = e.length + e.length := List.length_append
  obtain ⟨b1, b2, b3, b4⟩ := bend (e ++ e) (by omega) a2 a3 w2
  have mm := mins a0
  have e4' : e.length ≤ 1 := by simpa using e4
  have hq : Nat.blt (e.length + e.length) 9223372036854775808 = true := nbltT (by omega)
  have rd := round_e a0 a2 a3 hn (u4e_26 a0) e (strOf (l4e_25 (n + 4) a2 a3) 0 (k4e_22 (n + 4)))
  have e29 : k4e_22 (n + 4) = (e ++ e).length := by unfold k4e_22; rw [e2]
  have e30 : t4e_23 (n + 4) = ((e ++ e).length : Int) := by unfold t4e_23; rw [e2]
  have e31 : l4e_24 (n + 4) = List.map (fun (b : Nat) => AV.int IntKind.u8 ((b % 256 : Nat) : Int)) (e ++ e) := by unfold l4e_24; rw [e2]
  have e32 : l4e_25 (n + 4) a2 a3 = putL (List.map (fun (b : Nat) => AV.int IntKind.u8 ((b % 256 : Nat) : Int)) (e ++ e)) (atI 0 (Int.tmod (wrapA .i64 a2) ((e ++ e).length : Int)) 1) [AV.int .u8 a3] := by unfold l4e_25; rw [e2, e30]
  unfold F4e
  rw [e1, e2, hq, mm.1, mm.2, rd, e29, e30, e31, e32, b1, b2, b3, b4]
  rfl

end

theorem walke {w : World} {E : Nat → Go.Sx.Ent} (hE : Go.Sx.GlobE E) (a0 : List Nat) (a2 : Int) (a3 : Int) (wa0 : Go.Sx.IsBytes a0) (wa2 : (Lit.int .u16 a2).wf = true) (wa3 : (Lit.int .u8 a3).wf = true) (hL : Go.Sx.LaidAt E w []) {ARGS : List Value} (ha : Go.Sx.RelL (Go.Sx.laidE E) [.str a0, .emp, .int .u16 a2, .int .u8 a3] ARGS) :
    Calls Try.prog 4 ARGS.toArray w fun e w' => e = .returned (.bool true) ∧ Below w.heap.size w w' := by
  obtain ⟨n, hn⟩ := law_ok_e a0 a2 a3 wa0 wa2 wa3
  exact Go.Sx.call_args_at okayed hE ha Try.func4 body4e_eq (run4e n a0 a2 a3  true hn) hL

theorem walks {w : World} {E : Nat → Go.Sx.Ent} (hE : Go.Sx.GlobE E) (a0 : List Nat) (x0 : List Go.Sx.AV) (c0 : Nat) (k0 : Nat) (a2 : Int) (a3 : Int) (wa0 : Go.Sx.IsBytes a0) (wx0 : 0 < c0 ∧ c0 ≤ k0 ∧ k0 ≤ maxLen ∧ Go.Sx.KOk (Go.Sx.kRep c0 [.int .u8, .int .u8]) x0) (wa2 : (Lit.int .u16 a2).wf = true) (wa3 : (Lit.int .u8 a3).wf = true) (hL : Go.Sx.LaidAt E w [(0, x0)]) {ARGS : List Value} (ha : Go.Sx.RelL (Go.Sx.laidE E) [.str a0, .slc 1048576 0 c0 (.exact k0), .int .u16 a2, .int .u8 a3] ARGS) :
    Calls Try.prog 4 ARGS.toArray w fun e w' => e = .returned (.bool true) ∧ Below w.heap.size w w' := by
  obtain ⟨n, hn⟩ := law_ok_s a0 x0 c0 k0 a2 a3 wa0 wx0 wa2 wa3
  exact Go.Sx.call_args_at okayed hE ha Try.func4 body4s_eq (run4s n a0 x0 c0 k0 a2 a3 (wx0.2.2.2.pure) true hn) hL

set_option maxRecDepth 100000 in
theorem lifted (os : Os) (started : os.Started) (H : Type) (enc : TypeId × Value → H) :
    ReturnsInHanded {} Try.checked os 4 .any (Rows.runsDecodesSpec.pre6 enc Try.prog Try.f4 Rows.runsDecodesRow.domain false) (Rows.runsDecodesSpec.post enc Try.prog Try.f4 false true false false) := by
  refine returnsInHanded_of_change (C := Try.checked) own started (by kernel_rfl) Try.func4
    (ChangeSpec.witness6 (enc := enc) (C := Try.checked) false ⟨#[], #[.string ⟨#[]⟩, .slice none 0 0, .int .u16 0, .int .u8 0], []⟩ 8 (by kernel_rfl) (by kernel_rfl) (by kernel_rfl) (by kernel_rfl)) ?_
  intro W base args ds gs before hval0 hW hcnd _
  have hval : ∀ (j : Nat) t v, Try.f4.params[j]? = some t → args[j]? = some v → Value.okWide Try.prog W .any base t v := hval0
  have hW' := hW
  obtain ⟨p, q, hA0, hV, rfl, hfz, hnd⟩ := hW
  have hA : DataW.TrodAll enc Try.prog W 0 (fun _ => true) true Try.f4.params.toList args.toList ds p := hA0
  rw [Try.params4] at hA hval
  obtain ⟨v0, vs0, d0, ds0, p0, q0, hargs, rfl, rfl, h0, r0⟩ := trodAll_cons hA
  obtain ⟨v1, vs1, d1, ds1, p1, q1, rfl, rfl, rfl, h1, r1⟩ := trodAll_cons r0
  obtain ⟨v2, vs2, d2, ds2, p2, q2, rfl, rfl, rfl, h2, r2⟩ := trodAll_cons r1
  obtain ⟨v3, vs3, d3, ds3, p3, q3, rfl, rfl, rfl, h3, r3⟩ := trodAll_cons r2
  obtain ⟨rfl, rfl, rfl⟩ := trodAll_nil r3
  obtain rfl : args = #[v0, v1, v2, v3] := by cases args; simp_all
  obtain ⟨rfl, rfl⟩ := trodVars_none hV
  obtain ⟨cs0, k0⟩ := Go.Sx.open_cs (ks := [.str]) (by kernel_rfl) h0
  have g0 := k0
  obtain ⟨cs1, k1⟩ := Go.Sx.open_cs (ks := [.sl [.int .u8, .int .u8]]) (by kernel_rfl) h1
  have g1 := k1
  obtain ⟨cs2, k2⟩ := Go.Sx.open_cs (ks := [.int .u16]) (by kernel_rfl) h2
  have g2 := k2
  obtain ⟨cs3, k3⟩ := Go.Sx.open_cs (ks := [.int .u8]) (by kernel_rfl) h3
  have g3 := k3
  clear hA0
  have done : Calls Try.prog 4 #[v0, v1, v2, v3] W (fun e w' => e = .returned (.bool true) ∧ Below W.heap.size W w') := by
    obtain ⟨_, _, _, _, rfl, _, ⟨a0, rfl, wa0, rfl⟩, k0⟩ := k0
    obtain ⟨rfl, _⟩ := k0
    obtain ⟨_, _, _, _, rfl, _, hS0, k1⟩ := k1
    obtain ⟨rfl, _⟩ := k1
    obtain ⟨_, _, _, _, rfl, _, ⟨a2, rfl, wa2, rfl⟩, k2⟩ := k2
    obtain ⟨rfl, _⟩ := k2
    obtain ⟨_, _, _, _, rfl, _, ⟨a3, rfl, wa3, rfl⟩, k3⟩ := k3
    obtain ⟨rfl, _⟩ := k3
    rcases hS0 with ⟨rfl, _⟩ | ⟨b0, s0, c0, k0', x0, rfl, p0, q0', m0, z0, u0, _⟩
    · skip
      exact walke (Go.Sx.argE_glob _) (Go.Sx.bytesOf a0) a2 a3 (Go.Sx.bytes_ok wa0) wa2 wa3 (Go.Sx.laid_nil _ _) (ARGS := [v0, v1, v2, v3]) ⟨_, _, Go.Sx.rel_one_cs (E := (Go.Sx.argE [])) (n := 0) (t := 9) (Go.Sx.one_str Try.underlying9 (hval 0 9 v0 rfl rfl)) g0 trivial rfl, ⟨_, _, Go.Sx.rel_one_cs (E := (Go.Sx.argE [])) (n := 0) (t := 23) (Go.Sx.one_slice Try.underlying23 (hval 1 23 v1 rfl rfl)) g1 trivial rfl, ⟨_, _, Go.Sx.rel_one_cs (E := (Go.Sx.argE [])) (n := 0) (t := 31) (Go.Sx.one_int Try.underlying31 (hval 2 31 v2 rfl rfl)) g2 trivial rfl, ⟨_, _, Go.Sx.rel_one_cs (E := (Go.Sx.argE [])) (n := 0) (t := 5) (Go.Sx.one_int Try.underlying5 (hval 3 5 v3 rfl rfl)) g3 trivial rfl, rfl, rfl⟩, rfl⟩, rfl⟩, rfl⟩
    · skip
      exact walks (Go.Sx.argE_glob _) (Go.Sx.bytesOf a0) x0 c0 k0' a2 a3 (Go.Sx.bytes_ok wa0) ⟨p0, q0', m0, z0⟩ wa2 wa3 (Go.Sx.laid_more (E := (Go.Sx.argE [(b0, s0)])) (g := 0) u0 (Go.Sx.laid_nil _ _)) (ARGS := [v0, v1, v2, v3]) ⟨_, _, Go.Sx.rel_one_cs (E := (Go.Sx.argE [(b0, s0)])) (n := 0) (t := 9) (Go.Sx.one_str Try.underlying9 (hval 0 9 v0 rfl rfl)) g0 trivial rfl, ⟨_, _, Go.Sx.rel_one_cs (E := (Go.Sx.argE [(b0, s0)])) (n := 0) (t := 23) (Go.Sx.one_slice Try.underlying23 (hval 1 23 v1 rfl rfl)) g1 ⟨rfl, trivial⟩ rfl, ⟨_, _, Go.Sx.rel_one_cs (E := (Go.Sx.argE [(b0, s0)])) (n := 1) (t := 31) (Go.Sx.one_int Try.underlying31 (hval 2 31 v2 rfl rfl)) g2 trivial rfl, ⟨_, _, Go.Sx.rel_one_cs (E := (Go.Sx.argE [(b0, s0)])) (n := 1) (t := 5) (Go.Sx.one_int Try.underlying5 (hval 3 5 v3 rfl rfl)) g3 trivial rfl, rfl, rfl⟩, rfl⟩, rfl⟩, rfl⟩
  refine done.mono fun e W' ⟨he, hg⟩ => ?_
  subst he
  exact ⟨_, rfl, Go.Sx.post_of_below (pv := []) hW' (fun _ _ _ => (trodAll_cons_mk (shut_bool Try.underlying4 _) trodAll_mk0)) (fun sp hsp => (trodAll_cons_mk (Go.Sx.stays_below laidOut (by kernel_rfl) (Nat.le_of_ble_eq_true (by kernel_rfl)) h0 hg (fun p hp => hsp p (by simp [hp]))) (trodAll_cons_mk (Go.Sx.stays_below laidOut (by kernel_rfl) (Nat.le_of_ble_eq_true (by kernel_rfl)) h1 hg (fun p hp => hsp p (by simp [hp]))) (trodAll_cons_mk (Go.Sx.stays_below laidOut (by kernel_rfl) (Nat.le_of_ble_eq_true (by kernel_rfl)) h2 hg (fun p hp => hsp p (by simp [hp]))) (trodAll_cons_mk (Go.Sx.stays_below laidOut (by kernel_rfl) (Nat.le_of_ble_eq_true (by kernel_rfl)) h3 hg (fun p hp => hsp p (by simp [hp]))) trodAll_mk0))))) (fun _ _ => rfl) (by simp)
    hg (ok_one (by kernel_rfl) rfl (okWide_bool_mk Try.underlying4 _))⟩

theorem over : Rows.runsDecodesRow.holds Try.pinned (OpenSpec.ofChange Rows.runsDecodesSpec) :=
  OpenClaim.holds_of_wide 4 Try.f4 rfl rfl rfl rfl rfl rfl rfl ⟨rfl, rfl, rfl, rfl, rfl⟩ rfl rfl rfl rfl rfl (by kernel_rfl) Try.func4 (by kernel_rfl)
    (of_decide_eq_true (by kernel_rfl)) (by unfold Func.isWrapper; first | (rw [if_pos (by decide +kernel)]; kernel_rfl) | (rw [if_neg (by decide +kernel)]; exact ⟨rfl, rfl⟩))
    (fun os started H enc _ => lifted os started H enc)

theorem proved : Rows.RunsDecodesSaid := over
#print axioms proved
end Go.Proofs.Ytfmjemmlagmghaa.runsDecodes
