/- 'chase/chaselaw32.CipherKnown' returns true for every argument, and nothing that was there is changed. Its run, with unknown arguments, is worked out by an executor that is proved sound against the model: so each function is a term; the rest is arithmetic. -/
import Derived.Test.YtcfkjkefkmfdnaaRows
import Derived.WalkKit
import Derived.ProofKit
import Derived.OpenShut
import Derived.Test.YtcfkjkefkmfdnaaSxF
import Derived.Test.YtcfkjkefkmfdnaaLib
namespace Go.Proofs.Ytcfkjkefkmfdnaa.cipherKnown
open Go.ChangeShapes Go.WideShapes Go.ChangeAt Go.WideMaps Go.WideElems Go.RowKit
set_option linter.unusedVariables false

theorem own : ownKnob Try.prog.godebug = none := by kernel_rfl
theorem okayed : Go.Sx.okProg Try.prog = true := by kernel_rfl
theorem laidOut : laidOutB Try.prog = true := by kernel_rfl
section
open Go.Sx
set_option maxRecDepth 1000000

noncomputable def body19 : Go.Code := (Try.f19.body).getD .skip
theorem body19_eq : Try.f19.body = some body19 := Go.Sx.some_getD (by kernel_rfl)
noncomputable def sk19_0 : List Go.Sx.FC × Go.Sx.CC := (Go.Sx.skelAt Try.prog [.fn 19 [.r, .r, .l, .r, .i, .h]] []).getD ([], .code .skip)
noncomputable def c19_5 (v0 : (Int)) (v1 : (Int)) : Bool := (!Go.Sx.eqI (Int.tmod v0 2) (Int.tmod v1 2))
noncomputable def pt19_0 (pa : Int) (pb : Int) (v0 : Int) (v1 : Int) (v2 : Int) (v3 : Int) (v4 : Int) : Go.Sx.Pt := ⟨[(27, [(0, .int .i64 (v0)), (1, .int .i64 (v1)), (5, .int .i64 (v2)), (6, .int .i64 (v3)), (7, .int .i64 (v4))])], [], 0, []⟩
mutual
noncomputable def L19_0 (pa : Int) (pb : Int) : Nat → Int → Int → Int → Int → Int → Option (Int)
  | 0, _, _, _, _, _ => none
  | n + 1, v0, v1, v2, v3, v4 => (bif (Go.Sx.ltI v4 8) then (bif (c19_5 v0 v1) then (L19_0 pa pb n (Go.Sx.wrapA Go.IntKind.i64 (Int.tdiv v0 2)) (Go.Sx.wrapA Go.IntKind.i64 (Int.tdiv v1 2)) (Go.Sx.wrapA Go.IntKind.i64 (Int.add v2 v3)) (Go.Sx.wrapA Go.IntKind.i64 (Int.mul v3 2)) (Go.Sx.wrapA Go.IntKind.i64 (Int.add v4 1))) else (L19_0 pa pb n (Go.Sx.wrapA Go.IntKind.i64 (Int.tdiv v0 2)) (Go.Sx.wrapA Go.IntKind.i64 (Int.tdiv v1 2)) (v2) (Go.Sx.wrapA Go.IntKind.i64 (Int.mul v3 2)) (Go.Sx.wrapA Go.IntKind.i64 (Int.add v4 1)))) else (some (v2)))
termination_by structural n => n
end
theorem L19_0_succ (pa : Int) (pb : Int) (n : Nat) (v0 : Int) (v1 : Int) (v2 : Int) (v3 : Int) (v4 : Int) : L19_0 pa pb (n + 1) v0 v1 v2 v3 v4 = (bif (Go.Sx.ltI v4 8) then (bif (c19_5 v0 v1) then (L19_0 pa pb n (Go.Sx.wrapA Go.IntKind.i64 (Int.tdiv v0 2)) (Go.Sx.wrapA Go.IntKind.i64 (Int.tdiv v1 2)) (Go.Sx.wrapA Go.IntKind.i64 (Int.add v2 v3)) (Go.Sx.wrapA Go.IntKind.i64 (Int.mul v3 2)) (Go.Sx.wrapA Go.IntKind.i64 (Int.add v4 1))) else (L19_0 pa pb n (Go.Sx.wrapA Go.IntKind.i64 (Int.tdiv v0 2)) (Go.Sx.wrapA Go.IntKind.i64 (Int.tdiv v1 2)) (v2) (Go.Sx.wrapA Go.IntKind.i64 (Int.mul v3 2)) (Go.Sx.wrapA Go.IntKind.i64 (Int.add v4 1)))) else (some (v2))) := rfl
set_option maxHeartbeats 4000000 in
theorem form19_0 (n : Nat) (pa : Int) (pb : Int) (v0 : Int) (v1 : Int) (v2 : Int) (v3 : Int) (v4 : Int) (vz : Go.Sx.AV) : Go.Sx.wpS Try.prog Try.f19 [] vz (.st [0, 0, 0, 0, 2, 2, 0, 0] (.br 9 (.st [0, 2, 0, 0, 0, 0, 0, 0, 2, 2, 2, 2, 2, 0, 0] (.br 16 (.st [0, 0, 2, 2, 2, 2, 0, 0, 0, 0, 2, 2, 2, 0, 0, 0, 0, 2, 2, 2, 0, 0, 0, 2, 2, 2, 0, 0, 0, 0, 2, 2, 2, 0, 0] (.stop ⟨[[0, 1, 5, 6, 7]], [], []⟩ [] 0 [])) (.st [0, 2, 0, 0, 0, 2, 2, 2, 0, 0, 0, 0, 2, 2, 2, 0, 0, 0, 2, 2, 2, 0, 0, 0, 0, 2, 2, 2, 0, 0] (.stop ⟨[[0, 1, 5, 6, 7]], [], []⟩ [] 0 [])))) (.st [0, 2, 0, 0, 0, 0, 0, 0, 2, 2, 0, 0, 2] .ans))) (Go.Sx.mkK sk19_0.1 (pt19_0 pa pb v0 v1 v2 v3 v4).frs.tail) (Go.Sx.mkC [] (pt19_0 pa pb v0 v1 v2 v3 v4) sk19_0.1 sk19_0.2) = (Go.Sx.BR (Go.Sx.ltI v4 8) (Go.Sx.BR (c19_5 v0 v1) (Go.Sx.RunAt Try.prog Try.f19 [] vz sk19_0 (pt19_0 pa pb (Go.Sx.wrapA Go.IntKind.i64 (Int.tdiv v0 2)) (Go.Sx.wrapA Go.IntKind.i64 (Int.tdiv v1 2)) (Go.Sx.wrapA Go.IntKind.i64 (Int.add v2 v3)) (Go.Sx.wrapA Go.IntKind.i64 (Int.mul v3 2)) (Go.Sx.wrapA Go.IntKind.i64 (Int.add v4 1)))) (Go.Sx.RunAt Try.prog Try.f19 [] vz sk19_0 (pt19_0 pa pb (Go.Sx.wrapA Go.IntKind.i64 (Int.tdiv v0 2)) (Go.Sx.wrapA Go.IntKind.i64 (Int.tdiv v1 2)) (v2) (Go.Sx.wrapA Go.IntKind.i64 (Int.mul v3 2)) (Go.Sx.wrapA Go.IntKind.i64 (Int.add v4 1))))) (vz = .int .i64 (v2))) := by kernel_rfl
set_option maxHeartbeats 4000000 in
theorem runs19 (pa : Int) (pb : Int)  : ∀ (n : Nat), (∀ (v0 : Int) (v1 : Int) (v2 : Int) (v3 : Int) (v4 : Int) (r : Int), L19_0 pa pb n v0 v1 v2 v3 v4 = some r → Go.Sx.RunAt Try.prog Try.f19 [] (.int .i64 r) sk19_0 (pt19_0 pa pb v0 v1 v2 v3 v4)) := by
  intro n
  induction n with
  | zero => exact (fun _ _ _ _ _ r h => by cases h)
  | succ n ih =>
    have ih0 := ih
    exact (fun v0 v1 v2 v3 v4 r h => Go.Sx.wpS_run (L := []) (by kernel_rfl) (form19_0 n pa pb v0 v1 v2 v3 v4 (.int .i64 r)) ((Go.Sx.br_of (fun h0 => (Go.Sx.br_of (fun h1 => (fun h => ih0 (Go.Sx.wrapA Go.IntKind.i64 (Int.tdiv v0 2)) (Go.Sx.wrapA Go.IntKind.i64 (Int.tdiv v1 2)) (Go.Sx.wrapA Go.IntKind.i64 (Int.add v2 v3)) (Go.Sx.wrapA Go.IntKind.i64 (Int.mul v3 2)) (Go.Sx.wrapA Go.IntKind.i64 (Int.add v4 1)) r h)) (fun h1 => (fun h => ih0 (Go.Sx.wrapA Go.IntKind.i64 (Int.tdiv v0 2)) (Go.Sx.wrapA Go.IntKind.i64 (Int.tdiv v1 2)) (v2) (Go.Sx.wrapA Go.IntKind.i64 (Int.mul v3 2)) (Go.Sx.wrapA Go.IntKind.i64 (Int.add v4 1)) r h)))) (fun h0 => (fun h => by cases h; rfl))) ((L19_0_succ pa pb n v0 v1 v2 v3 v4).symm.trans h)))
noncomputable def F19 (n : Nat) (pa : Int) (pb : Int) : Option (Int) := (L19_0 pa pb n (pa) (pb) 0 1 0)
set_option maxHeartbeats 4000000 in
theorem form19 (n : Nat) (pa : Int) (pb : Int) (vz : Go.Sx.AV) : Go.Sx.wpS Try.prog Try.f19 [] vz (.st [0, 0, 2, 0, 0, 0, 0, 2, 2, 0, 0, 0, 0, 0, 2, 0, 0, 0, 0] (.stop ⟨[[0, 1, 5, 6, 7]], [], []⟩ [] 0 [])) [] (.code body19 (Go.Sx.startA [.int .i64 pa, .int .i64 pb] Try.f19) (Go.Sx.laidHeap [])) = (Go.Sx.RunAt Try.prog Try.f19 [] vz sk19_0 (pt19_0 pa pb (pa) (pb) 0 1 0)) := by kernel_rfl
set_option maxHeartbeats 4000000 in
theorem run19 (n : Nat) (pa : Int) (pb : Int)  (r : Int) (h : F19 n pa pb = some r) : Go.Sx.Run Try.prog Try.f19 [] (.int .i64 r) [] (.code body19 (Go.Sx.startA [.int .i64 pa, .int .i64 pb] Try.f19) (Go.Sx.laidHeap [])) := by
  have ih0 := runs19 pa pb  n
  exact Go.Sx.wpS_run (L := []) (by kernel_rfl) (form19 n pa pb (.int .i64 r)) ((fun h => ih0 (pa) (pb) 0 1 0 r h) h)
noncomputable def F19_0 (n : Nat) (pa : Int) (pb : Int) : Int := ((F19 n pa pb).getD default)
theorem fact19 (n : Nat) (pa : Int) (pb : Int)  (h : (F19 n pa pb).isSome = true) : Go.Sx.Fact Try.prog [] 19 [.int .i64 pa, .int .i64 pb] (.int .i64 (F19_0 n pa pb)) := Go.Sx.fact_of_run okayed (by kernel_rfl) (by kernel_rfl) Try.func19 body19_eq (run19 n pa pb  ((F19 n pa pb).getD default) (Go.Sx.getD_some h))
noncomputable def body10 : Go.Code := (Try.f10.body).getD .skip
theorem body10_eq : Try.f10.body = some body10 := Go.Sx.some_getD (by kernel_rfl)
noncomputable def sk10_0 : List Go.Sx.FC × Go.Sx.CC := (Go.Sx.skelAt Try.prog [.fn 10 [.r, .r, .r, .r, .l, .op 5], .fn 17 [.r, .i, .r, .r, .l, .r, .i, .h]] []).getD ([], .code .skip)
noncomputable def c10_36 (tt : (List Nat)) : Bool := (Go.Sx.ltI 65536 (Go.Sx.wrapA Go.IntKind.i64 (Int.add (↑(List.length tt) : Int) 4)))
noncomputable def u10_37 (tt : (List Nat)) : List Nat := ([0, 0, 0, 0] ++ tt)
noncomputable def t10_38 (tt : (List Nat)) : Int := ((↑(List.length ([0, 0, 0, 0] ++ tt)) : Int))
noncomputable def t10_39 (kk : (Int)) (v0 : (List Nat)) : Int := (Go.IntKind.wrap Go.IntKind.u8 (↑(BitVec.toNat (BitVec.ofInt 8 (Go.Sx.byteI v0 (0)) ^^^ BitVec.ofInt 8 (Go.Sx.wrapA Go.IntKind.u8 (Int.fdiv (Go.Sx.wrapA Go.IntKind.u16 kk) (256))))) : Int))
noncomputable def t10_40 (kk : (Int)) (v0 : (List Nat)) : Int := (Go.Sx.wrapA Go.IntKind.u16 (Int.add (Go.Sx.wrapA Go.IntKind.u16 (Int.mul (Go.Sx.wrapA Go.IntKind.u16 (Int.add (Go.Sx.wrapA Go.IntKind.u16 (Go.IntKind.wrap Go.IntKind.u8 (↑(BitVec.toNat (BitVec.ofInt 8 (Go.Sx.byteI v0 (0)) ^^^ BitVec.ofInt 8 (Go.Sx.wrapA Go.IntKind.u8 (Int.fdiv (Go.Sx.wrapA Go.IntKind.u16 kk) (256))))) : Int))) (Go.Sx.wrapA Go.IntKind.u16 kk))) 52845)) 22719))
noncomputable def t10_41 (v0 : (List Nat)) (v3 : (Int)) (v4 : (Int)) : Int := (Go.IntKind.wrap Go.IntKind.u8 (↑(BitVec.toNat (BitVec.ofInt 8 (Go.Sx.byteI v0 v3) ^^^ BitVec.ofInt 8 (Go.Sx.wrapA Go.IntKind.u8 (Int.fdiv v4 (256))))) : Int))
noncomputable def t10_42 (v0 : (List Nat)) (v3 : (Int)) (v4 : (Int)) : Int := (Go.Sx.wrapA Go.IntKind.u16 (Int.add (Go.Sx.wrapA Go.IntKind.u16 (Int.mul (Go.Sx.wrapA Go.IntKind.u16 (Int.add (Go.Sx.wrapA Go.IntKind.u16 (Go.IntKind.wrap Go.IntKind.u8 (↑(BitVec.toNat (BitVec.ofInt 8 (Go.Sx.byteI v0 v3) ^^^ BitVec.ofInt 8 (Go.Sx.wrapA Go.IntKind.u8 (Int.fdiv v4 (256))))) : Int))) v4)) 52845)) 22719))
noncomputable def l10_43 (v0 : (List Nat)) (v3 : (Int)) (v4 : (Int)) (v5 : (List Go.Sx.AV)) : List Go.Sx.AV := (v5 ++ [Go.Sx.AV.int Go.IntKind.u8 (t10_41 v0 v3 v4)])
noncomputable def pt10_0 (tt : List Nat) (kk : Int) (v0 : List Nat) (v1 : Int) : Go.Sx.Pt := ⟨[(30, [(0, .str (v0)), (1, .int .i64 (.ofNat 0)), (2, .fn (.func 18) [.ptr 0 0] []), (7, .nils), (11, .int .i64 (v1)), (12, .int .i64 (.ofNat 0))]), (29, [])], [], 1, [(0, .cells 40 [.int .u16 (Go.Sx.wrapA Go.IntKind.u16 kk)] false)]⟩
noncomputable def pt10_1 (tt : List Nat) (kk : Int) (v0 : List Nat) (v1 : Nat) (v2 : Int) (v3 : Int) (v4 : Int) (v5 : List Go.Sx.AV) : Go.Sx.Pt := ⟨[(30, [(0, .str (v0)), (1, .int .i64 (.ofNat 0)), (2, .fn (.func 18) [.ptr 0 0] []), (7, .slc 2 0 (v1) (.upto 1 (v1))), (11, .int .i64 (v2)), (12, .int .i64 (v3))]), (29, [])], [], 3, [(0, .cells 40 [.int .u16 (v4)] false), (2, .cells 5 (v5) true)]⟩
mutual
noncomputable def L10_0 (tt : List Nat) (kk : Int) : Nat → (List Nat) → Int → Option (List Nat × Int)
  | 0, _, _ => none
  | n + 1, v0, v1 => (bif (Go.Sx.ltI (0) v1) then (bif (Go.Sx.inB (0) (List.length v0)) then (L10_1 tt kk n (v0) 1 (v1) 1 (t10_40 kk v0) [.int .u8 (t10_39 kk v0)]) else none) else (some ([], 0)))
noncomputable def L10_1 (tt : List Nat) (kk : Int) : Nat → (List Nat) → Nat → Int → Int → Int → (List Go.Sx.AV) → Option (List Nat × Int)
  | 0, _, _, _, _, _, _ => none
  | n + 1, v0, v1, v2, v3, v4, v5 => (bif (Go.Sx.ltI v3 v2) then (bif (Go.Sx.inB v3 (List.length v0)) then (bif (Go.Sx.ltI v3 (0)) then (bif (Go.Sx.pureAVs v5) then (L10_1 tt kk n (v0) (v1) (v2) (Go.Sx.wrapA Go.IntKind.i64 (Int.add v3 1)) (t10_42 v0 v3 v4) (v5)) else none) else (bif (Nat.blt v1 (v1 + 1)) then (bif (Nat.ble v1 1000000) then (bif (Nat.beq (List.length v5) (0 + v1 * 1)) then (bif (Go.Sx.pureAVs (l10_43 v0 v3 v4 v5)) then (L10_1 tt kk n (v0) (v1 + 1) (v2) (Go.Sx.wrapA Go.IntKind.i64 (Int.add v3 1)) (t10_42 v0 v3 v4) (l10_43 v0 v3 v4 v5)) else none) else none) else none) else none)) else none) else (bif (Go.Sx.strOk v5 0 v1) then (some ((Go.Sx.strOf v5 0 v1), 0)) else none))
termination_by structural n => n
end
theorem L10_0_succ (tt : List Nat) (kk : Int) (n : Nat) (v0 : List Nat) (v1 : Int) : L10_0 tt kk (n + 1) v0 v1 = (bif (Go.Sx.ltI (0) v1) then (bif (Go.Sx.inB (0) (List.length v0)) then (L10_1 tt kk n (v0) 1 (v1) 1 (t10_40 kk v0) [.int .u8 (t10_39 kk v0)]) else none) else (some ([], 0))) := rfl
theorem L10_1_succ (tt : List Nat) (kk : Int) (n : Nat) (v0 : List Nat) (v1 : Nat) (v2 : Int) (v3 : Int) (v4 : Int) (v5 : List Go.Sx.AV) : L10_1 tt kk (n + 1) v0 v1 v2 v3 v4 v5 = (bif (Go.Sx.ltI v3 v2) then (bif (Go.Sx.inB v3 (List.length v0)) then (bif (Go.Sx.ltI v3 (0)) then (bif (Go.Sx.pureAVs v5) then (L10_1 tt kk n (v0) (v1) (v2) (Go.Sx.wrapA Go.IntKind.i64 (Int.add v3 1)) (t10_42 v0 v3 v4) (v5)) else none) else (bif (Nat.blt v1 (v1 + 1)) then (bif (Nat.ble v1 1000000) then (bif (Nat.beq (List.length v5) (0 + v1 * 1)) then (bif (Go.Sx.pureAVs (l10_43 v0 v3 v4 v5)) then (L10_1 tt kk n (v0) (v1 + 1) (v2) (Go.Sx.wrapA Go.IntKind.i64 (Int.add v3 1)) (t10_42 v0 v3 v4) (l10_43 v0 v3 v4 v5)) else none) else none) else none) else none)) else none) else (bif (Go.Sx.strOk v5 0 v1) then (some ((Go.Sx.strOf v5 0 v1), 0)) else none)) := rfl
set_option maxHeartbeats 4000000 in
theorem form10_0 (n : Nat) (tt : List Nat) (kk : Int) (v0 : List Nat) (v1 : Int) (vz : Go.Sx.AV) : Go.Sx.wpS Try.prog Try.f10 [] vz (.st [0, 0, 0, 2, 0, 0, 0] (.br 13 (.st [0, 2, 0, 0, 0, 0, 0, 2, 2, 0, 0, 0, 0, 2, 2, 2] (.sp 2 (.st [0, 0, 0, 2, 0, 0, 0, 0, 2, 2, 2, 2, 0, 0, 0, 2, 0, 0, 0, 0, 2, 2, 2, 2, 2, 2, 2, 0, 0, 2, 0, 2, 2, 0, 0, 0, 0, 2, 2, 2, 2, 0, 0, 2, 2, 2, 2, 2, 2, 2, 2, 2, 2, 2, 2, 2, 0, 0, 0, 0, 0, 0, 2, 2, 0, 0, 2, 0, 2, 0, 0, 0, 0, 0, 2, 2, 2, 0, 0, 0, 2, 0, 0, 2, 2, 2, 2, 2, 0, 0, 0, 0, 2, 2, 0, 0] (.stop ⟨[[0, 1, 2, 7, 11, 12], []], [], [0, 2]⟩ [(0, 0), (2, 2)] 3 [2])))) (.st [0, 2, 0, 0, 0, 0, 0, 0, 2, 2, 2, 0, 0, 2, 0, 0, 2, 2, 0, 0, 2] .ans))) (Go.Sx.mkK sk10_0.1 (pt10_0 tt kk v0 v1).frs.tail) (Go.Sx.mkC [] (pt10_0 tt kk v0 v1) sk10_0.1 sk10_0.2) = (Go.Sx.BR (Go.Sx.ltI (0) v1) (Go.Sx.AN (Go.Sx.inB (0) (List.length v0)) (Go.Sx.AN (Go.Sx.pureAVs [Go.Sx.AV.int Go.IntKind.u8 (t10_39 kk v0)]) (Go.Sx.RunAt Try.prog Try.f10 [] vz sk10_0 (pt10_1 tt kk (v0) 1 (v1) 1 (t10_40 kk v0) [.int .u8 (t10_39 kk v0)])))) (vz = .tup [.str [], .int .i64 (.ofNat 0)])) := by kernel_rfl
set_option maxHeartbeats 4000000 in
theorem form10_1 (n : Nat) (tt : List Nat) (kk : Int) (v0 : List Nat) (v1 : Nat) (v2 : Int) (v3 : Int) (v4 : Int) (v5 : List Go.Sx.AV) (vz : Go.Sx.AV) : Go.Sx.wpS Try.prog Try.f10 [] vz (.st [0, 0, 0, 2, 0, 0, 0] (.br 13 (.st [0, 2, 0, 0, 0, 0, 0, 2, 2, 0, 0, 0, 0, 2, 2, 2] (.sp 2 (.st [0, 0, 0, 2, 0, 0, 0, 0, 2, 2, 2, 2, 0, 0, 0, 2, 0, 0, 0, 0, 2, 2, 2, 2, 2, 2, 2, 0, 0, 2, 0, 2, 2, 0, 0, 0, 0, 2, 2, 2, 2, 0, 0, 2, 2, 2, 2, 2, 2, 2, 2, 2, 2, 2, 2, 2, 0, 0, 0, 0, 0, 0, 2, 2, 0, 0, 2, 0, 2, 0, 0, 0, 0, 0, 2, 2, 2, 0, 0] (.br 22 (.st [0, 2, 0, 0, 0, 0, 2, 2, 0, 0] (.stop ⟨[[0, 1, 2, 7, 11, 12], []], [], [0, 2]⟩ [(0, 0), (2, 2)] 3 [2])) (.st [0, 2, 0, 0, 2, 2, 2] (.sp 2 (.st [2, 0, 0, 0, 0, 2, 2, 0, 0] (.stop ⟨[[0, 1, 2, 7, 11, 12], []], [], [0, 4]⟩ [(0, 0), (4, 2)] 3 [4])))))))) (.st [0, 2, 0, 0, 0, 0, 0, 0, 2] (.sp 2 (.st [2, 0, 0, 2, 0, 0, 2, 2, 0, 0, 2] .ans))))) (Go.Sx.mkK sk10_0.1 (pt10_1 tt kk v0 v1 v2 v3 v4 v5).frs.tail) (Go.Sx.mkC [] (pt10_1 tt kk v0 v1 v2 v3 v4 v5) sk10_0.1 sk10_0.2) = (Go.Sx.BR (Go.Sx.ltI v3 v2) (Go.Sx.AN (Go.Sx.inB v3 (List.length v0)) (Go.Sx.BR (Go.Sx.ltI v3 (0)) (Go.Sx.AN (Go.Sx.pureAVs v5) (Go.Sx.RunAt Try.prog Try.f10 [] vz sk10_0 (pt10_1 tt kk (v0) (v1) (v2) (Go.Sx.wrapA Go.IntKind.i64 (Int.add v3 1)) (t10_42 v0 v3 v4) (v5)))) (Go.Sx.AN (Go.Sx.andB (Nat.blt v1 (v1 + 1)) (Go.Sx.andB (Nat.ble v1 1000000) (Nat.beq (List.length v5) (0 + v1 * 1)))) (Go.Sx.AN (Go.Sx.pureAVs (l10_43 v0 v3 v4 v5)) (Go.Sx.RunAt Try.prog Try.f10 [] vz sk10_0 (pt10_1 tt kk (v0) (v1 + 1) (v2) (Go.Sx.wrapA Go.IntKind.i64 (Int.add v3 1)) (t10_42 v0 v3 v4) (l10_43 v0 v3 v4 v5))))))) (Go.Sx.AN (Go.Sx.strOk v5 0 v1) (vz = .tup [.str (Go.Sx.strOf v5 0 v1), .int .i64 (.ofNat 0)]))) := by kernel_rfl
set_option maxHeartbeats 4000000 in
theorem runs10 (tt : List Nat) (kk : Int)  : ∀ (n : Nat), (∀ (v0 : List Nat) (v1 : Int) (r : List Nat × Int), L10_0 tt kk n v0 v1 = some r → Go.Sx.RunAt Try.prog Try.f10 [] (.tup [.str r.1, .int .i64 r.2]) sk10_0 (pt10_0 tt kk v0 v1)) ∧ (∀ (v0 : List Nat) (v1 : Nat) (v2 : Int) (v3 : Int) (v4 : Int) (v5 : List Go.Sx.AV) (r : List Nat × Int), L10_1 tt kk n v0 v1 v2 v3 v4 v5 = some r → Go.Sx.RunAt Try.prog Try.f10 [] (.tup [.str r.1, .int .i64 r.2]) sk10_0 (pt10_1 tt kk v0 v1 v2 v3 v4 v5)) := by
  intro n
  induction n with
  | zero => exact ⟨(fun _ _ r h => by cases h), (fun _ _ _ _ _ _ r h => by cases h)⟩
  | succ n ih =>
    obtain ⟨ih0, ih1⟩ := ih
    exact ⟨(fun v0 v1 r h => Go.Sx.wpS_run (L := []) (by kernel_rfl) (form10_0 n tt kk v0 v1 (.tup [.str r.1, .int .i64 r.2])) ((Go.Sx.br_of (fun h6 => (Go.Sx.guard_of fun h7 => (fun h => ⟨h7, (fun h => ⟨rfl, (fun h => ih1 (v0) 1 (v1) 1 (t10_40 kk v0) [.int .u8 (t10_39 kk v0)] r h) h⟩) h⟩))) (fun h6 => (fun h => by cases h; rfl))) ((L10_0_succ tt kk n v0 v1).symm.trans h))), (fun v0 v1 v2 v3 v4 v5 r h => Go.Sx.wpS_run (L := []) (by kernel_rfl) (form10_1 n tt kk v0 v1 v2 v3 v4 v5 (.tup [.str r.1, .int .i64 r.2])) ((Go.Sx.br_of (fun h8 => (Go.Sx.guard_of fun h9 => (fun h => ⟨h9, (Go.Sx.br_of (fun h10 => (Go.Sx.guard_of fun h11 => (fun h => ⟨h11, (fun h => ih1 (v0) (v1) (v2) (Go.Sx.wrapA Go.IntKind.i64 (Int.add v3 1)) (t10_42 v0 v3 v4) (v5) r h) h⟩))) (fun h10 => (Go.Sx.guard_of fun h12 => (Go.Sx.guard_of fun h13 => (Go.Sx.guard_of fun h14 => (fun h => ⟨(Go.Sx.and_t h12 (Go.Sx.and_t h13 h14)), (Go.Sx.guard_of fun h15 => (fun h => ⟨h15, (fun h => ih1 (v0) (v1 + 1) (v2) (Go.Sx.wrapA Go.IntKind.i64 (Int.add v3 1)) (t10_42 v0 v3 v4) (l10_43 v0 v3 v4 v5) r h) h⟩)) h⟩)))))) h⟩))) (fun h8 => (Go.Sx.guard_of fun h16 => (fun h => ⟨h16, (fun h => by cases h; rfl) h⟩)))) ((L10_1_succ tt kk n v0 v1 v2 v3 v4 v5).symm.trans h)))⟩
noncomputable def F10 (n : Nat) (tt : List Nat) (kk : Int) : Option (List Nat × Int) := (bif (Go.Sx.ltI 65536 (↑(List.length tt) : Int)) then (some ([], 3)) else (bif (Go.Sx.ltI kk 0) then (some ([], 2)) else (bif (Go.Sx.ltI 65535 kk) then (some ([], 2)) else (bif (c10_36 tt) then (some ([], 3)) else (bif (Option.isSome (F15 [0] 4)) then (bif (Nat.blt (4 + List.length tt) 9223372036854775808) then (L10_0 tt kk n (u10_37 tt) (t10_38 tt)) else none) else none)))))
set_option maxHeartbeats 4000000 in
theorem form10 (n : Nat) (tt : List Nat) (kk : Int) (vz : Go.Sx.AV) : Go.Sx.wpS Try.prog Try.f10 [] vz (.st [0, 0, 2, 2, 0, 0, 0, 0, 0, 2, 2, 0, 0, 0, 2, 0, 0, 0, 0, 0, 2, 2, 2, 0, 0] (.br 7 (.st [0, 0, 0, 2, 0, 0, 2, 0, 0, 2, 0, 0, 0, 0, 2, 2, 0, 0, 0, 0, 0, 2, 2, 2, 0, 0, 2, 0] .ans) (.st [0, 2, 0, 0, 0, 0, 2, 2, 2] (.br 10 (.st [2, 2, 2, 0, 0, 0, 0, 0, 2, 0, 0, 2, 0, 0, 2, 0, 0, 0, 0, 2, 2, 0, 0, 0, 0, 0, 2, 2, 2, 0, 0, 2, 0] .ans) (.st [2, 2, 2, 0, 0] (.br 13 (.st [0, 0, 0, 2, 0, 0, 2, 0, 0, 2, 0, 0, 0, 0, 2, 2, 0, 0, 0, 0, 0, 2, 2, 2, 0, 0, 2, 0] .ans) (.st [0, 2, 0, 0, 0, 2, 0, 0, 2, 0, 2, 0, 0, 0, 0, 2, 2, 0, 0, 0, 2, 0, 0, 0, 0, 2, 2, 2, 2, 0, 0] (.br 17 (.st [0, 0, 0, 2, 2, 0, 0, 2, 0] .ans) (.st [0, 2, 0, 0, 0, 2, 2, 2, 2, 2, 2, 0, 0, 0, 0] (.use [] (.str [0, 0, 0, 0]) (.st [2] (.sp 2 (.st [2, 2, 0, 0, 0, 2, 0, 0, 0, 0, 0, 2, 0, 0, 0, 2, 0, 0, 0, 0, 2, 2, 2, 0, 0, 0, 0] (.stop ⟨[[0, 1, 2, 7, 11, 12], []], [], [0]⟩ [(0, 0)] 1 [])))))))))))))) [] (.code body10 (Go.Sx.startA [.str tt, .int .i64 kk] Try.f10) (Go.Sx.laidHeap [])) = (Go.Sx.BR (Go.Sx.ltI 65536 (↑(List.length tt) : Int)) (vz = .tup [.str [], .int .i64 (.ofNat 3)]) (Go.Sx.BR (Go.Sx.ltI kk 0) (vz = .tup [.str [], .int .i64 (.ofNat 2)]) (Go.Sx.BR (Go.Sx.ltI 65535 kk) (vz = .tup [.str [], .int .i64 (.ofNat 2)]) (Go.Sx.BR (c10_36 tt) (vz = .tup [.str [], .int .i64 (.ofNat 3)]) (Go.Sx.Fact Try.prog [] 15 [.str [0], .int .i64 (.ofNat 4)] (.str [0, 0, 0, 0]) ∧ (Go.Sx.AN (Nat.blt (4 + List.length tt) 9223372036854775808) (Go.Sx.RunAt Try.prog Try.f10 [] vz sk10_0 (pt10_0 tt kk (u10_37 tt) (t10_38 tt))))))))) := by kernel_rfl
set_option maxHeartbeats 4000000 in
theorem run10 (n : Nat) (tt : List Nat) (kk : Int)  (r : List Nat × Int) (h : F10 n tt kk = some r) : Go.Sx.Run Try.prog Try.f10 [] (.tup [.str r.1, .int .i64 r.2]) [] (.code body10 (Go.Sx.startA [.str tt, .int .i64 kk] Try.f10) (Go.Sx.laidHeap [])) := by
  obtain ⟨ih0, ih1⟩ := runs10 tt kk  n
  exact Go.Sx.wpS_run (L := []) (by kernel_rfl) (form10 n tt kk (.tup [.str r.1, .int .i64 r.2])) ((Go.Sx.br_of (fun h0 => (fun h => by cases h; rfl)) (fun h0 => (Go.Sx.br_of (fun h1 => (fun h => by cases h; rfl)) (fun h1 => (Go.Sx.br_of (fun h2 => (fun h => by cases h; rfl)) (fun h2 => (Go.Sx.br_of (fun h3 => (fun h => by cases h; rfl)) (fun h3 => (Go.Sx.guard_of fun h4 => (fun h => ⟨fact15 ([0]) (4) h4, (Go.Sx.guard_of fun h5 => (fun h => ⟨h5, (fun h => ih0 (u10_37 tt) (t10_38 tt) r h) h⟩)) h⟩)))))))))) h)
noncomputable def F10_0 (n : Nat) (tt : List Nat) (kk : Int) : List Nat := ((F10 n tt kk).getD default).1
noncomputable def F10_1 (n : Nat) (tt : List Nat) (kk : Int) : Int := ((F10 n tt kk).getD default).2
theorem fact10 (n : Nat) (tt : List Nat) (kk : Int)  (h : (F10 n tt kk).isSome = true) : Go.Sx.Fact Try.prog [] 10 [.str tt, .int .i64 kk] (.tup [.str (F10_0 n tt kk), .int .i64 (F10_1 n tt kk)]) := Go.Sx.fact_of_run okayed (by kernel_rfl) (by kernel_rfl) Try.func10 body10_eq (run10 n tt kk  ((F10 n tt kk).getD default) (Go.Sx.getD_some h))
noncomputable def body11 : Go.Code := (Try.f11.body).getD .skip
theorem body11_eq : Try.f11.body = some body11 := Go.Sx.some_getD (by kernel_rfl)
noncomputable def sk11_0 : List Go.Sx.FC × Go.Sx.CC := (Go.Sx.skelAt Try.prog [.fn 11 [.r, .r, .r, .r, .r, .r, .l, .r, .i, .h]] []).getD ([], .code .skip)
noncomputable def c11_21 (tt : (List Nat)) : Bool := (Go.Sx.ltI 65536 (Go.Sx.wrapA Go.IntKind.i64 (Int.add (↑(List.length tt) : Int) 4)))
noncomputable def t11_22 (n : (Nat)) (kk : (Int)) : Int := (Int.tmod (Go.Sx.wrapA Go.IntKind.i64 (Int.add (Go.Sx.wrapA Go.IntKind.i64 (Int.mul (Go.Sx.wrapA Go.IntKind.i64 (Int.add (F19_0 n (0) (Go.Sx.wrapA Go.IntKind.i64 (Int.tdiv kk 256))) kk)) 52845)) 22719)) 65536)
noncomputable def l11_23 (n : (Nat)) (kk : (Int)) : List Go.Sx.AV := ([Go.Sx.AV.int Go.IntKind.u8 (Go.Sx.wrapA Go.IntKind.u8 (F19_0 n (0) (Go.Sx.wrapA Go.IntKind.i64 (Int.tdiv kk 256))))])
noncomputable def t11_24 (n : (Nat)) (tt : (List Nat)) (v0 : (Int)) (v2 : (Int)) : Int := (F19_0 n (Go.Sx.wrapA Go.IntKind.i64 (Go.Sx.byteI tt v2)) (Go.Sx.wrapA Go.IntKind.i64 (Int.tdiv v0 256)))
noncomputable def t11_25 (n : (Nat)) (tt : (List Nat)) (v0 : (Int)) (v2 : (Int)) : Int := (Go.Sx.wrapA Go.IntKind.u8 (F19_0 n (Go.Sx.wrapA Go.IntKind.i64 (Go.Sx.byteI tt v2)) (Go.Sx.wrapA Go.IntKind.i64 (Int.tdiv v0 256))))
noncomputable def t11_26 (n : (Nat)) (tt : (List Nat)) (v0 : (Int)) (v2 : (Int)) : Int := (Int.tmod (Go.Sx.wrapA Go.IntKind.i64 (Int.add (Go.Sx.wrapA Go.IntKind.i64 (Int.mul (Go.Sx.wrapA Go.IntKind.i64 (Int.add (t11_24 n tt v0 v2) v0)) 52845)) 22719)) 65536)
noncomputable def l11_27 (n : (Nat)) (tt : (List Nat)) (v0 : (Int)) (v2 : (Int)) (v3 : (List Go.Sx.AV)) : List Go.Sx.AV := (v3 ++ [Go.Sx.AV.int Go.IntKind.u8 (t11_25 n tt v0 v2)])
noncomputable def t11_28 (n : (Nat)) (v0 : (Int)) : Int := (Int.tmod (Go.Sx.wrapA Go.IntKind.i64 (Int.add (Go.Sx.wrapA Go.IntKind.i64 (Int.mul (Go.Sx.wrapA Go.IntKind.i64 (Int.add (F19_0 n (0) (Go.Sx.wrapA Go.IntKind.i64 (Int.tdiv v0 256))) v0)) 52845)) 22719)) 65536)
noncomputable def l11_29 (n : (Nat)) (v0 : (Int)) (v3 : (List Go.Sx.AV)) : List Go.Sx.AV := (v3 ++ [Go.Sx.AV.int Go.IntKind.u8 (Go.Sx.wrapA Go.IntKind.u8 (F19_0 n (0) (Go.Sx.wrapA Go.IntKind.i64 (Int.tdiv v0 256))))])
noncomputable def pt11_0 (tt : List Nat) (kk : Int)  : Go.Sx.Pt := ⟨[(54, [(0, .str (tt)), (6, .int .i64 (kk)), (7, .nils), (8, .int .i64 (.negSucc 3))])], [], 0, []⟩
noncomputable def pt11_1 (tt : List Nat) (kk : Int) (v0 : Int) (v1 : Nat) (v2 : Int) (v3 : List Go.Sx.AV) : Go.Sx.Pt := ⟨[(54, [(0, .str (tt)), (6, .int .i64 (v0)), (7, .slc 1 0 (v1) (.upto 1 (v1))), (8, .int .i64 (v2))])], [], 2, [(1, .cells 5 (v3) true)]⟩
mutual
noncomputable def L11_0 (tt : List Nat) (kk : Int) : Nat → Option (List Nat × Int)
  | 0 => none
  | n + 1 => (bif (Option.isSome (F19 n 0 (Go.Sx.wrapA Go.IntKind.i64 (Int.tdiv kk 256)))) then (L11_1 tt kk n (t11_22 n kk) 1 (-3) (l11_23 n kk)) else none)
noncomputable def L11_1 (tt : List Nat) (kk : Int) : Nat → Int → Nat → Int → (List Go.Sx.AV) → Option (List Nat × Int)
  | 0, _, _, _, _ => none
  | n + 1, v0, v1, v2, v3 => (bif (Go.Sx.ltI v2 (↑(List.length tt) : Int)) then (bif (!Go.Sx.ltI v2 0) then (bif (Go.Sx.inB v2 (List.length tt)) then (bif (Option.isSome (F19 n (Go.Sx.wrapA Go.IntKind.i64 (Go.Sx.byteI tt v2)) (Go.Sx.wrapA Go.IntKind.i64 (Int.tdiv v0 256)))) then (bif (Nat.blt v1 (v1 + 1)) then (bif (Nat.ble v1 1000000) then (bif (Nat.beq (List.length v3) (0 + v1 * 1)) then (bif (Go.Sx.pureAVs (l11_27 n tt v0 v2 v3)) then (L11_1 tt kk n (t11_26 n tt v0 v2) (v1 + 1) (Go.Sx.wrapA Go.IntKind.i64 (Int.add v2 1)) (l11_27 n tt v0 v2 v3)) else none) else none) else none) else none) else none) else none) else (bif (Option.isSome (F19 n 0 (Go.Sx.wrapA Go.IntKind.i64 (Int.tdiv v0 256)))) then (bif (Nat.blt v1 (v1 + 1)) then (bif (Nat.ble v1 1000000) then (bif (Nat.beq (List.length v3) (0 + v1 * 1)) then (bif (Go.Sx.pureAVs (l11_29 n v0 v3)) then (L11_1 tt kk n (t11_28 n v0) (v1 + 1) (Go.Sx.wrapA Go.IntKind.i64 (Int.add v2 1)) (l11_29 n v0 v3)) else none) else none) else none) else none) else none)) else (bif (Go.Sx.strOk v3 0 v1) then (some ((Go.Sx.strOf v3 0 v1), 0)) else none))
termination_by structural n => n
end
theorem L11_0_succ (tt : List Nat) (kk : Int) (n : Nat)  : L11_0 tt kk (n + 1)  = (bif (Option.isSome (F19 n 0 (Go.Sx.wrapA Go.IntKind.i64 (Int.tdiv kk 256)))) then (L11_1 tt kk n (t11_22 n kk) 1 (-3) (l11_23 n kk)) else none) := rfl
theorem L11_1_succ (tt : List Nat) (kk : Int) (n : Nat) (v0 : Int) (v1 : Nat) (v2 : Int) (v3 : List Go.Sx.AV) : L11_1 tt kk (n + 1) v0 v1 v2 v3 = (bif (Go.Sx.ltI v2 (↑(List.length tt) : Int)) then (bif (!Go.Sx.ltI v2 0) then (bif (Go.Sx.inB v2 (List.length tt)) then (bif (Option.isSome (F19 n (Go.Sx.wrapA Go.IntKind.i64 (Go.Sx.byteI tt v2)) (Go.Sx.wrapA Go.IntKind.i64 (Int.tdiv v0 256)))) then (bif (Nat.blt v1 (v1 + 1)) then (bif (Nat.ble v1 1000000) then (bif (Nat.beq (List.length v3) (0 + v1 * 1)) then (bif (Go.Sx.pureAVs (l11_27 n tt v0 v2 v3)) then (L11_1 tt kk n (t11_26 n tt v0 v2) (v1 + 1) (Go.Sx.wrapA Go.IntKind.i64 (Int.add v2 1)) (l11_27 n tt v0 v2 v3)) else none) else none) else none) else none) else none) else none) else (bif (Option.isSome (F19 n 0 (Go.Sx.wrapA Go.IntKind.i64 (Int.tdiv v0 256)))) then (bif (Nat.blt v1 (v1 + 1)) then (bif (Nat.ble v1 1000000) then (bif (Nat.beq (List.length v3) (0 + v1 * 1)) then (bif (Go.Sx.pureAVs (l11_29 n v0 v3)) then (L11_1 tt kk n (t11_28 n v0) (v1 + 1) (Go.Sx.wrapA Go.IntKind.i64 (Int.add v2 1)) (l11_29 n v0 v3)) else none) else none) else none) else none) else none)) else (bif (Go.Sx.strOk v3 0 v1) then (some ((Go.Sx.strOf v3 0 v1), 0)) else none)) := rfl
set_option maxHeartbeats 4000000 in
theorem form11_0 (n : Nat) (tt : List Nat) (kk : Int)  (vz : Go.Sx.AV) : Go.Sx.wpS Try.prog Try.f11 [] vz (.st [0, 0, 0, 0, 2, 2, 2, 2, 0, 0, 0, 2, 0, 0, 0, 0, 0, 2, 0, 0, 0, 0, 0, 2, 2, 0, 0, 0, 2, 0, 0, 0, 2, 2, 2] (.use [] (.int .i64 (F19_0 n (Int.ofNat 0) (Go.Sx.wrapA Go.IntKind.i64 (Int.tdiv kk 256)))) (.st [2, 0, 0, 0, 0, 2, 2, 2, 2, 2, 2, 0, 0, 0, 2, 2, 2, 2, 2, 2, 2, 0, 0, 0, 0, 2, 2, 2, 0, 0] (.stop ⟨[[0, 6, 7, 8]], [], [1]⟩ [(1, 1)] 2 [1])))) (Go.Sx.mkK sk11_0.1 (pt11_0 tt kk ).frs.tail) (Go.Sx.mkC [] (pt11_0 tt kk ) sk11_0.1 sk11_0.2) = (Go.Sx.Fact Try.prog [] 19 [.int .i64 (.ofNat 0), .int .i64 (Go.Sx.wrapA Go.IntKind.i64 (Int.tdiv kk 256))] (.int .i64 (F19_0 n (Int.ofNat 0) (Go.Sx.wrapA Go.IntKind.i64 (Int.tdiv kk 256)))) ∧ (Go.Sx.AN (Go.Sx.pureAVs (l11_23 n kk)) (Go.Sx.RunAt Try.prog Try.f11 [] vz sk11_0 (pt11_1 tt kk (t11_22 n kk) 1 (-3) (l11_23 n kk))))) := by kernel_rfl
set_option maxHeartbeats 4000000 in
theorem form11_1 (n : Nat) (tt : List Nat) (kk : Int) (v0 : Int) (v1 : Nat) (v2 : Int) (v3 : List Go.Sx.AV) (vz : Go.Sx.AV) : Go.Sx.wpS Try.prog Try.f11 [] vz (.st [0, 0, 0, 0, 2, 2, 2, 2, 0, 0] (.br 28 (.st [0, 2, 0, 0, 0, 0, 0, 2, 0, 0, 0, 0, 0, 2, 2, 0, 0] (.br 32 (.st [0, 0, 2, 2] (.sp 2 (.st [2, 2, 0, 0, 0, 0, 2, 2, 2] (.use [] (.int .i64 (F19_0 n (Go.Sx.wrapA Go.IntKind.i64 (Go.Sx.byteI tt v2)) (Go.Sx.wrapA Go.IntKind.i64 (Int.tdiv v0 256)))) (.st [2, 0, 0, 0, 0, 2, 2, 2, 2] (.sp 2 (.st [2, 0, 0, 0, 2, 2, 2, 2, 2, 2, 2, 0, 0, 0, 0, 2, 2, 2, 0, 0] (.stop ⟨[[0, 6, 7, 8]], [], [3]⟩ [(3, 1)] 2 [3])))))))) (.st [0, 2, 0, 0, 0, 2, 2, 2] (.use [] (.int .i64 (F19_0 n (Int.ofNat 0) (Go.Sx.wrapA Go.IntKind.i64 (Int.tdiv v0 256)))) (.st [2, 0, 0, 0, 0, 2, 2, 2, 2] (.sp 2 (.st [2, 0, 0, 0, 2, 2, 2, 2, 2, 2, 2, 0, 0, 0, 0, 2, 2, 2, 0, 0] (.stop ⟨[[0, 6, 7, 8]], [], [3]⟩ [(3, 1)] 2 [3])))))))) (.st [0, 2, 0, 0, 0, 0, 0, 0, 2] (.sp 2 (.st [2, 2, 0, 0, 2] .ans))))) (Go.Sx.mkK sk11_0.1 (pt11_1 tt kk v0 v1 v2 v3).frs.tail) (Go.Sx.mkC [] (pt11_1 tt kk v0 v1 v2 v3) sk11_0.1 sk11_0.2) = (Go.Sx.BR (Go.Sx.ltI v2 (↑(List.length tt) : Int)) (Go.Sx.BR (!Go.Sx.ltI v2 0) (Go.Sx.AN (Go.Sx.inB v2 (List.length tt)) (Go.Sx.Fact Try.prog [] 19 [.int .i64 (Go.Sx.wrapA Go.IntKind.i64 (Go.Sx.byteI tt v2)), .int .i64 (Go.Sx.wrapA Go.IntKind.i64 (Int.tdiv v0 256))] (.int .i64 (F19_0 n (Go.Sx.wrapA Go.IntKind.i64 (Go.Sx.byteI tt v2)) (Go.Sx.wrapA Go.IntKind.i64 (Int.tdiv v0 256)))) ∧ (Go.Sx.AN (Go.Sx.andB (Nat.blt v1 (v1 + 1)) (Go.Sx.andB (Nat.ble v1 1000000) (Nat.beq (List.length v3) (0 + v1 * 1)))) (Go.Sx.AN (Go.Sx.pureAVs (l11_27 n tt v0 v2 v3)) (Go.Sx.RunAt Try.prog Try.f11 [] vz sk11_0 (pt11_1 tt kk (t11_26 n tt v0 v2) (v1 + 1) (Go.Sx.wrapA Go.IntKind.i64 (Int.add v2 1)) (l11_27 n tt v0 v2 v3))))))) (Go.Sx.Fact Try.prog [] 19 [.int .i64 (.ofNat 0), .int .i64 (Go.Sx.wrapA Go.IntKind.i64 (Int.tdiv v0 256))] (.int .i64 (F19_0 n (Int.ofNat 0) (Go.Sx.wrapA Go.IntKind.i64 (Int.tdiv v0 256)))) ∧ (Go.Sx.AN (Go.Sx.andB (Nat.blt v1 (v1 + 1)) (Go.Sx.andB (Nat.ble v1 1000000) (Nat.beq (List.length v3) (0 + v1 * 1)))) (Go.Sx.AN (Go.Sx.pureAVs (l11_29 n v0 v3)) (Go.Sx.RunAt Try.prog Try.f11 [] vz sk11_0 (pt11_1 tt kk (t11_28 n v0) (v1 + 1) (Go.Sx.wrapA Go.IntKind.i64 (Int.add v2 1)) (l11_29 n v0 v3))))))) (Go.Sx.AN (Go.Sx.strOk v3 0 v1) (vz = .tup [.str (Go.Sx.strOf v3 0 v1), .int .i64 (.ofNat 0)]))) := by kernel_rfl
set_option maxHeartbeats 4000000 in
theorem runs11 (tt : List Nat) (kk : Int)  : ∀ (n : Nat), (∀  (r : List Nat × Int), L11_0 tt kk n  = some r → Go.Sx.RunAt Try.prog Try.f11 [] (.tup [.str r.1, .int .i64 r.2]) sk11_0 (pt11_0 tt kk )) ∧ (∀ (v0 : Int) (v1 : Nat) (v2 : Int) (v3 : List Go.Sx.AV) (r : List Nat × Int), L11_1 tt kk n v0 v1 v2 v3 = some r → Go.Sx.RunAt Try.prog Try.f11 [] (.tup [.str r.1, .int .i64 r.2]) sk11_0 (pt11_1 tt kk v0 v1 v2 v3)) := by
  intro n
  induction n with
  | zero => exact ⟨(fun r h => by cases h), (fun _ _ _ _ r h => by cases h)⟩
  | succ n ih =>
    obtain ⟨ih0, ih1⟩ := ih
    exact ⟨(fun  r h => Go.Sx.wpS_run (L := []) (by kernel_rfl) (form11_0 n tt kk  (.tup [.str r.1, .int .i64 r.2])) ((Go.Sx.guard_of fun h4 => (fun h => ⟨fact19 (n) (0) (Go.Sx.wrapA Go.IntKind.i64 (Int.tdiv kk 256)) h4, (fun h => ⟨rfl, (fun h => ih1 (t11_22 n kk) 1 (-3) (l11_23 n kk) r h) h⟩) h⟩)) ((L11_0_succ tt kk n ).symm.trans h))), (fun v0 v1 v2 v3 r h => Go.Sx.wpS_run (L := []) (by kernel_rfl) (form11_1 n tt kk v0 v1 v2 v3 (.tup [.str r.1, .int .i64 r.2])) ((Go.Sx.br_of (fun h5 => (Go.Sx.br_of (fun h6 => (Go.Sx.guard_of fun h7 => (fun h => ⟨h7, (Go.Sx.guard_of fun h8 => (fun h => ⟨fact19 (n) (Go.Sx.wrapA Go.IntKind.i64 (Go.Sx.byteI tt v2)) (Go.Sx.wrapA Go.IntKind.i64 (Int.tdiv v0 256)) h8, (Go.Sx.guard_of fun h9 => (Go.Sx.guard_of fun h10 => (Go.Sx.guard_of fun h11 => (fun h => ⟨(Go.Sx.and_t h9 (Go.Sx.and_t h10 h11)), (Go.Sx.guard_of fun h12 => (fun h => ⟨h12, (fun h => ih1 (t11_26 n tt v0 v2) (v1 + 1) (Go.Sx.wrapA Go.IntKind.i64 (Int.add v2 1)) (l11_27 n tt v0 v2 v3) r h) h⟩)) h⟩)))) h⟩)) h⟩))) (fun h6 => (Go.Sx.guard_of fun h13 => (fun h => ⟨fact19 (n) (0) (Go.Sx.wrapA Go.IntKind.i64 (Int.tdiv v0 256)) h13, (Go.Sx.guard_of fun h14 => (Go.Sx.guard_of fun h15 => (Go.Sx.guard_of fun h16 => (fun h => ⟨(Go.Sx.and_t h14 (Go.Sx.and_t h15 h16)), (Go.Sx.guard_of fun h17 => (fun h => ⟨h17, (fun h => ih1 (t11_28 n v0) (v1 + 1) (Go.Sx.wrapA Go.IntKind.i64 (Int.add v2 1)) (l11_29 n v0 v3) r h) h⟩)) h⟩)))) h⟩))))) (fun h5 => (Go.Sx.guard_of fun h18 => (fun h => ⟨h18, (fun h => by cases h; rfl) h⟩)))) ((L11_1_succ tt kk n v0 v1 v2 v3).symm.trans h)))⟩
noncomputable def F11 (n : Nat) (tt : List Nat) (kk : Int) : Option (List Nat × Int) := (bif (Go.Sx.ltI 65536 (↑(List.length tt) : Int)) then (some ([], 3)) else (bif (Go.Sx.ltI kk 0) then (some ([], 2)) else (bif (Go.Sx.ltI 65535 kk) then (some ([], 2)) else (bif (c11_21 tt) then (some ([], 3)) else (L11_0 tt kk n )))))
set_option maxHeartbeats 4000000 in
theorem form11 (n : Nat) (tt : List Nat) (kk : Int) (vz : Go.Sx.AV) : Go.Sx.wpS Try.prog Try.f11 [] vz (.st [0, 0, 2, 2, 0, 0, 0, 0, 0, 2, 2, 2, 0, 0] (.br 13 (.st [0, 0, 0, 2, 2, 0, 0, 2, 0] .ans) (.st [0, 2, 0, 0, 0, 0, 2, 2, 2] (.br 16 (.st [2, 2, 2, 0, 0, 0, 0, 0, 2, 2, 0, 0, 2, 0] .ans) (.st [2, 2, 2, 0, 0] (.br 19 (.st [0, 0, 0, 2, 2, 0, 0, 2, 0] .ans) (.st [0, 2, 0, 0, 0, 0, 2, 2, 2, 2, 0, 0] (.br 23 (.st [0, 0, 0, 2, 2, 0, 0, 2, 0] .ans) (.st [0, 2, 0, 0, 0, 2, 2, 0, 0, 0, 0, 2, 0, 0, 0, 0, 0, 2, 0, 0, 0, 0] (.stop ⟨[[0, 6, 7, 8]], [], []⟩ [] 0 [])))))))))) [] (.code body11 (Go.Sx.startA [.str tt, .int .i64 kk] Try.f11) (Go.Sx.laidHeap [])) = (Go.Sx.BR (Go.Sx.ltI 65536 (↑(List.length tt) : Int)) (vz = .tup [.str [], .int .i64 (.ofNat 3)]) (Go.Sx.BR (Go.Sx.ltI kk 0) (vz = .tup [.str [], .int .i64 (.ofNat 2)]) (Go.Sx.BR (Go.Sx.ltI 65535 kk) (vz = .tup [.str [], .int .i64 (.ofNat 2)]) (Go.Sx.BR (c11_21 tt) (vz = .tup [.str [], .int .i64 (.ofNat 3)]) (Go.Sx.RunAt Try.prog Try.f11 [] vz sk11_0 (pt11_0 tt kk )))))) := by kernel_rfl
set_option maxHeartbeats 4000000 in
theorem run11 (n : Nat) (tt : List Nat) (kk : Int)  (r : List Nat × Int) (h : F11 n tt kk = some r) : Go.Sx.Run Try.prog Try.f11 [] (.tup [.str r.1, .int .i64 r.2]) [] (.code body11 (Go.Sx.startA [.str tt, .int .i64 kk] Try.f11) (Go.Sx.laidHeap [])) := by
  obtain ⟨ih0, ih1⟩ := runs11 tt kk  n
  exact Go.Sx.wpS_run (L := []) (by kernel_rfl) (form11 n tt kk (.tup [.str r.1, .int .i64 r.2])) ((Go.Sx.br_of (fun h0 => (fun h => by cases h; rfl)) (fun h0 => (Go.Sx.br_of (fun h1 => (fun h => by cases h; rfl)) (fun h1 => (Go.Sx.br_of (fun h2 => (fun h => by cases h; rfl)) (fun h2 => (Go.Sx.br_of (fun h3 => (fun h => by cases h; rfl)) (fun h3 => (fun h => ih0  r h))))))))) h)
noncomputable def F11_0 (n : Nat) (tt : List Nat) (kk : Int) : List Nat := ((F11 n tt kk).getD default).1
noncomputable def F11_1 (n : Nat) (tt : List Nat) (kk : Int) : Int := ((F11 n tt kk).getD default).2
theorem fact11 (n : Nat) (tt : List Nat) (kk : Int)  (h : (F11 n tt kk).isSome = true) : Go.Sx.Fact Try.prog [] 11 [.str tt, .int .i64 kk] (.tup [.str (F11_0 n tt kk), .int .i64 (F11_1 n tt kk)]) := Go.Sx.fact_of_run okayed (by kernel_rfl) (by kernel_rfl) Try.func11 body11_eq (run11 n tt kk  ((F11 n tt kk).getD default) (Go.Sx.getD_some h))
noncomputable def body12 : Go.Code := (Try.f12.body).getD .skip
theorem body12_eq : Try.f12.body = some body12 := Go.Sx.some_getD (by kernel_rfl)
noncomputable def sk12_0 : List Go.Sx.FC × Go.Sx.CC := (Go.Sx.skelAt Try.prog [.fn 12 [.r, .r, .r, .r, .l, .op 3], .fn 17 [.r, .i, .r, .r, .l, .r, .i, .h]] []).getD ([], .code .skip)
noncomputable def t12_11 (tt : (List Nat)) (v0 : (Int)) (v1 : (Int)) : Int := (Go.IntKind.wrap Go.IntKind.u8 (↑(BitVec.toNat (BitVec.ofInt 8 (Go.Sx.byteI tt v0) ^^^ BitVec.ofInt 8 (Go.Sx.wrapA Go.IntKind.u8 (Int.fdiv v1 (256))))) : Int))
noncomputable def t12_12 (tt : (List Nat)) (v0 : (Int)) (v1 : (Int)) : Int := (Go.Sx.wrapA Go.IntKind.u16 (Int.add (Go.Sx.wrapA Go.IntKind.u16 (Int.mul (Go.Sx.wrapA Go.IntKind.u16 (Int.add (Go.Sx.wrapA Go.IntKind.u16 (Go.Sx.byteI tt v0)) v1)) 52845)) 22719))
noncomputable def t12_13 (tt : (List Nat)) (v1 : (Int)) (v2 : (Int)) : Int := (Go.IntKind.wrap Go.IntKind.u8 (↑(BitVec.toNat (BitVec.ofInt 8 (Go.Sx.byteI tt v1) ^^^ BitVec.ofInt 8 (Go.Sx.wrapA Go.IntKind.u8 (Int.fdiv v2 (256))))) : Int))
noncomputable def t12_14 (tt : (List Nat)) (v1 : (Int)) (v2 : (Int)) : Int := (Go.Sx.wrapA Go.IntKind.u16 (Int.add (Go.Sx.wrapA Go.IntKind.u16 (Int.mul (Go.Sx.wrapA Go.IntKind.u16 (Int.add (Go.Sx.wrapA Go.IntKind.u16 (Go.Sx.byteI tt v1)) v2)) 52845)) 22719))
noncomputable def l12_15 (tt : (List Nat)) (v1 : (Int)) (v2 : (Int)) (v3 : (List Go.Sx.AV)) : List Go.Sx.AV := (v3 ++ [Go.Sx.AV.int Go.IntKind.u8 (t12_13 tt v1 v2)])
noncomputable def pt12_0 (tt : List Nat) (kk : Int) (v0 : Int) (v1 : Int) : Go.Sx.Pt := ⟨[(30, [(0, .str (tt)), (1, .int .i64 (.ofNat 4)), (2, .fn (.func 20) [.ptr 0 0] []), (7, .nils), (11, .int .i64 ((↑(List.length tt) : Int))), (12, .int .i64 (v0))]), (26, [])], [], 1, [(0, .cells 45 [.int .u16 (v1)] false)]⟩
noncomputable def pt12_1 (tt : List Nat) (kk : Int) (v0 : Nat) (v1 : Int) (v2 : Int) (v3 : List Go.Sx.AV) : Go.Sx.Pt := ⟨[(30, [(0, .str (tt)), (1, .int .i64 (.ofNat 4)), (2, .fn (.func 20) [.ptr 0 0] []), (7, .slc 2 0 (v0) (.upto 1 (v0))), (11, .int .i64 ((↑(List.length tt) : Int))), (12, .int .i64 (v1))]), (26, [])], [], 3, [(0, .cells 45 [.int .u16 (v2)] false), (2, .cells 5 (v3) true)]⟩
mutual
noncomputable def L12_0 (tt : List Nat) (kk : Int) : Nat → Int → Int → Option (List Nat × Int)
  | 0, _, _ => none
  | n + 1, v0, v1 => (bif (Go.Sx.ltI v0 (↑(List.length tt) : Int)) then (bif (Go.Sx.inB v0 (List.length tt)) then (bif (Go.Sx.ltI v0 (4)) then (L12_0 tt kk n (Go.Sx.wrapA Go.IntKind.i64 (Int.add v0 1)) (t12_12 tt v0 v1)) else (L12_1 tt kk n 1 (Go.Sx.wrapA Go.IntKind.i64 (Int.add v0 1)) (t12_12 tt v0 v1) [.int .u8 (t12_11 tt v0 v1)])) else none) else (some ([], 0)))
termination_by structural n => n
noncomputable def L12_1 (tt : List Nat) (kk : Int) : Nat → Nat → Int → Int → (List Go.Sx.AV) → Option (List Nat × Int)
  | 0, _, _, _, _ => none
  | n + 1, v0, v1, v2, v3 => (bif (Go.Sx.ltI v1 (↑(List.length tt) : Int)) then (bif (Go.Sx.inB v1 (List.length tt)) then (bif (Go.Sx.ltI v1 (4)) then (bif (Go.Sx.pureAVs v3) then (L12_1 tt kk n (v0) (Go.Sx.wrapA Go.IntKind.i64 (Int.add v1 1)) (t12_14 tt v1 v2) (v3)) else none) else (bif (Nat.blt v0 (v0 + 1)) then (bif (Nat.ble v0 1000000) then (bif (Nat.beq (List.length v3) (0 + v0 * 1)) then (bif (Go.Sx.pureAVs (l12_15 tt v1 v2 v3)) then (L12_1 tt kk n (v0 + 1) (Go.Sx.wrapA Go.IntKind.i64 (Int.add v1 1)) (t12_14 tt v1 v2) (l12_15 tt v1 v2 v3)) else none) else none) else none) else none)) else none) else (bif (Go.Sx.strOk v3 0 v0) then (some ((Go.Sx.strOf v3 0 v0), 0)) else none))
termination_by structural n => n
end
theorem L12_0_succ (tt : List Nat) (kk : Int) (n : Nat) (v0 : Int) (v1 : Int) : L12_0 tt kk (n + 1) v0 v1 = (bif (Go.Sx.ltI v0 (↑(List.length tt) : Int)) then (bif (Go.Sx.inB v0 (List.length tt)) then (bif (Go.Sx.ltI v0 (4)) then (L12_0 tt kk n (Go.Sx.wrapA Go.IntKind.i64 (Int.add v0 1)) (t12_12 tt v0 v1)) else (L12_1 tt kk n 1 (Go.Sx.wrapA Go.IntKind.i64 (Int.add v0 1)) (t12_12 tt v0 v1) [.int .u8 (t12_11 tt v0 v1)])) else none) else (some ([], 0))) := rfl
theorem L12_1_succ (tt : List Nat) (kk : Int) (n : Nat) (v0 : Nat) (v1 : Int) (v2 : Int) (v3 : List Go.Sx.AV) : L12_1 tt kk (n + 1) v0 v1 v2 v3 = (bif (Go.Sx.ltI v1 (↑(List.length tt) : Int)) then (bif (Go.Sx.inB v1 (List.length tt)) then (bif (Go.Sx.ltI v1 (4)) then (bif (Go.Sx.pureAVs v3) then (L12_1 tt kk n (v0) (Go.Sx.wrapA Go.IntKind.i64 (Int.add v1 1)) (t12_14 tt v1 v2) (v3)) else none) else (bif (Nat.blt v0 (v0 + 1)) then (bif (Nat.ble v0 1000000) then (bif (Nat.beq (List.length v3) (0 + v0 * 1)) then (bif (Go.Sx.pureAVs (l12_15 tt v1 v2 v3)) then (L12_1 tt kk n (v0 + 1) (Go.Sx.wrapA Go.IntKind.i64 (Int.add v1 1)) (t12_14 tt v1 v2) (l12_15 tt v1 v2 v3)) else none) else none) else none) else none)) else none) else (bif (Go.Sx.strOk v3 0 v0) then (some ((Go.Sx.strOf v3 0 v0), 0)) else none)) := rfl
set_option maxHeartbeats 4000000 in
theorem form12_0 (n : Nat) (tt : List Nat) (kk : Int) (v0 : Int) (v1 : Int) (vz : Go.Sx.AV) : Go.Sx.wpS Try.prog Try.f12 [] vz (.st [0, 0, 0, 2, 0, 0, 0] (.br 13 (.st [0, 2, 0, 0, 0, 0, 0, 2, 2, 0, 0, 0, 0, 2, 2, 2] (.sp 2 (.st [0, 0, 0, 2, 0, 0, 0, 0, 2, 2, 2, 2, 0, 0, 0, 2, 0, 0, 0, 0, 2, 2, 2, 2, 2, 2, 2, 0, 0, 2, 0, 2, 2, 0, 0, 0, 0, 2, 2, 2, 2, 0, 0, 2, 2, 2, 2, 2, 2, 2, 2, 2, 2, 2, 2, 2, 0, 0, 0, 0, 0, 0, 2, 2, 0, 0, 2, 0, 2, 0, 0, 0, 0, 0, 2, 2, 2, 0, 0] (.br 22 (.st [0, 2, 0, 0, 0, 0, 2, 2, 0, 0] (.stop ⟨[[0, 1, 2, 7, 11, 12], []], [], [0]⟩ [(0, 0)] 1 [])) (.st [0, 2, 0, 0, 2, 2, 2, 2, 2, 0, 0, 0, 0, 2, 2, 0, 0] (.stop ⟨[[0, 1, 2, 7, 11, 12], []], [], [0, 2]⟩ [(0, 0), (2, 2)] 3 [2])))))) (.st [0, 2, 0, 0, 0, 0, 0, 0, 2, 2, 2, 0, 0, 2, 0, 0, 2, 2, 0, 0, 2] .ans))) (Go.Sx.mkK sk12_0.1 (pt12_0 tt kk v0 v1).frs.tail) (Go.Sx.mkC [] (pt12_0 tt kk v0 v1) sk12_0.1 sk12_0.2) = (Go.Sx.BR (Go.Sx.ltI v0 (↑(List.length tt) : Int)) (Go.Sx.AN (Go.Sx.inB v0 (List.length tt)) (Go.Sx.BR (Go.Sx.ltI v0 (4)) (Go.Sx.RunAt Try.prog Try.f12 [] vz sk12_0 (pt12_0 tt kk (Go.Sx.wrapA Go.IntKind.i64 (Int.add v0 1)) (t12_12 tt v0 v1))) (Go.Sx.AN (Go.Sx.pureAVs [Go.Sx.AV.int Go.IntKind.u8 (t12_11 tt v0 v1)]) (Go.Sx.RunAt Try.prog Try.f12 [] vz sk12_0 (pt12_1 tt kk 1 (Go.Sx.wrapA Go.IntKind.i64 (Int.add v0 1)) (t12_12 tt v0 v1) [.int .u8 (t12_11 tt v0 v1)]))))) (vz = .tup [.str [], .int .i64 (.ofNat 0)])) := by kernel_rfl
set_option maxHeartbeats 4000000 in
theorem form12_1 (n : Nat) (tt : List Nat) (kk : Int) (v0 : Nat) (v1 : Int) (v2 : Int) (v3 : List Go.Sx.AV) (vz : Go.Sx.AV) : Go.Sx.wpS Try.prog Try.f12 [] vz (.st [0, 0, 0, 2, 0, 0, 0] (.br 13 (.st [0, 2, 0, 0, 0, 0, 0, 2, 2, 0, 0, 0, 0, 2, 2, 2] (.sp 2 (.st [0, 0, 0, 2, 0, 0, 0, 0, 2, 2, 2, 2, 0, 0, 0, 2, 0, 0, 0, 0, 2, 2, 2, 2, 2, 2, 2, 0, 0, 2, 0, 2, 2, 0, 0, 0, 0, 2, 2, 2, 2, 0, 0, 2, 2, 2, 2, 2, 2, 2, 2, 2, 2, 2, 2, 2, 0, 0, 0, 0, 0, 0, 2, 2, 0, 0, 2, 0, 2, 0, 0, 0, 0, 0, 2, 2, 2, 0, 0] (.br 22 (.st [0, 2, 0, 0, 0, 0, 2, 2, 0, 0] (.stop ⟨[[0, 1, 2, 7, 11, 12], []], [], [0, 2]⟩ [(0, 0), (2, 2)] 3 [2])) (.st [0, 2, 0, 0, 2, 2, 2] (.sp 2 (.st [2, 0, 0, 0, 0, 2, 2, 0, 0] (.stop ⟨[[0, 1, 2, 7, 11, 12], []], [], [0, 4]⟩ [(0, 0), (4, 2)] 3 [4])))))))) (.st [0, 2, 0, 0, 0, 0, 0, 0, 2] (.sp 2 (.st [2, 0, 0, 2, 0, 0, 2, 2, 0, 0, 2] .ans))))) (Go.Sx.mkK sk12_0.1 (pt12_1 tt kk v0 v1 v2 v3).frs.tail) (Go.Sx.mkC [] (pt12_1 tt kk v0 v1 v2 v3) sk12_0.1 sk12_0.2) = (Go.Sx.BR (Go.Sx.ltI v1 (↑(List.length tt) : Int)) (Go.Sx.AN (Go.Sx.inB v1 (List.length tt)) (Go.Sx.BR (Go.Sx.ltI v1 (4)) (Go.Sx.AN (Go.Sx.pureAVs v3) (Go.Sx.RunAt Try.prog Try.f12 [] vz sk12_0 (pt12_1 tt kk (v0) (Go.Sx.wrapA Go.IntKind.i64 (Int.add v1 1)) (t12_14 tt v1 v2) (v3)))) (Go.Sx.AN (Go.Sx.andB (Nat.blt v0 (v0 + 1)) (Go.Sx.andB (Nat.ble v0 1000000) (Nat.beq (List.length v3) (0 + v0 * 1)))) (Go.Sx.AN (Go.Sx.pureAVs (l12_15 tt v1 v2 v3)) (Go.Sx.RunAt Try.prog Try.f12 [] vz sk12_0 (pt12_1 tt kk (v0 + 1) (Go.Sx.wrapA Go.IntKind.i64 (Int.add v1 1)) (t12_14 tt v1 v2) (l12_15 tt v1 v2 v3))))))) (Go.Sx.AN (Go.Sx.strOk v3 0 v0) (vz = .tup [.str (Go.Sx.strOf v3 0 v0), .int .i64 (.ofNat 0)]))) := by kernel_rfl
set_option maxHeartbeats 4000000 in
theorem runs12 (tt : List Nat) (kk : Int)  : ∀ (n : Nat), (∀ (v0 : Int) (v1 : Int) (r : List Nat × Int), L12_0 tt kk n v0 v1 = some r → Go.Sx.RunAt Try.prog Try.f12 [] (.tup [.str r.1, .int .i64 r.2]) sk12_0 (pt12_0 tt kk v0 v1)) ∧ (∀ (v0 : Nat) (v1 : Int) (v2 : Int) (v3 : List Go.Sx.AV) (r : List Nat × Int), L12_1 tt kk n v0 v1 v2 v3 = some r → Go.Sx.RunAt Try.prog Try.f12 [] (.tup [.str r.1, .int .i64 r.2]) sk12_0 (pt12_1 tt kk v0 v1 v2 v3)) := by
  intro n
  induction n with
  | zero => exact ⟨(fun _ _ r h => by cases h), (fun _ _ _ _ r h => by cases h)⟩
  | succ n ih =>
    obtain ⟨ih0, ih1⟩ := ih
    exact ⟨(fun v0 v1 r h => Go.Sx.wpS_run (L := []) (by kernel_rfl) (form12_0 n tt kk v0 v1 (.tup [.str r.1, .int .i64 r.2])) ((Go.Sx.br_of (fun h4 => (Go.Sx.guard_of fun h5 => (fun h => ⟨h5, (Go.Sx.br_of (fun h6 => (fun h => ih0 (Go.Sx.wrapA Go.IntKind.i64 (Int.add v0 1)) (t12_12 tt v0 v1) r h)) (fun h6 => (fun h => ⟨rfl, (fun h => ih1 1 (Go.Sx.wrapA Go.IntKind.i64 (Int.add v0 1)) (t12_12 tt v0 v1) [.int .u8 (t12_11 tt v0 v1)] r h) h⟩))) h⟩))) (fun h4 => (fun h => by cases h; rfl))) ((L12_0_succ tt kk n v0 v1).symm.trans h))), (fun v0 v1 v2 v3 r h => Go.Sx.wpS_run (L := []) (by kernel_rfl) (form12_1 n tt kk v0 v1 v2 v3 (.tup [.str r.1, .int .i64 r.2])) ((Go.Sx.br_of (fun h7 => (Go.Sx.guard_of fun h8 => (fun h => ⟨h8, (Go.Sx.br_of (fun h9 => (Go.Sx.guard_of fun h10 => (fun h => ⟨h10, (fun h => ih1 (v0) (Go.Sx.wrapA Go.IntKind.i64 (Int.add v1 1)) (t12_14 tt v1 v2) (v3) r h) h⟩))) (fun h9 => (Go.Sx.guard_of fun h11 => (Go.Sx.guard_of fun h12 => (Go.Sx.guard_of fun h13 => (fun h => ⟨(Go.Sx.and_t h11 (Go.Sx.and_t h12 h13)), (Go.Sx.guard_of fun h14 => (fun h => ⟨h14, (fun h => ih1 (v0 + 1) (Go.Sx.wrapA Go.IntKind.i64 (Int.add v1 1)) (t12_14 tt v1 v2) (l12_15 tt v1 v2 v3) r h) h⟩)) h⟩)))))) h⟩))) (fun h7 => (Go.Sx.guard_of fun h15 => (fun h => ⟨h15, (fun h => by cases h; rfl) h⟩)))) ((L12_1_succ tt kk n v0 v1 v2 v3).symm.trans h)))⟩
noncomputable def F12 (n : Nat) (tt : List Nat) (kk : Int) : Option (List Nat × Int) := (bif (Go.Sx.ltI 65536 (↑(List.length tt) : Int)) then (some ([], 3)) else (bif (Go.Sx.ltI kk 0) then (some ([], 2)) else (bif (Go.Sx.ltI 65535 kk) then (some ([], 2)) else (bif (Go.Sx.ltI (↑(List.length tt) : Int) 4) then (some ([], 5)) else (L12_0 tt kk n 0 (Go.Sx.wrapA Go.IntKind.u16 kk))))))
set_option maxHeartbeats 4000000 in
theorem form12 (n : Nat) (tt : List Nat) (kk : Int) (vz : Go.Sx.AV) : Go.Sx.wpS Try.prog Try.f12 [] vz (.st [0, 0, 2, 2, 0, 0, 0, 0, 0, 2, 2, 0, 0, 0, 2, 0, 0, 0, 0, 0, 2, 2, 2, 0, 0] (.br 7 (.st [0, 0, 0, 2, 0, 0, 2, 0, 0, 2, 0, 0, 0, 0, 2, 2, 0, 0, 0, 0, 0, 2, 2, 2, 0, 0, 2, 0] .ans) (.st [0, 2, 0, 0, 0, 0, 2, 2, 2] (.br 10 (.st [2, 2, 2, 0, 0, 0, 0, 0, 2, 0, 0, 2, 0, 0, 2, 0, 0, 0, 0, 2, 2, 0, 0, 0, 0, 0, 2, 2, 2, 0, 0, 2, 0] .ans) (.st [2, 2, 2, 0, 0] (.br 13 (.st [0, 0, 0, 2, 0, 0, 2, 0, 0, 2, 0, 0, 0, 0, 2, 2, 0, 0, 0, 0, 0, 2, 2, 2, 0, 0, 2, 0] .ans) (.st [0, 2, 0, 0, 0, 2, 0, 0, 2, 0, 2, 0, 0, 0, 0, 2, 2, 0, 0, 0, 2, 0, 0, 0, 0, 2, 2, 2, 0, 0] (.br 16 (.st [0, 0, 0, 2, 2, 0, 0, 2, 0] .ans) (.st [0, 2, 0, 0, 0, 2, 2, 2, 2, 2, 2, 0, 0, 0, 0, 2, 2, 2, 0, 0, 0, 2, 0, 0, 0, 0, 0, 2, 0, 0, 0, 2, 0, 0, 0, 0, 2, 2, 2, 0, 0, 0, 0] (.stop ⟨[[0, 1, 2, 7, 11, 12], []], [], [0]⟩ [(0, 0)] 1 [])))))))))) [] (.code body12 (Go.Sx.startA [.str tt, .int .i64 kk] Try.f12) (Go.Sx.laidHeap [])) = (Go.Sx.BR (Go.Sx.ltI 65536 (↑(List.length tt) : Int)) (vz = .tup [.str [], .int .i64 (.ofNat 3)]) (Go.Sx.BR (Go.Sx.ltI kk 0) (vz = .tup [.str [], .int .i64 (.ofNat 2)]) (Go.Sx.BR (Go.Sx.ltI 65535 kk) (vz = .tup [.str [], .int .i64 (.ofNat 2)]) (Go.Sx.BR (Go.Sx.ltI (↑(List.length tt) : Int) 4) (vz = .tup [.str [], .int .i64 (.ofNat 5)]) (Go.Sx.RunAt Try.prog Try.f12 [] vz sk12_0 (pt12_0 tt kk 0 (Go.Sx.wrapA Go.IntKind.u16 kk))))))) := by kernel_rfl
set_option maxHeartbeats 4000000 in
theorem run12 (n : Nat) (tt : List Nat) (kk : Int)  (r : List Nat × Int) (h : F12 n tt kk = some r) : Go.Sx.Run Try.prog Try.f12 [] (.tup [.str r.1, .int .i64 r.2]) [] (.code body12 (Go.Sx.startA [.str tt, .int .i64 kk] Try.f12) (Go.Sx.laidHeap [])) := by
  obtain ⟨ih0, ih1⟩ := runs12 tt kk  n
  exact Go.Sx.wpS_run (L := []) (by kernel_rfl) (form12 n tt kk (.tup [.str r.1, .int .i64 r.2])) ((Go.Sx.br_of (fun h0 => (fun h => by cases h; rfl)) (fun h0 => (Go.Sx.br_of (fun h1 => (fun h => by cases h; rfl)) (fun h1 => (Go.Sx.br_of (fun h2 => (fun h => by cases h; rfl)) (fun h2 => (Go.Sx.br_of (fun h3 => (fun h => by cases h; rfl)) (fun h3 => (fun h => ih0 0 (Go.Sx.wrapA Go.IntKind.u16 kk) r h))))))))) h)
noncomputable def F12_0 (n : Nat) (tt : List Nat) (kk : Int) : List Nat := ((F12 n tt kk).getD default).1
noncomputable def F12_1 (n : Nat) (tt : List Nat) (kk : Int) : Int := ((F12 n tt kk).getD default).2
theorem fact12 (n : Nat) (tt : List Nat) (kk : Int)  (h : (F12 n tt kk).isSome = true) : Go.Sx.Fact Try.prog [] 12 [.str tt, .int .i64 kk] (.tup [.str (F12_0 n tt kk), .int .i64 (F12_1 n tt kk)]) := Go.Sx.fact_of_run okayed (by kernel_rfl) (by kernel_rfl) Try.func12 body12_eq (run12 n tt kk  ((F12 n tt kk).getD default) (Go.Sx.getD_some h))
noncomputable def body13 : Go.Code := (Try.f13.body).getD .skip
theorem body13_eq : Try.f13.body = some body13 := Go.Sx.some_getD (by kernel_rfl)
noncomputable def sk13_0 : List Go.Sx.FC × Go.Sx.CC := (Go.Sx.skelAt Try.prog [.fn 13 [.r, .r, .r, .r, .r, .r, .l, .r, .i, .h]] []).getD ([], .code .skip)
noncomputable def l13_8 (n : (Nat)) (tt : (List Nat)) (v0 : (Int)) (v1 : (Int)) : List Go.Sx.AV := ([Go.Sx.AV.int Go.IntKind.u8 (Go.Sx.wrapA Go.IntKind.u8 (F19_0 n (Go.Sx.wrapA Go.IntKind.i64 (Go.Sx.byteI tt v1)) (Go.Sx.wrapA Go.IntKind.i64 (Int.tdiv v0 256))))])
noncomputable def t13_9 (tt : (List Nat)) (v0 : (Int)) (v1 : (Int)) : Int := (Int.tmod (Go.Sx.wrapA Go.IntKind.i64 (Int.add (Go.Sx.wrapA Go.IntKind.i64 (Int.mul (Go.Sx.wrapA Go.IntKind.i64 (Int.add (Go.Sx.wrapA Go.IntKind.i64 (Go.Sx.byteI tt v1)) v0)) 52845)) 22719)) 65536)
noncomputable def t13_10 (n : (Nat)) (tt : (List Nat)) (v0 : (Int)) (v2 : (Int)) : Int := (Go.Sx.wrapA Go.IntKind.u8 (F19_0 n (Go.Sx.wrapA Go.IntKind.i64 (Go.Sx.byteI tt v2)) (Go.Sx.wrapA Go.IntKind.i64 (Int.tdiv v0 256))))
noncomputable def l13_11 (n : (Nat)) (tt : (List Nat)) (v0 : (Int)) (v2 : (Int)) (v3 : (List Go.Sx.AV)) : List Go.Sx.AV := (v3 ++ [Go.Sx.AV.int Go.IntKind.u8 (t13_10 n tt v0 v2)])
noncomputable def t13_12 (tt : (List Nat)) (v0 : (Int)) (v2 : (Int)) : Int := (Int.tmod (Go.Sx.wrapA Go.IntKind.i64 (Int.add (Go.Sx.wrapA Go.IntKind.i64 (Int.mul (Go.Sx.wrapA Go.IntKind.i64 (Int.add (Go.Sx.wrapA Go.IntKind.i64 (Go.Sx.byteI tt v2)) v0)) 52845)) 22719)) 65536)
noncomputable def pt13_0 (tt : List Nat) (kk : Int) (v0 : Int) (v1 : Int) : Go.Sx.Pt := ⟨[(52, [(0, .str (tt)), (6, .int .i64 (v0)), (7, .nils), (8, .int .i64 (v1))])], [], 0, []⟩
noncomputable def pt13_1 (tt : List Nat) (kk : Int) (v0 : Int) (v1 : Nat) (v2 : Int) (v3 : List Go.Sx.AV) : Go.Sx.Pt := ⟨[(52, [(0, .str (tt)), (6, .int .i64 (v0)), (7, .slc 1 0 (v1) (.upto 1 (v1))), (8, .int .i64 (v2))])], [], 2, [(1, .cells 5 (v3) true)]⟩
mutual
noncomputable def L13_0 (tt : List Nat) (kk : Int) : Nat → Int → Int → Option (List Nat × Int)
  | 0, _, _ => none
  | n + 1, v0, v1 => (bif (Go.Sx.ltI v1 (↑(List.length tt) : Int)) then (bif (!Go.Sx.ltI v1 4) then (bif (Go.Sx.inB v1 (List.length tt)) then (bif (Option.isSome (F19 n (Go.Sx.wrapA Go.IntKind.i64 (Go.Sx.byteI tt v1)) (Go.Sx.wrapA Go.IntKind.i64 (Int.tdiv v0 256)))) then (L13_1 tt kk n (t13_9 tt v0 v1) 1 (Go.Sx.wrapA Go.IntKind.i64 (Int.add v1 1)) (l13_8 n tt v0 v1)) else none) else none) else (bif (Go.Sx.inB v1 (List.length tt)) then (L13_0 tt kk n (t13_9 tt v0 v1) (Go.Sx.wrapA Go.IntKind.i64 (Int.add v1 1))) else none)) else (some ([], 0)))
termination_by structural n => n
noncomputable def L13_1 (tt : List Nat) (kk : Int) : Nat → Int → Nat → Int → (List Go.Sx.AV) → Option (List Nat × Int)
  | 0, _, _, _, _ => none
  | n + 1, v0, v1, v2, v3 => (bif (Go.Sx.ltI v2 (↑(List.length tt) : Int)) then (bif (!Go.Sx.ltI v2 4) then (bif (Go.Sx.inB v2 (List.length tt)) then (bif (Option.isSome (F19 n (Go.Sx.wrapA Go.IntKind.i64 (Go.Sx.byteI tt v2)) (Go.Sx.wrapA Go.IntKind.i64 (Int.tdiv v0 256)))) then (bif (Nat.blt v1 (v1 + 1)) then (bif (Nat.ble v1 1000000) then (bif (Nat.beq (List.length v3) (0 + v1 * 1)) then (bif (Go.Sx.pureAVs (l13_11 n tt v0 v2 v3)) then (L13_1 tt kk n (t13_12 tt v0 v2) (v1 + 1) (Go.Sx.wrapA Go.IntKind.i64 (Int.add v2 1)) (l13_11 n tt v0 v2 v3)) else none) else none) else none) else none) else none) else none) else (bif (Go.Sx.inB v2 (List.length tt)) then (bif (Go.Sx.pureAVs v3) then (L13_1 tt kk n (t13_12 tt v0 v2) (v1) (Go.Sx.wrapA Go.IntKind.i64 (Int.add v2 1)) (v3)) else none) else none)) else (bif (Go.Sx.strOk v3 0 v1) then (some ((Go.Sx.strOf v3 0 v1), 0)) else none))
termination_by structural n => n
end
theorem L13_0_succ (tt : List Nat) (kk : Int) (n : Nat) (v0 : Int) (v1 : Int) : L13_0 tt kk (n + 1) v0 v1 = (bif (Go.Sx.ltI v1 (↑(List.length tt) : Int)) then (bif (!Go.Sx.ltI v1 4) then (bif (Go.Sx.inB v1 (List.length tt)) then (bif (Option.isSome (F19 n (Go.Sx.wrapA Go.IntKind.i64 (Go.Sx.byteI tt v1)) (Go.Sx.wrapA Go.IntKind.i64 (Int.tdiv v0 256)))) then (L13_1 tt kk n (t13_9 tt v0 v1) 1 (Go.Sx.wrapA Go.IntKind.i64 (Int.add v1 1)) (l13_8 n tt v0 v1)) else none) else none) else (bif (Go.Sx.inB v1 (List.length tt)) then (L13_0 tt kk n (t13_9 tt v0 v1) (Go.Sx.wrapA Go.IntKind.i64 (Int.add v1 1))) else none)) else (some ([], 0))) := rfl
theorem L13_1_succ (tt : List Nat) (kk : Int) (n : Nat) (v0 : Int) (v1 : Nat) (v2 : Int) (v3 : List Go.Sx.AV) : L13_1 tt kk (n + 1) v0 v1 v2 v3 = (bif (Go.Sx.ltI v2 (↑(List.length tt) : Int)) then (bif (!Go.Sx.ltI v2 4) then (bif (Go.Sx.inB v2 (List.length tt)) then (bif (Option.isSome (F19 n (Go.Sx.wrapA Go.IntKind.i64 (Go.Sx.byteI tt v2)) (Go.Sx.wrapA Go.IntKind.i64 (Int.tdiv v0 256)))) then (bif (Nat.blt v1 (v1 + 1)) then (bif (Nat.ble v1 1000000) then (bif (Nat.beq (List.length v3) (0 + v1 * 1)) then (bif (Go.Sx.pureAVs (l13_11 n tt v0 v2 v3)) then (L13_1 tt kk n (t13_12 tt v0 v2) (v1 + 1) (Go.Sx.wrapA Go.IntKind.i64 (Int.add v2 1)) (l13_11 n tt v0 v2 v3)) else none) else none) else none) else none) else none) else none) else (bif (Go.Sx.inB v2 (List.length tt)) then (bif (Go.Sx.pureAVs v3) then (L13_1 tt kk n (t13_12 tt v0 v2) (v1) (Go.Sx.wrapA Go.IntKind.i64 (Int.add v2 1)) (v3)) else none) else none)) else (bif (Go.Sx.strOk v3 0 v1) then (some ((Go.Sx.strOf v3 0 v1), 0)) else none)) := rfl
set_option maxHeartbeats 4000000 in
theorem form13_0 (n : Nat) (tt : List Nat) (kk : Int) (v0 : Int) (v1 : Int) (vz : Go.Sx.AV) : Go.Sx.wpS Try.prog Try.f13 [] vz (.st [0, 0, 0, 0, 2, 2, 2, 2, 0, 0] (.br 25 (.st [0, 2, 0, 0, 0, 0, 0, 0, 2, 2, 0, 0] (.br 29 (.st [0, 0, 2, 2, 2] (.sp 2 (.st [2, 2, 2] (.use [] (.int .i64 (F19_0 n (Go.Sx.wrapA Go.IntKind.i64 (Go.Sx.byteI tt v1)) (Go.Sx.wrapA Go.IntKind.i64 (Int.tdiv v0 256)))) (.st [2, 2, 2, 2, 0, 0, 0, 2, 2] (.sp 2 (.st [2, 2, 2, 2, 2, 2, 2, 0, 0, 0, 0, 2, 2, 2, 0, 0] (.stop ⟨[[0, 6, 7, 8]], [], [1]⟩ [(1, 1)] 2 [1])))))))) (.st [0, 2, 0, 0, 2, 2] (.sp 2 (.st [2, 2, 2, 2, 2, 2, 2, 0, 0, 0, 0, 2, 2, 2, 0, 0] (.stop ⟨[[0, 6, 7, 8]], [], []⟩ [] 0 [])))))) (.st [0, 2, 0, 0, 0, 0, 0, 0, 2, 2, 2, 2, 0, 0, 2] .ans))) (Go.Sx.mkK sk13_0.1 (pt13_0 tt kk v0 v1).frs.tail) (Go.Sx.mkC [] (pt13_0 tt kk v0 v1) sk13_0.1 sk13_0.2) = (Go.Sx.BR (Go.Sx.ltI v1 (↑(List.length tt) : Int)) (Go.Sx.BR (!Go.Sx.ltI v1 4) (Go.Sx.AN (Go.Sx.inB v1 (List.length tt)) (Go.Sx.Fact Try.prog [] 19 [.int .i64 (Go.Sx.wrapA Go.IntKind.i64 (Go.Sx.byteI tt v1)), .int .i64 (Go.Sx.wrapA Go.IntKind.i64 (Int.tdiv v0 256))] (.int .i64 (F19_0 n (Go.Sx.wrapA Go.IntKind.i64 (Go.Sx.byteI tt v1)) (Go.Sx.wrapA Go.IntKind.i64 (Int.tdiv v0 256)))) ∧ (Go.Sx.AN (Go.Sx.inB v1 (List.length tt)) (Go.Sx.AN (Go.Sx.pureAVs (l13_8 n tt v0 v1)) (Go.Sx.RunAt Try.prog Try.f13 [] vz sk13_0 (pt13_1 tt kk (t13_9 tt v0 v1) 1 (Go.Sx.wrapA Go.IntKind.i64 (Int.add v1 1)) (l13_8 n tt v0 v1))))))) (Go.Sx.AN (Go.Sx.inB v1 (List.length tt)) (Go.Sx.RunAt Try.prog Try.f13 [] vz sk13_0 (pt13_0 tt kk (t13_9 tt v0 v1) (Go.Sx.wrapA Go.IntKind.i64 (Int.add v1 1)))))) (vz = .tup [.str [], .int .i64 (.ofNat 0)])) := by kernel_rfl
set_option maxHeartbeats 4000000 in
theorem form13_1 (n : Nat) (tt : List Nat) (kk : Int) (v0 : Int) (v1 : Nat) (v2 : Int) (v3 : List Go.Sx.AV) (vz : Go.Sx.AV) : Go.Sx.wpS Try.prog Try.f13 [] vz (.st [0, 0, 0, 0, 2, 2, 2, 2, 0, 0] (.br 25 (.st [0, 2, 0, 0, 0, 0, 0, 0, 2, 2, 0, 0] (.br 29 (.st [0, 0, 2, 2, 2] (.sp 2 (.st [2, 2, 2] (.use [] (.int .i64 (F19_0 n (Go.Sx.wrapA Go.IntKind.i64 (Go.Sx.byteI tt v2)) (Go.Sx.wrapA Go.IntKind.i64 (Int.tdiv v0 256)))) (.st [2, 2] (.sp 2 (.st [2, 0, 0, 0, 2, 2] (.sp 2 (.st [2, 2, 2, 2, 2, 2, 2, 0, 0, 0, 0, 2, 2, 2, 0, 0] (.stop ⟨[[0, 6, 7, 8]], [], [3]⟩ [(3, 1)] 2 [3])))))))))) (.st [0, 2, 0, 0, 2, 2] (.sp 2 (.st [2, 2, 2, 2, 2, 2, 2, 0, 0, 0, 0, 2, 2, 2, 0, 0] (.stop ⟨[[0, 6, 7, 8]], [], [1]⟩ [(1, 1)] 2 [1])))))) (.st [0, 2, 0, 0, 0, 0, 0, 0, 2] (.sp 2 (.st [2, 2, 0, 0, 2] .ans))))) (Go.Sx.mkK sk13_0.1 (pt13_1 tt kk v0 v1 v2 v3).frs.tail) (Go.Sx.mkC [] (pt13_1 tt kk v0 v1 v2 v3) sk13_0.1 sk13_0.2) = (Go.Sx.BR (Go.Sx.ltI v2 (↑(List.length tt) : Int)) (Go.Sx.BR (!Go.Sx.ltI v2 4) (Go.Sx.AN (Go.Sx.inB v2 (List.length tt)) (Go.Sx.Fact Try.prog [] 19 [.int .i64 (Go.Sx.wrapA Go.IntKind.i64 (Go.Sx.byteI tt v2)), .int .i64 (Go.Sx.wrapA Go.IntKind.i64 (Int.tdiv v0 256))] (.int .i64 (F19_0 n (Go.Sx.wrapA Go.IntKind.i64 (Go.Sx.byteI tt v2)) (Go.Sx.wrapA Go.IntKind.i64 (Int.tdiv v0 256)))) ∧ (Go.Sx.AN (Go.Sx.andB (Nat.blt v1 (v1 + 1)) (Go.Sx.andB (Nat.ble v1 1000000) (Nat.beq (List.length v3) (0 + v1 * 1)))) (Go.Sx.AN (Go.Sx.inB v2 (List.length tt)) (Go.Sx.AN (Go.Sx.pureAVs (l13_11 n tt v0 v2 v3)) (Go.Sx.RunAt Try.prog Try.f13 [] vz sk13_0 (pt13_1 tt kk (t13_12 tt v0 v2) (v1 + 1) (Go.Sx.wrapA Go.IntKind.i64 (Int.add v2 1)) (l13_11 n tt v0 v2 v3)))))))) (Go.Sx.AN (Go.Sx.inB v2 (List.length tt)) (Go.Sx.AN (Go.Sx.pureAVs v3) (Go.Sx.RunAt Try.prog Try.f13 [] vz sk13_0 (pt13_1 tt kk (t13_12 tt v0 v2) (v1) (Go.Sx.wrapA Go.IntKind.i64 (Int.add v2 1)) (v3)))))) (Go.Sx.AN (Go.Sx.strOk v3 0 v1) (vz = .tup [.str (Go.Sx.strOf v3 0 v1), .int .i64 (.ofNat 0)]))) := by kernel_rfl
set_option maxHeartbeats 4000000 in
theorem runs13 (tt : List Nat) (kk : Int)  : ∀ (n : Nat), (∀ (v0 : Int) (v1 : Int) (r : List Nat × Int), L13_0 tt kk n v0 v1 = some r → Go.Sx.RunAt Try.prog Try.f13 [] (.tup [.str r.1, .int .i64 r.2]) sk13_0 (pt13_0 tt kk v0 v1)) ∧ (∀ (v0 : Int) (v1 : Nat) (v2 : Int) (v3 : List Go.Sx.AV) (r : List Nat × Int), L13_1 tt kk n v0 v1 v2 v3 = some r → Go.Sx.RunAt Try.prog Try.f13 [] (.tup [.str r.1, .int .i64 r.2]) sk13_0 (pt13_1 tt kk v0 v1 v2 v3)) := by
  intro n
  induction n with
  | zero => exact ⟨(fun _ _ r h => by cases h), (fun _ _ _ _ r h => by cases h)⟩
  | succ n ih =>
    obtain ⟨ih0, ih1⟩ := ih
    exact ⟨(fun v0 v1 r h => Go.Sx.wpS_run (L := []) (by kernel_rfl) (form13_0 n tt kk v0 v1 (.tup [.str r.1, .int .i64 r.2])) ((Go.Sx.br_of (fun h4 => (Go.Sx.br_of (fun h5 => (Go.Sx.guard_of fun h6 => (fun h => ⟨h6, (Go.Sx.guard_of fun h7 => (fun h => ⟨fact19 (n) (Go.Sx.wrapA Go.IntKind.i64 (Go.Sx.byteI tt v1)) (Go.Sx.wrapA Go.IntKind.i64 (Int.tdiv v0 256)) h7, (fun h => ⟨h6, (fun h => ⟨rfl, (fun h => ih1 (t13_9 tt v0 v1) 1 (Go.Sx.wrapA Go.IntKind.i64 (Int.add v1 1)) (l13_8 n tt v0 v1) r h) h⟩) h⟩) h⟩)) h⟩))) (fun h5 => (Go.Sx.guard_of fun h8 => (fun h => ⟨h8, (fun h => ih0 (t13_9 tt v0 v1) (Go.Sx.wrapA Go.IntKind.i64 (Int.add v1 1)) r h) h⟩))))) (fun h4 => (fun h => by cases h; rfl))) ((L13_0_succ tt kk n v0 v1).symm.trans h))), (fun v0 v1 v2 v3 r h => Go.Sx.wpS_run (L := []) (by kernel_rfl) (form13_1 n tt kk v0 v1 v2 v3 (.tup [.str r.1, .int .i64 r.2])) ((Go.Sx.br_of (fun h9 => (Go.Sx.br_of (fun h10 => (Go.Sx.guard_of fun h11 => (fun h => ⟨h11, (Go.Sx.guard_of fun h12 => (fun h => ⟨fact19 (n) (Go.Sx.wrapA Go.IntKind.i64 (Go.Sx.byteI tt v2)) (Go.Sx.wrapA Go.IntKind.i64 (Int.tdiv v0 256)) h12, (Go.Sx.guard_of fun h13 => (Go.Sx.guard_of fun h14 => (Go.Sx.guard_of fun h15 => (fun h => ⟨(Go.Sx.and_t h13 (Go.Sx.and_t h14 h15)), (fun h => ⟨h11, (Go.Sx.guard_of fun h16 => (fun h => ⟨h16, (fun h => ih1 (t13_12 tt v0 v2) (v1 + 1) (Go.Sx.wrapA Go.IntKind.i64 (Int.add v2 1)) (l13_11 n tt v0 v2 v3) r h) h⟩)) h⟩) h⟩)))) h⟩)) h⟩))) (fun h10 => (Go.Sx.guard_of fun h17 => (fun h => ⟨h17, (Go.Sx.guard_of fun h18 => (fun h => ⟨h18, (fun h => ih1 (t13_12 tt v0 v2) (v1) (Go.Sx.wrapA Go.IntKind.i64 (Int.add v2 1)) (v3) r h) h⟩)) h⟩))))) (fun h9 => (Go.Sx.guard_of fun h19 => (fun h => ⟨h19, (fun h => by cases h; rfl) h⟩)))) ((L13_1_succ tt kk n v0 v1 v2 v3).symm.trans h)))⟩
noncomputable def F13 (n : Nat) (tt : List Nat) (kk : Int) : Option (List Nat × Int) := (bif (Go.Sx.ltI 65536 (↑(List.length tt) : Int)) then (some ([], 3)) else (bif (Go.Sx.ltI kk 0) then (some ([], 2)) else (bif (Go.Sx.ltI 65535 kk) then (some ([], 2)) else (bif (Go.Sx.ltI (↑(List.length tt) : Int) 4) then (some ([], 5)) else (L13_0 tt kk n (kk) 0)))))
set_option maxHeartbeats 4000000 in
theorem form13 (n : Nat) (tt : List Nat) (kk : Int) (vz : Go.Sx.AV) : Go.Sx.wpS Try.prog Try.f13 [] vz (.st [0, 0, 2, 2, 0, 0, 0, 0, 0, 2, 2, 2, 0, 0] (.br 11 (.st [0, 0, 0, 2, 2, 0, 0, 2, 0] .ans) (.st [0, 2, 0, 0, 0, 0, 2, 2, 2] (.br 14 (.st [2, 2, 2, 0, 0, 0, 0, 0, 2, 2, 0, 0, 2, 0] .ans) (.st [2, 2, 2, 0, 0] (.br 17 (.st [0, 0, 0, 2, 2, 0, 0, 2, 0] .ans) (.st [0, 2, 0, 0, 0, 0, 2, 2, 2, 0, 0] (.br 20 (.st [0, 0, 0, 2, 2, 0, 0, 2, 0] .ans) (.st [0, 2, 0, 0, 0, 2, 2, 0, 0, 0, 0, 2, 0, 0, 0, 0, 0, 2, 0, 0, 0, 0] (.stop ⟨[[0, 6, 7, 8]], [], []⟩ [] 0 [])))))))))) [] (.code body13 (Go.Sx.startA [.str tt, .int .i64 kk] Try.f13) (Go.Sx.laidHeap [])) = (Go.Sx.BR (Go.Sx.ltI 65536 (↑(List.length tt) : Int)) (vz = .tup [.str [], .int .i64 (.ofNat 3)]) (Go.Sx.BR (Go.Sx.ltI kk 0) (vz = .tup [.str [], .int .i64 (.ofNat 2)]) (Go.Sx.BR (Go.Sx.ltI 65535 kk) (vz = .tup [.str [], .int .i64 (.ofNat 2)]) (Go.Sx.BR (Go.Sx.ltI (↑(List.length tt) : Int) 4) (vz = .tup [.str [], .int .i64 (.ofNat 5)]) (Go.Sx.RunAt Try.prog Try.f13 [] vz sk13_0 (pt13_0 tt kk (kk) 0)))))) := by kernel_rfl
set_option maxHeartbeats 4000000 in
theorem run13 (n : Nat) (tt : List Nat) (kk : Int)  (r : List Nat × Int) (h : F13 n tt kk = some r) : Go.Sx.Run Try.prog Try.f13 [] (.tup [.str r.1, .int .i64 r.2]) [] (.code body13 (Go.Sx.startA [.str tt, .int .i64 kk] Try.f13) (Go.Sx.laidHeap [])) := by
  obtain ⟨ih0, ih1⟩ := runs13 tt kk  n
  exact Go.Sx.wpS_run (L := []) (by kernel_rfl) (form13 n tt kk (.tup [.str r.1, .int .i64 r.2])) ((Go.Sx.br_of (fun h0 => (fun h => by cases h; rfl)) (fun h0 => (Go.Sx.br_of (fun h1 => (fun h => by cases h; rfl)) (fun h1 => (Go.Sx.br_of (fun h2 => (fun h => by cases h; rfl)) (fun h2 => (Go.Sx.br_of (fun h3 => (fun h => by cases h; rfl)) (fun h3 => (fun h => ih0 (kk) 0 r h))))))))) h)
noncomputable def F13_0 (n : Nat) (tt : List Nat) (kk : Int) : List Nat := ((F13 n tt kk).getD default).1
noncomputable def F13_1 (n : Nat) (tt : List Nat) (kk : Int) : Int := ((F13 n tt kk).getD default).2
theorem fact13 (n : Nat) (tt : List Nat) (kk : Int)  (h : (F13 n tt kk).isSome = true) : Go.Sx.Fact Try.prog [] 13 [.str tt, .int .i64 kk] (.tup [.str (F13_0 n tt kk), .int .i64 (F13_1 n tt kk)]) := Go.Sx.fact_of_run okayed (by kernel_rfl) (by kernel_rfl) Try.func13 body13_eq (run13 n tt kk  ((F13 n tt kk).getD default) (Go.Sx.getD_some h))
noncomputable def body9 : Go.Code := (Try.f9.body).getD .skip
theorem body9_eq : Try.f9.body = some body9 := Go.Sx.some_getD (by kernel_rfl)
noncomputable def u9_0 (n : (Nat)) : List Nat := (F12_0 n [217, 214, 111, 99] (55665))
noncomputable def t9_1 (n : (Nat)) : Int := (F12_1 n [217, 214, 111, 99] (55665))
noncomputable def u9_2 (n : (Nat)) : List Nat := (F12_0 n [16, 191, 49, 112, 147] (4330))
noncomputable def t9_3 (n : (Nat)) : Int := (F12_1 n [16, 191, 49, 112, 147] (4330))
noncomputable def c9_4 (n : (Nat)) : Bool := (Go.Sx.strEq (F10_0 n [] (55665)) (List.map UInt8.toNat (Array.toList (ByteArray.data { data := #[217, 214, 111, 99] }))))
noncomputable def c9_5 (n : (Nat)) : Bool := (Go.Sx.strEq (F10_0 n [97] (4330)) (List.map UInt8.toNat (Array.toList (ByteArray.data { data := #[16, 191, 49, 112, 147] }))))
noncomputable def c9_6 (n : (Nat)) : Bool := (Go.Sx.strEq (u9_2 n) (List.map UInt8.toNat (Array.toList (ByteArray.data { data := #[97] }))))
noncomputable def F9 (n : Nat)  : Option (Bool) := (bif (Option.isSome (F10 n [] 55665)) then (bif (Option.isSome (F10 n [97] 4330)) then (bif (Option.isSome (F12 n [217, 214, 111, 99] 55665)) then (bif (Option.isSome (F12 n [16, 191, 49, 112, 147] 4330)) then (bif (Option.isSome (F12 n [217, 214, 111] 55665)) then (bif (Option.isSome (F10 n [97] 65536)) then (bif (Go.Sx.eqI (F10_1 n [] (55665)) 0) then (bif (Go.Sx.eqI (F10_1 n [97] (4330)) 0) then (bif (Go.Sx.eqI (t9_1 n) 0) then (bif (Go.Sx.eqI (t9_3 n) 0) then (bif (c9_4 n) then (bif (c9_5 n) then (bif (Go.Sx.strEq (u9_0 n) (List.map UInt8.toNat (Array.toList (ByteArray.data { data := #[] })))) then (bif (c9_6 n) then (some true) else (some false)) else (some false)) else (some false)) else (some false)) else (some false)) else (some false)) else (some false)) else (some false)) else none) else none) else none) else none) else none) else none)
set_option maxHeartbeats 4000000 in
theorem form9 (n : Nat)  (vz : Go.Sx.AV) : Go.Sx.wpS Try.prog Try.f9 [] vz (.st [0, 0, 2, 0, 0, 0, 0] (.use [] (.tup [.str (F10_0 n [] (55665)), .int .i64 (F10_1 n [] (Int.ofNat 55665))]) (.st [2, 2, 2, 2, 2, 0, 0, 0, 0] (.use [] (.tup [.str (F10_0 n [97] (4330)), .int .i64 (F10_1 n [97] (Int.ofNat 4330))]) (.st [2, 2, 2, 2, 2, 0, 0, 0, 0] (.use [] (.tup [.str (F12_0 n [217, 214, 111, 99] (55665)), .int .i64 (F12_1 n [217, 214, 111, 99] (Int.ofNat 55665))]) (.st [2, 2, 2, 2, 2, 0, 0, 0, 0] (.use [] (.tup [.str (F12_0 n [16, 191, 49, 112, 147] (4330)), .int .i64 (F12_1 n [16, 191, 49, 112, 147] (Int.ofNat 4330))]) (.st [2, 2, 2, 2, 2, 0, 0, 0, 0] (.use [] (.tup [.str [], .int .i64 (F12_1 n [217, 214, 111] (Int.ofNat 55665))]) (.st [2, 2, 2, 2, 2, 0, 0, 0, 0] (.use [] (.tup [.str [], .int .i64 (F10_1 n [97] (Int.ofNat 65536))]) (.st [2, 2, 2, 2, 2, 0, 0, 0, 0, 2, 2, 2] (.br 40 (.st [2, 2, 2, 2] (.br 44 (.st [2, 2, 2, 2] (.br 48 (.st [2, 2, 2, 2] (.br 52 (.st [2, 2, 2, 2, 2, 2, 2, 2, 0, 0, 0, 0, 2, 2, 2, 2, 2, 2] (.br 65 (.st [2, 2, 2, 2] (.br 69 (.st [2, 2, 2, 2] (.br 73 (.st [2, 2, 2, 2] (.br 77 (.st [2, 2, 2, 2, 2, 2, 0, 0, 2] .ans) (.st [2, 2, 2, 2, 2, 2, 0, 0, 2] .ans))) (.st [2, 2, 2, 2, 2, 2, 2, 2, 2, 2, 0, 0, 2] .ans))) (.st [2, 2, 2, 2, 2, 2, 2, 2, 2, 2, 2, 2, 2, 2, 0, 0, 2] .ans))) (.st [2, 2, 2, 2, 2, 2, 2, 2, 2, 2, 2, 2, 2, 2, 2, 2, 2, 2, 0, 0, 2] .ans))) (.st [2, 2, 2, 2, 2, 2, 2, 2, 0, 0, 0, 0, 2, 2, 2, 2, 2, 2, 2, 2, 2, 2, 2, 2, 2, 2, 2, 2, 2, 2, 2, 2, 2, 2, 2, 2, 0, 0, 2] .ans))) (.st [2, 2, 2, 2, 2, 2, 2, 2, 2, 2, 2, 2, 0, 0, 0, 0, 2, 2, 2, 2, 2, 2, 2, 2, 2, 2, 2, 2, 2, 2, 2, 2, 2, 2, 2, 2, 2, 2, 2, 2, 0, 0, 2] .ans))) (.st [2, 2, 2, 2, 2, 2, 2, 2, 2, 2, 2, 2, 2, 2, 2, 2, 0, 0, 0, 0, 2, 2, 2, 2, 2, 2, 2, 2, 2, 2, 2, 2, 2, 2, 2, 2, 2, 2, 2, 2, 2, 2, 2, 2, 0, 0, 2] .ans))) (.st [2, 2, 2, 2, 2, 2, 2, 2, 2, 2, 2, 2, 2, 2, 2, 2, 2, 2, 2, 2, 0, 0, 0, 0, 2, 2, 2, 2, 2, 2, 2, 2, 2, 2, 2, 2, 2, 2, 2, 2, 2, 2, 2, 2, 2, 2, 2, 2, 0, 0, 2] .ans))))))))))))))) [] (.code body9 (Go.Sx.startA [] Try.f9) (Go.Sx.laidHeap [])) = (Go.Sx.Fact Try.prog [] 10 [.str [], .int .i64 (.ofNat 55665)] (.tup [.str (F10_0 n [] (55665)), .int .i64 (F10_1 n [] (Int.ofNat 55665))]) ∧ (Go.Sx.Fact Try.prog [] 10 [.str [97], .int .i64 (.ofNat 4330)] (.tup [.str (F10_0 n [97] (4330)), .int .i64 (F10_1 n [97] (Int.ofNat 4330))]) ∧ (Go.Sx.Fact Try.prog [] 12 [.str [217, 214, 111, 99], .int .i64 (.ofNat 55665)] (.tup [.str (F12_0 n [217, 214, 111, 99] (55665)), .int .i64 (F12_1 n [217, 214, 111, 99] (Int.ofNat 55665))]) ∧ (Go.Sx.Fact Try.prog [] 12 [.str [16, 191, 49, 112, 147], .int .i64 (.ofNat 4330)] (.tup [.str (F12_0 n [16, 191, 49, 112, 147] (4330)), .int .i64 (F12_1 n [16, 191, 49, 112, 147] (Int.ofNat 4330))]) ∧ (Go.Sx.Fact Try.prog [] 12 [.str [217, 214, 111], .int .i64 (.ofNat 55665)] (.tup [.str [], .int .i64 (F12_1 n [217, 214, 111] (Int.ofNat 55665))]) ∧ (Go.Sx.Fact Try.prog [] 10 [.str [97], .int .i64 (.ofNat 65536)] (.tup [.str [], .int .i64 (F10_1 n [97] (Int.ofNat 65536))]) ∧ (Go.Sx.BR (Go.Sx.eqI (F10_1 n [] (55665)) 0) (Go.Sx.BR (Go.Sx.eqI (F10_1 n [97] (4330)) 0) (Go.Sx.BR (Go.Sx.eqI (t9_1 n) 0) (Go.Sx.BR (Go.Sx.eqI (t9_3 n) 0) (Go.Sx.BR (c9_4 n) (Go.Sx.BR (c9_5 n) (Go.Sx.BR (Go.Sx.strEq (u9_0 n) (List.map UInt8.toNat (Array.toList (ByteArray.data { data := #[] })))) (Go.Sx.BR (c9_6 n) (vz = .bool true) (vz = .bool false)) (vz = .bool false)) (vz = .bool false)) (vz = .bool false)) (vz = .bool false)) (vz = .bool false)) (vz = .bool false)) (vz = .bool false)))))))) := by kernel_rfl
set_option maxHeartbeats 4000000 in
theorem run9 (n : Nat)   (r : Bool) (h : F9 n  = some r) : Go.Sx.Run Try.prog Try.f9 [] (.bool r) [] (.code body9 (Go.Sx.startA [] Try.f9) (Go.Sx.laidHeap [])) := by
  exact Go.Sx.wpS_run (L := []) (by kernel_rfl) (form9 n  (.bool r)) ((Go.Sx.guard_of fun h0 => (fun h => ⟨fact10 (n) ([]) (55665) h0, (Go.Sx.guard_of fun h1 => (fun h => ⟨fact10 (n) ([97]) (4330) h1, (Go.Sx.guard_of fun h2 => (fun h => ⟨fact12 (n) ([217, 214, 111, 99]) (55665) h2, (Go.Sx.guard_of fun h3 => (fun h => ⟨fact12 (n) ([16, 191, 49, 112, 147]) (4330) h3, (Go.Sx.guard_of fun h4 => (fun h => ⟨fact12 (n) ([217, 214, 111]) (55665) h4, (Go.Sx.guard_of fun h5 => (fun h => ⟨fact10 (n) ([97]) (65536) h5, (Go.Sx.br_of (fun h6 => (Go.Sx.br_of (fun h7 => (Go.Sx.br_of (fun h8 => (Go.Sx.br_of (fun h9 => (Go.Sx.br_of (fun h10 => (Go.Sx.br_of (fun h11 => (Go.Sx.br_of (fun h12 => (Go.Sx.br_of (fun h13 => (fun h => by cases h; rfl)) (fun h13 => (fun h => by cases h; rfl)))) (fun h12 => (fun h => by cases h; rfl)))) (fun h11 => (fun h => by cases h; rfl)))) (fun h10 => (fun h => by cases h; rfl)))) (fun h9 => (fun h => by cases h; rfl)))) (fun h8 => (fun h => by cases h; rfl)))) (fun h7 => (fun h => by cases h; rfl)))) (fun h6 => (fun h => by cases h; rfl))) h⟩)) h⟩)) h⟩)) h⟩)) h⟩)) h⟩)) h)
noncomputable def F9_0 (n : Nat)  : Bool := ((F9 n ).getD default)
theorem fact9 (n : Nat)   (h : (F9 n ).isSome = true) : Go.Sx.Fact Try.prog [] 9 [] (.bool (F9_0 n )) := Go.Sx.fact_of_run okayed (by kernel_rfl) (by kernel_rfl) Try.func9 body9_eq (run9 n   ((F9 n ).getD default) (Go.Sx.getD_some h))
noncomputable def body3 : Go.Code := (Try.f3.body).getD .skip
theorem body3_eq : Try.f3.body = some body3 := Go.Sx.some_getD (by kernel_rfl)
noncomputable def t3_0 (a0 : (List Nat)) : Int := (if 66000 < (↑(List.length a0) : Int) then 66000 else (↑(List.length a0) : Int))
noncomputable def c3_1 (n : (Nat)) (a0 : (List Nat)) (a1 : (Int)) : Bool := (!Go.Sx.strEq (F10_0 n (Go.Sx.subS a0 0 (Int.toNat (t3_0 a0))) a1) (F11_0 n (Go.Sx.subS a0 0 (Int.toNat (t3_0 a0))) a1))
noncomputable def c3_2 (n : (Nat)) (a0 : (List Nat)) (a1 : (Int)) : Bool := (!Go.Sx.eqI (F10_1 n (Go.Sx.subS a0 0 (Int.toNat (t3_0 a0))) a1) (F11_1 n (Go.Sx.subS a0 0 (Int.toNat (t3_0 a0))) a1))
noncomputable def c3_3 (n : (Nat)) (a0 : (List Nat)) (a2 : (Int)) : Bool := (!Go.Sx.strEq (F10_0 n (Go.Sx.subS a0 0 (Int.toNat (t3_0 a0))) (Go.Sx.wrapA Go.IntKind.i64 a2)) (F11_0 n (Go.Sx.subS a0 0 (Int.toNat (t3_0 a0))) (Go.Sx.wrapA Go.IntKind.i64 a2)))
noncomputable def c3_4 (n : (Nat)) (a0 : (List Nat)) (a2 : (Int)) : Bool := (!Go.Sx.eqI (F10_1 n (Go.Sx.subS a0 0 (Int.toNat (t3_0 a0))) (Go.Sx.wrapA Go.IntKind.i64 a2)) (F11_1 n (Go.Sx.subS a0 0 (Int.toNat (t3_0 a0))) (Go.Sx.wrapA Go.IntKind.i64 a2)))
noncomputable def c3_5 (n : (Nat)) (a0 : (List Nat)) : Bool := (!Go.Sx.strEq (F10_0 n (Go.Sx.subS a0 0 (Int.toNat (t3_0 a0))) (55665)) (F11_0 n (Go.Sx.subS a0 0 (Int.toNat (t3_0 a0))) (55665)))
noncomputable def c3_6 (n : (Nat)) (a0 : (List Nat)) : Bool := (!Go.Sx.eqI (F10_1 n (Go.Sx.subS a0 0 (Int.toNat (t3_0 a0))) (55665)) (F11_1 n (Go.Sx.subS a0 0 (Int.toNat (t3_0 a0))) (55665)))
noncomputable def F3 (n : Nat) (a0 : List Nat) (a1 : Int) (a2 : Int) : Option (Bool) := (bif (Option.isSome (F9 n)) then (bif (!F9_0 n) then (some false) else (bif (!Go.Sx.ltI (t3_0 a0) 0) then (bif (Go.Sx.leB (Int.toNat (t3_0 a0)) (List.length a0)) then (bif (Option.isSome (F10 n (Go.Sx.subS a0 0 (Int.toNat (t3_0 a0))) a1)) then (bif (Option.isSome (F11 n (Go.Sx.subS a0 0 (Int.toNat (t3_0 a0))) a1)) then (bif (c3_1 n a0 a1) then (some false) else (bif (c3_2 n a0 a1) then (some false) else (bif (Option.isSome (F10 n (Go.Sx.subS a0 0 (Int.toNat (t3_0 a0))) (Go.Sx.wrapA Go.IntKind.i64 a2))) then (bif (Option.isSome (F11 n (Go.Sx.subS a0 0 (Int.toNat (t3_0 a0))) (Go.Sx.wrapA Go.IntKind.i64 a2))) then (bif (c3_3 n a0 a2) then (some false) else (bif (c3_4 n a0 a2) then (some false) else (bif (Option.isSome (F10 n (Go.Sx.subS a0 0 (Int.toNat (t3_0 a0))) 55665)) then (bif (Option.isSome (F11 n (Go.Sx.subS a0 0 (Int.toNat (t3_0 a0))) 55665)) then (bif (c3_5 n a0) then (some false) else (bif (c3_6 n a0) then (some false) else (some true))) else none) else none))) else none) else none))) else none) else none) else none) else none)) else none)
set_option maxHeartbeats 4000000 in
theorem form3 (n : Nat) (a0 : List Nat) (a1 : Int) (a2 : Int) (vz : Go.Sx.AV) : Go.Sx.wpS Try.prog Try.f3 [] vz (.st [0, 0, 2, 0, 0, 0, 0, 0] (.use [] (.bool (F9_0 n)) (.st [2, 0, 0] (.br 14 (.st [0, 0, 0, 2, 0, 0, 2, 0] .ans) (.st [0, 2, 0, 0, 0, 2, 2, 2, 2] (.sp 2 (.st [2, 0, 0, 0, 0, 0, 2, 2, 2, 2, 2, 0, 0, 0, 0, 0, 0, 0, 2, 0, 0, 0, 0, 2, 0, 0, 0, 0, 0, 2, 2, 0, 0, 0, 0, 2, 2] (.use [] (.tup [.str (F10_0 n (Go.Sx.subS a0 0 (Int.toNat (t3_0 a0))) a1), .int .i64 (F10_1 n (Go.Sx.subS a0 0 (Int.toNat (t3_0 a0))) a1)]) (.st [2, 2, 2, 2, 2, 0, 0, 0, 0, 2, 2] (.use [] (.tup [.str (F11_0 n (Go.Sx.subS a0 0 (Int.toNat (t3_0 a0))) a1), .int .i64 (F11_1 n (Go.Sx.subS a0 0 (Int.toNat (t3_0 a0))) a1)]) (.st [2, 2, 2, 2, 2, 0, 0, 0, 0, 2, 2, 2, 2] (.br 42 (.st [2, 2, 2, 2, 0, 0, 0, 0, 0, 2, 0, 0, 2, 0, 0, 0, 0, 0] .ans) (.st [2, 2, 2, 2, 0, 0] (.br 46 (.st [0, 0, 0, 2, 0, 0, 2, 0, 0, 0, 0, 0] .ans) (.st [0, 2, 0, 0, 0, 2, 2, 0, 0, 0, 0, 0, 2, 0, 0, 0, 0, 2, 0, 0, 0, 0, 0, 2, 2, 0, 0, 0, 0, 2, 2] (.use [] (.tup [.str (F10_0 n (Go.Sx.subS a0 0 (Int.toNat (t3_0 a0))) (Go.Sx.wrapA Go.IntKind.i64 a2)), .int .i64 (F10_1 n (Go.Sx.subS a0 0 (Int.toNat (t3_0 a0))) (Go.Sx.wrapA Go.IntKind.i64 a2))]) (.st [2, 2, 2, 2, 2, 0, 0, 0, 0, 2, 2] (.use [] (.tup [.str (F11_0 n (Go.Sx.subS a0 0 (Int.toNat (t3_0 a0))) (Go.Sx.wrapA Go.IntKind.i64 a2)), .int .i64 (F11_1 n (Go.Sx.subS a0 0 (Int.toNat (t3_0 a0))) (Go.Sx.wrapA Go.IntKind.i64 a2))]) (.st [2, 2, 2, 2, 2, 0, 0, 0, 0, 2, 2, 2, 2] (.br 42 (.st [2, 2, 2, 2, 0, 0, 0, 0, 0, 2, 0, 0, 2, 0, 0, 0, 0, 0] .ans) (.st [2, 2, 2, 2, 0, 0] (.br 46 (.st [0, 0, 0, 2, 0, 0, 2, 0, 0, 0, 0, 0] .ans) (.st [0, 2, 0, 0, 0, 2, 2, 0, 0, 0, 0, 0, 2, 0, 0, 0, 0, 2, 0, 0, 0, 0, 0, 2, 2, 0, 0, 0, 0, 2, 2] (.use [] (.tup [.str (F10_0 n (Go.Sx.subS a0 0 (Int.toNat (t3_0 a0))) (55665)), .int .i64 (F10_1 n (Go.Sx.subS a0 0 (Int.toNat (t3_0 a0))) (Int.ofNat 55665))]) (.st [2, 2, 2, 2, 2, 0, 0, 0, 0, 2, 2] (.use [] (.tup [.str (F11_0 n (Go.Sx.subS a0 0 (Int.toNat (t3_0 a0))) (55665)), .int .i64 (F11_1 n (Go.Sx.subS a0 0 (Int.toNat (t3_0 a0))) (Int.ofNat 55665))]) (.st [2, 2, 2, 2, 2, 0, 0, 0, 0, 2, 2, 2, 2] (.br 42 (.st [2, 2, 2, 2, 0, 0, 0, 0, 0, 2, 0, 0, 2, 0, 0, 0, 0, 0] .ans) (.st [2, 2, 2, 2, 0, 0] (.br 46 (.st [0, 0, 0, 2, 0, 0, 2, 0, 0, 0, 0, 0] .ans) (.st [0, 2, 0, 0, 0, 2, 2, 0, 0, 0, 0, 0, 2, 0, 0, 0, 0, 2, 0, 0, 0, 0, 0, 0, 2, 0, 0, 2] .ans))))))))))))))))))))))))))))))) [] (.code body3 (Go.Sx.startA [.str a0, .int .i64 a1, .int .u16 a2] Try.f3) (Go.Sx.laidHeap [])) = (Go.Sx.Fact Try.prog [] 9 [] (.bool (F9_0 n)) ∧ (Go.Sx.BR (!F9_0 n) (vz = .bool false) (Go.Sx.AN (Go.Sx.andB (Go.Sx.andB (!Go.Sx.ltI (t3_0 a0) 0) Bool.true) (Go.Sx.leB (Int.toNat (t3_0 a0)) (List.length a0))) (Go.Sx.Fact Try.prog [] 10 [.str (Go.Sx.subS a0 0 (Int.toNat (t3_0 a0))), .int .i64 (a1)] (.tup [.str (F10_0 n (Go.Sx.subS a0 0 (Int.toNat (t3_0 a0))) a1), .int .i64 (F10_1 n (Go.Sx.subS a0 0 (Int.toNat (t3_0 a0))) a1)]) ∧ (Go.Sx.Fact Try.prog [] 11 [.str (Go.Sx.subS a0 0 (Int.toNat (t3_0 a0))), .int .i64 (a1)] (.tup [.str (F11_0 n (Go.Sx.subS a0 0 (Int.toNat (t3_0 a0))) a1), .int .i64 (F11_1 n (Go.Sx.subS a0 0 (Int.toNat (t3_0 a0))) a1)]) ∧ (Go.Sx.BR (c3_1 n a0 a1) (vz = .bool false) (Go.Sx.BR (c3_2 n a0 a1) (vz = .bool false) (Go.Sx.Fact Try.prog [] 10 [.str (Go.Sx.subS a0 0 (Int.toNat (t3_0 a0))), .int .i64 (Go.Sx.wrapA Go.IntKind.i64 a2)] (.tup [.str (F10_0 n (Go.Sx.subS a0 0 (Int.toNat (t3_0 a0))) (Go.Sx.wrapA Go.IntKind.i64 a2)), .int .i64 (F10_1 n (Go.Sx.subS a0 0 (Int.toNat (t3_0 a0))) (Go.Sx.wrapA Go.IntKind.i64 a2))]) ∧ (Go.Sx.Fact Try.prog [] 11 [.str (Go.Sx.subS a0 0 (Int.toNat (t3_0 a0))), .int .i64 (Go.Sx.wrapA Go.IntKind.i64 a2)] (.tup [.str (F11_0 n (Go.Sx.subS a0 0 (Int.toNat (t3_0 a0))) (Go.Sx.wrapA Go.IntKind.i64 a2)), .int .i64 (F11_1 n (Go.Sx.subS a0 0 (Int.toNat (t3_0 a0))) (Go.Sx.wrapA Go.IntKind.i64 a2))]) ∧ (Go.Sx.BR (c3_3 n a0 a2) (vz = .bool false) (Go.Sx.BR (c3_4 n a0 a2) (vz = .bool false) (Go.Sx.Fact Try.prog [] 10 [.str (Go.Sx.subS a0 0 (Int.toNat (t3_0 a0))), .int .i64 (.ofNat 55665)] (.tup [.str (F10_0 n (Go.Sx.subS a0 0 (Int.toNat (t3_0 a0))) (55665)), .int .i64 (F10_1 n (Go.Sx.subS a0 0 (Int.toNat (t3_0 a0))) (Int.ofNat 55665))]) ∧ (Go.Sx.Fact Try.prog [] 11 [.str (Go.Sx.subS a0 0 (Int.toNat (t3_0 a0))), .int .i64 (.ofNat 55665)] (.tup [.str (F11_0 n (Go.Sx.subS a0 0 (Int.toNat (t3_0 a0))) (55665)), .int .i64 (F11_1 n (Go.Sx.subS a0 0 (Int.toNat (t3_0 a0))) (Int.ofNat 55665))]) ∧ (Go.Sx.BR (c3_5 n a0) (vz = .bool false) (Go.Sx.BR (c3_6 n a0) (vz = .bool false) (vz = .bool true)))))))))))))))) := by kernel_rfl
set_option maxHeartbeats 4000000 in
theorem run3 (n : Nat) (a0 : List Nat) (a1 : Int) (a2 : Int)  (r : Bool) (h : F3 n a0 a1 a2 = some r) : Go.Sx.Run Try.prog Try.f3 [] (.bool r) [] (.code body3 (Go.Sx.startA [.str a0, .int .i64 a1, .int .u16 a2] Try.f3) (Go.Sx.laidHeap [])) := by
  exact Go.Sx.wpS_run (L := []) (by kernel_rfl) (form3 n a0 a1 a2 (.bool r)) ((Go.Sx.guard_of fun h0 => (fun h => ⟨fact9 (n) h0, (Go.Sx.br_of (fun h1 => (fun h => by cases h; rfl)) (fun h1 => (Go.Sx.guard_of fun h2 => (Go.Sx.guard_of fun h3 => (fun h => ⟨(Go.Sx.and_t (Go.Sx.and_t h2 rfl) h3), (Go.Sx.guard_of fun h4 => (fun h => ⟨fact10 (n) (Go.Sx.subS a0 0 (Int.toNat (t3_0 a0))) (a1) h4, (Go.Sx.guard_of fun h5 => (fun h => ⟨fact11 (n) (Go.Sx.subS a0 0 (Int.toNat (t3_0 a0))) (a1) h5, (Go.Sx.br_of (fun h6 => (fun h => by cases h; rfl)) (fun h6 => (Go.Sx.br_of (fun h7 => (fun h => by cases h; rfl)) (fun h7 => (Go.Sx.guard_of fun h8 => (fun h => ⟨fact10 (n) (Go.Sx.subS a0 0 (Int.toNat (t3_0 a0))) (Go.Sx.wrapA Go.IntKind.i64 a2) h8, (Go.Sx.guard_of fun h9 => (fun h => ⟨fact11 (n) (Go.Sx.subS a0 0 (Int.toNat (t3_0 a0))) (Go.Sx.wrapA Go.IntKind.i64 a2) h9, (Go.Sx.br_of (fun h10 => (fun h => by cases h; rfl)) (fun h10 => (Go.Sx.br_of (fun h11 => (fun h => by cases h; rfl)) (fun h11 => (Go.Sx.guard_of fun h12 => (fun h => ⟨fact10 (n) (Go.Sx.subS a0 0 (Int.toNat (t3_0 a0))) (55665) h12, (Go.Sx.guard_of fun h13 => (fun h => ⟨fact11 (n) (Go.Sx.subS a0 0 (Int.toNat (t3_0 a0))) (55665) h13, (Go.Sx.br_of (fun h14 => (fun h => by cases h; rfl)) (fun h14 => (Go.Sx.br_of (fun h15 => (fun h => by cases h; rfl)) (fun h15 => (fun h => by cases h; rfl))))) h⟩)) h⟩)))))) h⟩)) h⟩)))))) h⟩)) h⟩)) h⟩))))) h⟩)) h)
noncomputable def body4 : Go.Code := (Try.f4.body).getD .skip
theorem body4_eq : Try.f4.body = some body4 := Go.Sx.some_getD (by kernel_rfl)
noncomputable def t4_0 (a0 : (List Nat)) : Int := (if 66000 < (↑(List.length a0) : Int) then 66000 else (↑(List.length a0) : Int))
noncomputable def c4_1 (n : (Nat)) (a0 : (List Nat)) (a1 : (Int)) : Bool := (!Go.Sx.strEq (F12_0 n (Go.Sx.subS a0 0 (Int.toNat (t4_0 a0))) a1) (F13_0 n (Go.Sx.subS a0 0 (Int.toNat (t4_0 a0))) a1))
noncomputable def c4_2 (n : (Nat)) (a0 : (List Nat)) (a1 : (Int)) : Bool := (!Go.Sx.eqI (F12_1 n (Go.Sx.subS a0 0 (Int.toNat (t4_0 a0))) a1) (F13_1 n (Go.Sx.subS a0 0 (Int.toNat (t4_0 a0))) a1))
noncomputable def c4_3 (n : (Nat)) (a0 : (List Nat)) (a2 : (Int)) : Bool := (!Go.Sx.strEq (F12_0 n (Go.Sx.subS a0 0 (Int.toNat (t4_0 a0))) (Go.Sx.wrapA Go.IntKind.i64 a2)) (F13_0 n (Go.Sx.subS a0 0 (Int.toNat (t4_0 a0))) (Go.Sx.wrapA Go.IntKind.i64 a2)))
noncomputable def c4_4 (n : (Nat)) (a0 : (List Nat)) (a2 : (Int)) : Bool := (!Go.Sx.eqI (F12_1 n (Go.Sx.subS a0 0 (Int.toNat (t4_0 a0))) (Go.Sx.wrapA Go.IntKind.i64 a2)) (F13_1 n (Go.Sx.subS a0 0 (Int.toNat (t4_0 a0))) (Go.Sx.wrapA Go.IntKind.i64 a2)))
noncomputable def c4_5 (n : (Nat)) (a0 : (List Nat)) : Bool := (!Go.Sx.strEq (F12_0 n (Go.Sx.subS a0 0 (Int.toNat (t4_0 a0))) (4330)) (F13_0 n (Go.Sx.subS a0 0 (Int.toNat (t4_0 a0))) (4330)))
noncomputable def c4_6 (n : (Nat)) (a0 : (List Nat)) : Bool := (!Go.Sx.eqI (F12_1 n (Go.Sx.subS a0 0 (Int.toNat (t4_0 a0))) (4330)) (F13_1 n (Go.Sx.subS a0 0 (Int.toNat (t4_0 a0))) (4330)))
noncomputable def F4 (n : Nat) (a0 : List Nat) (a1 : Int) (a2 : Int) : Option (Bool) := (bif (Option.isSome (F9 n)) then (bif (!F9_0 n) then (some false) else (bif (!Go.Sx.ltI (t4_0 a0) 0) then (bif (Go.Sx.leB (Int.toNat (t4_0 a0)) (List.length a0)) then (bif (Option.isSome (F12 n (Go.Sx.subS a0 0 (Int.toNat (t4_0 a0))) a1)) then (bif (Option.isSome (F13 n (Go.Sx.subS a0 0 (Int.toNat (t4_0 a0))) a1)) then (bif (c4_1 n a0 a1) then (some false) else (bif (c4_2 n a0 a1) then (some false) else (bif (Option.isSome (F12 n (Go.Sx.subS a0 0 (Int.toNat (t4_0 a0))) (Go.Sx.wrapA Go.IntKind.i64 a2))) then (bif (Option.isSome (F13 n (Go.Sx.subS a0 0 (Int.toNat (t4_0 a0))) (Go.Sx.wrapA Go.IntKind.i64 a2))) then (bif (c4_3 n a0 a2) then (some false) else (bif (c4_4 n a0 a2) then (some false) else (bif (Option.isSome (F12 n (Go.Sx.subS a0 0 (Int.toNat (t4_0 a0))) 4330)) then (bif (Option.isSome (F13 n (Go.Sx.subS a0 0 (Int.toNat (t4_0 a0))) 4330)) then (bif (c4_5 n a0) then (some false) else (bif (c4_6 n a0) then (some false) else (some true))) else none) else none))) else none) else none))) else none) else none) else none) else none)) else none)
set_option maxHeartbeats 4000000 in
theorem form4 (n : Nat) (a0 : List Nat) (a1 : Int) (a2 : Int) (vz : Go.Sx.AV) : Go.Sx.wpS Try.prog Try.f4 [] vz (.st [0, 0, 2, 0, 0, 0, 0, 0] (.use [] (.bool (F9_0 n)) (.st [2, 0, 0] (.br 14 (.st [0, 0, 0, 2, 0, 0, 2, 0] .ans) (.st [0, 2, 0, 0, 0, 2, 2, 2, 2] (.sp 2 (.st [2, 0, 0, 0, 0, 0, 2, 2, 2, 2, 2, 0, 0, 0, 0, 0, 0, 0, 2, 0, 0, 0, 0, 2, 0, 0, 0, 0, 0, 2, 2, 0, 0, 0, 0, 2, 2] (.use [] (.tup [.str (F12_0 n (Go.Sx.subS a0 0 (Int.toNat (t4_0 a0))) a1), .int .i64 (F12_1 n (Go.Sx.subS a0 0 (Int.toNat (t4_0 a0))) a1)]) (.st [2, 2, 2, 2, 2, 0, 0, 0, 0, 2, 2] (.use [] (.tup [.str (F13_0 n (Go.Sx.subS a0 0 (Int.toNat (t4_0 a0))) a1), .int .i64 (F13_1 n (Go.Sx.subS a0 0 (Int.toNat (t4_0 a0))) a1)]) (.st [2, 2, 2, 2, 2, 0, 0, 0, 0, 2, 2, 2, 2] (.br 42 (.st [2, 2, 2, 2, 0, 0, 0, 0, 0, 2, 0, 0, 2, 0, 0, 0, 0, 0] .ans) (.st [2, 2, 2, 2, 0, 0] (.br 46 (.st [0, 0, 0, 2, 0, 0, 2, 0, 0, 0, 0, 0] .ans) (.st [0, 2, 0, 0, 0, 2, 2, 0, 0, 0, 0, 0, 2, 0, 0, 0, 0, 2, 0, 0, 0, 0, 0, 2, 2, 0, 0, 0, 0, 2, 2] (.use [] (.tup [.str (F12_0 n (Go.Sx.subS a0 0 (Int.toNat (t4_0 a0))) (Go.Sx.wrapA Go.IntKind.i64 a2)), .int .i64 (F12_1 n (Go.Sx.subS a0 0 (Int.toNat (t4_0 a0))) (Go.Sx.wrapA Go.IntKind.i64 a2))]) (.st [2, 2, 2, 2, 2, 0, 0, 0, 0, 2, 2] (.use [] (.tup [.str (F13_0 n (Go.Sx.subS a0 0 (Int.toNat (t4_0 a0))) (Go.Sx.wrapA Go.IntKind.i64 a2)), .int .i64 (F13_1 n (Go.Sx.subS a0 0 (Int.toNat (t4_0 a0))) (Go.Sx.wrapA Go.IntKind.i64 a2))]) (.st [2, 2, 2, 2, 2, 0, 0, 0, 0, 2, 2, 2, 2] (.br 42 (.st [2, 2, 2, 2, 0, 0, 0, 0, 0, 2, 0, 0, 2, 0, 0, 0, 0, 0] .ans) (.st [2, 2, 2, 2, 0, 0] (.br 46 (.st [0, 0, 0, 2, 0, 0, 2, 0, 0, 0, 0, 0] .ans) (.st [0, 2, 0, 0, 0, 2, 2, 0, 0, 0, 0, 0, 2, 0, 0, 0, 0, 2, 0, 0, 0, 0, 0, 2, 2, 0, 0, 0, 0, 2, 2] (.use [] (.tup [.str (F12_0 n (Go.Sx.subS a0 0 (Int.toNat (t4_0 a0))) (4330)), .int .i64 (F12_1 n (Go.Sx.subS a0 0 (Int.toNat (t4_0 a0))) (Int.ofNat 4330))]) (.st [2, 2, 2, 2, 2, 0, 0, 0, 0, 2, 2] (.use [] (.tup [.str (F13_0 n (Go.Sx.subS a0 0 (Int.toNat (t4_0 a0))) (4330)), .int .i64 (F13_1 n (Go.Sx.subS a0 0 (Int.toNat (t4_0 a0))) (Int.ofNat 4330))]) (.st [2, 2, 2, 2, 2, 0, 0, 0, 0, 2, 2, 2, 2] (.br 42 (.st [2, 2, 2, 2, 0, 0, 0, 0, 0, 2, 0, 0, 2, 0, 0, 0, 0, 0] .ans) (.st [2, 2, 2, 2, 0, 0] (.br 46 (.st [0, 0, 0, 2, 0, 0, 2, 0, 0, 0, 0, 0] .ans) (.st [0, 2, 0, 0, 0, 2, 2, 0, 0, 0, 0, 0, 2, 0, 0, 0, 0, 2, 0, 0, 0, 0, 0, 0, 2, 0, 0, 2] .ans))))))))))))))))))))))))))))))) [] (.code body4 (Go.Sx.startA [.str a0, .int .i64 a1, .int .u16 a2] Try.f4) (Go.Sx.laidHeap [])) = (Go.Sx.Fact Try.prog [] 9 [] (.bool (F9_0 n)) ∧ (Go.Sx.BR (!F9_0 n) (vz = .bool false) (Go.Sx.AN (Go.Sx.andB (Go.Sx.andB (!Go.Sx.ltI (t4_0 a0) 0) Bool.true) (Go.Sx.leB (Int.toNat (t4_0 a0)) (List.length a0))) (Go.Sx.Fact Try.prog [] 12 [.str (Go.Sx.subS a0 0 (Int.toNat (t4_0 a0))), .int .i64 (a1)] (.tup [.str (F12_0 n (Go.Sx.subS a0 0 (Int.toNat (t4_0 a0))) a1), .int .i64 (F12_1 n (Go.Sx.subS a0 0 (Int.toNat (t4_0 a0))) a1)]) ∧ (Go.Sx.Fact Try.prog [] 13 [.str (Go.Sx.subS a0 0 (Int.toNat (t4_0 a0))), .int .i64 (a1)] (.tup [.str (F13_0 n (Go.Sx.subS a0 0 (Int.toNat (t4_0 a0))) a1), .int .i64 (F13_1 n (Go.Sx.subS a0 0 (Int.toNat (t4_0 a0))) a1)]) ∧ (Go.Sx.BR (c4_1 n a0 a1) (vz = .bool false) (Go.Sx.BR (c4_2 n a0 a1) (vz = .bool false) (Go.Sx.Fact Try.prog [] 12 [.str (Go.Sx.subS a0 0 (Int.toNat (t4_0 a0))), .int .i64 (Go.Sx.wrapA Go.IntKind.i64 a2)] (.tup [.str (F12_0 n (Go.Sx.subS a0 0 (Int.toNat (t4_0 a0))) (Go.Sx.wrapA Go.IntKind.i64 a2)), .int .i64 (F12_1 n (Go.Sx.subS a0 0 (Int.toNat (t4_0 a0))) (Go.Sx.wrapA Go.IntKind.i64 a2))]) ∧ (Go.Sx.Fact Try.prog [] 13 [.str (Go.Sx.subS a0 0 (Int.toNat (t4_0 a0))), .int .i64 (Go.Sx.wrapA Go.IntKind.i64 a2)] (.tup [.str (F13_0 n (Go.Sx.subS a0 0 (Int.toNat (t4_0 a0))) (Go.Sx.wrapA Go.IntKind.i64 a2)), .int .i64 (F13_1 n (Go.Sx.subS a0 0 (Int.toNat (t4_0 a0))) (Go.Sx.wrapA Go.IntKind.i64 a2))]) ∧ (Go.Sx.BR (c4_3 n a0 a2) (vz = .bool false) (Go.Sx.BR (c4_4 n a0 a2) (vz = .bool false) (Go.Sx.Fact Try.prog [] 12 [.str (Go.Sx.subS a0 0 (Int.toNat (t4_0 a0))), .int .i64 (.ofNat 4330)] (.tup [.str (F12_0 n (Go.Sx.subS a0 0 (Int.toNat (t4_0 a0))) (4330)), .int .i64 (F12_1 n (Go.Sx.subS a0 0 (Int.toNat (t4_0 a0))) (Int.ofNat 4330))]) ∧ (Go.Sx.Fact Try.prog [] 13 [.str (Go.Sx.subS a0 0 (Int.toNat (t4_0 a0))), .int .i64 (.ofNat 4330)] (.tup [.str (F13_0 n (Go.Sx.subS a0 0 (Int.toNat (t4_0 a0))) (4330)), .int .i64 (F13_1 n (Go.Sx.subS a0 0 (Int.toNat (t4_0 a0))) (Int.ofNat 4330))]) ∧ (Go.Sx.BR (c4_5 n a0) (vz = .bool false) (Go.Sx.BR (c4_6 n a0) (vz = .bool false) (vz = .bool true)))))))))))))))) := by kernel_rfl
set_option maxHeartbeats 4000000 in
theorem run4 (n : Nat) (a0 : List Nat) (a1 : Int) (a2 : Int)  (r : Bool) (h : F4 n a0 a1 a2 = some r) : Go.Sx.Run Try.prog Try.f4 [] (.bool r) [] (.code body4 (Go.Sx.startA [.str a0, .int .i64 a1, .int .u16 a2] Try.f4) (Go.Sx.laidHeap [])) := by
  exact Go.Sx.wpS_run (L := []) (by kernel_rfl) (form4 n a0 a1 a2 (.bool r)) ((Go.Sx.guard_of fun h0 => (fun h => ⟨fact9 (n) h0, (Go.Sx.br_of (fun h1 => (fun h => by cases h; rfl)) (fun h1 => (Go.Sx.guard_of fun h2 => (Go.Sx.guard_of fun h3 => (fun h => ⟨(Go.Sx.and_t (Go.Sx.and_t h2 rfl) h3), (Go.Sx.guard_of fun h4 => (fun h => ⟨fact12 (n) (Go.Sx.subS a0 0 (Int.toNat (t4_0 a0))) (a1) h4, (Go.Sx.guard_of fun h5 => (fun h => ⟨fact13 (n) (Go.Sx.subS a0 0 (Int.toNat (t4_0 a0))) (a1) h5, (Go.Sx.br_of (fun h6 => (fun h => by cases h; rfl)) (fun h6 => (Go.Sx.br_of (fun h7 => (fun h => by cases h; rfl)) (fun h7 => (Go.Sx.guard_of fun h8 => (fun h => ⟨fact12 (n) (Go.Sx.subS a0 0 (Int.toNat (t4_0 a0))) (Go.Sx.wrapA Go.IntKind.i64 a2) h8, (Go.Sx.guard_of fun h9 => (fun h => ⟨fact13 (n) (Go.Sx.subS a0 0 (Int.toNat (t4_0 a0))) (Go.Sx.wrapA Go.IntKind.i64 a2) h9, (Go.Sx.br_of (fun h10 => (fun h => by cases h; rfl)) (fun h10 => (Go.Sx.br_of (fun h11 => (fun h => by cases h; rfl)) (fun h11 => (Go.Sx.guard_of fun h12 => (fun h => ⟨fact12 (n) (Go.Sx.subS a0 0 (Int.toNat (t4_0 a0))) (4330) h12, (Go.Sx.guard_of fun h13 => (fun h => ⟨fact13 (n) (Go.Sx.subS a0 0 (Int.toNat (t4_0 a0))) (4330) h13, (Go.Sx.br_of (fun h14 => (fun h => by cases h; rfl)) (fun h14 => (Go.Sx.br_of (fun h15 => (fun h => by cases h; rfl)) (fun h15 => (fun h => by cases h; rfl))))) h⟩)) h⟩)))))) h⟩)) h⟩)))))) h⟩)) h⟩)) h⟩))))) h⟩)) h)
noncomputable def body5 : Go.Code := (Try.f5.body).getD .skip
theorem body5_eq : Try.f5.body = some body5 := Go.Sx.some_getD (by kernel_rfl)
noncomputable def t5_0 (a0 : (List Nat)) : Int := (if 1000 < (↑(List.length a0) : Int) then 1000 else (↑(List.length a0) : Int))
noncomputable def u5_1 (n : (Nat)) (a0 : (List Nat)) (a1 : (Int)) : List Nat := (F12_0 n (F10_0 n (Go.Sx.subS a0 0 (Int.toNat (t5_0 a0))) (Go.Sx.wrapA Go.IntKind.i64 a1)) (Go.Sx.wrapA Go.IntKind.i64 a1))
noncomputable def t5_2 (n : (Nat)) (a0 : (List Nat)) (a1 : (Int)) : Int := (F12_1 n (F10_0 n (Go.Sx.subS a0 0 (Int.toNat (t5_0 a0))) (Go.Sx.wrapA Go.IntKind.i64 a1)) (Go.Sx.wrapA Go.IntKind.i64 a1))
noncomputable def c5_3 (n : (Nat)) (a0 : (List Nat)) (a1 : (Int)) : Bool := (Go.Sx.eqI (F10_1 n (Go.Sx.subS a0 0 (Int.toNat (t5_0 a0))) (Go.Sx.wrapA Go.IntKind.i64 a1)) 0)
noncomputable def c5_4 (n : (Nat)) (a0 : (List Nat)) (a1 : (Int)) : Bool := (Go.Sx.eqI (↑(List.length (F10_0 n (Go.Sx.subS a0 0 (Int.toNat (t5_0 a0))) (Go.Sx.wrapA Go.IntKind.i64 a1))) : Int) (Go.Sx.wrapA Go.IntKind.i64 (Int.add (↑(List.length (Go.Sx.subS a0 0 (Int.toNat (t5_0 a0)))) : Int) 4)))
noncomputable def F5 (n : Nat) (a0 : List Nat) (a1 : Int) : Option (Bool) := (bif (Option.isSome (F9 n)) then (bif (!F9_0 n) then (some false) else (bif (!Go.Sx.ltI (t5_0 a0) 0) then (bif (Go.Sx.leB (Int.toNat (t5_0 a0)) (List.length a0)) then (bif (Option.isSome (F10 n (Go.Sx.subS a0 0 (Int.toNat (t5_0 a0))) (Go.Sx.wrapA Go.IntKind.i64 a1))) then (bif (Option.isSome (F12 n (F10_0 n (Go.Sx.subS a0 0 (Int.toNat (t5_0 a0))) (Go.Sx.wrapA Go.IntKind.i64 a1)) (Go.Sx.wrapA Go.IntKind.i64 a1))) then (bif (c5_3 n a0 a1) then (bif (Go.Sx.eqI (t5_2 n a0 a1) 0) then (bif (Go.Sx.strEq (u5_1 n a0 a1) (Go.Sx.subS a0 0 (Int.toNat (t5_0 a0)))) then (some (c5_4 n a0 a1)) else (some false)) else (some false)) else (some false)) else none) else none) else none) else none)) else none)
set_option maxHeartbeats 4000000 in
theorem form5 (n : Nat) (a0 : List Nat) (a1 : Int) (vz : Go.Sx.AV) : Go.Sx.wpS Try.prog Try.f5 [] vz (.st [0, 0, 2, 0, 0, 0, 0, 0] (.use [] (.bool (F9_0 n)) (.st [2, 0, 0] (.br 10 (.st [0, 0, 0, 2, 0, 0, 2, 0] .ans) (.st [0, 2, 0, 0, 0, 2, 2, 2, 2] (.sp 2 (.st [2, 0, 0, 0, 0, 2, 2, 2] (.use [] (.tup [.str (F10_0 n (Go.Sx.subS a0 0 (Int.toNat (t5_0 a0))) (Go.Sx.wrapA Go.IntKind.i64 a1)), .int .i64 (F10_1 n (Go.Sx.subS a0 0 (Int.toNat (t5_0 a0))) (Go.Sx.wrapA Go.IntKind.i64 a1))]) (.st [2, 2, 2, 2, 2, 0, 0, 0, 0, 2, 2, 2] (.use [] (.tup [.str (F12_0 n (F10_0 n (Go.Sx.subS a0 0 (Int.toNat (t5_0 a0))) (Go.Sx.wrapA Go.IntKind.i64 a1)) (Go.Sx.wrapA Go.IntKind.i64 a1)), .int .i64 (F12_1 n (F10_0 n (Go.Sx.subS a0 0 (Int.toNat (t5_0 a0))) (Go.Sx.wrapA Go.IntKind.i64 a1)) (Go.Sx.wrapA Go.IntKind.i64 a1))]) (.st [2, 2, 2, 2, 2, 0, 0, 0, 0, 2, 2, 2] (.br 32 (.st [2, 2, 2, 2] (.br 36 (.st [2, 2, 2, 2, 2] (.br 41 (.st [2, 2, 2, 2, 2, 2, 2, 2, 0, 0, 2] .ans) (.st [2, 2, 2, 2, 2, 2, 2, 2, 0, 0, 2] .ans))) (.st [2, 2, 2, 2, 2, 2, 2, 2, 2, 2, 2, 2, 2, 0, 0, 2] .ans))) (.st [2, 2, 2, 2, 2, 2, 2, 2, 2, 2, 2, 2, 2, 2, 2, 2, 2, 0, 0, 2] .ans))))))))))))) [] (.code body5 (Go.Sx.startA [.str a0, .int .u16 a1] Try.f5) (Go.Sx.laidHeap [])) = (Go.Sx.Fact Try.prog [] 9 [] (.bool (F9_0 n)) ∧ (Go.Sx.BR (!F9_0 n) (vz = .bool false) (Go.Sx.AN (Go.Sx.andB (Go.Sx.andB (!Go.Sx.ltI (t5_0 a0) 0) Bool.true) (Go.Sx.leB (Int.toNat (t5_0 a0)) (List.length a0))) (Go.Sx.Fact Try.prog [] 10 [.str (Go.Sx.subS a0 0 (Int.toNat (t5_0 a0))), .int .i64 (Go.Sx.wrapA Go.IntKind.i64 a1)] (.tup [.str (F10_0 n (Go.Sx.subS a0 0 (Int.toNat (t5_0 a0))) (Go.Sx.wrapA Go.IntKind.i64 a1)), .int .i64 (F10_1 n (Go.Sx.subS a0 0 (Int.toNat (t5_0 a0))) (Go.Sx.wrapA Go.IntKind.i64 a1))]) ∧ (Go.Sx.Fact Try.prog [] 12 [.str (F10_0 n (Go.Sx.subS a0 0 (Int.toNat (t5_0 a0))) (Go.Sx.wrapA Go.IntKind.i64 a1)), .int .i64 (Go.Sx.wrapA Go.IntKind.i64 a1)] (.tup [.str (F12_0 n (F10_0 n (Go.Sx.subS a0 0 (Int.toNat (t5_0 a0))) (Go.Sx.wrapA Go.IntKind.i64 a1)) (Go.Sx.wrapA Go.IntKind.i64 a1)), .int .i64 (F12_1 n (F10_0 n (Go.Sx.subS a0 0 (Int.toNat (t5_0 a0))) (Go.Sx.wrapA Go.IntKind.i64 a1)) (Go.Sx.wrapA Go.IntKind.i64 a1))]) ∧ (Go.Sx.BR (c5_3 n a0 a1) (Go.Sx.BR (Go.Sx.eqI (t5_2 n a0 a1) 0) (Go.Sx.BR (Go.Sx.strEq (u5_1 n a0 a1) (Go.Sx.subS a0 0 (Int.toNat (t5_0 a0)))) (vz = .bool (c5_4 n a0 a1)) (vz = .bool false)) (vz = .bool false)) (vz = .bool false))))))) := by kernel_rfl
set_option maxHeartbeats 4000000 in
theorem run5 (n : Nat) (a0 : List Nat) (a1 : Int)  (r : Bool) (h : F5 n a0 a1 = some r) : Go.Sx.Run Try.prog Try.f5 [] (.bool r) [] (.code body5 (Go.Sx.startA [.str a0, .int .u16 a1] Try.f5) (Go.Sx.laidHeap [])) := by
  exact Go.Sx.wpS_run (L := []) (by kernel_rfl) (form5 n a0 a1 (.bool r)) ((Go.Sx.guard_of fun h0 => (fun h => ⟨fact9 (n) h0, (Go.Sx.br_of (fun h1 => (fun h => by cases h; rfl)) (fun h1 => (Go.Sx.guard_of fun h2 => (Go.Sx.guard_of fun h3 => (fun h => ⟨(Go.Sx.and_t (Go.Sx.and_t h2 rfl) h3), (Go.Sx.guard_of fun h4 => (fun h => ⟨fact10 (n) (Go.Sx.subS a0 0 (Int.toNat (t5_0 a0))) (Go.Sx.wrapA Go.IntKind.i64 a1) h4, (Go.Sx.guard_of fun h5 => (fun h => ⟨fact12 (n) (F10_0 n (Go.Sx.subS a0 0 (Int.toNat (t5_0 a0))) (Go.Sx.wrapA Go.IntKind.i64 a1)) (Go.Sx.wrapA Go.IntKind.i64 a1) h5, (Go.Sx.br_of (fun h6 => (Go.Sx.br_of (fun h7 => (Go.Sx.br_of (fun h8 => (fun h => by cases h; rfl)) (fun h8 => (fun h => by cases h; rfl)))) (fun h7 => (fun h => by cases h; rfl)))) (fun h6 => (fun h => by cases h; rfl))) h⟩)) h⟩)) h⟩))))) h⟩)) h)
noncomputable def body6 : Go.Code := (Try.f6.body).getD .skip
theorem body6_eq : Try.f6.body = some body6 := Go.Sx.some_getD (by kernel_rfl)
noncomputable def t6_0 (a0 : (List Nat)) : Int := (if 1000 < (↑(List.length a0) : Int) then 1000 else (↑(List.length a0) : Int))
noncomputable def t6_1 (a0 : (List Nat)) : Int := (Go.Sx.wrapA Go.IntKind.i64 (Int.add (↑(List.length (Go.Sx.subS a0 0 (Int.toNat (t6_0 a0)))) : Int) 1))
noncomputable def u6_2 (a0 : (List Nat)) (a2 : (Int)) : List Nat := (Go.Sx.subS (Go.Sx.subS a0 0 (Int.toNat (t6_0 a0))) 0 (Int.toNat (Int.tmod (Go.Sx.wrapA Go.IntKind.i64 a2) (t6_1 a0))))
noncomputable def c6_3 (n : (Nat)) (a0 : (List Nat)) (a1 : (Int)) : Bool := (Go.Sx.eqI (F10_1 n (Go.Sx.subS a0 0 (Int.toNat (t6_0 a0))) (Go.Sx.wrapA Go.IntKind.i64 a1)) 0)
noncomputable def c6_4 (n : (Nat)) (a0 : (List Nat)) (a1 : (Int)) (a2 : (Int)) : Bool := (!Go.Sx.ltI (↑(List.length (F10_0 n (Go.Sx.subS a0 0 (Int.toNat (t6_0 a0))) (Go.Sx.wrapA Go.IntKind.i64 a1))) : Int) (↑(List.length (F10_0 n (u6_2 a0 a2) (Go.Sx.wrapA Go.IntKind.i64 a1))) : Int))
noncomputable def c6_5 (n : (Nat)) (a0 : (List Nat)) (a1 : (Int)) (a2 : (Int)) : Bool := (Go.Sx.strEq (Go.Sx.subS (F10_0 n (Go.Sx.subS a0 0 (Int.toNat (t6_0 a0))) (Go.Sx.wrapA Go.IntKind.i64 a1)) 0 (Int.toNat (↑(List.length (F10_0 n (u6_2 a0 a2) (Go.Sx.wrapA Go.IntKind.i64 a1))) : Int))) (F10_0 n (u6_2 a0 a2) (Go.Sx.wrapA Go.IntKind.i64 a1)))
noncomputable def F6 (n : Nat) (a0 : List Nat) (a1 : Int) (a2 : Int) : Option (Bool) := (bif (Option.isSome (F9 n)) then (bif (!F9_0 n) then (some false) else (bif (!Go.Sx.ltI (t6_0 a0) 0) then (bif (Go.Sx.leB (Int.toNat (t6_0 a0)) (List.length a0)) then (bif (!Go.Sx.eqI (t6_1 a0) 0) then (bif (Option.isSome (F10 n (Go.Sx.subS a0 0 (Int.toNat (t6_0 a0))) (Go.Sx.wrapA Go.IntKind.i64 a1))) then (bif (!Go.Sx.ltI (Int.tmod (Go.Sx.wrapA Go.IntKind.i64 a2) (t6_1 a0)) 0) then (bif (Go.Sx.leB (Int.toNat (Int.tmod (Go.Sx.wrapA Go.IntKind.i64 a2) (t6_1 a0))) (List.length (Go.Sx.subS a0 0 (Int.toNat (t6_0 a0))))) then (bif (Option.isSome (F10 n (u6_2 a0 a2) (Go.Sx.wrapA Go.IntKind.i64 a1))) then (bif (c6_3 n a0 a1) then (bif (Go.Sx.eqI (F10_1 n (u6_2 a0 a2) (Go.Sx.wrapA Go.IntKind.i64 a1)) 0) then (bif (c6_4 n a0 a1 a2) then (bif (Go.Sx.leB (Int.toNat (↑(List.length (F10_0 n (u6_2 a0 a2) (Go.Sx.wrapA Go.IntKind.i64 a1))) : Int)) (List.length (F10_0 n (Go.Sx.subS a0 0 (Int.toNat (t6_0 a0))) (Go.Sx.wrapA Go.IntKind.i64 a1)))) then (some (c6_5 n a0 a1 a2)) else none) else (some false)) else (some false)) else (some false)) else none) else none) else none) else none) else none) else none) else none)) else none)
set_option maxHeartbeats 4000000 in
theorem form6 (n : Nat) (a0 : List Nat) (a1 : Int) (a2 : Int) (vz : Go.Sx.AV) : Go.Sx.wpS Try.prog Try.f6 [] vz (.st [0, 0, 2, 0, 0, 0, 0, 0] (.use [] (.bool (F9_0 n)) (.st [2, 0, 0] (.br 13 (.st [0, 0, 0, 2, 0, 0, 2, 0] .ans) (.st [0, 2, 0, 0, 0, 2, 2, 2, 2] (.sp 2 (.st [2, 0, 0, 0, 0, 2, 2, 2, 2, 2] (.sp 2 (.st [2, 0, 0, 0, 0, 2, 2, 2] (.use [] (.tup [.str (F10_0 n (Go.Sx.subS a0 0 (Int.toNat (t6_0 a0))) (Go.Sx.wrapA Go.IntKind.i64 a1)), .int .i64 (F10_1 n (Go.Sx.subS a0 0 (Int.toNat (t6_0 a0))) (Go.Sx.wrapA Go.IntKind.i64 a1))]) (.st [2, 2, 2, 2, 2, 0, 0, 0, 0, 2, 2] (.sp 2 (.st [2, 2] (.use [] (.tup [.str (F10_0 n (u6_2 a0 a2) (Go.Sx.wrapA Go.IntKind.i64 a1)), .int .i64 (F10_1 n (u6_2 a0 a2) (Go.Sx.wrapA Go.IntKind.i64 a1))]) (.st [2, 2, 2, 2, 2, 0, 0, 0, 0, 2, 2, 2] (.br 43 (.st [2, 2, 2, 2] (.br 47 (.st [2, 2, 0, 0, 0, 2, 0, 0, 0, 0, 2, 2, 0, 0, 0, 2, 0, 0, 0, 0, 2, 2, 2, 2, 2, 2] (.br 10 (.st [2, 2, 2] (.sp 2 (.st [2, 2, 2, 2, 0, 0, 2, 0, 2, 0, 0, 2, 0, 2, 2, 0, 0, 2] .ans))) (.st [2, 2, 2, 2, 2, 2, 2, 2, 0, 0, 2, 0, 2, 0, 0, 2, 0, 2, 2, 0, 0, 2] .ans))) (.st [2, 2, 2, 2, 2, 0, 0, 2] .ans))) (.st [2, 2, 2, 2, 2, 2, 2, 2, 2, 0, 0, 2] .ans))))))))))))))))) [] (.code body6 (Go.Sx.startA [.str a0, .int .u16 a1, .int .u16 a2] Try.f6) (Go.Sx.laidHeap [])) = (Go.Sx.Fact Try.prog [] 9 [] (.bool (F9_0 n)) ∧ (Go.Sx.BR (!F9_0 n) (vz = .bool false) (Go.Sx.AN (Go.Sx.andB (Go.Sx.andB (!Go.Sx.ltI (t6_0 a0) 0) Bool.true) (Go.Sx.leB (Int.toNat (t6_0 a0)) (List.length a0))) (Go.Sx.AN (!Go.Sx.eqI (t6_1 a0) 0) (Go.Sx.Fact Try.prog [] 10 [.str (Go.Sx.subS a0 0 (Int.toNat (t6_0 a0))), .int .i64 (Go.Sx.wrapA Go.IntKind.i64 a1)] (.tup [.str (F10_0 n (Go.Sx.subS a0 0 (Int.toNat (t6_0 a0))) (Go.Sx.wrapA Go.IntKind.i64 a1)), .int .i64 (F10_1 n (Go.Sx.subS a0 0 (Int.toNat (t6_0 a0))) (Go.Sx.wrapA Go.IntKind.i64 a1))]) ∧ (Go.Sx.AN (Go.Sx.andB (Go.Sx.andB (!Go.Sx.ltI (Int.tmod (Go.Sx.wrapA Go.IntKind.i64 a2) (t6_1 a0)) 0) Bool.true) (Go.Sx.leB (Int.toNat (Int.tmod (Go.Sx.wrapA Go.IntKind.i64 a2) (t6_1 a0))) (List.length (Go.Sx.subS a0 0 (Int.toNat (t6_0 a0)))))) (Go.Sx.Fact Try.prog [] 10 [.str (u6_2 a0 a2), .int .i64 (Go.Sx.wrapA Go.IntKind.i64 a1)] (.tup [.str (F10_0 n (u6_2 a0 a2) (Go.Sx.wrapA Go.IntKind.i64 a1)), .int .i64 (F10_1 n (u6_2 a0 a2) (Go.Sx.wrapA Go.IntKind.i64 a1))]) ∧ (Go.Sx.BR (c6_3 n a0 a1) (Go.Sx.BR (Go.Sx.eqI (F10_1 n (u6_2 a0 a2) (Go.Sx.wrapA Go.IntKind.i64 a1)) 0) (Go.Sx.BR (c6_4 n a0 a1 a2) (Go.Sx.AN (Go.Sx.leB (Int.toNat (↑(List.length (F10_0 n (u6_2 a0 a2) (Go.Sx.wrapA Go.IntKind.i64 a1))) : Int)) (List.length (F10_0 n (Go.Sx.subS a0 0 (Int.toNat (t6_0 a0))) (Go.Sx.wrapA Go.IntKind.i64 a1)))) (vz = .bool (c6_5 n a0 a1 a2))) (vz = .bool false)) (vz = .bool false)) (vz = .bool false))))))))) := by kernel_rfl
set_option maxHeartbeats 4000000 in
theorem run6 (n : Nat) (a0 : List Nat) (a1 : Int) (a2 : Int)  (r : Bool) (h : F6 n a0 a1 a2 = some r) : Go.Sx.Run Try.prog Try.f6 [] (.bool r) [] (.code body6 (Go.Sx.startA [.str a0, .int .u16 a1, .int .u16 a2] Try.f6) (Go.Sx.laidHeap [])) := by
  exact Go.Sx.wpS_run (L := []) (by kernel_rfl) (form6 n a0 a1 a2 (.bool r)) ((Go.Sx.guard_of fun h0 => (fun h => ⟨fact9 (n) h0, (Go.Sx.br_of (fun h1 => (fun h => by cases h; rfl)) (fun h1 => (Go.Sx.guard_of fun h2 => (Go.Sx.guard_of fun h3 => (fun h => ⟨(Go.Sx.and_t (Go.Sx.and_t h2 rfl) h3), (Go.Sx.guard_of fun h4 => (fun h => ⟨h4, (Go.Sx.guard_of fun h5 => (fun h => ⟨fact10 (n) (Go.Sx.subS a0 0 (Int.toNat (t6_0 a0))) (Go.Sx.wrapA Go.IntKind.i64 a1) h5, (Go.Sx.guard_of fun h6 => (Go.Sx.guard_of fun h7 => (fun h => ⟨(Go.Sx.and_t (Go.Sx.and_t h6 rfl) h7), (Go.Sx.guard_of fun h8 => (fun h => ⟨fact10 (n) (u6_2 a0 a2) (Go.Sx.wrapA Go.IntKind.i64 a1) h8, (Go.Sx.br_of (fun h9 => (Go.Sx.br_of (fun h10 => (Go.Sx.br_of (fun h11 => (Go.Sx.guard_of fun h12 => (fun h => ⟨h12, (fun h => by cases h; rfl) h⟩))) (fun h11 => (fun h => by cases h; rfl)))) (fun h10 => (fun h => by cases h; rfl)))) (fun h9 => (fun h => by cases h; rfl))) h⟩)) h⟩))) h⟩)) h⟩)) h⟩))))) h⟩)) h)
noncomputable def body7 : Go.Code := (Try.f7.body).getD .skip
theorem body7_eq : Try.f7.body = some body7 := Go.Sx.some_getD (by kernel_rfl)
noncomputable def t7_0 (a0 : (List Nat)) : Int := (if 1000 < (↑(List.length a0) : Int) then 1000 else (↑(List.length a0) : Int))
noncomputable def c7_1 (n : (Nat)) (a0 : (List Nat)) (a1 : (Int)) : Bool := (!Go.Sx.eqI (F10_1 n (Go.Sx.subS a0 0 (Int.toNat (t7_0 a0))) (Go.Sx.wrapA Go.IntKind.i64 a1)) 0)
noncomputable def c7_2 (n : (Nat)) (a0 : (List Nat)) (a1 : (Int)) : Bool := (!Go.Sx.eqI (↑(List.length (F10_0 n (Go.Sx.subS a0 0 (Int.toNat (t7_0 a0))) (Go.Sx.wrapA Go.IntKind.i64 a1))) : Int) (Go.Sx.wrapA Go.IntKind.i64 (Int.add (↑(List.length (Go.Sx.subS a0 0 (Int.toNat (t7_0 a0)))) : Int) 4)))
noncomputable def t7_3 (n : (Nat)) (a0 : (List Nat)) (a1 : (Int)) : Int := ((↑(List.length (F10_0 n (Go.Sx.subS a0 0 (Int.toNat (t7_0 a0))) (Go.Sx.wrapA Go.IntKind.i64 a1))) : Int))
noncomputable def k7_4 (n : (Nat)) (a0 : (List Nat)) (a1 : (Int)) : Nat := (List.length (F10_0 n (Go.Sx.subS a0 0 (Int.toNat (t7_0 a0))) (Go.Sx.wrapA Go.IntKind.i64 a1)))
noncomputable def l7_5 (n : (Nat)) (a0 : (List Nat)) (a1 : (Int)) : List Go.Sx.AV := (List.map (fun b => Go.Sx.AV.int Go.IntKind.u8 ((b % 256 : Nat) : Int)) (F10_0 n (Go.Sx.subS a0 0 (Int.toNat (t7_0 a0))) (Go.Sx.wrapA Go.IntKind.i64 a1)))
noncomputable def t7_6 (n : (Nat)) (a0 : (List Nat)) (a1 : (Int)) (a2 : (Int)) (a3 : (Int)) : Int := (Go.IntKind.wrap Go.IntKind.u8 (↑(BitVec.toNat (BitVec.ofInt 8 (Go.Sx.intC (l7_5 n a0 a1) (Go.Sx.atI 0 (Int.tmod (Go.Sx.wrapA Go.IntKind.i64 a2) (t7_3 n a0 a1)) 1)) ^^^ BitVec.ofInt 8 (Go.Sx.wrapA Go.IntKind.u8 (Int.add 1 (Int.tmod a3 255))))) : Int))
noncomputable def l7_7 (n : (Nat)) (a0 : (List Nat)) (a1 : (Int)) (a2 : (Int)) (a3 : (Int)) : List Go.Sx.AV := (Go.Sx.putL (List.map (fun b => Go.Sx.AV.int Go.IntKind.u8 ((b % 256 : Nat) : Int)) (F10_0 n (Go.Sx.subS a0 0 (Int.toNat (t7_0 a0))) (Go.Sx.wrapA Go.IntKind.i64 a1))) (Go.Sx.atI 0 (Int.tmod (Go.Sx.wrapA Go.IntKind.i64 a2) (t7_3 n a0 a1)) 1) [Go.Sx.AV.int Go.IntKind.u8 (t7_6 n a0 a1 a2 a3)])
noncomputable def u7_8 (n : (Nat)) (a0 : (List Nat)) (a1 : (Int)) (a2 : (Int)) (a3 : (Int)) : List Nat := (F12_0 n (Go.Sx.strOf (l7_7 n a0 a1 a2 a3) 0 (k7_4 n a0 a1)) (Go.Sx.wrapA Go.IntKind.i64 a1))
noncomputable def c7_9 (n : (Nat)) (a0 : (List Nat)) (a1 : (Int)) (a2 : (Int)) (a3 : (Int)) : Bool := (!Go.Sx.eqI (F12_1 n (Go.Sx.strOf (l7_7 n a0 a1 a2 a3) 0 (k7_4 n a0 a1)) (Go.Sx.wrapA Go.IntKind.i64 a1)) 0)
noncomputable def c7_10 (n : (Nat)) (a0 : (List Nat)) (a1 : (Int)) (a2 : (Int)) (a3 : (Int)) : Bool := (!Go.Sx.eqI (↑(List.length (u7_8 n a0 a1 a2 a3)) : Int) (↑(List.length (Go.Sx.subS a0 0 (Int.toNat (t7_0 a0)))) : Int))
noncomputable def c7_11 (n : (Nat)) (a0 : (List Nat)) (a1 : (Int)) (a2 : (Int)) (a3 : (Int)) : Bool := (Go.Sx.strEq (Go.Sx.subS (u7_8 n a0 a1 a2 a3) 0 (Int.toNat (Go.Sx.wrapA Go.IntKind.i64 (Int.sub (Int.tmod (Go.Sx.wrapA Go.IntKind.i64 a2) (t7_3 n a0 a1)) 4)))) (Go.Sx.subS (Go.Sx.subS a0 0 (Int.toNat (t7_0 a0))) 0 (Int.toNat (Go.Sx.wrapA Go.IntKind.i64 (Int.sub (Int.tmod (Go.Sx.wrapA Go.IntKind.i64 a2) (t7_3 n a0 a1)) 4)))))
noncomputable def c7_12 (n : (Nat)) (a0 : (List Nat)) (a1 : (Int)) (a2 : (Int)) (a3 : (Int)) : Bool := (Go.Sx.eqI (Go.Sx.byteI (u7_8 n a0 a1 a2 a3) (Go.Sx.wrapA Go.IntKind.i64 (Int.sub (Int.tmod (Go.Sx.wrapA Go.IntKind.i64 a2) (t7_3 n a0 a1)) 4))) (Go.IntKind.wrap Go.IntKind.u8 (↑(BitVec.toNat (BitVec.ofInt 8 (Go.Sx.byteI (Go.Sx.subS a0 0 (Int.toNat (t7_0 a0))) (Go.Sx.wrapA Go.IntKind.i64 (Int.sub (Int.tmod (Go.Sx.wrapA Go.IntKind.i64 a2) (t7_3 n a0 a1)) 4))) ^^^ BitVec.ofInt 8 (Go.Sx.wrapA Go.IntKind.u8 (Int.add 1 (Int.tmod a3 255))))) : Int)))
noncomputable def F7 (n : Nat) (a0 : List Nat) (a1 : Int) (a2 : Int) (a3 : Int) : Option (Bool) := (bif (Option.isSome (F9 n)) then (bif (!F9_0 n) then (some false) else (bif (!Go.Sx.ltI (t7_0 a0) 0) then (bif (Go.Sx.leB (Int.toNat (t7_0 a0)) (List.length a0)) then (bif (Option.isSome (F10 n (Go.Sx.subS a0 0 (Int.toNat (t7_0 a0))) (Go.Sx.wrapA Go.IntKind.i64 a1))) then (bif (c7_1 n a0 a1) then (some false) else (bif (c7_2 n a0 a1) then (some false) else (bif (!Go.Sx.eqI (t7_3 n a0 a1) 0) then (bif (Go.Sx.inB (Int.tmod (Go.Sx.wrapA Go.IntKind.i64 a2) (t7_3 n a0 a1)) (k7_4 n a0 a1)) then (bif (Go.Sx.cellB (l7_5 n a0 a1) (Go.Sx.atI 0 (Int.tmod (Go.Sx.wrapA Go.IntKind.i64 a2) (t7_3 n a0 a1)) 1) (Go.Sx.CK.int Go.IntKind.u8)) then (bif (Go.Sx.putOk (l7_5 n a0 a1) (Go.Sx.atI 0 (Int.tmod (Go.Sx.wrapA Go.IntKind.i64 a2) (t7_3 n a0 a1)) 1) 1) then (bif (Go.Sx.strOk (l7_7 n a0 a1 a2 a3) 0 (k7_4 n a0 a1)) then (bif (Option.isSome (F12 n (Go.Sx.strOf (l7_7 n a0 a1 a2 a3) 0 (k7_4 n a0 a1)) (Go.Sx.wrapA Go.IntKind.i64 a1))) then (bif (c7_9 n a0 a1 a2 a3) then (some false) else (bif (c7_10 n a0 a1 a2 a3) then (some false) else (bif (Go.Sx.ltI (Int.tmod (Go.Sx.wrapA Go.IntKind.i64 a2) (t7_3 n a0 a1)) 4) then (some true) else (bif (c7_11 n a0 a1 a2 a3) then (bif (!Go.Sx.ltI (Go.Sx.wrapA Go.IntKind.i64 (Int.sub (Int.tmod (Go.Sx.wrapA Go.IntKind.i64 a2) (t7_3 n a0 a1)) 4)) 0) then (bif (Go.Sx.leB (Int.toNat (Go.Sx.wrapA Go.IntKind.i64 (Int.sub (Int.tmod (Go.Sx.wrapA Go.IntKind.i64 a2) (t7_3 n a0 a1)) 4))) (List.length (u7_8 n a0 a1 a2 a3))) then (bif (Go.Sx.leB (Int.toNat (Go.Sx.wrapA Go.IntKind.i64 (Int.sub (Int.tmod (Go.Sx.wrapA Go.IntKind.i64 a2) (t7_3 n a0 a1)) 4))) (List.length (Go.Sx.subS a0 0 (Int.toNat (t7_0 a0))))) then (bif (Go.Sx.strEq (Go.Sx.subS (u7_8 n a0 a1 a2 a3) 0 (Int.toNat (Go.Sx.wrapA Go.IntKind.i64 (Int.sub (Int.tmod (Go.Sx.wrapA Go.IntKind.i64 a2) (t7_3 n a0 a1)) 4)))) (Go.Sx.subS (Go.Sx.subS a0 0 (Int.toNat (t7_0 a0))) 0 (Int.toNat (Go.Sx.wrapA Go.IntKind.i64 (Int.sub (Int.tmod (Go.Sx.wrapA Go.IntKind.i64 a2) (t7_3 n a0 a1)) 4))))) then (bif (Go.Sx.inB (Go.Sx.wrapA Go.IntKind.i64 (Int.sub (Int.tmod (Go.Sx.wrapA Go.IntKind.i64 a2) (t7_3 n a0 a1)) 4)) (List.length (u7_8 n a0 a1 a2 a3))) then (bif (Go.Sx.inB (Go.Sx.wrapA Go.IntKind.i64 (Int.sub (Int.tmod (Go.Sx.wrapA Go.IntKind.i64 a2) (t7_3 n a0 a1)) 4)) (List.length (Go.Sx.subS a0 0 (Int.toNat (t7_0 a0))))) then (some (c7_12 n a0 a1 a2 a3)) else none) else none) else none) else none) else none) else none) else (bif (!Go.Sx.ltI (Go.Sx.wrapA Go.IntKind.i64 (Int.sub (Int.tmod (Go.Sx.wrapA Go.IntKind.i64 a2) (t7_3 n a0 a1)) 4)) 0) then (bif (Go.Sx.leB (Int.toNat (Go.Sx.wrapA Go.IntKind.i64 (Int.sub (Int.tmod (Go.Sx.wrapA Go.IntKind.i64 a2) (t7_3 n a0 a1)) 4))) (List.length (u7_8 n a0 a1 a2 a3))) then (bif (Go.Sx.leB (Int.toNat (Go.Sx.wrapA Go.IntKind.i64 (Int.sub (Int.tmod (Go.Sx.wrapA Go.IntKind.i64 a2) (t7_3 n a0 a1)) 4))) (List.length (Go.Sx.subS a0 0 (Int.toNat (t7_0 a0))))) then (bif (!Go.Sx.strEq (Go.Sx.subS (u7_8 n a0 a1 a2 a3) 0 (Int.toNat (Go.Sx.wrapA Go.IntKind.i64 (Int.sub (Int.tmod (Go.Sx.wrapA Go.IntKind.i64 a2) (t7_3 n a0 a1)) 4)))) (Go.Sx.subS (Go.Sx.subS a0 0 (Int.toNat (t7_0 a0))) 0 (Int.toNat (Go.Sx.wrapA Go.IntKind.i64 (Int.sub (Int.tmod (Go.Sx.wrapA Go.IntKind.i64 a2) (t7_3 n a0 a1)) 4))))) then (some false) else none) else none) else none) else none))))) else none) else none) else none) else none) else none) else none))) else none) else none) else none)) else none)
set_option maxHeartbeats 4000000 in
theorem form7 (n : Nat) (a0 : List Nat) (a1 : Int) (a2 : Int) (a3 : Int) (vz : Go.Sx.AV) : Go.Sx.wpS Try.prog Try.f7 [] vz (.st [0, 0, 2, 0, 0, 0, 0, 0] (.use [] (.bool (F9_0 n)) (.st [2, 0, 0] (.br 16 (.st [0, 0, 0, 2, 0, 0, 2, 0] .ans) (.st [0, 2, 0, 0, 0, 2, 2, 2, 2] (.sp 2 (.st [2, 0, 0, 0, 0, 2, 2, 2] (.use [] (.tup [.str (F10_0 n (Go.Sx.subS a0 0 (Int.toNat (t7_0 a0))) (Go.Sx.wrapA Go.IntKind.i64 a1)), .int .i64 (F10_1 n (Go.Sx.subS a0 0 (Int.toNat (t7_0 a0))) (Go.Sx.wrapA Go.IntKind.i64 a1))]) (.st [2, 2, 2, 2, 2, 0, 0, 0, 0, 0, 2, 2, 2] (.br 31 (.st [2, 2, 2, 2, 2, 2, 2, 0, 0, 0, 0, 0, 2, 0, 0, 2, 0] .ans) (.st [2, 2, 2, 2, 2, 2, 2, 0, 0] (.br 38 (.st [0, 0, 0, 2, 0, 0, 2, 0] .ans) (.st [0, 2, 0, 0, 0, 2, 2, 2, 2] (.sp 2 (.st [2, 0, 0, 0, 0, 2, 2, 2, 0, 0, 0, 0, 2, 2] (.sp 2 (.sp 2 (.st [2, 2, 2, 2] (.sp 2 (.sp 2 (.st [0, 0, 0, 0, 2] (.sp 2 (.st [2, 2] (.use [] (.tup [.str (F12_0 n (Go.Sx.strOf (l7_7 n a0 a1 a2 a3) 0 (k7_4 n a0 a1)) (Go.Sx.wrapA Go.IntKind.i64 a1)), .int .i64 (F12_1 n (Go.Sx.strOf (l7_7 n a0 a1 a2 a3) 0 (k7_4 n a0 a1)) (Go.Sx.wrapA Go.IntKind.i64 a1))]) (.st [2, 2, 2, 2, 2, 0, 0, 0, 0, 0, 2, 2, 2] (.br 65 (.st [2, 2, 2, 2, 2, 2, 0, 0, 0, 0, 0, 2, 0, 0, 2, 0] .ans) (.st [2, 2, 2, 2, 2, 2, 0, 0] (.br 71 (.st [0, 0, 0, 2, 0, 0, 2, 0] .ans) (.st [0, 2, 0, 0, 0, 0, 2, 2, 0, 0] (.br 73 (.st [0, 0, 0, 2, 0, 0, 2, 0] .ans) (.st [0, 2, 0, 0] (.split (c7_11 n a0 a1 a2 a3) (.dr [.run, .run, .run, .sp 0, .run, .run, .run, .sp 0, .run, .lit (.run) true, .run, .run, .run, .sp 0, .run, .run, .run, .sp 0, .run, .run, .run, .run] (.st [2, 2, 2, 0, 0, 2] .ans)) (.dr [.run, .run, .run, .sp 0, .run, .run, .run, .sp 0, .run, .lit (.run) false, .run, .run, .run, .run, .run, .run, .run, .run, .run, .run, .run, .run] (.st [2, 2, 2, 0, 0, 2] .ans)))))))))))))))))))))))))))))))))) [] (.code body7 (Go.Sx.startA [.str a0, .int .u16 a1, .int .u16 a2, .int .u8 a3] Try.f7) (Go.Sx.laidHeap [])) = (Go.Sx.Fact Try.prog [] 9 [] (.bool (F9_0 n)) ∧ (Go.Sx.BR (!F9_0 n) (vz = .bool false) (Go.Sx.AN (Go.Sx.andB (Go.Sx.andB (!Go.Sx.ltI (t7_0 a0) 0) Bool.true) (Go.Sx.leB (Int.toNat (t7_0 a0)) (List.length a0))) (Go.Sx.Fact Try.prog [] 10 [.str (Go.Sx.subS a0 0 (Int.toNat (t7_0 a0))), .int .i64 (Go.Sx.wrapA Go.IntKind.i64 a1)] (.tup [.str (F10_0 n (Go.Sx.subS a0 0 (Int.toNat (t7_0 a0))) (Go.Sx.wrapA Go.IntKind.i64 a1)), .int .i64 (F10_1 n (Go.Sx.subS a0 0 (Int.toNat (t7_0 a0))) (Go.Sx.wrapA Go.IntKind.i64 a1))]) ∧ (Go.Sx.BR (c7_1 n a0 a1) (vz = .bool false) (Go.Sx.BR (c7_2 n a0 a1) (vz = .bool false) (Go.Sx.AN (!Go.Sx.eqI (t7_3 n a0 a1) 0) (Go.Sx.AN (Go.Sx.inB (Int.tmod (Go.Sx.wrapA Go.IntKind.i64 a2) (t7_3 n a0 a1)) (k7_4 n a0 a1)) (Go.Sx.AN (Go.Sx.cellB (l7_5 n a0 a1) (Go.Sx.atI 0 (Int.tmod (Go.Sx.wrapA Go.IntKind.i64 a2) (t7_3 n a0 a1)) 1) (Go.Sx.CK.int Go.IntKind.u8)) (Go.Sx.AN (Go.Sx.inB (Int.tmod (Go.Sx.wrapA Go.IntKind.i64 a2) (t7_3 n a0 a1)) (k7_4 n a0 a1)) (Go.Sx.AN (Go.Sx.putOk (l7_5 n a0 a1) (Go.Sx.atI 0 (Int.tmod (Go.Sx.wrapA Go.IntKind.i64 a2) (t7_3 n a0 a1)) 1) 1) (Go.Sx.AN (Go.Sx.strOk (l7_7 n a0 a1 a2 a3) 0 (k7_4 n a0 a1)) (Go.Sx.Fact Try.prog [] 12 [.str (Go.Sx.strOf (l7_7 n a0 a1 a2 a3) 0 (k7_4 n a0 a1)), .int .i64 (Go.Sx.wrapA Go.IntKind.i64 a1)] (.tup [.str (F12_0 n (Go.Sx.strOf (l7_7 n a0 a1 a2 a3) 0 (k7_4 n a0 a1)) (Go.Sx.wrapA Go.IntKind.i64 a1)), .int .i64 (F12_1 n (Go.Sx.strOf (l7_7 n a0 a1 a2 a3) 0 (k7_4 n a0 a1)) (Go.Sx.wrapA Go.IntKind.i64 a1))]) ∧ (Go.Sx.BR (c7_9 n a0 a1 a2 a3) (vz = .bool false) (Go.Sx.BR (c7_10 n a0 a1 a2 a3) (vz = .bool false) (Go.Sx.BR (Go.Sx.ltI (Int.tmod (Go.Sx.wrapA Go.IntKind.i64 a2) (t7_3 n a0 a1)) 4) (vz = .bool true) (Go.Sx.BR (c7_11 n a0 a1 a2 a3) (Go.Sx.AN (Go.Sx.andB (Go.Sx.andB (Go.Sx.andB (!Go.Sx.ltI (Go.Sx.wrapA Go.IntKind.i64 (Int.sub (Int.tmod (Go.Sx.wrapA Go.IntKind.i64 a2) (t7_3 n a0 a1)) 4)) 0) Bool.true) (Go.Sx.leB (Int.toNat (Go.Sx.wrapA Go.IntKind.i64 (Int.sub (Int.tmod (Go.Sx.wrapA Go.IntKind.i64 a2) (t7_3 n a0 a1)) 4))) (List.length (u7_8 n a0 a1 a2 a3)))) (Go.Sx.andB (Go.Sx.andB (Go.Sx.andB (!Go.Sx.ltI (Go.Sx.wrapA Go.IntKind.i64 (Int.sub (Int.tmod (Go.Sx.wrapA Go.IntKind.i64 a2) (t7_3 n a0 a1)) 4)) 0) Bool.true) (Go.Sx.leB (Int.toNat (Go.Sx.wrapA Go.IntKind.i64 (Int.sub (Int.tmod (Go.Sx.wrapA Go.IntKind.i64 a2) (t7_3 n a0 a1)) 4))) (List.length (Go.Sx.subS a0 0 (Int.toNat (t7_0 a0)))))) (Go.Sx.andB (Go.Sx.strEq (Go.Sx.subS (u7_8 n a0 a1 a2 a3) 0 (Int.toNat (Go.Sx.wrapA Go.IntKind.i64 (Int.sub (Int.tmod (Go.Sx.wrapA Go.IntKind.i64 a2) (t7_3 n a0 a1)) 4)))) (Go.Sx.subS (Go.Sx.subS a0 0 (Int.toNat (t7_0 a0))) 0 (Int.toNat (Go.Sx.wrapA Go.IntKind.i64 (Int.sub (Int.tmod (Go.Sx.wrapA Go.IntKind.i64 a2) (t7_3 n a0 a1)) 4))))) (Go.Sx.andB (Go.Sx.inB (Go.Sx.wrapA Go.IntKind.i64 (Int.sub (Int.tmod (Go.Sx.wrapA Go.IntKind.i64 a2) (t7_3 n a0 a1)) 4)) (List.length (u7_8 n a0 a1 a2 a3))) (Go.Sx.andB (Go.Sx.inB (Go.Sx.wrapA Go.IntKind.i64 (Int.sub (Int.tmod (Go.Sx.wrapA Go.IntKind.i64 a2) (t7_3 n a0 a1)) 4)) (List.length (Go.Sx.subS a0 0 (Int.toNat (t7_0 a0))))) Bool.true))))) (vz = .bool (c7_12 n a0 a1 a2 a3))) (Go.Sx.AN (Go.Sx.andB (Go.Sx.andB (Go.Sx.andB (!Go.Sx.ltI (Go.Sx.wrapA Go.IntKind.i64 (Int.sub (Int.tmod (Go.Sx.wrapA Go.IntKind.i64 a2) (t7_3 n a0 a1)) 4)) 0) Bool.true) (Go.Sx.leB (Int.toNat (Go.Sx.wrapA Go.IntKind.i64 (Int.sub (Int.tmod (Go.Sx.wrapA Go.IntKind.i64 a2) (t7_3 n a0 a1)) 4))) (List.length (u7_8 n a0 a1 a2 a3)))) (Go.Sx.andB (Go.Sx.andB (Go.Sx.andB (!Go.Sx.ltI (Go.Sx.wrapA Go.IntKind.i64 (Int.sub (Int.tmod (Go.Sx.wrapA Go.IntKind.i64 a2) (t7_3 n a0 a1)) 4)) 0) Bool.true) (Go.Sx.leB (Int.toNat (Go.Sx.wrapA Go.IntKind.i64 (Int.sub (Int.tmod (Go.Sx.wrapA Go.IntKind.i64 a2) (t7_3 n a0 a1)) 4))) (List.length (Go.Sx.subS a0 0 (Int.toNat (t7_0 a0)))))) (Go.Sx.andB (!Go.Sx.strEq (Go.Sx.subS (u7_8 n a0 a1 a2 a3) 0 (Int.toNat (Go.Sx.wrapA Go.IntKind.i64 (Int.sub (Int.tmod (Go.Sx.wrapA Go.IntKind.i64 a2) (t7_3 n a0 a1)) 4)))) (Go.Sx.subS (Go.Sx.subS a0 0 (Int.toNat (t7_0 a0))) 0 (Int.toNat (Go.Sx.wrapA Go.IntKind.i64 (Int.sub (Int.tmod (Go.Sx.wrapA Go.IntKind.i64 a2) (t7_3 n a0 a1)) 4))))) Bool.true))) (vz = .bool false))))))))))))))))))) := by kernel_rfl
set_option maxHeartbeats 4000000 in
theorem run7 (n : Nat) (a0 : List Nat) (a1 : Int) (a2 : Int) (a3 : Int)  (r : Bool) (h : F7 n a0 a1 a2 a3 = some r) : Go.Sx.Run Try.prog Try.f7 [] (.bool r) [] (.code body7 (Go.Sx.startA [.str a0, .int .u16 a1, .int .u16 a2, .int .u8 a3] Try.f7) (Go.Sx.laidHeap [])) := by
  exact Go.Sx.wpS_run (L := []) (by kernel_rfl) (form7 n a0 a1 a2 a3 (.bool r)) ((Go.Sx.guard_of fun h0 => (fun h => ⟨fact9 (n) h0, (Go.Sx.br_of (fun h1 => (fun h => by cases h; rfl)) (fun h1 => (Go.Sx.guard_of fun h2 => (Go.Sx.guard_of fun h3 => (fun h => ⟨(Go.Sx.and_t (Go.Sx.and_t h2 rfl) h3), (Go.Sx.guard_of fun h4 => (fun h => ⟨fact10 (n) (Go.Sx.subS a0 0 (Int.toNat (t7_0 a0))) (Go.Sx.wrapA Go.IntKind.i64 a1) h4, (Go.Sx.br_of (fun h5 => (fun h => by cases h; rfl)) (fun h5 => (Go.Sx.br_of (fun h6 => (fun h => by cases h; rfl)) (fun h6 => (Go.Sx.guard_of fun h7 => (fun h => ⟨h7, (Go.Sx.guard_of fun h8 => (fun h => ⟨h8, (Go.Sx.guard_of fun h9 => (fun h => ⟨h9, (fun h => ⟨h8, (Go.Sx.guard_of fun h10 => (fun h => ⟨h10, (Go.Sx.guard_of fun h11 => (fun h => ⟨h11, (Go.Sx.guard_of fun h12 => (fun h => ⟨fact12 (n) (Go.Sx.strOf (l7_7 n a0 a1 a2 a3) 0 (k7_4 n a0 a1)) (Go.Sx.wrapA Go.IntKind.i64 a1) h12, (Go.Sx.br_of (fun h13 => (fun h => by cases h; rfl)) (fun h13 => (Go.Sx.br_of (fun h14 => (fun h => by cases h; rfl)) (fun h14 => (Go.Sx.br_of (fun h15 => (fun h => by cases h; rfl)) (fun h15 => (Go.Sx.br_of (fun h16 => (Go.Sx.guard_of fun h17 => (Go.Sx.guard_of fun h18 => (Go.Sx.guard_of fun h19 => (Go.Sx.guard_of fun h20 => (Go.Sx.guard_of fun h21 => (Go.Sx.guard_of fun h22 => (fun h => ⟨(Go.Sx.and_t (Go.Sx.and_t (Go.Sx.and_t h17 rfl) h18) (Go.Sx.and_t (Go.Sx.and_t (Go.Sx.and_t h17 rfl) h19) (Go.Sx.and_t h20 (Go.Sx.and_t h21 (Go.Sx.and_t h22 rfl))))), (fun h => by cases h; rfl) h⟩)))))))) (fun h16 => (Go.Sx.guard_of fun h23 => (Go.Sx.guard_of fun h24 => (Go.Sx.guard_of fun h25 => (Go.Sx.guard_of fun h26 => (fun h => ⟨(Go.Sx.and_t (Go.Sx.and_t (Go.Sx.and_t h23 rfl) h24) (Go.Sx.and_t (Go.Sx.and_t (Go.Sx.and_t h23 rfl) h25) (Go.Sx.and_t h26 rfl))), (fun h => by cases h; rfl) h⟩))))))))))))) h⟩)) h⟩)) h⟩)) h⟩) h⟩)) h⟩)) h⟩)))))) h⟩)) h⟩))))) h⟩)) h)
noncomputable def body8 : Go.Code := (Try.f8.body).getD .skip
theorem body8_eq : Try.f8.body = some body8 := Go.Sx.some_getD (by kernel_rfl)
noncomputable def u8_0 (n : (Nat)) : List Nat := (F12_0 n [97, 98, 99, 100] (0))
noncomputable def t8_1 (n : (Nat)) : Int := (F12_1 n [97, 98, 99, 100] (0))
noncomputable def c8_2 (n : (Nat)) : Bool := (Go.Sx.eqI (F10_1 n (F15_0 [97] (65537)) ((-1))) 3)
noncomputable def c8_3 (n : (Nat)) : Bool := (Go.Sx.eqI (F10_1 n (F15_0 [97] (65533)) ((-1))) 2)
noncomputable def c8_4 (n : (Nat)) : Bool := (Go.Sx.eqI (F10_1 n (F15_0 [97] (65533)) (0)) 3)
noncomputable def c8_5 (n : (Nat)) : Bool := (Go.Sx.eqI (F10_1 n (F15_0 [97] (65532)) (65535)) 0)
noncomputable def c8_6 (n : (Nat)) : Bool := (Go.Sx.eqI (↑(List.length (F10_0 n (F15_0 [97] (65532)) (65535))) : Int) 65536)
noncomputable def c8_7 (n : (Nat)) : Bool := (Go.Sx.eqI (F12_1 n (F15_0 [97] (65537)) ((-1))) 3)
noncomputable def c8_8 (n : (Nat)) : Bool := (Go.Sx.eqI (F12_1 n [97, 98, 99] (0)) 5)
noncomputable def F8 (n : Nat)  : Option (Bool) := (bif (Option.isSome (F9 n)) then (bif (!F9_0 n) then (some false) else (bif (Option.isSome (F15 [97] 65537)) then (bif (Option.isSome (F10 n (F15_0 [97] 65537) (-1))) then (bif (Option.isSome (F15 [97] 65533)) then (bif (Option.isSome (F10 n (F15_0 [97] 65533) (-1))) then (bif (Option.isSome (F10 n (F15_0 [97] 65533) 0)) then (bif (Option.isSome (F15 [97] 65532)) then (bif (Option.isSome (F10 n (F15_0 [97] 65532) 65535)) then (bif (Option.isSome (F12 n (F15_0 [97] 65537) (-1))) then (bif (Option.isSome (F12 n [] (-1))) then (bif (Option.isSome (F12 n [97, 98, 99] 0)) then (bif (Option.isSome (F12 n [97, 98, 99, 100] 0)) then (bif (c8_2 n) then (bif (c8_3 n) then (bif (c8_4 n) then (bif (c8_5 n) then (bif (c8_6 n) then (bif (c8_7 n) then (bif (Go.Sx.eqI (F12_1 n [] ((-1))) 2) then (bif (c8_8 n) then (bif (Go.Sx.eqI (t8_1 n) 0) then (some (Go.Sx.strEq (u8_0 n) (List.map UInt8.toNat (Array.toList (ByteArray.data { data := #[] }))))) else (some false)) else (some false)) else (some false)) else (some false)) else (some false)) else (some false)) else (some false)) else (some false)) else (some false)) else none) else none) else none) else none) else none) else none) else none) else none) else none) else none) else none)) else none)
set_option maxHeartbeats 4000000 in
theorem form8 (n : Nat)  (vz : Go.Sx.AV) : Go.Sx.wpS Try.prog Try.f8 [] vz (.st [0, 0, 2, 0, 0, 0, 0, 0] (.use [] (.bool (F9_0 n)) (.st [2, 0, 0] (.br 18 (.st [0, 0, 0, 2, 0, 0, 2, 0] .ans) (.st [0, 2, 0, 0, 0] (.use [] (.str (F15_0 [97] (65537))) (.use [] (.tup [.str (F10_0 n (F15_0 [97] (65537)) ((-1))), .int .i64 (F10_1 n (F15_0 [97] (Int.ofNat 65537)) (Int.negSucc 0))]) (.st [2, 2, 2, 2, 2, 0, 0, 0, 0] (.use [] (.str (F15_0 [97] (65533))) (.use [] (.tup [.str (F10_0 n (F15_0 [97] (65533)) ((-1))), .int .i64 (F10_1 n (F15_0 [97] (Int.ofNat 65533)) (Int.negSucc 0))]) (.st [2, 2, 2, 2, 2, 0, 0, 0, 0] (.use [] (.str (F15_0 [97] (65533))) (.use [] (.tup [.str (F10_0 n (F15_0 [97] (65533)) (0)), .int .i64 (F10_1 n (F15_0 [97] (Int.ofNat 65533)) (Int.ofNat 0))]) (.st [2, 2, 2, 2, 2, 0, 0, 0, 0] (.use [] (.str (F15_0 [97] (65532))) (.use [] (.tup [.str (F10_0 n (F15_0 [97] (65532)) (65535)), .int .i64 (F10_1 n (F15_0 [97] (Int.ofNat 65532)) (Int.ofNat 65535))]) (.st [2, 2, 2, 2, 2, 0, 0, 0, 0] (.use [] (.str (F15_0 [97] (65537))) (.use [] (.tup [.str (F12_0 n (F15_0 [97] (65537)) ((-1))), .int .i64 (F12_1 n (F15_0 [97] (Int.ofNat 65537)) (Int.negSucc 0))]) (.st [2, 2, 2, 2, 2, 0, 0, 0, 0] (.use [] (.tup [.str (F12_0 n [] ((-1))), .int .i64 (F12_1 n [] (Int.negSucc 0))]) (.st [2, 2, 2, 2, 2, 0, 0, 0, 0] (.use [] (.tup [.str (F12_0 n [97, 98, 99] (0)), .int .i64 (F12_1 n [97, 98, 99] (Int.ofNat 0))]) (.st [2, 2, 2, 2, 2, 0, 0, 0, 0] (.use [] (.tup [.str (F12_0 n [97, 98, 99, 100] (0)), .int .i64 (F12_1 n [97, 98, 99, 100] (Int.ofNat 0))]) (.st [2, 2, 2, 2, 2, 0, 0, 0, 0] (.use [] (.bool (F9_0 n)) (.st [2] (.br 57 (.st [2, 2, 2, 2] (.br 61 (.st [2, 2, 2, 2] (.br 65 (.st [2, 2, 2, 2] (.br 69 (.st [2, 2, 2, 2] (.br 73 (.st [2, 2, 2, 2, 2] (.br 78 (.st [2, 2, 2, 2] (.br 82 (.st [2, 2, 2, 2] (.br 86 (.st [2, 2, 2, 2] (.br 90 (.st [2, 2, 2, 2] (.br 94 (.st [2, 2, 2, 2, 0, 0, 2] .ans) (.st [2, 2, 2, 2, 0, 0, 2] .ans))) (.st [2, 2, 2, 2, 2, 2, 2, 2, 0, 0, 2] .ans))) (.st [2, 2, 2, 2, 2, 2, 2, 2, 2, 2, 2, 2, 0, 0, 2] .ans))) (.st [2, 2, 2, 2, 2, 2, 2, 2, 2, 2, 2, 2, 2, 2, 2, 2, 0, 0, 2] .ans))) (.st [2, 2, 2, 2, 2, 2, 2, 2, 2, 2, 2, 2, 2, 2, 2, 2, 2, 2, 2, 2, 0, 0, 2] .ans))) (.st [2, 2, 2, 2, 2, 2, 2, 2, 2, 2, 2, 2, 2, 2, 2, 2, 2, 2, 2, 2, 2, 2, 2, 2, 2, 0, 0, 2] .ans))) (.st [2, 2, 2, 2, 2, 2, 2, 2, 2, 2, 2, 2, 2, 2, 2, 2, 2, 2, 2, 2, 2, 2, 2, 2, 2, 2, 2, 2, 2, 0, 0, 2] .ans))) (.st [2, 2, 2, 2, 2, 2, 2, 2, 2, 2, 2, 2, 2, 2, 2, 2, 2, 2, 2, 2, 2, 2, 2, 2, 2, 2, 2, 2, 2, 2, 2, 2, 2, 0, 0, 2] .ans))) (.st [2, 2, 2, 2, 2, 2, 2, 2, 2, 2, 2, 2, 2, 2, 2, 2, 2, 2, 2, 2, 2, 2, 2, 2, 2, 2, 2, 2, 2, 2, 2, 2, 2, 2, 2, 2, 2, 0, 0, 2] .ans))) .dead))))))))))))))))))))))))))))) [] (.code body8 (Go.Sx.startA [] Try.f8) (Go.Sx.laidHeap [])) = (Go.Sx.Fact Try.prog [] 9 [] (.bool (F9_0 n)) ∧ (Go.Sx.BR (!F9_0 n) (vz = .bool false) (Go.Sx.Fact Try.prog [] 15 [.str [97], .int .i64 (.ofNat 65537)] (.str (F15_0 [97] (65537))) ∧ (Go.Sx.Fact Try.prog [] 10 [.str (F15_0 [97] (65537)), .int .i64 (.negSucc 0)] (.tup [.str (F10_0 n (F15_0 [97] (65537)) ((-1))), .int .i64 (F10_1 n (F15_0 [97] (Int.ofNat 65537)) (Int.negSucc 0))]) ∧ (Go.Sx.Fact Try.prog [] 15 [.str [97], .int .i64 (.ofNat 65533)] (.str (F15_0 [97] (65533))) ∧ (Go.Sx.Fact Try.prog [] 10 [.str (F15_0 [97] (65533)), .int .i64 (.negSucc 0)] (.tup [.str (F10_0 n (F15_0 [97] (65533)) ((-1))), .int .i64 (F10_1 n (F15_0 [97] (Int.ofNat 65533)) (Int.negSucc 0))]) ∧ (Go.Sx.Fact Try.prog [] 15 [.str [97], .int .i64 (.ofNat 65533)] (.str (F15_0 [97] (65533))) ∧ (Go.Sx.Fact Try.prog [] 10 [.str (F15_0 [97] (65533)), .int .i64 (.ofNat 0)] (.tup [.str (F10_0 n (F15_0 [97] (65533)) (0)), .int .i64 (F10_1 n (F15_0 [97] (Int.ofNat 65533)) (Int.ofNat 0))]) ∧ (Go.Sx.Fact Try.prog [] 15 [.str [97], .int .i64 (.ofNat 65532)] (.str (F15_0 [97] (65532))) ∧ (Go.Sx.Fact Try.prog [] 10 [.str (F15_0 [97] (65532)), .int .i64 (.ofNat 65535)] (.tup [.str (F10_0 n (F15_0 [97] (65532)) (65535)), .int .i64 (F10_1 n (F15_0 [97] (Int.ofNat 65532)) (Int.ofNat 65535))]) ∧ (Go.Sx.Fact Try.prog [] 15 [.str [97], .int .i64 (.ofNat 65537)] (.str (F15_0 [97] (65537))) ∧ (Go.Sx.Fact Try.prog [] 12 [.str (F15_0 [97] (65537)), .int .i64 (.negSucc 0)] (.tup [.str (F12_0 n (F15_0 [97] (65537)) ((-1))), .int .i64 (F12_1 n (F15_0 [97] (Int.ofNat 65537)) (Int.negSucc 0))]) ∧ (Go.Sx.Fact Try.prog [] 12 [.str [], .int .i64 (.negSucc 0)] (.tup [.str (F12_0 n [] ((-1))), .int .i64 (F12_1 n [] (Int.negSucc 0))]) ∧ (Go.Sx.Fact Try.prog [] 12 [.str [97, 98, 99], .int .i64 (.ofNat 0)] (.tup [.str (F12_0 n [97, 98, 99] (0)), .int .i64 (F12_1 n [97, 98, 99] (Int.ofNat 0))]) ∧ (Go.Sx.Fact Try.prog [] 12 [.str [97, 98, 99, 100], .int .i64 (.ofNat 0)] (.tup [.str (F12_0 n [97, 98, 99, 100] (0)), .int .i64 (F12_1 n [97, 98, 99, 100] (Int.ofNat 0))]) ∧ (Go.Sx.Fact Try.prog [] 9 [] (.bool (F9_0 n)) ∧ (Go.Sx.BR (F9_0 n) (Go.Sx.BR (c8_2 n) (Go.Sx.BR (c8_3 n) (Go.Sx.BR (c8_4 n) (Go.Sx.BR (c8_5 n) (Go.Sx.BR (c8_6 n) (Go.Sx.BR (c8_7 n) (Go.Sx.BR (Go.Sx.eqI (F12_1 n [] ((-1))) 2) (Go.Sx.BR (c8_8 n) (Go.Sx.BR (Go.Sx.eqI (t8_1 n) 0) (vz = .bool (Go.Sx.strEq (u8_0 n) (List.map UInt8.toNat (Array.toList (ByteArray.data { data := #[] }))))) (vz = .bool false)) (vz = .bool false)) (vz = .bool false)) (vz = .bool false)) (vz = .bool false)) (vz = .bool false)) (vz = .bool false)) (vz = .bool false)) (vz = .bool false)) False))))))))))))))))) := by kernel_rfl
set_option maxHeartbeats 4000000 in
theorem run8 (n : Nat)   (r : Bool) (h : F8 n  = some r) : Go.Sx.Run Try.prog Try.f8 [] (.bool r) [] (.code body8 (Go.Sx.startA [] Try.f8) (Go.Sx.laidHeap [])) := by
  exact Go.Sx.wpS_run (L := []) (by kernel_rfl) (form8 n  (.bool r)) ((Go.Sx.guard_of fun h0 => (fun h => ⟨fact9 (n) h0, (Go.Sx.br_of (fun h1 => (fun h => by cases h; rfl)) (fun h1 => (Go.Sx.guard_of fun h2 => (fun h => ⟨fact15 ([97]) (65537) h2, (Go.Sx.guard_of fun h3 => (fun h => ⟨(Eq.mp (by kernel_rfl) (fact10 (n) (F15_0 [97] (65537)) ((-1)) h3)), (Go.Sx.guard_of fun h4 => (fun h => ⟨fact15 ([97]) (65533) h4, (Go.Sx.guard_of fun h5 => (fun h => ⟨(Eq.mp (by kernel_rfl) (fact10 (n) (F15_0 [97] (65533)) ((-1)) h5)), (fun h => ⟨fact15 ([97]) (65533) h4, (Go.Sx.guard_of fun h6 => (fun h => ⟨fact10 (n) (F15_0 [97] (65533)) (0) h6, (Go.Sx.guard_of fun h7 => (fun h => ⟨fact15 ([97]) (65532) h7, (Go.Sx.guard_of fun h8 => (fun h => ⟨fact10 (n) (F15_0 [97] (65532)) (65535) h8, (fun h => ⟨fact15 ([97]) (65537) h2, (Go.Sx.guard_of fun h9 => (fun h => ⟨(Eq.mp (by kernel_rfl) (fact12 (n) (F15_0 [97] (65537)) ((-1)) h9)), (Go.Sx.guard_of fun h10 => (fun h => ⟨(Eq.mp (by kernel_rfl) (fact12 (n) ([]) ((-1)) h10)), (Go.Sx.guard_of fun h11 => (fun h => ⟨fact12 (n) ([97, 98, 99]) (0) h11, (Go.Sx.guard_of fun h12 => (fun h => ⟨fact12 (n) ([97, 98, 99, 100]) (0) h12, (fun h => ⟨fact9 (n) h0, (fun h => ⟨fun _ => (Go.Sx.br_of (fun h13 => (Go.Sx.br_of (fun h14 => (Go.Sx.br_of (fun h15 => (Go.Sx.br_of (fun h16 => (Go.Sx.br_of (fun h17 => (Go.Sx.br_of (fun h18 => (Go.Sx.br_of (fun h19 => (Go.Sx.br_of (fun h20 => (Go.Sx.br_of (fun h21 => (fun h => by cases h; rfl)) (fun h21 => (fun h => by cases h; rfl)))) (fun h20 => (fun h => by cases h; rfl)))) (fun h19 => (fun h => by cases h; rfl)))) (fun h18 => (fun h => by cases h; rfl)))) (fun h17 => (fun h => by cases h; rfl)))) (fun h16 => (fun h => by cases h; rfl)))) (fun h15 => (fun h => by cases h; rfl)))) (fun h14 => (fun h => by cases h; rfl)))) (fun h13 => (fun h => by cases h; rfl))) h, fun q => Go.Sx.tf (by have q := h1; simpa using q) q⟩) h⟩) h⟩)) h⟩)) h⟩)) h⟩)) h⟩) h⟩)) h⟩)) h⟩)) h⟩) h⟩)) h⟩)) h⟩)) h⟩)))) h⟩)) h)


set_option maxRecDepth 100000
theorem cT {α : Type} {b : Bool} {x y : α} (h : b = true) : (bif b then x else y) = x := by rw [h]; rfl
theorem cF {α : Type} {b : Bool} {x y : α} (h : b = false) : (bif b then x else y) = y := by rw [h]; rfl
theorem ltT {x y : Int} (h : x < y) : ltI x y = true := by rw [ltI_t]; exact h
theorem ltF {x y : Int} (h : y ≤ x) : ltI x y = false := by rw [ltI_f]; exact h
theorem nltT {x y : Int} (h : y ≤ x) : (!ltI x y) = true := by rw [ltF h]; rfl
theorem nltF {x y : Int} (h : x < y) : (!ltI x y) = false := by rw [ltT h]; rfl
theorem eqT {x y : Int} (h : x = y) : eqI x y = true := by rw [eqI_t]; exact h
theorem eqF {x y : Int} (h : x ≠ y) : eqI x y = false := by rw [eqI_f]; exact h
theorem inT {i : Int} {n : Nat} (h1 : 0 ≤ i) (h2 : i.toNat < n) : inB i n = true := by rw [inB_t]; exact ⟨h1, h2⟩
theorem nbltT {a b : Nat} (h : a < b) : Nat.blt a b = true := Nat.ble_eq_true_of_le h
theorem nbleT {a b : Nat} (h : a ≤ b) : Nat.ble a b = true := Nat.ble_eq_true_of_le h
theorem nbeqT {a b : Nat} (h : a = b) : Nat.beq a b = true := by rw [h]; exact Nat.beq_refl b
theorem w8 {n : Int} (h1 : 0 ≤ n) (h2 : n ≤ 255) : wrapA .u8 n = n := wrap_in (by simpa [IntKind.min, IntKind.signed] using h1) (by simpa [IntKind.max, IntKind.signed, IntKind.bits] using h2)
theorem w16 {n : Int} (h1 : 0 ≤ n) (h2 : n ≤ 65535) : wrapA .u16 n = n := wrap_in (by simpa [IntKind.min, IntKind.signed] using h1) (by simpa [IntKind.max, IntKind.signed, IntKind.bits] using h2)
theorem ku (k : IntKind) (h : k.signed = false) (n : Int) : IntKind.wrap k n = n % (2 ^ k.bits : Nat) := by
  unfold IntKind.wrap; rw [h]; simp
theorem wu8 (n : Int) : wrapA .u8 n = n % 256 := by rw [← kwrap_eq, ku .u8 rfl]; rfl
theorem wu16 (n : Int) : wrapA .u16 n = n % 65536 := by rw [← kwrap_eq, ku .u16 rfl]; rfl
theorem wu32 (n : Int) : wrapA .u32 n = n % 4294967296 := by rw [← kwrap_eq, ku .u32 rfl]; rfl
theorem kku8 (n : Int) : IntKind.wrap .u8 n = n % 256 := by rw [ku .u8 rfl]; rfl
/-- octets as cells -/
def by8 (l : List Nat) : List AV := l.map fun (b : Nat) => AV.int .u8 (b : Int)
theorem by8_len (l : List Nat) : (by8 l).length = l.length := by simp [by8]
theorem by8_app (a b : List Nat) : by8 a ++ by8 b = by8 (a ++ b) := by simp [by8]
theorem by8_pure : ∀ (l : List Nat), pureAVs (by8 l) = true
  | [] => rfl
  | x :: l => by show pureAVs (.int .u8 (x : Int) :: by8 l) = true; simp only [pureAVs, pureAV, Bool.true_and]; exact by8_pure l
theorem by8_plain : ∀ (l : List Nat), (by8 l).all AV.plain = true
  | [] => rfl
  | x :: l => by show (AV.plain (.int .u8 (x : Int)) && (by8 l).all AV.plain) = true; simp only [AV.plain, Bool.true_and]; exact by8_plain l
theorem by8_u8 : ∀ (l : List Nat), (by8 l).all isU8 = true
  | [] => rfl
  | x :: l => by show (isU8 (.int .u8 (x : Int)) && (by8 l).all isU8) = true; simp only [isU8, Bool.true_and]; exact by8_u8 l
theorem by8_str (l : List Nat) {k : Nat} (h : k = l.length) : strOk (by8 l) 0 k = true ∧ strOf (by8 l) 0 k = l := by
  subst h
  have ht : ((by8 l).drop 0).take l.length = by8 l := by rw [List.drop_zero, List.take_of_length_le (by rw [by8_len]; exact Nat.le_refl _)]
  refine ⟨?_, ?_⟩
  · simp only [strOk, ht, Bool.and_eq_true]
    exact ⟨nbleT (by rw [by8_len]; omega), by8_u8 l⟩
  · unfold Go.Sx.strOf; rw [ht]; simp only [by8, List.map_map]
    conv => rhs; rw [← List.map_id l]
    exact List.map_congr_left fun x _ => by simp
theorem dropc {s : List Nat} {i : Nat} (h : i < s.length) : s.drop i = s.getD i 0 :: s.drop (i + 1) := by
  rw [List.drop_eq_getElem_cons h, List.getD_eq_getElem?_getD, List.getElem?_eq_getElem h]; rfl
theorem byteI_at (s : List Nat) (i : Nat) : byteI s (i : Int) = ((s.getD i 0 % 256 : Nat) : Int) := rfl
theorem strEq_same (s : List Nat) : strEq s s = true := by simp [strEq]
theorem strEq_bytes {a b : List Nat} (ha : ∀ x ∈ a, x < 256) (hb : ∀ x ∈ b, x < 256) : strEq a b = decide (a = b) := by
  have key : ∀ l : List Nat, (∀ x ∈ l, x < 256) → l.map (· % 256) = l := fun l h => by
    conv => rhs; rw [← List.map_id l]
    exact List.map_congr_left fun x hx => by have := h x hx; simp; omega
  unfold strEq; rw [key a ha, key b hb]
  by_cases e : a = b
  · subst e; simp
  · simp [e]
theorem xor_u8 {p m : Nat} (hp : p < 256) (hm : m < 256) : IntKind.wrap .u8 (↑(BitVec.toNat (BitVec.ofInt 8 (p : Int) ^^^ BitVec.ofInt 8 (m : Int))) : Int) = ((p ^^^ m : Nat) : Int) := by
  have h := Nat.xor_lt_two_pow (n := 8) (x := p) (y := m) (by omega) (by omega)
  rw [BitVec.toNat_xor, BitVec.ofInt_natCast, BitVec.ofInt_natCast, BitVec.toNat_ofNat, BitVec.toNat_ofNat, Nat.mod_eq_of_lt (by omega), Nat.mod_eq_of_lt (by omega), kku8]
  omega
theorem xor_step (a b : Nat) : a ^^^ b = (if a % 2 = b % 2 then 0 else 1) + 2 * (a / 2 ^^^ b / 2) := by
  have h1 : (a ^^^ b) / 2 = a / 2 ^^^ b / 2 := Nat.xor_div_two
  have h2 : (a ^^^ b) % 2 = 1 ↔ ¬ ((a % 2 = 1) ↔ (b % 2 = 1)) := Nat.xor_mod_two_eq_one
  have h3 := Nat.div_add_mod (a ^^^ b) 2
  rw [h1] at h3
  have ha : a % 2 < 2 := Nat.mod_lt _ (by omega)
  have hb : b % 2 < 2 := Nat.mod_lt _ (by omega)
  have hx : (a ^^^ b) % 2 < 2 := Nat.mod_lt _ (by omega)
  split
  · rename_i e
    have : (a ^^^ b) % 2 ≠ 1 := fun q => (h2.1 q) (by rw [e])
    omega
  · rename_i e
    have : (a ^^^ b) % 2 = 1 := h2.2 (fun q => e (by
      by_cases z : a % 2 = 1
      · have := q.1 z; omega
      · have : ¬ b % 2 = 1 := fun y => z (q.2 y)
        omega))
    omega
def nx (r c : Nat) : Nat := ((c + r) * 52845 + 22719) % 65536
def enc : Nat → List Nat → List Nat
  | _, [] => []
  | r, p :: s => (p % 256 ^^^ r / 256) :: enc (nx r (p % 256 ^^^ r / 256)) s
def dec : Nat → List Nat → List Nat
  | _, [] => []
  | r, c :: s => (c % 256 ^^^ r / 256) :: dec (nx r (c % 256)) s
theorem nx_lt (r c : Nat) : nx r c < 65536 := Nat.mod_lt _ (by omega)
theorem xlt (p r : Nat) (hr : r < 65536) : (p % 256 ^^^ r / 256) < 256 := Nat.xor_lt_two_pow (n := 8) (by omega) (by omega)
theorem nxI {c r : Nat} (hc : c < 256) (hr : r < 65536) : wrapA .u16 (Int.add (wrapA .u16 (Int.mul (wrapA .u16 (Int.add (wrapA .u16 (c : Int)) (r : Int))) 52845)) 22719) = (nx r c : Int) := by
  unfold nx
  simp only [add_int, mul_int, wu16]; omega
theorem tI {p r : Nat} (hr : r < 65536) : IntKind.wrap .u8 (↑(BitVec.toNat (BitVec.ofInt 8 ((p % 256 : Nat) : Int) ^^^ BitVec.ofInt 8 (wrapA .u8 (Int.fdiv (r : Int) 256)))) : Int) = ((p % 256 ^^^ r / 256 : Nat) : Int) := by
  have e : wrapA .u8 (Int.fdiv (r : Int) 256) = ((r / 256 : Nat) : Int) := by
    rw [fdiv_pos _ (by omega), w8 (by omega) (by omega)]; omega
  rw [e]; exact xor_u8 (by omega) (by omega)
theorem l10 (tt : List Nat) (kk : Int) (s : List Nat) (hs : s.length ≤ 70000) : ∀ (n i r : Nat) (acc : List Nat), s.length - i < n → i ≤ s.length → acc.length = i → r < 65536 →
    L10_1 tt kk n s i s.length i r (by8 acc) = some (acc ++ enc r (s.drop i), 0) := by
  intro n
  induction n with
  | zero => intro i r acc h; omega
  | succ n ih =>
    intro i r acc hn h1 ha hr
    rw [L10_1_succ]
    by_cases q : i < s.length
    · have hx := xlt (s.getD i 0) r hr
      have e1 : t10_41 s i r = ((s.getD i 0 % 256 ^^^ r / 256 : Nat) : Int) := by
        unfold t10_41; rw [byteI_at]; exact tI hr
      have e2 : t10_42 s i r = (nx r (s.getD i 0 % 256 ^^^ r / 256) : Int) := by
        unfold t10_42; rw [byteI_at, tI hr]; exact nxI hx hr
      have e3 : l10_43 s i r (by8 acc) = by8 (acc ++ [s.getD i 0 % 256 ^^^ r / 256]) := by
        unfold l10_43; rw [e1, ← by8_app]; rfl
      have e4 : wrapA .i64 (Int.add (i : Int) 1) = ((i + 1 : Nat) : Int) := by rw [add_int]; exact wrap64 (by omega) (by omega)
      rw [ltT (by omega), inT (by omega) (by simpa using q), ltF (show (0 : Int) ≤ (i : Int) by omega), nbltT (Nat.lt_succ_self i), nbleT (by omega), nbeqT (by rw [by8_len]; omega), e3, e2, e4]
      simp only [by8_pure, cond_true, cond_false]
      rw [ih (i + 1) _ _ (by omega) (by omega) (by simp [ha]) (nx_lt _ _), dropc q]
      simp [enc]
    · obtain ⟨p1, p2⟩ := by8_str acc ha.symm
      rw [ltF (by omega), p1, p2, List.drop_eq_nil_of_le (by omega)]
      simp [enc]

theorem l19 (pa pb : Int) : ∀ (d n a b acc u : Nat), d < n → a < 2 ^ d → b < 2 ^ d → d ≤ 8 → acc < u → u * 2 ^ d ≤ 256 → L19_0 pa pb n a b acc u (8 - d : Nat) = some ((acc + u * (a ^^^ b) : Nat) : Int) := by
  intro d
  induction d with
  | zero =>
    intro n a b acc u hn ha hb _ _ _
    obtain ⟨m, rfl⟩ : ∃ m, n = m + 1 := ⟨n - 1, by omega⟩
    have : a = 0 := by simpa using ha
    have : b = 0 := by simpa using hb
    subst_vars
    rw [L19_0_succ, ltF (by omega)]; simp
  | succ d ih =>
    intro n a b acc u hn ha hb hd hA hB
    obtain ⟨m, rfl⟩ : ∃ m, n = m + 1 := ⟨n - 1, by omega⟩
    have hp : 2 ^ (d + 1) = 2 * 2 ^ d := by rw [Nat.pow_succ]; omega
    rw [hp] at ha hb hB
    have hk : 2 ^ d ≤ 256 := Nat.pow_le_pow_right (n := 2) (by omega) (show d ≤ 8 by omega)
    have hu : u * 2 ^ d * 2 = u * (2 * 2 ^ d) := by rw [Nat.mul_assoc, Nat.mul_comm (2 ^ d) 2]
    have hu1 : u ≤ 256 := by
      have : u * 1 ≤ u * (2 * 2 ^ d) := Nat.mul_le_mul_left u (by have := Nat.one_le_two_pow (n := d); omega)
      omega
    have e1 : wrapA .i64 (Int.tdiv (a : Int) 2) = ((a / 2 : Nat) : Int) := by rw [tdiv_pos (by omega), wrap64 (by omega) (by omega)]; omega
    have e2 : wrapA .i64 (Int.tdiv (b : Int) 2) = ((b / 2 : Nat) : Int) := by rw [tdiv_pos (by omega), wrap64 (by omega) (by omega)]; omega
    have e3 : wrapA .i64 (Int.add (acc : Int) (u : Int)) = ((acc + u : Nat) : Int) := by rw [add_int, wrap64 (by omega) (by omega)]; omega
    have e4 : wrapA .i64 (Int.mul (u : Int) 2) = ((u * 2 : Nat) : Int) := by rw [mul_int, wrap64 (by omega) (by omega)]; omega
    have e5 : wrapA .i64 (Int.add ((8 - (d + 1) : Nat) : Int) 1) = ((8 - d : Nat) : Int) := by rw [add_int, wrap64 (by omega) (by omega)]; omega
    have hx := xor_step a b
    have hv : u * 2 * 2 ^ d = u * (2 * 2 ^ d) := by rw [Nat.mul_assoc]
    rw [L19_0_succ, ltT (by omega), e1, e2, e3, e4, e5]
    unfold c19_5
    rw [tmod_pos (by omega), tmod_pos (by omega)]
    by_cases q : a % 2 = b % 2
    · rw [eqT (by omega : (a : Int) % 2 = (b : Int) % 2)]
      simp only [Bool.not_true, cond_true, cond_false]
      rw [ih m _ _ _ _ (by omega) (by omega) (by omega) (by omega) (by omega) (by omega), hx, if_pos q, Nat.zero_add, Nat.mul_assoc]
    · rw [eqF (by omega : (a : Int) % 2 ≠ (b : Int) % 2)]
      simp only [Bool.not_false, cond_true, cond_false]
      rw [ih m _ _ _ _ (by omega) (by omega) (by omega) (by omega) (by omega) (by omega), hx, if_neg q, Nat.mul_add, Nat.mul_one, ← Nat.mul_assoc, Nat.add_assoc]
theorem f19 {n a b : Nat} (hn : 9 ≤ n) (ha : a < 256) (hb : b < 256) : F19 n a b = some ((a ^^^ b : Nat) : Int) := by
  unfold F19
  have := l19 a b 8 n a b 0 1 (by omega) ha hb (by omega) (by omega) (by omega)
  simpa using this
theorem f19_0 {n a b : Nat} (hn : 9 ≤ n) (ha : a < 256) (hb : b < 256) : F19_0 n a b = ((a ^^^ b : Nat) : Int) := by
  unfold F19_0; rw [f19 hn ha hb]; rfl

def encS (tt : List Nat) (k : Int) : List Nat × Int := if 65536 < tt.length then ([], 3) else if k < 0 ∨ 65535 < k then ([], 2) else if 65536 < tt.length + 4 then ([], 3) else (enc k.toNat (0 :: 0 :: 0 :: 0 :: tt), 0)
def decS (tt : List Nat) (k : Int) : List Nat × Int := if 65536 < tt.length then ([], 3) else if k < 0 ∨ 65535 < k then ([], 2) else if tt.length < 4 then ([], 5) else ((dec k.toNat tt).drop 4, 0)
theorem f10 {n : Nat} (hn : 70000 ≤ n) (tt : List Nat) (k : Int) (hl : tt.length ≤ 9223372036854775807) : F10 n tt k = some (encS tt k) := by
  unfold F10 encS
  by_cases h1 : 65536 < tt.length
  · rw [ltT (by omega), if_pos h1]; rfl
  rw [ltF (by omega), if_neg h1]
  by_cases h2 : k < 0
  · rw [ltT h2, if_pos (.inl h2)]; rfl
  rw [ltF (by omega)]
  by_cases h3 : 65535 < k
  · rw [ltT h3, if_pos (.inr h3)]; rfl
  rw [ltF (by omega), if_neg (by omega)]
  have e : c10_36 tt = ltI 65536 ((tt.length : Int) + 4) := by unfold c10_36; rw [add_int, wrap64 (by omega) (by omega)]
  rw [e]
  by_cases h4 : 65536 < tt.length + 4
  · rw [ltT (by omega), if_pos h4]; rfl
  rw [ltF (by omega), if_neg h4]
  have ef : Option.isSome (F15 [0] 4) = true := rfl
  rw [ef, nbltT (by omega)]
  simp only [cond_true, cond_false]
  obtain ⟨r, rfl⟩ : ∃ r : Nat, k = r := ⟨k.toNat, by omega⟩
  obtain ⟨m, rfl⟩ : ∃ m, n = m + 1 := ⟨n - 1, by omega⟩
  have ew : wrapA .u16 (r : Int) = (r : Int) := w16 (by omega) (by omega)
  have eu : u10_37 tt = 0 :: 0 :: 0 :: 0 :: tt := rfl
  have et : t10_38 tt = ((0 :: 0 :: 0 :: 0 :: tt : List Nat).length : Int) := rfl
  have e1 : t10_39 r (0 :: 0 :: 0 :: 0 :: tt) = ((0 % 256 ^^^ r / 256 : Nat) : Int) := by
    unfold t10_39; rw [ew]; exact tI (p := 0) (r := r) (by omega)
  have e2 : t10_40 r (0 :: 0 :: 0 :: 0 :: tt) = (nx r (0 % 256 ^^^ r / 256) : Int) := by
    unfold t10_40; rw [ew]
    have := tI (p := 0) (r := r) (by omega)
    rw [show byteI (0 :: 0 :: 0 :: 0 :: tt) 0 = ((0 % 256 : Nat) : Int) from rfl, this]; exact nxI (xlt _ _ (by omega)) (by omega)
  rw [L10_0_succ, eu, et, ltT (by simp only [List.length_cons]; omega), inT (by omega) (by simp only [List.length_cons]; omega), e1, e2]
  simp only [cond_true]
  have key := l10 tt r (0 :: 0 :: 0 :: 0 :: tt) (by simp only [List.length_cons]; omega) m 1 _ [0 % 256 ^^^ r / 256] (by simp only [List.length_cons]; omega) (by simp only [List.length_cons]; omega) rfl (nx_lt r (0 % 256 ^^^ r / 256))
  exact key
theorem wI {c r : Nat} (hc : c < 256) (hr : r < 65536) : Int.tmod (wrapA .i64 (Int.add (wrapA .i64 (Int.mul (wrapA .i64 (Int.add (c : Int) (r : Int))) 52845)) 22719)) 65536 = (nx r c : Int) := by
  unfold nx
  have e1 : wrapA .i64 (Int.add (c : Int) (r : Int)) = (c : Int) + r := by rw [add_int, wrap64 (by omega) (by omega)]
  have e2 : wrapA .i64 (Int.mul ((c : Int) + r) 52845) = ((c : Int) + r) * 52845 := by rw [mul_int, wrap64 (by omega) (by omega)]
  have e3 : wrapA .i64 (Int.add (((c : Int) + r) * 52845) 22719) = ((c : Int) + r) * 52845 + 22719 := by rw [add_int, wrap64 (by omega) (by omega)]
  rw [e1, e2, e3, tmod_pos (by omega)]; omega
theorem dI {r : Nat} (hr : r < 65536) : wrapA .i64 (Int.tdiv (r : Int) 256) = ((r / 256 : Nat) : Int) := by rw [tdiv_pos (by omega), wrap64 (by omega) (by omega)]; omega
theorem w8n {c : Nat} (hc : c < 256) : wrapA .u8 (c : Int) = (c : Int) := w8 (by omega) (by omega)
theorem wn {c : Nat} (hc : c < 100000) : wrapA .i64 (c : Int) = (c : Int) := wrap64 (by omega) (by omega)
theorem l11 (tt : List Nat) (kk : Int) (hs : tt.length ≤ 65536) : ∀ (n j r : Nat) (acc : List Nat), tt.length + 20 - j < n → j ≤ tt.length + 4 → acc.length = j → r < 65536 →
    L11_1 tt kk n r j ((j : Int) - 4) (by8 acc) = some (acc ++ enc r ((0 :: 0 :: 0 :: 0 :: tt).drop j), 0) := by
  intro n
  induction n with
  | zero => intro j r acc h; omega
  | succ n ih =>
    intro j r acc hn h1 ha hr
    have hm : r / 256 < 256 := by omega
    have n9 : 9 ≤ n := by omega
    rw [L11_1_succ]
    by_cases q : j < tt.length + 4
    · have e4 : wrapA .i64 (Int.add ((j : Int) - 4) 1) = ((j + 1 : Nat) : Int) - 4 := by rw [add_int, wrap64 (by omega) (by omega)]; omega
      by_cases z : j < 4
      · have hx := xlt 0 r hr
        have e0 : (0 :: 0 :: 0 :: 0 :: tt).drop j = 0 :: (0 :: 0 :: 0 :: 0 :: tt).drop (j + 1) := by
          have : j = 0 ∨ j = 1 ∨ j = 2 ∨ j = 3 := by omega
          rcases this with rfl | rfl | rfl | rfl <;> rfl
        have ef := f19 (n := n) (a := 0) (b := r / 256) n9 (by omega) hm
        have ef0 := f19_0 (n := n) (a := 0) (b := r / 256) n9 (by omega) hm
        have e2 : t11_28 n r = (nx r (0 % 256 ^^^ r / 256) : Int) := by unfold t11_28; rw [dI hr, show (0 : Int) = ((0 : Nat) : Int) from rfl, ef0]; exact wI hx hr
        have e3 : l11_29 n r (by8 acc) = by8 (acc ++ [0 % 256 ^^^ r / 256]) := by unfold l11_29; rw [dI hr, show (0 : Int) = ((0 : Nat) : Int) from rfl, ef0, w8n (xlt 0 r hr), ← by8_app]; rfl
        rw [ltT (by omega), nltF (by omega), dI hr, show (0 : Int) = ((0 : Nat) : Int) from rfl, ef, nbltT (Nat.lt_succ_self j), nbleT (by omega), nbeqT (by rw [by8_len]; omega), e3, e2, e4]
        simp only [by8_pure, Option.isSome_some, cond_true, cond_false]
        rw [ih (j + 1) _ _ (by omega) (by omega) (by simp [ha]) (nx_lt _ _), e0]
        simp [enc]
      · obtain ⟨i, rfl⟩ : ∃ i, j = i + 4 := ⟨j - 4, by omega⟩
        have ei : ((i + 4 : Nat) : Int) - 4 = (i : Int) := by omega
        have hx := xlt (tt.getD i 0) r hr
        have hb : tt.getD i 0 % 256 < 256 := Nat.mod_lt _ (by omega)
        have e0 : (0 :: 0 :: 0 :: 0 :: tt).drop (i + 4) = tt.getD i 0 :: (0 :: 0 :: 0 :: 0 :: tt).drop (i + 4 + 1) := dropc (s := tt) (i := i) (by omega)
        have ef := f19 (n := n) (a := tt.getD i 0 % 256) (b := r / 256) n9 hb hm
        have ef0 := f19_0 (n := n) (a := tt.getD i 0 % 256) (b := r / 256) n9 hb hm
        have et : t11_24 n tt r i = ((tt.getD i 0 % 256 ^^^ r / 256 : Nat) : Int) := by unfold t11_24; rw [dI hr, byteI_at, wn (by omega), ef0]
        have e2 : t11_26 n tt r i = (nx r (tt.getD i 0 % 256 ^^^ r / 256) : Int) := by unfold t11_26; rw [et]; exact wI hx hr
        have e3 : l11_27 n tt r i (by8 acc) = by8 (acc ++ [tt.getD i 0 % 256 ^^^ r / 256]) := by
          unfold l11_27 t11_25; rw [dI hr, byteI_at, wn (by omega), ef0, w8n hx, ← by8_app]; rfl
        rw [ei] at e4
        rw [ei, ltT (by omega), nltT (by omega), inT (by omega) (by omega), dI hr, byteI_at, wn (by omega), ef, nbltT (Nat.lt_succ_self _), nbleT (by omega), nbeqT (by rw [by8_len]; omega), e3, e2, e4]
        simp only [by8_pure, Option.isSome_some, cond_true, cond_false]
        rw [ih (i + 4 + 1) _ _ (by omega) (by omega) (by simp [ha]) (nx_lt _ _), e0]
        simp [enc]
    · obtain ⟨p1, p2⟩ := by8_str acc ha.symm
      rw [ltF (by omega), p1, p2, List.drop_eq_nil_of_le (by simp only [List.length_cons]; omega)]
      simp [enc]
theorem f11 {n : Nat} (hn : 70000 ≤ n) (tt : List Nat) (k : Int) (hl : tt.length ≤ 9223372036854775807) : F11 n tt k = some (encS tt k) := by
  unfold F11 encS
  by_cases h1 : 65536 < tt.length
  · rw [ltT (by omega), if_pos h1]; rfl
  rw [ltF (by omega), if_neg h1]
  by_cases h2 : k < 0
  · rw [ltT h2, if_pos (.inl h2)]; rfl
  rw [ltF (by omega)]
  by_cases h3 : 65535 < k
  · rw [ltT h3, if_pos (.inr h3)]; rfl
  rw [ltF (by omega), if_neg (by omega)]
  have e : c11_21 tt = ltI 65536 ((tt.length : Int) + 4) := by unfold c11_21; rw [add_int, wrap64 (by omega) (by omega)]
  rw [e]
  by_cases h4 : 65536 < tt.length + 4
  · rw [ltT (by omega), if_pos h4]; rfl
  rw [ltF (by omega), if_neg h4]
  simp only [cond_true, cond_false]
  obtain ⟨r, rfl⟩ : ∃ r : Nat, k = r := ⟨k.toNat, by omega⟩
  obtain ⟨m, rfl⟩ : ∃ m, n = m + 1 := ⟨n - 1, by omega⟩
  have hr : r < 65536 := by omega
  have hm : r / 256 < 256 := by omega
  have hx := xlt 0 r hr
  have ef := f19 (n := m) (a := 0) (b := r / 256) (by omega) (by omega) hm
  have ef0 := f19_0 (n := m) (a := 0) (b := r / 256) (by omega) (by omega) hm
  have e2 : t11_22 m r = (nx r (0 % 256 ^^^ r / 256) : Int) := by unfold t11_22; rw [dI hr, show (0 : Int) = ((0 : Nat) : Int) from rfl, ef0]; exact wI hx hr
  have e3 : l11_23 m r = by8 [0 % 256 ^^^ r / 256] := by unfold l11_23; rw [dI hr, show (0 : Int) = ((0 : Nat) : Int) from rfl, ef0, w8n (xlt 0 r hr)]; rfl
  rw [L11_0_succ, dI hr, show (0 : Int) = ((0 : Nat) : Int) from rfl, ef, e2, e3]
  simp only [Option.isSome_some, cond_true]
  exact l11 tt r (by omega) m 1 _ [0 % 256 ^^^ r / 256] (by omega) (by omega) rfl (nx_lt r (0 % 256 ^^^ r / 256))
theorem tB {p r : Nat} (hp : p < 256) (hr : r < 65536) : IntKind.wrap .u8 (↑(BitVec.toNat (BitVec.ofInt 8 (p : Int) ^^^ BitVec.ofInt 8 (wrapA .u8 (Int.fdiv (r : Int) 256)))) : Int) = ((p ^^^ r / 256 : Nat) : Int) := by
  have e : wrapA .u8 (Int.fdiv (r : Int) 256) = ((r / 256 : Nat) : Int) := by
    rw [fdiv_pos _ (by omega), w8 (by omega) (by omega)]; omega
  rw [e]; exact xor_u8 hp (by omega)
theorem l12b (tt : List Nat) (kk : Int) (hs : tt.length ≤ 65536) : ∀ (n i r : Nat) (acc : List Nat), tt.length - i < n → 4 ≤ i → i ≤ tt.length → acc.length + 4 = i → r < 65536 →
    L12_1 tt kk n acc.length i r (by8 acc) = some (acc ++ dec r (tt.drop i), 0) := by
  intro n
  induction n with
  | zero => intro i r acc h; omega
  | succ n ih =>
    intro i r acc hn h4 h1 ha hr
    rw [L12_1_succ]
    by_cases q : i < tt.length
    · have hb : tt.getD i 0 % 256 < 256 := Nat.mod_lt _ (by omega)
      have hx := xlt (tt.getD i 0) r hr
      have e2 : t12_14 tt i r = (nx r (tt.getD i 0 % 256) : Int) := by unfold t12_14; rw [byteI_at]; exact nxI hb hr
      have e3 : l12_15 tt i r (by8 acc) = by8 (acc ++ [tt.getD i 0 % 256 ^^^ r / 256]) := by
        unfold l12_15 t12_13; rw [byteI_at, tB hb hr, ← by8_app]; rfl
      have e4 : wrapA .i64 (Int.add (i : Int) 1) = ((i + 1 : Nat) : Int) := by rw [add_int]; exact wrap64 (by omega) (by omega)
      rw [ltT (by omega), inT (by omega) (by omega), ltF (by omega), nbltT (Nat.lt_succ_self _), nbleT (by omega), nbeqT (by rw [by8_len]; omega), e3, e2, e4]
      simp only [by8_pure, cond_true, cond_false]
      have := ih (i + 1) (nx r (tt.getD i 0 % 256)) (acc ++ [tt.getD i 0 % 256 ^^^ r / 256]) (by omega) (by omega) (by omega) (by simp; omega) (nx_lt _ _)
      rw [List.length_append] at this
      rw [show acc.length + 1 = acc.length + [tt.getD i 0 % 256 ^^^ r / 256].length from rfl, this, dropc q]
      simp [dec]
    · obtain ⟨p1, p2⟩ := by8_str acc rfl
      rw [ltF (by omega), p1, p2, List.drop_eq_nil_of_le (by omega)]
      simp [dec]
theorem l12 (tt : List Nat) (kk : Int) (hs : tt.length ≤ 65536) (h4 : 4 ≤ tt.length) : ∀ (n i r : Nat), tt.length + 10 - i < n → i ≤ 4 → r < 65536 →
    L12_0 tt kk n i r = some ((dec r (tt.drop i)).drop (4 - i), 0) := by
  intro n
  induction n with
  | zero => intro i r h; omega
  | succ n ih =>
    intro i r hn h1 hr
    rw [L12_0_succ]
    by_cases q : i < tt.length
    · have hb : tt.getD i 0 % 256 < 256 := Nat.mod_lt _ (by omega)
      have hx := xlt (tt.getD i 0) r hr
      have e2 : t12_12 tt i r = (nx r (tt.getD i 0 % 256) : Int) := by unfold t12_12; rw [byteI_at]; exact nxI hb hr
      have e3 : t12_11 tt i r = ((tt.getD i 0 % 256 ^^^ r / 256 : Nat) : Int) := by unfold t12_11; rw [byteI_at, tB hb hr]
      have e4 : wrapA .i64 (Int.add (i : Int) 1) = ((i + 1 : Nat) : Int) := by rw [add_int]; exact wrap64 (by omega) (by omega)
      rw [ltT (by omega), inT (by omega) (by omega), e2, e3, e4, dropc q]
      by_cases z : i < 4
      · rw [ltT (by omega)]
        simp only [cond_true]
        rw [ih (i + 1) _ (by omega) (by omega) (nx_lt _ _)]
        rw [show 4 - i = (4 - (i + 1)) + 1 by omega]; simp [dec]
      · have : i = 4 := by omega
        subst this
        rw [ltF (by omega)]
        simp only [cond_true, cond_false]
        have := l12b tt kk hs n 5 (nx r (tt.getD 4 0 % 256)) [tt.getD 4 0 % 256 ^^^ r / 256] (by omega) (by omega) (by omega) rfl (nx_lt _ _)
        exact this
    · have hd : tt.drop i = [] := List.drop_eq_nil_of_le (by omega)
      rw [ltF (by omega), hd]; simp [dec]
theorem f12 {n : Nat} (hn : 70000 ≤ n) (tt : List Nat) (k : Int) (hl : tt.length ≤ 9223372036854775807) : F12 n tt k = some (decS tt k) := by
  unfold F12 decS
  by_cases h1 : 65536 < tt.length
  · rw [ltT (by omega), if_pos h1]; rfl
  rw [ltF (by omega), if_neg h1]
  by_cases h2 : k < 0
  · rw [ltT h2, if_pos (.inl h2)]; rfl
  rw [ltF (by omega)]
  by_cases h3 : 65535 < k
  · rw [ltT h3, if_pos (.inr h3)]; rfl
  rw [ltF (by omega), if_neg (by omega)]
  by_cases h4 : tt.length < 4
  · rw [ltT (by omega), if_pos h4]; rfl
  rw [ltF (by omega), if_neg h4]
  simp only [cond_false]
  obtain ⟨r, rfl⟩ : ∃ r : Nat, k = r := ⟨k.toNat, by omega⟩
  rw [w16 (by omega) (by omega)]
  exact l12 tt r (by omega) (by omega) n 0 r (by omega) (by omega) (by omega)
theorem l13b (tt : List Nat) (kk : Int) (hs : tt.length ≤ 65536) : ∀ (n i r : Nat) (acc : List Nat), tt.length + 20 - i < n → 4 ≤ i → i ≤ tt.length → acc.length + 4 = i → r < 65536 →
    L13_1 tt kk n r acc.length i (by8 acc) = some (acc ++ dec r (tt.drop i), 0) := by
  intro n
  induction n with
  | zero => intro i r acc h; omega
  | succ n ih =>
    intro i r acc hn h4 h1 ha hr
    rw [L13_1_succ]
    by_cases q : i < tt.length
    · have hb : tt.getD i 0 % 256 < 256 := Nat.mod_lt _ (by omega)
      have hx := xlt (tt.getD i 0) r hr
      have ef := f19 (n := n) (a := tt.getD i 0 % 256) (b := r / 256) (by omega) hb (by omega)
      have ef0 := f19_0 (n := n) (a := tt.getD i 0 % 256) (b := r / 256) (by omega) hb (by omega)
      have e2 : t13_12 tt r i = (nx r (tt.getD i 0 % 256) : Int) := by unfold t13_12; rw [byteI_at, wn (by omega)]; exact wI hb hr
      have e3 : l13_11 n tt r i (by8 acc) = by8 (acc ++ [tt.getD i 0 % 256 ^^^ r / 256]) := by
        unfold l13_11 t13_10; rw [dI hr, byteI_at, wn (by omega), ef0, w8n hx, ← by8_app]; rfl
      have e4 : wrapA .i64 (Int.add (i : Int) 1) = ((i + 1 : Nat) : Int) := by rw [add_int]; exact wrap64 (by omega) (by omega)
      rw [ltT (by omega), nltT (by omega), inT (by omega) (by omega), dI hr, byteI_at, wn (by omega), ef, nbltT (Nat.lt_succ_self _), nbleT (by omega), nbeqT (by rw [by8_len]; omega), e3, e2, e4]
      simp only [by8_pure, Option.isSome_some, cond_true]
      have := ih (i + 1) (nx r (tt.getD i 0 % 256)) (acc ++ [tt.getD i 0 % 256 ^^^ r / 256]) (by omega) (by omega) (by omega) (by simp; omega) (nx_lt _ _)
      rw [List.length_append] at this
      rw [show acc.length + 1 = acc.length + [tt.getD i 0 % 256 ^^^ r / 256].length from rfl, this, dropc q]
      simp [dec]
    · obtain ⟨p1, p2⟩ := by8_str acc rfl
      rw [ltF (by omega), p1, p2, List.drop_eq_nil_of_le (by omega)]
      simp [dec]
theorem l13 (tt : List Nat) (kk : Int) (hs : tt.length ≤ 65536) (h4 : 4 ≤ tt.length) : ∀ (n i r : Nat), tt.length + 30 - i < n → i ≤ 4 → r < 65536 →
    L13_0 tt kk n r i = some ((dec r (tt.drop i)).drop (4 - i), 0) := by
  intro n
  induction n with
  | zero => intro i r h; omega
  | succ n ih =>
    intro i r hn h1 hr
    rw [L13_0_succ]
    by_cases q : i < tt.length
    · have hb : tt.getD i 0 % 256 < 256 := Nat.mod_lt _ (by omega)
      have hx := xlt (tt.getD i 0) r hr
      have ef := f19 (n := n) (a := tt.getD i 0 % 256) (b := r / 256) (by omega) hb (by omega)
      have ef0 := f19_0 (n := n) (a := tt.getD i 0 % 256) (b := r / 256) (by omega) hb (by omega)
      have e2 : t13_9 tt r i = (nx r (tt.getD i 0 % 256) : Int) := by unfold t13_9; rw [byteI_at, wn (by omega)]; exact wI hb hr
      have e3 : l13_8 n tt r i = by8 [tt.getD i 0 % 256 ^^^ r / 256] := by unfold l13_8; rw [dI hr, byteI_at, wn (by omega), ef0, w8n hx]; rfl
      have e4 : wrapA .i64 (Int.add (i : Int) 1) = ((i + 1 : Nat) : Int) := by rw [add_int]; exact wrap64 (by omega) (by omega)
      rw [ltT (by omega), inT (by omega) (by omega), e2, e3, e4, dI hr, byteI_at, wn (by omega), ef, dropc q]
      by_cases z : i < 4
      · rw [nltF (by omega)]
        simp only [cond_true, cond_false]
        rw [ih (i + 1) _ (by omega) (by omega) (nx_lt _ _)]
        rw [show 4 - i = (4 - (i + 1)) + 1 by omega]; simp [dec]
      · have : i = 4 := by omega
        subst this
        rw [nltT (by omega)]
        simp only [Option.isSome_some, cond_true]
        have := l13b tt kk hs n 5 (nx r (tt.getD 4 0 % 256)) [tt.getD 4 0 % 256 ^^^ r / 256] (by omega) (by omega) (by omega) rfl (nx_lt _ _)
        exact this
    · have hd : tt.drop i = [] := List.drop_eq_nil_of_le (by omega)
      rw [ltF (by omega), hd]; simp [dec]
theorem f13 {n : Nat} (hn : 70000 ≤ n) (tt : List Nat) (k : Int) (hl : tt.length ≤ 9223372036854775807) : F13 n tt k = some (decS tt k) := by
  unfold F13 decS
  by_cases h1 : 65536 < tt.length
  · rw [ltT (by omega), if_pos h1]; rfl
  rw [ltF (by omega), if_neg h1]
  by_cases h2 : k < 0
  · rw [ltT h2, if_pos (.inl h2)]; rfl
  rw [ltF (by omega)]
  by_cases h3 : 65535 < k
  · rw [ltT h3, if_pos (.inr h3)]; rfl
  rw [ltF (by omega), if_neg (by omega)]
  by_cases h4 : tt.length < 4
  · rw [ltT (by omega), if_pos h4]; rfl
  rw [ltF (by omega), if_neg h4]
  simp only [cond_false]
  obtain ⟨r, rfl⟩ : ∃ r : Nat, k = r := ⟨k.toNat, by omega⟩
  exact l13 tt r (by omega) (by omega) n 0 r (by omega) (by omega) (by omega)
theorem f9 {n : Nat} (hn : 70000 ≤ n) : F9 n = some true := by
  have a1 := f10 hn [] 55665 (by simp)
  have a2 := f10 hn [97] 4330 (by simp)
  have a3 := f12 hn [217, 214, 111, 99] 55665 (by simp)
  have a4 := f12 hn [16, 191, 49, 112, 147] 4330 (by simp)
  have a5 := f12 hn [217, 214, 111] 55665 (by simp)
  have a6 := f10 hn [97] 65536 (by simp)
  have b0 : F10_0 n [] 55665 = [217, 214, 111, 99] := by unfold F10_0; rw [a1]; decide
  have b1 : F10_1 n [] 55665 = 0 := by unfold F10_1; rw [a1]; decide
  have c0 : F10_0 n [97] 4330 = [16, 191, 49, 112, 147] := by unfold F10_0; rw [a2]; decide
  have c1 : F10_1 n [97] 4330 = 0 := by unfold F10_1; rw [a2]; decide
  have d0 : F12_0 n [217, 214, 111, 99] 55665 = [] := by unfold F12_0; rw [a3]; decide
  have d1 : F12_1 n [217, 214, 111, 99] 55665 = 0 := by unfold F12_1; rw [a3]; decide
  have g0 : F12_0 n [16, 191, 49, 112, 147] 4330 = [97] := by unfold F12_0; rw [a4]; decide
  have g1 : F12_1 n [16, 191, 49, 112, 147] 4330 = 0 := by unfold F12_1; rw [a4]; decide
  unfold F9 c9_4 c9_5 c9_6 t9_1 t9_3 u9_0 u9_2
  rw [a1, a2, a3, a4, a5, a6, b0, b1, c0, c1, d0, d1, g0, g1]
  rfl

theorem subS_len (s : List Nat) (k : Nat) : (subS s 0 k).length ≤ s.length := by simp [subS]; omega
theorem subS0 (s : List Nat) (k : Nat) : subS s 0 k = s.take k := by simp [subS]
theorem p10 {n : Nat} (hn : 70000 ≤ n) (tt : List Nat) (k : Int) (hl : tt.length ≤ 9223372036854775807) : F10_0 n tt k = (encS tt k).1 ∧ F10_1 n tt k = (encS tt k).2 := by
  unfold F10_0 F10_1; rw [f10 hn tt k hl]; exact ⟨rfl, rfl⟩
theorem p11 {n : Nat} (hn : 70000 ≤ n) (tt : List Nat) (k : Int) (hl : tt.length ≤ 9223372036854775807) : F11_0 n tt k = (encS tt k).1 ∧ F11_1 n tt k = (encS tt k).2 := by
  unfold F11_0 F11_1; rw [f11 hn tt k hl]; exact ⟨rfl, rfl⟩
theorem p12 {n : Nat} (hn : 70000 ≤ n) (tt : List Nat) (k : Int) (hl : tt.length ≤ 9223372036854775807) : F12_0 n tt k = (decS tt k).1 ∧ F12_1 n tt k = (decS tt k).2 := by
  unfold F12_0 F12_1; rw [f12 hn tt k hl]; exact ⟨rfl, rfl⟩
theorem p13 {n : Nat} (hn : 70000 ≤ n) (tt : List Nat) (k : Int) (hl : tt.length ≤ 9223372036854775807) : F13_0 n tt k = (decS tt k).1 ∧ F13_1 n tt k = (decS tt k).2 := by
  unfold F13_0 F13_1; rw [f13 hn tt k hl]; exact ⟨rfl, rfl⟩
theorem mins {m : Int} (hm : 0 ≤ m) (a : List Nat) : 0 ≤ (if m < (a.length : Int) then m else (a.length : Int)) ∧ (if m < (a.length : Int) then m else (a.length : Int)).toNat ≤ a.length ∧ ((if m < (a.length : Int) then m else (a.length : Int)).toNat : Int) ≤ m := by
  split <;> omega
theorem enc_len : ∀ (s : List Nat) (r : Nat), (enc r s).length = s.length
  | [], r => rfl
  | p :: s, r => by simp [enc, enc_len s]
theorem dec_len : ∀ (s : List Nat) (r : Nat), (dec r s).length = s.length
  | [], r => rfl
  | p :: s, r => by simp [dec, dec_len s]
theorem dec_enc : ∀ (s : List Nat) (r : Nat), r < 65536 → dec r (enc r s) = s.map (· % 256)
  | [], r, _ => rfl
  | p :: s, r, h => by
    have hx := xlt p r h
    simp only [enc, dec, List.map_cons, Nat.mod_eq_of_lt hx]
    rw [dec_enc s _ (nx_lt _ _), Nat.xor_assoc, Nat.xor_self, Nat.xor_zero]
theorem key16 {k : Int} (h : (Lit.int .u16 k).wf = true) : wrapA .i64 k = k ∧ 0 ≤ k ∧ k ≤ 65535 := by
  have := wf_u16 h
  exact ⟨wrap64 (by omega) (by omega), this⟩
theorem encS_ok {s : List Nat} {k : Int} (hs : s.length ≤ 65532) (h1 : 0 ≤ k) (h2 : k ≤ 65535) : encS s k = (enc k.toNat (0 :: 0 :: 0 :: 0 :: s), 0) := by
  unfold encS; rw [if_neg (by omega), if_neg (by omega), if_neg (by omega)]
theorem decS_ok {s : List Nat} {k : Int} (hs : s.length ≤ 65536) (h4 : 4 ≤ s.length) (h1 : 0 ≤ k) (h2 : k ≤ 65535) : decS s k = ((dec k.toNat s).drop 4, 0) := by
  unfold decS; rw [if_neg (by omega), if_neg (by omega), if_neg (by omega)]
theorem repS_len (x : Nat) : ∀ n, repS n [x] = List.replicate n x
  | 0 => rfl
  | n + 1 => by rw [repS, repS_len x n, List.replicate_succ]; rfl
theorem rep_ok (x k : Nat) (hk : k ≤ 1000000) : F15 [x] k = some (List.replicate k x) ∧ F15_0 [x] k = List.replicate k x := by
  have h : F15 [x] (k : Int) = some (List.replicate k x) := by
    unfold F15
    rw [nltT (by omega), nltT (by omega), Int.toNat_natCast, repS_len]
    have : Nat.ble ([x].length * k) 140737488355328 = true := nbleT (by simp; omega)
    rw [this]; rfl
  exact ⟨h, by unfold F15_0; rw [h]; rfl⟩
theorem law_ok_ : ∃ n, F8 n = some true := by
  obtain ⟨n, hn⟩ : ∃ n : Nat, 70000 ≤ n := ⟨70000, Nat.le_refl _⟩
  refine ⟨n, ?_⟩
  have h9 : F9_0 n = true := by unfold F9_0; rw [f9 hn]; rfl
  have r1 := rep_ok 97 65537 (by omega)
  have r2 := rep_ok 97 65533 (by omega)
  have r3 := rep_ok 97 65532 (by omega)
  have n1 : ((65537 : Nat) : Int) = 65537 := rfl
  have n2 : ((65533 : Nat) : Int) = 65533 := rfl
  have n3 : ((65532 : Nat) : Int) = 65532 := rfl
  rw [n1] at r1; rw [n2] at r2; rw [n3] at r3
  have l1 : (List.replicate 65537 97).length = 65537 := List.length_replicate
  have l2 : (List.replicate 65533 97).length = 65533 := List.length_replicate
  have l3 : (List.replicate 65532 97).length = 65532 := List.length_replicate
  unfold F8 c8_2 c8_3 c8_4 c8_5 c8_6 c8_7 c8_8 u8_0 t8_1
  rw [r1.1, r1.2, r2.1, r2.2, r3.1, r3.2]
  generalize List.replicate 65537 97 = A at *
  generalize List.replicate 65533 97 = B at *
  generalize List.replicate 65532 97 = C at *
  have q1 := f10 hn A (-1) (by omega)
  have p1 := p10 hn A (-1) (by omega)
  have q2 := f10 hn B (-1) (by omega)
  have p2 := p10 hn B (-1) (by omega)
  have q3 := f10 hn B 0 (by omega)
  have p3 := p10 hn B 0 (by omega)
  have q4 := f10 hn C 65535 (by omega)
  have p4 := p10 hn C 65535 (by omega)
  have q5 := f12 hn A (-1) (by omega)
  have p5 := p12 hn A (-1) (by omega)
  have q6 := f12 hn [] (-1) (by simp)
  have p6 := p12 hn [] (-1) (by simp)
  have q7 := f12 hn [97, 98, 99] 0 (by simp)
  have p7 := p12 hn [97, 98, 99] 0 (by simp)
  have q8 := f12 hn [97, 98, 99, 100] 0 (by simp)
  have p8 := p12 hn [97, 98, 99, 100] 0 (by simp)
  have e1 : encS A (-1) = ([], 3) := by unfold encS; rw [if_pos (by omega)]
  have e2 : encS B (-1) = ([], 2) := by unfold encS; rw [if_neg (by omega), if_pos (by omega)]
  have e3 : encS B 0 = ([], 3) := by unfold encS; rw [if_neg (by omega), if_neg (by omega), if_pos (by omega)]
  have e4 := encS_ok (s := C) (k := 65535) (by omega) (by omega) (by omega)
  have e5 : decS A (-1) = ([], 3) := by unfold decS; rw [if_pos (by omega)]
  have e6 : decS [] (-1) = ([], 2) := rfl
  have e7 : decS [97, 98, 99] 0 = ([], 5) := rfl
  have e8 : decS [97, 98, 99, 100] 0 = ([], 0) := rfl
  rw [e1] at q1 p1; rw [e2] at q2 p2; rw [e3] at q3 p3; rw [e4] at q4 p4; rw [e5] at q5 p5; rw [e6] at q6 p6; rw [e7] at q7 p7; rw [e8] at q8 p8
  have l4 : (enc (65535 : Int).toNat (0 :: 0 :: 0 :: 0 :: C)).length = 65536 := by rw [enc_len]; simp only [List.length_cons]; omega
  simp only [f9 hn, h9, q1, q2, q3, q4, q5, q6, q7, q8, p1.1, p1.2, p2.1, p2.2, p3.1, p3.2, p4.1, p4.2, p5.1, p5.2, p6.1, p6.2, p7.1, p7.2, p8.1, p8.2, l4, eqT, Option.isSome_some, Bool.not_true, cond_true, cond_false]
  rfl

end

theorem walk {w : World} {E : Nat → Go.Sx.Ent} (hE : Go.Sx.GlobE E)   (hL : Go.Sx.LaidAt E w []) {ARGS : List Value} (ha : Go.Sx.RelL (Go.Sx.laidE E) [] ARGS) :
    Calls Try.prog 8 ARGS.toArray w fun e w' => e = .returned (.bool true) ∧ Below w.heap.size w w' := by
  obtain ⟨n, hn⟩ := law_ok_  
  exact Go.Sx.call_args_at okayed hE ha Try.func8 body8_eq (run8 n   true hn) hL

set_option maxRecDepth 100000 in
theorem lifted (os : Os) (started : os.Started) (H : Type) (enc : TypeId × Value → H) :
    ReturnsInHanded {} Try.checked os 8 .any (Rows.cipherKnownSpec.pre6 enc Try.prog Try.f8 Rows.cipherKnownRow.domain false) (Rows.cipherKnownSpec.post enc Try.prog Try.f8 false true false false) := by
  refine returnsInHanded_of_change (C := Try.checked) own started (by kernel_rfl) Try.func8
    (ChangeSpec.witness6 (enc := enc) (C := Try.checked) false ⟨#[], #[], []⟩ 8 (by kernel_rfl) (by kernel_rfl) (by kernel_rfl) (by kernel_rfl)) ?_
  intro W base args ds gs before hval0 hW hcnd _
  have hval : ∀ (j : Nat) t v, Try.f8.params[j]? = some t → args[j]? = some v → Value.okWide Try.prog W .any base t v := hval0
  have hW' := hW
  obtain ⟨p, q, hA0, hV, rfl, hfz, hnd⟩ := hW
  have hA : DataW.TrodAll enc Try.prog W 0 (fun _ => true) true Try.f8.params.toList args.toList ds p := hA0
  rw [Try.params8] at hA hval
  obtain ⟨hargs, rfl, rfl⟩ := trodAll_nil hA
  obtain rfl : args = #[] := by cases args; simp_all
  obtain ⟨rfl, rfl⟩ := trodVars_none hV
  clear hA0
  have done : Calls Try.prog 8 #[] W (fun e w' => e = .returned (.bool true) ∧ Below W.heap.size W w') := by
    exact walk (Go.Sx.argE_glob [])   (Go.Sx.laid_nil _ (Go.Sx.argE [])) (ARGS := []) rfl
  refine done.mono fun e W' ⟨he, hg⟩ => ?_
  subst he
  exact ⟨_, rfl, Go.Sx.post_of_below (pv := []) hW' (fun _ _ _ => (trodAll_cons_mk (shut_bool Try.underlying4 _) trodAll_mk0)) (fun sp hsp => trodAll_mk0) (fun _ _ => rfl) (by simp)
    hg (ok_one (by kernel_rfl) rfl (okWide_bool_mk Try.underlying4 _))⟩

theorem over : Rows.cipherKnownRow.holds Try.pinned (OpenSpec.ofChange Rows.cipherKnownSpec) :=
  OpenClaim.holds_of_wide 8 Try.f8 rfl rfl rfl rfl rfl rfl rfl ⟨rfl, rfl, rfl, rfl, rfl⟩ rfl rfl rfl rfl rfl (by kernel_rfl) Try.func8 (by kernel_rfl)
    (of_decide_eq_true (by kernel_rfl)) (by unfold Func.isWrapper; first | (rw [if_pos (by decide +kernel)]; kernel_rfl) | (rw [if_neg (by decide +kernel)]; exact ⟨rfl, rfl⟩))
    (fun os started H enc _ => lifted os started H enc)

theorem proved : Rows.CipherKnownSaid := over
#print axioms proved
end Go.Proofs.Ytcfkjkefkmfdnaa.cipherKnown
