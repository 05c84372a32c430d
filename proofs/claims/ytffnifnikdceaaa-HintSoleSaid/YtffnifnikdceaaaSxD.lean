/- The executor once more, worked out for each piece of code once; it answers as the first does. No condition. -/
import Derived.Test.YtffnifnikdceaaaSxC
set_option linter.unusedSimpArgs false
set_option linter.unusedVariables false
set_option linter.unnecessarySimpa false
namespace Go.Sx

/-! The executor a second time: what is known from the code alone is worked out once for each piece of code and kept in a box, and what is done with values goes by recursors, small step by small step. At the end it is the first executor. -/
noncomputable def onBool (v : AV) (f : Bool → Option AV) : Option AV := @AV.rec (fun _ => Option AV) (fun _ => PUnit) (fun x0 => f x0) (fun _ _ => none) (fun _ => none) none (fun _ _ => none) none (fun _ _ _ _ => none) none (fun _ => none) none (fun _ _ _ _ _ => none) none (fun _ _ _ => none) (fun _ _ => none) (fun _ _ => none) none PUnit.unit (fun _ _ _ _ => PUnit.unit) v
noncomputable def onBoolO (v : AV) (f : Bool → Option ORes) : Option ORes := @AV.rec (fun _ => Option ORes) (fun _ => PUnit) (fun x0 => f x0) (fun _ _ => none) (fun _ => none) none (fun _ _ => none) none (fun _ _ _ _ => none) none (fun _ => none) none (fun _ _ _ _ _ => none) none (fun _ _ _ => none) (fun _ _ => none) (fun _ _ => none) none PUnit.unit (fun _ _ _ _ => PUnit.unit) v
noncomputable def onInt (v : AV) (f : IntKind → Int → Option AV) : Option AV := @AV.rec (fun _ => Option AV) (fun _ => PUnit) (fun _ => none) (fun x0 x1 => f x0 x1) (fun _ => none) none (fun _ _ => none) none (fun _ _ _ _ => none) none (fun _ => none) none (fun _ _ _ _ _ => none) none (fun _ _ _ => none) (fun _ _ => none) (fun _ _ => none) none PUnit.unit (fun _ _ _ _ => PUnit.unit) v
noncomputable def onIntO (v : AV) (f : IntKind → Int → Option ORes) : Option ORes := @AV.rec (fun _ => Option ORes) (fun _ => PUnit) (fun _ => none) (fun x0 x1 => f x0 x1) (fun _ => none) none (fun _ _ => none) none (fun _ _ _ _ => none) none (fun _ => none) none (fun _ _ _ _ _ => none) none (fun _ _ _ => none) (fun _ _ => none) (fun _ _ => none) none PUnit.unit (fun _ _ _ _ => PUnit.unit) v
noncomputable def onStr (v : AV) (f : List Nat → Option AV) : Option AV := @AV.rec (fun _ => Option AV) (fun _ => PUnit) (fun _ => none) (fun _ _ => none) (fun x0 => f x0) none (fun _ _ => none) none (fun _ _ _ _ => none) none (fun _ => none) none (fun _ _ _ _ _ => none) none (fun _ _ _ => none) (fun _ _ => none) (fun _ _ => none) none PUnit.unit (fun _ _ _ _ => PUnit.unit) v
noncomputable def onStrO (v : AV) (f : List Nat → Option ORes) : Option ORes := @AV.rec (fun _ => Option ORes) (fun _ => PUnit) (fun _ => none) (fun _ _ => none) (fun x0 => f x0) none (fun _ _ => none) none (fun _ _ _ _ => none) none (fun _ => none) none (fun _ _ _ _ _ => none) none (fun _ _ _ => none) (fun _ _ => none) (fun _ _ => none) none PUnit.unit (fun _ _ _ _ => PUnit.unit) v
noncomputable def onPtr (v : AV) (f : Nat → Nat → Option AV) : Option AV := @AV.rec (fun _ => Option AV) (fun _ => PUnit) (fun _ => none) (fun _ _ => none) (fun _ => none) none (fun x0 x1 => f x0 x1) none (fun _ _ _ _ => none) none (fun _ => none) none (fun _ _ _ _ _ => none) none (fun _ _ _ => none) (fun _ _ => none) (fun _ _ => none) none PUnit.unit (fun _ _ _ _ => PUnit.unit) v
noncomputable def onPtrO (v : AV) (f : Nat → Nat → Option ORes) : Option ORes := @AV.rec (fun _ => Option ORes) (fun _ => PUnit) (fun _ => none) (fun _ _ => none) (fun _ => none) none (fun x0 x1 => f x0 x1) none (fun _ _ _ _ => none) none (fun _ => none) none (fun _ _ _ _ _ => none) none (fun _ _ _ => none) (fun _ _ => none) (fun _ _ => none) none PUnit.unit (fun _ _ _ _ => PUnit.unit) v
noncomputable def onSlc (v : AV) (f : Nat → Nat → Nat → Cap → Option AV) : Option AV := @AV.rec (fun _ => Option AV) (fun _ => PUnit) (fun _ => none) (fun _ _ => none) (fun _ => none) none (fun _ _ => none) none (fun x0 x1 x2 x3 => f x0 x1 x2 x3) none (fun _ => none) none (fun _ _ _ _ _ => none) none (fun _ _ _ => none) (fun _ _ => none) (fun _ _ => none) none PUnit.unit (fun _ _ _ _ => PUnit.unit) v
noncomputable def onSlcO (v : AV) (f : Nat → Nat → Nat → Cap → Option ORes) : Option ORes := @AV.rec (fun _ => Option ORes) (fun _ => PUnit) (fun _ => none) (fun _ _ => none) (fun _ => none) none (fun _ _ => none) none (fun x0 x1 x2 x3 => f x0 x1 x2 x3) none (fun _ => none) none (fun _ _ _ _ _ => none) none (fun _ _ _ => none) (fun _ _ => none) (fun _ _ => none) none PUnit.unit (fun _ _ _ _ => PUnit.unit) v
noncomputable def onFn (v : AV) (f : Fn → List AV → List AV → Option AV) : Option AV := @AV.rec (fun _ => Option AV) (fun _ => PUnit) (fun _ => none) (fun _ _ => none) (fun _ => none) none (fun _ _ => none) none (fun _ _ _ _ => none) none (fun _ => none) none (fun x0 x1 x2 _ _ => f x0 x1 x2) none (fun _ _ _ => none) (fun _ _ => none) (fun _ _ => none) none PUnit.unit (fun _ _ _ _ => PUnit.unit) v
noncomputable def onFnO (v : AV) (f : Fn → List AV → List AV → Option ORes) : Option ORes := @AV.rec (fun _ => Option ORes) (fun _ => PUnit) (fun _ => none) (fun _ _ => none) (fun _ => none) none (fun _ _ => none) none (fun _ _ _ _ => none) none (fun _ => none) none (fun x0 x1 x2 _ _ => f x0 x1 x2) none (fun _ _ _ => none) (fun _ _ => none) (fun _ _ => none) none PUnit.unit (fun _ _ _ _ => PUnit.unit) v
noncomputable def onAgg (v : AV) (f : List AV → Option AV) : Option AV := @AV.rec (fun _ => Option AV) (fun _ => PUnit) (fun _ => none) (fun _ _ => none) (fun _ => none) none (fun _ _ => none) none (fun _ _ _ _ => none) none (fun _ => none) none (fun _ _ _ _ _ => none) none (fun _ _ _ => none) (fun x0 _ => f x0) (fun _ _ => none) none PUnit.unit (fun _ _ _ _ => PUnit.unit) v
noncomputable def onAggO (v : AV) (f : List AV → Option ORes) : Option ORes := @AV.rec (fun _ => Option ORes) (fun _ => PUnit) (fun _ => none) (fun _ _ => none) (fun _ => none) none (fun _ _ => none) none (fun _ _ _ _ => none) none (fun _ => none) none (fun _ _ _ _ _ => none) none (fun _ _ _ => none) (fun x0 _ => f x0) (fun _ _ => none) none PUnit.unit (fun _ _ _ _ => PUnit.unit) v
noncomputable def onTup (v : AV) (f : List AV → Option AV) : Option AV := @AV.rec (fun _ => Option AV) (fun _ => PUnit) (fun _ => none) (fun _ _ => none) (fun _ => none) none (fun _ _ => none) none (fun _ _ _ _ => none) none (fun _ => none) none (fun _ _ _ _ _ => none) none (fun _ _ _ => none) (fun _ _ => none) (fun x0 _ => f x0) none PUnit.unit (fun _ _ _ _ => PUnit.unit) v
noncomputable def onTupO (v : AV) (f : List AV → Option ORes) : Option ORes := @AV.rec (fun _ => Option ORes) (fun _ => PUnit) (fun _ => none) (fun _ _ => none) (fun _ => none) none (fun _ _ => none) none (fun _ _ _ _ => none) none (fun _ => none) none (fun _ _ _ _ _ => none) none (fun _ _ _ => none) (fun _ _ => none) (fun x0 _ => f x0) none PUnit.unit (fun _ _ _ _ => PUnit.unit) v
inductive IntV where
  | no
  | yes (k : IntKind) (n : Int)
noncomputable def asInt (v : AV) : IntV := @AV.rec (fun _ => IntV) (fun _ => PUnit) (fun _ => IntV.no) (fun x0 x1 => IntV.yes x0 x1) (fun _ => IntV.no) IntV.no (fun _ _ => IntV.no) IntV.no (fun _ _ _ _ => IntV.no) IntV.no (fun _ => IntV.no) IntV.no (fun _ _ _ _ _ => IntV.no) IntV.no (fun _ _ _ => IntV.no) (fun _ _ => IntV.no) (fun _ _ => IntV.no) IntV.no PUnit.unit (fun _ _ _ _ => PUnit.unit) v
noncomputable def plainS (v : AV) : Bool := @AV.rec (fun _ => Bool) (fun _ => PUnit) (fun _ => true) (fun _ _ => true) (fun _ => true) true (fun _ _ => true) true (fun _ _ _ _ => true) true (fun _ => true) true (fun _ _ _ _ _ => true) true (fun _ _ _ => true) (fun x0 _ => false) (fun x0 _ => false) true PUnit.unit (fun _ _ _ _ => PUnit.unit) v
inductive AggV where
  | one
  | agg (cs : List AV)
noncomputable def asAgg (v : AV) : AggV := @AV.rec (fun _ => AggV) (fun _ => PUnit) (fun _ => AggV.one) (fun _ _ => AggV.one) (fun _ => AggV.one) AggV.one (fun _ _ => AggV.one) AggV.one (fun _ _ _ _ => AggV.one) AggV.one (fun _ => AggV.one) AggV.one (fun _ _ _ _ _ => AggV.one) AggV.one (fun _ _ _ => AggV.one) (fun x0 _ => AggV.agg x0) (fun _ _ => AggV.one) AggV.one PUnit.unit (fun _ _ _ _ => PUnit.unit) v
noncomputable def asBool (v : AV) : Option Bool := @AV.rec (fun _ => Option Bool) (fun _ => PUnit) (fun x0 => some x0) (fun _ _ => none) (fun _ => none) none (fun _ _ => none) none (fun _ _ _ _ => none) none (fun _ => none) none (fun _ _ _ _ _ => none) none (fun _ _ _ => none) (fun _ _ => none) (fun _ _ => none) none PUnit.unit (fun _ _ _ _ => PUnit.unit) v
inductive StrV where
  | no
  | yes (s : List Nat)
noncomputable def asStr (v : AV) : StrV := @AV.rec (fun _ => StrV) (fun _ => PUnit) (fun _ => StrV.no) (fun _ _ => StrV.no) (fun x0 => StrV.yes x0) StrV.no (fun _ _ => StrV.no) StrV.no (fun _ _ _ _ => StrV.no) StrV.no (fun _ => StrV.no) StrV.no (fun _ _ _ _ _ => StrV.no) StrV.no (fun _ _ _ => StrV.no) (fun _ _ => StrV.no) (fun _ _ => StrV.no) StrV.no PUnit.unit (fun _ _ _ _ => PUnit.unit) v
inductive SlcV where
  | no
  | nils
  | slc (b off len : Nat) (cap : Cap)
  | str (s : List Nat)
  | emp
noncomputable def asSlc (v : AV) : SlcV := @AV.rec (fun _ => SlcV) (fun _ => PUnit) (fun _ => SlcV.no) (fun _ _ => SlcV.no) (fun x0 => SlcV.str x0) SlcV.no (fun _ _ => SlcV.no) SlcV.nils (fun x0 x1 x2 x3 => SlcV.slc x0 x1 x2 x3) SlcV.no (fun _ => SlcV.no) SlcV.no (fun _ _ _ _ _ => SlcV.no) SlcV.no (fun _ _ _ => SlcV.no) (fun _ _ => SlcV.no) (fun _ _ => SlcV.no) SlcV.emp PUnit.unit (fun _ _ _ _ => PUnit.unit) v
inductive FnV where
  | no
  | fn (f : Fn) (x y : List AV)
noncomputable def asFn (v : AV) : FnV := @AV.rec (fun _ => FnV) (fun _ => PUnit) (fun _ => FnV.no) (fun _ _ => FnV.no) (fun _ => FnV.no) FnV.no (fun _ _ => FnV.no) FnV.no (fun _ _ _ _ => FnV.no) FnV.no (fun _ => FnV.no) FnV.no (fun x0 x1 x2 _ _ => FnV.fn x0 x1 x2) FnV.no (fun _ _ _ => FnV.no) (fun _ _ => FnV.no) (fun _ _ => FnV.no) FnV.no PUnit.unit (fun _ _ _ _ => PUnit.unit) v

noncomputable def bindO (x : Option AV) (f : AV → Option AV) : Option AV := @Option.rec AV (fun _ => Option AV) none f x
noncomputable def bindOO (x : Option AV) (f : AV → Option ORes) : Option ORes := @Option.rec AV (fun _ => Option ORes) none f x

/-! trees -/
def pathF : Nat → Nat → List Bool
  | 0, _ => []
  | _ + 1, 0 => []
  | d + 1, m + 1 => Nat.beq (m % 2) 0 :: pathF d (m / 2)

noncomputable def T.getN {α : Type} (t : T α) (n : Nat) : Option α :=
  @T.rec α (fun _ => Nat → Option α) (fun _ => none)
    (fun _ v _ ihl ihr n => @Nat.rec (fun _ => Option α) v (fun m _ => @Bool.rec (fun _ => Option α) (ihr (Nat.div m 2)) (ihl (Nat.div m 2)) (Nat.beq (Nat.mod m 2) 0)) n) t n

noncomputable def T.putN {α : Type} (d : Nat) (t : T α) (n : Nat) (x : α) : T α :=
  @Nat.rec (fun _ => T α → Nat → T α) (fun t _ => t)
    (fun _ ih t n => @T.rec α (fun _ => T α)
      (@Nat.rec (fun _ => T α) (.node .leaf (some x) .leaf) (fun m _ => @Bool.rec (fun _ => T α) (.node .leaf none (ih .leaf (Nat.div m 2))) (.node (ih .leaf (Nat.div m 2)) none .leaf) (Nat.beq (Nat.mod m 2) 0)) n)
      (fun l v r _ _ => @Nat.rec (fun _ => T α) (.node l (some x) r) (fun m _ => @Bool.rec (fun _ => T α) (.node l v (ih r (Nat.div m 2))) (.node (ih l (Nat.div m 2)) v r) (Nat.beq (Nat.mod m 2) 0)) n) t) d t n

/-! lists -/
noncomputable def nthR {α : Type} (l : List α) (n : Nat) : Option α :=
  @List.rec α (fun _ => Nat → Option α) (fun _ => none) (fun x _ ih n => @Nat.rec (fun _ => Option α) (some x) (fun m _ => ih m) n) l n
noncomputable def dropR {α : Type} (n : Nat) (l : List α) : List α :=
  @List.rec α (fun _ => Nat → List α) (fun _ => []) (fun x r ih n => @Nat.rec (fun _ => List α) (x :: r) (fun m _ => ih m) n) l n
noncomputable def takeR (n : Nat) (l : List AV) : Option (List AV) :=
  @Nat.rec (fun _ => List AV → Option (List AV)) (fun _ => some [])
    (fun _ ih l => @List.rec AV (fun _ => Option (List AV)) none (fun x xs _ => @Option.rec (List AV) (fun _ => Option (List AV)) none (fun ys => some (x :: ys)) (ih xs)) l) n l
noncomputable def lenR {α : Type} (l : List α) : Nat := @List.rec α (fun _ => Nat) 0 (fun _ _ ih => Nat.succ ih) l
noncomputable def appR {α : Type} (l k : List α) : List α := @List.rec α (fun _ => List α) k (fun x _ ih => x :: ih) l
noncomputable def plainAll (l : List AV) : Bool := @List.rec AV (fun _ => Bool) true (fun x _ ih => @Bool.rec (fun _ => Bool) false ih (plainS x)) l
noncomputable def cellsR (v : AV) : List AV := @AggV.rec (fun _ => List AV) [v] (fun cs => cs) (asAgg v)
noncomputable def spliceR (vs cs : List AV) (off : Nat) : Option (List AV) :=
  @List.rec AV (fun _ => List AV → Nat → Option (List AV)) (fun cs _ => some cs)
    (fun v _ ihv cs off => @List.rec AV (fun _ => Nat → Option (List AV)) (fun _ => none)
      (fun c cs' ih n => @Nat.rec (fun _ => Option (List AV))
        (@Option.rec (List AV) (fun _ => Option (List AV)) none (fun ys => some (v :: ys)) (ihv cs' 0))
        (fun m _ => @Option.rec (List AV) (fun _ => Option (List AV)) none (fun ys => some (c :: ys)) (ih m)) n) cs off) vs cs off

/-! slots -/
structure GetB where
  f : T AV → Option AV
structure SetB where
  f : AV → T AV → T AV
noncomputable def getB (p : List Bool) : GetB :=
  @List.rec Bool (fun _ => GetB) ⟨fun t => @T.rec AV (fun _ => Option AV) none (fun _ v _ _ _ => v) t⟩
    (fun b _ ih => @GetB.rec (fun _ => GetB) (fun g => @Bool.rec (fun _ => GetB)
      ⟨fun t => @T.rec AV (fun _ => Option AV) none (fun _ _ r _ _ => g r) t⟩ ⟨fun t => @T.rec AV (fun _ => Option AV) none (fun l _ _ _ _ => g l) t⟩ b) ih) p
noncomputable def setB (p : List Bool) : SetB :=
  @List.rec Bool (fun _ => SetB) ⟨fun x t => @T.rec AV (fun _ => T AV) (.node .leaf (some x) .leaf) (fun l _ r _ _ => .node l (some x) r) t⟩
    (fun b _ ih => @SetB.rec (fun _ => SetB) (fun g => @Bool.rec (fun _ => SetB)
      ⟨fun x t => @T.rec AV (fun _ => T AV) (.node .leaf none (g x .leaf)) (fun l v r _ _ => .node l v (g x r)) t⟩
      ⟨fun x t => @T.rec AV (fun _ => T AV) (.node (g x .leaf) none .leaf) (fun l v r _ _ => .node (g x l) v r) t⟩ b) ih) p

structure Ev where
  f : Tmps → Option AV
noncomputable def slotE (t : Nat) : Ev := @GetB.rec (fun _ => Ev) (fun g => ⟨fun a => @Tmps.rec (fun _ => Option AV) (fun _ df t => @Option.rec AV (fun _ => Option AV) (@Bool.rec (fun _ => Option AV) none (some .undef) df) (fun v => some v) (g t)) a⟩) (getB (pathF t t))
structure PutB where
  f : Tmps → AV → Tmps
noncomputable def slotP (d : Nat) : PutB := @SetB.rec (fun _ => PutB) (fun g => ⟨fun a v => @Tmps.rec (fun _ => Tmps) (fun n df t => @Bool.rec (fun _ => Tmps) (Tmps.mk n df t) (Tmps.mk n df (g v t)) (Nat.ble (Nat.succ d) n)) a⟩) (setB (pathF d d))
noncomputable def putB (d : Option Tmp) : PutB := @Option.rec Tmp (fun _ => PutB) ⟨fun a _ => a⟩ (fun d => slotP d) d

noncomputable def evS (x : Operand) : Ev := match x with
  | .tmp t => slotE t
  | .const v => match ofValue v with
    | some x => ⟨fun _ => some x⟩
    | none => ⟨fun _ => none⟩
  | .global g => ⟨fun _ => some (.ptr (2097152 + g) 0)⟩
  | .func f => ⟨fun _ => some (.fn (.func f) [] [])⟩
noncomputable def ev1 {β : Type} (x : Operand) (F : (Tmps → Option AV) → β) : β := @Ev.rec (fun _ => β) F (evS x)

structure Evs where
  f : Tmps → Option (List AV)
noncomputable def evL : List Operand → Evs
  | [] => ⟨fun _ => some []⟩
  | x :: xs => ⟨fun a => @Option.rec AV (fun _ => Option (List AV)) none (fun v => @Option.rec (List AV) (fun _ => Option (List AV)) none (fun vs => some (v :: vs)) ((evL xs).f a)) ((evS x).f a)⟩

/-! ints -/
noncomputable def kMax (k : IntKind) : Nat := @IntKind.rec (fun _ => Nat) 0 0 2147483647 9223372036854775807 255 65535 4294967295 18446744073709551615 k
noncomputable def kNum (k : IntKind) : Nat := @IntKind.rec (fun _ => Nat) 0 1 2 3 4 5 6 7 k
noncomputable def kEq (k k' : IntKind) : Bool := Nat.beq (kNum k) (kNum k')
/-- a number that is worked out now -/
noncomputable def natI (k : IntKind) (n : Nat) : Option AV := @Nat.rec (fun _ => Option AV) (some (.int k (.ofNat 0))) (fun m _ => some (.int k (.ofNat (Nat.succ m)))) n
noncomputable def forceI (k : IntKind) (z : Int) : Option AV := @Int.rec (fun _ => Option AV) (fun n => natI k n) (fun n => @Nat.rec (fun _ => Option AV) (some (.int k (.negSucc 0))) (fun m _ => some (.int k (.negSucc (Nat.succ m)))) n) z

structure IOp where
  f : IntKind → Int → Int → Option AV
noncomputable def natOp (nn : IntKind → Nat → Nat → Option AV) (slow : IntKind → Int → Int → Option AV) : IOp :=
  ⟨fun k x y => @Int.rec (fun _ => Option AV) (fun a => @Int.rec (fun _ => Option AV) (fun b => nn k a b) (fun _ => slow k x y) y) (fun _ => slow k x y) x⟩
noncomputable def sumS (k : IntKind) (s : Nat) (z : Int) : Option AV := @Bool.rec (fun _ => Option AV) (forceI k (wrapA k z)) (natI k s) (Nat.ble s (kMax k))
noncomputable def boolS (b : Bool) : Option AV := @Bool.rec (fun _ => Option AV) (some (.bool false)) (some (.bool true)) b
noncomputable def iopS : BinOp → IOp
  | .add => natOp (fun k a b => sumS k (Nat.add a b) (Int.ofNat (Nat.add a b))) (fun k x y => forceI k (wrapA k (Int.add x y)))
  | .sub => natOp (fun k a b => @Bool.rec (fun _ => Option AV) (forceI k (wrapA k (Int.sub (.ofNat a) (.ofNat b)))) (sumS k (Nat.sub a b) (Int.ofNat (Nat.sub a b))) (Nat.ble b a)) (fun k x y => forceI k (wrapA k (Int.sub x y)))
  | .mul => natOp (fun k a b => sumS k (Nat.mul a b) (Int.ofNat (Nat.mul a b))) (fun k x y => forceI k (wrapA k (Int.mul x y)))
  | .quo => natOp (fun k a b => @Nat.rec (fun _ => Option AV) none (fun m _ => sumS k (Nat.div a (Nat.succ m)) (Int.ofNat (Nat.div a (Nat.succ m)))) b) (fun k x y => intBin .quo k x y)
  | .rem => natOp (fun k a b => @Nat.rec (fun _ => Option AV) none (fun m _ => natI k (Nat.mod a (Nat.succ m))) b) (fun k x y => intBin .rem k x y)
  | .eql => natOp (fun _ a b => boolS (Nat.beq a b)) (fun _ x y => some (.bool (eqI x y)))
  | .neq => natOp (fun _ a b => boolS (@Bool.rec (fun _ => Bool) true false (Nat.beq a b))) (fun _ x y => some (.bool (!eqI x y)))
  | .lss => natOp (fun _ a b => boolS (Nat.ble (Nat.succ a) b)) (fun _ x y => some (.bool (ltI x y)))
  | .leq => natOp (fun _ a b => boolS (Nat.ble a b)) (fun _ x y => some (.bool (!ltI y x)))
  | .gtr => natOp (fun _ a b => boolS (Nat.ble (Nat.succ b) a)) (fun _ x y => some (.bool (ltI y x)))
  | .geq => natOp (fun _ a b => boolS (Nat.ble b a)) (fun _ x y => some (.bool (!ltI x y)))
  | op => ⟨fun k x y => intBin op k x y⟩

noncomputable def strEqR (a b : List Nat) : Bool :=
  @List.rec Nat (fun _ => List Nat → Bool) (fun b => @List.rec Nat (fun _ => Bool) true (fun _ _ _ => false) b)
    (fun x _ ih b => @List.rec Nat (fun _ => Bool) false (fun y b' _ => @Bool.rec (fun _ => Bool) false (ih b') (Nat.beq (Nat.mod x 256) (Nat.mod y 256))) b) a b
structure SOp where
  f : List Nat → List Nat → Option AV
noncomputable def sopS : BinOp → SOp
  | .eql => ⟨fun a b => boolS (strEqR a b)⟩
  | .neq => ⟨fun a b => boolS (@Bool.rec (fun _ => Bool) true false (strEqR a b))⟩
  | op => ⟨fun a b => strBin op a b⟩

structure Bin where
  f : AV → AV → Option AV
noncomputable def binS (P : Program) (op : BinOp) (t : TypeId) : Bin := match op with
  | .shl => ⟨fun x y => binA P .shl t x y⟩
  | .shr => ⟨fun x y => binA P .shr t x y⟩
  | op => ⟨fun x y => @IntV.rec (fun _ => Option AV) (@StrV.rec (fun _ => Option AV) (binA P op t x y) (fun s => @StrV.rec (fun _ => Option AV) (binA P op t x y) (fun s' => (sopS op).f s s') (asStr y)) (asStr x))
      (fun k z => @IntV.rec (fun _ => Option AV) (binA P op t x y) (fun k' z' => @Bool.rec (fun _ => Option AV) none ((iopS op).f k z z') (kEq k k')) (asInt y)) (asInt x)⟩

/-! memory -/
noncomputable def getH (h : Heap) (b : Nat) : Option Blk := @Heap.rec (fun _ => Option Blk) (fun _ _ _ t => T.getN t b) h
noncomputable def onCells (h : Heap) (b : Nat) (f : List AV → Option AV) : Option AV :=
  @Option.rec Blk (fun _ => Option AV) none (fun x => @Blk.rec (fun _ => Option AV) (fun _ cs _ => f cs) (fun _ _ => none) none (fun cs => f cs) (fun _ _ _ _ _ => none) (fun _ _ _ => none) x) (getH h b)
noncomputable def putH (h : Heap) (b : Nat) (x : Blk) : Heap := @Heap.rec (fun _ => Heap) (fun n l w t => Heap.mk n l (b :: w) (T.putN (Nat.succ b) t b x)) h
noncomputable def pushH (h : Heap) (x : Blk) : Heap := @Heap.rec (fun _ => Heap) (fun n l w t => Heap.mk (Nat.succ n) l w (T.putN (Nat.succ n) t n x)) h
noncomputable def nextH (h : Heap) : Nat := @Heap.rec (fun _ => Nat) (fun n _ _ _ => n) h
noncomputable def aggO (x : Option (List AV)) : Option AV := @Option.rec (List AV) (fun _ => Option AV) none (fun cs => some (.agg cs)) x

structure PartS where
  f : List AV → Nat → Option AV
/-- the part of a type -/
noncomputable def partS (P : Program) (t : TypeId) : PartS := match isAgg P t with
  | some true => match sizeOf P t with
    | some n => ⟨fun cs off => aggO (takeR n (dropR off cs))⟩
    | none => ⟨fun _ _ => none⟩
  | some false => ⟨fun cs off => nthR cs off⟩
  | none => ⟨fun _ _ => none⟩

structure LoadS where
  f : Heap → Nat → Nat → Option AV
noncomputable def loadS (P : Program) (t : TypeId) : LoadS := match isAgg P t with
  | some true => match sizeOf P t with
    | some 0 => ⟨fun _ _ _ => some (.agg [])⟩
    | some n => ⟨fun h b off => onCells h b fun cs => aggO (takeR n (dropR off cs))⟩
    | none => ⟨fun _ _ _ => none⟩
  | some false => ⟨fun h b off => onCells h b fun cs => nthR cs off⟩
  | none => ⟨fun _ _ _ => none⟩

/-- an operation that leaves the heap as it is -/
structure Pure where
  f : Tmps → Heap → Option AV

noncomputable def lenS (P : Program) (t : TypeId) (x : Operand) : Option Pure := match P.underlying t with
  | some (.slice _) => some (ev1 x fun ex => ⟨fun a _ => bindO (ex a) fun v => @AV.rec (fun _ => Option AV) (fun _ => PUnit) (fun _ => none) (fun _ _ => none) (fun _ => none) none (fun _ _ => none) (some (.int .i64 (.ofNat 0))) (fun _ _ n _ => some (.int .i64 (.ofNat n))) none (fun _ => none) none (fun _ _ _ _ _ => none) none (fun _ _ _ => none) (fun _ _ => none) (fun _ _ => none) (some (.int .i64 (.ofNat 0))) PUnit.unit (fun _ _ _ _ => PUnit.unit) v⟩)
  | some .string => some (ev1 x fun ex => ⟨fun a _ => bindO (ex a) fun v => onStr v fun s => some (.int .i64 (.ofNat (lenR s)))⟩)
  | _ => none

noncomputable def idxAddrS (P : Program) (t : TypeId) (x i : Operand) : Option Pure := match P.underlying t with
  | some (.slice e) => match sizeOf P e with
    | some n => some (ev1 x fun ex => ev1 i fun ei => ⟨fun a _ => bindO (ex a) fun v => bindO (ei a) fun w => onInt w fun _ z => @Int.rec (fun _ => Option AV)
        (fun j => onSlc v fun b off len _ => @Bool.rec (fun _ => Option AV) none (some (.ptr b (Nat.add off (Nat.mul j n)))) (Nat.ble (Nat.succ j) len)) (fun _ => none) z⟩)
    | none => none
  | some (.array len e) => match sizeOf P e with
    | some n => some (ev1 x fun ex => ev1 i fun ei => ⟨fun a _ => bindO (ex a) fun v => bindO (ei a) fun w => onInt w fun _ z => @Int.rec (fun _ => Option AV)
        (fun j => onPtr v fun b off => @Bool.rec (fun _ => Option AV) none (some (.ptr b (Nat.add off (Nat.mul j n)))) (Nat.ble (Nat.succ j) len)) (fun _ => none) z⟩)
    | none => none
  | _ => none

noncomputable def idxS (P : Program) (t : TypeId) (x i : Operand) : Option Pure := match P.underlying t with
  | some (.array len e) => match sizeOf P e with
    | some n => some (ev1 x fun ex => ev1 i fun ei => ⟨fun a _ => bindO (ex a) fun v => bindO (ei a) fun w => onInt w fun _ z => @Int.rec (fun _ => Option AV)
        (fun j => onAgg v fun cs => @Bool.rec (fun _ => Option AV) none ((partS P e).f cs (Nat.mul j n)) (Nat.ble (Nat.succ j) len)) (fun _ => none) z⟩)
    | none => none
  | some .string => some (ev1 x fun ex => ev1 i fun ei => ⟨fun a _ => bindO (ex a) fun v => bindO (ei a) fun w => onInt w fun _ z => @Int.rec (fun _ => Option AV)
        (fun j => onStr v fun s => @Option.rec Nat (fun _ => Option AV) none (fun b => some (.int .u8 (.ofNat (Nat.mod b 256)))) (nthR s j)) (fun _ => none) z⟩)
  | _ => none

/-! append -/
noncomputable def getCells' (h : Heap) (b : Nat) (f : TypeId → List AV → Bool → Option ORes) : Option ORes :=
  @Option.rec Blk (fun _ => Option ORes) none (fun x => @Blk.rec (fun _ => Option ORes) (fun t cs o => f t cs o) (fun _ _ => none) none (fun _ => none) (fun _ _ _ _ _ => none) (fun _ _ _ => none) x) (getH h b)
noncomputable def loadR (h : Heap) (b off n : Nat) : Option (List AV) :=
  @Bool.rec (fun _ => Option (List AV)) (@Option.rec Blk (fun _ => Option (List AV)) none (fun x => @Blk.rec (fun _ => Option (List AV)) (fun _ cs _ => takeR n (dropR off cs)) (fun _ _ => none) none (fun cs => takeR n (dropR off cs)) (fun _ _ _ _ _ => none) (fun _ _ _ => none) x) (getH h b)) (some []) (Nat.beq n 0)
noncomputable def bytesR (l : List Nat) : List AV := @List.rec Nat (fun _ => List AV) [] (fun b _ ih => .int .u8 (.ofNat (Nat.mod b 256)) :: ih) l
/-- the cells of what is appended -/
noncomputable def newR (h : Heap) (sz : Nat) (x : AV) (f : Nat → List AV → Option ORes) : Option ORes :=
  @SlcV.rec (fun _ => Option ORes) none (f 0 [])
    (fun b off n _ => @Option.rec (List AV) (fun _ => Option ORes) none (fun cs => @Bool.rec (fun _ => Option ORes) none (@Bool.rec (fun _ => Option ORes) none (f n cs) (plainAll cs)) (Nat.ble n 10000000)) (loadR h b off (Nat.mul n sz)))
    (fun s => @Bool.rec (fun _ => Option ORes) none (@Bool.rec (fun _ => Option ORes) none (f (lenR s) (bytesR s)) (Nat.ble (lenR s) 10000000)) (Nat.beq sz 1)) (f 0 []) (asSlc x)
noncomputable def appS (e : TypeId) (sz : Nat) (h : Heap) (s : AV) (n : Nat) (new : List AV) : Option ORes :=
  @SlcV.rec (fun _ => Option ORes) none
    (@Nat.rec (fun _ => Option ORes) (some (.val .nils h)) (fun _ _ => some (.val (.slc (nextH h) 0 n (.upto sz n)) (pushH h (.cells e new true)))) n)
    (fun b off len cap => @Cap.rec (fun _ => Option ORes)
      (fun c => @Bool.rec (fun _ => Option ORes)
        (@Bool.rec (fun _ => Option ORes) none (@Option.rec (List AV) (fun _ => Option ORes) none (fun old => some (.val (.slc (nextH h) 0 (Nat.add len n) (.upto sz (Nat.add len n))) (pushH h (.cells e (appR old new) true)))) (loadR h b off (Nat.mul len sz))) (Nat.ble len 10000000))
        (@List.rec AV (fun _ => Option ORes) (some (.val (.slc b off (Nat.add len n) (.exact c)) h))
          (fun _ _ _ => getCells' h b fun t cs opn => @Option.rec (List AV) (fun _ => Option ORes) none (fun cs' => some (.val (.slc b off (Nat.add len n) (.exact c)) (putH h b (.cells t cs' opn)))) (spliceR new cs (Nat.add off (Nat.mul len sz)))) new)
        (Nat.ble (Nat.add len n) c))
      (fun sz' c0 => @Nat.rec (fun _ => Option ORes) (some (.val s h)) (fun _ _ => @Bool.rec (fun _ => Option ORes) none (@Bool.rec (fun _ => Option ORes) none
          (@Bool.rec (fun _ => Option ORes) (getCells' h b fun _ cs opn => @Bool.rec (fun _ => Option ORes) none (@Bool.rec (fun _ => Option ORes) none
            (some (.val (.slc (nextH h) 0 (Nat.add len n) (.upto sz (Nat.add len n))) (pushH (putH h b .dead) (.cells e (appR (dropR off cs) new) true)))) (Nat.beq (lenR cs) (Nat.add off (Nat.mul len sz)))) opn)
            (@List.rec AV (fun _ => Option ORes) (some (.val (.slc b off (Nat.add len n) (.upto sz' c0)) h))
              (fun _ _ _ => getCells' h b fun t cs opn => @Option.rec (List AV) (fun _ => Option ORes) none (fun cs' => some (.val (.slc b off (Nat.add len n) (.upto sz' c0)) (putH h b (.cells t cs' opn)))) (spliceR new cs (Nat.add off (Nat.mul len sz)))) new)
            (Nat.ble (Nat.add len n) c0)) (Nat.beq sz' sz)) (Nat.ble len 10000000)) n) cap)
    (fun _ => none) none (asSlc s)

/-- where an append is one of slices whose cells are of a known size: the elements' type, the size -/
def appendOk (P : Program) (st xt : TypeId) : Option (TypeId × Nat) :=
  match P.underlying st, P.underlying xt with
  | some (.slice e), some xd => match xd with
    | .int _ => none
    | _ => match P.info? e, zeroOf P e with
      | some i, some z => if i.size = 0 ∨ i.bytes > 65536 ∨ z.cells.length ≠ i.size then none else some (e, i.size)
      | _, _ => none
  | _, _ => none

/-! slices -/
noncomputable def bndR (f : Nat → Option AV) (v : AV) : Option AV := onInt v fun _ z => @Int.rec (fun _ => Option AV) (fun n => f n) (fun _ => none) z
structure BndS where
  f : Tmps → Nat → (Nat → Option AV) → Option AV
noncomputable def bndS : Option Operand → BndS
  | none => ⟨fun _ d f => f d⟩
  | some x => ⟨fun a _ f => bindO ((evS x).f a) fun v => bndR f v⟩
noncomputable def strPart (l h : Nat) (s : List Nat) : List Nat :=
  @List.rec Nat (fun _ => Nat → Nat → List Nat) (fun _ _ => []) (fun x _ ih l n => @Nat.rec (fun _ => List Nat) (@Nat.rec (fun _ => List Nat) [] (fun m _ => x :: ih 0 m) n) (fun l' _ => ih l' n) l) s l (Nat.sub h l)
noncomputable def sliceS (P : Program) (t : TypeId) (x : Operand) (lo hi : Option Operand) : Option Pure := match P.underlying t with
  | some (.slice e) => match sizeOf P e with
    | some (n + 1) => some ⟨fun a h => bindO ((evS x).f a) fun v => @SlcV.rec (fun _ => Option AV) none
        ((bndS hi).f a 0 fun m => (bndS lo).f a 0 fun l => @Bool.rec (fun _ => Option AV) none (some .nils) (Nat.beq (Nat.add m l) 0))
        (fun b off len cap => (bndS hi).f a len fun m => (bndS lo).f a 0 fun l => @Bool.rec (fun _ => Option AV) none (@Cap.rec (fun _ => Option AV)
          (fun c => @Bool.rec (fun _ => Option AV) none (some (.slc b (@Bool.rec (fun _ => Nat) (Nat.add off (Nat.mul l (Nat.succ n))) off (Nat.beq c l)) (Nat.sub m l) (.exact (Nat.sub c l)))) (Nat.ble m c))
          (fun sz c0 => @Bool.rec (fun _ => Option AV) none (@Bool.rec (fun _ => Option AV) none (@Bool.rec (fun _ => Option AV) (some .emp) (some (.slc b (Nat.add off (Nat.mul l (Nat.succ n))) (Nat.sub m l) (.upto sz (Nat.sub c0 l)))) (@Nat.rec (fun _ => Bool) true (fun l' _ => Nat.ble (Nat.succ (Nat.succ l')) c0) l)) (Nat.beq sz (Nat.succ n))) (Nat.ble m c0)) cap) (Nat.ble l m))
        (fun _ => none) ((bndS hi).f a 0 fun m => (bndS lo).f a 0 fun l => @Bool.rec (fun _ => Option AV) none (some .emp) (Nat.beq (Nat.add m l) 0)) (asSlc v)⟩
    | _ => none
  | some .string => some ⟨fun a h => bindO ((evS x).f a) fun v => onStr v fun s => (bndS hi).f a (lenR s) fun m => (bndS lo).f a 0 fun l =>
      @Bool.rec (fun _ => Option AV) none (@Bool.rec (fun _ => Option AV) none (some (.str (strPart l m s))) (Nat.ble m (lenR s))) (Nat.ble l m)⟩
  | _ => none

/-! maps -/
structure KeyS where
  f : AV → AV → Option Bool
noncomputable def keyS (kd : TypeDesc) : KeyS := match kd with
  | .string => ⟨fun k x => @StrV.rec (fun _ => Option Bool) none (fun s => @StrV.rec (fun _ => Option Bool) none (fun s' => some (strEqR s s')) (asStr x)) (asStr k)⟩
  | kd => ⟨fun k x => keyEq kd k x⟩
inductive FV where
  | bad
  | miss
  | hit (i : Nat) (v : AV)
noncomputable def findR (q : AV → Option Bool) (es : List (AV × AV × Nat)) (i : Nat) : FV :=
  @List.rec (AV × AV × Nat) (fun _ => Nat → FV) (fun _ => .miss)
    (fun e _ ih i => @Option.rec Bool (fun _ => FV) .bad (fun b => @Bool.rec (fun _ => FV) (ih (Nat.succ i)) (.hit i e.2.1) b) (q e.1)) es i

inductive MapV where
  | no
  | nilm
  | map (b : Nat)
noncomputable def asMap (v : AV) : MapV := @AV.rec (fun _ => MapV) (fun _ => PUnit) (fun _ => .no) (fun _ _ => .no) (fun _ => .no) .no (fun _ _ => .no) .no (fun _ _ _ _ => .no) .nilm (fun b => .map b) .no (fun _ _ _ _ _ => .no) .no (fun _ _ _ => .no) (fun _ _ => .no) (fun _ _ => .no) .no PUnit.unit (fun _ _ _ _ => PUnit.unit) v

noncomputable def okAV (ok : Bool) (v : AV) (b : Bool) : AV := @Bool.rec (fun _ => AV) v (.tup [v, .bool b]) ok
noncomputable def lookS (P : Program) (t : TypeId) (x k : Operand) (ok : Bool) : Option Pure := match P.underlying t with
  | some (.map kt et) => match P.underlying kt with
    | some kd => match plainKey kd with
      | true => match zeroOf P et with
        | some z => some ⟨fun a h => bindO ((evS x).f a) fun m => bindO ((evS k).f a) fun key => @MapV.rec (fun _ => Option AV) none (some (okAV ok z false))
            (fun b => @Option.rec Blk (fun _ => Option AV) none (fun bk => @Blk.rec (fun _ => Option AV) (fun _ _ _ => none)
              (fun es _ => @FV.rec (fun _ => Option AV) none (some (okAV ok z false)) (fun _ v => some (okAV ok v true)) (findR ((keyS kd).f key) es 0)) none (fun _ => none) (fun _ _ _ _ _ => none) (fun _ _ _ => none) bk) (getH h b)) (asMap m)⟩
        | none => none
      | false => none
    | none => none
  | _ => none

noncomputable def pureS (P : Program) (o : Op) : Option Pure := match o with
  | .move x => some (ev1 x fun ex => ⟨fun a _ => ex a⟩)
  | .assign x => some (ev1 x fun ex => ⟨fun a _ => ex a⟩)
  | .pick c x y => some (ev1 c fun ec => (ev1 y fun ey => (ev1 x fun ex => ⟨fun a _ => bindO (ec a) fun v => onBool v fun b => @Bool.rec (fun _ => Option AV) (ey a) (ex a) b⟩)))
  | .load t x => some (ev1 x fun ex => ⟨fun a h => bindO (ex a) fun v => onPtr v fun b off => (loadS P t).f h b off⟩)
  | .binOp op t x y _ => some (ev1 x fun ex => (ev1 y fun ey => ⟨fun a _ => bindO (ex a) fun v => bindO (ey a) fun w => (binS P op t).f v w⟩))
  | .unOp .not _ x => some (ev1 x fun ex => ⟨fun a _ => bindO (ex a) fun v => onBool v fun b => @Bool.rec (fun _ => Option AV) (some (.bool true)) (some (.bool false)) b⟩)
  | .fieldAddr t x f => match P.underlying t with
    | some (.struct fs) => match nth fs.toList f with
      | some fd => match sizeOf P fd.type with
        | some (_ + 1) => some (ev1 x fun ex => ⟨fun a _ => bindO (ex a) fun v => onPtr v fun b off => some (.ptr b (Nat.add off fd.offset))⟩)
        | _ => none
      | none => none
    | _ => none
  | .field t x f => match P.underlying t with
    | some (.struct fs) => match nth fs.toList f with
      | some fd => some (ev1 x fun ex => ⟨fun a _ => bindO (ex a) fun v => onAgg v fun cs => (partS P fd.type).f cs fd.offset⟩)
      | none => none
    | _ => none
  | .indexAddr t x i => idxAddrS P t x i
  | .index t x i => idxS P t x i
  | .slice t x lo hi none => sliceS P t x lo hi
  | .lookup t x k ok => lookS P t x k ok
  | .extract t i => some (ev1 t fun et => ⟨fun a _ => bindO (et a) fun v => onTup v fun vs => nthR vs i⟩)
  | .call c => match c.callee with
    | .builtin .len => match c.argTypes.toList, c.args.toList with
      | t :: _, [x] => lenS P t x
      | _, _ => none
    | _ => none
  | _ => none

/-- any operation -/
structure OpS where
  f : Tmps → Heap → Option ORes

structure PartsS where
  f : Tmps → Option (List (Nat × AV))
noncomputable def partsS : List (Nat × Operand) → PartsS
  | [] => ⟨fun _ => some []⟩
  | (i, x) :: xs => ⟨fun a => @Option.rec AV (fun _ => Option (List (Nat × AV))) none (fun v => @Option.rec (List (Nat × AV)) (fun _ => Option (List (Nat × AV))) none (fun vs => some ((i, v) :: vs)) ((partsS xs).f a)) ((evS x).f a)⟩

noncomputable def fillR (place : Nat → Option (Nat × Nat)) (parts : List (Nat × AV)) (cells : List AV) : Option (List AV) :=
  @List.rec (Nat × AV) (fun _ => List AV → Option (List AV)) (fun cells => some cells)
    (fun p _ ih cells => @Prod.rec Nat AV (fun _ => Option (List AV)) (fun i v => @Option.rec (Nat × Nat) (fun _ => Option (List AV)) none
      (fun q => @Prod.rec Nat Nat (fun _ => Option (List AV)) (fun off size => 
        @Bool.rec (fun _ => Option (List AV)) none
          (@Bool.rec (fun _ => Option (List AV)) none
            (@Option.rec (List AV) (fun _ => Option (List AV)) none (fun cs => ih cs) (spliceR (cellsR v) cells off))
            (Nat.ble (Nat.add off size) (lenR cells)))
          (Nat.beq (lenR (cellsR v)) size)) q) (place i)) p) parts cells

noncomputable def forceN {β : Type} (n : Nat) (k : Nat → β) : β := @Nat.rec (fun _ => β) (k 0) (fun m _ => k (Nat.succ m)) n
/-- what the plain operation says, its numbers worked out now -/
noncomputable def normO (x : Option ORes) : Option ORes :=
  @Option.rec ORes (fun _ => Option ORes) none (fun r => @ORes.rec (fun _ => Option ORes)
    (fun v h => @Heap.rec (fun _ => Option ORes) (fun n l w t => forceN n fun n' => forceN l fun l' => some (.val v (Heap.mk n' l' w t))) h)
    (fun h => @Heap.rec (fun _ => Option ORes) (fun n l w t => forceN n fun n' => forceN l fun l' => some (.skip (Heap.mk n' l' w t))) h)
    (fun f args => some (.enter f args)) (fun b args => some (.round b args)) r) x

noncomputable def storeS (n : Nat) (v : AV) (b off : Nat) (h : Heap) : Option ORes :=
  @Bool.rec (fun _ => Option ORes) none
    (@Bool.rec (fun _ => Option ORes) none
      (@Option.rec Blk (fun _ => Option ORes) none (fun x => @Blk.rec (fun _ => Option ORes)
        (fun t cs opn => @Option.rec (List AV) (fun _ => Option ORes) none (fun cs' => some (.skip (putH h b (.cells t cs' opn)))) (spliceR (cellsR v) cs off))
        (fun _ _ => none) none (fun _ => none) (fun _ _ _ _ _ => none) (fun _ _ _ => none) x) (getH h b))
      (plainAll (cellsR v)))
    (Nat.beq (lenR (cellsR v)) n)

/-- an entry laid into a map -/
noncomputable def updS (P : Program) (t : TypeId) (m k x : Operand) : Option OpS := match P.underlying t with
  | some (.map kt _) => match P.underlying kt with
    | some kd => match plainKey kd with
      | true => some ⟨fun a h => bindOO ((evS m).f a) fun mv => bindOO ((evS k).f a) fun key => bindOO ((evS x).f a) fun v => @MapV.rec (fun _ => Option ORes) none none
          (fun b => @Option.rec Blk (fun _ => Option ORes) none (fun bk => @Blk.rec (fun _ => Option ORes) (fun _ _ _ => none)
            (fun es clock => @FV.rec (fun _ => Option ORes) none (some (.skip (putH h b (.map (appR es [(key, v, clock)]) (Nat.succ clock)))))
              (fun i _ => @Option.rec (AV × AV × Nat) (fun _ => Option ORes) none (fun e => some (.skip (putH h b (.map (es.set i (key, v, e.2.2)) clock)))) (nthR es i))
              (findR ((keyS kd).f key) es 0)) none (fun _ => none) (fun _ _ _ _ _ => none) (fun _ _ _ => none) bk) (getH h b)) (asMap mv)⟩
      | false => none
    | none => none
  | _ => none

noncomputable def opS (P : Program) (o : Oper) : OpS := match o.op with
  | .store t x y => match sizeOf P t with
    | some (n + 1) => (ev1 x fun ex => (ev1 y fun ey => ⟨fun a h => bindOO (ex a) fun p => bindOO (ey a) fun v => onPtrO p fun b off => storeS (n + 1) v b off h⟩))
    | _ => ⟨fun a h => normO (opA P h a o)⟩
  | .alloc t => match zeroOf P t with
    | some z => ⟨fun _ h => some (.val (.ptr (nextH h) 0) (pushH h (.cells t z.cells false)))⟩
    | none => ⟨fun _ _ => none⟩
  | .box t x => (ev1 x fun ex => ⟨fun a h => bindOO (ex a) fun v => @Bool.rec (fun _ => Option ORes) none (some (.val (.ptr (nextH h) 0) (pushH h (.cells t (cellsR v) false)))) (plainAll (cellsR v))⟩)
  | .build t parts => match zeroOf P t, P.underlying t with
    | some z, some (.struct fs) => match fieldPlaces P fs.toList with
      | some ps => ⟨fun a h => @Option.rec (List (Nat × AV)) (fun _ => Option ORes) none (fun l => @Option.rec (List AV) (fun _ => Option ORes) none (fun cs => some (.val (.agg cs) h)) (fillR (nthR ps) l z.cells)) ((partsS parts.toList).f a)⟩
      | none => ⟨fun a h => normO (opA P h a o)⟩
    | _, _ => ⟨fun a h => normO (opA P h a o)⟩
  | .buildSlice t len parts => match P.underlying t with
    | some (.slice e) => match sizeOf P e, zeroOf P e with
      | some n, some z => match Nat.ble (len * n) 16777216 && !Nat.beq n 0 && Nat.beq z.cells.length n with
        | true => ⟨fun a h => @Option.rec (List (Nat × AV)) (fun _ => Option ORes) none (fun l => @Option.rec (List AV) (fun _ => Option ORes) none (fun cs => some (.val (.slc (nextH h) 0 len (.exact len)) (pushH h (.cells e cs false)))) (fillR (fun i => some (Nat.mul i n, n)) l (repeatL len z.cells))) ((partsS parts.toList).f a)⟩
        | false => ⟨fun a h => normO (opA P h a o)⟩
      | _, _ => ⟨fun a h => normO (opA P h a o)⟩
    | _ => ⟨fun a h => normO (opA P h a o)⟩
  | .call c => match c.callee with
    | .value (.func f) => match extOf P f with
      | some _ => ⟨fun a h => normO (opA P h a o)⟩
      | none => ⟨fun a _ => @Option.rec (List AV) (fun _ => Option ORes) none (fun args => some (.enter f args)) ((evL c.args.toList).f a)⟩
    | .value x => (ev1 x fun ex => ⟨fun a _ => bindOO (ex a) fun g => @FnV.rec (fun _ => Option ORes) none (fun f first cap => @Fn.rec (fun _ => Option ORes) (fun f => @Option.rec (List AV) (fun _ => Option ORes) none (fun args => some (.enter f (appR first (appR args cap)))) ((evL c.args.toList).f a)) (fun _ => none) (fun _ _ => none) (fun _ _ _ _ => none) (fun b => @List.rec AV (fun _ => Option ORes) (@List.rec AV (fun _ => Option ORes) (@Option.rec (List AV) (fun _ => Option ORes) none (fun args => some (.round b args)) ((evL c.args.toList).f a)) (fun _ _ _ => none) cap) (fun _ _ _ => none) first) f) (asFn g)⟩)
    | .builtin .append => match c.argTypes.toList, c.args.toList with
      | [st, xt], [s, x] => match appendOk P st xt with
        | some (e, sz) => (ev1 s fun es => (ev1 x fun ex => ⟨fun a h => bindOO (es a) fun v => bindOO (ex a) fun w => newR h sz w fun n new => appS e sz h v n new⟩))
        | none => ⟨fun a h => normO (opA P h a o)⟩
      | _, _ => ⟨fun a h => normO (opA P h a o)⟩
    | _ => ⟨fun a h => normO (opA P h a o)⟩
  | .mapUpdate t m k x => match updS P t m k x with
    | some u => u
    | none => ⟨fun a h => normO (opA P h a o)⟩
  | .insert t m k x => match updS P t m k x with
    | some u => u
    | none => ⟨fun a h => normO (opA P h a o)⟩
  | _ => ⟨fun a h => normO (opA P h a o)⟩

/-! results -/
inductive RV where
  | ok (v : AV) (h : Heap)
  | bad (s : String)
inductive RC where
  | normal (a : Tmps) (h : Heap)
  | exit (id : Nat) (a : Tmps) (h : Heap)
  | ret (a : Tmps) (h : Heap)
  | goto (l : Nat) (a : Tmps) (h : Heap)
  | bad (s : String)
def RV.ofR : R (AV × Heap) → RV
  | .ok (v, h) => .ok v h
  | .bad s => .bad s
def RV.toR : RV → R (AV × Heap)
  | .ok v h => .ok (v, h)
  | .bad s => .bad s
def RC.ofR : Res → RC
  | .ok (.normal, a, h) => .normal a h
  | .ok (.exit id, a, h) => .exit id a h
  | .ok (.ret, a, h) => .ret a h
  | .ok (.goto l, a, h) => .goto l a h
  | .bad s => .bad s

/-- what is called: a function, or the round of a loop -/
inductive Tgt where
  | fn (f : FuncId)
  | rnd (b : Nat)
def tgtF (P : Program) (self : Code → Tmps → Heap → Res) : Tgt → List AV → Heap → R (AV × Heap)
  | .fn f => callF P self f
  | .rnd b => roundF self b

abbrev Call' := Tgt → List AV → Heap → RV

/-! one operation after another -/
structure Step where
  f : Call' → Tmps → Heap → RC
noncomputable def limS (h : Heap) : Bool := @Heap.rec (fun _ => Bool) (fun n l _ _ => Nat.ble (Nat.succ n) l) h

noncomputable def guardS (ops : Array Oper) (o : Oper) (go skip : Step) : Step := match o.guard with
  | none => go
  | some (j, want) => match nth ops.toList j with
    | none => skip
    | some q => match q.dst with
      | none => skip
      | some d => match want with
        | true => ⟨fun c a h => @Option.rec AV (fun _ => RC) (.bad "guard") (fun v => @Option.rec Bool (fun _ => RC) (skip.f c a h) (fun b => @Bool.rec (fun _ => RC) (skip.f c a h) (go.f c a h) b) (asBool v)) ((slotE d).f a)⟩
        | false => ⟨fun c a h => @Option.rec AV (fun _ => RC) (.bad "guard") (fun v => @Option.rec Bool (fun _ => RC) (skip.f c a h) (fun b => @Bool.rec (fun _ => RC) (go.f c a h) (skip.f c a h) b) (asBool v)) ((slotE d).f a)⟩

noncomputable def goS (P : Program) (o : Oper) (next : Step) : Step :=
  @PutB.rec (fun _ => Step) (fun pt => @Step.rec (fun _ => Step) (fun nx => match pureS P o.op with
  | some p => @Pure.rec (fun _ => Step) (fun g => ⟨fun c a h => @Bool.rec (fun _ => RC) (.bad "lim") (@Option.rec AV (fun _ => RC) (.bad o.pos) (fun v => nx c (pt a v) h) (g a h)) (limS h)⟩) p
  | none => ⟨fun c a h => @Bool.rec (fun _ => RC) (.bad "lim") (@Option.rec ORes (fun _ => RC) (.bad o.pos) (fun r => @ORes.rec (fun _ => RC)
      (fun v h' => nx c (pt a v) h')
      (fun h' => nx c (pt a .undef) h')
      (fun f args => @RV.rec (fun _ => RC) (fun v h' => nx c (pt a v) h') (fun s => .bad s) (c (.fn f) args h))
      (fun b args => @RV.rec (fun _ => RC) (fun v h' => nx c (pt a v) h') (fun s => .bad s) (c (.rnd b) args h)) r) ((opS P o).f a h)) (limS h)⟩) next) (putB o.dst)

noncomputable def regS (P : Program) (ops : Array Oper) (l : List Oper) : Step :=
  @List.rec Oper (fun _ => Step) ⟨fun _ a h => .normal a h⟩
    (fun o _ ih => guardS ops o (goS P o ih) ⟨fun c a h => ih.f c ((putB o.dst).f a .undef) h⟩) l

/-! regions that draw -/
noncomputable def bitR (m k : Nat) : Bool := @Bool.rec (fun _ => Bool) true false (Nat.beq (Nat.land 1 (Nat.shiftRight m k)) 0)
noncomputable def bitsOf (m : Nat) (k n : Nat) : List Bool :=
  @Nat.rec (fun _ => Nat → List Bool) (fun _ => []) (fun _ ih k => bitR m k :: ih (Nat.succ k)) n k

noncomputable def lookTR (x : Nat) (acc : List En) (bs : List Bool) (r : Option AV) : Option AV :=
  @List.rec En (fun _ => List Bool → Option AV → Option AV) (fun _ r => r)
    (fun e _ ih bs r => @List.rec Bool (fun _ => Option AV) r
      (fun b bs' _ => ih bs' (@Bool.rec (fun _ => Option AV) r (@Option.rec Nat (fun _ => Option AV) r (fun d => @Bool.rec (fun _ => Option AV) r (some e.v) (Nat.beq d x)) e.dst) b)) bs) acc bs r

noncomputable def assocR (b : Nat) (l : List (Nat × Blk)) : Option Blk :=
  @List.rec (Nat × Blk) (fun _ => Option Blk) none (fun p _ ih => @Bool.rec (fun _ => Option Blk) ih (some p.2) (Nat.beq p.1 b)) l

noncomputable def lookHR (b : Nat) (acc : List En) (bs : List Bool) (r : Option Blk) : Option Blk :=
  @List.rec En (fun _ => List Bool → Option Blk → Option Blk) (fun _ r => r)
    (fun e _ ih bs r => @List.rec Bool (fun _ => Option Blk) r
      (fun d bs' _ => ih bs' (@Bool.rec (fun _ => Option Blk) r (@Option.rec Blk (fun _ => Option Blk) r (fun c => some c) (assocR b e.keys)) d)) bs) acc bs r

noncomputable def putsR (l : List (Nat × Blk)) (t : T Blk) : T Blk :=
  @List.rec (Nat × Blk) (fun _ => T Blk) t (fun p _ ih => T.putN (Nat.succ p.1) ih p.1 p.2) l

noncomputable def heapTR (acc : List En) (bs : List Bool) (t : T Blk) : T Blk :=
  @List.rec En (fun _ => List Bool → T Blk → T Blk) (fun _ t => t)
    (fun e _ ih bs t => @List.rec Bool (fun _ => T Blk) t (fun d bs' _ => ih bs' (@Bool.rec (fun _ => T Blk) t (putsR e.keys t) d)) bs) acc bs t

structure RestrB where
  f : List En → Tmps → T AV
noncomputable def restrTR (bs : List Bool) (l : List Nat) : RestrB :=
  @List.rec Nat (fun _ => RestrB) ⟨fun _ _ => .leaf⟩
    (fun x _ ih => ⟨fun acc a => @Option.rec AV (fun _ => T AV) (ih.f acc a) (fun v => (setB (pathF x x)).f v (ih.f acc a)) (lookTR x acc bs ((slotE x).f a))⟩) l

inductive FpV where
  | all
  | one (b : Nat)
noncomputable def ptrFp (v : Option AV) : FpV := @Option.rec AV (fun _ => FpV) .all (fun v => @AV.rec (fun _ => FpV) (fun _ => PUnit) (fun _ => .all) (fun _ _ => .all) (fun _ => .all) .all (fun b _ => .one b) .all (fun _ _ _ _ => .all) .all (fun _ => .all) .all (fun _ _ _ _ _ => .all) .all (fun _ _ _ => .all) (fun _ _ => .all) (fun _ _ => .all) .all PUnit.unit (fun _ _ _ _ => PUnit.unit) v) v
noncomputable def intFp (v : Option AV) : Bool := @Option.rec AV (fun _ => Bool) false (fun v => @AV.rec (fun _ => Bool) (fun _ => PUnit) (fun _ => false) (fun _ _ => true) (fun _ => false) false (fun _ _ => false) false (fun _ _ _ _ => false) false (fun _ => false) false (fun _ _ _ _ _ => false) false (fun _ _ _ => false) (fun _ _ => false) (fun _ _ => false) false PUnit.unit (fun _ _ _ _ => PUnit.unit) v) v
noncomputable def mapFp (v : Option AV) : Bool := @Option.rec AV (fun _ => Bool) false (fun v => @AV.rec (fun _ => Bool) (fun _ => PUnit) (fun _ => true) (fun _ _ => true) (fun _ => true) true (fun _ _ => true) true (fun _ _ _ _ => true) true (fun _ => false) true (fun _ _ _ _ _ => true) true (fun _ _ _ => true) (fun _ _ => true) (fun _ _ => true) true PUnit.unit (fun _ _ _ _ => PUnit.unit) v) v
inductive RD where
  | ok (es : List En) (base : Nat)
  | bad (s : String)
structure DrawB where
  f : Call' → Tmps → Nat → Nat → T Blk → T Blk → List En → Nat → RD

noncomputable def keysR (t : T Blk) (l : List Nat) : List (Nat × Blk) :=
  @List.rec Nat (fun _ => List (Nat × Blk)) [] (fun x _ ih => @Option.rec Blk (fun _ => List (Nat × Blk)) ih (fun c => (x, c) :: ih) (T.getN t x)) l
noncomputable def rangeR (b n : Nat) : List Nat := @Nat.rec (fun _ => Nat → List Nat) (fun _ => []) (fun _ ih b => b :: ih (Nat.succ b)) n b

noncomputable def slotOk (n : Nat) (d : Option Nat) : Bool := @Option.rec Nat (fun _ => Bool) true (fun d => Nat.ble (Nat.succ d) n) d

/-- what an operation gave, laid behind the others; nothing was written -/
noncomputable def nextD0 (next : DrawB) (o : Oper) (ment : List Nat) (c : Call') (a : Tmps) (n lim : Nat) (t cur : T Blk) (acc : List En) (base : Nat) (tr : T Blk) (v : AV) : RD :=
  @Bool.rec (fun _ => RD) (.bad "lim") (@Bool.rec (fun _ => RD) (.bad "slot")
    (next.f c a n lim t cur (appR acc [{ lo := base, hi := Nat.succ base, dst := o.dst, v, keys := [], ment, tr }]) (Nat.succ base)) (slotOk n o.dst)) (Nat.ble (Nat.succ base) lim)
noncomputable def nextD (next : DrawB) (o : Oper) (ment : List Nat) (c : Call') (a : Tmps) (n lim : Nat) (t cur : T Blk) (acc : List En) (base : Nat) (tr : T Blk) (v : AV) (h1 : Heap) : RD :=
  @Heap.rec (fun _ => RD) (fun n1 _ w1 t1 => @Bool.rec (fun _ => RD) (.bad "lim") (@Bool.rec (fun _ => RD) (.bad "slot")
    (next.f c a n lim t (putsR (keysR t1 (appR w1 (rangeR base (Nat.sub n1 base)))) cur) (appR acc [{ lo := base, hi := Nat.succ n1, dst := o.dst, v, keys := keysR t1 (appR w1 (rangeR base (Nat.sub n1 base))), ment, tr }]) (Nat.succ n1)) (slotOk n o.dst)) (Nat.ble (Nat.succ n1) lim)) h1

/-- whether all that wrote are among these -/
noncomputable def coversR (acc : List En) (bs : List Bool) : Bool :=
  @List.rec En (fun _ => List Bool → Bool) (fun _ => true)
    (fun e _ ih bs => @List.rec Bool (fun _ => Bool) false
      (fun d bs' _ => @Bool.rec (fun _ => Bool) (@List.rec (Nat × Blk) (fun _ => Bool) (ih bs') (fun _ _ _ => false) e.keys) (ih bs') d) bs) acc bs

structure TrB where
  f : Tmps → T Blk → T Blk → List En → T Blk
noncomputable def trS (bs : List Bool) (o : Op) : TrB := match o with
  | .load _ x | .store _ x _ => ⟨fun a' t cur acc => @FpV.rec (fun _ => T Blk) (@Bool.rec (fun _ => T Blk) (heapTR acc bs t) cur (coversR acc bs)) (fun b => @Option.rec Blk (fun _ => T Blk) .leaf (fun c => T.putN (Nat.succ b) .leaf b c) (@Bool.rec (fun _ => Option Blk) (lookHR b acc bs (T.getN t b)) (T.getN cur b) (coversR acc bs))) (ptrFp ((evS x).f a'))⟩
  | .convert _ _ x => ⟨fun a' t cur acc => @Bool.rec (fun _ => T Blk) (@Bool.rec (fun _ => T Blk) (heapTR acc bs t) cur (coversR acc bs)) .leaf (intFp ((evS x).f a'))⟩
  | .call c => match c.callee with
    | .builtin .min => ⟨fun _ _ _ _ => .leaf⟩
    | .builtin .max => ⟨fun _ _ _ _ => .leaf⟩
    | .builtin .len => match c.args.toList with
      | [] => ⟨fun _ t cur acc => @Bool.rec (fun _ => T Blk) (heapTR acc bs t) cur (coversR acc bs)⟩
      | x :: _ => ⟨fun a' t cur acc => @Bool.rec (fun _ => T Blk) (@Bool.rec (fun _ => T Blk) (heapTR acc bs t) cur (coversR acc bs)) .leaf (mapFp ((evS x).f a'))⟩
    | _ => ⟨fun _ t cur acc => @Bool.rec (fun _ => T Blk) (heapTR acc bs t) cur (coversR acc bs)⟩
  | .lookup .. | .mapUpdate .. | .insert .. => ⟨fun _ t cur acc => @Bool.rec (fun _ => T Blk) (heapTR acc bs t) cur (coversR acc bs)⟩
  | _ => ⟨fun _ _ _ _ => .leaf⟩

structure DrawG where
  f : Call' → Tmps → Nat → Nat → T Blk → T Blk → List En → Nat → Tmps → RD

noncomputable def guardD (ops : Array Oper) (o : Oper) (go skip : DrawG) : DrawG := match o.guard with
  | none => go
  | some (j, want) => match nth ops.toList j with
    | none => skip
    | some q => match q.dst with
      | none => skip
      | some d => match want with
        | true => ⟨fun c a n lim t cur acc base a' => @Option.rec AV (fun _ => RD) (.bad "guard") (fun v => @Option.rec Bool (fun _ => RD) (skip.f c a n lim t cur acc base a') (fun b => @Bool.rec (fun _ => RD) (skip.f c a n lim t cur acc base a') (go.f c a n lim t cur acc base a') b) (asBool v)) ((slotE d).f a')⟩
        | false => ⟨fun c a n lim t cur acc base a' => @Option.rec AV (fun _ => RD) (.bad "guard") (fun v => @Option.rec Bool (fun _ => RD) (skip.f c a n lim t cur acc base a') (fun b => @Bool.rec (fun _ => RD) (go.f c a n lim t cur acc base a') (skip.f c a n lim t cur acc base a') b) (asBool v)) ((slotE d).f a')⟩

noncomputable def goD (P : Program) (bs : List Bool) (o : Oper) (ment : List Nat) (next : DrawB) : DrawG := match pureS P o.op with
  | some p => ⟨fun c a n lim t cur acc base a' => @Bool.rec (fun _ => RD) (.bad "lim") (@Option.rec AV (fun _ => RD) (.bad o.pos)
      (fun v => nextD0 next o ment c a n lim t cur acc base ((trS bs o.op).f a' t cur acc) v) (p.f a' (Heap.mk base lim [] ((trS bs o.op).f a' t cur acc)))) (Nat.ble (Nat.succ base) lim)⟩
  | none => ⟨fun c a n lim t cur acc base a' => @Bool.rec (fun _ => RD) (.bad "lim") (@Option.rec ORes (fun _ => RD) (.bad o.pos) (fun r => @ORes.rec (fun _ => RD)
      (fun v h' => nextD next o ment c a n lim t cur acc base ((trS bs o.op).f a' t cur acc) v h')
      (fun h' => nextD next o ment c a n lim t cur acc base ((trS bs o.op).f a' t cur acc) .undef h')
      (fun f args => @RV.rec (fun _ => RD) (fun v h' => nextD next o ment c a n lim t cur acc base ((trS bs o.op).f a' t cur acc) v h') (fun s => .bad s) (c (.fn f) args (Heap.mk base lim [] ((trS bs o.op).f a' t cur acc))))
      (fun b args => @RV.rec (fun _ => RD) (fun v h' => nextD next o ment c a n lim t cur acc base ((trS bs o.op).f a' t cur acc) v h') (fun s => .bad s) (c (.rnd b) args (Heap.mk base lim [] ((trS bs o.op).f a' t cur acc)))) r) ((opS P o).f a' (Heap.mk base lim [] ((trS bs o.op).f a' t cur acc)))) (Nat.ble (Nat.succ base) lim)⟩

noncomputable def headR (ms : List Nat) : Nat := @List.rec Nat (fun _ => Nat) 0 (fun m _ _ => m) ms
noncomputable def tailR (ms : List Nat) : List Nat := @List.rec Nat (fun _ => List Nat) [] (fun _ ms _ => ms) ms

noncomputable def drawS (P : Program) (ops : Array Oper) (ms : List Nat) (l : List Oper) (i : Nat) : DrawB :=
  @List.rec Oper (fun _ => List Nat → Nat → DrawB) (fun _ _ => ⟨fun _ _ _ _ _ _ acc base => .ok acc base⟩)
    (fun o _ ih ms i => ⟨fun c a n lim t cur acc base =>
      (guardD ops o (goD P (bitsOf (headR ms) 0 i) o (mentOf ops o) (ih (tailR ms) (Nat.succ i)))
        ⟨fun c a n lim t cur acc base _ => nextD0 (ih (tailR ms) (Nat.succ i)) o (mentOf ops o) c a n lim t cur acc base .leaf .undef⟩).f c a n lim t cur acc base
        (Tmps.mk n false ((restrTR (bitsOf (headR ms) 0 i) (mentOf ops o)).f acc a))⟩) l ms i

/-! apartness: by the slots from the code alone, by the blocks where there are any -/
structure SEn where
  dst : Option Nat
  ment : List Nat
def chkTS (x y : SEn) : Bool :=
  (match x.dst with
   | some d => !memN d y.ment && (match y.dst with
     | some d' => !Nat.beq d d'
     | none => true)
   | none => true) &&
  (match y.dst with
   | some d => !memN d x.ment
   | none => true)
def chkOneT (e : SEn) (m : Nat) : List SEn → Nat → Bool
  | [], _ => true
  | x :: xs, k => (match Nat.testBit m k with
    | true => true
    | false => chkTS x e) && chkOneT e m xs (k + 1)
def chkAllT (ms : List Nat) : List SEn → List SEn → Bool
  | _, [] => true
  | acc, e :: es => chkOneT e (nthD ms acc.length) acc 0 && chkAllT ms (acc ++ [e]) es
def sensOf (ops : Array Oper) : List Oper → List SEn
  | [] => []
  | o :: l => { dst := o.dst, ment := mentOf ops o } :: sensOf ops l

noncomputable def chkH1R (t : T Blk) (ks : List (Nat × Blk)) (l : List (Nat × Blk)) : Bool :=
  @List.rec (Nat × Blk) (fun _ => Bool) true
    (fun p _ ih => @Option.rec Blk (fun _ => Bool) (@Option.rec Blk (fun _ => Bool) ih (fun _ => false) (assocR p.1 ks)) (fun _ => false) (T.getN t p.1)) l
noncomputable def chkHR (x y : En) : Bool :=
  @Bool.rec (fun _ => Bool) false (chkH1R x.tr x.keys y.keys) (chkH1R y.tr y.keys x.keys)
noncomputable def chkOneR (e : En) (acc : List En) (bs : List Bool) : Bool :=
  @List.rec En (fun _ => List Bool → Bool) (fun _ => true)
    (fun x _ ih bs => @List.rec Bool (fun _ => Bool) true (fun b bs' _ => @Bool.rec (fun _ => Bool) (@Bool.rec (fun _ => Bool) false (ih bs') (chkHR x e)) (ih bs') b) bs) acc bs
noncomputable def chkAllR (ms : List Nat) (es : List En) : Bool :=
  @List.rec En (fun _ => List Nat → List En → Nat → Bool) (fun _ _ _ => true)
    (fun e _ ih ms acc i => @Bool.rec (fun _ => Bool) false (ih (tailR ms) (appR acc [e]) (Nat.succ i)) (chkOneR e acc (bitsOf (headR ms) 0 i))) es ms [] 0

noncomputable def tmpsR (es : List En) (a : Tmps) : Tmps :=
  @List.rec En (fun _ => Tmps → Tmps) (fun a => a)
    (fun e _ ih a => ih (@Option.rec Nat (fun _ => Tmps) a (fun d => (slotP d).f a e.v) e.dst)) es a
noncomputable def heapAllR (es : List En) (t : T Blk) : T Blk :=
  @List.rec En (fun _ => T Blk → T Blk) (fun t => t) (fun e _ ih t => ih (putsR e.keys t)) es t
noncomputable def keysAllR (es : List En) : List Nat :=
  @List.rec En (fun _ => List Nat) [] (fun e _ ih => @List.rec (Nat × Blk) (fun _ => List Nat) ih (fun p _ ih' => p.1 :: ih') e.keys) es

/-- a region that draws -/
noncomputable def drawRS (P : Program) (ops : Array Oper) : Step := match P.follows .mixedOrders with
  | false => ⟨fun _ _ _ => .bad "mixed"⟩
  | true => match masksF ops.toList [] with
    | none => ⟨fun _ _ _ => .bad "edges"⟩
    | some ms => ⟨fun c a h => @Heap.rec (fun _ => RC) (fun hn lim wr t => @Tmps.rec (fun _ => RC) (fun n df ts => @RD.rec (fun _ => RC)
        (fun es base => @Bool.rec (fun _ => RC) (.bad "order")
          (@Bool.rec (fun _ => RC) (.bad "order")
            (@T.rec Blk (fun _ => RC) (.normal (tmpsR es (Tmps.mk n df ts)) (Heap.mk base lim (appR (keysAllR es) wr) .leaf))
              (fun l v r _ _ => .normal (tmpsR es (Tmps.mk n df ts)) (Heap.mk base lim (appR (keysAllR es) wr) (.node l v r))) (heapAllR es t)) (chkAllR ms es))
          (chkAllT ms [] (sensOf ops ops.toList)))
        (fun s => .bad s) ((drawS P ops ms ops.toList 0).f c (Tmps.mk n df ts) n lim t t [] hn)) a) h⟩

/-! code -/
abbrev Self' := Nat → Call'
structure BoxF where
  f : Self' → Nat → Tmps → Heap → RC
/-- what a piece of code does, and what it does from each of its labels on -/
structure Box where
  f : Self' → Nat → Tmps → Heap → RC
  lab : Nat → Option BoxF

noncomputable def seqF (x y : Self' → Nat → Tmps → Heap → RC) : Self' → Nat → Tmps → Heap → RC :=
  fun s n a h => @Nat.rec (fun _ => RC) (.bad "fuel") (fun m _ => @RC.rec (fun _ => RC) (fun a' h' => y s m a' h') RC.exit RC.ret RC.goto RC.bad (x s m a h)) n
noncomputable def nextF : Self' → Nat → Tmps → Heap → RC := fun _ n a h => @Nat.rec (fun _ => RC) (.bad "fuel") (fun _ _ => .normal a h) n

noncomputable def scopeR (lab : Nat → Option BoxF) (s : Self') (m : Nat) (k : Nat) : (Self' → Nat → Tmps → Heap → RC) → Tmps → Heap → RC :=
  @Nat.rec (fun _ => (Self' → Nat → Tmps → Heap → RC) → Tmps → Heap → RC) (fun _ _ _ => .bad "jumps")
    (fun _ ih cur a h => @RC.rec (fun _ => RC) RC.normal RC.exit RC.ret (fun l a' h' => @Option.rec BoxF (fun _ => RC) (.goto l a' h') (fun g => ih g.f a' h') (lab l)) RC.bad (cur s m a h)) k

/-- the code of a round, then the loop's record again -/
noncomputable def roundE (b : Nat) (ex : Ex) (h2 : Heap) : RV :=
  match getH h2 b with
  | some (.loop ps2 asg2 body2 t2 (some none)) => match ex with
    | .normal => .ok (.bool true) (putH h2 b (.loop ps2 asg2 body2 t2 none))
    | ex => .ok (.bool false) (putH h2 b (.loop ps2 asg2 body2 t2 (some (some ex))))
  | _ => .bad "round"

noncomputable def setParamsS : Tmps → List Nat → List AV → Tmps
  | a, p :: ps, v :: vs => setParamsS ((slotP p).f a v) ps vs
  | a, _, _ => a

def exOf (ex : Ex) (a : Tmps) (h : Heap) : RC := match ex with
  | .normal => .normal a h
  | .exit id => .exit id a h
  | .ret => .ret a h
  | .goto l => .goto l a h

/-- a range over a function -/
noncomputable def rangeS (f : Operand) (ps : List Nat) (asg body : Code) (s : Self') (m : Nat) (a : Tmps) (h : Heap) : RC :=
  match (evS f).f a with
  | some (.fn (.func g) first cap) => match limS h with
    | false => .bad "lim"
    | true => forceN (nextH h) fun b => match s m (.fn g) (appR (appR first [.fn (.yield b) [] []]) cap) (pushH h (.loop ps asg body a none)) with
      | .ok _ h2 => match getH h2 b with
        | some (.loop _ _ _ _ none) => .normal a (putH h2 b .dead)
        | some (.loop _ _ _ _ (some (some ex))) => exOf ex a (putH h2 b .dead)
        | _ => .bad "range"
      | .bad s => .bad s
  | _ => .bad "rangeFunc"

noncomputable def codeS (P : Program) (c : Code) : Box :=
  @Code.rec (fun _ => Box)
    ⟨nextF, fun _ => none⟩
    (fun _ ops draw => @Bool.rec (fun _ => Box)
      ⟨fun s n a h => @Nat.rec (fun _ => RC) (.bad "fuel") (fun m _ => (regS P ops ops.toList).f (s m) a h) n, fun _ => none⟩
      ⟨fun s n a h => @Nat.rec (fun _ => RC) (.bad "fuel") (fun m _ => (drawRS P ops).f (s m) a h) n, fun _ => none⟩ draw)
    (fun _ _ x y => ⟨seqF x.f y.f, fun l => @Option.rec BoxF (fun _ => Option BoxF) (y.lab l) (fun g => some ⟨seqF g.f y.f⟩) (x.lab l)⟩)
    (fun c _ _ x y => ⟨fun s n a h => @Nat.rec (fun _ => RC) (.bad "fuel") (fun m _ =>
      @Option.rec AV (fun _ => RC) (.bad "cond") (fun v => @Option.rec Bool (fun _ => RC) (.bad "cond") (fun b => @Bool.rec (fun _ => RC) (y.f s m a h) (x.f s m a h) b) (asBool v)) ((evS c).f a)) n, fun _ => none⟩)
    (fun id _ x => ⟨fun s n a h => @Nat.rec (fun _ => RC) (.bad "fuel") (fun m _ => @RC.rec (fun _ => RC) RC.normal (fun id' a' h' => @Bool.rec (fun _ => RC) (.exit id' a' h') (.normal a' h') (Nat.beq id' id)) RC.ret RC.goto RC.bad (x.f s m a h)) n, fun _ => none⟩)
    (fun _ x => ⟨fun s n => @Nat.rec (fun _ => Tmps → Heap → RC) (fun _ _ => .bad "fuel") (fun m ih a h => @RC.rec (fun _ => RC) ih RC.exit RC.ret RC.goto RC.bad (x.f s m a h)) n, fun _ => none⟩)
    (fun f ps x y _ _ => ⟨fun s n a h => @Nat.rec (fun _ => RC) (.bad "fuel") (fun m _ => rangeS f ps.toList x y s m a h) n, fun _ => none⟩)
    (fun id => ⟨fun _ n a h => @Nat.rec (fun _ => RC) (.bad "fuel") (fun _ _ => .exit id a h) n, fun _ => none⟩)
    (fun _ x => ⟨fun s n a h => @Nat.rec (fun _ => RC) (.bad "fuel") (fun m _ => scopeR x.lab s m 100000 x.f a h) n, fun _ => none⟩)
    (fun l => ⟨nextF, fun l' => @Bool.rec (fun _ => Option BoxF) none (some ⟨nextF⟩) (Nat.beq l l')⟩)
    (fun l => ⟨fun _ n a h => @Nat.rec (fun _ => RC) (.bad "fuel") (fun _ _ => .goto l a h) n, fun _ => none⟩)
    ⟨fun _ n a h => @Nat.rec (fun _ => RC) (.bad "fuel") (fun _ _ => .ret a h) n, fun _ => none⟩
    (fun w => ⟨fun _ n a h => RC.ofR (codeN P n (.refuse w) a h), fun _ => none⟩) c

structure ResS where
  f : Heap → Tmps → Option AV
noncomputable def resultsS (P : Program) (fn : Func) : ResS := match fn.results.toList with
  | [.tmp t] => ⟨fun _ a => (slotE t).f a⟩
  | _ => ⟨fun h a => resultsA P fn h a⟩

noncomputable def enterS (l : List AV) : T AV :=
  @List.rec AV (fun _ => Nat → T AV → T AV) (fun _ t => t) (fun v _ ih i t => ih (Nat.succ i) ((setB (pathF i i)).f v t)) l 0 .leaf

structure FnS where
  f : Self' → Nat → List AV → Heap → RV
noncomputable def fnS (P : Program) (f : FuncId) : FnS := match nth P.funcs.toList f with
  | none => ⟨fun _ _ _ _ => .bad "no func"⟩
  | some fn => match fn.body with
    | none => ⟨fun _ _ _ _ => .bad fn.name⟩
    | some body => ⟨fun s n args h => @RC.rec (fun _ => RV)
        (fun a h' => @Option.rec AV (fun _ => RV) (.bad "results") (fun v => .ok v h') ((resultsS P fn).f h' a))
        (fun _ _ _ => .bad "leaves")
        (fun a h' => @Option.rec AV (fun _ => RV) (.bad "results") (fun v => .ok v h') ((resultsS P fn).f h' a))
        (fun _ _ _ => .bad "leaves") (fun s => .bad s)
        ((codeS P body).f s n (Tmps.mk (Nat.add (lenR args) (Nat.sub fn.ntmps (lenR args))) true (enterS args)) h)⟩

/-- one round of a range over a function -/
noncomputable def roundS (P : Program) (s : Self') (n : Nat) (b : Nat) (args : List AV) (h : Heap) : RV :=
  match getH h b with
  | some (.loop ps asg body a none) => match Nat.beq (lenR args) (lenR ps) && noRange asg && noRange body with
    | false => .bad "round"
    | true => match (codeS P asg).f s n (setParamsS a ps args) h with
      | .normal a1 h1 => match getH h1 b with
        | some (.loop ps1 asg1 body1 t1 none) => match (codeS P body).f s n a1 (putH h1 b (.loop ps1 asg1 body1 t1 (some none))) with
          | .normal _ h2 => roundE b .normal h2
          | .exit id _ h2 => roundE b (.exit id) h2
          | .ret _ h2 => roundE b .ret h2
          | .goto l _ h2 => roundE b (.goto l) h2
          | .bad s => .bad s
        | _ => .bad "round"
      | .bad s => .bad s
      | _ => .bad "round"
  | _ => .bad "round"

noncomputable def runS (P : Program) (d : Nat) : Self' :=
  @Nat.rec (fun _ => Self') (fun _ _ _ _ => .bad "depth") (fun _ ih n t args h => @Tgt.rec (fun _ => RV) (fun f => (fnS P f).f ih n args h) (fun b => roundS P ih n b args h) t) d

noncomputable def trueS (r : RV) : Bool := @RV.rec (fun _ => Bool) (fun v _ => @Option.rec Bool (fun _ => Bool) false (fun b => b) (asBool v)) (fun _ => false) r
def whyS : RV → String
  | .ok (.bool true) _ => "TRUE"
  | .ok (.bool false) _ => "FALSE"
  | .ok .. => "OK"
  | .bad s => s
end Go.Sx

namespace Go.Sx

/-! ### The small steps are the plain ones -/

theorem orecE {α β : Type} (n : β) (f : α → β) (x : Option α) : @Option.rec α (fun _ => β) n f x = match x with | none => n | some v => f v := by cases x <;> rfl
theorem brecE {β : Type} (f t : β) (b : Bool) : @Bool.rec (fun _ => β) f t b = match b with | true => t | false => f := by cases b <;> rfl

theorem getN_eq {α : Type} (t : T α) (n : Nat) : T.getN t n = T.get t n := by
  induction t generalizing n with
  | leaf => rfl
  | node l v r ihl ihr =>
    cases n with
    | zero => rfl
    | succ m =>
      show @Bool.rec (fun _ => Option α) (T.getN r (m / 2)) (T.getN l (m / 2)) (Nat.beq (m % 2) 0) = _
      rw [ihl, ihr, brecE]; rfl

theorem putN_eq {α : Type} (d : Nat) (t : T α) (n : Nat) (x : α) : T.putN d t n x = T.put d t n x := by
  induction d generalizing t n with
  | zero => rfl
  | succ d ih =>
    cases n with
    | zero => cases t <;> rfl
    | succ m =>
      cases t with
      | leaf =>
        show @Bool.rec (fun _ => T α) (.node .leaf none (T.putN d .leaf (m / 2) x)) (.node (T.putN d .leaf (m / 2) x) none .leaf) (Nat.beq (m % 2) 0) = _
        rw [ih, brecE]; rfl
      | node l v r =>
        show @Bool.rec (fun _ => T α) (.node l v (T.putN d r (m / 2) x)) (.node (T.putN d l (m / 2) x) v r) (Nat.beq (m % 2) 0) = _
        rw [ih, ih, brecE]; rfl

theorem getB_eq (d n : Nat) (h : n ≤ d) (t : T AV) : (getB (pathF d n)).f t = T.get t n := by
  induction d generalizing n t with
  | zero => obtain rfl : n = 0 := by omega
            cases t <;> rfl
  | succ d ih =>
    cases n with
    | zero => cases t <;> rfl
    | succ m =>
      have hm : m / 2 ≤ d := by omega
      cases t with
      | leaf =>
        show (@Bool.rec (fun _ => GetB) ⟨_⟩ ⟨_⟩ (Nat.beq (m % 2) 0)).f .leaf = none
        cases Nat.beq (m % 2) 0 <;> rfl
      | node l v r =>
        show (@Bool.rec (fun _ => GetB) ⟨fun t => @T.rec AV (fun _ => Option AV) none (fun _ _ r _ _ => (getB (pathF d (m / 2))).f r) t⟩ ⟨fun t => @T.rec AV (fun _ => Option AV) none (fun l _ _ _ _ => (getB (pathF d (m / 2))).f l) t⟩ (Nat.beq (m % 2) 0)).f (.node l v r) = (match Nat.beq (m % 2) 0 with | true => T.get l (m / 2) | false => T.get r (m / 2))
        cases Nat.beq (m % 2) 0
        · exact ih _ hm r
        · exact ih _ hm l

theorem setB_eq (d n : Nat) (h : n ≤ d) (x : AV) (t : T AV) : (setB (pathF d n)).f x t = T.put (d + 1) t n x := by
  induction d generalizing n t with
  | zero => obtain rfl : n = 0 := by omega
            cases t <;> rfl
  | succ d ih =>
    cases n with
    | zero => cases t <;> rfl
    | succ m =>
      have hm : m / 2 ≤ d := by omega
      show (@Bool.rec (fun _ => SetB)
        ⟨fun x t => @T.rec AV (fun _ => T AV) (.node .leaf none ((setB (pathF d (m / 2))).f x .leaf)) (fun l v r _ _ => .node l v ((setB (pathF d (m / 2))).f x r)) t⟩
        ⟨fun x t => @T.rec AV (fun _ => T AV) (.node ((setB (pathF d (m / 2))).f x .leaf) none .leaf) (fun l v r _ _ => .node ((setB (pathF d (m / 2))).f x l) v r) t⟩ (Nat.beq (m % 2) 0)).f x t
        = (match Nat.beq (m % 2) 0 with
          | true => .node (T.put (d + 1) t.left (m / 2) x) t.val t.right
          | false => .node t.left t.val (T.put (d + 1) t.right (m / 2) x))
      cases Nat.beq (m % 2) 0
      · cases t with
        | leaf => exact congrArg (T.node T.leaf none) (ih _ hm T.leaf)
        | node l v r => exact congrArg (T.node l v) (ih _ hm r)
      · cases t with
        | leaf => exact congrArg (fun y => T.node y none T.leaf) (ih _ hm T.leaf)
        | node l v r => exact congrArg (fun y => T.node y v r) (ih _ hm l)

theorem slotE_eq (t : Nat) (a : Tmps) : (slotE t).f a = a.get t := by
  obtain ⟨n, df, tr⟩ := a
  show @Option.rec AV (fun _ => Option AV) (@Bool.rec (fun _ => Option AV) none (some .undef) df) (fun v => some v) ((getB (pathF t t)).f tr) = _
  rw [getB_eq t t (Nat.le_refl _), Tmps.get]
  cases T.get tr t with
  | none => cases df <;> rfl
  | some v => rfl

theorem slotP_eq (d : Nat) (a : Tmps) (v : AV) : (slotP d).f a v = put a (some d) v := by
  obtain ⟨n, df, t⟩ := a
  show @Bool.rec (fun _ => Tmps) (Tmps.mk n df t) (Tmps.mk n df ((setB (pathF d d)).f v t)) (Nat.ble (d + 1) n) = (match Nat.ble (d + 1) n with | true => _ | false => _)
  rw [setB_eq d d (Nat.le_refl _)]
  cases Nat.ble (d + 1) n <;> rfl

theorem putB_eq (d : Option Tmp) (a : Tmps) (v : AV) : (putB d).f a v = put a d v := by
  cases d with
  | none => rfl
  | some d => exact slotP_eq d a v

theorem evS_eq (x : Operand) (a : Tmps) : (evS x).f a = evalA a x := by
  cases x with
  | tmp t => exact slotE_eq t a
  | const v => simp only [evS, evalA]; cases ofValue v <;> rfl
  | «global» _ => rfl
  | func f => rfl

theorem ev1_eq {β : Type} (x : Operand) (F : (Tmps → Option AV) → β) : ev1 x F = F (evS x).f := rfl

theorem evL_eq (l : List Operand) (a : Tmps) : (evL l).f a = evalAs a l := by
  induction l with
  | nil => rfl
  | cons x xs ih => 
    simp only [evL, evalAs, evS_eq, ih, orecE]
    cases evalA a x with
    | none => rfl
    | some v => cases evalAs a xs <;> rfl

theorem partsS_eq (l : List (Nat × Operand)) (a : Tmps) : (partsS l).f a = evalParts a l := by
  induction l with
  | nil => rfl
  | cons x xs ih =>
    obtain ⟨i, x⟩ := x
    simp only [partsS, evalParts, evS_eq, ih, orecE]
    cases evalA a x with
    | none => cases evalParts a xs <;> rfl
    | some v => cases evalParts a xs <;> rfl

/-! lists -/
theorem nthR_eq {α : Type} (l : List α) (n : Nat) : nthR l n = nth l n := by
  induction l generalizing n with
  | nil => rfl
  | cons x l ih => cases n with
    | zero => rfl
    | succ n => exact ih n
theorem dropR_eq {α : Type} (n : Nat) (l : List α) : dropR n l = dropN n l := by
  induction l generalizing n with
  | nil => cases n <;> rfl
  | cons x l ih => cases n with
    | zero => rfl
    | succ n => exact ih n
theorem takeR_eq (n : Nat) (l : List AV) : takeR n l = takeN n l := by
  induction n generalizing l with
  | zero => rfl
  | succ n ih => cases l with
    | nil => rfl
    | cons x xs =>
      show @Option.rec (List AV) (fun _ => Option (List AV)) none (fun ys => some (x :: ys)) (takeR n xs) = _
      rw [ih, orecE, takeN]; cases takeN n xs <;> rfl
theorem lenR_eq {α : Type} (l : List α) : lenR l = l.length := by
  induction l with
  | nil => rfl
  | cons x l ih => exact congrArg Nat.succ ih
theorem appR_eq {α : Type} (l k : List α) : appR l k = l ++ k := by
  induction l with
  | nil => rfl
  | cons x l ih => exact congrArg (List.cons x) ih
theorem plainS_eq (v : AV) : plainS v = v.plain := by cases v <;> rfl
theorem plainAll_eq (l : List AV) : plainAll l = l.all AV.plain := by
  induction l with
  | nil => rfl
  | cons x l ih =>
    show @Bool.rec (fun _ => Bool) false (plainAll l) (plainS x) = _
    rw [ih, plainS_eq, List.all_cons]; cases x.plain <;> rfl
theorem cellsR_eq (v : AV) : cellsR v = v.cells := by cases v <;> rfl
theorem spliceR_eq (vs cs : List AV) (off : Nat) : spliceR vs cs off = splice cs off vs := by
  induction vs generalizing cs off with
  | nil => cases cs <;> rfl
  | cons v vs ihv =>
    induction cs generalizing off with
    | nil => cases off <;> rfl
    | cons c cs ih =>
      cases off with
      | zero =>
        show @Option.rec (List AV) (fun _ => Option (List AV)) none (fun ys => some (v :: ys)) (spliceR vs cs 0) = _
        rw [ihv, orecE, splice]; cases splice cs 0 vs <;> rfl
      | succ n =>
        show @Option.rec (List AV) (fun _ => Option (List AV)) none (fun ys => some (c :: ys)) (spliceR (v :: vs) cs n) = _
        rw [ih, orecE, show splice (c :: cs) (n + 1) (v :: vs) = (match splice cs n (v :: vs) with | some r => some (c :: r) | none => none) from rfl]; cases splice cs n (v :: vs) <;> rfl

/-! ints -/
theorem kEq_eq (k k' : IntKind) : kEq k k' = decide (k = k') := by cases k <;> cases k' <;> rfl
theorem natI_eq (k : IntKind) (n : Nat) : natI k n = some (.int k (.ofNat n)) := by cases n <;> rfl
theorem forceI_eq (k : IntKind) (z : Int) : forceI k z = some (.int k z) := by
  cases z with
  | ofNat n => exact natI_eq k n
  | negSucc n => cases n <;> rfl
theorem sumS_eq (k : IntKind) (s : Nat) : sumS k s (.ofNat s) = some (.int k (wrapA k (.ofNat s))) := by
  simp only [sumS, brecE, forceI_eq, natI_eq]
  cases hb : Nat.ble s (kMax k) with
  | false => rfl
  | true =>
    have key : wrapA k (.ofNat s) = .ofNat s := by
      cases k
      · have : s = 0 := by have := Nat.le_of_ble_eq_true hb; simpa [kMax] using this
        subst this; rfl
      · have : s = 0 := by have := Nat.le_of_ble_eq_true hb; simpa [kMax] using this
        subst this; rfl
      all_goals (simp only [wrapA, fits]; simp only [kMax] at hb; rw [hb])
    rw [key]
theorem boolS_eq (b : Bool) : boolS b = some (.bool b) := by cases b <;> rfl
theorem ble_not (a b : Nat) : Nat.ble a b = !Nat.ble (b + 1) a := by
  cases h : Nat.ble (b + 1) a
  · have : ¬ b + 1 ≤ a := fun hh => by rw [Nat.ble_eq_true_of_le hh] at h; cases h
    exact Nat.ble_eq_true_of_le (by omega)
  · have := Nat.le_of_ble_eq_true h
    cases h2 : Nat.ble a b
    · rfl
    · have := Nat.le_of_ble_eq_true h2; omega

theorem iopS_eq (op : BinOp) (k : IntKind) (x y : Int) : (iopS op).f k x y = intBin op k x y := by
  cases op <;> try rfl
  case add => cases x <;> cases y <;> simp only [iopS, natOp, forceI_eq, intBin] <;> exact sumS_eq k _
  case sub =>
    cases x <;> cases y <;> simp only [iopS, natOp, forceI_eq, intBin]
    rename_i a b
    show @Bool.rec (fun _ => Option AV) _ (sumS k (a - b) (.ofNat (a - b))) (Nat.ble b a) = _
    rw [sumS_eq, brecE]
    cases h : Nat.ble b a with
    | false => rfl
    | true =>
      have := Nat.le_of_ble_eq_true h
      have e : Int.sub (.ofNat a) (.ofNat b) = .ofNat (a - b) := by
        show (Int.ofNat a : Int) - Int.ofNat b = Int.ofNat (a - b)
        simp only [Int.ofNat_eq_natCast]; omega
      rw [e]
  case mul => cases x <;> cases y <;> simp only [iopS, natOp, forceI_eq, intBin] <;> exact sumS_eq k _
  case quo =>
    cases x <;> cases y <;> try rfl
    rename_i a b
    cases b with
    | zero => rfl
    | succ m => exact sumS_eq k _
  case rem =>
    cases x <;> cases y <;> try rfl
    rename_i a b
    cases b with
    | zero => rfl
    | succ m => exact natI_eq k _
  case eql => cases x <;> cases y <;> simp only [iopS, natOp, boolS_eq, intBin] <;> rfl
  case neq => cases x <;> cases y <;> simp only [iopS, natOp, boolS_eq, intBin, brecE] <;> first | rfl | (simp only [eqI]; generalize Nat.beq _ _ = q; cases q <;> rfl)
  case lss => cases x <;> cases y <;> simp only [iopS, natOp, boolS_eq, intBin] <;> rfl
  case leq => cases x <;> cases y <;> simp only [iopS, natOp, boolS_eq, intBin] <;> first | rfl | (rw [ble_not]; rfl)
  case gtr => cases x <;> cases y <;> simp only [iopS, natOp, boolS_eq, intBin] <;> rfl
  case geq => cases x <;> cases y <;> simp only [iopS, natOp, boolS_eq, intBin] <;> first | rfl | (rw [ble_not]; rfl)

theorem strEqR_eq (a b : List Nat) : strEqR a b = strEq a b := by
  induction a generalizing b with
  | nil => cases b <;> rfl
  | cons x a ih =>
    cases b with
    | nil => rfl
    | cons y b =>
      show @Bool.rec (fun _ => Bool) false (strEqR a b) (Nat.beq (x % 256) (y % 256)) = _
      rw [ih, brecE]
      simp only [strEq, List.map_cons]
      show _ = ((x % 256 == y % 256) && (a.map (· % 256) == b.map (· % 256)))
      have e : (x % 256 == y % 256) = Nat.beq (x % 256) (y % 256) := by rw [Bool.eq_iff_iff]; simp [Nat.beq_eq]
      rw [e]
      cases Nat.beq (x % 256) (y % 256) <;> simp

theorem sopS_eq (op : BinOp) (a b : List Nat) : (sopS op).f a b = strBin op a b := by
  cases op <;> try rfl
  · simp only [sopS, boolS_eq, strEqR_eq, strBin]
  · simp only [sopS, boolS_eq, strEqR_eq, strBin, brecE]; cases strEq a b <;> rfl

theorem binS_eq (P : Program) (op : BinOp) (t : TypeId) (x y : AV) : (binS P op t).f x y = binA P op t x y := by
  by_cases h1 : op = .shl
  · subst h1; rfl
  by_cases h2 : op = .shr
  · subst h2; rfl
  have e : (binS P op t).f x y = @IntV.rec (fun _ => Option AV) (@StrV.rec (fun _ => Option AV) (binA P op t x y) (fun s => @StrV.rec (fun _ => Option AV) (binA P op t x y) (fun s' => (sopS op).f s s') (asStr y)) (asStr x))
      (fun k z => @IntV.rec (fun _ => Option AV) (binA P op t x y) (fun k' z' => @Bool.rec (fun _ => Option AV) none ((iopS op).f k z z') (kEq k k')) (asInt y)) (asInt x) := by
    cases op <;> first | rfl | exact absurd rfl h1 | exact absurd rfl h2
  rw [e]
  cases x <;> try rfl
  · cases y <;> try rfl
    rename_i k z k' z'
    show @Bool.rec (fun _ => Option AV) none ((iopS op).f k z z') (kEq k k') = _
    rw [iopS_eq, kEq_eq, brecE]
    have : binA P op t (.int k z) (.int k' z') = if k = k' then intBin op k z z' else none := by
      cases op <;> first | rfl | exact absurd rfl h1 | exact absurd rfl h2
    rw [this]
    by_cases hk : k = k' <;> simp [hk]
  · cases y <;> try rfl
    rename_i s s'
    show (sopS op).f s s' = _
    rw [sopS_eq]
    cases op <;> first | rfl | exact absurd rfl h1 | exact absurd rfl h2

/-! memory -/
theorem getH_eq (h : Heap) (b : Nat) : getH h b = h.get b := by obtain ⟨n, l, w, t⟩ := h; exact getN_eq t b
theorem putH_eq (h : Heap) (b : Nat) (x : Blk) : putH h b x = h.set b x := by
  obtain ⟨n, l, w, t⟩ := h
  show Heap.mk n l (b :: w) (T.putN (b + 1) t b x) = _
  rw [putN_eq]; rfl
theorem pushH_eq (h : Heap) (x : Blk) : pushH h x = h.push x := by
  obtain ⟨n, l, w, t⟩ := h
  show Heap.mk (n + 1) l w (T.putN (n + 1) t n x) = _
  rw [putN_eq]; rfl
theorem nextH_eq (h : Heap) : nextH h = h.next := rfl
theorem onCells_eq (h : Heap) (b : Nat) (f : List AV → Option AV) : onCells h b f = match getCells h b with | some cs => f cs | none => none := by
  simp only [onCells, getCells, getH_eq, orecE]
  cases h.get b with
  | none => rfl
  | some x => cases x <;> rfl
theorem aggO_eq (x : Option (List AV)) : aggO x = x.map .agg := by cases x <;> rfl
theorem partS_eq (P : Program) (t : TypeId) (cs : List AV) (off : Nat) : (partS P t).f cs off = part P t cs off := by
  simp only [partS, part]
  cases isAgg P t with
  | none => rfl
  | some b => cases b with
    | false => exact nthR_eq cs off
    | true => cases sizeOf P t with
      | none => rfl
      | some n => simp only [aggO_eq, takeR_eq, dropR_eq]
theorem loadS_eq (P : Program) (t : TypeId) (h : Heap) (b off : Nat) : (loadS P t).f h b off = loadVar P h t b off := by
  simp only [loadS, loadVar]
  cases isAgg P t with
  | none => rfl
  | some g => cases g with
    | false => simp only [onCells_eq, nthR_eq]; cases getCells h b <;> rfl
    | true => cases sizeOf P t with
      | none => rfl
      | some n => cases n with
        | zero => rfl
        | succ n =>
          simp only [onCells_eq, loadCells, Nat.succ_ne_zero, if_false, aggO_eq, takeR_eq, dropR_eq]
          cases getCells h b with
          | none => rfl
          | some cs => simp only []; cases takeN (n + 1) (dropN off cs) <;> rfl
end Go.Sx

namespace Go.Sx

/-! ### Operations -/

theorem bindO_eq (x : Option AV) (f : AV → Option AV) : bindO x f = match x with | none => none | some v => f v := by cases x <;> rfl
theorem bindOO_eq (x : Option AV) (f : AV → Option ORes) : bindOO x f = match x with | none => none | some v => f v := by cases x <;> rfl

theorem onPtr_eq (v : AV) (f : Nat → Nat → Option AV) : onPtr v f = match v with | .ptr b o => f b o | _ => none := by cases v <;> rfl
theorem onPtrO_eq (v : AV) (f : Nat → Nat → Option ORes) : onPtrO v f = match v with | .ptr b o => f b o | _ => none := by cases v <;> rfl
theorem onInt_eq (v : AV) (f : IntKind → Int → Option AV) : onInt v f = match v with | .int k z => f k z | _ => none := by cases v <;> rfl
theorem onBool_eq (v : AV) (f : Bool → Option AV) : onBool v f = match v with | .bool b => f b | _ => none := by cases v <;> rfl
theorem onStr_eq (v : AV) (f : List Nat → Option AV) : onStr v f = match v with | .str s => f s | _ => none := by cases v <;> rfl
theorem onAgg_eq (v : AV) (f : List AV → Option AV) : onAgg v f = match v with | .agg cs => f cs | _ => none := by cases v <;> rfl
theorem onTup_eq (v : AV) (f : List AV → Option AV) : onTup v f = match v with | .tup vs => f vs | _ => none := by cases v <;> rfl
theorem onSlc_eq (v : AV) (f : Nat → Nat → Nat → Cap → Option AV) : onSlc v f = match v with | .slc b o n c => f b o n c | _ => none := by cases v <;> rfl

def liftV (h : Heap) (x : Option AV) : Option ORes := x.map (.val · h)

theorem lenS_ok {P : Program} {t : TypeId} {x : Operand} {p : Pure} (hp : lenS P t x = some p) (a : Tmps) (h : Heap) :
    (match evalA a x with | some v => lenA P h t v | none => none) = p.f a h := by
  unfold lenS at hp
  split at hp
  · rename_i e he
    simp only [ev1_eq, Option.some.injEq] at hp; subst hp
    simp only [evS_eq, bindO_eq]
    cases evalA a x with
    | none => rfl
    | some v => simp only [lenA, he]; cases v <;> rfl
  · rename_i he
    simp only [ev1_eq, Option.some.injEq] at hp; subst hp
    simp only [evS_eq, bindO_eq, onStr_eq, lenR_eq]
    cases evalA a x with
    | none => rfl
    | some v => simp only [lenA, he]; cases v <;> rfl
  · cases hp

theorem ble_if {β : Type} (a b : Nat) (x y : β) : @Bool.rec (fun _ => β) y x (Nat.ble (Nat.succ a) b) = if a < b then x else y := by
  rw [brecE]
  cases h : Nat.ble (Nat.succ a) b with
  | true => rw [if_pos (show a < b from Nat.le_of_ble_eq_true h)]
  | false => rw [if_neg (fun hh : a < b => by rw [Nat.ble_eq_true_of_le (show a.succ ≤ b from hh)] at h; cases h)]
theorem ble_if' {β : Type} (a b : Nat) (x y : β) : @Bool.rec (fun _ => β) y x (Nat.ble a b) = if a ≤ b then x else y := by
  rw [brecE]
  cases h : Nat.ble a b with
  | true => rw [if_pos (Nat.le_of_ble_eq_true h)]
  | false => rw [if_neg (fun hh => by rw [Nat.ble_eq_true_of_le hh] at h; cases h)]
theorem beq_if {β : Type} (a b : Nat) (x y : β) : @Bool.rec (fun _ => β) y x (Nat.beq a b) = if a = b then x else y := by
  rw [brecE]
  cases h : Nat.beq a b with
  | true => rw [if_pos (Nat.eq_of_beq_eq_true h)]
  | false => rw [if_neg (Nat.ne_of_beq_eq_false h)]

theorem idxAddrS_ok {P : Program} {t : TypeId} {x i : Operand} {p : Pure} (hp : idxAddrS P t x i = some p) (a : Tmps) (h : Heap) :
    (match evalA a x, evalA a i with | some x, some i => indexAddrA P t x i | _, _ => none) = p.f a h := by
  unfold idxAddrS at hp
  split at hp
  · rename_i e he
    split at hp
    · rename_i n hn
      simp only [ev1_eq, Option.some.injEq] at hp; subst hp
      simp only [evS_eq, bindO_eq, onInt_eq, onSlc_eq, ble_if]
      cases evalA a x with
      | none => rfl
      | some v => cases evalA a i with
        | none => rfl
        | some w =>
          cases w <;> try rfl
          rename_i k z
          cases z with
          | negSucc j =>
            have hz : Int.negSucc j < 0 := by omega
            exact (show indexAddrA P t v (.int k (.negSucc j)) = none from by simp only [indexAddrA, if_pos hz])
          | ofNat j =>
            have hz : ¬ (Int.ofNat j < 0) := by simp only [Int.ofNat_eq_natCast]; omega
            simp only [indexAddrA, if_neg hz, he]
            cases v <;> try rfl
            simp only [hn]; rfl
    · cases hp
  · rename_i len e he
    split at hp
    · rename_i n hn
      simp only [ev1_eq, Option.some.injEq] at hp; subst hp
      simp only [evS_eq, bindO_eq, onInt_eq, onPtr_eq, ble_if]
      cases evalA a x with
      | none => rfl
      | some v => cases evalA a i with
        | none => rfl
        | some w =>
          cases w <;> try rfl
          rename_i k z
          cases z with
          | negSucc j =>
            have hz : Int.negSucc j < 0 := by omega
            exact (show indexAddrA P t v (.int k (.negSucc j)) = none from by simp only [indexAddrA, if_pos hz])
          | ofNat j =>
            have hz : ¬ (Int.ofNat j < 0) := by simp only [Int.ofNat_eq_natCast]; omega
            simp only [indexAddrA, if_neg hz, he]
            cases v <;> try rfl
            simp only [hn]; rfl
    · cases hp
  · cases hp

theorem idxS_ok {P : Program} {t : TypeId} {x i : Operand} {p : Pure} (hp : idxS P t x i = some p) (a : Tmps) (h : Heap) :
    (match evalA a x, evalA a i with | some x, some i => indexA P t x i | _, _ => none) = p.f a h := by
  unfold idxS at hp
  split at hp
  · rename_i len e he
    split at hp
    · rename_i n hn
      simp only [ev1_eq, Option.some.injEq] at hp; subst hp
      simp only [evS_eq, bindO_eq, onInt_eq, onAgg_eq, ble_if, partS_eq]
      cases evalA a x with
      | none => rfl
      | some v => cases evalA a i with
        | none => rfl
        | some w =>
          cases w <;> try rfl
          rename_i k z
          cases z with
          | negSucc j =>
            have hz : Int.negSucc j < 0 := by omega
            exact (show indexA P t v (.int k (.negSucc j)) = none from by simp only [indexA, if_pos hz])
          | ofNat j =>
            have hz : ¬ (Int.ofNat j < 0) := by simp only [Int.ofNat_eq_natCast]; omega
            simp only [indexA, if_neg hz, he]
            cases v <;> try rfl
            simp only [hn]; rfl
    · cases hp
  · rename_i he
    simp only [ev1_eq, Option.some.injEq] at hp; subst hp
    simp only [evS_eq, bindO_eq, onInt_eq, onStr_eq, nthR_eq, orecE]
    cases evalA a x with
    | none => rfl
    | some v => cases evalA a i with
      | none => rfl
      | some w =>
        cases w <;> try rfl
        rename_i k z
        cases z with
        | negSucc j =>
          have hz : Int.negSucc j < 0 := by omega
          exact (show indexA P t v (.int k (.negSucc j)) = none from by simp only [indexA, if_pos hz])
        | ofNat j =>
          have hz : ¬ (Int.ofNat j < 0) := by simp only [Int.ofNat_eq_natCast]; omega
          simp only [indexA, if_neg hz, he]
          cases v <;> try rfl
          rename_i s
          have hj : (Int.ofNat j).toNat = j := rfl
          simp only [hj]
          cases nth s j <;> rfl
  · cases hp

/-! slices -/
theorem bndS_eq (x : Option Operand) (a : Tmps) (d : Nat) (f : Nat → Option AV) :
    (bndS x).f a d f = match evalOpt a x with | some y => (match boundA y d with | some n => f n | none => none) | none => none := by
  cases x with
  | none => rfl
  | some x =>
    simp only [bndS, evS_eq, bindO_eq, bndR, onInt_eq, evalOpt]
    cases evalA a x with
    | none => rfl
    | some v =>
      cases v <;> try rfl
      rename_i k z
      cases z with
      | ofNat n =>
        have : (0 : Int) ≤ Int.ofNat n := by simp only [Int.ofNat_eq_natCast]; omega
        simp only [Option.map_some, boundA, if_pos this]; rfl
      | negSucc n =>
        have : ¬ (0 : Int) ≤ Int.negSucc n := by omega
        simp only [Option.map_some, boundA, if_neg this]

theorem strPart_eq (s : List Nat) (l h : Nat) : strPart l h s = (s.drop l).take (h - l) := by
  have key : ∀ (s : List Nat) (l n : Nat), @List.rec Nat (fun _ => Nat → Nat → List Nat) (fun _ _ => []) (fun x _ ih l n => @Nat.rec (fun _ => List Nat) (@Nat.rec (fun _ => List Nat) [] (fun m _ => x :: ih 0 m) n) (fun l' _ => ih l' n) l) s l n = (s.drop l).take n := by
    intro s
    induction s with
    | nil => intro l n; simp
    | cons x s ih =>
      intro l n
      cases l with
      | zero => cases n with
        | zero => rfl
        | succ m => 
          show x :: _ = _
          rw [ih 0 m]; simp
      | succ l =>
        show _ = _
        have := ih l n
        simpa using this
  exact key s l (h - l)

theorem sliceS_ok {P : Program} {t : TypeId} {x : Operand} {lo hi : Option Operand} {p : Pure} (hp : sliceS P t x lo hi = some p) (a : Tmps) (h : Heap) :
    (match evalA a x, evalOpt a lo, evalOpt a hi with | some x, some lo, some hi => sliceA P t x lo hi none | _, _, _ => none) = p.f a h := by
  unfold sliceS at hp
  split at hp
  · rename_i e he
    split at hp
    · rename_i n hn
      simp only [Option.some.injEq] at hp; subst hp
      simp only [evS_eq, bindO_eq, bndS_eq]
      cases evalA a x with
      | none => rfl
      | some v =>
        cases h1 : evalOpt a lo with
        | none =>
          cases v <;> try rfl
          all_goals (simp only [asSlc]; cases evalOpt a hi with
            | none => rfl
            | some y => simp only []; split <;> rfl)
        | some yl =>
          cases h2 : evalOpt a hi with
          | none => cases v <;> rfl
          | some yh =>
            cases v <;> try (simp only [sliceA, he]; rfl)
            · -- nil
              simp only [sliceA, he, asSlc]
              cases boundA yh 0 with
              | none => rfl
              | some m => cases boundA yl 0 with
                | none => cases m <;> rfl
                | some l =>
                  simp only [beq_if, boundA]
                  cases m with
                  | zero => cases l with
                    | zero => simp [hn]
                    | succ l => simp
                  | succ m => cases l <;> simp
            · rename_i b off len cap
              simp only [sliceA, he, asSlc, hn]
              cases boundA yh len with
              | none => rfl
              | some m => cases boundA yl 0 with
                | none => rfl
                | some l =>
                  simp only [Nat.succ_ne_zero, if_false]
                  cases cap with
                  | exact c =>
                    simp only [ble_if', beq_if]
                    by_cases q1 : l ≤ m
                    · by_cases q2 : m ≤ c
                      · simp [q1, q2]
                      · simp [q1, q2]
                    · simp [q1]
                  | upto sz c0 =>
                    simp only [ble_if', beq_if]
                    by_cases q1 : l ≤ m
                    · by_cases q2 : m ≤ c0
                      · by_cases q3 : sz = n + 1
                        · cases l with
                          | zero => simp [q2, q3, brecE]
                          | succ l' =>
                            rw [show @Nat.rec (fun _ => Bool) true (fun l' _ => Nat.ble (Nat.succ (Nat.succ l')) c0) (l' + 1) = Nat.ble (Nat.succ (l' + 1)) c0 from rfl, ble_if]
                            by_cases q4 : l' + 1 < c0
                            · simp [q1, q2, q3, q4]
                            · simp [q1, q2, q3, q4]
                        · simp [q1, q2, q3]
                      · simp [q1, q2]
                    · simp [q1]
            · -- empty
              simp only [sliceA, he, asSlc]
              cases boundA yh 0 with
              | none => rfl
              | some m => cases boundA yl 0 with
                | none => cases m <;> rfl
                | some l =>
                  simp only [beq_if]
                  cases m with
                  | zero => cases l with
                    | zero => simp [hn]
                    | succ l => simp
                  | succ m => cases l <;> simp
    · cases hp
  · rename_i he
    simp only [Option.some.injEq] at hp; subst hp
    simp only [evS_eq, bindO_eq, bndS_eq, onStr_eq, lenR_eq, strPart_eq, ble_if']
    cases evalA a x with
    | none => rfl
    | some v =>
      cases h1 : evalOpt a lo with
      | none =>
        cases v <;> try rfl
        simp only []; cases evalOpt a hi with
          | none => rfl
          | some y => simp only []; split <;> rfl
      | some yl =>
        cases h2 : evalOpt a hi with
        | none => cases v <;> rfl
        | some yh =>
          cases v <;> first
            | rfl
            | (simp only [sliceA, he]; done)
            | (simp only [sliceA, he]; rfl)
            | skip
          · rename_i s
            simp only [sliceA, he]
            cases boundA yh s.length with
            | none => rfl
            | some m => cases boundA yl 0 with
              | none => rfl
              | some l =>
                simp only []
                by_cases q1 : l ≤ m
                · by_cases q2 : m ≤ s.length
                  · simp [q1, q2]
                  · simp [q1, q2]
                · simp [q1]
  · cases hp

/-! maps -/
theorem keyS_eq (kd : TypeDesc) (k x : AV) : (keyS kd).f k x = keyEq kd k x := by
  cases kd <;> try rfl
  cases k <;> try (cases x <;> rfl)
  cases x <;> try rfl
  rename_i s s'
  show some (strEqR s s') = _
  rw [strEqR_eq]; rfl

theorem findR_eq (kd : TypeDesc) (k : AV) (es : List (AV × AV × Nat)) (i : Nat) : findR ((keyS kd).f k) es i = match findA kd k es i with
    | none => .bad
    | some none => .miss
    | some (some (j, v)) => .hit j v := by
  induction es generalizing i with
  | nil => rfl
  | cons e es ih =>
    show @Option.rec Bool (fun _ => FV) .bad (fun b => @Bool.rec (fun _ => FV) (findR ((keyS kd).f k) es (i + 1)) (.hit i e.2.1) b) ((keyS kd).f k e.1) = _
    rw [keyS_eq, ih, findA]
    cases keyEq kd k e.1 with
    | none => rfl
    | some b => cases b <;> rfl

theorem okAV_eq (ok : Bool) (v : AV) (b : Bool) : okAV ok v b = if ok then .tup [v, .bool b] else v := by cases ok <;> rfl

theorem lookS_ok {P : Program} {t : TypeId} {x k : Operand} {ok : Bool} {p : Pure} (hp : lookS P t x k ok = some p) (a : Tmps) (h : Heap) :
    (match evalA a x, evalA a k with | some x, some k => lookupA P h t x k ok | _, _ => none) = p.f a h := by
  unfold lookS at hp
  split at hp
  · rename_i kt et hu
    split at hp
    · rename_i kd hk
      split at hp
      · rename_i hpk
        split at hp
        · rename_i z hz
          simp only [ev1_eq, Option.some.injEq] at hp; subst hp
          simp only [evS_eq, bindO_eq, findR_eq, getH_eq, orecE, okAV_eq]
          cases evalA a x with
          | none => rfl
          | some m => cases evalA a k with
            | none => rfl
            | some key =>
              simp only [lookupA, hu, hk, hpk, hz]
              cases m <;> try rfl
              rename_i b
              simp only [Bool.not_true, Bool.false_eq_true, if_false, asMap]
              cases h.get b with
              | none => rfl
              | some bk =>
                cases bk <;> try rfl
                rename_i es clock
                simp only []
                cases findA kd key es 0 with
                | none => rfl
                | some r => cases r with
                  | none => rfl
                  | some q => rfl
        · cases hp
      · cases hp
    · cases hp
  · cases hp

theorem pureS_ok {P : Program} {o : Oper} {p : Pure} (hp : pureS P o.op = some p) (a : Tmps) (h : Heap) :
    opA P h a o = (p.f a h).map (.val · h) := by
  obtain ⟨dst, op, ty, pos, after, guard⟩ := o
  simp only at hp
  unfold pureS at hp
  split at hp
  · simp only [ev1_eq, Option.some.injEq] at hp; subst hp; simp only [opA, evS_eq]
  · simp only [ev1_eq, Option.some.injEq] at hp; subst hp; simp only [opA, evS_eq]
  · rename_i c x y
    simp only [ev1_eq, Option.some.injEq] at hp; subst hp
    simp only [opA, evS_eq, bindO_eq, onBool_eq, brecE]
    cases evalA a c with
    | none => rfl
    | some v => cases v <;> try rfl
                rename_i b; cases b <;> rfl
  · rename_i t x
    simp only [ev1_eq, Option.some.injEq] at hp; subst hp
    simp only [opA, evS_eq, bindO_eq, onPtr_eq, loadS_eq]
    cases evalA a x with
    | none => rfl
    | some v => cases v <;> rfl
  · rename_i op t x y yt
    simp only [ev1_eq, Option.some.injEq] at hp; subst hp
    simp only [opA, evS_eq, bindO_eq, binS_eq]
    cases evalA a x with
    | none => rfl
    | some v => cases evalA a y <;> rfl
  · rename_i t x
    simp only [ev1_eq, Option.some.injEq] at hp; subst hp
    simp only [opA, evS_eq, bindO_eq, onBool_eq, brecE]
    cases evalA a x with
    | none => rfl
    | some v => cases v <;> try rfl
                rename_i b; cases b <;> rfl
  · rename_i t x f
    split at hp
    · rename_i fs hfs
      split at hp
      · rename_i fd hfd
        split at hp
        · rename_i n hn
          simp only [ev1_eq, Option.some.injEq] at hp; subst hp
          simp only [opA, evS_eq, bindO_eq, onPtr_eq, hfs, hfd, hn]
          cases evalA a x with
          | none => rfl
          | some v => cases v <;> first | rfl | (simp only [hfd, hn]; rfl)
        · cases hp
      · cases hp
    · cases hp
  · rename_i t x f
    split at hp
    · rename_i fs hfs
      split at hp
      · rename_i fd hfd
        simp only [ev1_eq, Option.some.injEq] at hp; subst hp
        simp only [opA, evS_eq, bindO_eq, onAgg_eq, hfs, hfd, partS_eq]
        cases evalA a x with
        | none => rfl
        | some v => cases v <;> first | rfl | (simp only [hfd]; done) | (simp only [hfd]; rfl)
      · cases hp
    · cases hp
  · rename_i t x i
    simp only [opA]
    rw [← idxAddrS_ok hp a h]
    cases evalA a x with
    | none => rfl
    | some v => cases evalA a i <;> rfl
  · rename_i t x i
    simp only [opA]
    rw [← idxS_ok hp a h]
    cases evalA a x with
    | none => rfl
    | some v => cases evalA a i <;> rfl
  · rename_i t x lo hi
    simp only [opA]
    rw [← sliceS_ok hp a h]
    cases evalA a x with
    | none => rfl
    | some v => cases evalOpt a lo with
      | none => rfl
      | some yl => cases evalOpt a hi with
        | none => rfl
        | some yh => simp [evalOpt]
  · rename_i t x k ok
    simp only [opA]
    rw [← lookS_ok hp a h]
    cases evalA a x with
    | none => rfl
    | some v => cases evalA a k <;> rfl
  · rename_i t i
    simp only [ev1_eq, Option.some.injEq] at hp; subst hp
    simp only [opA, evS_eq, bindO_eq, onTup_eq, nthR_eq]
    cases evalA a t with
    | none => rfl
    | some v =>
      cases v <;> try rfl
      rename_i vs
      simp only []
      cases nth vs i <;> rfl
  · rename_i c
    split at hp
    · rename_i hc
      split at hp
      · rename_i t ts x h1 h2
        simp only [opA, hc, h1, h2, evalAs]
        rw [← lenS_ok hp a h]
        cases evalA a x with
        | none => rfl
        | some v => simp only [builtinA]; cases lenA P h t v <;> rfl
      · cases hp
    · cases hp
  · cases hp
end Go.Sx

namespace Go.Sx

/-! ### Operations that change the heap, and calls -/

theorem forceN_eq {β : Type} (n : Nat) (k : Nat → β) : forceN n k = k n := by cases n <;> rfl
theorem normO_eq (x : Option ORes) : normO x = x := by
  cases x with
  | none => rfl
  | some r =>
    cases r with
    | val v h => obtain ⟨n, l, w, t⟩ := h; simp only [normO, forceN_eq]
    | skip h => obtain ⟨n, l, w, t⟩ := h; simp only [normO, forceN_eq]
    | enter f args => rfl
    | round b args => rfl

theorem storeS_eq (P : Program) (t : TypeId) (n : Nat) (hn : sizeOf P t = some (n + 1)) (v : AV) (b off : Nat) (h : Heap) :
    storeS (n + 1) v b off h = (storeVar P h t b off v).map .skip := by
  simp only [storeS, storeVar, hn, storeCells, lenR_eq, cellsR_eq, plainAll_eq, getH_eq, beq_if, orecE, spliceR_eq, putH_eq]
  by_cases q : v.cells.length = n + 1
  · have hne : v.cells.isEmpty = false := by cases hc : v.cells with
      | nil => rw [hc] at q; cases q
      | cons _ _ => rfl
    simp only [q, if_true, hne, brecE]
    cases v.cells.all AV.plain with
    | false => rfl
    | true =>
      cases h.get b with
      | none => rfl
      | some x =>
        cases x with
        | cells t cs opn => simp only []; cases splice cs off v.cells <;> rfl
        | map _ _ => rfl
        | dead => rfl
        | ro _ => rfl
        | loop _ _ _ _ _ => rfl
        | iter _ _ _ => rfl
  · simp only [q, if_false]; rfl

theorem fillR_eq (place : Nat → Option (Nat × Nat)) (parts : List (Nat × AV)) (cells : List AV) : fillR place parts cells = fillA place cells parts := by
  induction parts generalizing cells with
  | nil => rfl
  | cons p parts ih =>
    obtain ⟨i, v⟩ := p
    show @Option.rec (Nat × Nat) (fun _ => Option (List AV)) none
      (fun q => @Prod.rec Nat Nat (fun _ => Option (List AV)) (fun off size => 
        @Bool.rec (fun _ => Option (List AV)) none
          (@Bool.rec (fun _ => Option (List AV)) none
            (@Option.rec (List AV) (fun _ => Option (List AV)) none (fun cs => fillR place parts cs) (spliceR (cellsR v) cells off))
            (Nat.ble (Nat.add off size) (lenR cells)))
          (Nat.beq (lenR (cellsR v)) size)) q) (place i) = _
    rw [fillA]
    cases place i with
    | none => rfl
    | some q =>
      obtain ⟨off, size⟩ := q
      simp only [lenR_eq, cellsR_eq, beq_if, ble_if', orecE, spliceR_eq, ih]
      by_cases q1 : v.cells.length = size
      · by_cases q2 : off + size ≤ cells.length
        · rw [if_pos q1, if_pos (show Nat.add off size ≤ cells.length from q2), if_pos ⟨q1, q2⟩]
          cases splice cells off v.cells <;> rfl
        · rw [if_pos q1, if_neg (show ¬ Nat.add off size ≤ cells.length from q2), if_neg (fun hh => q2 hh.2)]
      · rw [if_neg q1, if_neg (fun hh => q1 hh.1)]

theorem loadR_eq (h : Heap) (b off n : Nat) : loadR h b off n = loadCells h b off n := by
  simp only [loadR, loadCells, getCells, beq_if, orecE, getH_eq, takeR_eq, dropR_eq]
  by_cases q : n = 0
  · simp [q]
  · simp only [q, if_false]
    cases h.get b with
    | none => rfl
    | some x => cases x <;> rfl

theorem bytesR_eq (s : List Nat) : bytesR s = s.map fun b => .int .u8 (b % 256 : Nat) := by
  induction s with
  | nil => rfl
  | cons x s ih => exact congrArg (List.cons _) ih

theorem newR_eq (h : Heap) (sz : Nat) (x : AV) (f : Nat → List AV → Option ORes) :
    newR h sz x f = match lenOfA x with
      | some n => if n > 10000000 then none else match firstCellsA h sz n x with
        | none => none
        | some new => if !new.all AV.plain then none else f n new
      | none => none := by
  cases x <;> try rfl
  · -- str
    rename_i s
    simp only [newR, asSlc, lenR_eq, bytesR_eq, beq_if, ble_if', lenOfA, firstCellsA, List.take_length]
    by_cases q1 : sz = 1
    · by_cases q2 : s.length ≤ 10000000
      · have : ¬ s.length > 10000000 := by omega
        have hp : ((s.map fun b => (AV.int .u8 ((b % 256 : Nat) : Int))).all AV.plain) = true := by
          rw [List.all_eq_true]; intro y hy; rw [List.mem_map] at hy; obtain ⟨b, _, rfl⟩ := hy; rfl
        simp only [q1, q2, if_true, this, if_false, hp]; rfl
      · have : s.length > 10000000 := by omega
        simp only [q1, q2, if_true, this, if_false]
    · simp only [q1, if_false]; split <;> rfl
  · -- slice
    rename_i b off len cap
    simp only [newR, asSlc, orecE, plainAll_eq, ble_if', lenOfA, firstCellsA, loadR_eq, Nat.mul_eq]
    simp only [brecE]
    by_cases q2 : len ≤ 10000000
    · have : ¬ len > 10000000 := by omega
      simp only [q2, if_true, this, if_false]
      cases loadCells h b off (len * sz) with
      | none => rfl
      | some cs => simp only []; cases cs.all AV.plain <;> rfl
    · have : len > 10000000 := by omega
      simp only [q2, if_false, this, if_true]
      cases loadCells h b off (len * sz) <;> rfl

theorem getCells'_eq (h : Heap) (b : Nat) (f : TypeId → List AV → Bool → Option ORes) :
    getCells' h b f = match h.get b with | some (.cells t cs o) => f t cs o | _ => none := by
  simp only [getCells', getH_eq, orecE]
  cases h.get b with
  | none => rfl
  | some x => cases x <;> rfl

/-- what is appended, and where, of the plain append -/
def appP (e : TypeId) (sz : Nat) (h : Heap) (s : AV) (n : Nat) (new : List AV) : Option (AV × Heap) :=
  match s with
  | .nils => if n = 0 then some (.nils, h) else some (.slc h.next 0 n (.upto sz n), h.push (.cells e new true))
  | .slc b off len (.exact c) =>
    if len + n ≤ c then match storeCells h b (off + len * sz) new with
      | some h' => some (.slc b off (len + n) (.exact c), h')
      | none => none
    else if len > 10000000 then none else match loadCells h b off (len * sz) with
      | some old => some (.slc h.next 0 (len + n) (.upto sz (len + n)), h.push (.cells e (old ++ new) true))
      | none => none
  | .slc b off len (.upto sz' c0) =>
    if n = 0 then some (s, h) else
    if len > 10000000 ∨ sz' ≠ sz then none else
    if len + n ≤ c0 then match storeCells h b (off + len * sz) new with
      | some h' => some (.slc b off (len + n) (.upto sz' c0), h')
      | none => none
    else match h.get b with
      | some (.cells _ cs true) => if cs.length = off + len * sz then
          some (.slc h.next 0 (len + n) (.upto sz (len + n)), (h.set b .dead).push (.cells e (dropN off cs ++ new) true))
        else none
      | _ => none
  | _ => none

theorem appS_eq (e : TypeId) (sz : Nat) (h : Heap) (s : AV) (n : Nat) (new : List AV) (hnew : new.all AV.plain = true) :
    appS e sz h s n new = (appP e sz h s n new).map fun r => .val r.1 r.2 := by
  cases s <;> try rfl
  · -- nil
    cases n with
    | zero => rfl
    | succ n => simp only [appS, asSlc, appP, Nat.succ_ne_zero, if_false, Option.map_some, pushH_eq, nextH_eq]
  · rename_i b off len cap
    cases cap with
    | exact c =>
      simp only [appS, asSlc, appP, ble_if', orecE, getCells'_eq, spliceR_eq, loadR_eq, pushH_eq, putH_eq, nextH_eq, appR_eq, Nat.mul_eq, Nat.add_eq]
      by_cases q : len + n ≤ c
      · simp only [q, if_true, storeCells]
        cases new with
        | nil => rfl
        | cons y ys =>
          simp only [List.isEmpty_cons, Bool.false_eq_true, if_false, hnew, Bool.not_true]
          cases h.get b with
          | none => rfl
          | some x =>
            cases x with
            | cells t cs o => 
              simp only []
              cases splice cs (off + len * sz) (y :: ys) <;> rfl
            | map _ _ => rfl
            | dead => rfl
            | ro _ => rfl
            | loop _ _ _ _ _ => rfl
            | iter _ _ _ => rfl
      · simp only [q, if_false]
        by_cases q2 : len ≤ 10000000
        · have : ¬ len > 10000000 := by omega
          simp only [q2, if_true, this, if_false]
          cases loadCells h b off (len * sz) <;> rfl
        · have : len > 10000000 := by omega
          simp only [q2, if_false, this, if_true]; rfl
    | upto sz' c0 =>
      cases n with
      | zero => rfl
      | succ n =>
        simp only [appS, asSlc, appP, ble_if', beq_if, orecE, spliceR_eq, getCells'_eq, pushH_eq, putH_eq, nextH_eq, appR_eq, dropR_eq, lenR_eq, Nat.succ_ne_zero, if_false, Nat.mul_eq, Nat.add_eq]
        simp only [brecE]
        by_cases q2 : len ≤ 10000000
        · by_cases q3 : sz' = sz
          · have : ¬ (len > 10000000 ∨ sz' ≠ sz) := by omega
            rw [if_neg this]
            simp only [q2, if_true, q3]
            by_cases q5 : len + (n + 1) ≤ c0
            · simp only [q5, if_true, storeCells]
              cases new with
              | nil => rfl
              | cons y ys =>
                simp only [List.isEmpty_cons, Bool.false_eq_true, if_false, hnew, Bool.not_true]
                cases h.get b with
                | none => rfl
                | some x =>
                  cases x with
                  | cells t cs o =>
                    simp only []
                    cases splice cs (off + len * sz) (y :: ys) <;> rfl
                  | map _ _ => rfl
                  | dead => rfl
                  | ro _ => rfl
                  | loop _ _ _ _ _ => rfl
                  | iter _ _ _ => rfl
            · simp only [q5, if_false]
              cases h.get b with
              | none => rfl
              | some x =>
                cases x with
                | cells t cs o =>
                  cases o with
                  | false => rfl
                  | true =>
                    simp only []
                    by_cases q4 : cs.length = off + len * sz
                    · simp only [q4, if_true]; rfl
                    · simp only [q4, if_false]; rfl
                | map _ _ => rfl
                | dead => rfl
                | ro _ => rfl
                | loop _ _ _ _ _ => rfl
                | iter _ _ _ => rfl
          · have : len > 10000000 ∨ sz' ≠ sz := Or.inr q3
            simp only [q2, if_true, this, q3, if_false]; rfl
        · have : len > 10000000 ∨ sz' ≠ sz := Or.inl (by omega)
          simp only [q2, if_false, this, if_true]; rfl

theorem append_eq {P : Program} {st xt : TypeId} {e : TypeId} {sz : Nat} (hq : appendOk P st xt = some (e, sz)) (h : Heap) (s x : AV) :
    (appendA P h [st, xt] [s, x]).map (fun r => .val r.1 r.2) = newR h sz x fun n new => appS e sz h s n new := by
  unfold appendOk at hq
  split at hq
  · rename_i e' xd h1 h2
    split at hq
    · cases hq
    · rename_i hni
      split at hq
      · rename_i i z h3 h4
        split at hq
        · cases hq
        · rename_i hc
          simp only [Option.some.injEq, Prod.mk.injEq] at hq
          obtain ⟨rfl, rfl⟩ := hq
          rw [newR_eq]
          simp only [appendA, h1, h2]
          cases xd <;> first
            | exact (hni _ rfl).elim
            | (
              simp only [h3, h4]
              cases lenOfA x with
              | none => rfl
              | some n =>
                simp only []
                by_cases q : n > 10000000
                · have : i.size = 0 ∨ n > 10000000 ∨ i.bytes > 65536 ∨ z.cells.length ≠ i.size := Or.inr (Or.inl q)
                  rw [if_pos this, if_pos q]; rfl
                · have : ¬ (i.size = 0 ∨ n > 10000000 ∨ i.bytes > 65536 ∨ z.cells.length ≠ i.size) := by
                    intro hh; rcases hh with hh | hh | hh | hh
                    · exact hc (Or.inl hh)
                    · exact q hh
                    · exact hc (Or.inr (Or.inl hh))
                    · exact hc (Or.inr (Or.inr hh))
                  rw [if_neg this, if_neg q]
                  cases firstCellsA h i.size n x with
                  | none => rfl
                  | some new =>
                    simp only []
                    cases hp : new.all AV.plain with
                    | false => rfl
                    | true =>
                      simp only [Bool.not_true, Bool.false_eq_true, if_false]
                      rw [appS_eq _ _ _ _ _ _ hp]
                      cases s <;> try rfl
                      all_goals (rename_i cap; cases cap <;> rfl))
      · cases hq
  · cases hq

theorem updS_ok {P : Program} {t : TypeId} {m k x : Operand} {u : OpS} (hu : updS P t m k x = some u) (a : Tmps) (h : Heap) :
    (match evalA a m, evalA a k, evalA a x with | some m, some k, some x => (mapUpdateA P h t m k x).map ORes.skip | _, _, _ => none) = u.f a h := by
  unfold updS at hu
  split at hu
  · rename_i kt et hut
    split at hu
    · rename_i kd hk
      split at hu
      · rename_i hpk
        simp only [ev1_eq, Option.some.injEq] at hu; subst hu
        simp only [evS_eq, bindOO_eq, findR_eq, getH_eq, putH_eq, appR_eq, nthR_eq, orecE]
        cases evalA a m with
        | none => rfl
        | some mv => cases evalA a k with
          | none => rfl
          | some key => cases evalA a x with
            | none => rfl
            | some v =>
              simp only [mapUpdateA, hut, hk]
              cases mv <;> try rfl
              rename_i b
              simp only [asMap, hk]
              cases h.get b with
              | none => rfl
              | some bk =>
                cases bk <;> try rfl
                rename_i es clock
                simp only [hpk, Bool.not_true, Bool.false_eq_true, if_false]
                cases hq : findA kd key es 0 with
                | none => rfl
                | some r => cases r with
                  | none => rfl
                  | some q =>
                    obtain ⟨j, w⟩ := q
                    simp only []
                    cases nth es j <;> rfl
      · cases hu
    · cases hu
  · cases hu

theorem opS_eq (P : Program) (o : Oper) (a : Tmps) (h : Heap) : (opS P o).f a h = opA P h a o := by
  obtain ⟨dst, op, ty, pos, after, guard⟩ := o
  unfold opS
  split
  · rename_i t x y hop
    simp only at hop; subst hop
    split
    · rename_i n hn
      simp only [ev1_eq, evS_eq, bindOO_eq, onPtrO_eq, opA]
      cases evalA a x with
      | none => rfl
      | some p => cases evalA a y with
        | none => cases p <;> rfl
        | some v =>
          cases p <;> try rfl
          exact storeS_eq P t n hn v _ _ h
    · exact normO_eq _
  · rename_i t hop
    simp only at hop; subst hop
    split
    · rename_i z hz; simp only [opA, hz, pushH_eq, nextH_eq]
    · rename_i hz; simp only [opA, hz]
  · rename_i t x hop
    simp only at hop; subst hop
    simp only [ev1_eq, evS_eq, bindOO_eq, opA, cellsR_eq, plainAll_eq, pushH_eq, nextH_eq, brecE]
    cases evalA a x with
    | none => rfl
    | some v => simp only []; cases v.cells.all AV.plain <;> rfl
  · rename_i t parts hop
    simp only at hop; subst hop
    split
    · rename_i z fs hz hfs
      split
      · rename_i ps hps
        simp only [partsS_eq, fillR_eq, orecE, opA, buildA, hz, hfs, hps]
        cases evalParts a parts.toList with
        | none => rfl
        | some l =>
          have : nthR ps = nth ps := funext fun i => nthR_eq ps i
          simp only [this]
          cases fillA (nth ps) z.cells l <;> rfl
      · exact normO_eq _
    · exact normO_eq _
  · rename_i t len parts hop
    simp only at hop; subst hop
    split
    · rename_i e he
      split
      · rename_i n z hn hz
        split
        · rename_i hc
          simp only [Bool.and_eq_true, Bool.not_eq_true'] at hc
          obtain ⟨⟨c1, c2⟩, c3⟩ := hc
          have c1 := Nat.le_of_ble_eq_true c1
          have c2 := Nat.ne_of_beq_eq_false c2
          have c3 := Nat.eq_of_beq_eq_true c3
          have q : ¬ (len * n > 16777216 ∨ n = 0) := by omega
          simp only [partsS_eq, fillR_eq, orecE, opA, buildSliceA, he, hn, hz, q, if_false, c3, if_true, pushH_eq, nextH_eq]
          cases evalParts a parts.toList with
          | none => rfl
          | some l =>
            simp only [Nat.mul_eq]
            cases fillA (fun i => some (i * n, n)) (repeatL len z.cells) l <;> rfl
        · exact normO_eq _
      · exact normO_eq _
    · exact normO_eq _
  · rename_i c hop
    simp only at hop; subst hop
    split
    · rename_i f hf
      split
      · exact normO_eq _
      · rename_i hne
        simp only [evL_eq, orecE, opA, hf, staticExt, hne, evalA]
        cases evalAs a c.args.toList with
        | none => rfl
        | some args => simp
    · rename_i x hx hf
      have hse : staticExt P x = none := by cases x <;> first | rfl | exact (hx _ rfl).elim
      simp only [ev1_eq, evS_eq, bindOO_eq, evL_eq, opA, hf, hse]
      cases evalA a x with
      | none => cases evalAs a c.args.toList <;> rfl
      | some g =>
        cases g with
        | fn f first cap =>
          cases f with
          | func f =>
            simp only [asFn, orecE, appR_eq]
            cases evalAs a c.args.toList with
            | none => rfl
            | some args => simp
          | method _ => simp only [asFn]; cases evalAs a c.args.toList <;> rfl
          | methodOf _ _ => simp only [asFn]; cases evalAs a c.args.toList <;> rfl
          | via _ _ _ _ => simp only [asFn]; cases evalAs a c.args.toList <;> rfl
          | yield b =>
            simp only [asFn]
            cases first with
            | nil => cases cap with
              | nil => simp only [orecE]; cases evalAs a c.args.toList <;> rfl
              | cons _ _ => simp only []; cases evalAs a c.args.toList <;> rfl
            | cons _ _ => simp only []; cases evalAs a c.args.toList <;> rfl
        | _ => simp only [asFn]; cases evalAs a c.args.toList <;> rfl
    · rename_i hf
      split
      · rename_i st xt s x h1 h2
        split
        · rename_i e sz hq
          simp only [ev1_eq, evS_eq, bindOO_eq, opA, hf, h1, h2, evalAs, builtinA]
          cases evalA a s with
          | none => rfl
          | some v => cases evalA a x with
            | none => rfl
            | some w => exact (append_eq hq h v w).symm
        · exact normO_eq _
      · exact normO_eq _
    · exact normO_eq _
  · rename_i t m k x hop
    simp only at hop; subst hop
    split
    · rename_i u hu
      rw [← updS_ok hu a h]
      simp only [opA]
      cases evalA a m with
      | none => rfl
      | some _ => cases evalA a k with
        | none => rfl
        | some _ => cases evalA a x <;> rfl
    · exact normO_eq _
  · rename_i t m k x hop
    simp only at hop; subst hop
    split
    · rename_i u hu
      rw [← updS_ok hu a h]
      simp only [opA]
      cases evalA a m with
      | none => rfl
      | some _ => cases evalA a k with
        | none => rfl
        | some _ => cases evalA a x <;> rfl
    · exact normO_eq _
  · exact normO_eq _
end Go.Sx

namespace Go.Sx

/-! ### Regions -/

def RC.ofT : R (Tmps × Heap) → RC
  | .ok (a, h) => .normal a h
  | .bad s => .bad s
def RD.ofR : R (List En × Nat) → RD
  | .ok (es, b) => .ok es b
  | .bad s => .bad s

theorem asBool_eq (v : AV) : asBool v = match v with | .bool b => some b | _ => none := by cases v <;> rfl
theorem limS_eq (h : Heap) : limS h = Nat.blt h.next h.lim := rfl

theorem guardS_eq (ops : Array Oper) (o : Oper) (go skip : Step) (c : Call') (a : Tmps) (h : Heap) :
    (guardS ops o go skip).f c a h = match wantedA ops o a with
      | some true => go.f c a h
      | some false => skip.f c a h
      | none => .bad "guard" := by
  unfold guardS wantedA
  cases o.guard with
  | none => rfl
  | some g =>
    obtain ⟨j, want⟩ := g
    simp only []
    cases nth ops.toList j with
    | none => rfl
    | some q =>
      simp only []
      cases q.dst with
      | none => rfl
      | some d =>
        cases want <;> simp only [slotE_eq, orecE, asBool_eq, brecE] <;> (cases a.get d with
          | none => rfl
          | some v => cases v <;> try rfl
                      rename_i b; cases b <;> rfl)

theorem goS_eq (P : Program) (o : Oper) (next : Step) (c : Call') (a : Tmps) (h : Heap) :
    (goS P o next).f c a h = match Nat.blt h.next h.lim with
      | false => .bad "lim"
      | true => match opA P h a o with
        | some (.val v h') => next.f c (put a o.dst v) h'
        | some (.skip h') => next.f c (put a o.dst .undef) h'
        | some (.enter f args) => (match c (.fn f) args h with
          | .ok v h' => next.f c (put a o.dst v) h'
          | .bad s => .bad s)
        | some (.round b args) => (match c (.rnd b) args h with
          | .ok v h' => next.f c (put a o.dst v) h'
          | .bad s => .bad s)
        | none => .bad o.pos := by
  show ((match pureS P o.op with
  | some p => @Pure.rec (fun _ => Step) (fun g => ⟨fun c a h => @Bool.rec (fun _ => RC) (.bad "lim") (@Option.rec AV (fun _ => RC) (.bad o.pos) (fun v => next.f c ((putB o.dst).f a v) h) (g a h)) (limS h)⟩) p
  | none => ⟨fun c a h => @Bool.rec (fun _ => RC) (.bad "lim") (@Option.rec ORes (fun _ => RC) (.bad o.pos) (fun r => @ORes.rec (fun _ => RC)
      (fun v h' => next.f c ((putB o.dst).f a v) h')
      (fun h' => next.f c ((putB o.dst).f a .undef) h')
      (fun f args => @RV.rec (fun _ => RC) (fun v h' => next.f c ((putB o.dst).f a v) h') (fun s => .bad s) (c (.fn f) args h))
      (fun b args => @RV.rec (fun _ => RC) (fun v h' => next.f c ((putB o.dst).f a v) h') (fun s => .bad s) (c (.rnd b) args h)) r) ((opS P o).f a h)) (limS h)⟩ : Step)).f c a h = _
  cases hp : pureS P o.op with
  | some p =>
    obtain ⟨g⟩ := p
    simp only [brecE, orecE, limS_eq, putB_eq]
    rw [pureS_ok hp a h]
    cases Nat.blt h.next h.lim with
    | false => rfl
    | true => simp only []; cases g a h <;> rfl
  | none =>
    simp only [brecE, orecE, limS_eq, putB_eq, opS_eq]
    cases Nat.blt h.next h.lim with
    | false => rfl
    | true =>
      simp only []
      cases opA P h a o with
      | none => rfl
      | some r =>
        cases r with
        | val v h' => rfl
        | skip h' => rfl
        | enter f args => simp only []; cases c (.fn f) args h <;> rfl
        | round b args => simp only []; cases c (.rnd b) args h <;> rfl

theorem regS_eq {P : Program} {self : Code → Tmps → Heap → Res} {c : Call'} (hc : ∀ t args h, c t args h = RV.ofR (tgtF P self t args h)) (ops : Array Oper) (l : List Oper) (a : Tmps) (h : Heap) :
    (regS P ops l).f c a h = RC.ofT (opsF P self ops l a h) := by
  induction l generalizing a h with
  | nil => rfl
  | cons o l ih =>
    show (guardS ops o (goS P o (regS P ops l)) ⟨fun c a h => (regS P ops l).f c ((putB o.dst).f a .undef) h⟩).f c a h = _
    rw [guardS_eq]
    simp only [opsF, oneA]
    cases wantedA ops o a with
    | none => rfl
    | some b =>
      cases b with
      | false => simp only [putB_eq, ih]
      | true =>
        simp only [goS_eq]
        cases Nat.blt h.next h.lim with
        | false => rfl
        | true =>
          simp only []
          cases opA P h a o with
          | none => rfl
          | some r =>
            cases r with
            | val v h' => simp only [ih]
            | skip h' => simp only [ih]
            | enter f args =>
              simp only [hc, tgtF]
              cases callF P self f args h with
              | bad s => rfl
              | ok x => obtain ⟨v, h'⟩ := x; simp only [RV.ofR, ih]
            | round b args =>
              simp only [hc, tgtF]
              cases roundF self b args h with
              | bad s => rfl
              | ok x => obtain ⟨v, h'⟩ := x; simp only [RV.ofR, ih]

/-! ### Regions that draw -/

theorem bitR_eq (m k : Nat) : bitR m k = Nat.testBit m k := by
  have e : Nat.testBit m k = !(Nat.beq (Nat.land 1 (Nat.shiftRight m k)) 0) := by
    show ((1 &&& (m >>> k)) != 0) = _
    have : ((1 &&& (m >>> k)) != 0) = !((1 &&& (m >>> k)) == 0) := rfl
    rw [this]
    congr 1
    rw [Bool.eq_iff_iff, beq_iff_eq, Nat.beq_eq]
    exact Iff.rfl
  rw [e, bitR, brecE]
  cases Nat.beq (Nat.land 1 (Nat.shiftRight m k)) 0 <;> rfl

theorem bitsOf_succ (m k n : Nat) : bitsOf m k (n + 1) = Nat.testBit m k :: bitsOf m (k + 1) n := by rw [← bitR_eq]; rfl

theorem lookTR_eq (m : Nat) (x : Nat) (acc : List En) (k n : Nat) (hn : acc.length ≤ n) (r : Option AV) :
    lookTR x acc (bitsOf m k n) r = lookT (Nat.testBit m) acc k x r := by
  induction acc generalizing k n r with
  | nil => rfl
  | cons e es ih =>
    cases n with
    | zero => simp at hn
    | succ n =>
      have hn' : es.length ≤ n := by simpa using hn
      rw [bitsOf_succ]
      show lookTR x es (bitsOf m (k + 1) n) (@Bool.rec (fun _ => Option AV) r (@Option.rec Nat (fun _ => Option AV) r (fun d => @Bool.rec (fun _ => Option AV) r (some e.v) (Nat.beq d x)) e.dst) (Nat.testBit m k)) = _
      rw [ih (k + 1) n hn']
      simp only [lookT, brecE, orecE]
      congr 1
      cases Nat.testBit m k with
      | false => rfl
      | true => cases e.dst with
        | none => rfl
        | some d => simp only []; cases Nat.beq d x <;> rfl

theorem assocR_eq (b : Nat) (l : List (Nat × Blk)) : assocR b l = assoc l b := by
  induction l with
  | nil => rfl
  | cons p l ih =>
    obtain ⟨k, c⟩ := p
    show @Bool.rec (fun _ => Option Blk) (assocR b l) (some c) (Nat.beq k b) = _
    rw [ih, brecE, assoc]; cases Nat.beq k b <;> rfl

theorem lookHR_eq (m : Nat) (b : Nat) (acc : List En) (k n : Nat) (hn : acc.length ≤ n) (r : Option Blk) :
    lookHR b acc (bitsOf m k n) r = lookH (Nat.testBit m) acc k b r := by
  induction acc generalizing k n r with
  | nil => rfl
  | cons e es ih =>
    cases n with
    | zero => simp at hn
    | succ n =>
      have hn' : es.length ≤ n := by simpa using hn
      rw [bitsOf_succ]
      show lookHR b es (bitsOf m (k + 1) n) (@Bool.rec (fun _ => Option Blk) r (@Option.rec Blk (fun _ => Option Blk) r (fun c => some c) (assocR b e.keys)) (Nat.testBit m k)) = _
      rw [ih (k + 1) n hn']
      simp only [lookH, brecE, orecE, assocR_eq]
      congr 1
      cases Nat.testBit m k with
      | false => rfl
      | true => simp only []; cases assoc e.keys b <;> rfl

theorem putsR_eq (l : List (Nat × Blk)) (t : T Blk) : putsR l t = putsH l t := by
  induction l with
  | nil => rfl
  | cons p l ih =>
    obtain ⟨k, c⟩ := p
    show T.putN (k + 1) (putsR l t) k c = _
    rw [putN_eq, ih]; rfl

theorem heapTR_eq (m : Nat) (acc : List En) (k n : Nat) (hn : acc.length ≤ n) (t : T Blk) :
    heapTR acc (bitsOf m k n) t = heapT (Nat.testBit m) acc k t := by
  induction acc generalizing k n t with
  | nil => rfl
  | cons e es ih =>
    cases n with
    | zero => simp at hn
    | succ n =>
      have hn' : es.length ≤ n := by simpa using hn
      rw [bitsOf_succ]
      show heapTR es (bitsOf m (k + 1) n) (@Bool.rec (fun _ => T Blk) t (putsR e.keys t) (Nat.testBit m k)) = _
      rw [ih (k + 1) n hn']
      simp only [heapT, brecE, putsR_eq]
      congr 1

theorem restrTR_eq (m : Nat) (acc : List En) (n : Nat) (hn : acc.length ≤ n) (a : Tmps) (l : List Nat) :
    (restrTR (bitsOf m 0 n) l).f acc a = restrT (Nat.testBit m) acc a l := by
  induction l with
  | nil => rfl
  | cons x xs ih =>
    show @Option.rec AV (fun _ => T AV) ((restrTR (bitsOf m 0 n) xs).f acc a) (fun v => (setB (pathF x x)).f v ((restrTR (bitsOf m 0 n) xs).f acc a)) (lookTR x acc (bitsOf m 0 n) ((slotE x).f a)) = _
    rw [lookTR_eq m x acc 0 n hn, slotE_eq, ih, orecE, restrT]
    simp only [setB_eq x x (Nat.le_refl _)]
    cases lookT (Nat.testBit m) acc 0 x (a.get x) <;> rfl

theorem ptrFp_eq (v : Option AV) : ptrFp v = match v with | some (.ptr b _) => .one b | _ => .all := by
  cases v with
  | none => rfl
  | some v => cases v <;> rfl

theorem intFp_eq (v : Option AV) : intFp v = match v with | some (.int _ _) => true | _ => false := by
  cases v with
  | none => rfl
  | some v => cases v <;> rfl
theorem mapFp_eq (v : Option AV) : mapFp v = match v with | none => false | some (.map _) => false | some _ => true := by
  cases v with
  | none => rfl
  | some v => cases v <;> rfl

theorem covers_eq (m : Nat) (acc : List En) (k n : Nat) (hc : coversR acc (bitsOf m k n) = true) (t : T Blk) :
    heapT (Nat.testBit m) acc k t = heapT (fun _ => true) acc k t := by
  induction acc generalizing k n t with
  | nil => rfl
  | cons e es ih =>
    cases n with
    | zero => cases hc
    | succ n =>
      rw [bitsOf_succ] at hc
      have hc : @Bool.rec (fun _ => Bool) (@List.rec (Nat × Blk) (fun _ => Bool) (coversR es (bitsOf m (k + 1) n)) (fun _ _ _ => false) e.keys) (coversR es (bitsOf m (k + 1) n)) (Nat.testBit m k) = true := hc
      simp only [heapT]
      cases hb : Nat.testBit m k with
      | true => rw [hb] at hc; exact ih (k + 1) n hc _
      | false =>
        rw [hb] at hc
        simp only at hc
        cases hk : e.keys with
        | nil => rw [hk] at hc; exact ih (k + 1) n hc _
        | cons _ _ => rw [hk] at hc; cases hc

theorem heapT_append (acc : List En) (e : En) (k : Nat) (t : T Blk) : heapT (fun _ => true) (acc ++ [e]) k t = putsH e.keys (heapT (fun _ => true) acc k t) := by
  induction acc generalizing k t with
  | nil => rfl
  | cons x xs ih => simp only [List.cons_append, heapT]; exact ih (k + 1) _

theorem lookH_covers (m : Nat) (acc : List En) (k n : Nat) (hc : coversR acc (bitsOf m k n) = true) (b : Nat) (t : T Blk) :
    (heapT (fun _ => true) acc k t).get b = lookH (Nat.testBit m) acc k b (t.get b) := by
  rw [← covers_eq m acc k n hc, heapT_get]

/-- the heap that an operation sees -/
theorem trS_eq (m : Nat) (ops : Array Oper) (o : Oper) (a' : Tmps) (h : Heap) (acc : List En) (n : Nat) (hn : acc.length ≤ n) (hw : wantedA ops o a' = some true) :
    (trS (bitsOf m 0 n) o.op).f a' h.t (heapT (fun _ => true) acc 0 h.t) acc = match fpOf ops a' o with
      | some bs => restrH (Nat.testBit m) acc h bs
      | none => heapT (Nat.testBit m) acc 0 h.t := by
  have hall : @Bool.rec (fun _ => T Blk) (heapTR acc (bitsOf m 0 n) h.t) (heapT (fun _ => true) acc 0 h.t) (coversR acc (bitsOf m 0 n)) = heapT (Nat.testBit m) acc 0 h.t := by
    cases hc : coversR acc (bitsOf m 0 n) with
    | false => exact heapTR_eq m acc 0 n hn h.t
    | true => exact (covers_eq m acc 0 n hc h.t).symm
  have hone : ∀ b, @Bool.rec (fun _ => Option Blk) (lookHR b acc (bitsOf m 0 n) (T.getN h.t b)) (T.getN (heapT (fun _ => true) acc 0 h.t) b) (coversR acc (bitsOf m 0 n)) = lookH (Nat.testBit m) acc 0 b (h.t.get b) := by
    intro b
    cases hc : coversR acc (bitsOf m 0 n) with
    | false => simp only []; rw [lookHR_eq m b acc 0 n hn, getN_eq]
    | true => simp only []; rw [getN_eq, lookH_covers m acc 0 n hc]
  have key : ∀ x, @FpV.rec (fun _ => T Blk) (@Bool.rec (fun _ => T Blk) (heapTR acc (bitsOf m 0 n) h.t) (heapT (fun _ => true) acc 0 h.t) (coversR acc (bitsOf m 0 n)))
      (fun b => @Option.rec Blk (fun _ => T Blk) .leaf (fun c => T.putN (Nat.succ b) .leaf b c) (@Bool.rec (fun _ => Option Blk) (lookHR b acc (bitsOf m 0 n) (T.getN h.t b)) (T.getN (heapT (fun _ => true) acc 0 h.t) b) (coversR acc (bitsOf m 0 n)))) (ptrFp ((evS x).f a'))
      = (match (match evalA a' x with | some (.ptr b _) => some [b] | _ => none) with
        | some bs => restrH (Nat.testBit m) acc h bs
        | none => heapT (Nat.testBit m) acc 0 h.t) := by
    intro x
    rw [evS_eq, ptrFp_eq]
    cases evalA a' x with
    | none => exact hall
    | some v =>
      cases v <;> try exact hall
      rename_i b off
      show @Option.rec Blk (fun _ => T Blk) .leaf (fun c => T.putN (Nat.succ b) .leaf b c) (@Bool.rec (fun _ => Option Blk) (lookHR b acc (bitsOf m 0 n) (T.getN h.t b)) (T.getN (heapT (fun _ => true) acc 0 h.t) b) (coversR acc (bitsOf m 0 n))) = _
      rw [hone, orecE]
      simp only [restrH, putN_eq]
      cases lookH (Nat.testBit m) acc 0 b (h.t.get b) <;> rfl
  have key2 : ∀ x, @Bool.rec (fun _ => T Blk) (@Bool.rec (fun _ => T Blk) (heapTR acc (bitsOf m 0 n) h.t) (heapT (fun _ => true) acc 0 h.t) (coversR acc (bitsOf m 0 n))) .leaf (intFp ((evS x).f a'))
      = (match (match evalA a' x with | some (.int _ _) => some [] | _ => none) with
        | some bs => restrH (Nat.testBit m) acc h bs
        | none => heapT (Nat.testBit m) acc 0 h.t) := by
    intro x
    rw [evS_eq, intFp_eq]
    cases evalA a' x with
    | none => exact hall
    | some v => cases v <;> first | exact hall | rfl
  have key3 : ∀ x, @Bool.rec (fun _ => T Blk) (@Bool.rec (fun _ => T Blk) (heapTR acc (bitsOf m 0 n) h.t) (heapT (fun _ => true) acc 0 h.t) (coversR acc (bitsOf m 0 n))) .leaf (mapFp ((evS x).f a'))
      = (match (match evalA a' x with | none => none | some (.map _) => none | some _ => some []) with
        | some bs => restrH (Nat.testBit m) acc h bs
        | none => heapT (Nat.testBit m) acc 0 h.t) := by
    intro x
    rw [evS_eq, mapFp_eq]
    cases evalA a' x with
    | none => exact hall
    | some v => cases v <;> first | exact hall | rfl
  have keyC : ∀ c : Call, (trS (bitsOf m 0 n) (.call c)).f a' h.t (heapT (fun _ => true) acc 0 h.t) acc = (match (match c.callee with
      | .builtin .min => some []
      | .builtin .max => some []
      | .builtin .len => (match c.args.toList with
        | [] => none
        | x :: _ => match evalA a' x with
          | none => none
          | some (.map _) => none
          | some _ => some [])
      | _ => none : Option (List Nat)) with
        | some bs => restrH (Nat.testBit m) acc h bs
        | none => heapT (Nat.testBit m) acc 0 h.t) := by
    intro c
    unfold trS
    obtain ⟨cal, args, ts⟩ := c
    cases cal with
    | builtin b =>
      cases b <;> first | exact hall | rfl | skip
      simp only []
      cases args.toList with
      | nil => exact hall
      | cons x l => exact key3 x
    | _ => exact hall
  unfold fpOf
  rw [hw]
  cases o.op <;> first | exact keyC _ | exact key _ | exact key2 _ | exact hall | rfl

theorem keysR_eq (t : T Blk) (l : List Nat) : keysR t l = wKeys t l := by
  induction l with
  | nil => rfl
  | cons x l ih =>
    show @Option.rec Blk (fun _ => List (Nat × Blk)) (keysR t l) (fun c => (x, c) :: keysR t l) (T.getN t x) = _
    rw [ih, getN_eq, orecE, wKeys]
    cases t.get x <;> rfl
theorem rangeR_eq (b n : Nat) : rangeR b n = rangeL b n := by
  induction n generalizing b with
  | zero => rfl
  | succ n ih => exact congrArg (List.cons b) (ih (b + 1))
theorem slotOk_eq (n : Nat) (d : Option Nat) : slotOk n d = match d with | some d => Nat.blt d n | none => true := by cases d <;> rfl

theorem guardD_eq (ops : Array Oper) (o : Oper) (go skip : DrawG) (c : Call') (a : Tmps) (n lim : Nat) (t cur : T Blk) (acc : List En) (base : Nat) (a' : Tmps) :
    (guardD ops o go skip).f c a n lim t cur acc base a' = match wantedA ops o a' with
      | some true => go.f c a n lim t cur acc base a'
      | some false => skip.f c a n lim t cur acc base a'
      | none => .bad "guard" := by
  unfold guardD wantedA
  cases o.guard with
  | none => rfl
  | some g =>
    obtain ⟨j, want⟩ := g
    simp only []
    cases nth ops.toList j with
    | none => rfl
    | some q =>
      simp only []
      cases q.dst with
      | none => rfl
      | some d =>
        cases want <;> simp only [slotE_eq, orecE, asBool_eq, brecE] <;> (cases a'.get d with
          | none => rfl
          | some v => cases v <;> try rfl
                      rename_i b; cases b <;> rfl)

theorem wKeys_nil (t : T Blk) : wKeys t [] = [] := rfl

theorem headR_drop (ms : List Nat) (i : Nat) : headR (ms.drop i) = nthD ms i := by
  induction ms generalizing i with
  | nil => cases i <;> rfl
  | cons m ms ih => cases i with
    | zero => rfl
    | succ i => exact ih i
theorem tailR_drop (ms : List Nat) (i : Nat) : tailR (ms.drop i) = ms.drop (i + 1) := by
  induction ms generalizing i with
  | nil => cases i <;> rfl
  | cons m ms ih => cases i with
    | zero => rfl
    | succ i => exact ih i

theorem drawS_eq {P : Program} {self : Code → Tmps → Heap → Res} {c : Call'} (hc : ∀ t args h, c t args h = RV.ofR (tgtF P self t args h))
    (ops : Array Oper) (ms : List Nat) (a : Tmps) (h : Heap) (l : List Oper) (i : Nat) (mss : List Nat) (acc : List En) (base : Nat) (hi : acc.length = i) (hms : mss = ms.drop i) :
    (drawS P ops mss l i).f c a a.n h.lim h.t (heapT (fun _ => true) acc 0 h.t) acc base = RD.ofR (drawF P self ops ms a h l acc base) := by
  induction l generalizing i mss acc base with
  | nil => rfl
  | cons o l ih =>
    have hd : headR mss = nthD ms i := by rw [hms]; exact headR_drop ms i
    have ht : tailR mss = ms.drop (i + 1) := by rw [hms]; exact tailR_drop ms i
    have nx : ∀ e b', (drawS P ops (tailR mss) l (i + 1)).f c a a.n h.lim h.t (putsH e.keys (heapT (fun _ => true) acc 0 h.t)) (acc ++ [e]) b' = RD.ofR (drawF P self ops ms a h l (acc ++ [e]) b') :=
      fun e b' => by rw [← heapT_append]; exact ih (i + 1) (tailR mss) (acc ++ [e]) b' (by simp [hi]) ht
    have nx0 : ∀ e b', e.keys = [] → (drawS P ops (tailR mss) l (i + 1)).f c a a.n h.lim h.t (heapT (fun _ => true) acc 0 h.t) (acc ++ [e]) b' = RD.ofR (drawF P self ops ms a h l (acc ++ [e]) b') :=
      fun e b' he => by have := nx e b'; rw [he] at this; exact this
    show (guardD ops o (goD P (bitsOf (headR mss) 0 i) o (mentOf ops o) (drawS P ops (tailR mss) l (i + 1)))
        ⟨fun c a n lim t cur acc base _ => nextD0 (drawS P ops (tailR mss) l (i + 1)) o (mentOf ops o) c a n lim t cur acc base .leaf .undef⟩).f c a a.n h.lim h.t (heapT (fun _ => true) acc 0 h.t) acc base
        (Tmps.mk a.n false ((restrTR (bitsOf (headR mss) 0 i) (mentOf ops o)).f acc a)) = _
    rw [hd, guardD_eq, restrTR_eq (nthD ms i) acc i (Nat.le_of_eq hi)]
    have D0 : ∀ (tr : T Blk) (v : AV), nextD0 (drawS P ops (tailR mss) l (i + 1)) o (mentOf ops o) c a a.n h.lim h.t (heapT (fun _ => true) acc 0 h.t) acc base tr v
        = match Nat.blt base h.lim with
          | false => .bad "lim"
          | true => match (match o.dst with | some d => Nat.blt d a.n | none => true) with
            | true => RD.ofR (drawF P self ops ms a h l (acc ++ [{ lo := base, hi := base + 1, dst := o.dst, v, keys := [], ment := mentOf ops o, tr }]) (base + 1))
            | false => .bad "slot" := by
      intro tr v
      simp only [nextD0, brecE, slotOk_eq, appR_eq]
      rw [nx0 _ _ rfl]
      rw [show Nat.ble (Nat.succ base) h.lim = Nat.blt base h.lim from rfl]
      cases Nat.blt base h.lim with
      | false => rfl
      | true => cases o.dst with
        | none => rfl
        | some d => simp only [] <;> (cases hz : Nat.ble (Nat.succ d) a.n <;> simp only [show Nat.blt d a.n = Nat.ble (Nat.succ d) a.n from rfl, hz] <;> rfl)
    have D1 : ∀ (tr : T Blk) (v : AV) (h1 : Heap), nextD (drawS P ops (tailR mss) l (i + 1)) o (mentOf ops o) c a a.n h.lim h.t (heapT (fun _ => true) acc 0 h.t) acc base tr v h1
        = match Nat.blt h1.next h.lim with
          | false => .bad "lim"
          | true => match (match o.dst with | some d => Nat.blt d a.n | none => true) with
            | true => RD.ofR (drawF P self ops ms a h l (acc ++ [{ lo := base, hi := h1.next + 1, dst := o.dst, v, keys := wKeys h1.t (h1.wr ++ rangeL base (h1.next - base)), ment := mentOf ops o, tr }]) (h1.next + 1))
            | false => .bad "slot" := by
      intro tr v h1
      obtain ⟨n1, l1, w1, t1⟩ := h1
      simp only [nextD, brecE, slotOk_eq, appR_eq, keysR_eq, rangeR_eq, putsR_eq]
      rw [nx ⟨base, Nat.succ n1, o.dst, v, wKeys t1 (w1 ++ rangeL base (Nat.sub n1 base)), mentOf ops o, tr⟩]
      rw [show Nat.ble (Nat.succ n1) h.lim = Nat.blt n1 h.lim from rfl]
      cases Nat.blt n1 h.lim with
      | false => rfl
      | true => cases o.dst with
        | none => rfl
        | some d => simp only [] <;> (cases hz : Nat.ble (Nat.succ d) a.n <;> simp only [show Nat.blt d a.n = Nat.ble (Nat.succ d) a.n from rfl, hz] <;> rfl)
    have pull : ∀ (b : Bool) (x y : R (List En × Nat)), RD.ofR (match b with | true => x | false => y) = match b with | true => RD.ofR x | false => RD.ofR y := by
      intro b x y; cases b <;> rfl
    simp only [drawF, hi, oneA]
    generalize ha' : ({ n := a.n, dflt := false, t := restrT (Nat.testBit (nthD ms i)) acc a (mentOf ops o) } : Tmps) = a'
    cases hw : wantedA ops o a' with
    | none => rfl
    | some b =>
      cases b with
      | false =>
        have hf : fpOf ops a' o = some [] := by unfold fpOf; rw [hw]
        simp only [hf, restrH, D0, Nat.sub_self, rangeL, List.append_nil, wKeys]
        cases Nat.blt base h.lim with
        | false => rfl
        | true =>
          simp only []
          cases hd : o.dst with
          | none => rfl
          | some d => simp only []; cases Nat.blt d a.n <;> rfl
      | true =>
        have htr := trS_eq (nthD ms i) ops o a' h acc i (Nat.le_of_eq hi) hw
        cases hfp : fpOf ops a' o
        case' none => simp only [hfp] at htr; simp only []; generalize heapT (Nat.testBit (nthD ms i)) acc 0 h.t = TR at htr ⊢
        case' some bs => simp only [hfp] at htr; simp only []; generalize restrH (Nat.testBit (nthD ms i)) acc h bs = TR at htr ⊢
        all_goals
          unfold goD
          cases hp : pureS P o.op with
          | some p =>
            simp only [brecE, orecE, htr, D0]
            rw [pureS_ok hp a' ({ next := base, lim := h.lim, wr := [], t := TR })]
            show (match Nat.blt base h.lim with | true => _ | false => _) = _
            cases hb : Nat.blt base h.lim with
            | false => rfl
            | true =>
              simp only []
              cases p.f a' { next := base, lim := h.lim, wr := [], t := TR } with
              | none => rfl
              | some v =>
                simp only [Option.map_some, Nat.sub_self, rangeL, List.append_nil, wKeys, hb]
                cases hd : o.dst with
                | none => rfl
                | some d => simp only []; cases Nat.blt d a.n <;> rfl
          | none =>
            simp only [brecE, orecE, htr, opS_eq, D1]
            show (match Nat.blt base h.lim with | true => _ | false => _) = _
            cases Nat.blt base h.lim with
            | false => rfl
            | true =>
              simp only []
              cases opA P { next := base, lim := h.lim, wr := [], t := TR } a' o with
              | none => rfl
              | some r =>
                cases r with
                | val v h1 =>
                  simp only []
                  cases Nat.blt h1.next h.lim with
                  | false => rfl
                  | true =>
                    simp only []
                    cases hd : o.dst with
                    | none => rfl
                    | some d => simp only []; cases Nat.blt d a.n <;> rfl
                | skip h1 =>
                  simp only []
                  cases Nat.blt h1.next h.lim with
                  | false => rfl
                  | true =>
                    simp only []
                    cases hd : o.dst with
                    | none => rfl
                    | some d => simp only []; cases Nat.blt d a.n <;> rfl
                | enter f args =>
                  simp only [hc, tgtF]
                  cases callF P self f args { next := base, lim := h.lim, wr := [], t := TR } with
                  | bad s => rfl
                  | ok x =>
                    obtain ⟨v, h1⟩ := x
                    simp only [RV.ofR]
                    cases Nat.blt h1.next h.lim with
                    | false => rfl
                    | true =>
                      simp only []
                      cases hd : o.dst with
                      | none => rfl
                      | some d => simp only []; cases Nat.blt d a.n <;> rfl
                | round b args =>
                  simp only [hc, tgtF]
                  cases roundF self b args { next := base, lim := h.lim, wr := [], t := TR } with
                  | bad s => rfl
                  | ok x =>
                    obtain ⟨v, h1⟩ := x
                    simp only [RV.ofR]
                    cases Nat.blt h1.next h.lim with
                    | false => rfl
                    | true =>
                      simp only []
                      cases hd : o.dst with
                      | none => rfl
                      | some d => simp only []; cases Nat.blt d a.n <;> rfl

/-! apartness -/
def En.sen (e : En) : SEn := ⟨e.dst, e.ment⟩

theorem drawF_sens {P : Program} {self : Code → Tmps → Heap → Res} {ops : Array Oper} {ms : List Nat} {a : Tmps} {h : Heap} {l : List Oper} {acc es : List En} {base b : Nat}
    (hd : drawF P self ops ms a h l acc base = .ok (es, b)) : es.map En.sen = acc.map En.sen ++ sensOf ops l := by
  induction l generalizing acc base with
  | nil => simp only [drawF, R.ok.injEq, Prod.mk.injEq] at hd; obtain ⟨rfl, rfl⟩ := hd; simp [sensOf]
  | cons o l ih =>
    simp only [drawF] at hd
    split at hd
    · cases hd
    · split at hd
      · cases hd
      · split at hd
        · have := ih hd
          rw [this]; simp [sensOf, En.sen]
        · cases hd

theorem chkTS_eq (x y : En) : chkTS x.sen y.sen = chkT x y := rfl

theorem chkH1R_eq (x y : En) (l : List (Nat × Blk)) : chkH1R y.tr y.keys l = chkH1 x y l := by
  induction l with
  | nil => rfl
  | cons p l ih =>
    obtain ⟨b, c⟩ := p
    show @Option.rec Blk (fun _ => Bool) (@Option.rec Blk (fun _ => Bool) (chkH1R y.tr y.keys l) (fun _ => false) (assocR b y.keys)) (fun _ => false) (T.getN y.tr b) = _
    rw [ih, assocR_eq, getN_eq, orecE, orecE, chkH1]
    cases y.tr.get b with
    | some _ => rfl
    | none => cases assoc y.keys b <;> simp

theorem chkHR_eq (x y : En) : chkHR x y = (chkH1 x y x.keys && chkH1 y x y.keys) := by
  simp only [chkHR, brecE]
  rw [chkH1R_eq y x, chkH1R_eq x y]
  cases chkH1 x y x.keys <;> cases chkH1 y x y.keys <;> rfl

theorem chkOne_eq (e : En) (m : Nat) (acc : List En) (k n : Nat) (hn : acc.length ≤ n) :
    chkOne e m acc k = (chkOneT e.sen m (acc.map En.sen) k && chkOneR e acc (bitsOf m k n)) := by
  induction acc generalizing k n with
  | nil => rfl
  | cons x xs ih =>
    cases n with
    | zero => simp at hn
    | succ n =>
      have hn' : xs.length ≤ n := by simpa using hn
      rw [bitsOf_succ]
      have e2 : chkOneR e (x :: xs) (Nat.testBit m k :: bitsOf m (k + 1) n) = @Bool.rec (fun _ => Bool) (@Bool.rec (fun _ => Bool) false (chkOneR e xs (bitsOf m (k + 1) n)) (chkHR x e)) (chkOneR e xs (bitsOf m (k + 1) n)) (Nat.testBit m k) := rfl
      rw [e2]
      simp only [chkOne, List.map_cons, chkOneT, brecE, chkTS_eq, chkHR_eq, ih (k + 1) n hn', chkPair]
      generalize chkOneT e.sen m (xs.map En.sen) (k + 1) = p
      generalize chkOneR e xs (bitsOf m (k + 1) n) = q
      cases Nat.testBit m k with
      | true => rfl
      | false =>
        simp only []
        generalize chkT x e = u
        generalize chkH1 x e x.keys = v
        generalize chkH1 e x e.keys = w
        cases u <;> cases v <;> cases w <;> cases p <;> cases q <;> rfl

theorem chkAll_eq (ms : List Nat) (es acc : List En) (mss : List Nat) (hms : mss = ms.drop acc.length) :
    chkAll ms acc es = (chkAllT ms (acc.map En.sen) (es.map En.sen) &&
      @List.rec En (fun _ => List Nat → List En → Nat → Bool) (fun _ _ _ => true)
        (fun e _ ih ms acc i => @Bool.rec (fun _ => Bool) false (ih (tailR ms) (appR acc [e]) (Nat.succ i)) (chkOneR e acc (bitsOf (headR ms) 0 i))) es mss acc acc.length) := by
  induction es generalizing acc mss with
  | nil => rfl
  | cons e es ih =>
    have hd : headR mss = nthD ms acc.length := by rw [hms]; exact headR_drop ms _
    have ht : tailR mss = ms.drop (acc ++ [e]).length := by rw [hms]; simpa using tailR_drop ms acc.length
    simp only [chkAll, List.map_cons, chkAllT, List.length_map]
    rw [chkOne_eq e (nthD ms acc.length) acc 0 acc.length (Nat.le_refl _), ih (acc ++ [e]) (tailR mss) ht]
    have hl : (acc ++ [e]).length = acc.length + 1 := by simp
    rw [hl, List.map_append, List.map_cons, List.map_nil]
    simp only [appR_eq, brecE, hd]
    generalize chkOneT e.sen (nthD ms acc.length) (acc.map En.sen) 0 = p
    generalize chkOneR e acc (bitsOf (nthD ms acc.length) 0 acc.length) = q
    generalize chkAllT ms (acc.map En.sen ++ [e.sen]) (es.map En.sen) = r
    cases q with
    | false => cases p <;> cases r <;> simp
    | true => cases p <;> cases r <;> simp

theorem tmpsR_eq (es : List En) (a : Tmps) (k : Nat) : tmpsR es a = tmpsD (fun _ => true) es k a := by
  induction es generalizing a k with
  | nil => rfl
  | cons e es ih =>
    show tmpsR es (@Option.rec Nat (fun _ => Tmps) a (fun d => (slotP d).f a e.v) e.dst) = _
    rw [ih _ (k + 1), orecE, tmpsD]
    congr 1
    cases e.dst with
    | none => rfl
    | some d => exact slotP_eq d a e.v
theorem heapAllR_eq (es : List En) (t : T Blk) (k : Nat) : heapAllR es t = heapT (fun _ => true) es k t := by
  induction es generalizing t k with
  | nil => rfl
  | cons e es ih =>
    show heapAllR es (putsR e.keys t) = _
    rw [ih _ (k + 1), putsR_eq, heapT]
theorem keysAllR_eq (es : List En) : keysAllR es = keysOf es := by
  induction es with
  | nil => rfl
  | cons e es ih =>
    have key : ∀ l : List (Nat × Blk), @List.rec (Nat × Blk) (fun _ => List Nat) (keysAllR es) (fun p _ ih' => p.1 :: ih') l = l.map (·.1) ++ keysAllR es := by
      intro l
      induction l with
      | nil => rfl
      | cons p l ih => exact congrArg (List.cons p.1) ih
    show @List.rec (Nat × Blk) (fun _ => List Nat) (keysAllR es) (fun p _ ih' => p.1 :: ih') e.keys = _
    rw [key, ih, keysOf]

theorem drawRS_eq {P : Program} {self : Code → Tmps → Heap → Res} {c : Call'} (hc : ∀ t args h, c t args h = RV.ofR (tgtF P self t args h)) (ops : Array Oper) (a : Tmps) (h : Heap) :
    (drawRS P ops).f c a h = RC.ofT (drawR P self ops a h) := by
  unfold drawRS drawR
  cases P.follows .mixedOrders with
  | false => rfl
  | true =>
    simp only []
    cases masksF ops.toList [] with
    | none => rfl
    | some ms =>
      obtain ⟨hn, lim, wr, t⟩ := h
      obtain ⟨n, df, ts⟩ := a
      simp only []
      have hq := drawS_eq hc ops ms ⟨n, df, ts⟩ ⟨hn, lim, wr, t⟩ ops.toList 0 ms [] hn rfl rfl
      simp only [heapT] at hq
      rw [hq]
      cases hd : drawF P self ops ms ⟨n, df, ts⟩ ⟨hn, lim, wr, t⟩ ops.toList [] hn with
      | bad s => rfl
      | ok x =>
        obtain ⟨es, base⟩ := x
        have hs := drawF_sens hd
        simp only [List.map_nil, List.nil_append] at hs
        simp only [RD.ofR, brecE]
        rw [chkAll_eq ms es [] ms rfl, hs]
        show _ = RC.ofT (match (chkAllT ms [] (sensOf ops ops.toList) && chkAllR ms es) with | false => _ | true => _)
        cases chkAllT ms [] (sensOf ops ops.toList) with
        | false => rfl
        | true =>
          simp only [Bool.true_and]
          cases chkAllR ms es with
          | false => rfl
          | true =>
            simp only [RC.ofT]
            rw [tmpsR_eq es _ 0, appR_eq, keysAllR_eq]
            rw [← heapAllR_eq es t 0]
            cases heapAllR es t <;> rfl
end Go.Sx

namespace Go.Sx
open Go.RowKit (Below)

/-! ### Code and calls -/

/-- what calls with less fuel give is what the plain executor gives -/
def SelfS (P : Program) (s : Self') (n : Nat) : Prop := ∀ m, m < n → ∀ t args h, s m t args h = RV.ofR (tgtF P (codeN P m) t args h)

theorem lab_eq (P : Program) (c : Code) (l : Nat) : (codeS P c).lab l = (findLabel c l).map (fun r => ⟨(codeS P r).f⟩) := by
  induction c with
  | seq x y ihx ihy =>
    show @Option.rec BoxF (fun _ => Option BoxF) ((codeS P y).lab l) (fun g => some ⟨seqF g.f (codeS P y).f⟩) ((codeS P x).lab l) = _
    rw [ihx, ihy, orecE, findLabel]
    cases findLabel x l with
    | none => rfl
    | some r => rfl
  | label l' =>
    show @Bool.rec (fun _ => Option BoxF) none (some ⟨nextF⟩) (Nat.beq l' l) = _
    rw [beq_if]
    simp only [findLabel, beq_iff_eq]
    by_cases q : l' = l
    · simp only [q, if_true]; rfl
    · simp only [q, if_false]; rfl
  | region id ops draw => cases draw <;> rfl
  | _ => rfl

theorem RC.rec_ofR (r : Res) (f1 : Tmps → Heap → RC) (f2 : Nat → Tmps → Heap → RC) (f3 : Tmps → Heap → RC) (f4 : Nat → Tmps → Heap → RC) (f5 : String → RC) :
    @RC.rec (fun _ => RC) f1 f2 f3 f4 f5 (RC.ofR r) = match r with
      | .ok (.normal, a, h) => f1 a h
      | .ok (.exit id, a, h) => f2 id a h
      | .ok (.ret, a, h) => f3 a h
      | .ok (.goto l, a, h) => f4 l a h
      | .bad s => f5 s := by
  cases r with
  | bad s => rfl
  | ok x => obtain ⟨ex, a, h⟩ := x; cases ex <;> rfl

theorem scopeR_eq {P : Program} {s : Self'} {n : Nat} {b : Code} (H : ∀ c a h, (codeS P c).f s n a h = RC.ofR (codeN P n c a h)) (k : Nat) (cur : Code) (a : Tmps) (h : Heap) :
    scopeR (codeS P b).lab s n k (codeS P cur).f a h = RC.ofR (scopeL (codeN P n) b k cur a h) := by
  induction k generalizing cur a h with
  | zero => rfl
  | succ k ih =>
    show @RC.rec (fun _ => RC) RC.normal RC.exit RC.ret (fun l a' h' => @Option.rec BoxF (fun _ => RC) (.goto l a' h') (fun g => scopeR (codeS P b).lab s n k g.f a' h') ((codeS P b).lab l)) RC.bad ((codeS P cur).f s n a h) = _
    rw [H, RC.rec_ofR, scopeL]
    cases codeN P n cur a h with
    | bad q => rfl
    | ok x =>
      obtain ⟨ex, a', h'⟩ := x
      cases ex with
      | goto l =>
        simp only [lab_eq, orecE]
        cases findLabel b l with
        | none => rfl
        | some r => exact ih r a' h'
      | _ => rfl

theorem exOf_eq (ex : Ex) (a : Tmps) (h : Heap) : exOf ex a h = RC.ofR (.ok (ex, a, h)) := by cases ex <;> rfl

theorem rangeS_eq {P : Program} {s : Self'} {n : Nat} (hc : ∀ t args h, s n t args h = RV.ofR (tgtF P (codeN P n) t args h)) (f : Operand) (ps : List Nat) (asg body : Code) (a : Tmps) (h : Heap) :
    rangeS f ps asg body s n a h = RC.ofR (rangeF P (codeN P n) f ps asg body a h) := by
  unfold rangeS rangeF
  rw [evS_eq]
  cases evalA a f with
  | none => rfl
  | some v =>
    cases v <;> try rfl
    rename_i g first cap
    cases g <;> try rfl
    rename_i g
    simp only [limS_eq, forceN_eq, appR_eq, pushH_eq, nextH_eq, hc, tgtF]
    cases Nat.blt h.next h.lim with
    | false => rfl
    | true =>
      simp only []
      cases callF P (codeN P n) g (first ++ [.fn (.yield h.next) [] []] ++ cap) (h.push (.loop ps asg body a none)) with
      | bad q => rfl
      | ok x =>
        obtain ⟨v, h2⟩ := x
        simp only [RV.ofR, getH_eq, putH_eq, exOf_eq]
        cases h2.get h.next with
        | none => rfl
        | some bk =>
          cases bk <;> try rfl
          rename_i q1 q2 q3 q4 st
          cases st with
          | none => rfl
          | some st => cases st <;> rfl

theorem codeS_eq {P : Program} {s : Self'} : ∀ (n : Nat), SelfS P s n → ∀ (c : Code) (a : Tmps) (h : Heap), (codeS P c).f s n a h = RC.ofR (codeN P n c a h) := by
  intro n
  induction n with
  | zero =>
    intro _ c a h
    cases c with
    | region id ops draw => cases draw <;> rfl
    | _ => rfl
  | succ n ih =>
    intro hs c a h
    have H := ih (fun m hm => hs m (Nat.lt_succ_of_lt hm))
    have hc := hs n (Nat.lt_succ_self n)
    cases c with
    | skip => rfl
    | label l => rfl
    | exit id => rfl
    | ret => rfl
    | goto l => rfl
    | refuse w => rfl
    | rangeFunc f ps x y =>
      show rangeS f ps.toList x y s n a h = _
      simp only [codeN, codeF]
      exact rangeS_eq hc f ps.toList x y a h
    | region id ops draw =>
      cases draw with
      | false =>
        show (regS P ops ops.toList).f (s n) a h = _
        rw [regS_eq hc]
        simp only [codeN, codeF]
        cases opsF P (codeN P n) ops ops.toList a h with
        | bad q => rfl
        | ok x => rfl
      | true =>
        show (drawRS P ops).f (s n) a h = _
        rw [drawRS_eq hc]
        simp only [codeN, codeF]
        cases drawR P (codeN P n) ops a h with
        | bad q => rfl
        | ok x => rfl
    | seq x y =>
      show @RC.rec (fun _ => RC) (fun a' h' => (codeS P y).f s n a' h') RC.exit RC.ret RC.goto RC.bad ((codeS P x).f s n a h) = _
      rw [H, RC.rec_ofR]
      simp only [codeN, codeF]
      cases codeN P n x a h with
      | bad q => rfl
      | ok x => obtain ⟨ex, a', h'⟩ := x; cases ex <;> first | rfl | exact H y a' h'
    | cond c x y =>
      show @Option.rec AV (fun _ => RC) (.bad "cond") (fun v => @Option.rec Bool (fun _ => RC) (.bad "cond") (fun b => @Bool.rec (fun _ => RC) ((codeS P y).f s n a h) ((codeS P x).f s n a h) b) (asBool v)) ((evS c).f a) = _
      rw [evS_eq, orecE]
      simp only [codeN, codeF, H, asBool_eq]
      cases evalA a c with
      | none => rfl
      | some v =>
        cases v <;> try rfl
        rename_i b; cases b <;> rfl
    | block id x =>
      show @RC.rec (fun _ => RC) RC.normal (fun id' a' h' => @Bool.rec (fun _ => RC) (.exit id' a' h') (.normal a' h') (Nat.beq id' id)) RC.ret RC.goto RC.bad ((codeS P x).f s n a h) = _
      rw [H, RC.rec_ofR]
      simp only [codeN, codeF]
      cases codeN P n x a h with
      | bad q => rfl
      | ok x =>
        obtain ⟨ex, a', h'⟩ := x
        cases ex with
        | exit id' =>
          simp only [beq_if]
          by_cases q : id' = id
          · simp only [q, if_true]; rfl
          · simp only [q, if_false]; rfl
        | _ => rfl
    | loop x =>
      show @RC.rec (fun _ => RC) ((codeS P (.loop x)).f s n) RC.exit RC.ret RC.goto RC.bad ((codeS P x).f s n a h) = _
      rw [H, RC.rec_ofR]
      simp only [codeN, codeF]
      cases codeN P n x a h with
      | bad q => rfl
      | ok x => obtain ⟨ex, a', h'⟩ := x; cases ex <;> first | rfl | exact H _ a' h'
    | scope b =>
      have e : (codeS P (.scope b)).f s (n + 1) a h = scopeR (codeS P b).lab s n 100000 (codeS P b).f a h := by
        dsimp only [codeS]
      rw [e, scopeR_eq H]
      simp only [codeN, codeF]

theorem resultsS_eq (P : Program) (fn : Func) (h : Heap) (a : Tmps) : (resultsS P fn).f h a = resultsA P fn h a := by
  unfold resultsS
  split
  · rename_i t ht
    simp only [slotE_eq, resultsA, ht, resultA]
    cases a.get t <;> rfl
  · rfl

theorem enterS_eq (l : List AV) : enterS l = enterT 0 l .leaf := by
  have key : ∀ (l : List AV) (i : Nat) (t : T AV), @List.rec AV (fun _ => Nat → T AV → T AV) (fun _ t => t) (fun v _ ih i t => ih (Nat.succ i) ((setB (pathF i i)).f v t)) l i t = enterT i l t := by
    intro l
    induction l with
    | nil => intro i t; rfl
    | cons v l ih =>
      intro i t
      rw [enterT, ← setB_eq i i (Nat.le_refl _)]
      exact ih (i + 1) _
  exact key l 0 .leaf

theorem fnS_eq {P : Program} {s : Self'} {n : Nat} (hs : SelfS P s n) (f : FuncId) (args : List AV) (h : Heap) :
    (fnS P f).f s n args h = RV.ofR (callF P (codeN P n) f args h) := by
  unfold fnS callF
  cases nth P.funcs.toList f with
  | none => rfl
  | some fn =>
    simp only []
    cases fn.body with
    | none => rfl
    | some body =>
      simp only [codeS_eq n hs, enterS_eq, lenR_eq, resultsS_eq, orecE]
      show @RC.rec (fun _ => RV) _ _ _ _ _ (RC.ofR (codeN P n body { n := args.length + (fn.ntmps - args.length), dflt := true, t := enterT 0 args .leaf } h)) = _
      cases codeN P n body { n := args.length + (fn.ntmps - args.length), dflt := true, t := enterT 0 args .leaf } h with
      | bad q => rfl
      | ok x =>
        obtain ⟨ex, a, h'⟩ := x
        cases ex with
        | normal => cases hz : resultsA P fn h' a <;> simp only [RC.ofR, hz, RV.ofR]
        | ret => cases hz : resultsA P fn h' a <;> simp only [RC.ofR, hz, RV.ofR]
        | exit id => rfl
        | goto l => rfl

theorem setParamsS_eq : ∀ (ps : List Nat) (args : List AV) (a : Tmps), setParamsS a ps args = setParams a ps args
  | [], _, _ => rfl
  | _ :: _, [], _ => rfl
  | p :: ps, v :: vs, a => by simp only [setParamsS, setParams, slotP_eq]; exact setParamsS_eq ps vs _

theorem roundE_eq (b : Nat) (ex : Ex) (h2 : Heap) : roundE b ex h2 = RV.ofR (match h2.get b with
    | some (.loop ps2 asg2 body2 t2 (some none)) => match ex with
      | .normal => .ok (.bool true, h2.set b (.loop ps2 asg2 body2 t2 none))
      | ex => .ok (.bool false, h2.set b (.loop ps2 asg2 body2 t2 (some (some ex))))
    | _ => .bad "round") := by
  unfold roundE
  rw [getH_eq]
  cases h2.get b with
  | none => rfl
  | some bk =>
    cases bk <;> try rfl
    rename_i q1 q2 q3 q4 st
    cases st with
    | none => rfl
    | some st => cases st with
      | some _ => rfl
      | none => cases ex <;> simp only [putH_eq] <;> rfl

theorem roundS_eq {P : Program} {s : Self'} {n : Nat} (hs : SelfS P s n) (b : Nat) (args : List AV) (h : Heap) : roundS P s n b args h = RV.ofR (roundF (codeN P n) b args h) := by
  unfold roundS roundF
  rw [getH_eq]
  cases h.get b with
  | none => rfl
  | some bk =>
    cases bk <;> try rfl
    rename_i ps asg body a st
    cases st with
    | some _ => rfl
    | none =>
      simp only [lenR_eq]
      cases (Nat.beq args.length ps.length && noRange asg && noRange body) with
      | false => rfl
      | true =>
        simp only [codeS_eq n hs, setParamsS_eq]
        cases codeN P n asg (setParams a ps args) h with
        | bad q => rfl
        | ok x =>
          obtain ⟨ex1, a1, h1⟩ := x
          cases ex1 <;> try rfl
          simp only [RC.ofR, getH_eq]
          cases h1.get b with
          | none => rfl
          | some bk =>
            cases bk <;> try rfl
            rename_i ps1 asg1 body1 t1 st1
            cases st1 with
            | some _ => rfl
            | none =>
              simp only [putH_eq]
              cases codeN P n body a1 (h1.set b (.loop ps1 asg1 body1 t1 (some none))) with
              | bad q => rfl
              | ok x =>
                obtain ⟨ex, a2, h2⟩ := x
                cases ex <;> exact roundE_eq b _ h2

theorem runS_eq (P : Program) : ∀ d n, n < d → ∀ t args h, runS P d n t args h = RV.ofR (tgtF P (codeN P n) t args h) := by
  intro d
  induction d with
  | zero => intro n hn; omega
  | succ d ih =>
    intro n hn t args h
    cases t with
    | fn f => exact fnS_eq (fun m hm => ih m (by omega)) f args h
    | rnd b => exact roundS_eq (fun m hm => ih m (by omega)) b args h

theorem trueS_ok {P : Program} {n : Nat} {f : FuncId} (hr : trueS (runS P (n + 1) n (.fn f) [] .empty) = true) : isTrue (run P n f []) = true := by
  rw [runS_eq P (n + 1) n (Nat.lt_succ_self n)] at hr
  simp only [tgtF] at hr
  unfold run
  cases hc : callF P (codeN P n) f [] Heap.empty with
  | bad q => rw [hc] at hr; simp [RV.ofR, trueS] at hr
  | ok x =>
    obtain ⟨v, h'⟩ := x
    rw [hc] at hr
    cases v <;> simp_all [RV.ofR, trueS, asBool, isTrue]

/-- a call that the executor answers with true returns true -/
theorem runS_true {P : Program} (hP : okProg P = true) {n : Nat} {f : FuncId} (hr : trueS (runS P (n + 1) n (.fn f) [] .empty) = true) (w : World) :
    Calls P f #[] w fun e w' => e = .returned (.bool true) ∧ Below w.heap.size w w' :=
  run_true hP (trueS_ok hr) w
end Go.Sx

