/- A call whose run the executor does in pieces, each from a state that is written down, returns true in the model. Condition: the program passes 'okProg', and the world holds the variables so. Also where unknown numbers stand in the states: then what the call returns is a term. -/
import Derived.Test.YtffnifnikdceaaaSxE
import Derived.WideKeyArgs
import Derived.ProofKit
import Derived.OpenShut
set_option linter.unusedSimpArgs false
set_option linter.unusedVariables false
set_option linter.unnecessarySimpa false
namespace Go.Sx
open Go.RowKit (Below)

/-! ### Runs in pieces that may begin within loops and within calls: what is still to do is a stack -/

inductive Fr where
  | seq (y : Code)
  | block (id : Nat)
  | scp
  | loop (x : Code)
  | call (fn : Func) (d : Option Nat) (ops : Array Oper) (rest : List Oper) (a : Tmps)
  /-- a call of the operation m - 1 of a region that draws its order -/
  | callD (fn : Func) (d : Option Nat) (ops : Array Oper) (m : Nat) (a : Tmps)
  /-- the function that is ranged over, the loop's number, the frame of the range -/
  | rng (fn : Func) (b : Nat) (a : Tmps)
  /-- a round of the loop of this number; the frame of the function that is ranged over -/
  | round (b : Nat) (d : Option Nat) (ops : Array Oper) (rest : List Oper) (a : Tmps)

/-- whether the frame is a round's -/
def inR : List Fr → Bool
  | [] => false
  | .seq _ :: K => inR K
  | .block _ :: K => inR K
  | .scp :: K => inR K
  | .loop _ :: K => inR K
  | .call .. :: _ => false
  | .callD .. :: _ => false
  | .rng .. :: _ => false
  | .round .. :: _ => true

def Heap.fresh (h : Heap) : Heap := { next := h.next, lim := h.lim, wr := [], t := h.t }

inductive Cfg where
  | code (c : Code) (a : Tmps) (h : Heap)
  /-- about to begin a round of a loop -/
  | head (x : Code) (a : Tmps) (h : Heap)
  | ops (ops : Array Oper) (rest : List Oper) (a : Tmps) (h : Heap)
  /-- in a region that draws its order: the operations below m are done -/
  | opsD (ops : Array Oper) (m : Nat) (a : Tmps) (h : Heap)
  | fin (ex : Ex) (a : Tmps) (h : Heap)

def Cfg.a : Cfg → Tmps
  | .code _ a _ => a
  | .head _ a _ => a
  | .ops _ _ a _ => a
  | .opsD _ _ a _ => a
  | .fin _ a _ => a
def Cfg.h : Cfg → Heap
  | .code _ _ h => h
  | .head _ _ h => h
  | .ops _ _ _ h => h
  | .opsD _ _ _ h => h
  | .fin _ _ h => h

/-- a frame of which less is known -/
structure TSub (a1 a : Tmps) : Prop where
  n : a1.n = a.n
  slots : ∀ t v, a1.get t = some v → a.get t = some v
/-- a block of which less is known -/
inductive BSub : Blk → Blk → Prop where
  | refl (b : Blk) : BSub b b
  | loop {ps : List Nat} {asg body : Code} {t1 t : Tmps} {st : Option (Option Ex)} (ht : TSub t1 t) : BSub (.loop ps asg body t1 st) (.loop ps asg body t st)
theorem BSub.live {b c : Blk} (h : BSub b c) : b.live = c.live := by cases h <;> rfl
theorem BSub.solid {b c : Blk} (h : BSub b c) : b.solid = c.solid := by cases h <;> rfl
theorem BSub.brel {b c : Blk} (h : BSub b c) {ρ : Nat → Option Ent} {w : World} {e : Ent} (k : BRel ρ w e c) : BRel ρ w e b := by
  cases h with
  | refl => exact k
  | loop ht =>
    obtain ⟨r, r1, r2, r3, r4, r5, r6, r7⟩ := k
    exact ⟨r, r1, r2, r3, r4, fun t v hv => r5 t v (ht.slots t v hv), by rw [ht.n]; exact r6, r7⟩
structure HSub (h1 h : Heap) : Prop where
  next : h1.next = h.next
  lim : h1.lim = h.lim
  blks : ∀ b c, h1.t.get b = some c → ∃ d, h.t.get b = some d ∧ BSub c d

inductive KSub : List Fr → List Fr → Prop where
  | nil : KSub [] []
  | seq {y : Code} {K1 K : List Fr} (h : KSub K1 K) : KSub (.seq y :: K1) (.seq y :: K)
  | block {id : Nat} {K1 K : List Fr} (h : KSub K1 K) : KSub (.block id :: K1) (.block id :: K)
  | scp {K1 K : List Fr} (h : KSub K1 K) : KSub (.scp :: K1) (.scp :: K)
  | loop {x : Code} {K1 K : List Fr} (h : KSub K1 K) : KSub (.loop x :: K1) (.loop x :: K)
  | call {fn : Func} {d : Option Nat} {ops : Array Oper} {rest : List Oper} {a1 a : Tmps} {K1 K : List Fr} (ha : TSub a1 a) (h : KSub K1 K) : KSub (.call fn d ops rest a1 :: K1) (.call fn d ops rest a :: K)
  | callD {fn : Func} {d : Option Nat} {ops : Array Oper} {m : Nat} {a1 a : Tmps} {K1 K : List Fr} (ha : TSub a1 a) (h : KSub K1 K) : KSub (.callD fn d ops m a1 :: K1) (.callD fn d ops m a :: K)
  | rng {fn : Func} {b : Nat} {a1 a : Tmps} {K1 K : List Fr} (ha : TSub a1 a) (h : KSub K1 K) : KSub (.rng fn b a1 :: K1) (.rng fn b a :: K)
  | round {b : Nat} {d : Option Nat} {ops : Array Oper} {rest : List Oper} {a1 a : Tmps} {K1 K : List Fr} (ha : TSub a1 a) (h : KSub K1 K) : KSub (.round b d ops rest a1 :: K1) (.round b d ops rest a :: K)

inductive CSub : Cfg → Cfg → Prop where
  | code {c : Code} {a1 a : Tmps} {h1 h : Heap} (ha : TSub a1 a) (hh : HSub h1 h) : CSub (.code c a1 h1) (.code c a h)
  | head {x : Code} {a1 a : Tmps} {h1 h : Heap} (ha : TSub a1 a) (hh : HSub h1 h) : CSub (.head x a1 h1) (.head x a h)
  | ops {ops : Array Oper} {rest : List Oper} {a1 a : Tmps} {h1 h : Heap} (ha : TSub a1 a) (hh : HSub h1 h) : CSub (.ops ops rest a1 h1) (.ops ops rest a h)
  | opsD {ops : Array Oper} {m : Nat} {a1 a : Tmps} {h1 h : Heap} (ha : TSub a1 a) (hh : HSub h1 h) : CSub (.opsD ops m a1 h1) (.opsD ops m a h)

mutual
/-- a value that leads to no memory -/
def pureAV : AV → Bool
  | .bool _ => true
  | .int _ _ => true
  | .str _ => true
  | .nilp => true
  | .nils => true
  | .nilm => true
  | .nilf => true
  | .nili => true
  | .agg cs => pureAVs cs
  | .tup cs => pureAVs cs
  | .fn f x y => !isYield f && (pureAVs x && pureAVs y)
  | .ifc _ x => pureAV x
  | _ => false
def pureAVs : List AV → Bool
  | [] => true
  | a :: as => pureAV a && pureAVs as
end
mutual
theorem pure_rel {ρ ρ' : Nat → Option Ent} : ∀ (a : AV), pureAV a = true → ∀ {v : Value}, Rel ρ a v → Rel ρ' a v
  | .bool b, _, v, h => by simpa [Rel] using h
  | .int k n, _, v, h => by simpa [Rel] using h
  | .str s, _, v, h => by simpa [Rel] using h
  | .nilp, _, v, h => by simpa [Rel] using h
  | .nils, _, v, h => by simpa [Rel] using h
  | .nilm, _, v, h => by simpa [Rel] using h
  | .nilf, _, v, h => by simpa [Rel] using h
  | .nili, _, v, h => by simpa [Rel] using h
  | .agg cs, hp, v, h => by
    simp only [pureAV] at hp
    simp only [Rel] at h ⊢; obtain ⟨vs, h1, h2⟩ := h; exact ⟨vs, pure_rels cs hp h1, h2⟩
  | .tup cs, hp, v, h => by
    simp only [pureAV] at hp
    simp only [Rel] at h ⊢; obtain ⟨vs, h1, h2⟩ := h; exact ⟨vs, pure_rels cs hp h1, h2⟩
  | .ptr _ _, hp, _, _ => by simp [pureAV] at hp
  | .slc _ _ _ _, hp, _, _ => by simp [pureAV] at hp
  | .map _, hp, _, _ => by simp [pureAV] at hp
  | .fn f x y, hp, v, h => by
    simp only [pureAV, Bool.and_eq_true, Bool.not_eq_true'] at hp
    simp only [Rel] at h ⊢
    obtain ⟨g, xs, ys, h1, h2, h3, h4⟩ := h
    refine ⟨g, xs, ys, ?_, pure_rels x hp.2.1 h2, pure_rels y hp.2.2 h3, h4⟩
    cases f <;> first | exact h1 | (simp [isYield] at hp)
  | .ifc t x, hp, v, h => by
    simp only [pureAV] at hp
    simp only [Rel] at h ⊢; obtain ⟨y, h1, h2⟩ := h; exact ⟨y, pure_rel x hp h1, h2⟩
  | .emp, hp, _, _ => by simp [pureAV] at hp
theorem pure_rels {ρ ρ' : Nat → Option Ent} : ∀ (a : List AV), pureAVs a = true → ∀ {v : List Value}, RelL ρ a v → RelL ρ' a v
  | [], _, v, h => by simpa [RelL] using h
  | a :: as, hp, v, h => by
    simp only [pureAVs, Bool.and_eq_true] at hp
    simp only [RelL] at h ⊢; obtain ⟨x, ws, h1, h2, h3⟩ := h; exact ⟨x, ws, pure_rel a hp.1 h1, pure_rels as hp.2 h2, h3⟩
end

/-! blocks that get other numbers -/
mutual
/-- the value with other numbers for its blocks; none where one is not kept -/
def mapAV (τ : Nat → Option Nat) : AV → Option AV
  | .bool b => some (.bool b)
  | .int k n => some (.int k n)
  | .str s => some (.str s)
  | .nilp => some .nilp
  | .ptr b off => match τ b with
    | some c => some (.ptr c off)
    | none => none
  | .nils => some .nils
  | .slc b off len cap => match τ b with
    | some c => some (.slc c off len cap)
    | none => none
  | .nilm => some .nilm
  | .map b => match τ b with
    | some c => some (.map c)
    | none => none
  | .nilf => some .nilf
  | .fn f x y => match mapFn τ f with
    | some g => match mapAVs τ x with
      | some x' => match mapAVs τ y with
        | some y' => some (.fn g x' y')
        | none => none
      | none => none
    | none => none
  | .nili => some .nili
  | .ifc t x => match mapAV τ x with
    | some y => some (.ifc t y)
    | none => none
  | .agg cs => match mapAVs τ cs with
    | some ds => some (.agg ds)
    | none => none
  | .tup cs => match mapAVs τ cs with
    | some ds => some (.tup ds)
    | none => none
  | .emp => some .emp
def mapAVs (τ : Nat → Option Nat) : List AV → Option (List AV)
  | [] => some []
  | a :: as => match mapAV τ a with
    | some b => match mapAVs τ as with
      | some bs => some (b :: bs)
      | none => none
    | none => none
def mapFn (τ : Nat → Option Nat) : Fn → Option Fn
  | .yield b => match τ b with
    | some c => some (.yield c)
    | none => none
  | .func f => some (.func f)
  | .method m => some (.method m)
  | .methodOf a b => some (.methodOf a b)
  | .via a b c d => some (.via a b c d)
end

def TInj (τ : Nat → Option Nat) : Prop := ∀ o o' j, τ o = some j → τ o' = some j → o = o'
open Classical in
noncomputable def pull (τ : Nat → Option Nat) (ρ : Nat → Option Ent) (j : Nat) : Option Ent := if h : ∃ o, τ o = some j then ρ (Classical.choose h) else none
theorem pull_of {τ : Nat → Option Nat} (hi : TInj τ) {ρ : Nat → Option Ent} {o j : Nat} (h : τ o = some j) : pull τ ρ j = ρ o := by
  have hx : ∃ o, τ o = some j := ⟨o, h⟩
  rw [pull, dif_pos hx, hi _ _ j (Classical.choose_spec hx) h]
theorem pull_none {τ : Nat → Option Nat} {ρ : Nat → Option Ent} {j : Nat} (h : ∀ o, τ o ≠ some j) : pull τ ρ j = none := by
  rw [pull, dif_neg (fun ⟨o, q⟩ => h o q)]
theorem pull_some {τ : Nat → Option Nat} (hi : TInj τ) {ρ : Nat → Option Ent} {j : Nat} {e : Ent} (h : pull τ ρ j = some e) : ∃ o, τ o = some j ∧ ρ o = some e := by
  by_cases hx : ∃ o, τ o = some j
  · obtain ⟨o, ho⟩ := hx
    exact ⟨o, ho, by rw [pull_of hi ho] at h; exact h⟩
  · rw [pull_none (fun o q => hx ⟨o, q⟩)] at h; cases h
theorem mapFn_rel {τ : Nat → Option Nat} (hi : TInj τ) {ρ : Nat → Option Ent} {f f1 g : Fn} (h : mapFn τ f = some f1) (k : FnRel ρ f g) : FnRel (pull τ ρ) f1 g := by
  cases f with
  | yield b =>
    simp only [mapFn] at h
    split at h
    · rename_i c hc
      simp only [Option.some.injEq] at h; subst h
      obtain ⟨e, h1, h2⟩ := k
      exact ⟨e, by rw [pull_of hi hc]; exact h1, h2⟩
    · cases h
  | func => simp only [mapFn, Option.some.injEq] at h; subst h; exact k
  | method => simp only [mapFn, Option.some.injEq] at h; subst h; exact k
  | methodOf => simp only [mapFn, Option.some.injEq] at h; subst h; exact k
  | via => simp only [mapFn, Option.some.injEq] at h; subst h; exact k
mutual
theorem map_rel {τ : Nat → Option Nat} (hi : TInj τ) {ρ : Nat → Option Ent} : ∀ (a : AV) {a1 : AV}, mapAV τ a = some a1 → ∀ {v : Value}, Rel ρ a v → Rel (pull τ ρ) a1 v
  | .bool b, a1, hp, v, h => by simp only [mapAV, Option.some.injEq] at hp; subst hp; simpa [Rel] using h
  | .int k n, a1, hp, v, h => by simp only [mapAV, Option.some.injEq] at hp; subst hp; simpa [Rel] using h
  | .str s, a1, hp, v, h => by simp only [mapAV, Option.some.injEq] at hp; subst hp; simpa [Rel] using h
  | .nilp, a1, hp, v, h => by simp only [mapAV, Option.some.injEq] at hp; subst hp; simpa [Rel] using h
  | .nils, a1, hp, v, h => by simp only [mapAV, Option.some.injEq] at hp; subst hp; simpa [Rel] using h
  | .nilm, a1, hp, v, h => by simp only [mapAV, Option.some.injEq] at hp; subst hp; simpa [Rel] using h
  | .nilf, a1, hp, v, h => by simp only [mapAV, Option.some.injEq] at hp; subst hp; simpa [Rel] using h
  | .nili, a1, hp, v, h => by simp only [mapAV, Option.some.injEq] at hp; subst hp; simpa [Rel] using h
  | .emp, a1, hp, v, h => by simp only [mapAV, Option.some.injEq] at hp; subst hp; simpa [Rel] using h
  | .ptr b off, a1, hp, v, h => by
    simp only [mapAV] at hp
    split at hp
    · rename_i c hc
      simp only [Option.some.injEq] at hp; subst hp
      simp only [Rel] at h ⊢; obtain ⟨e, h1, h2⟩ := h
      exact ⟨e, by rw [pull_of hi hc]; exact h1, h2⟩
    · cases hp
  | .slc b off len cap, a1, hp, v, h => by
    simp only [mapAV] at hp
    split at hp
    · rename_i c hc
      simp only [Option.some.injEq] at hp; subst hp
      simp only [Rel] at h ⊢; obtain ⟨e, C, h1, h2⟩ := h
      exact ⟨e, C, by rw [pull_of hi hc]; exact h1, h2⟩
    · cases hp
  | .map b, a1, hp, v, h => by
    simp only [mapAV] at hp
    split at hp
    · rename_i c hc
      simp only [Option.some.injEq] at hp; subst hp
      simp only [Rel] at h ⊢; obtain ⟨e, h1, h2⟩ := h
      exact ⟨e, by rw [pull_of hi hc]; exact h1, h2⟩
    · cases hp
  | .agg cs, a1, hp, v, h => by
    simp only [mapAV] at hp
    split at hp
    · rename_i ds hd
      simp only [Option.some.injEq] at hp; subst hp
      simp only [Rel] at h ⊢; obtain ⟨vs, h1, h2⟩ := h; exact ⟨vs, map_rels hi cs hd h1, h2⟩
    · cases hp
  | .tup cs, a1, hp, v, h => by
    simp only [mapAV] at hp
    split at hp
    · rename_i ds hd
      simp only [Option.some.injEq] at hp; subst hp
      simp only [Rel] at h ⊢; obtain ⟨vs, h1, h2⟩ := h; exact ⟨vs, map_rels hi cs hd h1, h2⟩
    · cases hp
  | .fn f x y, a1, hp, v, h => by
    simp only [mapAV] at hp
    split at hp
    · rename_i g hg
      split at hp
      · rename_i x' hx
        split at hp
        · rename_i y' hy
          simp only [Option.some.injEq] at hp; subst hp
          simp only [Rel] at h ⊢
          obtain ⟨g', xs, ys, h1, h2, h3, h4⟩ := h
          exact ⟨g', xs, ys, mapFn_rel hi hg h1, map_rels hi x hx h2, map_rels hi y hy h3, h4⟩
        · cases hp
      · cases hp
    · cases hp
  | .ifc t x, a1, hp, v, h => by
    simp only [mapAV] at hp
    split at hp
    · rename_i y hy
      simp only [Option.some.injEq] at hp; subst hp
      simp only [Rel] at h ⊢; obtain ⟨z, h1, h2⟩ := h; exact ⟨z, map_rel hi x hy h1, h2⟩
    · cases hp
theorem map_rels {τ : Nat → Option Nat} (hi : TInj τ) {ρ : Nat → Option Ent} : ∀ (a : List AV) {a1 : List AV}, mapAVs τ a = some a1 → ∀ {v : List Value}, RelL ρ a v → RelL (pull τ ρ) a1 v
  | [], a1, hp, v, h => by simp only [mapAVs, Option.some.injEq] at hp; subst hp; simpa [RelL] using h
  | a :: as, a1, hp, v, h => by
    simp only [mapAVs] at hp
    split at hp
    · rename_i b hb
      split at hp
      · rename_i bs hbs
        simp only [Option.some.injEq] at hp; subst hp
        simp only [RelL] at h ⊢; obtain ⟨x, ws, h1, h2, h3⟩ := h; exact ⟨x, ws, map_rel hi a hb h1, map_rels hi as hbs h2, h3⟩
      · cases hp
    · cases hp
end

/-- a frame of which less is known, and whose blocks have other numbers -/
structure TRen (τ : Nat → Option Nat) (a1 a : Tmps) : Prop where
  n : a1.n = a.n
  slots : ∀ t v1, a1.get t = some v1 → ∃ v, a.get t = some v ∧ mapAV τ v = some v1
def mapEs (τ : Nat → Option Nat) : List (AV × AV × Nat) → Option (List (AV × AV × Nat))
  | [] => some []
  | x :: xs => match mapAV τ x.1 with
    | some k => match mapAV τ x.2.1 with
      | some v => match mapEs τ xs with
        | some r => some ((k, v, x.2.2) :: r)
        | none => none
      | none => none
    | none => none
theorem mapEs_rel {τ : Nat → Option Nat} (hi : TInj τ) {ρ : Nat → Option Ent} : ∀ {es es1 : List (AV × AV × Nat)}, mapEs τ es = some es1 → ∀ {r : List MapEntry}, MRel ρ es r → MRel (pull τ ρ) es1 r
  | [], es1, h, r, k => by simp only [mapEs, Option.some.injEq] at h; subst h; exact k
  | x :: xs, es1, h, r, k => by
    simp only [mapEs] at h
    split at h
    · rename_i a ha
      split at h
      · rename_i b hb
        split at h
        · rename_i q hq
          simp only [Option.some.injEq] at h; subst h
          obtain ⟨e, r', h1, h2, h3, h4, h5⟩ := k
          exact ⟨e, r', map_rel hi _ ha h1, map_rel hi _ hb h2, h3, mapEs_rel hi hq h4, h5⟩
        · cases h
      · cases h
    · cases h
inductive BRen (τ : Nat → Option Nat) : Blk → Blk → Prop where
  | cells {t : TypeId} {cs cs1 : List AV} {opn : Bool} (h : mapAVs τ cs = some cs1) : BRen τ (.cells t cs opn) (.cells t cs1 opn)
  | pure {t : TypeId} {cs : List AV} {opn : Bool} (h : pureAVs cs = true) : BRen τ (.cells t cs opn) (.cells t cs opn)
  | map {es es1 : List (AV × AV × Nat)} {clock : Nat} (h : mapEs τ es = some es1) : BRen τ (.map es clock) (.map es1 clock)
  | dead : BRen τ .dead .dead
  | ro {cs : List AV} (h : pureAVs cs = true) : BRen τ (.ro cs) (.ro cs)
  | loop {ps : List Nat} {asg body : Code} {t1 t : Tmps} {st : Option (Option Ex)} (ht : TRen τ t1 t) : BRen τ (.loop ps asg body t st) (.loop ps asg body t1 st)
  | iter {m m1 clk : Nat} {S : List Nat} (h : τ m = some m1) : BRen τ (.iter m clk S) (.iter m1 clk S)
theorem BRen.live {τ : Nat → Option Nat} {c c1 : Blk} (h : BRen τ c c1) : c1.live = c.live := by cases h <;> rfl
theorem BRen.solid {τ : Nat → Option Nat} {c c1 : Blk} (h : BRen τ c c1) : c1.solid = c.solid := by cases h <;> rfl
theorem mapAVs_length {τ : Nat → Option Nat} : ∀ {cs cs1 : List AV}, mapAVs τ cs = some cs1 → cs1.length = cs.length
  | [], _, h => by simp only [mapAVs, Option.some.injEq] at h; subst h; rfl
  | a :: as, _, h => by
    simp only [mapAVs] at h
    split at h
    · split at h
      · rename_i bs hbs
        simp only [Option.some.injEq] at h; subst h; simp [mapAVs_length hbs]
      · cases h
    · cases h
theorem mapAVs_get {τ : Nat → Option Nat} : ∀ {cs cs1 : List AV}, mapAVs τ cs = some cs1 → ∀ {j : Nat} {a1 : AV}, cs1[j]? = some a1 → ∃ a, cs[j]? = some a ∧ mapAV τ a = some a1
  | [], _, h, j, a1, hj => by simp only [mapAVs, Option.some.injEq] at h; subst h; simp at hj
  | a :: as, _, h, j, a1, hj => by
    simp only [mapAVs] at h
    split at h
    · rename_i b hb
      split at h
      · rename_i bs hbs
        simp only [Option.some.injEq] at h; subst h
        cases j with
        | zero => simp only [List.getElem?_cons_zero, Option.some.injEq] at hj ⊢; subst hj; exact ⟨a, rfl, hb⟩
        | succ j => simp only [List.getElem?_cons_succ] at hj ⊢; exact mapAVs_get hbs hj
      · cases h
    · cases h
theorem pureAVs_get : ∀ {cs : List AV}, pureAVs cs = true → ∀ {j : Nat} {a : AV}, cs[j]? = some a → pureAV a = true
  | [], _, j, a, hj => by simp at hj
  | b :: bs, h, j, a, hj => by
    simp only [pureAVs, Bool.and_eq_true] at h
    cases j with
    | zero => simp only [List.getElem?_cons_zero, Option.some.injEq] at hj; subst hj; exact h.1
    | succ j => simp only [List.getElem?_cons_succ] at hj; exact pureAVs_get h.2 hj
theorem BRen.brel {τ : Nat → Option Nat} (hi : TInj τ) {c c1 : Blk} (h : BRen τ c c1) {ρ : Nat → Option Ent} {w : World} {e : Ent} (k : BRel ρ w e c) : BRel (pull τ ρ) w e c1 := by
  cases h with
  | cells h =>
    obtain ⟨⟨all, t, lo, hi', h1, h2, h3, h4, h5⟩, h6⟩ := k
    refine ⟨⟨all, t, lo, hi', h1, h2, by rw [mapAVs_length h]; exact h3, fun j a hj => ?_, h5⟩, fun q => by rw [mapAVs_length h]; exact h6 q⟩
    obtain ⟨a0, q1, q2⟩ := mapAVs_get h hj
    obtain ⟨v, k1, k2⟩ := h4 j a0 q1
    exact ⟨v, k1, map_rel hi _ q2 k2⟩
  | pure h =>
    obtain ⟨⟨all, t, lo, hi', h1, h2, h3, h4, h5⟩, h6⟩ := k
    refine ⟨⟨all, t, lo, hi', h1, h2, h3, fun j a hj => ?_, h5⟩, h6⟩
    obtain ⟨v, k1, k2⟩ := h4 j a hj
    exact ⟨v, k1, pure_rel _ (pureAVs_get h hj) k2⟩
  | map h =>
    obtain ⟨es', h1, h2⟩ := k
    exact ⟨es', h1, mapEs_rel hi h h2⟩
  | dead => trivial
  | iter h =>
    obtain ⟨em, seen, h0, h1, h2, h3⟩ := k
    exact ⟨em, seen, h0, by rw [pull_of hi h]; exact h1, h2, h3⟩
  | ro h =>
    obtain ⟨all, t, fr, h1, h2⟩ := k
    refine ⟨all, t, fr, h1, fun j a hj => ?_⟩
    obtain ⟨v, k1, k2⟩ := h2 j a hj
    exact ⟨v, k1, pure_rel _ (pureAVs_get h hj) k2⟩
  | loop ht =>
    obtain ⟨r, r1, r2, r3, r4, r5, r6, r7⟩ := k
    exact ⟨r, r1, r2, r3, r4, fun t v hv => let ⟨u, h1, h2⟩ := ht.slots t v hv; map_rel hi _ h2 (r5 t u h1), by rw [ht.n]; exact r6, r7⟩
structure HRen (τ : Nat → Option Nat) (h1 h : Heap) : Prop where
  lim : h1.lim = h.lim
  inj : TInj τ
  next : ∀ o j, τ o = some j → j < h1.lim → j < h1.next
  nextLe : h1.next ≤ h1.lim
  glob : ∀ b, h1.lim ≤ b → τ b = some b
  blks : ∀ j c1, h1.t.get j = some c1 → ∃ o c, τ o = some j ∧ h.t.get o = some c ∧ BRen τ c c1
inductive KRen (τ : Nat → Option Nat) : List Fr → List Fr → Prop where
  | nil : KRen τ [] []
  | seq {y : Code} {K1 K : List Fr} (h : KRen τ K1 K) : KRen τ (.seq y :: K1) (.seq y :: K)
  | block {id : Nat} {K1 K : List Fr} (h : KRen τ K1 K) : KRen τ (.block id :: K1) (.block id :: K)
  | scp {K1 K : List Fr} (h : KRen τ K1 K) : KRen τ (.scp :: K1) (.scp :: K)
  | loop {x : Code} {K1 K : List Fr} (h : KRen τ K1 K) : KRen τ (.loop x :: K1) (.loop x :: K)
  | call {fn : Func} {d : Option Nat} {ops : Array Oper} {rest : List Oper} {a1 a : Tmps} {K1 K : List Fr} (ha : TRen τ a1 a) (h : KRen τ K1 K) : KRen τ (.call fn d ops rest a1 :: K1) (.call fn d ops rest a :: K)
  | callD {fn : Func} {d : Option Nat} {ops : Array Oper} {m : Nat} {a1 a : Tmps} {K1 K : List Fr} (ha : TRen τ a1 a) (h : KRen τ K1 K) : KRen τ (.callD fn d ops m a1 :: K1) (.callD fn d ops m a :: K)
  | rng {fn : Func} {b : Nat} {a1 a : Tmps} {K1 K : List Fr} (hb : τ b = some b) (ha : TRen τ a1 a) (h : KRen τ K1 K) : KRen τ (.rng fn b a1 :: K1) (.rng fn b a :: K)
  | round {b : Nat} {d : Option Nat} {ops : Array Oper} {rest : List Oper} {a1 a : Tmps} {K1 K : List Fr} (hb : τ b = some b) (ha : TRen τ a1 a) (h : KRen τ K1 K) : KRen τ (.round b d ops rest a1 :: K1) (.round b d ops rest a :: K)
inductive CRen (τ : Nat → Option Nat) : Cfg → Cfg → Prop where
  | code {c : Code} {a1 a : Tmps} {h1 h : Heap} (ha : TRen τ a1 a) (hh : HRen τ h1 h) : CRen τ (.code c a1 h1) (.code c a h)
  | head {x : Code} {a1 a : Tmps} {h1 h : Heap} (ha : TRen τ a1 a) (hh : HRen τ h1 h) : CRen τ (.head x a1 h1) (.head x a h)
  | ops {ops : Array Oper} {rest : List Oper} {a1 a : Tmps} {h1 h : Heap} (ha : TRen τ a1 a) (hh : HRen τ h1 h) : CRen τ (.ops ops rest a1 h1) (.ops ops rest a h)
  | opsD {ops : Array Oper} {m : Nat} {a1 a : Tmps} {h1 h : Heap} (ha : TRen τ a1 a) (hh : HRen τ h1 h) : CRen τ (.opsD ops m a1 h1) (.opsD ops m a h)

theorem TRen.frel {τ : Nat → Option Nat} {a1 a : Tmps} (hi : TInj τ) (hg : ∀ b, 1048576 ≤ b → τ b = some b) (B : TRen τ a1 a) {DL : List Deferred} {ρ : Nat → Option Ent} {A : Act} (F : FRel DL ρ a A) : FRel DL (pull τ ρ) a1 A :=
  ⟨fun t v hv => let ⟨u, h1, h2⟩ := B.slots t v hv; map_rel hi _ h2 (F.slot t u h1), by rw [B.n]; exact F.n, F.defers, fun g => let ⟨n, hn⟩ := F.glob g; ⟨n, by rw [pull_of hi (hg _ (by omega))]; exact hn⟩⟩
theorem HRen.srel {τ : Nat → Option Nat} {h1 h : Heap} (B : HRen τ h1 h) {ρ : Nat → Option Ent} {w : World} (S : SRel ρ h w) : SRel (pull τ ρ) h1 w := by
  refine ⟨fun j c hc => ?_, fun j p q => ?_, fun j e b he hb => ?_, fun i j e e' b b' hij he he' hb hb' hl hl' => ?_⟩
  · obtain ⟨o, d, h1', h2, _⟩ := B.blks j c hc
    obtain ⟨e, he⟩ := S.dom o d h2
    exact ⟨e, by rw [pull_of B.inj h1']; exact he⟩
  · exact pull_none (fun o ho => by have := B.next o j ho q; omega)
  · obtain ⟨o, d, k1, k2, k3⟩ := B.blks j b hb
    rw [pull_of B.inj k1] at he
    exact k3.brel B.inj (S.blks o e d he k2)
  · obtain ⟨o, d, k1, k2, k3⟩ := B.blks i b hb
    obtain ⟨o', d', k1', k2', k3'⟩ := B.blks j b' hb'
    rw [pull_of B.inj k1] at he
    rw [pull_of B.inj k1'] at he'
    refine S.inj o o' e e' d d' (fun q => hij ?_) he he' k2 k2' (by rw [← k3.live]; exact hl) (by rw [← k3'.solid]; exact hl')
    subst q; rw [k1] at k1'; exact Option.some.inj k1'
theorem HRen.marks {τ : Nat → Option Nat} {h1 h : Heap} (B : HRen τ h1 h) {lo : Nat} {DL : List Deferred} {ρ : Nat → Option Ent} {w : World} (M : Marks lo DL ρ h w) : Marks lo DL (pull τ ρ) h1 w := by
  obtain ⟨hl, Ds, h1', h2, h3⟩ := M
  refine ⟨hl, Ds, h1', h2, fun D hD => ?_⟩
  obtain ⟨k1, k2, k3⟩ := h3 D hD
  refine ⟨k1, k2, fun j e b he hb hlb => ?_⟩
  obtain ⟨o, d, q1, q2, q3⟩ := B.blks j b hb
  rw [pull_of B.inj q1] at he
  exact k3 o e d he q2 (by rw [← q3.solid]; exact hlb)
theorem KRen.inR {τ : Nat → Option Nat} {K1 K : List Fr} (h : KRen τ K1 K) : inR K1 = inR K := by
  induction h with
  | nil => rfl
  | seq _ ih => exact ih
  | block _ ih => exact ih
  | scp _ ih => exact ih
  | loop _ ih => exact ih
  | call => rfl
  | callD => rfl
  | rng => rfl
  | round => rfl

/-- what is laid lies so -/
def Vars (L : List (Nat × List AV)) (h : Heap) : Prop := ∀ g x, assocL L g = some x → h.t.get (1048576 + g) = some (.ro x)
/-- the package variables among what is laid -/
def progVars : List (Nat × List AV) → List (Nat × List AV)
  | [] => []
  | x :: r => match Nat.ble 1048576 x.1 with
    | true => x :: progVars r
    | false => progVars r
theorem progVars_ok : ∀ {L : List (Nat × List AV)} {g : Nat} {x : List AV}, assocL (progVars L) g = some x → assocL L g = some x
  | [], g, x, h => h
  | (k, y) :: r, g, x, h => by
    simp only [progVars] at h
    split at h
    · simp only [assocL] at h ⊢
      split
      · rename_i q; rw [if_pos q] at h; exact h
      · rename_i q; rw [if_neg q] at h; exact progVars_ok h
    · rename_i hk
      have hg : 1048576 ≤ g := by
        clear hk
        induction r with
        | nil => cases h
        | cons z r ih =>
          simp only [progVars] at h
          split at h
          · rename_i hz
            simp only [assocL] at h
            split at h
            · rename_i q; rw [← q]; exact Nat.le_of_ble_eq_true hz
            · exact ih h
          · exact ih h
      simp only [assocL]
      rw [if_neg (fun q => by subst q; rw [Nat.ble_eq_true_of_le hg] at hk; cases hk)]
      exact progVars_ok h
/-- what is below is as it was: so is what a heap says of it -/
theorem srel_below {ρ : Nat → Option Ent} {h : Heap} {w w' : World} (S : SRel ρ h w) (B : Below w.heap.size w w') : SRel ρ h w' ∧ Good ρ h w ρ h w' := by
  have hw : ∀ k, k < w.heap.size → w'.heap[k]? = w.heap[k]? := fun k hk => B.block k hk
  refine ⟨⟨S.dom, S.free, fun i e b he hb => (S.blks i e b he hb).mono (Ext.refl _) (fun hl => hw _ ((S.blks i e b he hb).lt hl)), S.inj⟩, ?_⟩
  exact ⟨Ext.refl _, B.os, B.tape, B.output, B.size, fun k hk _ => hw k hk, fun i e b h1 h2 h3 => .inl ⟨i, e, b, h1, h2, h3, _root_.id, rfl⟩, Nat.le_refl _, rfl, fun h => h, fun _ h => h, fun _ _ _ => rfl,
    fun b c h => ⟨c, h⟩, fun b c h => .inl ⟨c, h⟩, fun b e h => .inl h, fun i e b he hb hl _ _ _ => hw _ ((S.blks i e b he hb).lt (Blk.solid_of hl))⟩

/-- where a state says that what is laid lies -/
def entOf (ρ : Nat → Option Ent) (g : Nat) : Ent := (ρ (1048576 + g)).getD ⟨0, 0, 0⟩
theorem entOf_glob {ρ : Nat → Option Ent} (G : Globs ρ) : GlobE (entOf ρ) := fun g => by
  obtain ⟨n, hn⟩ := G g
  refine ⟨n, ?_⟩
  show (ρ (1048576 + (1048576 + g))).getD _ = _
  rw [show 1048576 + (1048576 + g) = 2097152 + g by omega, hn]; rfl
/-- a state that holds the variables says that the world does -/
theorem laid_of_srel {ρ : Nat → Option Ent} {h : Heap} {w : World} {L : List (Nat × List AV)} (S : SRel ρ h w) (hp : (L.all fun x => pureAVs x.2) = true) (hl : Vars L h) : LaidAt (entOf ρ) w L := by
  intro g cs hg
  obtain ⟨e, he⟩ := S.dom _ _ (hl g cs hg)
  obtain ⟨all, t, fr, h1, h2⟩ := S.blks _ _ _ he (hl g cs hg)
  have hpc : pureAVs cs = true := by
    clear hl h2 he
    induction L with
    | nil => cases hg
    | cons x xs ih =>
      simp only [List.all_cons, Bool.and_eq_true] at hp
      simp only [assocL] at hg
      split at hg
      · simp only [Option.some.injEq] at hg; subst hg; exact hp.1
      · exact ih hp.2 hg
  have hE : entOf ρ g = e := by simp only [entOf, he, Option.getD_some]
  rw [hE]
  refine ⟨all, t, fr, h1, fun j a hj => ?_⟩
  obtain ⟨v, k1, k2⟩ := h2 j a hj
  exact ⟨v, k1, pure_rel _ (pureAVs_get hpc hj) k2⟩

/-- what a call returns is known, from whatever world that holds what is laid; of the memory that was there nothing is changed -/
def Fact (P : Program) (L : List (Nat × List AV)) (f : FuncId) (args : List AV) (v : AV) : Prop :=
  pureAV v = true ∧ (L.all fun x => pureAVs x.2) = true ∧ ∃ fn body, P.funcs[f]? = some fn ∧ fn.body = some body ∧ ∀ (E : Nat → Ent) (w : World) (ARGS : List Value), GlobE E → LaidAt E w L → RelL (laidE E) args ARGS →
    CallsIn (RF none) 0 P f ARGS.toArray w fun e w' => ∃ V, e = .returned V ∧ Rel (fun _ => none) v V ∧ Below w.heap.size w w'
/-! a call that reads memory: its blocks get the numbers of what is laid -/
def idxB (b : Nat) : List Nat → Nat → Option Nat
  | [], _ => none
  | x :: r, i => match Nat.beq x b with
    | true => some i
    | false => idxB b r (i + 1)
def tabOf (bs : List Nat) (b : Nat) : Option Nat := match Nat.ble 2097152 b with
  | true => some b
  | false => match idxB b bs 0 with
    | some i => match Nat.blt i 1048576 with
      | true => some (1048576 + i)
      | false => none
    | none => none
def memOf (h : Heap) : Nat → List Nat → Option (List (Nat × List AV))
  | _, [] => some []
  | i, b :: r => match Nat.blt i 1048576, h.t.get b, memOf h (i + 1) r with
    | true, some (.cells _ cs _), some M => some ((i, cs) :: M)
    | true, some (.ro cs), some M => some ((i, cs) :: M)
    | _, _, _ => none
theorem idxB_ok {b : Nat} : ∀ {l : List Nat} {i j : Nat}, idxB b l i = some j → i ≤ j ∧ l[j - i]? = some b
  | [], _, _, h => by cases h
  | x :: r, i, j, h => by
    simp only [idxB] at h
    split at h
    · rename_i q
      simp only [Option.some.injEq] at h; subst h
      exact ⟨Nat.le_refl _, by rw [Nat.sub_self]; simp [Nat.eq_of_beq_eq_true q]⟩
    · obtain ⟨h1, h2⟩ := idxB_ok h
      refine ⟨by omega, ?_⟩
      rw [show j - i = (j - (i + 1)) + 1 by omega, List.getElem?_cons_succ]; exact h2
theorem tabOf_ok {bs : List Nat} {b c : Nat} (h : tabOf bs b = some c) : (2097152 ≤ b ∧ c = b) ∨ ∃ i, i < 1048576 ∧ c = 1048576 + i ∧ bs[i]? = some b := by
  simp only [tabOf] at h
  split at h
  · rename_i q
    simp only [Option.some.injEq] at h; exact .inl ⟨Nat.le_of_ble_eq_true q, h.symm⟩
  · split at h
    · rename_i i hi
      split at h
      · rename_i q
        simp only [Option.some.injEq] at h
        exact .inr ⟨i, Nat.le_of_ble_eq_true q, h.symm, (idxB_ok hi).2⟩
      · cases h
    · cases h
theorem tabOf_inj (bs : List Nat) : TInj (tabOf bs) := by
  intro o o' j h h'
  rcases tabOf_ok h with ⟨q1, q2⟩ | ⟨i, q1, q2, q3⟩ <;> rcases tabOf_ok h' with ⟨q1', q2'⟩ | ⟨i', q1', q2', q3'⟩
  · omega
  · omega
  · omega
  · obtain rfl : i = i' := by omega
    rw [q3] at q3'; exact Option.some.inj q3'
theorem memOf_get {h : Heap} {X : List (Nat × List AV)} : ∀ {bs : List Nat} {i : Nat} {M : List (Nat × List AV)}, memOf h i bs = some M → ∀ {g : Nat} {cs : List AV}, assocL (M ++ X) g = some cs →
    (g < 1048576 ∧ i ≤ g ∧ ∃ b, bs[g - i]? = some b ∧ ((∃ t o, h.t.get b = some (.cells t cs o)) ∨ h.t.get b = some (.ro cs))) ∨ assocL X g = some cs
  | [], i, M, hM, g, cs, hg => by
    simp only [memOf, Option.some.injEq] at hM; subst hM
    exact .inr hg
  | b :: r, i, M, hM, g, cs, hg => by
    simp only [memOf] at hM
    split at hM
    · rename_i t c o M' hi hb hr
      simp only [Option.some.injEq] at hM; subst hM
      simp only [List.cons_append, assocL] at hg
      split at hg
      · rename_i q; subst q
        simp only [Option.some.injEq] at hg; subst hg
        exact .inl ⟨Nat.le_of_ble_eq_true hi, Nat.le_refl _, b, by rw [Nat.sub_self]; rfl, .inl ⟨t, o, hb⟩⟩
      · rcases memOf_get hr hg with ⟨k0, k1, b', k2, k3⟩ | k
        · exact .inl ⟨k0, by omega, b', by rw [show g - i = (g - (i + 1)) + 1 by omega, List.getElem?_cons_succ]; exact k2, k3⟩
        · exact .inr k
    · rename_i c M' hi hb hr
      simp only [Option.some.injEq] at hM; subst hM
      simp only [List.cons_append, assocL] at hg
      split at hg
      · rename_i q; subst q
        simp only [Option.some.injEq] at hg; subst hg
        exact .inl ⟨Nat.le_of_ble_eq_true hi, Nat.le_refl _, b, by rw [Nat.sub_self]; rfl, .inr hb⟩
      · rcases memOf_get hr hg with ⟨k0, k1, b', k2, k3⟩ | k
        · exact .inl ⟨k0, by omega, b', by rw [show g - i = (g - (i + 1)) + 1 by omega, List.getElem?_cons_succ]; exact k2, k3⟩
        · exact .inr k
    · cases hM
theorem progVars_ge : ∀ {L : List (Nat × List AV)} {g : Nat} {x : List AV}, assocL (progVars L) g = some x → 1048576 ≤ g
  | [], g, x, h => by cases h
  | (k, y) :: r, g, x, h => by
    simp only [progVars] at h
    split at h
    · rename_i hk
      simp only [assocL] at h
      split at h
      · rename_i q; subst q; exact Nat.le_of_ble_eq_true hk
      · exact progVars_ge h
    · exact progVars_ge h
theorem assoc_pure : ∀ {L : List (Nat × List AV)}, (L.all fun x => pureAVs x.2) = true → ∀ {g : Nat} {cs : List AV}, assocL L g = some cs → pureAVs cs = true
  | [], _, g, cs, h => by cases h
  | x :: xs, hp, g, cs, h => by
    simp only [List.all_cons, Bool.and_eq_true] at hp
    simp only [assocL] at h
    split at h
    · simp only [Option.some.injEq] at h; subst h; exact hp.1
    · exact assoc_pure hp.2 h
/-- where a call's blocks lie -/
def memE (ρ : Nat → Option Ent) (bs : List Nat) (g : Nat) : Ent := if g < 1048576 then (match bs[g]? with
  | some b => (ρ b).getD ⟨0, 0, 0⟩
  | none => ⟨0, 0, 0⟩) else entOf ρ g
theorem fact_use {P : Program} {L M : List (Nat × List AV)} {f : FuncId} {bs : List Nat} {args args' : List AV} {v : AV} {ρ : Nat → Option Ent} {h : Heap} {w : World} {ARGS : List Value} (hF : Fact P (M ++ progVars L) f args' v) (hm : mapAVs (tabOf bs) args = some args') (hM : memOf h 0 bs = some M)
    (S : SRel ρ h w) (G : Globs ρ) (hv : Vars (progVars L) h) (hr : RelL ρ args ARGS) : ∃ fn body, P.funcs[f]? = some fn ∧ fn.body = some body ∧ CallsIn (RF none) 0 P f ARGS.toArray w (CallRes ρ h w v h) := by
  obtain ⟨hpv, hpL, fn, body, hf, hb, hC⟩ := hF
  refine ⟨fn, body, hf, hb, ?_⟩
  have hE : GlobE (memE ρ bs) := fun g => by
    obtain ⟨n, hn⟩ := entOf_glob G g
    exact ⟨n, by rw [memE, if_neg (by omega), hn]⟩
  have hL : LaidAt (memE ρ bs) w (M ++ progVars L) := by
    intro g cs hg
    have hpc := assoc_pure hpL hg
    rcases memOf_get hM hg with ⟨k0, _, b, k2, k3⟩ | k
    · rw [Nat.sub_zero] at k2
      have key : ∀ c, h.t.get b = some c → ∃ e, ρ b = some e ∧ memE ρ bs g = e ∧ BRel ρ w e c := by
        intro c hc
        obtain ⟨e, he⟩ := S.dom _ _ hc
        exact ⟨e, he, by rw [memE, if_pos k0]; simp only [k2, he, Option.getD_some], S.blks _ _ _ he hc⟩
      rcases k3 with ⟨t, o, q⟩ | q
      · obtain ⟨e, he, hE, ⟨all, t', lo, hi, h1, h2, h3, h4, h5⟩, _⟩ := key _ q
        rw [hE]
        exact ⟨all, t', (lo, hi), h1, fun j a hj => by obtain ⟨v, q1, q2⟩ := h4 j a hj; exact ⟨v, q1, pure_rel _ (pureAVs_get hpc hj) q2⟩⟩
      · obtain ⟨e, he, hE, all, t', fr, h1, h4⟩ := key _ q
        rw [hE]
        exact ⟨all, t', fr, h1, fun j a hj => by obtain ⟨v, q1, q2⟩ := h4 j a hj; exact ⟨v, q1, pure_rel _ (pureAVs_get hpc hj) q2⟩⟩
    · have hg1 := progVars_ge k
      have hp2 : ((progVars L).all fun x => pureAVs x.2) = true := by
        rw [List.all_append, Bool.and_eq_true] at hpL; exact hpL.2
      obtain ⟨vals, t, fr, h1, h2⟩ := laid_of_srel S hp2 hv g cs k
      have e : memE ρ bs g = entOf ρ g := by rw [memE, if_neg (by omega)]
      rw [e]; exact ⟨vals, t, fr, h1, h2⟩
  have hR : RelL (laidE (memE ρ bs)) args' ARGS := by
    refine RelL.ext ?_ _ (map_rels (tabOf_inj bs) args hm hr)
    intro j e hj
    obtain ⟨o, ho, he⟩ := pull_some (tabOf_inj bs) hj
    rcases tabOf_ok ho with ⟨q1, rfl⟩ | ⟨i, q1, rfl, q3⟩
    · rw [laidE, if_pos (by omega), memE, if_neg (by omega), entOf, show 1048576 + (j - 1048576) = j by omega, he]; rfl
    · rw [laidE_at, memE, if_pos q1]; simp only [q3, he, Option.getD_some]
  refine (hC _ w ARGS hE hL hR).mono ?_
  rintro e w' ⟨V, rfl, hV, hB⟩
  obtain ⟨h1, h2⟩ := srel_below S hB
  exact ⟨V, ρ, rfl, pure_rel _ hpv hV, h1, h2⟩

abbrev UseF := FuncId × List AV × AV × List (Nat × List AV)
/-! regions that draw their order, with operations whose operands are not known and calls whose contract is known -/
inductive DCh where
  | run
  | sp (k : Nat)
  | use (v : AV) (bs : List Nat)
  | lit (c : DCh) (b : Bool)
noncomputable def oneC (P : Program) (L : List (Nat × List AV)) (self : Code → Tmps → Heap → Res) (ops : Array Oper) (o : Oper) (a : Tmps) (h : Heap) : DCh → Option (Bool × List UseF × AV × Heap)
  | .run => match oneA P self ops o a h with
    | .ok (v, h') => some (true, [], v, h')
    | .bad _ => none
  | .sp k => match wantedA ops o a, Nat.blt h.next h.lim, symA P h a o k with
    | some true, true, some (b, v, h') => some (b, [], v, h')
    | _, _, _ => none
  | .use v bs => match wantedA ops o a, Nat.blt h.next h.lim, laidB h (progVars L), opA P h a o with
    | some true, true, true, some (.enter f args) => match mapAVs (tabOf bs) args, memOf h 0 bs with
      | some args', some M => some (true, [(f, args', v, M)], v, h)
      | _, _ => none
    | _, _, _, _ => none
  | .lit c b => match oneC P L self ops o a h c with
    | some (x, fs, .bool g, h') => some (andB x (match b with
      | true => g
      | false => !g), fs, .bool b, h')
    | _ => none
theorem oneP_use {P : Program} {L M : List (Nat × List AV)} {ops : Array Oper} {o : Oper} {a : Tmps} {h : Heap} {f : FuncId} {bs : List Nat} {args args' : List AV} {v : AV} (hP : okProg P = true) (hw : wantedA ops o a = some true) (hl : h.next < h.lim) (hla : laidB h (progVars L) = true) (ho : opA P h a o = some (.enter f args))
    (hm : mapAVs (tabOf bs) args = some args') (hM : memOf h 0 bs = some M) (hF : Fact P (M ++ progVars L) f args' v) : OneP P ops o a h v h := by
  intro DL ρ w A r S F K Q hK
  have hab : ∀ f, o.about P w A.eval = some f → (RF r).fn f := fun _ _ => trivial
  rw [if_pos (wanted_eq F ops o hw)]
  refine ⟨hab, ?_⟩
  obtain ⟨vs, k1, k2⟩ := op_sound S hl F ho
  obtain ⟨fn, body, hf, hb, hC⟩ := fact_use hF hm hM S F.glob (fun g x hg => laidB_ok hla g x hg) k1
  rw [semAt_ok ho, k2, callFunc_run hP hf hb, Oper.uponIn_enter]
  refine ⟨(fun q => (by cases q)), ?_⟩
  have hC' : CallsIn (RF r) 0 P f vs.toArray w (CallRes ρ h w v h) := hC
  refine hC'.mono ?_
  rintro e w' ⟨V, ρ', rfl, q1, q2, q3⟩
  exact hK _ _ _ q2 q3 q1
noncomputable def drawC (P : Program) (L : List (Nat × List AV)) (self : Code → Tmps → Heap → Res) (ops : Array Oper) (ms : List Nat) (a : Tmps) (h : Heap) : List Oper → List DCh → List En → Nat → Option (Bool × List UseF × List En × Nat)
  | [], _, acc, base => some (true, [], acc, base)
  | o :: l, cs, acc, base =>
    match oneC P L self ops o { n := a.n, dflt := false, t := restrT (Nat.testBit (nthD ms acc.length)) acc a (mentOf ops o) } { next := base, lim := h.lim, wr := [], t := match fpOf ops { n := a.n, dflt := false, t := restrT (Nat.testBit (nthD ms acc.length)) acc a (mentOf ops o) } o with
      | some bs => restrH (Nat.testBit (nthD ms acc.length)) acc h bs
      | none => heapT (Nat.testBit (nthD ms acc.length)) acc 0 h.t } (match cs with
      | [] => .run
      | c :: _ => c) with
    | none => none
    | some (b, fs, v, h1) => match Nat.blt h1.next h.lim with
      | false => none
      | true => match (match o.dst with
        | some d => Nat.blt d a.n
        | none => true) with
        | true => match drawC P L self ops ms a h l cs.tail (acc ++ [{ lo := base, hi := h1.next + 1, dst := o.dst, v, keys := wKeys h1.t (h1.wr ++ rangeL base (h1.next - base)), ment := mentOf ops o, tr := match fpOf ops { n := a.n, dflt := false, t := restrT (Nat.testBit (nthD ms acc.length)) acc a (mentOf ops o) } o with
            | some bs => restrH (Nat.testBit (nthD ms acc.length)) acc h bs
            | none => heapT (Nat.testBit (nthD ms acc.length)) acc 0 h.t }]) (h1.next + 1) with
          | some (c, gs, es, fin) => some (andB b c, fs ++ gs, es, fin)
          | none => none
        | false => none
def factsIn (P : Program) (L : List (Nat × List AV)) (fs : List UseF) : Prop := ∀ x, x ∈ fs → Fact P (x.2.2.2 ++ progVars L) x.1 x.2.1 x.2.2.1
theorem laidB_t (h : Heap) (N : Nat) : ∀ (L : List (Nat × List AV)), laidB (h.setLim N) L = laidB h L
  | [] => rfl
  | (g, x) :: r => by
    have ih := laidB_t h N r
    simp only [laidB] at ih ⊢
    rw [ih]; rfl
theorem memOf_lim (h : Heap) (N : Nat) : ∀ (bs : List Nat) (i : Nat), memOf (h.setLim N) i bs = memOf h i bs
  | [], _ => rfl
  | b :: r, i => by simp only [memOf, memOf_lim h N r (i + 1)]; rfl
theorem oneC_ok {P : Program} {L : List (Nat × List AV)} {self : Code → Tmps → Heap → Res} (hP : okProg P = true) (hself : SelfOk P self) (hs : LimOk self) {ops : Array Oper} {o : Oper} {a : Tmps} {h h1 : Heap} {c : DCh} {b : Bool} {fs : List UseF} {v : AV}
    (ho : oneC P L self ops o a h c = some (b, fs, v, h1)) (hb : b = true) (hF : factsIn P L fs) : h.next ≤ h1.next ∧ ∀ N, h1.next < N → OneP P ops o a (h.setLim N) v (h1.setLim N) := by
  have key : ∀ {v : AV} {h1 : Heap}, oneA P self ops o a h = .ok (v, h1) → h.next ≤ h1.next ∧ ∀ N, h1.next < N → OneP P ops o a (h.setLim N) v (h1.setLim N) := by
    intro v h1 hq
    obtain ⟨g1, g2⟩ := one_lim hs hq
    exact ⟨g1.1, fun N hN => oneP_of hP hself (g2 N hN)⟩
  induction c generalizing b fs v h1 with
  | run =>
    simp only [oneC] at ho
    split at ho
    · rename_i v1 h2 hq
      simp only [Option.some.injEq, Prod.mk.injEq] at ho; obtain ⟨_, _, rfl, rfl⟩ := ho; exact key hq
    · cases ho
  | sp k =>
    simp only [oneC] at ho
    split at ho
    · rename_i b1 v1 h2 hw hl hy
      simp only [Option.some.injEq, Prod.mk.injEq] at ho; obtain ⟨rfl, _, rfl, rfl⟩ := ho
      refine key ?_
      rcases symA_ok hy hb with q | ⟨q, rfl⟩
      · simp only [oneA, hw, hl, q]
      · simp only [oneA, hw, hl, q]
    · cases ho
  | use u bs =>
    simp only [oneC] at ho
    split at ho
    · rename_i f args hw hl hla hq
      split at ho
      · rename_i args' M hm hM
        simp only [Option.some.injEq, Prod.mk.injEq] at ho; obtain ⟨_, rfl, rfl, rfl⟩ := ho
        refine ⟨Nat.le_refl _, fun N hN => ?_⟩
        have hq' : opA P (h.setLim N) a o = some (.enter f args) := by rw [op_lim, hq]; rfl
        exact oneP_use (L := L) hP hw hN (by rw [laidB_t] ; exact hla) hq' hm (by rw [memOf_lim]; exact hM) (hF _ (List.mem_singleton.2 rfl))
      · cases ho
    · cases ho
  | lit c b0 ih =>
    simp only [oneC] at ho
    split at ho
    · rename_i x fs' g h' hc
      simp only [Option.some.injEq, Prod.mk.injEq] at ho; obtain ⟨rfl, rfl, rfl, rfl⟩ := ho
      obtain ⟨h2, h3⟩ := andB_eq.1 hb
      have hg : g = b0 := by
        cases b0 with
        | true => exact h3
        | false => simpa using h3
      subst hg
      exact ih hc h2 hF
    · cases ho
theorem drawC_spec {P : Program} {L : List (Nat × List AV)} {self : Code → Tmps → Heap → Res} (hP : okProg P = true) (hself : SelfOk P self) (hs : LimOk self) {ops : Array Oper} {ms : List Nat} {a : Tmps} {h : Heap} : ∀ (l : List Oper) (cs : List DCh) (acc es : List En) (base fin : Nat) (b : Bool) (fs : List UseF),
    drawC P L self ops ms a h l cs acc base = some (b, fs, es, fin) → b = true → factsIn P L fs →
    ∃ new, es = acc ++ new ∧ new.length = l.length ∧ base ≤ fin ∧ (base ≤ h.lim → fin ≤ h.lim) ∧
      (∀ (j : Nat) (o : Oper), l[j]? = some o → ∃ e, new[j]? = some e ∧ EnOk P ops ms a h (acc.length + j) o e (acc ++ new.take j) ∧ base ≤ e.lo ∧ e.hi ≤ fin) ∧
      (∀ (j k : Nat) (e e' : En), j < k → new[j]? = some e → new[k]? = some e' → e.hi ≤ e'.lo)
  | [], cs, acc, es, base, fin, b, fs, hh, _, _ => by
    simp only [drawC, Option.some.injEq, Prod.mk.injEq] at hh; obtain ⟨_, _, rfl, rfl⟩ := hh
    exact ⟨[], by simp, rfl, Nat.le_refl _, fun h => h, fun j o hj => by simp at hj, fun j k e e' _ hj => by simp at hj⟩
  | o :: l, cs, acc, es, base, fin, b, fs, hh, hb, hF => by
    simp only [drawC] at hh
    split at hh
    · cases hh
    · rename_i b1 fs1 v h1 hq
      split at hh
      · cases hh
      · rename_i hlim
        have hlim' : h1.next + 1 ≤ h.lim := Nat.le_of_ble_eq_true hlim
        split at hh
        · rename_i hslot
          split at hh
          · rename_i c gs es' fin' hr
            simp only [Option.some.injEq, Prod.mk.injEq] at hh; obtain ⟨rfl, rfl, rfl, rfl⟩ := hh
            obtain ⟨hb1, hb2⟩ := andB_eq.1 hb
            obtain ⟨g1', g2⟩ := oneC_ok hP hself hs hq hb1 (fun x hx => hF x (List.mem_append.2 (.inl hx)))
            have g1' : base ≤ h1.next := g1'
            have hq' := g2 (h1.next + 1) (Nat.lt_succ_self _)
            obtain ⟨new, n1, n2, n3, n3b, n4, n5⟩ := drawC_spec hP hself hs l _ _ es' _ fin' _ _ hr hb2 (fun x hx => hF x (List.mem_append.2 (.inr hx)))
            refine ⟨_ :: new, by rw [n1, List.append_assoc]; exact rfl, by simp [n2], by omega, fun _ => n3b hlim', ?_, ?_⟩
            · intro j x hj
              cases j with
              | zero =>
                simp only [List.getElem?_cons_zero, Option.some.injEq] at hj; subst hj
                refine ⟨_, rfl, ⟨rfl, ?_, rfl, hlim', by simp; omega, ?_, h1.setLim (h1.next + 1), ?_, rfl⟩, Nat.le_refl _, n3⟩
                · intro d hd
                  rw [hd] at hslot
                  exact Nat.le_of_ble_eq_true hslot
                · simp only [List.take_zero, List.append_nil, Nat.add_zero]
                  split
                  · exact .inr ⟨_, rfl⟩
                  · exact .inl (fun b => rfl)
                · simpa [Heap.setLim] using hq'
              | succ j =>
                obtain ⟨e, e1, e2, e3, e4⟩ := n4 j x (by simpa using hj)
                refine ⟨e, by simpa using e1, ?_, by omega, e4⟩
                simp only [List.length_append, List.length_cons, List.length_nil] at e2
                rw [show acc.length + (0 + 1) + j = acc.length + (j + 1) from by omega] at e2
                simpa using e2
            · intro j k e e' hjk hj hk
              cases j with
              | zero =>
                simp only [List.getElem?_cons_zero, Option.some.injEq] at hj; subst hj
                cases k with
                | zero => omega
                | succ k =>
                  have hk' : new[k]? = some e' := by simpa using hk
                  have hlt := getElem?_lt hk'
                  have h0 : k < l.length := by omega
                  obtain ⟨e2, f1, _, f3, _⟩ := n4 k (l[k]'h0) (by simp [h0])
                  rw [hk'] at f1; simp only [Option.some.injEq] at f1; subst f1
                  exact f3
              | succ j =>
                cases k with
                | zero => omega
                | succ k => exact n5 j k e e' (by omega) (by simpa using hj) (by simpa using hk)
          · cases hh
        · cases hh

inductive Run (P : Program) (fnTop : Func) (L : List (Nat × List AV)) (v0 : AV) : List Fr → Cfg → Prop where
  | exec {n : Nat} {K : List Fr} {c : Code} {a a' : Tmps} {h h' : Heap} {ex : Ex} (hn : inR K = false ∨ noRange c = true) (hr : codeN P n c a h = .ok (ex, a', h')) (hu : unwritten L h'.wr = true) (k : Run P fnTop L v0 K (.fin ex a' h'.fresh)) : Run P fnTop L v0 K (.code c a h)
  | seq {K : List Fr} {x y : Code} {a : Tmps} {h : Heap} (k : Run P fnTop L v0 (.seq y :: K) (.code x a h)) : Run P fnTop L v0 K (.code (.seq x y) a h)
  | block {K : List Fr} {id : Nat} {x : Code} {a : Tmps} {h : Heap} (k : Run P fnTop L v0 (.block id :: K) (.code x a h)) : Run P fnTop L v0 K (.code (.block id x) a h)
  /-- a scope whose labels aren't jumped to -/
  | scope {K : List Fr} {x : Code} {a : Tmps} {h : Heap} (hin : inR K = false) (k : Run P fnTop L v0 (.scp :: K) (.code x a h)) : Run P fnTop L v0 K (.code (.scope x) a h)
  | loop {K : List Fr} {x : Code} {a : Tmps} {h : Heap} (k : Run P fnTop L v0 K (.head x a h)) : Run P fnTop L v0 K (.code (.loop x) a h)
  | head {K : List Fr} {x : Code} {a : Tmps} {h : Heap} (k : Run P fnTop L v0 (.loop x :: K) (.code x a h)) : Run P fnTop L v0 K (.head x a h)
  | condT {K : List Fr} {c : Operand} {x y : Code} {a : Tmps} {h : Heap} (hc : evalA a c = some (.bool true)) (k : Run P fnTop L v0 K (.code x a h)) : Run P fnTop L v0 K (.code (.cond c x y) a h)
  | condF {K : List Fr} {c : Operand} {x y : Code} {a : Tmps} {h : Heap} (hc : evalA a c = some (.bool false)) (k : Run P fnTop L v0 K (.code y a h)) : Run P fnTop L v0 K (.code (.cond c x y) a h)
  | region {K : List Fr} {id : Nat} {ops : Array Oper} {a : Tmps} {h : Heap} (k : Run P fnTop L v0 K (.ops ops ops.toList a h)) : Run P fnTop L v0 K (.code (.region id ops false) a h)
  /-- a region that draws its order, whose last operations wait for all ahead of them -/
  | drawn {n : Nat} {K : List Fr} {id : Nat} {ops : Array Oper} {pre post : List Oper} {ms : List Nat} {es : List En} {fin : Nat} {a : Tmps} {h : Heap} (hops : ops.toList = pre ++ post) (hm : P.follows .mixedOrders = true) (hms : masksF ops.toList [] = some ms)
      (hdr : drawF P (codeN P n) ops ms a h pre [] h.next = .ok (es, fin)) (hchk : chkAll ms [] es = true) (hmask : ∀ i o, pre.length ≤ i → ops.toList[i]? = some o → ∀ k, k < i → Nat.testBit (nthD ms i) k = true) (hu : unwritten L (keysOf es ++ h.wr) = true)
      (k : Run P fnTop L v0 K (.ops ops post (tmpsD (fun _ => true) es 0 a) { next := fin, lim := h.lim, wr := [], t := heapT (fun _ => true) es 0 h.t })) : Run P fnTop L v0 K (.code (.region id ops true) a h)
  | drawnC {n : Nat} {K : List Fr} {id : Nat} {ops : Array Oper} {pre post : List Oper} {ms : List Nat} {cs : List DCh} {b : Bool} {fs : List UseF} {es : List En} {fin : Nat} {a : Tmps} {h : Heap} (hops : ops.toList = pre ++ post) (hm : P.follows .mixedOrders = true) (hms : masksF ops.toList [] = some ms)
      (hdr : drawC P L (codeN P n) ops ms a h pre cs [] h.next = some (b, fs, es, fin)) (hb : b = true) (hF : factsIn P L fs) (hchk : chkAll ms [] es = true) (hmask : ∀ i o, pre.length ≤ i → ops.toList[i]? = some o → ∀ k, k < i → Nat.testBit (nthD ms i) k = true) (hu : unwritten L (keysOf es ++ h.wr) = true)
      (k : Run P fnTop L v0 K (.ops ops post (tmpsD (fun _ => true) es 0 a) { next := fin, lim := h.lim, wr := [], t := heapT (fun _ => true) es 0 h.t })) : Run P fnTop L v0 K (.code (.region id ops true) a h)
  /-- a region that draws its order, in segments -/
  | regionD {K : List Fr} {id : Nat} {ops : Array Oper} {a : Tmps} {h : Heap} (hm : P.follows .mixedOrders = true) (hu : unwritten L h.wr = true) (k : Run P fnTop L v0 K (.opsD ops 0 a h.fresh)) : Run P fnTop L v0 K (.code (.region id ops true) a h)
  | segC {n : Nat} {K : List Fr} {ops : Array Oper} {m : Nat} {pre seg post : List Oper} {ms : List Nat} {cs : List DCh} {b : Bool} {fs : List UseF} {es : List En} {fin : Nat} {a : Tmps} {h : Heap} (hops : ops.toList = pre ++ (seg ++ post)) (hpre : pre.length = m) (hms : masksF ops.toList [] = some ms)
      (hdr : drawC P L (codeN P n) ops ms a h seg cs (List.replicate m (dmy h.next)) h.next = some (b, fs, es, fin)) (hb : b = true) (hF : factsIn P L fs) (hchk : chkAll ms [] es = true) (hmask : ∀ i o, m + seg.length ≤ i → ops.toList[i]? = some o → ∀ k, k < m + seg.length → Nat.testBit (nthD ms i) k = true) (hu : unwritten L (keysOf es ++ h.wr) = true)
      (k : Run P fnTop L v0 K (.opsD ops (m + seg.length) (tmpsD (fun _ => true) es 0 a) { next := fin, lim := h.lim, wr := [], t := heapT (fun _ => true) es 0 h.t })) : Run P fnTop L v0 K (.opsD ops m a h)
  | oneD {n : Nat} {K : List Fr} {ops : Array Oper} {m : Nat} {ms : List Nat} {o : Oper} {a : Tmps} {h h' : Heap} {v : AV} (hms : masksF ops.toList [] = some ms) (hoj : ops.toList[m]? = some o) (hsg : ∀ i o, m < i → ops.toList[i]? = some o → Nat.testBit (nthD ms i) m = true)
      (ho : oneA P (codeN P n) ops o a h = .ok (v, h')) (hu : unwritten L h'.wr = true)
      (k : Run P fnTop L v0 K (.opsD ops (m + 1) (put a o.dst v) h'.fresh)) : Run P fnTop L v0 K (.opsD ops m a h)
  | enterD {K : List Fr} {ops : Array Oper} {m : Nat} {ms : List Nat} {o : Oper} {a : Tmps} {h : Heap} {f : FuncId} {args : List AV} {fn : Func} {body : Code} (hms : masksF ops.toList [] = some ms) (hoj : ops.toList[m]? = some o) (hsg : ∀ i o, m < i → ops.toList[i]? = some o → Nat.testBit (nthD ms i) m = true)
      (hw : wantedA ops o a = some true) (hl : h.next < h.lim)
      (ho : opA P h a o = some (.enter f args)) (hf : P.funcs[f]? = some fn) (hb : fn.body = some body)
      (k : Run P fnTop L v0 (.callD fn o.dst ops (m + 1) a :: K) (.code body { n := args.length + (fn.ntmps - args.length), dflt := true, t := enterT 0 args .leaf } h)) : Run P fnTop L v0 K (.opsD ops m a h)
  | useD {K : List Fr} {ops : Array Oper} {m : Nat} {ms : List Nat} {o : Oper} {a : Tmps} {h : Heap} {f : FuncId} {bs : List Nat} {M : List (Nat × List AV)} {args args' : List AV} {v : AV} (hms : masksF ops.toList [] = some ms) (hoj : ops.toList[m]? = some o) (hsg : ∀ i o, m < i → ops.toList[i]? = some o → Nat.testBit (nthD ms i) m = true)
      (hw : wantedA ops o a = some true) (hl : h.next < h.lim) (ho : opA P h a o = some (.enter f args)) (hm : mapAVs (tabOf bs) args = some args') (hM : memOf h 0 bs = some M) (hF : Fact P (M ++ progVars L) f args' v)
      (hu : unwritten L h.wr = true) (k : Run P fnTop L v0 K (.opsD ops (m + 1) (put a o.dst v) h.fresh)) : Run P fnTop L v0 K (.opsD ops m a h)
  | opsEndD {K : List Fr} {ops : Array Oper} {m : Nat} {a : Tmps} {h : Heap} (hm : ops.size ≤ m) (k : Run P fnTop L v0 K (.fin .normal a h)) : Run P fnTop L v0 K (.opsD ops m a h)
  | one {n : Nat} {K : List Fr} {ops : Array Oper} {o : Oper} {rest : List Oper} {a : Tmps} {h h' : Heap} {v : AV} (ho : oneA P (codeN P n) ops o a h = .ok (v, h')) (hu : unwritten L h'.wr = true)
      (k : Run P fnTop L v0 K (.ops ops rest (put a o.dst v) h'.fresh)) : Run P fnTop L v0 K (.ops ops (o :: rest) a h)
  | enter {K : List Fr} {ops : Array Oper} {o : Oper} {rest : List Oper} {a : Tmps} {h : Heap} {f : FuncId} {args : List AV} {fn : Func} {body : Code} (hw : wantedA ops o a = some true) (hl : h.next < h.lim)
      (ho : opA P h a o = some (.enter f args)) (hf : P.funcs[f]? = some fn) (hb : fn.body = some body)
      (k : Run P fnTop L v0 (.call fn o.dst ops rest a :: K) (.code body { n := args.length + (fn.ntmps - args.length), dflt := true, t := enterT 0 args .leaf } h)) : Run P fnTop L v0 K (.ops ops (o :: rest) a h)
  /-- a call of which it is known what it returns -/
  | use {K : List Fr} {ops : Array Oper} {o : Oper} {rest : List Oper} {a : Tmps} {h : Heap} {f : FuncId} {bs : List Nat} {M : List (Nat × List AV)} {args args' : List AV} {v : AV} (hw : wantedA ops o a = some true) (hl : h.next < h.lim) (ho : opA P h a o = some (.enter f args)) (hm : mapAVs (tabOf bs) args = some args') (hM : memOf h 0 bs = some M) (hF : Fact P (M ++ progVars L) f args' v)
      (hu : unwritten L h.wr = true) (k : Run P fnTop L v0 K (.ops ops rest (put a o.dst v) h.fresh)) : Run P fnTop L v0 K (.ops ops (o :: rest) a h)
  | opsEnd {K : List Fr} {ops : Array Oper} {a : Tmps} {h : Heap} (k : Run P fnTop L v0 K (.fin .normal a h)) : Run P fnTop L v0 K (.ops ops [] a h)
  /-- a range over a map begins -/
  | rangeM {K : List Fr} {ops : Array Oper} {o : Oper} {rest : List Oper} {a : Tmps} {h : Heap} {ty : TypeId} {x : Operand} {m clk : Nat} {es : List (AV × AV × Nat)} (hw : wantedA ops o a = some true) (hl : h.next < h.lim)
      (ho : o.op = .range ty x) (ht : isMapT P ty = true) (hx : evalA a x = some (.map m)) (hm : h.get m = some (.map es clk)) (hu : unwritten L h.wr = true)
      (k : Run P fnTop L v0 K (.ops ops rest (put a o.dst (.ptr h.next 0)) (h.push (.iter m clk [])).fresh)) : Run P fnTop L v0 K (.ops ops (o :: rest) a h)
  /-- and comes to an entry, whichever, or to its end -/
  | nextM {K : List Fr} {ops : Array Oper} {o : Oper} {rest : List Oper} {a : Tmps} {h : Heap} {x : Operand} {b m clk : Nat} {S : List Nat} {es : List (AV × AV × Nat)} (hw : wantedA ops o a = some true)
      (ho : o.op = .next x false) (hx : evalA a x = some (.ptr b 0)) (hb : h.get b = some (.iter m clk S)) (hm : h.get m = some (.map es clk)) (hc : bornB clk es = true) (hu : unwritten L (b :: h.wr) = true)
      (k0 : allSeen S es = true → Run P fnTop L v0 K (.ops ops rest (put a o.dst (.tup [.bool false])) h))
      (k1 : ∀ e, e ∈ es → seenN e.2.2 S = false → Run P fnTop L v0 K (.ops ops rest (put a o.dst (.tup [.bool true, e.1, e.2.1])) (h.set b (.iter m clk (e.2.2 :: S))).fresh)) : Run P fnTop L v0 K (.ops ops (o :: rest) a h)
  /-- the entry it came to -/
  | entryM {K : List Fr} {ops : Array Oper} {o : Oper} {rest : List Oper} {a : Tmps} {h : Heap} {x : Operand} {b m clk n : Nat} {S : List Nat} {es : List (AV × AV × Nat)} {e : AV × AV × Nat} (hw : wantedA ops o a = some true)
      (ho : o.op = .entry x) (hx : evalA a x = some (.ptr b 0)) (hb : h.get b = some (.iter m clk (n :: S))) (hm : h.get m = some (.map es clk)) (hf : findBorn n es = some e) (hu : unwritten L h.wr = true)
      (k : Run P fnTop L v0 K (.ops ops rest (put a o.dst (.tup [e.1, e.2.1])) h.fresh)) : Run P fnTop L v0 K (.ops ops (o :: rest) a h)
  | finSeq {K : List Fr} {y : Code} {a : Tmps} {h : Heap} (k : Run P fnTop L v0 K (.code y a h)) : Run P fnTop L v0 (.seq y :: K) (.fin .normal a h)
  | finSeqX {K : List Fr} {y : Code} {ex : Ex} {a : Tmps} {h : Heap} (hx : ex ≠ .normal) (k : Run P fnTop L v0 K (.fin ex a h)) : Run P fnTop L v0 (.seq y :: K) (.fin ex a h)
  | finBlock {K : List Fr} {id : Nat} {a : Tmps} {h : Heap} (k : Run P fnTop L v0 K (.fin .normal a h)) : Run P fnTop L v0 (.block id :: K) (.fin (.exit id) a h)
  | finBlockX {K : List Fr} {id : Nat} {ex : Ex} {a : Tmps} {h : Heap} (hx : ex ≠ .exit id) (k : Run P fnTop L v0 K (.fin ex a h)) : Run P fnTop L v0 (.block id :: K) (.fin ex a h)
  | finScp {K : List Fr} {ex : Ex} {a : Tmps} {h : Heap} (hx : ∀ l, ex ≠ .goto l) (k : Run P fnTop L v0 K (.fin ex a h)) : Run P fnTop L v0 (.scp :: K) (.fin ex a h)
  | finLoop {K : List Fr} {x : Code} {a : Tmps} {h : Heap} (k : Run P fnTop L v0 K (.head x a h)) : Run P fnTop L v0 (.loop x :: K) (.fin .normal a h)
  | finLoopX {K : List Fr} {x : Code} {ex : Ex} {a : Tmps} {h : Heap} (hx : ex ≠ .normal) (k : Run P fnTop L v0 K (.fin ex a h)) : Run P fnTop L v0 (.loop x :: K) (.fin ex a h)
  | finCall {K : List Fr} {fn : Func} {d : Option Nat} {ops : Array Oper} {rest : List Oper} {a0 a : Tmps} {h : Heap} {ex : Ex} {v : AV} (hx : ex = .normal ∨ ex = .ret) (hv : resultsA P fn h a = some v)
      (k : Run P fnTop L v0 K (.ops ops rest (put a0 d v) h)) : Run P fnTop L v0 (.call fn d ops rest a0 :: K) (.fin ex a h)
  | finCallD {K : List Fr} {fn : Func} {d : Option Nat} {ops : Array Oper} {m : Nat} {a0 a : Tmps} {h : Heap} {ex : Ex} {v : AV} (hx : ex = .normal ∨ ex = .ret) (hv : resultsA P fn h a = some v)
      (k : Run P fnTop L v0 K (.opsD ops m (put a0 d v) h)) : Run P fnTop L v0 (.callD fn d ops m a0 :: K) (.fin ex a h)
  | range {K : List Fr} {f : Operand} {ps : Array Nat} {asg body gb : Code} {a : Tmps} {h : Heap} {g : FuncId} {first cap : List AV} {fn : Func} (hin : inR K = false) (hf : evalA a f = some (.fn (.func g) first cap)) (hlt : h.next < h.lim) (hg : P.funcs[g]? = some fn) (hb : fn.body = some gb)
      (hu : unwritten L h.wr = true)
      (k : Run P fnTop L v0 (.rng fn h.next a :: K) (.code gb { n := (first ++ [AV.fn (.yield h.next) [] []] ++ cap).length + (fn.ntmps - (first ++ [AV.fn (.yield h.next) [] []] ++ cap).length), dflt := true, t := enterT 0 (first ++ [AV.fn (.yield h.next) [] []] ++ cap) .leaf } (h.push (.loop ps.toList asg body a none)).fresh)) :
      Run P fnTop L v0 K (.code (.rangeFunc f ps asg body) a h)
  | finRngN {K : List Fr} {fn : Func} {b : Nat} {a0 a t : Tmps} {h : Heap} {ex : Ex} {v : AV} {ps : List Nat} {asg body : Code} (hx : ex = .normal ∨ ex = .ret) (hv : resultsA P fn h a = some v) (hb : h.get b = some (.loop ps asg body t none)) (hu : unwritten L (b :: h.wr) = true)
      (k : Run P fnTop L v0 K (.fin .normal a0 (h.set b .dead).fresh)) : Run P fnTop L v0 (.rng fn b a0 :: K) (.fin ex a h)
  | finRngX {K : List Fr} {fn : Func} {b : Nat} {a0 a t : Tmps} {h : Heap} {ex ex' : Ex} {v : AV} {ps : List Nat} {asg body : Code} (hx : ex = .normal ∨ ex = .ret) (hv : resultsA P fn h a = some v) (hb : h.get b = some (.loop ps asg body t (some (some ex')))) (hu : unwritten L (b :: h.wr) = true)
      (k : Run P fnTop L v0 K (.fin ex' a0 (h.set b .dead).fresh)) : Run P fnTop L v0 (.rng fn b a0 :: K) (.fin ex a h)
  | round {n : Nat} {K : List Fr} {ops : Array Oper} {o : Oper} {rest : List Oper} {a ab a1 t1 : Tmps} {h h1 : Heap} {b : Nat} {args : List AV} {ps ps1 : List Nat} {asg body asg1 body1 : Code} (hw : wantedA ops o a = some true) (hl : h.next < h.lim)
      (ho : opA P h a o = some (.round b args)) (hb : h.get b = some (.loop ps asg body ab none)) (hlen : args.length = ps.length) (hn1 : noRange asg = true) (hr1 : codeN P n asg (setParams ab ps args) h = .ok (.normal, a1, h1))
      (hb1 : h1.get b = some (.loop ps1 asg1 body1 t1 none)) (hu : unwritten L (b :: h1.wr) = true)
      (k : Run P fnTop L v0 (.round b o.dst ops rest a :: K) (.code body a1 (h1.set b (.loop ps1 asg1 body1 t1 (some none))).fresh)) : Run P fnTop L v0 K (.ops ops (o :: rest) a h)
  | finRoundN {K : List Fr} {b : Nat} {d : Option Nat} {ops : Array Oper} {rest : List Oper} {a0 a t : Tmps} {h : Heap} {ps : List Nat} {asg body : Code} (hb : h.get b = some (.loop ps asg body t (some none))) (hu : unwritten L (b :: h.wr) = true)
      (k : Run P fnTop L v0 K (.ops ops rest (put a0 d (.bool true)) (h.set b (.loop ps asg body t none)).fresh)) : Run P fnTop L v0 (.round b d ops rest a0 :: K) (.fin .normal a h)
  | finRoundX {K : List Fr} {b : Nat} {d : Option Nat} {ops : Array Oper} {rest : List Oper} {a0 a t : Tmps} {h : Heap} {ex : Ex} {ps : List Nat} {asg body : Code} (hx : ex ≠ .normal) (hb : h.get b = some (.loop ps asg body t (some none))) (hu : unwritten L (b :: h.wr) = true)
      (k : Run P fnTop L v0 K (.ops ops rest (put a0 d (.bool false)) (h.set b (.loop ps asg body t (some (some ex)))).fresh)) : Run P fnTop L v0 (.round b d ops rest a0 :: K) (.fin ex a h)
  | top {ex : Ex} {a : Tmps} {h : Heap} (hx : ex = .normal ∨ ex = .ret) (hv : resultsA P fnTop h a = some v0) : Run P fnTop L v0 [] (.fin ex a h)
  | weak {K1 K : List Fr} {c1 c : Cfg} (hk : KSub K1 K) (hc : Vars L c.h → CSub c1 c ∧ Vars L c1.h) (k : Run P fnTop L v0 K1 c1) : Run P fnTop L v0 K c
  /-- from the same state with other numbers for its blocks -/
  | ren {τ : Nat → Option Nat} {K1 K : List Fr} {c1 c : Cfg} (hk : KRen τ K1 K) (hc : CRen τ c1 c) (hl : ∀ g x, assocL L g = some x → c1.h.t.get (1048576 + g) = some (.ro x)) (k : Run P fnTop L v0 K1 c1) : Run P fnTop L v0 K c

/-! what it means in the model -/
def hdIn (F : Fence) (n : Nat) (P : Program) (c : Code) (Q : Exit → Act → World → Prop) (a : Act) (w : World) : Prop :=
  ∀ b k cs, b.roundOf = F.round → F.fn b.fn → F.room (cs.length + 1 + n) → ∃ e a' w', Q e a' w' ∧ ArrivesIn (Machine.fenced P F) P (lone (b.atR a (.code c :: .inLoop c :: k)) cs w) b k cs e a' w'

theorem loop_of_hd {F : Fence} {n : Nat} {P : Program} {c : Code} {Q : Exit → Act → World → Prop} {a : Act} {w : World} (h : hdIn F n P c Q a w) : (Code.loop c).wpIn F n P Q a w := by
  intro b k cs hro hb hr
  obtain ⟨e, a', w', hq, harr⟩ := h b k cs hro hb hr
  exact ⟨e, a', w', hq, .of_steps (.one (fenced_calm hb hr rfl) stepR_loop) harr⟩

theorem hd_of {F : Fence} {n : Nat} {P : Program} {c : Code} {Q : Exit → Act → World → Prop} {a : Act} {w : World} (h : c.wpIn F n P (Exit.then (hdIn F n P c Q) Q) a w) : hdIn F n P c Q a w := by
  intro b k cs hro hb hr
  obtain ⟨e, a₁, w₁, hq, harr⟩ := h b (.inLoop c :: k) cs hro hb hr
  cases e with
  | normal =>
    obtain ⟨e₂, a₂, w₂, hq₂, harr₂⟩ := (show hdIn F n P c Q a₁ w₁ from hq) b k cs hro hb hr
    exact ⟨e₂, a₂, w₂, hq₂, .of_steps (StepsIn.trans harr (.one (fenced_calm hb hr rfl) stepR_inLoop)) harr₂⟩
  | exit id => exact ⟨_, a₁, w₁, hq, .pass (x := .inLoop c) rfl (fun _ _ => .inl (by simp)) harr⟩
  | goto l => exact ⟨_, a₁, w₁, hq, .pass (x := .inLoop c) rfl (fun _ _ => .inl (by simp)) harr⟩
  | ret => exact ⟨_, a₁, w₁, hq, .pass (x := .inLoop c) rfl (fun _ _ => .inl (by simp)) harr⟩
  | panic ch => exact ⟨_, a₁, w₁, hq, .pass (x := .inLoop c) rfl (fun _ _ => .inl (by simp)) harr⟩
  | outgrown => exact ⟨_, a₁, w₁, hq, .pass (x := .inLoop c) rfl (fun _ _ => .inl (by simp)) harr⟩

inductive KC where
  | seq (y : Code)
  | block (id : Nat)
  | scp
  | loop (x : Code)
  | call (fn : Func) (d : Option Nat) (ops : Array Oper) (rest : List Oper) (A : Act)
  | callD (fn : Func) (d : Option Nat) (ops : Array Oper) (m : Nat) (A : Act)
  | rng (fn : Func) (l : Nat) (A : Act)
  | round (l : Nat) (d : Option Nat) (ops : Array Oper) (rest : List Oper) (A : Act)

def roC : List KC → Option Nat
  | [] => none
  | .seq _ :: C => roC C
  | .block _ :: C => roC C
  | .scp :: C => roC C
  | .loop _ :: C => roC C
  | .call .. :: _ => none
  | .callD .. :: _ => none
  | .rng .. :: _ => none
  | .round l _ _ _ _ :: _ => some l

def kpost (P : Program) (Q0 : Exit → Act → World → Prop) : List KC → Exit → Act → World → Prop
  | [] => Q0
  | .seq y :: C => Exit.then (y.wpIn (RF (roC C)) 0 P (kpost P Q0 C)) (kpost P Q0 C)
  | .block id :: C => Exit.inBlock id (kpost P Q0 C)
  | .scp :: C => Exit.noGoto (kpost P Q0 C)
  | .loop x :: C => Exit.then (hdIn (RF (roC C)) 0 P x (kpost P Q0 C)) (kpost P Q0 C)
  | .call fn d ops rest A :: C => bodyPostM (RF none) 0 P fn fun e w' => ∃ V, e = .returned V ∧ wpListIn (RF (roC C)) 0 P ops (kpost P Q0 C) rest (A.put d V) w'
  | .callD fn d ops m A :: C => bodyPostM (RF none) 0 P fn fun e w' => ∃ V, e = .returned V ∧ RestAt (roC C) P ops (kpost P Q0 C) m (A.put d V) w'
  | .rng fn l A :: C => bodyPostM (RF none) 0 P fn (rangePost (RF none) 0 P l (kpost P Q0 C) A)
  | .round l d ops rest A :: C => roundPost P l fun e w' => ∃ V, e = .returned V ∧ wpListIn (RF (roC C)) 0 P ops (kpost P Q0 C) rest (A.put d V) w'

def CfgSem (P : Program) (ro : Option Nat) (Q : Exit → Act → World → Prop) (A : Act) (w : World) : Cfg → Prop
  | .code c _ _ => c.wpIn (RF ro) 0 P Q A w
  | .head x _ _ => hdIn (RF ro) 0 P x Q A w
  | .ops ops rest _ _ => wpListIn (RF ro) 0 P ops Q rest A w
  | .opsD ops m _ _ => RestAt ro P ops Q m A w
  | .fin ex _ _ => Q (exitOf ex) A w

inductive KRel (ρ : Nat → Option Ent) (h : Heap) (w : World) (s : Nat) : List Fr → List KC → Nat → Prop where
  | nil {lo : Nat} : KRel ρ h w s [] [] lo
  | seq {y : Code} {K : List Fr} {C : List KC} {lo : Nat} (k : KRel ρ h w s K C lo) : KRel ρ h w s (.seq y :: K) (.seq y :: C) lo
  | block {id : Nat} {K : List Fr} {C : List KC} {lo : Nat} (k : KRel ρ h w s K C lo) : KRel ρ h w s (.block id :: K) (.block id :: C) lo
  | scp {K : List Fr} {C : List KC} {lo : Nat} (k : KRel ρ h w s K C lo) : KRel ρ h w s (.scp :: K) (.scp :: C) lo
  | loop {x : Code} {K : List Fr} {C : List KC} {lo : Nat} (k : KRel ρ h w s K C lo) : KRel ρ h w s (.loop x :: K) (.loop x :: C) lo
  | call {fn : Func} {d : Option Nat} {ops : Array Oper} {rest : List Oper} {a : Tmps} {A : Act} {K : List Fr} {C : List KC} {lo lo' : Nat} {DL : List Deferred} (F : FRel DL ρ a A) (M : Marks lo' DL ρ h w) (hs : s ≤ lo') (hlo : lo' ≤ lo)
      (hD : ∀ D, markOf D ∈ DL → D < lo) (k : KRel ρ h w s K C lo') : KRel ρ h w s (.call fn d ops rest a :: K) (.call fn d ops rest A :: C) lo
  | callD {fn : Func} {d : Option Nat} {ops : Array Oper} {m : Nat} {a : Tmps} {A : Act} {K : List Fr} {C : List KC} {lo lo' : Nat} {DL : List Deferred} (F : FRel DL ρ a A) (M : Marks lo' DL ρ h w) (hs : s ≤ lo') (hlo : lo' ≤ lo)
      (hD : ∀ D, markOf D ∈ DL → D < lo) (k : KRel ρ h w s K C lo') : KRel ρ h w s (.callD fn d ops m a :: K) (.callD fn d ops m A :: C) lo
  | rng {fn : Func} {b : Nat} {e : Ent} {a : Tmps} {A : Act} {K : List Fr} {C : List KC} {lo lo' : Nat} {DL : List Deferred} (F : FRel DL ρ a A) (M : Marks lo' DL ρ h w) (hs : s ≤ lo') (hlo : lo' ≤ lo)
      (hD : ∀ D, markOf D ∈ DL → D < lo) (he : ρ b = some e) (k : KRel ρ h w s K C lo') : KRel ρ h w s (.rng fn b a :: K) (.rng fn e.blk A :: C) lo
  | round {b : Nat} {d : Option Nat} {ops : Array Oper} {rest : List Oper} {e : Ent} {a : Tmps} {A : Act} {K : List Fr} {C : List KC} {lo lo' : Nat} {DL : List Deferred} (F : FRel DL ρ a A) (M : Marks lo' DL ρ h w) (hs : s ≤ lo') (hlo : lo' ≤ lo)
      (hD : ∀ D, markOf D ∈ DL → D < lo) (he : ρ b = some e) (k : KRel ρ h w s K C lo') : KRel ρ h w s (.round b d ops rest a :: K) (.round e.blk d ops rest A :: C) lo

theorem Marks.fresh {DL : List Deferred} {ρ : Nat → Option Ent} {h : Heap} {w : World} {lo : Nat} (M : Marks lo DL ρ h w) : Marks lo DL ρ h.fresh w := M

theorem KRel.good {ρ ρ' : Nat → Option Ent} {h h' : Heap} {w w' : World} {s : Nat} (G : Good ρ h w ρ' h' w') {K : List Fr} {C : List KC} {lo : Nat} (k : KRel ρ h w s K C lo) : KRel ρ' h'.fresh w' s K C lo := by
  induction k with
  | nil => exact .nil
  | seq _ ih => exact .seq ih
  | block _ ih => exact .block ih
  | scp _ ih => exact .scp ih
  | loop _ ih => exact .loop ih
  | call F M hs hlo hD _ ih => exact .call (F.ext G.ext) (M.good G).fresh hs hlo hD ih
  | callD F M hs hlo hD _ ih => exact .callD (F.ext G.ext) (M.good G).fresh hs hlo hD ih
  | rng F M hs hlo hD he _ ih => exact .rng (F.ext G.ext) (M.good G).fresh hs hlo hD (G.ext _ _ he) ih
  | round F M hs hlo hD he _ ih => exact .round (F.ext G.ext) (M.good G).fresh hs hlo hD (G.ext _ _ he) ih

theorem markOf_inj {D E : Nat} (h : markOf D = markOf E) : D = E := by
  simp only [markOf, Deferred.mk.injEq, and_true] at h
  injection h

theorem Marks.aside {DL : List Deferred} {ρ : Nat → Option Ent} {h : Heap} {w : World} {lo D : Nat} {o : Obj} (M : Marks lo DL ρ h w) (hD : markOf D ∉ DL) : Marks lo DL ρ h (w.putObj D o) := by
  obtain ⟨hl, Ds, rfl, hn, hk⟩ := M
  refine ⟨by simpa using hl, Ds, rfl, hn, fun E hE => ?_⟩
  obtain ⟨k1, k2, k3⟩ := hk E hE
  have : E ≠ D := fun q => hD (by rw [← q]; exact List.mem_map_of_mem hE)
  exact ⟨k1, by rw [World.putObj_heap_other this]; exact k2, k3⟩

theorem KRel.aside {ρ : Nat → Option Ent} {h : Heap} {w : World} {s : Nat} {o : Obj} {K : List Fr} {C : List KC} {lo : Nat} (k : KRel ρ h w s K C lo) {D : Nat} (hDlo : lo ≤ D) : KRel ρ h (w.putObj D o) s K C lo := by
  induction k with
  | nil => exact .nil
  | seq _ ih => exact .seq (ih hDlo)
  | block _ ih => exact .block (ih hDlo)
  | scp _ ih => exact .scp (ih hDlo)
  | loop _ ih => exact .loop (ih hDlo)
  | call F M hs hlo hD _ ih => exact .call F (M.aside (fun q => by have := hD D q; omega)) hs hlo hD (ih (by omega))
  | callD F M hs hlo hD _ ih => exact .callD F (M.aside (fun q => by have := hD D q; omega)) hs hlo hD (ih (by omega))
  | rng F M hs hlo hD he _ ih => exact .rng F (M.aside (fun q => by have := hD D q; omega)) hs hlo hD he (ih (by omega))
  | round F M hs hlo hD he _ ih => exact .round F (M.aside (fun q => by have := hD D q; omega)) hs hlo hD he (ih (by omega))

theorem TSub.frel {a1 a : Tmps} (B : TSub a1 a) {DL : List Deferred} {ρ : Nat → Option Ent} {A : Act} (F : FRel DL ρ a A) : FRel DL ρ a1 A :=
  ⟨fun t v hv => F.slot t v (B.slots t v hv), by rw [B.n]; exact F.n, F.defers, F.glob⟩
theorem HSub.srel {h1 h : Heap} (B : HSub h1 h) {ρ : Nat → Option Ent} {w : World} (S : SRel ρ h w) : SRel ρ h1 w :=
  ⟨fun i c hc => let ⟨d, hd, _⟩ := B.blks i c hc; S.dom i d hd, fun i p q => S.free i (by rw [← B.next]; exact p) (by rw [← B.lim]; exact q), fun i e b he hb => let ⟨d, hd, k⟩ := B.blks i b hb; k.brel (S.blks i e d he hd),
    fun i j e e' b b' hij he he' hb hb' hl hl' => let ⟨d, hd, k⟩ := B.blks i b hb; let ⟨d', hd', k'⟩ := B.blks j b' hb'; S.inj i j e e' d d' hij he he' hd hd' (by rw [← k.live]; exact hl) (by rw [← k'.solid]; exact hl')⟩
theorem HSub.marks {h1 h : Heap} (B : HSub h1 h) {lo : Nat} {DL : List Deferred} {ρ : Nat → Option Ent} {w : World} (M : Marks lo DL ρ h w) : Marks lo DL ρ h1 w := by
  obtain ⟨hl, Ds, h1', h2, h3⟩ := M
  exact ⟨hl, Ds, h1', h2, fun D hD => let ⟨k1, k2, k3⟩ := h3 D hD; ⟨k1, k2, fun i e b he hb hlb => let ⟨d, hd, k⟩ := B.blks i b hb; k3 i e d he hd (by rw [← k.solid]; exact hlb)⟩⟩
theorem HSub.krel {h1 h : Heap} (B : HSub h1 h) {ρ : Nat → Option Ent} {w : World} {s : Nat} {K1 K : List Fr} (hk : KSub K1 K) : ∀ {C : List KC} {lo : Nat}, KRel ρ h w s K C lo → KRel ρ h1 w s K1 C lo := by
  induction hk with
  | nil => intro C lo k; cases k; exact .nil
  | seq _ ih => intro C lo k; cases k with | seq k => exact .seq (ih k)
  | block _ ih => intro C lo k; cases k with | block k => exact .block (ih k)
  | scp _ ih => intro C lo k; cases k with | scp k => exact .scp (ih k)
  | loop _ ih => intro C lo k; cases k with | loop k => exact .loop (ih k)
  | call ha _ ih => intro C lo k; cases k with | call F M hs hlo hD k => exact .call (ha.frel F) (B.marks M) hs hlo hD (ih k)
  | callD ha _ ih => intro C lo k; cases k with | callD F M hs hlo hD k => exact .callD (ha.frel F) (B.marks M) hs hlo hD (ih k)
  | rng ha _ ih => intro C lo k; cases k with | rng F M hs hlo hD he k => exact .rng (ha.frel F) (B.marks M) hs hlo hD he (ih k)
  | round ha _ ih => intro C lo k; cases k with | round F M hs hlo hD he k => exact .round (ha.frel F) (B.marks M) hs hlo hD he (ih k)

theorem HRen.krel {τ : Nat → Option Nat} {h1 h : Heap} (B : HRen τ h1 h) (hlim : h1.lim = 1048576) {ρ : Nat → Option Ent} {w : World} {s : Nat} {K1 K : List Fr} (hk : KRen τ K1 K) : ∀ {C : List KC} {lo : Nat}, KRel ρ h w s K C lo → KRel (pull τ ρ) h1 w s K1 C lo := by
  have hg : ∀ b, 1048576 ≤ b → τ b = some b := fun b hb => B.glob b (by rw [hlim]; exact hb)
  induction hk with
  | nil => intro C lo k; cases k; exact .nil
  | seq _ ih => intro C lo k; cases k with | seq k => exact .seq (ih k)
  | block _ ih => intro C lo k; cases k with | block k => exact .block (ih k)
  | scp _ ih => intro C lo k; cases k with | scp k => exact .scp (ih k)
  | loop _ ih => intro C lo k; cases k with | loop k => exact .loop (ih k)
  | call ha _ ih => intro C lo k; cases k with | call F M hs hlo hD k => exact .call (ha.frel B.inj hg F) (B.marks M) hs hlo hD (ih k)
  | callD ha _ ih => intro C lo k; cases k with | callD F M hs hlo hD k => exact .callD (ha.frel B.inj hg F) (B.marks M) hs hlo hD (ih k)
  | rng hb ha _ ih => intro C lo k; cases k with | rng F M hs hlo hD he k => exact .rng (ha.frel B.inj hg F) (B.marks M) hs hlo hD (by rw [pull_of B.inj hb]; exact he) (ih k)
  | round hb ha _ ih => intro C lo k; cases k with | round F M hs hlo hD he k => exact .round (ha.frel B.inj hg F) (B.marks M) hs hlo hD (by rw [pull_of B.inj hb]; exact he) (ih k)

theorem HRen.since {τ : Nat → Option Nat} {h1 h : Heap} (B : HRen τ h1 h) {L : List (Nat × List AV)} {w0 w : World} {ρ : Nat → Option Ent} (I : Since L w0 ρ h w) (hl : Vars L h1) : Since L w0 (pull τ ρ) h1 w := by
  refine ⟨I.below, by rw [B.lim]; exact I.lim, B.nextLe, hl, fun g c hg => ?_, fun j e b he hb hlb => ?_⟩
  · obtain ⟨k, hk⟩ := I.ents g c hg
    exact ⟨k, by rw [pull_of B.inj (B.glob _ (by rw [B.lim, I.lim]; exact Nat.le_add_right _ _))]; exact hk⟩
  · obtain ⟨o, d, q1, q2, q3⟩ := B.blks j b hb
    rw [pull_of B.inj q1] at he
    exact I.img o e d he q2 (by rw [← q3.live]; exact hlb)

theorem KRel.ro {ρ : Nat → Option Ent} {h : Heap} {w : World} {s : Nat} {K : List Fr} {C : List KC} {lo : Nat} (k : KRel ρ h w s K C lo) : inR K = false → roC C = none := by
  induction k with
  | nil => intro _; rfl
  | seq _ ih => exact ih
  | block _ ih => exact ih
  | scp _ ih => exact ih
  | loop _ ih => exact ih
  | call => intro _; rfl
  | callD => intro _; rfl
  | rng => intro _; rfl
  | round => intro h; cases h

theorem KSub.inR {K1 K : List Fr} (h : KSub K1 K) : inR K1 = inR K := by
  induction h with
  | nil => rfl
  | seq _ ih => exact ih
  | block _ ih => exact ih
  | scp _ ih => exact ih
  | loop _ ih => exact ih
  | call => rfl
  | callD => rfl
  | rng => rfl
  | round => rfl

theorem HSub.since {h1 h : Heap} (B : HSub h1 h) {L : List (Nat × List AV)} {w0 w : World} {ρ : Nat → Option Ent} (I : Since L w0 ρ h w) (hl : ∀ g x, assocL L g = some x → h1.t.get (1048576 + g) = some (.ro x)) : Since L w0 ρ h1 w :=
  ⟨I.below, by rw [B.lim]; exact I.lim, by rw [B.lim, B.next]; exact I.nextLe, hl, I.ents, fun i e b he hb hlb => let ⟨d, hd, k⟩ := B.blks i b hb; I.img i e d he hd (by rw [← k.live]; exact hlb)⟩

theorem Since.step {L : List (Nat × List AV)} {w0 w w' : World} {ρ ρ' : Nat → Option Ent} {h h' : Heap} (I : Since L w0 ρ h w) (S : SRel ρ h w) (G : Good ρ h w ρ' h' w') (hu : unwritten L h'.wr = true) : Since L w0 ρ' h'.fresh w' := by
  obtain ⟨h1, h2, h3, h4, h5⟩ := I.good S G hu
  refine ⟨h1, h2, h3, fun g c hg => ?_, h4, h5⟩
  show h'.t.get (1048576 + g) = _
  rw [G.same _ (unwritten_ok hu g c hg) (by omega)]
  exact I.vars g c hg

theorem Since.aside {L : List (Nat × List AV)} {w0 w : World} {ρ : Nat → Option Ent} {h : Heap} {D : Nat} {o : Obj} (I : Since L w0 ρ h w) (hD : w0.heap.size ≤ D) : Since L w0 ρ h (w.putObj D o) :=
  ⟨⟨I.below.os, I.below.tape, I.below.output, by simpa using I.below.size, fun k hk => by rw [World.putObj_heap_other (by omega)]; exact I.below.block k hk⟩, I.lim, I.nextLe, I.vars, I.ents, I.img⟩

theorem leaves_post {P : Program} {DL : List Deferred} {ρ : Nat → Option Ent} {h : Heap} {a : Tmps} {A : Act} {fn : Func} {v : AV} (F : FRel DL ρ a A) (hv : resultsA P fn h a = some v) {lo : Nat} {I : World → Prop} {Post : Ending → World → Prop}
    (hI : ∀ D w, lo ≤ D → I w → I (w.putObj D (.deferred none))) (hPost : ∀ V w, SRel ρ h w → I w → Rel ρ v V → Post (.returned V) w) :
    ∀ (Ds : List Nat) (w : World), SRel ρ h w → I w → Ds.Nodup → (∀ D, D ∈ Ds → lo ≤ D ∧ w.heap[D]? = some (.deferred (some [])) ∧
      ∀ (i : Nat) (e : Ent) (b : Blk), ρ i = some e → h.t.get i = some b → b.solid = true → e.blk ≠ D) →
      LeavesInM (RF none) 0 P fn A.tmps Post (Ds.map markOf) .returning w
  | [], w, S, hi, _, _ => by
    obtain ⟨V, k1, k2⟩ := resultsA_run S F hv
    exact ⟨V, k1, hPost V w S hi k2⟩
  | D :: Ds, w, S, hi, hn, hD => by
    obtain ⟨k1, k2, k3⟩ := hD D (List.mem_cons_self)
    have hnd := List.nodup_cons.1 hn
    refine ⟨by simp, .inl ⟨D, w.putObj D (.deferred none), rfl, run_takeDeferred k2, ?_⟩⟩
    refine leaves_post F hv hI hPost Ds _ (S.aside k3) (hI D w k1 hi) hnd.2 (fun E hE => ?_)
    obtain ⟨q1, q2, q3⟩ := hD E (List.mem_cons_of_mem _ hE)
    exact ⟨q1, by rw [World.putObj_heap_other (fun q => hnd.1 (by rw [← q]; exact hE))]; exact q2, q3⟩

theorem SRel.fresh {ρ : Nat → Option Ent} {h : Heap} {w : World} (S : SRel ρ h w) : SRel ρ h.fresh w := ⟨S.dom, S.free, S.blks, S.inj⟩

theorem cfg_sound {P : Program} (hP : okProg P = true) {fnTop : Func} {L : List (Nat × List AV)} {v0 : AV} (hv0 : pureAV v0 = true) {w0 : World} {K : List Fr} {cfg : Cfg} (hr : Run P fnTop L v0 K cfg) :
    ∀ {ρ : Nat → Option Ent} {w : World} {A : Act} {C : List KC} {DL : List Deferred} {lo : Nat}, SRel ρ cfg.h w → FRel DL ρ cfg.a A → Marks lo DL ρ cfg.h w → w0.heap.size ≤ lo → Since L w0 ρ cfg.h w → KRel ρ cfg.h w w0.heap.size K C lo →
      CfgSem P (roC C) (kpost P (bodyPostM (RF none) 0 P fnTop fun e w' => ∃ V, e = .returned V ∧ Rel (fun _ => none) v0 V ∧ Below w0.heap.size w0 w') C) A w cfg := by
  induction hr with
  | exec hn hr hu _ ih =>
    intro ρ w A C DL lo S F M hlo I k
    refine code_sound hP _ (roC C) _ _ _ _ _ _ hr (hn.imp k.ro id) lo DL ρ w A S F M _ (fun DL' ρ' w' A' S' G' F' M' => ?_)
    exact ih S'.fresh F' M'.fresh hlo (I.step S G' hu) (k.good G')
  | seq _ ih =>
    intro ρ w A C DL lo S F M hlo I k
    exact wpIn_seq (ih S F M hlo I (.seq k))
  | block _ ih =>
    intro ρ w A C DL lo S F M hlo I k
    exact wpIn_block (ih S F M hlo I (.block k))
  | scope hin _ ih =>
    intro ρ w A C DL lo S F M hlo I k
    have q := ih S F M hlo I (.scp k)
    simp only [CfgSem, roC, kpost] at q ⊢
    rw [k.ro hin] at q ⊢
    exact wpIn_wide.2 (wp_scope_straight (wpIn_wide.1 q))
  | loop _ ih =>
    intro ρ w A C DL lo S F M hlo I k
    exact loop_of_hd (ih S F M hlo I k)
  | head _ ih =>
    intro ρ w A C DL lo S F M hlo I k
    exact hd_of (ih S F M hlo I (.loop k))
  | condT hc _ ih =>
    intro ρ w A C DL lo S F M hlo I k
    have hb := evalA_rel F hc
    simp only [Rel] at hb
    exact wpIn_cond_true hb (ih S F M hlo I k)
  | condF hc _ ih =>
    intro ρ w A C DL lo S F M hlo I k
    have hb := evalA_rel F hc
    simp only [Rel] at hb
    exact wpIn_cond_false hb (ih S F M hlo I k)
  | region _ ih =>
    intro ρ w A C DL lo S F M hlo I k
    exact wpIn_region_list (ih S F M hlo I k)
  | @drawn n K id ops pre post ms es fin a h hops hm hms hdr hchk hmask hu _ ih =>
    intro ρ w A C DL lo S F M hlo I k
    exact drawL_sound (roC C) hP (code_sound hP n) (code_lim P n) hops hm hms hdr hchk hmask S F (fun ρ' w' A' S' G' F' => ih S'.fresh F' (M.good G').fresh hlo (I.step S G' hu) (k.good G'))
  | @drawnC n K id ops pre post ms cs b fs es fin a h hops hm hms hdr hb hF hchk hmask hu _ ih =>
    intro ρ w A C DL lo S F M hlo I k
    exact drawL_of (roC C) hP (code_sound hP n) (code_lim P n) hops hm hms (drawC_spec hP (code_sound hP n) (code_lim P n) pre cs [] es h.next fin b fs hdr hb hF) hchk hmask S F (fun ρ' w' A' S' G' F' => ih S'.fresh F' (M.good G').fresh hlo (I.step S G' hu) (k.good G'))
  | one ho hu _ ih =>
    intro ρ w A C DL lo S F M hlo I k
    refine wpListIn_step fun K' hK => one_sound hP (code_sound hP _) (roC C) ho S F (fun ρ1 w1 V S1 G1 R1 => hK _ _ ?_)
    exact ih S1.fresh ((F.ext G1.ext).put R1 _) (M.good G1).fresh hlo (I.step S G1 hu) (k.good G1)
  | @enter K ops o rest a h f args fn body hw hl ho hf hb _ ih =>
    intro ρ w A C DL lo S F M hlo I k
    refine wpListIn_step fun K' hK => ?_
    have hab : ∀ f, o.about P w A.eval = some f → (RF (roC C)).fn f := fun _ _ => trivial
    rw [if_pos (wanted_eq F ops o hw)]
    refine ⟨hab, ?_⟩
    obtain ⟨vs, k1, k2⟩ := op_sound S hl F ho
    rw [semAt_ok ho, k2, callFunc_run hP hf hb, Oper.uponIn_enter]
    refine ⟨(fun q => (by cases q)), ?_⟩
    have hlt : lo ≤ w.heap.size := M.1
    have hD : ∀ D, markOf D ∈ DL → D < w.heap.size := by
      intro D hm
      obtain ⟨_, Ds, rfl, _, h3⟩ := M
      obtain ⟨E, hE, hq⟩ := List.mem_map.1 hm
      have := markOf_inj hq; subst this
      exact heap_lt (h3 _ hE).2.1
    have hC : CallsIn (RF none) 0 P f vs.toArray w fun e w' => ∃ V, e = .returned V ∧ wpListIn (RF (roC C)) 0 P ops (kpost P (bodyPostM (RF none) 0 P fnTop fun e w' => ∃ V, e = .returned V ∧ Rel (fun _ => none) v0 V ∧ Below w0.heap.size w0 w') C) rest (A.put o.dst V) w' :=
      callsIn_of_wp_marks hf hb trivial (ih (C := .call fn o.dst ops rest A :: C) S (frame_enter F.glob k1 fn.ntmps) (Marks.none (Nat.le_refl _)) (Nat.le_trans hlo hlt) I (.call F M hlo hlt hD k))
    have hC' : CallsIn (RF (roC C)) 0 P f vs.toArray w fun e w' => ∃ V, e = .returned V ∧ wpListIn (RF (roC C)) 0 P ops (kpost P (bodyPostM (RF none) 0 P fnTop fun e w' => ∃ V, e = .returned V ∧ Rel (fun _ => none) v0 V ∧ Below w0.heap.size w0 w') C) rest (A.put o.dst V) w' := hC
    refine hC'.mono ?_
    rintro e w' ⟨V, rfl, hw'⟩
    exact hK _ _ hw'
  | @use K ops o rest a h f bs M args args' v hw hl ho hm hM hF hu _ ih =>
    intro ρ w A C DL lo S F M hlo I k
    refine wpListIn_step fun K' hK => ?_
    have hab : ∀ f, o.about P w A.eval = some f → (RF (roC C)).fn f := fun _ _ => trivial
    rw [if_pos (wanted_eq F ops o hw)]
    refine ⟨hab, ?_⟩
    obtain ⟨vs, k1, k2⟩ := op_sound S hl F ho
    obtain ⟨fn, body, hf, hb, hC⟩ := fact_use hF hm hM S F.glob (fun g x hg => I.vars g x (progVars_ok hg)) k1
    rw [semAt_ok ho, k2, callFunc_run hP hf hb, Oper.uponIn_enter]
    refine ⟨(fun q => (by cases q)), ?_⟩
    have hC' : CallsIn (RF (roC C)) 0 P f vs.toArray w (CallRes ρ h w v h) := hC
    refine hC'.mono ?_
    rintro e w' ⟨V, ρ', rfl, q1, q2, q3⟩
    exact hK _ _ (ih q2.fresh ((F.ext q3.ext).put q1 _) (M.good q3).fresh hlo (I.step S q3 hu) (k.good q3))
  | @regionD K id ops a h hm hu _ ih =>
    intro ρ w A C DL lo S F M hlo I k
    have G : Good ρ h w ρ h w.drew := ⟨Ext.refl _, rfl, rfl, rfl, Nat.le_refl _, fun _ _ _ => rfl, fun i e b h1 h2 h3 => .inl ⟨i, e, b, h1, h2, h3, _root_.id, rfl⟩, Nat.le_refl _, rfl, fun h => h, fun b hb => hb, fun b _ _ => rfl, fun b c hc => ⟨c, hc⟩, fun b c hc => .inl ⟨c, hc⟩, fun b e he => .inl he, fun _ _ _ _ _ _ _ _ _ => rfl⟩
    exact region_rest (roC C) hm (ih S.drew.fresh F (M.good G).fresh hlo (I.step S G hu) (k.good G))
  | @segC n K ops m pre seg post ms cs b fs es fin a h hops hpre hms hdr hb hF hchk hmask hu _ ih =>
    intro ρ w A C DL lo S F M hlo I k
    exact rest_seg (roC C) hP (code_sound hP n) hops hpre hms (drawC_spec hP (code_sound hP n) (code_lim P n) seg cs _ es h.next fin b fs hdr hb hF) hchk hmask S F (fun ρ' w' A' S' G' F' => ih S'.fresh F' (M.good G').fresh hlo (I.step S G' hu) (k.good G'))
  | oneD hms hoj hsg ho hu _ ih =>
    intro ρ w A C DL lo S F M hlo I k
    refine rest_one (roC C) (masks_ok hms) hoj hsg (fun K' hK => one_sound hP (code_sound hP _) (roC C) ho S F (fun ρ1 w1 V S1 G1 R1 => hK _ _ ?_))
    exact ih S1.fresh ((F.ext G1.ext).put R1 _) (M.good G1).fresh hlo (I.step S G1 hu) (k.good G1)
  | @enterD K ops m ms o a h f args fn body hms hoj hsg hw hl ho hf hb _ ih =>
    intro ρ w A C DL lo S F M hlo I k
    refine rest_one (roC C) (masks_ok hms) hoj hsg (fun K' hK => ?_)
    have hab : ∀ f, o.about P w A.eval = some f → (RF (roC C)).fn f := fun _ _ => trivial
    rw [if_pos (wanted_eq F ops o hw)]
    refine ⟨hab, ?_⟩
    obtain ⟨vs, k1, k2⟩ := op_sound S hl F ho
    rw [semAt_ok ho, k2, callFunc_run hP hf hb, Oper.uponIn_enter]
    refine ⟨(fun q => (by cases q)), ?_⟩
    have hlt : lo ≤ w.heap.size := M.1
    have hD : ∀ D, markOf D ∈ DL → D < w.heap.size := by
      intro D hm
      obtain ⟨_, Ds, rfl, _, h3⟩ := M
      obtain ⟨E, hE, hq⟩ := List.mem_map.1 hm
      have := markOf_inj hq; subst this
      exact heap_lt (h3 _ hE).2.1
    have hC : CallsIn (RF none) 0 P f vs.toArray w fun e w' => ∃ V, e = .returned V ∧ RestAt (roC C) P ops (kpost P (bodyPostM (RF none) 0 P fnTop fun e w' => ∃ V, e = .returned V ∧ Rel (fun _ => none) v0 V ∧ Below w0.heap.size w0 w') C) (m + 1) (A.put o.dst V) w' :=
      callsIn_of_wp_marks hf hb trivial (ih (C := .callD fn o.dst ops (m + 1) A :: C) S (frame_enter F.glob k1 fn.ntmps) (Marks.none (Nat.le_refl _)) (Nat.le_trans hlo hlt) I (.callD F M hlo hlt hD k))
    have hC' : CallsIn (RF (roC C)) 0 P f vs.toArray w fun e w' => ∃ V, e = .returned V ∧ RestAt (roC C) P ops (kpost P (bodyPostM (RF none) 0 P fnTop fun e w' => ∃ V, e = .returned V ∧ Rel (fun _ => none) v0 V ∧ Below w0.heap.size w0 w') C) (m + 1) (A.put o.dst V) w' := hC
    refine hC'.mono ?_
    rintro e w' ⟨V, rfl, hw'⟩
    exact hK _ _ hw'
  | @useD K ops m ms o a h f bs M args args' v hms hoj hsg hw hl ho hm hM hF hu _ ih =>
    intro ρ w A C DL lo S F M hlo I k
    refine rest_one (roC C) (masks_ok hms) hoj hsg (fun K' hK => ?_)
    have hab : ∀ f, o.about P w A.eval = some f → (RF (roC C)).fn f := fun _ _ => trivial
    rw [if_pos (wanted_eq F ops o hw)]
    refine ⟨hab, ?_⟩
    obtain ⟨vs, k1, k2⟩ := op_sound S hl F ho
    obtain ⟨fn, body, hf, hb, hC⟩ := fact_use hF hm hM S F.glob (fun g x hg => I.vars g x (progVars_ok hg)) k1
    rw [semAt_ok ho, k2, callFunc_run hP hf hb, Oper.uponIn_enter]
    refine ⟨(fun q => (by cases q)), ?_⟩
    have hC' : CallsIn (RF (roC C)) 0 P f vs.toArray w (CallRes ρ h w v h) := hC
    refine hC'.mono ?_
    rintro e w' ⟨V, ρ', rfl, q1, q2, q3⟩
    exact hK _ _ (ih q2.fresh ((F.ext q3.ext).put q1 _) (M.good q3).fresh hlo (I.step S q3 hu) (k.good q3))
  | opsEndD hm _ ih =>
    intro ρ w A C DL lo S F M hlo I k
    exact rest_end (roC C) hm (ih S F M hlo I k)
  | opsEnd _ ih =>
    intro ρ w A C DL lo S F M hlo I k
    exact ih S F M hlo I k
  | @rangeM K ops o rest a h ty x m clk es hw hl ho ht hx hm hu _ ih =>
    intro ρ w A C DL lo S F M hlo I k
    refine wpListIn_step fun K' hK => ?_
    rw [if_pos (wanted_eq F ops o hw)]
    refine ⟨fun _ _ => trivial, ?_⟩
    obtain ⟨w', k1, S1, G1, R1⟩ := range_run S hl F ho ht hx hm
    rw [Oper.semAt_eq (RF (roC C)).round A.eval o (fun c hc => by rw [ho] at hc; cases hc), k1]
    exact hK _ _ (ih S1.fresh ((F.ext G1.ext).put R1 _) (M.good G1).fresh hlo (I.step S G1 hu) (k.good G1))
  | @nextM K ops o rest a h x b m clk Sn es hw ho hx hb hm hc hu _ _ ih0 ih1 =>
    intro ρ w A C DL lo S F M hlo I k
    refine wpListIn_step fun K' hK => ?_
    rw [if_pos (wanted_eq F ops o hw)]
    refine ⟨fun _ _ => trivial, ?_⟩
    rw [Oper.semAt_eq (RF (roC C)).round A.eval o (fun c hc => by rw [ho] at hc; cases hc)]
    rcases next_run S F ho hx hb hm hc with ⟨q, k1⟩ | ⟨e, w', V, he, hs, k1, S1, G1, R1⟩
    · rw [k1]
      exact hK _ _ (ih0 q S (F.put (rel_over ρ) _) M hlo I k)
    · rw [k1]
      exact hK _ _ (ih1 e he hs S1.fresh ((F.ext G1.ext).put R1 _) (M.good G1).fresh hlo (I.step S G1 hu) (k.good G1))
  | @entryM K ops o rest a h x b m clk n Sn es e hw ho hx hb hm hf hu _ ih =>
    intro ρ w A C DL lo S F M hlo I k
    refine wpListIn_step fun K' hK => ?_
    rw [if_pos (wanted_eq F ops o hw)]
    refine ⟨fun _ _ => trivial, ?_⟩
    rw [Oper.semAt_eq (RF (roC C)).round A.eval o (fun c hc => by rw [ho] at hc; cases hc)]
    obtain ⟨V, k1, R1⟩ := entry_run S F ho hx hb hm hf
    rw [k1]
    exact hK _ _ (ih S.fresh (F.put R1 _) (M.good (Good.refl _ _ _)).fresh hlo (I.step S (Good.refl _ _ _) hu) (k.good (Good.refl _ _ _)))
  | finSeq _ ih =>
    intro ρ w A C DL lo S F M hlo I k
    cases k with | seq k => exact ih S F M hlo I k
  | @finSeqX _ _ ex _ _ hx _ ih =>
    intro ρ w A C DL lo S F M hlo I k
    cases k with
    | seq k =>
      have := ih S F M hlo I k
      cases ex with
      | normal => exact absurd rfl hx
      | exit id => exact this
      | ret => exact this
      | goto l => exact this
  | finBlock _ ih =>
    intro ρ w A C DL lo S F M hlo I k
    cases k with
    | block k =>
      have := ih S F M hlo I k
      simp only [CfgSem, kpost, exitOf, Exit.inBlock, if_true]
      exact this
  | @finBlockX _ id ex _ _ hx _ ih =>
    intro ρ w A C DL lo S F M hlo I k
    cases k with
    | block k =>
      have := ih S F M hlo I k
      cases ex with
      | normal => exact this
      | exit id' =>
        have hne : id' ≠ id := fun q => hx (by rw [q])
        simp only [CfgSem, kpost, exitOf, Exit.inBlock, if_neg hne]
        exact this
      | ret => exact this
      | goto l => exact this
  | @finScp _ ex _ _ hx _ ih =>
    intro ρ w A C DL lo S F M hlo I k
    cases k with
    | scp k =>
      have := ih S F M hlo I k
      cases ex with
      | normal => exact this
      | exit id => exact this
      | ret => exact this
      | goto l => exact absurd rfl (hx l)
  | finLoop _ ih =>
    intro ρ w A C DL lo S F M hlo I k
    cases k with | loop k => exact ih S F M hlo I k
  | @finLoopX _ _ ex _ _ hx _ ih =>
    intro ρ w A C DL lo S F M hlo I k
    cases k with
    | loop k =>
      have := ih S F M hlo I k
      cases ex with
      | normal => exact absurd rfl hx
      | exit id => exact this
      | ret => exact this
      | goto l => exact this
  | @finCall K fn d ops rest a0 a h ex v hx hv _ ih =>
    intro ρ w A C DL lo S F M hlo I k
    cases k with
    | @call _ _ _ _ _ A0 _ C _ lo' DL0 F0 M0 hs hlo' hD k =>
      obtain ⟨_, Ds, rfl, hn, hDs⟩ := M
      have key := leaves_post (lo := lo) (I := fun w => Since L w0 ρ h w ∧ Marks lo' DL0 ρ h w ∧ KRel ρ h w w0.heap.size K C lo')
        (Post := fun e w' => ∃ V, e = .returned V ∧ wpListIn (RF (roC C)) 0 P ops (kpost P (bodyPostM (RF none) 0 P fnTop fun e w' => ∃ V, e = .returned V ∧ Rel (fun _ => none) v0 V ∧ Below w0.heap.size w0 w') C) rest (A0.put d V) w')
        F hv (fun D w hD' hI => ⟨hI.1.aside (by omega), hI.2.1.aside (fun q => by have := hD D q; omega), hI.2.2.aside (by omega)⟩)
        (fun V w S' hI hV => ⟨V, rfl, ih S' (F0.put hV d) hI.2.1 hs hI.1 hI.2.2⟩) Ds w S ⟨I, M0, k⟩ hn hDs
      rw [← F.defers] at key
      rcases hx with rfl | rfl <;> exact key
  | @finCallD K fn d ops m a0 a h ex v hx hv _ ih =>
    intro ρ w A C DL lo S F M hlo I k
    cases k with
    | @callD _ _ _ _ _ A0 _ C _ lo' DL0 F0 M0 hs hlo' hD k =>
      obtain ⟨_, Ds, rfl, hn, hDs⟩ := M
      have key := leaves_post (lo := lo) (I := fun w => Since L w0 ρ h w ∧ Marks lo' DL0 ρ h w ∧ KRel ρ h w w0.heap.size K C lo')
        (Post := fun e w' => ∃ V, e = .returned V ∧ RestAt (roC C) P ops (kpost P (bodyPostM (RF none) 0 P fnTop fun e w' => ∃ V, e = .returned V ∧ Rel (fun _ => none) v0 V ∧ Below w0.heap.size w0 w') C) m (A0.put d V) w')
        F hv (fun D w hD' hI => ⟨hI.1.aside (by omega), hI.2.1.aside (fun q => by have := hD D q; omega), hI.2.2.aside (by omega)⟩)
        (fun V w S' hI hV => ⟨V, rfl, ih S' (F0.put hV d) hI.2.1 hs hI.1 hI.2.2⟩) Ds w S ⟨I, M0, k⟩ hn hDs
      rw [← F.defers] at key
      rcases hx with rfl | rfl <;> exact key
  | @range K f ps asg body gb a h g first cap fn hin hf hlt hg hb hu _ ih =>
    intro ρ w A C DL lo S F M hlo I k
    simp only [CfgSem]
    rw [k.ro hin]
    have hfr := evalA_rel F hf
    simp only [Rel] at hfr
    obtain ⟨g', xs, ys, hg', hxs, hys, hev⟩ := hfr
    have hg' : g' = .func g := hg'
    subst hg'
    refine wpIn_rangeFunc (fun fr _ => ?_)
    obtain ⟨S0, G0⟩ := alloc_aside S (.deferred (some []))
    let rec0 : Loop := { state := .ready, pending := none, fn := fr, tmps := A.tmps, params := ps, assign := asg, body, defers := w.heap.size }
    have hs0 : (w.alloc (.deferred (some []))).heap.size = w.heap.size + 1 := by simp
    have S1 : SRel (upd ρ h.next ⟨w.heap.size + 1, 0, 0⟩) (h.push (.loop ps.toList asg body a none)) ((w.alloc (.deferred (some []))).alloc (.loop rec0)) := by
      refine S0.push hlt (fun i x c hx hc hl => ?_) ⟨rec0, ?_, rfl, rfl, rfl, fun t u hu => Rel.ext (Ext.push _ (S.unmapped hlt)) _ (F.slot t u hu), F.n, rfl, rfl⟩
      · have := (S0.blks i x c hx hc).lt hl
        refine ⟨by show ((w.alloc (.deferred (some []))).heap.push _)[x.blk]? = _; rw [Array.getElem?_push, if_neg (by omega)], ?_⟩
        simp only; omega
      · have := World.alloc_heap_new (w.alloc (.deferred (some []))) (.loop rec0)
        rw [hs0] at this; exact this
    have G1 : Good ρ h (w.alloc (.deferred (some []))) (upd ρ h.next ⟨w.heap.size + 1, 0, 0⟩) (h.push (.loop ps.toList asg body a none)) ((w.alloc (.deferred (some []))).alloc (.loop rec0)) :=
      Good.push S0 hlt (by simp) (fun k hk => by show ((w.alloc (.deferred (some []))).heap.push _)[k]? = _; rw [Array.getElem?_push, if_neg (by omega)]) (by simp) rfl rfl rfl
    have hnew : upd ρ h.next ⟨w.heap.size + 1, 0, 0⟩ h.next = some ⟨w.heap.size + 1, 0, 0⟩ := upd_same _ _ _
    have hargs : RelL (upd ρ h.next ⟨w.heap.size + 1, 0, 0⟩) (first ++ [.fn (.yield h.next) [] []] ++ cap) (xs ++ [Value.func (.yield (w.heap.size + 1)) #[] #[]] ++ ys) := by
      refine ((RelL.ext G1.ext _ hxs).append ?_).append (RelL.ext G1.ext _ hys)
      simp only [RelL, Rel]
      exact ⟨_, [], ⟨.yield (w.heap.size + 1), [], [], ⟨_, hnew, rfl⟩, rfl, rfl, rfl⟩, rfl, rfl⟩
    have G01 := G0.trans G1
    have hM1 : Marks lo (markOf w.heap.size :: DL) ρ h (w.alloc (.deferred (some []))) := by
      obtain ⟨hl, Ds, rfl, hn, hD⟩ := M
      refine ⟨by omega, w.heap.size :: Ds, rfl, List.nodup_cons.2 ⟨fun hm => ?_, hn⟩, fun D hm => ?_⟩
      · have := heap_lt (hD _ hm).2.1; omega
      · rcases List.mem_cons.1 hm with rfl | hm
        · refine ⟨hl, World.alloc_heap_new w _, fun i e b he hb hlb => ?_⟩
          have := (S.blks i e b he hb).lt hlb; omega
        · obtain ⟨k1, k2, k3⟩ := hD D hm
          refine ⟨k1, ?_, k3⟩
          have := heap_lt k2
          show (w.heap.push _)[D]? = _
          rw [Array.getElem?_push, if_neg (by omega)]; exact k2
    have hM2 := (hM1.good G1).fresh
    have F2 : FRel (markOf w.heap.size :: DL) (upd ρ h.next ⟨w.heap.size + 1, 0, 0⟩) a { A with defers := [markOf w.heap.size] ++ A.defers } := by
      have F' := F.ext G01.ext
      exact ⟨F'.slot, F'.n, by simp [F.defers], F'.glob⟩
    have hsz2 : ((w.alloc (.deferred (some []))).alloc (.loop rec0)).heap.size = w.heap.size + 2 := by simp
    have hD2 : ∀ D, markOf D ∈ (markOf w.heap.size :: DL) → D < ((w.alloc (.deferred (some []))).alloc (.loop rec0)).heap.size := by
      intro D hm
      rw [hsz2]
      rcases List.mem_cons.1 hm with hq | hm
      · have := markOf_inj hq; omega
      · obtain ⟨_, Ds, hq, _, h3⟩ := M
        rw [hq] at hm
        obtain ⟨E, hE, hq2⟩ := List.mem_map.1 hm
        have := markOf_inj hq2; subst this
        have := heap_lt (h3 _ hE).2.1; omega
    have hlt1 : lo ≤ w.heap.size := M.1
    have I1 := I.step S G01 hu
    have hC : CallsIn (RF none) 0 P g (xs ++ [Value.func (.yield (w.heap.size + 1)) #[] #[]] ++ ys).toArray ((w.alloc (.deferred (some []))).alloc (.loop rec0))
        (rangePost (RF none) 0 P (w.heap.size + 1) (kpost P (bodyPostM (RF none) 0 P fnTop fun e w' => ∃ V, e = .returned V ∧ Rel (fun _ => none) v0 V ∧ Below w0.heap.size w0 w') C) { A with defers := [markOf w.heap.size] ++ A.defers }) :=
      callsIn_of_wp_marks hg hb trivial (ih (C := .rng fn (w.heap.size + 1) { A with defers := [markOf w.heap.size] ++ A.defers } :: C) S1.fresh (frame_enter F2.glob hargs fn.ntmps) (Marks.none (Nat.le_refl _)) (by rw [hsz2]; omega) I1
        (.rng (e := ⟨w.heap.size + 1, 0, 0⟩) F2 hM2 hlo (by rw [hsz2]; omega) hD2 hnew (k.good G01)))
    refine ⟨w.heap.size + 1, [markOf w.heap.size], (w.alloc (.deferred (some []))).alloc (.loop rec0), { target := .fn (.func g) ys.toArray, args := xs.toArray ++ #[Value.func (.yield (w.heap.size + 1)) #[] #[]] },
      (w.alloc (.deferred (some []))).alloc (.loop rec0), g, (xs ++ [Value.func (.yield (w.heap.size + 1)) #[] #[]] ++ ys).toArray, (w.alloc (.deferred (some []))).alloc (.loop rec0), ?_, ?_, fun _ _ => trivial, ?_, (fun q => (by cases q)), hC⟩
    · exact run_enterLoop_outer fr A.tmps ps asg body
    · have ec : A.eval (.const (.func (.yield (w.heap.size + 1)) #[] #[])) = .func (.yield (w.heap.size + 1)) #[] #[] := rfl
      simp [resolve, rangeCall, hev, Deferred.ofValue, ec]
    · simp only [invoke]
      have e : (xs.toArray ++ #[Value.func (.yield (w.heap.size + 1)) #[] #[]]) ++ ys.toArray = (xs ++ [Value.func (.yield (w.heap.size + 1)) #[] #[]] ++ ys).toArray := by simp
      rw [e]; exact callFunc_run hP hg hb _ _
  | @finRngN K fn b a0 a t h ex v ps asg body hx hv hb hu _ ih =>
    intro ρ w A C DL lo S F M hlo I k
    cases k with
    | @rng _ _ e _ A0 _ C _ lo' DL0 F0 M0 hs hlo' hD he k =>
      obtain ⟨_, Ds, rfl, hn, hDs⟩ := M
      have key := leaves_post (lo := lo) (I := fun w => Since L w0 ρ h w ∧ Marks lo' DL0 ρ h w ∧ KRel ρ h w w0.heap.size K C lo')
        (Post := rangePost (RF none) 0 P e.blk (kpost P (bodyPostM (RF none) 0 P fnTop fun e w' => ∃ V, e = .returned V ∧ Rel (fun _ => none) v0 V ∧ Below w0.heap.size w0 w') C) A0)
        F hv (fun D w hD' hI => ⟨hI.1.aside (by omega), hI.2.1.aside (fun q => by have := hD D q; omega), hI.2.2.aside (by omega)⟩)
        (fun V w S' hI hV => by
          obtain ⟨q, q1, _, _, _, _, _, q7⟩ := S'.blks _ _ _ he hb
          have hd := loop_dead (o := .loop { q with state := .exhausted }) S' hb he
          refine ⟨q.pending, _, run_endLoop (P := P) q1 (by rw [q7.1]; simp), ?_⟩
          split
          · exact ih hd.1.fresh F0 (hI.2.1.good hd.2).fresh hs (hI.1.step S' hd.2 hu) (hI.2.2.good hd.2)
          · rename_i c hc
            rw [q7.2] at hc; cases hc) Ds w S ⟨I, M0, k⟩ hn hDs
      rw [← F.defers] at key
      rcases hx with rfl | rfl <;> exact key
  | @finRngX K fn b a0 a t h ex ex' v ps asg body hx hv hb hu _ ih =>
    intro ρ w A C DL lo S F M hlo I k
    cases k with
    | @rng _ _ e _ A0 _ C _ lo' DL0 F0 M0 hs hlo' hD he k =>
      obtain ⟨_, Ds, rfl, hn, hDs⟩ := M
      have key := leaves_post (lo := lo) (I := fun w => Since L w0 ρ h w ∧ Marks lo' DL0 ρ h w ∧ KRel ρ h w w0.heap.size K C lo')
        (Post := rangePost (RF none) 0 P e.blk (kpost P (bodyPostM (RF none) 0 P fnTop fun e w' => ∃ V, e = .returned V ∧ Rel (fun _ => none) v0 V ∧ Below w0.heap.size w0 w') C) A0)
        F hv (fun D w hD' hI => ⟨hI.1.aside (by omega), hI.2.1.aside (fun q => by have := hD D q; omega), hI.2.2.aside (by omega)⟩)
        (fun V w S' hI hV => by
          obtain ⟨q, q1, _, _, _, _, _, q7⟩ := S'.blks _ _ _ he hb
          have hd := loop_dead (o := .loop { q with state := .exhausted }) S' hb he
          refine ⟨q.pending, _, run_endLoop (P := P) q1 (by rw [q7.1]; simp), ?_⟩
          have hq := ih hd.1.fresh F0 (hI.2.1.good hd.2).fresh hs (hI.1.step S' hd.2 hu) (hI.2.2.good hd.2)
          split
          · rename_i hc
            rw [q7.2] at hc; cases hc
          · rename_i c hc
            rw [q7.2, Option.some.injEq] at hc
            subst hc
            cases ex' with
            | normal => exact wpIn_skip hq
            | exit id => exact wpIn_exit hq
            | ret => exact wpIn_ret hq
            | goto l => exact wpIn_goto hq) Ds w S ⟨I, M0, k⟩ hn hDs
      rw [← F.defers] at key
      rcases hx with rfl | rfl <;> exact key
  | @round n K ops o rest a ab a1 t1 h h1 b args ps ps1 asg body asg1 body1 hw hl ho hb hlen hn1 hr1 hb1 hu _ ih =>
    intro ρ w A C DL lo S F M hlo I k
    refine wpListIn_step fun K' hK => ?_
    have hab : ∀ f, o.about P w A.eval = some f → (RF (roC C)).fn f := fun _ _ => trivial
    rw [if_pos (wanted_eq F ops o hw)]
    refine ⟨hab, ?_⟩
    obtain ⟨e, vs, he, k1, k2⟩ := op_sound S hl F ho
    obtain ⟨r, r1, r2, r3, r4, r5, r6, r7⟩ := S.blks b e _ he hb
    have hsz : vs.toArray.size = r.params.size := by
      have := k1.length
      have h2 : r.params.toList.length = ps.length := by rw [r2]
      simp at h2 ⊢; omega
    have hlt : lo ≤ w.heap.size := M.1
    have hD : ∀ D, markOf D ∈ DL → D < w.heap.size := by
      intro D hm
      obtain ⟨_, Ds, rfl, _, h3⟩ := M
      obtain ⟨E, hE, hq⟩ := List.mem_map.1 hm
      have := markOf_inj hq; subst this
      exact heap_lt (h3 _ hE).2.1
    rw [semAt_ok ho, k2, run_yield r1 hsz, Oper.uponIn_round]
    refine ⟨(fun q => (by cases q)), ?_⟩
    subst r2; subst r3; subst r4
    have hR : RoundIn (RF none) 0 P e.blk r.fn ((r.params.zip vs.toArray).foldl (fun t (p, v) => t.setIfInBounds p v) r.tmps) r.assign r.body w
        (fun e' w' => ∃ V, e' = .returned V ∧ wpListIn (RF (roC C)) 0 P ops (kpost P (bodyPostM (RF none) 0 P fnTop fun e w' => ∃ V, e = .returned V ∧ Rel (fun _ => none) v0 V ∧ Below w0.heap.size w0 w') C) rest (A.put o.dst V) w') := by
      refine roundIn_of_wpIn trivial ?_
      have F0 : FRel [] ρ ab { tmps := r.tmps, defers := [] } := ⟨r5, r6, rfl, F.glob⟩
      have F1 := setParams_rel F0 k1 hlen
      have M0 : Marks w.heap.size [] ρ h w := Marks.none (Nat.le_refl _)
      have key := code_sound hP n (some e.blk) _ _ _ _ _ _ hr1 (.inr hn1) _ _ ρ w _ S F1 M0
        (Exit.then (fun a₁ w₁ => ∃ w₂, (Instr.beginRound e.blk).run P w₁ = .ok () w₂ ∧ r.body.wpIn ((RF none).inRound e.blk) 0 P (roundPost P e.blk (fun e' w' => ∃ V, e' = .returned V ∧ wpListIn (RF (roC C)) 0 P ops (kpost P (bodyPostM (RF none) 0 P fnTop fun e w' => ∃ V, e = .returned V ∧ Rel (fun _ => none) v0 V ∧ Below w0.heap.size w0 w') C) rest (A.put o.dst V) w')) a₁ w₂) (fun _ _ _ => False)) ?_
      · rw [zip_fold]; exact key
      intro DL1 ρ1 w1 A1 S1 G1 F1' M1
      have he1 := G1.ext b e he
      obtain ⟨q, q1, q2, q3, q4, q5, q6, q7⟩ := S1.blks b e _ he1 hb1
      have st1 := loop_put (st' := some none) (r' := { q with state := .busy }) S1 hb1 he1 q1 ⟨q2, q3, q4, q5, q6⟩ ⟨rfl, rfl, rfl, rfl⟩ rfl
      refine ⟨_, run_beginRound q1 q7.1, ?_⟩
      have G12 := G1.trans st1.2
      exact ih (C := .round e.blk o.dst ops rest A :: C) st1.1.fresh F1' (M1.good st1.2).fresh (Nat.le_trans hlo hlt) (I.step S G12 hu) (.round (F.ext G12.ext) (M.good G12).fresh hlo hlt hD he1 (k.good G12))
    have hR' : RoundIn (RF (roC C)) 0 P e.blk r.fn ((r.params.zip vs.toArray).foldl (fun t (p, v) => t.setIfInBounds p v) r.tmps) r.assign r.body w
        (fun e' w' => ∃ V, e' = .returned V ∧ wpListIn (RF (roC C)) 0 P ops (kpost P (bodyPostM (RF none) 0 P fnTop fun e w' => ∃ V, e = .returned V ∧ Rel (fun _ => none) v0 V ∧ Below w0.heap.size w0 w') C) rest (A.put o.dst V) w') := hR
    refine hR'.mono ?_
    rintro e' w' ⟨V, rfl, hw'⟩
    exact hK _ _ hw'
  | @finRoundN K b d ops rest a0 a t h ps asg body hb hu _ ih =>
    intro ρ w A C DL lo S F M hlo I k
    cases k with
    | @round _ _ _ _ e _ A0 _ C _ lo' DL0 F0 M0 hs hlo' hD he k =>
      obtain ⟨u, u1, u2, u3, u4, u5, u6, u7⟩ := S.blks b e _ he hb
      have st2 := loop_put (st' := none) (r' := { u with state := .ready, pending := none }) S hb he u1 ⟨u2, u3, u4, u5, u6⟩ ⟨rfl, rfl, rfl, rfl⟩ ⟨rfl, rfl⟩
      exact ⟨_, _, run_endRound none u1, _, rfl, ih st2.1.fresh (F0.put (by simp [Rel]) d) (M0.good st2.2).fresh hs (I.step S st2.2 hu) (k.good st2.2)⟩
  | @finRoundX K b d ops rest a0 a t h ex ps asg body hx hb hu _ ih =>
    intro ρ w A C DL lo S F M hlo I k
    cases k with
    | @round _ _ _ _ e _ A0 _ C _ lo' DL0 F0 M0 hs hlo' hD he k =>
      obtain ⟨u, u1, u2, u3, u4, u5, u6, u7⟩ := S.blks b e _ he hb
      have st2 := loop_put (st' := some (some ex)) (r' := { u with state := .done, pending := some (codeOfEx ex) }) S hb he u1 ⟨u2, u3, u4, u5, u6⟩ ⟨rfl, rfl, rfl, rfl⟩ ⟨rfl, rfl⟩
      have hq := ih st2.1.fresh (F0.put (V := .bool false) (by simp [Rel]) d) (M0.good st2.2).fresh hs (I.step S st2.2 hu) (k.good st2.2)
      cases ex with
      | normal => exact absurd rfl hx
      | exit id => exact ⟨_, _, run_endRound (some (.exit id)) u1, _, rfl, hq⟩
      | ret => exact ⟨_, _, run_endRound (some .ret) u1, _, rfl, hq⟩
      | goto l => exact ⟨_, _, run_endRound (some (.goto l)) u1, _, rfl, hq⟩
  | top hx hv =>
    intro ρ w A C DL lo S F M hlo I k
    cases k
    obtain ⟨_, Ds, rfl, hn, hD⟩ := M
    have key := leaves_post (lo := lo) (I := fun w => Below w0.heap.size w0 w) (Post := fun e w' => ∃ V, e = .returned V ∧ Rel (fun _ => none) v0 V ∧ Below w0.heap.size w0 w') F hv
      (fun D w hD' hI => ⟨hI.os, hI.tape, hI.output, by simpa using hI.size, fun k hk => by rw [World.putObj_heap_other (by omega)]; exact hI.block k hk⟩)
      (fun V w _ hI hV => ⟨V, rfl, pure_rel _ hv0 hV, hI⟩) Ds w S I.below hn hD
    rw [← F.defers] at key
    rcases hx with rfl | rfl <;> exact key
  | weak hk hc _ ih =>
    intro ρ w A C DL lo S F M hlo I k
    obtain ⟨hc, hl⟩ := hc I.vars
    cases hc with
    | code ha hh => exact ih (hh.srel S) (ha.frel F) (hh.marks M) hlo (hh.since I hl) (hh.krel hk k)
    | head ha hh => exact ih (hh.srel S) (ha.frel F) (hh.marks M) hlo (hh.since I hl) (hh.krel hk k)
    | ops ha hh => exact ih (hh.srel S) (ha.frel F) (hh.marks M) hlo (hh.since I hl) (hh.krel hk k)
    | opsD ha hh => exact ih (hh.srel S) (ha.frel F) (hh.marks M) hlo (hh.since I hl) (hh.krel hk k)
  | @ren τ K1 K c1 c hk hc hl _ ih =>
    intro ρ w A C DL lo S F M hlo I k
    cases hc with
    | code ha hh => have e := hh.lim.trans I.lim; exact ih (hh.srel S) (ha.frel hh.inj (fun b hb => hh.glob b (by rw [e]; exact hb)) F) (hh.marks M) hlo (hh.since I hl) (hh.krel e hk k)
    | head ha hh => have e := hh.lim.trans I.lim; exact ih (hh.srel S) (ha.frel hh.inj (fun b hb => hh.glob b (by rw [e]; exact hb)) F) (hh.marks M) hlo (hh.since I hl) (hh.krel e hk k)
    | ops ha hh => have e := hh.lim.trans I.lim; exact ih (hh.srel S) (ha.frel hh.inj (fun b hb => hh.glob b (by rw [e]; exact hb)) F) (hh.marks M) hlo (hh.since I hl) (hh.krel e hk k)
    | opsD ha hh => have e := hh.lim.trans I.lim; exact ih (hh.srel S) (ha.frel hh.inj (fun b hb => hh.glob b (by rw [e]; exact hb)) F) (hh.marks M) hlo (hh.since I hl) (hh.krel e hk k)

theorem since_laid (w : World) (L : List (Nat × List AV)) : Since L w (globsLaid L) (laidHeap L) w := since_at w globE L

/-- a call that was run so, whatever lies where -/
theorem call_res_at {P : Program} (hP : okProg P = true) {f : FuncId} {fn : Func} {body : Code} {E : Nat → Ent} (hE : GlobE E) {L : List (Nat × List AV)} {v0 : AV} (hv0 : pureAV v0 = true) {args : List AV} {ARGS : List Value} (ha : RelL (laidE E) args ARGS) (hf : P.funcs[f]? = some fn) (hb : fn.body = some body)
    (hr : Run P fn L v0 [] (.code body { n := args.length + (fn.ntmps - args.length), dflt := true, t := enterT 0 args .leaf } (laidHeap L))) {w : World} (hL : LaidAt E w L) :
    CallsIn (RF none) 0 P f ARGS.toArray w fun e w' => ∃ V, e = .returned V ∧ Rel (fun _ => none) v0 V ∧ Below w.heap.size w w' := by
  have S := srel_at hL
  have F := frame_enter (globs_at hE) ha fn.ntmps
  have M : Marks w.heap.size [] (laidE E) (laidHeap L) w := Marks.none (Nat.le_refl _)
  exact callsIn_of_wp_marks hf hb trivial (cfg_sound hP hv0 hr (C := []) S F M (Nat.le_refl _) (since_at w E L) .nil)
/-- a call that was run so -/
theorem call_res {P : Program} (hP : okProg P = true) {f : FuncId} {fn : Func} {body : Code} {L : List (Nat × List AV)} {v0 : AV} (hv0 : pureAV v0 = true) {args : List AV} {ARGS : List Value} (ha : RelL (globsLaid L) args ARGS) (hf : P.funcs[f]? = some fn) (hb : fn.body = some body)
    (hr : Run P fn L v0 [] (.code body { n := args.length + (fn.ntmps - args.length), dflt := true, t := enterT 0 args .leaf } (laidHeap L))) {w : World} (hL : LaidIn w L) :
    CallsIn (RF none) 0 P f ARGS.toArray w fun e w' => ∃ V, e = .returned V ∧ Rel (fun _ => none) v0 V ∧ Below w.heap.size w w' := call_res_at hP globE_ok hv0 ha hf hb hr hL

/-- a call of a function without parameters that was run so -/
theorem call_run {P : Program} (hP : okProg P = true) {f : FuncId} {fn : Func} {body : Code} {L : List (Nat × List AV)} (hf : P.funcs[f]? = some fn) (hb : fn.body = some body)
    (hr : Run P fn L (.bool true) [] (.code body { n := fn.ntmps, dflt := true, t := .leaf } (laidHeap L))) {w : World} (hL : LaidIn w L) :
    Calls P f #[] w fun e w' => e = .returned (.bool true) ∧ Below w.heap.size w w' := by
  have h := call_res hP (v0 := .bool true) rfl (args := []) (ARGS := []) (by simp [RelL]) hf hb (by simpa [enterT] using hr) hL
  refine callsIn_wide.1 (CallsIn.mono h ?_)
  rintro e w' ⟨V, rfl, hV, hB⟩
  simp only [Rel] at hV
  subst hV
  exact ⟨rfl, hB⟩

/-- a call that was run from a heap that holds the variables alone returns the same from any that holds them -/
theorem fact_of_run {P : Program} (hP : okProg P = true) {L : List (Nat × List AV)} (hL : (L.all fun x => pureAVs x.2) = true) {f : FuncId} {fn : Func} {body : Code} {v0 : AV} (hv0 : pureAV v0 = true) {args : List AV} (hf : P.funcs[f]? = some fn) (hb : fn.body = some body)
    (hr : Run P fn L v0 [] (.code body { n := args.length + (fn.ntmps - args.length), dflt := true, t := enterT 0 args .leaf } (laidHeap L))) : Fact P L f args v0 :=
  ⟨hv0, hL, fn, body, hf, hb, fun _ _ _ hE hL' ha => call_res_at hP hE hv0 ha hf hb hr hL'⟩
end Go.Sx

namespace Go.Sx
open Go.RowKit (Below)

/-! ### The pieces, by closed Bools -/

def fullMask (m : Nat) : Nat → Bool
  | 0 => true
  | k + 1 => Nat.testBit m k && fullMask m k
theorem fullMask_ok {m : Nat} : ∀ {n : Nat}, fullMask m n = true → ∀ k, k < n → Nat.testBit m k = true
  | 0, _, k, hk => by omega
  | n + 1, h, k, hk => by
    simp only [fullMask, Bool.and_eq_true] at h
    by_cases q : k = n
    · rw [q]; exact h.1
    · exact fullMask_ok h.2 k (by omega)

/-- from here on each operation waits for all ahead of it -/
def cutAt (ms : List Nat) : Nat → Nat
  | 0 => 0
  | k + 1 => match fullMask (nthD ms k) k with
    | true => cutAt ms k
    | false => k + 1
theorem cutAt_ok {ms : List Nat} : ∀ {n : Nat}, cutAt ms n ≤ n ∧ ∀ i, cutAt ms n ≤ i → i < n → fullMask (nthD ms i) i = true
  | 0 => ⟨Nat.le_refl _, fun i _ hi => by omega⟩
  | n + 1 => by
    obtain ⟨h1, h2⟩ := cutAt_ok (ms := ms) (n := n)
    simp only [cutAt]
    cases hf : fullMask (nthD ms n) n with
    | true =>
      simp only []
      refine ⟨by omega, fun i hi hn => ?_⟩
      by_cases q : i = n
      · rw [q]; exact hf
      · exact h2 i hi (by omega)
    | false => exact ⟨Nat.le_refl _, fun i hi hn => by simp only [] at hi; omega⟩

/-- all that come after the operation m wait for it -/
def allBit (m : Nat) : List Nat → Bool
  | [] => true
  | x :: r => match Nat.testBit x m with
    | true => allBit m r
    | false => false
def singleB (ms : List Nat) (m : Nat) : Bool := allBit m (ms.drop (m + 1))
theorem allBit_ok {m : Nat} : ∀ {l : List Nat}, allBit m l = true → ∀ x ∈ l, Nat.testBit x m = true
  | [], _, x, hx => by cases hx
  | y :: l, h, x, hx => by
    simp only [allBit] at h
    split at h
    · rename_i q
      rcases List.mem_cons.1 hx with rfl | hx
      · exact q
      · exact allBit_ok h x hx
    · cases h
theorem singleB_ok {ops : List Oper} {ms : List Nat} {m : Nat} (hms : masksF ops [] = some ms) (h : singleB ms m = true) : ∀ i o, m < i → ops[i]? = some o → Nat.testBit (nthD ms i) m = true := by
  intro i o hi ho
  have hlen := (masks_ok hms).len
  have hl : i < ms.length := by rw [hlen]; exact getElem?_lt ho
  have hget : (ms.drop (m + 1))[i - (m + 1)]? = some ms[i] := by
    rw [List.getElem?_drop, show m + 1 + (i - (m + 1)) = i by omega]; simp [hl]
  have := allBit_ok h ms[i] (List.mem_of_getElem? hget)
  have e : nthD ms i = ms[i] := by simp [nthD, nth_eq, hl]
  rw [e]; exact this

def leavesB : Ex → Bool
  | .normal => true
  | .ret => true
  | _ => false
theorem leavesB_ok {ex : Ex} (h : leavesB ex = true) : ex = .normal ∨ ex = .ret := by
  cases ex <;> first | exact .inl rfl | exact .inr rfl | cases h

/-- one step: `b` says whether what is ahead is run at once or entered -/
noncomputable def micro (P : Program) (n : Nat) (L : List (Nat × List AV)) (b : Bool) (K : List Fr) (c : Cfg) : Option (List Fr × Cfg) :=
  match c with
  | .code c a h => match b with
    | true => match inR K && !noRange c with
     | true => none
     | false => match (codeS P c).f (runS P n) n a h with
      | .normal a' h' => match unwritten L h'.wr with
        | true => some (K, .fin .normal a' h'.fresh)
        | false => none
      | .exit id a' h' => match unwritten L h'.wr with
        | true => some (K, .fin (.exit id) a' h'.fresh)
        | false => none
      | .ret a' h' => match unwritten L h'.wr with
        | true => some (K, .fin .ret a' h'.fresh)
        | false => none
      | .goto l a' h' => match unwritten L h'.wr with
        | true => some (K, .fin (.goto l) a' h'.fresh)
        | false => none
      | .bad _ => none
    | false => match c with
      | .seq x y => some (.seq y :: K, .code x a h)
      | .block id x => some (.block id :: K, .code x a h)
      | .scope x => match inR K with
        | false => some (.scp :: K, .code x a h)
        | true => none
      | .loop x => some (K, .head x a h)
      | .cond o x y => match evalA a o with
        | some (.bool true) => some (K, .code x a h)
        | some (.bool false) => some (K, .code y a h)
        | _ => none
      | .region _ ops false => some (K, .ops ops ops.toList a h)
      | .region _ ops true => match P.follows .mixedOrders, masksF ops.toList [] with
        | true, some ms => match (drawS P ops ms (ops.toList.take (cutAt ms ops.toList.length)) 0).f (runS P (n + 1) n) a a.n h.lim h.t h.t [] h.next with
          | .ok es base => match chkAll ms [] es && unwritten L (keysOf es ++ h.wr) with
            | true => some (K, .ops ops (ops.toList.drop (cutAt ms ops.toList.length)) (tmpsD (fun _ => true) es 0 a) { next := base, lim := h.lim, wr := [], t := heapT (fun _ => true) es 0 h.t })
            | false => none
          | .bad _ => none
        | _, _ => none
      | .rangeFunc f ps asg body => match inR K, evalA a f, Nat.blt h.next h.lim, unwritten L h.wr with
        | false, some (.fn (.func g) first cap), true, true => match nth P.funcs.toList g with
          | some fn => match fn.body with
            | some gb => some (.rng fn h.next a :: K, .code gb { n := (first ++ [AV.fn (.yield h.next) [] []] ++ cap).length + (fn.ntmps - (first ++ [AV.fn (.yield h.next) [] []] ++ cap).length), dflt := true, t := enterT 0 (first ++ [AV.fn (.yield h.next) [] []] ++ cap) .leaf } (h.push (.loop ps.toList asg body a none)).fresh)
            | none => none
          | none => none
        | _, _, _, _ => none
      | _ => none
  | .head x a h => some (.loop x :: K, .code x a h)
  | .ops _ [] a h => some (K, .fin .normal a h)
  | .ops ops (o :: rest) a h => match b with
    | true => match (regS P ops [o]).f (runS P (n + 1) n) a h with
      | .normal a' h' => match unwritten L h'.wr with
        | true => some (K, .ops ops rest a' h'.fresh)
        | false => none
      | _ => none
    | false => match wantedA ops o a, Nat.blt h.next h.lim, opA P h a o with
      | some true, true, some (.enter f args) => match nth P.funcs.toList f with
        | some fn => match fn.body with
          | some body => some (.call fn o.dst ops rest a :: K, .code body { n := args.length + (fn.ntmps - args.length), dflt := true, t := enterT 0 args .leaf } h)
          | none => none
        | none => none
      | some true, true, some (.round b args) => match h.get b with
        | some (.loop ps asg body ab none) => match Nat.beq args.length ps.length && noRange asg with
          | true => match (codeS P asg).f (runS P n) n (setParams ab ps args) h with
            | .normal a1 h1 => match h1.get b with
              | some (.loop ps1 asg1 body1 t1 none) => match unwritten L (b :: h1.wr) with
                | true => some (.round b o.dst ops rest a :: K, .code body a1 (h1.set b (.loop ps1 asg1 body1 t1 (some none))).fresh)
                | false => none
              | _ => none
            | _ => none
          | false => none
        | _ => none
      | _, _, _ => none
  | .opsD ops m a h => match masksF ops.toList [], nth ops.toList m with
    | some ms, some o => match singleB ms m with
      | true => match b with
        | true => match (regS P ops [o]).f (runS P (n + 1) n) a h with
          | .normal a' h' => match unwritten L h'.wr with
            | true => some (K, .opsD ops (m + 1) a' h'.fresh)
            | false => none
          | _ => none
        | false => match wantedA ops o a, Nat.blt h.next h.lim, opA P h a o with
          | some true, true, some (.enter f args) => match nth P.funcs.toList f with
            | some fn => match fn.body with
              | some body => some (.callD fn o.dst ops (m + 1) a :: K, .code body { n := args.length + (fn.ntmps - args.length), dflt := true, t := enterT 0 args .leaf } h)
              | none => none
            | none => none
          | _, _, _ => none
      | false => none
    | some _, none => some (K, .fin .normal a h)
    | none, _ => none
  | .fin ex a h => match K with
    | [] => none
    | .seq y :: K => match ex with
      | .normal => some (K, .code y a h)
      | ex => some (K, .fin ex a h)
    | .block id :: K => match ex with
      | .exit id' => match Nat.beq id' id with
        | true => some (K, .fin .normal a h)
        | false => some (K, .fin (.exit id') a h)
      | ex => some (K, .fin ex a h)
    | .scp :: K => match ex with
      | .goto _ => none
      | ex => some (K, .fin ex a h)
    | .loop x :: K => match ex with
      | .normal => some (K, .head x a h)
      | ex => some (K, .fin ex a h)
    | .call fn d ops rest a0 :: K => match ex with
      | .normal => match resultsA P fn h a with
        | some v => some (K, .ops ops rest (put a0 d v) h)
        | none => none
      | .ret => match resultsA P fn h a with
        | some v => some (K, .ops ops rest (put a0 d v) h)
        | none => none
      | _ => none
    | .callD fn d ops m a0 :: K => match ex with
      | .normal => match resultsA P fn h a with
        | some v => some (K, .opsD ops m (put a0 d v) h)
        | none => none
      | .ret => match resultsA P fn h a with
        | some v => some (K, .opsD ops m (put a0 d v) h)
        | none => none
      | _ => none
    | .round b d ops rest a0 :: K => match h.get b, unwritten L (b :: h.wr) with
      | some (.loop ps asg body t (some none)), true => match ex with
        | .normal => some (K, .ops ops rest (put a0 d (.bool true)) (h.set b (.loop ps asg body t none)).fresh)
        | ex => some (K, .ops ops rest (put a0 d (.bool false)) (h.set b (.loop ps asg body t (some (some ex)))).fresh)
      | _, _ => none
    | .rng fn b a0 :: K => match leavesB ex, resultsA P fn h a, unwritten L (b :: h.wr) with
      | true, some _, true => match h.get b with
        | some (.loop _ _ _ _ none) => some (K, .fin .normal a0 (h.set b .dead).fresh)
        | some (.loop _ _ _ _ (some (some ex'))) => some (K, .fin ex' a0 (h.set b .dead).fresh)
        | _ => none
      | _, _, _ => none

theorem micro_ok {P : Program} {n : Nat} {fnTop : Func} {L : List (Nat × List AV)} {v0 : AV} {b : Bool} {K K' : List Fr} {c c' : Cfg} (hm : micro P n L b K c = some (K', c')) (k : Run P fnTop L v0 K' c') : Run P fnTop L v0 K c := by
  have hc : ∀ t args h, runS P (n + 1) n t args h = RV.ofR (tgtF P (codeN P n) t args h) := runS_eq P (n + 1) n (Nat.lt_succ_self n)
  unfold micro at hm
  split at hm
  · rename_i c a h
    split at hm
    · split at hm
      · cases hm
      rename_i hnr
      have hnr' : inR K = false ∨ noRange c = true := by
        cases h1 : inR K with
        | false => exact .inl rfl
        | true => rw [h1] at hnr; right; simpa using hnr
      rw [codeS_eq n (selfS_run P n)] at hm
      cases hr : codeN P n c a h with
      | bad s => rw [hr] at hm; cases hm
      | ok x =>
        obtain ⟨ex, a', h'⟩ := x
        rw [hr] at hm
        have key : ∀ {ex : Ex}, codeN P n c a h = .ok (ex, a', h') → (match unwritten L h'.wr with | true => some (K, Cfg.fin ex a' h'.fresh) | false => none) = some (K', c') → Run P fnTop L v0 K (.code c a h) := by
          intro ex hr hq
          split at hq
          · rename_i hu
            simp only [Option.some.injEq, Prod.mk.injEq] at hq; obtain ⟨rfl, rfl⟩ := hq
            exact .exec hnr' hr hu k
          · cases hq
        cases ex <;> exact key hr hm
    · split at hm
      · simp only [Option.some.injEq, Prod.mk.injEq] at hm; obtain ⟨rfl, rfl⟩ := hm; exact .seq k
      · simp only [Option.some.injEq, Prod.mk.injEq] at hm; obtain ⟨rfl, rfl⟩ := hm; exact .block k
      · split at hm
        · rename_i hin
          simp only [Option.some.injEq, Prod.mk.injEq] at hm; obtain ⟨rfl, rfl⟩ := hm; exact .scope hin k
        · cases hm
      · simp only [Option.some.injEq, Prod.mk.injEq] at hm; obtain ⟨rfl, rfl⟩ := hm; exact .loop k
      · split at hm
        · rename_i he
          simp only [Option.some.injEq, Prod.mk.injEq] at hm; obtain ⟨rfl, rfl⟩ := hm; exact .condT he k
        · rename_i he
          simp only [Option.some.injEq, Prod.mk.injEq] at hm; obtain ⟨rfl, rfl⟩ := hm; exact .condF he k
        · cases hm
      · simp only [Option.some.injEq, Prod.mk.injEq] at hm; obtain ⟨rfl, rfl⟩ := hm; exact .region k
      · rename_i ops
        split at hm
        · rename_i ms hmx hms
          have hq := drawS_eq hc ops ms a h (ops.toList.take (cutAt ms ops.toList.length)) 0 ms [] h.next rfl rfl
          simp only [heapT] at hq
          rw [hq] at hm
          cases hd : drawF P (codeN P n) ops ms a h (ops.toList.take (cutAt ms ops.toList.length)) [] h.next with
          | bad s => rw [hd] at hm; cases hm
          | ok x =>
            obtain ⟨es, base⟩ := x
            rw [hd] at hm
            simp only [RD.ofR] at hm
            split at hm
            · rename_i hb
              simp only [Bool.and_eq_true] at hb
              simp only [Option.some.injEq, Prod.mk.injEq] at hm; obtain ⟨rfl, rfl⟩ := hm
              obtain ⟨c1, c2⟩ := cutAt_ok (ms := ms) (n := ops.toList.length)
              refine .drawn (List.take_append_drop _ _).symm hmx hms hd hb.1 (fun i o hi ho => fullMask_ok (c2 i ?_ (getElem?_lt ho))) hb.2 k
              rw [List.length_take] at hi; omega
            · cases hm
        · cases hm
      · split at hm
        · rename_i g first cap hin he hl hu
          split at hm
          · rename_i fn hf
            rw [nth_eq] at hf
            split at hm
            · rename_i gb hb
              simp only [Option.some.injEq, Prod.mk.injEq] at hm; obtain ⟨rfl, rfl⟩ := hm
              exact .range hin he (Nat.le_of_ble_eq_true hl) (by simpa using hf) hb hu k
            · cases hm
          · cases hm
        · cases hm
      · cases hm
  · simp only [Option.some.injEq, Prod.mk.injEq] at hm; obtain ⟨rfl, rfl⟩ := hm; exact .head k
  · simp only [Option.some.injEq, Prod.mk.injEq] at hm; obtain ⟨rfl, rfl⟩ := hm; exact .opsEnd k
  · rename_i ops o rest a h
    split at hm
    · rw [regS_eq hc] at hm
      simp only [opsF] at hm
      cases ho : oneA P (codeN P n) ops o a h with
      | bad s => rw [ho] at hm; cases hm
      | ok x =>
        obtain ⟨v, h'⟩ := x
        rw [ho] at hm
        simp only [RC.ofT] at hm
        split at hm
        · rename_i hu
          simp only [Option.some.injEq, Prod.mk.injEq] at hm; obtain ⟨rfl, rfl⟩ := hm
          exact .one ho hu k
        · cases hm
    · split at hm
      · rename_i f args hw hl ho
        split at hm
        · rename_i fn hf
          rw [nth_eq] at hf
          split at hm
          · rename_i body hb
            simp only [Option.some.injEq, Prod.mk.injEq] at hm; obtain ⟨rfl, rfl⟩ := hm
            exact .enter hw (Nat.le_of_ble_eq_true hl) ho (by simpa using hf) hb k
          · cases hm
        · cases hm
      · rename_i b args hw hl ho
        split at hm
        · rename_i ps asg body ab hb
          split at hm
          · rename_i hcond
            simp only [Bool.and_eq_true] at hcond
            rw [codeS_eq n (selfS_run P n)] at hm
            cases hr : codeN P n asg (setParams ab ps args) h with
            | bad s => rw [hr] at hm; cases hm
            | ok x =>
              obtain ⟨ex, a1, h1⟩ := x
              rw [hr] at hm
              cases ex <;> try (cases hm; done)
              simp only [RC.ofR] at hm
              split at hm
              · rename_i ps1 asg1 body1 t1 hb1
                split at hm
                · rename_i hu
                  simp only [Option.some.injEq, Prod.mk.injEq] at hm; obtain ⟨rfl, rfl⟩ := hm
                  exact .round hw (Nat.le_of_ble_eq_true hl) ho hb (Nat.eq_of_beq_eq_true hcond.1) hcond.2 hr hb1 hu k
                · cases hm
              · cases hm
          · cases hm
        · cases hm
      · cases hm
  · rename_i ops m a h
    split at hm
    · rename_i ms o hms hoj
      rw [nth_eq] at hoj
      split at hm
      · rename_i hsg
        have hsg := singleB_ok hms hsg
        split at hm
        · rw [regS_eq hc] at hm
          simp only [opsF] at hm
          cases ho : oneA P (codeN P n) ops o a h with
          | bad s => rw [ho] at hm; cases hm
          | ok x =>
            obtain ⟨v, h'⟩ := x
            rw [ho] at hm
            simp only [RC.ofT] at hm
            split at hm
            · rename_i hu
              simp only [Option.some.injEq, Prod.mk.injEq] at hm; obtain ⟨rfl, rfl⟩ := hm
              exact .oneD hms hoj hsg ho hu k
            · cases hm
        · split at hm
          · rename_i f args hw hl ho
            split at hm
            · rename_i fn hf
              rw [nth_eq] at hf
              split at hm
              · rename_i body hb
                simp only [Option.some.injEq, Prod.mk.injEq] at hm; obtain ⟨rfl, rfl⟩ := hm
                exact .enterD hms hoj hsg hw (Nat.le_of_ble_eq_true hl) ho (by simpa using hf) hb k
              · cases hm
            · cases hm
          · cases hm
      · cases hm
    · rename_i hms hoj
      rw [nth_eq] at hoj
      simp only [Option.some.injEq, Prod.mk.injEq] at hm; obtain ⟨rfl, rfl⟩ := hm
      exact .opsEndD (by have := List.getElem?_eq_none_iff.1 hoj; simpa using this) k
    · cases hm
  · rename_i ex a h
    split at hm
    · cases hm
    · split at hm
      · simp only [Option.some.injEq, Prod.mk.injEq] at hm; obtain ⟨rfl, rfl⟩ := hm; exact .finSeq k
      · rename_i hx
        simp only [Option.some.injEq, Prod.mk.injEq] at hm; obtain ⟨rfl, rfl⟩ := hm; exact .finSeqX (fun q => hx q) k
    · split at hm
      · rename_i id id'
        split at hm
        · rename_i hq
          have := Nat.eq_of_beq_eq_true hq; subst this
          simp only [Option.some.injEq, Prod.mk.injEq] at hm; obtain ⟨rfl, rfl⟩ := hm; exact .finBlock k
        · rename_i hq
          simp only [Option.some.injEq, Prod.mk.injEq] at hm; obtain ⟨rfl, rfl⟩ := hm
          exact .finBlockX (fun q => by injection q with q; subst q; simp at hq) k
      · rename_i hx
        simp only [Option.some.injEq, Prod.mk.injEq] at hm; obtain ⟨rfl, rfl⟩ := hm; exact .finBlockX (fun q => hx _ q) k
    · split at hm
      · cases hm
      · rename_i hx
        simp only [Option.some.injEq, Prod.mk.injEq] at hm; obtain ⟨rfl, rfl⟩ := hm; exact .finScp (fun l q => hx l q) k
    · split at hm
      · simp only [Option.some.injEq, Prod.mk.injEq] at hm; obtain ⟨rfl, rfl⟩ := hm; exact .finLoop k
      · rename_i hx
        simp only [Option.some.injEq, Prod.mk.injEq] at hm; obtain ⟨rfl, rfl⟩ := hm; exact .finLoopX (fun q => hx q) k
    · split at hm
      · split at hm
        · rename_i hv
          simp only [Option.some.injEq, Prod.mk.injEq] at hm; obtain ⟨rfl, rfl⟩ := hm; exact .finCall (.inl rfl) hv k
        · cases hm
      · split at hm
        · rename_i hv
          simp only [Option.some.injEq, Prod.mk.injEq] at hm; obtain ⟨rfl, rfl⟩ := hm; exact .finCall (.inr rfl) hv k
        · cases hm
      · cases hm
    · split at hm
      · split at hm
        · rename_i hv
          simp only [Option.some.injEq, Prod.mk.injEq] at hm; obtain ⟨rfl, rfl⟩ := hm; exact .finCallD (.inl rfl) hv k
        · cases hm
      · split at hm
        · rename_i hv
          simp only [Option.some.injEq, Prod.mk.injEq] at hm; obtain ⟨rfl, rfl⟩ := hm; exact .finCallD (.inr rfl) hv k
        · cases hm
      · cases hm
    · split at hm
      · rename_i ps asg body t hb hu
        split at hm
        · simp only [Option.some.injEq, Prod.mk.injEq] at hm; obtain ⟨rfl, rfl⟩ := hm; exact .finRoundN hb hu k
        · rename_i hx
          simp only [Option.some.injEq, Prod.mk.injEq] at hm; obtain ⟨rfl, rfl⟩ := hm; exact .finRoundX (fun q => hx q) hb hu k
      · cases hm
    · split at hm
      · rename_i hx hv hu
        split at hm
        · rename_i hb
          simp only [Option.some.injEq, Prod.mk.injEq] at hm; obtain ⟨rfl, rfl⟩ := hm; exact .finRngN (leavesB_ok hx) hv hb hu k
        · rename_i hb
          simp only [Option.some.injEq, Prod.mk.injEq] at hm; obtain ⟨rfl, rfl⟩ := hm; exact .finRngX (leavesB_ok hx) hv hb hu k
        · cases hm
      · cases hm

/-- steps in a row -/
noncomputable def go (P : Program) (n : Nat) (L : List (Nat × List AV)) (bs : List Bool) : List Fr → Cfg → Option (List Fr × Cfg) :=
  @List.rec Bool (fun _ => List Fr → Cfg → Option (List Fr × Cfg)) (fun K c => some (K, c))
    (fun b _ ih K c => @Option.rec (List Fr × Cfg) (fun _ => Option (List Fr × Cfg)) none (fun x => @Prod.rec (List Fr) Cfg (fun _ => Option (List Fr × Cfg)) (fun K' c' => ih K' c') x) (micro P n L b K c)) bs

theorem go_ok {P : Program} {n : Nat} {fnTop : Func} {L : List (Nat × List AV)} {v0 : AV} : ∀ (bs : List Bool) {K K' : List Fr} {c c' : Cfg}, go P n L bs K c = some (K', c') → Run P fnTop L v0 K' c' → Run P fnTop L v0 K c
  | [], K, K', c, c', hg, k => by
    have hg : some (K, c) = some (K', c') := hg
    simp only [Option.some.injEq, Prod.mk.injEq] at hg; obtain ⟨rfl, rfl⟩ := hg; exact k
  | b :: bs, K, K', c, c', hg, k => by
    have hg : @Option.rec (List Fr × Cfg) (fun _ => Option (List Fr × Cfg)) none (fun x => @Prod.rec (List Fr) Cfg (fun _ => Option (List Fr × Cfg)) (fun K' c' => go P n L bs K' c') x) (micro P n L b K c) = some (K', c') := hg
    cases hm : micro P n L b K c with
    | none => rw [hm] at hg; cases hg
    | some x =>
      obtain ⟨K1, c1⟩ := x
      rw [hm] at hg
      exact micro_ok hm (go_ok bs hg k)

/-- a script: so many steps that run, one that enters, so many that run .. -/
def script : List Nat → List Bool
  | [] => []
  | [k] => List.replicate k true
  | k :: ks => List.replicate k true ++ false :: script ks

/-! what is written down of a point: the slots of the frames, the blocks -/
structure Pt where
  /-- the frame's own, then its callers' -/
  frs : List (Nat × List (Nat × AV))
  /-- the frames of the ranges under way -/
  lps : List (Nat × List (Nat × AV))
  next : Nat
  blks : List (Nat × Blk)

/-- a stack without what its slots hold -/
inductive FC where
  | seq (y : Code)
  | block (id : Nat)
  | scp
  | loop (x : Code)
  | call (fn : Func) (d : Option Nat) (ops : Array Oper) (rest : List Oper)
  | callD (fn : Func) (d : Option Nat) (ops : Array Oper) (m : Nat)
  | rng (fn : Func) (b : Nat) (ps : List Nat) (asg body : Code) (busy : Bool)
  | round (b : Nat) (d : Option Nat) (ops : Array Oper) (rest : List Oper)
inductive CC where
  | code (c : Code)
  | head (x : Code)
  | ops (ops : Array Oper) (rest : List Oper)
  | opsD (ops : Array Oper) (m : Nat)

def tmpsOf (x : Nat × List (Nat × AV)) : Tmps := { n := x.1, dflt := false, t := slotsT x.2 }
def mkK : List FC → List (Nat × List (Nat × AV)) → List Fr
  | .seq y :: K, fs => .seq y :: mkK K fs
  | .block id :: K, fs => .block id :: mkK K fs
  | .scp :: K, fs => .scp :: mkK K fs
  | .loop x :: K, fs => .loop x :: mkK K fs
  | .call fn d ops rest :: K, f :: fs => .call fn d ops rest (tmpsOf f) :: mkK K fs
  | .callD fn d ops m :: K, f :: fs => .callD fn d ops m (tmpsOf f) :: mkK K fs
  | .rng fn b _ _ _ _ :: K, f :: fs => .rng fn b (tmpsOf f) :: mkK K fs
  | .round b d ops rest :: K, f :: fs => .round b d ops rest (tmpsOf f) :: mkK K fs
  | _, _ => []
def bst : Bool → Option (Option Ex)
  | true => some none
  | false => none
def loopsT : List FC → List (Nat × List (Nat × AV)) → T Blk → T Blk
  | .rng _ b ps asg body busy :: K, f :: fs, t => (loopsT K fs t).put (b + 1) b (.loop ps asg body (tmpsOf f) (bst busy))
  | .round .. :: K, fs, t => loopsT K fs t
  | .rng .. :: _, [], t => t
  | .seq _ :: K, fs, t => loopsT K fs t
  | .block _ :: K, fs, t => loopsT K fs t
  | .scp :: K, fs, t => loopsT K fs t
  | .loop _ :: K, fs, t => loopsT K fs t
  | .call .. :: K, fs, t => loopsT K fs t
  | .callD .. :: K, fs, t => loopsT K fs t
  | [], _, t => t
def ptH (L : List (Nat × List AV)) (p : Pt) (k : List FC) : Heap := { next := p.next, lim := 1048576, wr := [], t := loopsT k p.lps (blksT (laidTree L) p.blks) }
def mkC (L : List (Nat × List AV)) (p : Pt) (k : List FC) : CC → Cfg
  | .code c => .code c (tmpsOf (p.frs.headD (0, []))) (ptH L p k)
  | .head x => .head x (tmpsOf (p.frs.headD (0, []))) (ptH L p k)
  | .ops ops rest => .ops ops rest (tmpsOf (p.frs.headD (0, []))) (ptH L p k)
  | .opsD ops m => .opsD ops m (tmpsOf (p.frs.headD (0, []))) (ptH L p k)

noncomputable def frB (a : Tmps) (x : Nat × List (Nat × AV)) : Bool := Nat.beq x.1 a.n && slotsB a x.2
/-- the stack's codes, if its slots hold what is written down -/
noncomputable def skK (h : Heap) : List Fr → List (Nat × List (Nat × AV)) → List (Nat × List (Nat × AV)) → Option (List FC)
  | [], [], [] => some []
  | .seq y :: K, fs, ls => (skK h K fs ls).map (.seq y :: ·)
  | .block id :: K, fs, ls => (skK h K fs ls).map (.block id :: ·)
  | .scp :: K, fs, ls => (skK h K fs ls).map (.scp :: ·)
  | .loop x :: K, fs, ls => (skK h K fs ls).map (.loop x :: ·)
  | .call fn d ops rest a :: K, f :: fs, ls => match frB a f with
    | true => (skK h K fs ls).map (.call fn d ops rest :: ·)
    | false => none
  | .callD fn d ops m a :: K, f :: fs, ls => match frB a f with
    | true => (skK h K fs ls).map (.callD fn d ops m :: ·)
    | false => none
  | .rng fn b a :: K, f :: fs, l :: ls => match frB a f, Nat.blt b 1048576, h.t.get b with
    | true, true, some (.loop ps asg body t none) => match frB t l with
      | true => (skK h K fs ls).map (.rng fn b ps asg body false :: ·)
      | false => none
    | true, true, some (.loop ps asg body t (some none)) => match frB t l with
      | true => (skK h K fs ls).map (.rng fn b ps asg body true :: ·)
      | false => none
    | _, _, _ => none
  | .round b d ops rest a :: K, f :: fs, ls => match frB a f with
    | true => (skK h K fs ls).map (.round b d ops rest :: ·)
    | false => none
  | _, _, _ => none
noncomputable def heapB (L : List (Nat × List AV)) (p : Pt) (h : Heap) : Bool := Nat.beq p.next h.next && Nat.beq h.lim 1048576 && blksB h p.blks
noncomputable def skC (L : List (Nat × List AV)) (p : Pt) : Cfg → Option CC
  | .code c a h => match frB a (p.frs.headD (0, [])) && heapB L p h with
    | true => some (.code c)
    | false => none
  | .head x a h => match frB a (p.frs.headD (0, [])) && heapB L p h with
    | true => some (.head x)
    | false => none
  | .ops ops rest a h => match frB a (p.frs.headD (0, [])) && heapB L p h with
    | true => some (.ops ops rest)
    | false => none
  | .opsD ops m a h => match frB a (p.frs.headD (0, [])) && heapB L p h with
    | true => some (.opsD ops m)
    | false => none
  | .fin .. => none
noncomputable def skel (L : List (Nat × List AV)) (p : Pt) (r : Option (List Fr × Cfg)) : Option (List FC × CC) := match r with
  | some (K, c) => match skK c.h K p.frs.tail p.lps, skC L p c with
    | some k, some d => some (k, d)
    | _, _ => none
  | none => none

theorem frB_ok {a : Tmps} {x : Nat × List (Nat × AV)} (h : frB a x = true) : TSub (tmpsOf x) a := by
  simp only [frB, Bool.and_eq_true] at h
  refine ⟨Nat.eq_of_beq_eq_true h.1, fun t v hv => slotsB_ok h.2 t v ?_⟩
  simp only [Tmps.get, tmpsOf] at hv
  cases hq : (slotsT x.2).get t with
  | none => rw [hq] at hv; cases hv
  | some u => rw [hq] at hv; exact hv

theorem loops_ok {h : Heap} {t0 : T Blk} (h0 : ∀ b c, t0.get b = some c → ∃ d, h.t.get b = some d ∧ BSub c d) : ∀ {K : List Fr} {fs ls : List (Nat × List (Nat × AV))} {k : List FC}, skK h K fs ls = some k →
    (∀ b c, (loopsT k ls t0).get b = some c → ∃ d, h.t.get b = some d ∧ BSub c d) ∧ ∀ b, 1048576 ≤ b → (loopsT k ls t0).get b = t0.get b
  | [], [], [], k, hk => by simp only [skK, Option.some.injEq] at hk; subst hk; exact ⟨h0, fun _ _ => rfl⟩
  | [], [], _ :: _, k, hk => by simp [skK] at hk
  | [], _ :: _, _, k, hk => by simp [skK] at hk
  | .seq y :: K, fs, ls, k, hk => by
    simp only [skK, Option.map_eq_some_iff] at hk; obtain ⟨k', h1, rfl⟩ := hk
    simp only [loopsT]; exact loops_ok h0 h1
  | .block y :: K, fs, ls, k, hk => by
    simp only [skK, Option.map_eq_some_iff] at hk; obtain ⟨k', h1, rfl⟩ := hk
    simp only [loopsT]; exact loops_ok h0 h1
  | .scp :: K, fs, ls, k, hk => by
    simp only [skK, Option.map_eq_some_iff] at hk; obtain ⟨k', h1, rfl⟩ := hk
    simp only [loopsT]; exact loops_ok h0 h1
  | .loop y :: K, fs, ls, k, hk => by
    simp only [skK, Option.map_eq_some_iff] at hk; obtain ⟨k', h1, rfl⟩ := hk
    simp only [loopsT]; exact loops_ok h0 h1
  | .call fn d ops rest a :: K, [], ls, k, hk => by simp [skK] at hk
  | .call fn d ops rest a :: K, f :: fs, ls, k, hk => by
    simp only [skK] at hk
    split at hk
    · simp only [Option.map_eq_some_iff] at hk; obtain ⟨k', h1, rfl⟩ := hk
      simp only [loopsT]; exact loops_ok h0 h1
    · cases hk
  | .callD fn d ops m a :: K, [], ls, k, hk => by simp [skK] at hk
  | .callD fn d ops m a :: K, f :: fs, ls, k, hk => by
    simp only [skK] at hk
    split at hk
    · simp only [Option.map_eq_some_iff] at hk; obtain ⟨k', h1, rfl⟩ := hk
      simp only [loopsT]; exact loops_ok h0 h1
    · cases hk
  | .rng fn b a :: K, [], ls, k, hk => by simp [skK] at hk
  | .rng fn b a :: K, f :: fs, [], k, hk => by simp [skK] at hk
  | .rng fn b a :: K, f :: fs, l :: ls, k, hk => by
    simp only [skK] at hk
    split at hk
    · rename_i ps asg body t h1 hlt hg
      split at hk
      · rename_i hl
        simp only [Option.map_eq_some_iff] at hk; obtain ⟨k', h2, rfl⟩ := hk
        obtain ⟨i1, i2⟩ := loops_ok h0 h2
        have hlt : b < 1048576 := Nat.le_of_ble_eq_true hlt
        simp only [loopsT]
        refine ⟨fun b' c hc => ?_, fun b' hb' => ?_⟩
        · rw [T.get_put _ _ _ _ _ (Nat.lt_succ_self _)] at hc
          by_cases q : b' = b
          · rw [if_pos q, Option.some.injEq] at hc; subst hc; subst q
            exact ⟨_, hg, .loop (frB_ok hl)⟩
          · rw [if_neg q] at hc; exact i1 b' c hc
        · rw [T.get_put _ _ _ _ _ (Nat.lt_succ_self _), if_neg (by omega)]; exact i2 b' hb'
      · cases hk
    · rename_i ps asg body t h1 hlt hg
      split at hk
      · rename_i hl
        simp only [Option.map_eq_some_iff] at hk; obtain ⟨k', h2, rfl⟩ := hk
        obtain ⟨i1, i2⟩ := loops_ok h0 h2
        have hlt : b < 1048576 := Nat.le_of_ble_eq_true hlt
        simp only [loopsT]
        refine ⟨fun b' c hc => ?_, fun b' hb' => ?_⟩
        · rw [T.get_put _ _ _ _ _ (Nat.lt_succ_self _)] at hc
          by_cases q : b' = b
          · rw [if_pos q, Option.some.injEq] at hc; subst hc; subst q
            exact ⟨_, hg, .loop (frB_ok hl)⟩
          · rw [if_neg q] at hc; exact i1 b' c hc
        · rw [T.get_put _ _ _ _ _ (Nat.lt_succ_self _), if_neg (by omega)]; exact i2 b' hb'
      · cases hk
    · cases hk
  | .round b d ops rest a :: K, [], ls, k, hk => by simp [skK] at hk
  | .round b d ops rest a :: K, f :: fs, ls, k, hk => by
    simp only [skK] at hk
    split at hk
    · simp only [Option.map_eq_some_iff] at hk; obtain ⟨k', h1, rfl⟩ := hk
      simp only [loopsT]; exact loops_ok h0 h1
    · cases hk

theorem heapB_ok {L : List (Nat × List AV)} {p : Pt} {h : Heap} {K : List Fr} {fs : List (Nat × List (Nat × AV))} {k : List FC} (hh : heapB L p h = true) (hk : skK h K fs p.lps = some k) (h4 : Vars L h) :
    HSub (ptH L p k) h ∧ Vars L (ptH L p k) := by
  simp only [heapB, Bool.and_eq_true] at hh
  obtain ⟨⟨h1, h2⟩, h3⟩ := hh
  have laid : ∀ b c, (laidTree L).get b = some c → h.t.get b = some c := by
    intro b c hb
    rw [laidTree_get] at hb
    by_cases q : 1048576 ≤ b
    · rw [if_pos q] at hb
      cases ha : assocL L (b - 1048576) with
      | none => rw [ha] at hb; cases hb
      | some cs =>
        rw [ha] at hb; simp only [Option.map_some, Option.some.injEq] at hb; subst hb
        have := h4 _ _ ha
        rwa [show 1048576 + (b - 1048576) = b by omega] at this
    · rw [if_neg q] at hb; cases hb
  obtain ⟨i1, i2⟩ := loops_ok (t0 := blksT (laidTree L) p.blks) (fun b c hc => ⟨c, blksB_ok laid h3 b c hc, .refl c⟩) hk
  refine ⟨⟨Nat.eq_of_beq_eq_true h1, (Nat.eq_of_beq_eq_true h2).symm, i1⟩, fun g c hg => ?_⟩
  show (loopsT k p.lps (blksT (laidTree L) p.blks)).get (1048576 + g) = _
  rw [i2 _ (Nat.le_add_right _ _), blks_above (Nat.le_add_right _ _) h3, laidTree_get, if_pos (Nat.le_add_right _ _), show 1048576 + g - 1048576 = g by omega, hg]; rfl

theorem skK_ok {hp : Heap} : ∀ {K : List Fr} {fs ls : List (Nat × List (Nat × AV))} {k : List FC}, skK hp K fs ls = some k → KSub (mkK k fs) K
  | [], [], [], k, h => by simp only [skK, Option.some.injEq] at h; subst h; exact .nil
  | [], [], _ :: _, k, h => by simp [skK] at h
  | [], _ :: _, _, k, h => by simp [skK] at h
  | .seq y :: K, fs, ls, k, h => by
    simp only [skK, Option.map_eq_some_iff] at h; obtain ⟨k', h1, rfl⟩ := h
    simp only [mkK]; exact .seq (skK_ok h1)
  | .block y :: K, fs, ls, k, h => by
    simp only [skK, Option.map_eq_some_iff] at h; obtain ⟨k', h1, rfl⟩ := h
    simp only [mkK]; exact .block (skK_ok h1)
  | .scp :: K, fs, ls, k, h => by
    simp only [skK, Option.map_eq_some_iff] at h; obtain ⟨k', h1, rfl⟩ := h
    simp only [mkK]; exact .scp (skK_ok h1)
  | .loop y :: K, fs, ls, k, h => by
    simp only [skK, Option.map_eq_some_iff] at h; obtain ⟨k', h1, rfl⟩ := h
    simp only [mkK]; exact .loop (skK_ok h1)
  | .call fn d ops rest a :: K, [], ls, k, h => by simp [skK] at h
  | .call fn d ops rest a :: K, f :: fs, ls, k, h => by
    simp only [skK] at h
    split at h
    · rename_i hf
      simp only [Option.map_eq_some_iff] at h; obtain ⟨k', h1, rfl⟩ := h
      simp only [mkK]; exact .call (frB_ok hf) (skK_ok h1)
    · cases h
  | .callD fn d ops m a :: K, [], ls, k, h => by simp [skK] at h
  | .callD fn d ops m a :: K, f :: fs, ls, k, h => by
    simp only [skK] at h
    split at h
    · rename_i hf
      simp only [Option.map_eq_some_iff] at h; obtain ⟨k', h1, rfl⟩ := h
      simp only [mkK]; exact .callD (frB_ok hf) (skK_ok h1)
    · cases h
  | .rng fn b a :: K, [], ls, k, h => by simp [skK] at h
  | .rng fn b a :: K, f :: fs, [], k, h => by simp [skK] at h
  | .rng fn b a :: K, f :: fs, l :: ls, k, h => by
    simp only [skK] at h
    split at h
    · rename_i ps asg body t hf hlt hg
      split at h
      · simp only [Option.map_eq_some_iff] at h; obtain ⟨k', h1, rfl⟩ := h
        simp only [mkK]; exact .rng (frB_ok hf) (skK_ok h1)
      · cases h
    · rename_i ps asg body t hf hlt hg
      split at h
      · simp only [Option.map_eq_some_iff] at h; obtain ⟨k', h1, rfl⟩ := h
        simp only [mkK]; exact .rng (frB_ok hf) (skK_ok h1)
      · cases h
    · cases h
  | .round b d ops rest a :: K, [], ls, k, h => by simp [skK] at h
  | .round b d ops rest a :: K, f :: fs, ls, k, h => by
    simp only [skK] at h
    split at h
    · rename_i hf
      simp only [Option.map_eq_some_iff] at h; obtain ⟨k', h1, rfl⟩ := h
      simp only [mkK]; exact .round (frB_ok hf) (skK_ok h1)
    · cases h

/-- one piece: it comes to the point that is written down -/
theorem run_piece {P : Program} {n : Nat} {fnTop : Func} {L : List (Nat × List AV)} {v0 : AV} {bs : List Bool} {K : List Fr} {c : Cfg} {p : Pt} {s : List FC × CC} (hg : skel L p (go P n L bs K c) = some s)
    (k : Run P fnTop L v0 (mkK s.1 p.frs.tail) (mkC L p s.1 s.2)) : Run P fnTop L v0 K c := by
  cases hr : go P n L bs K c with
  | none => rw [hr] at hg; cases hg
  | some x =>
    obtain ⟨K', c'⟩ := x
    rw [hr] at hg
    refine go_ok bs hr ?_
    simp only [skel] at hg
    split at hg
    · rename_i k' d h1 h2
      simp only [Option.some.injEq] at hg; subst hg
      have hk := skK_ok h1
      unfold skC at h2
      split at h2
      · split at h2
        · rename_i hb
          simp only [Option.some.injEq] at h2; subst h2
          simp only [Bool.and_eq_true] at hb
          exact .weak hk (fun V => ⟨.code (frB_ok hb.1) (heapB_ok hb.2 h1 V).1, (heapB_ok hb.2 h1 V).2⟩) k
        · cases h2
      · split at h2
        · rename_i hb
          simp only [Option.some.injEq] at h2; subst h2
          simp only [Bool.and_eq_true] at hb
          exact .weak hk (fun V => ⟨.head (frB_ok hb.1) (heapB_ok hb.2 h1 V).1, (heapB_ok hb.2 h1 V).2⟩) k
        · cases h2
      · split at h2
        · rename_i hb
          simp only [Option.some.injEq] at h2; subst h2
          simp only [Bool.and_eq_true] at hb
          exact .weak hk (fun V => ⟨.ops (frB_ok hb.1) (heapB_ok hb.2 h1 V).1, (heapB_ok hb.2 h1 V).2⟩) k
        · cases h2
      · split at h2
        · rename_i hb
          simp only [Option.some.injEq] at h2; subst h2
          simp only [Bool.and_eq_true] at hb
          exact .weak hk (fun V => ⟨.opsD (frB_ok hb.1) (heapB_ok hb.2 h1 V).1, (heapB_ok hb.2 h1 V).2⟩) k
        · cases h2
      · cases h2
    · cases hg

/-- the last piece -/
noncomputable def endB (P : Program) (fnTop : Func) (r : Option (List Fr × Cfg)) : Bool := match r with
  | some ([], .fin .normal a h) => match resultsA P fnTop h a with
    | some (.bool b) => b
    | _ => false
  | some ([], .fin .ret a h) => match resultsA P fnTop h a with
    | some (.bool b) => b
    | _ => false
  | _ => false

theorem run_end {P : Program} {n : Nat} {fnTop : Func} {L : List (Nat × List AV)} {bs : List Bool} {K : List Fr} {c : Cfg} (hg : endB P fnTop (go P n L bs K c) = true) : Run P fnTop L (.bool true) K c := by
  cases hr : go P n L bs K c with
  | none => rw [hr] at hg; cases hg
  | some x =>
    obtain ⟨K', c'⟩ := x
    rw [hr] at hg
    refine go_ok bs hr ?_
    unfold endB at hg
    split at hg
    · rename_i a h hq
      simp only [Option.some.injEq, Prod.mk.injEq] at hq; obtain ⟨rfl, rfl⟩ := hq
      split at hg
      · rename_i b hv; subst hg; exact .top (.inl rfl) hv
      · cases hg
    · rename_i a h hq
      simp only [Option.some.injEq, Prod.mk.injEq] at hq; obtain ⟨rfl, rfl⟩ := hq
      split at hg
      · rename_i b hv; subst hg; exact .top (.inr rfl) hv
      · cases hg
    · cases hg

/-! short names for what is written down -/
def zt : AV := .bool true
def zf : AV := .bool false
def zi (n : Nat) : AV := .int .i64 (.ofNat n)
def zn (n : Nat) : AV := .int .i64 (.negSucc n)
def zu (n : Nat) : AV := .int .u8 (.ofNat n)

/-! where a point is: for each function on the way its number and the way through its code -/
inductive Dir where
  | l | r | i | h
  | op (k : Nat)
  | rg (b : Nat) (busy : Bool)
  /-- in a region that draws its order: below k all is done -/
  | od (k : Nat)
/-- what a way ends at -/
inductive WE where
  | at (d : CC)
  | range (b : Nat) (busy : Bool) (ps : List Nat) (asg body : Code)
noncomputable def walk : Code → List Dir → List FC → Option (List FC × WE)
  | c, [], K => some (K, .at (.code c))
  | .seq x y, .l :: p, K => walk x p (.seq y :: K)
  | .seq _ y, .r :: p, K => walk y p K
  | .block id x, .i :: p, K => walk x p (.block id :: K)
  | .scope x, .i :: p, K => walk x p (.scp :: K)
  | .loop x, .i :: p, K => walk x p (.loop x :: K)
  | .loop x, [.h], K => some (K, .at (.head x))
  | .rangeFunc _ ps asg body, [.rg b busy], K => some (K, .range b busy ps.toList asg body)
  | .cond _ x _, .l :: p, K => walk x p K
  | .cond _ _ y, .r :: p, K => walk y p K
  | .region _ ops _, [.op k], K => some (K, .at (.ops ops (dropR k ops.toList)))
  | .region _ ops true, [.od k], K => some (K, .at (.opsD ops k))
  | _, _, _ => none
noncomputable def findAt : Code → List Dir → Option Code
  | c, [] => some c
  | .seq x _, .l :: p => findAt x p
  | .seq _ y, .r :: p => findAt y p
  | .block _ x, .i :: p => findAt x p
  | .scope x, .i :: p => findAt x p
  | .loop x, .i :: p => findAt x p
  | .cond _ x _, .l :: p => findAt x p
  | .cond _ _ y, .r :: p => findAt y p
  | .rangeFunc _ _ _ body, .i :: p => findAt body p
  | _, _ => none
/-- a frame on the way: a function's, or a round's, of the loop whose body lies there in that function -/
inductive Lv where
  | fn (f : Nat) (p : List Dir)
  | round (f : Nat) (q p : List Dir) (b : Nat)
noncomputable def bodyAt (P : Program) (f : Nat) : Option Code := match nth P.funcs.toList f with
  | some fn => fn.body
  | none => none
noncomputable def codeAt (P : Program) : Lv → Option (Code × List Dir)
  | .fn f p => match bodyAt P f with
    | some c => some (c, p)
    | none => none
  | .round f q p _ => match bodyAt P f with
    | some c => match findAt c q with
      | some x => some (x, p)
      | none => none
    | none => none
noncomputable def skelAt (P : Program) : List Lv → List FC → Option (List FC × CC)
  | [], _ => none
  | v :: ls, K => match codeAt P v with
    | some (c, p) => match walk c p K with
      | some (K', d) => match ls with
        | [] => match d with
          | .at d => some (K', d)
          | _ => none
        | v2 :: _ => match d, v2 with
          | .at (.ops ops (o :: rest)), .fn g _ => match nth P.funcs.toList g with
            | some gn => skelAt P ls (.call gn o.dst ops rest :: K')
            | none => none
          | .at (.opsD ops m), .fn g _ => match nth P.funcs.toList g, nth ops.toList m with
            | some gn, some o => skelAt P ls (.callD gn o.dst ops (m + 1) :: K')
            | _, _ => none
          | .at (.ops ops (o :: rest)), .round _ _ _ b => skelAt P ls (.round b o.dst ops rest :: K')
          | .range b busy ps asg body, .fn g _ => match nth P.funcs.toList g with
            | some gn => skelAt P ls (.rng gn b ps asg body busy :: K')
            | none => none
          | _, _ => none
      | none => none
    | none => none

end Go.Sx

namespace Go.Sx
open Go.RowKit (Below)

/-! ### Pieces whose states hold unknown numbers: the plain executor runs them, and what is written down is compared as terms -/

/-- one step: 0 enters, 1 runs by the fast executor, 2 by the plain one -/
noncomputable def stepK (P : Program) (n : Nat) (L : List (Nat × List AV)) (b : Nat) (K : List Fr) (c : Cfg) : Option (List Fr × Cfg) :=
  match b with
  | 0 => micro P n L false K c
  | 1 => micro P n L true K c
  | 3 => match c with
    | .code (.region _ ops true) a h => match P.follows .mixedOrders, masksF ops.toList [] with
      | true, some ms => match drawF P (codeN P n) ops ms a h (ops.toList.take (cutAt ms ops.toList.length)) [] h.next with
        | .ok (es, base) => match chkAll ms [] es && unwritten L (keysOf es ++ h.wr) with
          | true => some (K, .ops ops (ops.toList.drop (cutAt ms ops.toList.length)) (tmpsD (fun _ => true) es 0 a) { next := base, lim := h.lim, wr := [], t := heapT (fun _ => true) es 0 h.t })
          | false => none
        | .bad _ => none
      | _, _ => none
    | _ => none
  | 4 => match c with
    | .code (.region _ ops true) a h => match P.follows .mixedOrders, unwritten L h.wr with
      | true, true => some (K, .opsD ops 0 a h.fresh)
      | _, _ => none
    | _ => none
  | _ => match c with
    | .code cd a h => match inR K && !noRange cd with
      | true => none
      | false => match codeN P n cd a h with
        | .ok (ex, a', h') => match unwritten L h'.wr with
          | true => some (K, .fin ex a' h'.fresh)
          | false => none
        | .bad _ => none
    | .ops ops (o :: rest) a h => match oneA P (codeN P n) ops o a h with
      | .ok (v, h') => match unwritten L h'.wr with
        | true => some (K, .ops ops rest (put a o.dst v) h'.fresh)
        | false => none
      | .bad _ => none
    | .opsD ops m a h => match masksF ops.toList [], nth ops.toList m with
      | some ms, some o => match singleB ms m, oneA P (codeN P n) ops o a h with
        | true, .ok (v, h') => match unwritten L h'.wr with
          | true => some (K, .opsD ops (m + 1) (put a o.dst v) h'.fresh)
          | false => none
        | _, _ => none
      | some _, none => some (K, .fin .normal a h)
      | none, _ => none
    | c => micro P n L true K c

theorem stepK_ok {P : Program} {n : Nat} {fnTop : Func} {L : List (Nat × List AV)} {v0 : AV} {b : Nat} {K K' : List Fr} {c c' : Cfg} (hm : stepK P n L b K c = some (K', c')) (k : Run P fnTop L v0 K' c') : Run P fnTop L v0 K c := by
  unfold stepK at hm
  split at hm
  · exact micro_ok hm k
  · exact micro_ok hm k
  · split at hm
    · rename_i id ops a h
      split at hm
      · rename_i ms hmx hms
        split at hm
        · rename_i es base hd
          split at hm
          · rename_i hb
            simp only [Bool.and_eq_true] at hb
            simp only [Option.some.injEq, Prod.mk.injEq] at hm; obtain ⟨rfl, rfl⟩ := hm
            obtain ⟨c1, c2⟩ := cutAt_ok (ms := ms) (n := ops.toList.length)
            refine .drawn (List.take_append_drop _ _).symm hmx hms hd hb.1 (fun i o hi ho => fullMask_ok (c2 i ?_ (getElem?_lt ho))) hb.2 k
            rw [List.length_take] at hi; omega
          · cases hm
        · cases hm
      · cases hm
    · cases hm
  · split at hm
    · rename_i id ops a h
      split at hm
      · rename_i hmx hu
        simp only [Option.some.injEq, Prod.mk.injEq] at hm; obtain ⟨rfl, rfl⟩ := hm
        exact .regionD hmx hu k
      · cases hm
    · cases hm
  · split at hm
    · rename_i cd a h
      split at hm
      · cases hm
      · rename_i hnr
        have hnr' : inR K = false ∨ noRange cd = true := by
          cases h1 : inR K with
          | false => exact .inl rfl
          | true => rw [h1] at hnr; right; simpa using hnr
        split at hm
        · rename_i ex a' h' hr
          split at hm
          · rename_i hu
            simp only [Option.some.injEq, Prod.mk.injEq] at hm; obtain ⟨rfl, rfl⟩ := hm
            exact .exec hnr' hr hu k
          · cases hm
        · cases hm
    · rename_i ops o rest a h
      split at hm
      · rename_i v h' ho
        split at hm
        · rename_i hu
          simp only [Option.some.injEq, Prod.mk.injEq] at hm; obtain ⟨rfl, rfl⟩ := hm
          exact .one ho hu k
        · cases hm
      · cases hm
    · rename_i ops m a h
      split at hm
      · rename_i ms o hms hoj
        rw [nth_eq] at hoj
        split at hm
        · rename_i v h' hsg ho
          split at hm
          · rename_i hu
            simp only [Option.some.injEq, Prod.mk.injEq] at hm; obtain ⟨rfl, rfl⟩ := hm
            exact .oneD hms hoj (singleB_ok hms hsg) ho hu k
          · cases hm
        · cases hm
      · rename_i hms hoj
        rw [nth_eq] at hoj
        simp only [Option.some.injEq, Prod.mk.injEq] at hm; obtain ⟨rfl, rfl⟩ := hm
        exact .opsEndD (by have := List.getElem?_eq_none_iff.1 hoj; simpa using this) k
      · cases hm
    · exact micro_ok hm k

noncomputable def goK (P : Program) (n : Nat) (L : List (Nat × List AV)) : List Nat → List Fr → Cfg → Option (List Fr × Cfg)
  | [], K, c => some (K, c)
  | b :: bs, K, c => match stepK P n L b K c with
    | some (K', c') => goK P n L bs K' c'
    | none => none

theorem goK_ok {P : Program} {n : Nat} {fnTop : Func} {L : List (Nat × List AV)} {v0 : AV} : ∀ {bs : List Nat} {K K' : List Fr} {c c' : Cfg}, goK P n L bs K c = some (K', c') → Run P fnTop L v0 K' c' → Run P fnTop L v0 K c
  | [], K, K', c, c', hg, k => by
    simp only [goK, Option.some.injEq, Prod.mk.injEq] at hg; obtain ⟨rfl, rfl⟩ := hg; exact k
  | b :: bs, K, K', c, c', hg, k => by
    simp only [goK] at hg
    split at hg
    · rename_i K1 c1 hm; exact stepK_ok hm (goK_ok hg k)
    · cases hg

/-! what is read off a state, slot by slot and block by block -/
structure Ix where
  frs : List (List Nat)
  blks : List Nat

def getAll (a : Tmps) : List Nat → Option (List (Nat × AV))
  | [] => some []
  | t :: ts => match a.get t with
    | some v => match getAll a ts with
      | some r => some ((t, v) :: r)
      | none => none
    | none => none
theorem getAll_ok {a : Tmps} : ∀ {ts : List Nat} {l : List (Nat × AV)}, getAll a ts = some l → ∀ t v, (slotsT l).get t = some v → a.get t = some v
  | [], l, h, t, v, hv => by simp only [getAll, Option.some.injEq] at h; subst h; simp [slotsT, T.get] at hv
  | t0 :: ts, l, h, t, v, hv => by
    simp only [getAll] at h
    split at h
    · rename_i v0 hv0
      split at h
      · rename_i r hr
        simp only [Option.some.injEq] at h; subst h
        rw [slotsT, T.get_put _ _ _ _ _ (Nat.lt_succ_self _)] at hv
        by_cases q : t = t0
        · rw [if_pos q, Option.some.injEq] at hv; subst hv; subst q; exact hv0
        · rw [if_neg q] at hv; exact getAll_ok hr t v hv
      · cases h
    · cases h
def getBs (h : Heap) : List Nat → Option (List (Nat × Blk))
  | [] => some []
  | b :: bs => match Nat.blt b 1048576, h.t.get b with
    | true, some c => match getBs h bs with
      | some r => some ((b, c) :: r)
      | none => none
    | _, _ => none
theorem getBs_ok {h : Heap} {t0 : T Blk} (h0 : ∀ b c, t0.get b = some c → ∃ d, h.t.get b = some d ∧ BSub c d) : ∀ {bs : List Nat} {l : List (Nat × Blk)}, getBs h bs = some l →
    (∀ b c, (blksT t0 l).get b = some c → ∃ d, h.t.get b = some d ∧ BSub c d) ∧ ∀ b, 1048576 ≤ b → (blksT t0 l).get b = t0.get b
  | [], l, hl => by simp only [getBs, Option.some.injEq] at hl; subst hl; exact ⟨h0, fun _ _ => rfl⟩
  | b0 :: bs, l, hl => by
    simp only [getBs] at hl
    split at hl
    · rename_i c0 hlt hc0
      split at hl
      · rename_i r hr
        simp only [Option.some.injEq] at hl; subst hl
        obtain ⟨i1, i2⟩ := getBs_ok h0 hr
        have hlt : b0 < 1048576 := Nat.le_of_ble_eq_true hlt
        refine ⟨fun b c hc => ?_, fun b hb => ?_⟩
        · rw [blksT, T.get_put _ _ _ _ _ (Nat.lt_succ_self _)] at hc
          by_cases q : b = b0
          · rw [if_pos q, Option.some.injEq] at hc; subst hc; subst q; exact ⟨c0, hc0, .refl _⟩
          · rw [if_neg q] at hc; exact i1 b c hc
        · rw [blksT, T.get_put _ _ _ _ _ (Nat.lt_succ_self _), if_neg (by omega)]; exact i2 b hb
      · cases hl
    · cases hl

def viewK : List Fr → List (List Nat) → Option (List FC × List (Nat × List (Nat × AV)))
  | [], _ => some ([], [])
  | .seq y :: K, fs => match viewK K fs with
    | some (k, p) => some (.seq y :: k, p)
    | none => none
  | .block id :: K, fs => match viewK K fs with
    | some (k, p) => some (.block id :: k, p)
    | none => none
  | .scp :: K, fs => match viewK K fs with
    | some (k, p) => some (.scp :: k, p)
    | none => none
  | .loop x :: K, fs => match viewK K fs with
    | some (k, p) => some (.loop x :: k, p)
    | none => none
  | .call fn d ops rest a :: K, f :: fs => match getAll a f with
    | some l => match viewK K fs with
      | some (k, p) => some (.call fn d ops rest :: k, (a.n, l) :: p)
      | none => none
    | none => none
  | _, _ => none

theorem viewK_ok : ∀ {K : List Fr} {fs : List (List Nat)} {k : List FC} {p : List (Nat × List (Nat × AV))}, viewK K fs = some (k, p) → KSub (mkK k p) K ∧ ∀ t, loopsT k [] t = t
  | [], fs, k, p, h => by
    simp only [viewK, Option.some.injEq, Prod.mk.injEq] at h; obtain ⟨rfl, rfl⟩ := h; exact ⟨.nil, fun _ => rfl⟩
  | .seq y :: K, fs, k, p, h => by
    simp only [viewK] at h
    split at h
    · rename_i k' p' hk
      simp only [Option.some.injEq, Prod.mk.injEq] at h; obtain ⟨rfl, rfl⟩ := h
      obtain ⟨h1, h2⟩ := viewK_ok hk
      exact ⟨by simp only [mkK]; exact .seq h1, fun t => by simp only [loopsT]; exact h2 t⟩
    · cases h
  | .block y :: K, fs, k, p, h => by
    simp only [viewK] at h
    split at h
    · rename_i k' p' hk
      simp only [Option.some.injEq, Prod.mk.injEq] at h; obtain ⟨rfl, rfl⟩ := h
      obtain ⟨h1, h2⟩ := viewK_ok hk
      exact ⟨by simp only [mkK]; exact .block h1, fun t => by simp only [loopsT]; exact h2 t⟩
    · cases h
  | .scp :: K, fs, k, p, h => by
    simp only [viewK] at h
    split at h
    · rename_i k' p' hk
      simp only [Option.some.injEq, Prod.mk.injEq] at h; obtain ⟨rfl, rfl⟩ := h
      obtain ⟨h1, h2⟩ := viewK_ok hk
      exact ⟨by simp only [mkK]; exact .scp h1, fun t => by simp only [loopsT]; exact h2 t⟩
    · cases h
  | .loop y :: K, fs, k, p, h => by
    simp only [viewK] at h
    split at h
    · rename_i k' p' hk
      simp only [Option.some.injEq, Prod.mk.injEq] at h; obtain ⟨rfl, rfl⟩ := h
      obtain ⟨h1, h2⟩ := viewK_ok hk
      exact ⟨by simp only [mkK]; exact .loop h1, fun t => by simp only [loopsT]; exact h2 t⟩
    · cases h
  | .call fn d ops rest a :: K, [], k, p, h => by simp [viewK] at h
  | .call fn d ops rest a :: K, f :: fs, k, p, h => by
    simp only [viewK] at h
    split at h
    · rename_i l hl
      split at h
      · rename_i k' p' hk
        simp only [Option.some.injEq, Prod.mk.injEq] at h; obtain ⟨rfl, rfl⟩ := h
        obtain ⟨h1, h2⟩ := viewK_ok hk
        refine ⟨?_, fun t => by simp only [loopsT]; exact h2 t⟩
        simp only [mkK]
        refine .call ⟨rfl, fun t v hv => getAll_ok hl t v ?_⟩ h1
        simp only [Tmps.get, tmpsOf] at hv
        cases hq : (slotsT l).get t with
        | none => rw [hq] at hv; cases hv
        | some u => rw [hq] at hv; exact hv
      · cases h
    · cases h
  | .rng fn b a :: K, fs, k, p, h => by simp [viewK] at h
  | .round b d ops rest a :: K, fs, k, p, h => by simp [viewK] at h

def ccOf : Cfg → Option CC
  | .code c _ _ => some (.code c)
  | .head x _ _ => some (.head x)
  | .ops ops rest _ _ => some (.ops ops rest)
  | .opsD ops m _ _ => some (.opsD ops m)
  | .fin .. => none

/-- the state as codes and as what is read off; none unless the variables stand as they were laid -/
noncomputable def view (L : List (Nat × List AV)) (ix : Ix) (r : Option (List Fr × Cfg)) : Option ((List FC × CC) × Pt) := match r with
  | some (K, c) => match viewK K ix.frs.tail, ccOf c, getAll c.a (ix.frs.headD []), getBs c.h ix.blks, Nat.beq c.h.lim 1048576 with
    | some (k, p), some d, some l, some bs, true => some ((k, d), { frs := (c.a.n, l) :: p, lps := [], next := c.h.next, blks := bs })
    | _, _, _, _, _ => none
  | none => none

theorem run_view {P : Program} {n : Nat} {fnTop : Func} {L : List (Nat × List AV)} {v0 : AV} {bs : List Nat} {K : List Fr} {c : Cfg} {ix : Ix} {s : List FC × CC} {p : Pt} (hv : view L ix (goK P n L bs K c) = some (s, p))
    (k : Run P fnTop L v0 (mkK s.1 p.frs.tail) (mkC L p s.1 s.2)) : Run P fnTop L v0 K c := by
  cases hr : goK P n L bs K c with
  | none => rw [hr] at hv; cases hv
  | some x =>
    obtain ⟨K', c'⟩ := x
    rw [hr] at hv
    refine goK_ok hr ?_
    simp only [view] at hv
    split at hv
    · rename_i k' p' d l bl h1 h2 h3 h4 h5
      simp only [Option.some.injEq, Prod.mk.injEq] at hv; obtain ⟨rfl, rfl⟩ := hv
      obtain ⟨q1, q2⟩ := viewK_ok h1
      have laid : Vars L c'.h → ∀ b c, (laidTree L).get b = some c → ∃ d, c'.h.t.get b = some d ∧ BSub c d := by
        intro hV b c hb
        rw [laidTree_get] at hb
        by_cases q : 1048576 ≤ b
        · rw [if_pos q] at hb
          cases ha : assocL L (b - 1048576) with
          | none => rw [ha] at hb; cases hb
          | some cs =>
            rw [ha] at hb; simp only [Option.map_some, Option.some.injEq] at hb; subst hb
            have := hV _ _ ha
            rw [show 1048576 + (b - 1048576) = b by omega] at this
            exact ⟨_, this, .refl _⟩
        · rw [if_neg q] at hb; cases hb
      have i12 := fun hV => getBs_ok (laid hV) h4
      have hT : TSub (tmpsOf (c'.a.n, l)) c'.a := ⟨rfl, fun t v hv => getAll_ok h3 t v (by
        simp only [Tmps.get, tmpsOf] at hv
        cases hq : (slotsT l).get t with
        | none => rw [hq] at hv; cases hv
        | some u => rw [hq] at hv; exact hv)⟩
      have hH : Vars L c'.h → HSub (ptH L { frs := (c'.a.n, l) :: p', lps := [], next := c'.h.next, blks := bl } k') c'.h := fun hV =>
        ⟨rfl, (Nat.eq_of_beq_eq_true h5).symm, fun b c hc => (i12 hV).1 b c (by simp only [ptH] at hc; rw [q2] at hc; exact hc)⟩
      have hl : Vars L c'.h → Vars L (ptH L { frs := (c'.a.n, l) :: p', lps := [], next := c'.h.next, blks := bl } k') := by
        intro hV g x hg
        simp only [ptH]
        rw [q2, (i12 hV).2 _ (Nat.le_add_right _ _), laidTree_get, if_pos (Nat.le_add_right _ _), show 1048576 + g - 1048576 = g by omega, hg]; rfl
      cases c' with
      | code cd a h => simp only [ccOf, Option.some.injEq] at h2; subst h2; exact .weak q1 (fun V => ⟨.code hT (hH V), hl V⟩) k
      | head x a h => simp only [ccOf, Option.some.injEq] at h2; subst h2; exact .weak q1 (fun V => ⟨.head hT (hH V), hl V⟩) k
      | ops o r a h => simp only [ccOf, Option.some.injEq] at h2; subst h2; exact .weak q1 (fun V => ⟨.ops hT (hH V), hl V⟩) k
      | opsD o r a h => simp only [ccOf, Option.some.injEq] at h2; subst h2; exact .weak q1 (fun V => ⟨.opsD hT (hH V), hl V⟩) k
      | fin ex a h => cases h2
    · cases hv

/-- the last piece: what it answers, as a term -/
noncomputable def answer (P : Program) (fnTop : Func) (r : Option (List Fr × Cfg)) : Option AV := match r with
  | some ([], .fin .normal a h) => resultsA P fnTop h a
  | some ([], .fin .ret a h) => resultsA P fnTop h a
  | _ => none
theorem run_answer {P : Program} {n : Nat} {fnTop : Func} {L : List (Nat × List AV)} {v0 : AV} {bs : List Nat} {K : List Fr} {c : Cfg} (hg : answer P fnTop (goK P n L bs K c) = some v0) : Run P fnTop L v0 K c := by
  cases hr : goK P n L bs K c with
  | none => rw [hr] at hg; cases hg
  | some x =>
    obtain ⟨K', c'⟩ := x
    rw [hr] at hg
    refine goK_ok hr ?_
    unfold answer at hg
    split at hg
    · rename_i a h hq
      simp only [Option.some.injEq, Prod.mk.injEq] at hq; obtain ⟨rfl, rfl⟩ := hq
      exact .top (.inl rfl) hg
    · rename_i a h hq
      simp only [Option.some.injEq, Prod.mk.injEq] at hq; obtain ⟨rfl, rfl⟩ := hq
      exact .top (.inr rfl) hg
    · cases hg

/-- a call with arguments that hold no memory, run so -/
theorem call_run_args {P : Program} (hP : okProg P = true) {f : FuncId} {fn : Func} {body : Code} {L : List (Nat × List AV)} {args : List AV} {ARGS : List Value} (ha : RelL (globsLaid L) args ARGS) (hf : P.funcs[f]? = some fn) (hb : fn.body = some body)
    (hr : Run P fn L (.bool true) [] (.code body { n := args.length + (fn.ntmps - args.length), dflt := true, t := enterT 0 args .leaf } (laidHeap L))) {w : World} (hL : LaidIn w L) :
    Calls P f ARGS.toArray w fun e w' => e = .returned (.bool true) ∧ Below w.heap.size w w' := by
  refine callsIn_wide.1 (CallsIn.mono (call_res hP (v0 := .bool true) rfl ha hf hb hr hL) ?_)
  rintro e w' ⟨V, rfl, hV, hB⟩
  simp only [Rel] at hV
  subst hV
  exact ⟨rfl, hB⟩

/-! a call whose contract is known -/
noncomputable def useM (h : Heap) (bs : List Nat) : Option ORes → Option (Nat × List AV × List (Nat × List AV))
  | some (.enter f args) => match mapAVs (tabOf bs) args, memOf h 0 bs with
    | some args', some M => some (f, args', M)
    | _, _ => none
  | _ => none
noncomputable def useOf (P : Program) (L : List (Nat × List AV)) (bs : List Nat) (c : Cfg) : Option (Nat × List AV × List (Nat × List AV)) := match c with
  | .ops ops (o :: _) a h => match wantedA ops o a, Nat.blt h.next h.lim, unwritten L h.wr with
    | some true, true, true => useM h bs (opA P h a o)
    | _, _, _ => none
  | .opsD ops m a h => match masksF ops.toList [], nth ops.toList m with
    | some ms, some o => match singleB ms m, wantedA ops o a, Nat.blt h.next h.lim, unwritten L h.wr with
      | true, some true, true, true => useM h bs (opA P h a o)
      | _, _, _, _ => none
    | _, _ => none
  | _ => none
theorem useM_ok {h : Heap} {bs : List Nat} {x : Option ORes} {f : Nat} {args' : List AV} {M : List (Nat × List AV)} (hq : useM h bs x = some (f, args', M)) : ∃ args, x = some (.enter f args) ∧ mapAVs (tabOf bs) args = some args' ∧ memOf h 0 bs = some M := by
  unfold useM at hq
  split at hq
  · rename_i f args
    split at hq
    · rename_i args1 M1 h1 h2
      simp only [Option.some.injEq, Prod.mk.injEq] at hq; obtain ⟨rfl, rfl, rfl⟩ := hq
      exact ⟨args, rfl, h1, h2⟩
    · cases hq
  · cases hq
def useC (v : AV) : Cfg → Cfg
  | .ops ops (o :: rest) a h => .ops ops rest (put a o.dst v) h.fresh
  | .opsD ops m a h => match nth ops.toList m with
    | some o => .opsD ops (m + 1) (put a o.dst v) h.fresh
    | none => .opsD ops m a h
  | c => c
theorem run_use {P : Program} {fnTop : Func} {L M : List (Nat × List AV)} {bs : List Nat} {v0 : AV} {K : List Fr} {c : Cfg} {f : Nat} {args : List AV} {v : AV} (hq : useOf P L bs c = some (f, args, M)) (hF : Fact P (M ++ progVars L) f args v) (k : Run P fnTop L v0 K (useC v c)) : Run P fnTop L v0 K c := by
  unfold useOf at hq
  split at hq
  · rename_i ops o rest a h
    split at hq
    · rename_i hw hl hu
      obtain ⟨args0, ho, hm, hM⟩ := useM_ok hq
      exact .use hw (Nat.le_of_ble_eq_true hl) ho hm hM hF hu k
    · cases hq
  · rename_i ops m a h
    split at hq
    · rename_i ms o hms hoj
      split at hq
      · rename_i hsg hw hl hu
        obtain ⟨args0, ho, hm, hM⟩ := useM_ok hq
        simp only [useC, hoj] at k
        rw [nth_eq] at hoj
        exact .useD hms hoj (singleB_ok hms hsg) hw (Nat.le_of_ble_eq_true hl) ho hm hM hF hu k
      · cases hq
    · cases hq
  · cases hq
/-- a call's frame -/
def startA (args : List AV) (fn : Func) : Tmps := { n := args.length + (fn.ntmps - args.length), dflt := true, t := enterT 0 args .leaf }
theorem some_getD {α : Type} {x : Option α} {d : α} (h : x.isSome = true) : x = some (x.getD d) := by
  cases x with
  | none => cases h
  | some y => rfl

end Go.Sx

namespace Go.Sx
/-! ### Numbers, in plain Lean -/
theorem eqI_dec (x y : Int) : eqI x y = decide (x = y) := by
  rw [eqI_eq]; rfl
theorem wrap64 {n : Int} (h1 : -9223372036854775808 ≤ n) (h2 : n ≤ 9223372036854775807) : wrapA .i64 n = n := by
  unfold wrapA
  have : fits .i64 n = true := by
    cases n with
    | ofNat m => simp only [fits, Nat.ble_eq]; have : (m : Int) ≤ 9223372036854775807 := h2; omega
    | negSucc m => simp only [fits, Nat.ble_eq]; omega
  rw [this]
theorem tdiv_pos {x c : Int} (h : 0 ≤ x) : Int.tdiv x c = x / c := Int.tdiv_eq_ediv_of_nonneg h
theorem tmod_pos {x c : Int} (h : 0 ≤ x) : Int.tmod x c = x % c := Int.tmod_eq_emod_of_nonneg h
theorem add_int (x y : Int) : Int.add x y = x + y := rfl
theorem sub_int (x y : Int) : Int.sub x y = x - y := rfl
theorem mul_int (x y : Int) : Int.mul x y = x * y := rfl
theorem ofNat_int (n : Nat) : Int.ofNat n = (n : Int) := rfl
theorem wf_bounds {k : IntKind} {n : Int} (h : (Lit.int k n).wf = true) : k.min ≤ n ∧ n ≤ k.max := by
  simpa [Lit.wf] using h
theorem wf_u32 {n : Int} (h : (Lit.int .u32 n).wf = true) : 0 ≤ n ∧ n ≤ 4294967295 := wf_bounds h
theorem wf_u16 {n : Int} (h : (Lit.int .u16 n).wf = true) : 0 ≤ n ∧ n ≤ 65535 := wf_bounds h
theorem wf_u8 {n : Int} (h : (Lit.int .u8 n).wf = true) : 0 ≤ n ∧ n ≤ 255 := wf_bounds h
theorem wf_i64 {n : Int} (h : (Lit.int .i64 n).wf = true) : -9223372036854775808 ≤ n ∧ n ≤ 9223372036854775807 := wf_bounds h
theorem wf_i32 {n : Int} (h : (Lit.int .i32 n).wf = true) : -2147483648 ≤ n ∧ n ≤ 2147483647 := wf_bounds h
end Go.Sx

namespace Go.Sx
open Go.RowKit (Below)

/-! ### A run as a formula: scripts, points with other numbers for their blocks -/

structure Ix3 where
  frs : List (List Nat)
  lps : List (List Nat)
  blks : List Nat

def viewF (h : Heap) : List Fr → List (List Nat) → List (List Nat) → Option (List FC × List (Nat × List (Nat × AV)) × List (Nat × List (Nat × AV)))
  | [], _, _ => some ([], [], [])
  | .seq y :: K, fs, ls => match viewF h K fs ls with
    | some (k, p, q) => some (.seq y :: k, p, q)
    | none => none
  | .block id :: K, fs, ls => match viewF h K fs ls with
    | some (k, p, q) => some (.block id :: k, p, q)
    | none => none
  | .scp :: K, fs, ls => match viewF h K fs ls with
    | some (k, p, q) => some (.scp :: k, p, q)
    | none => none
  | .loop x :: K, fs, ls => match viewF h K fs ls with
    | some (k, p, q) => some (.loop x :: k, p, q)
    | none => none
  | .call fn d ops rest a :: K, f :: fs, ls => match getAll a f with
    | some l => match viewF h K fs ls with
      | some (k, p, q) => some (.call fn d ops rest :: k, (a.n, l) :: p, q)
      | none => none
    | none => none
  | .callD fn d ops m a :: K, f :: fs, ls => match getAll a f with
    | some l => match viewF h K fs ls with
      | some (k, p, q) => some (.callD fn d ops m :: k, (a.n, l) :: p, q)
      | none => none
    | none => none
  | .rng fn b a :: K, f :: fs, l :: ls => match getAll a f, Nat.blt b 1048576, h.t.get b with
    | some x, true, some (.loop ps asg body t none) => match getAll t l with
      | some y => match viewF h K fs ls with
        | some (k, p, q) => some (.rng fn b ps asg body false :: k, (a.n, x) :: p, (t.n, y) :: q)
        | none => none
      | none => none
    | some x, true, some (.loop ps asg body t (some none)) => match getAll t l with
      | some y => match viewF h K fs ls with
        | some (k, p, q) => some (.rng fn b ps asg body true :: k, (a.n, x) :: p, (t.n, y) :: q)
        | none => none
      | none => none
    | _, _, _ => none
  | .round b d ops rest a :: K, f :: fs, ls => match getAll a f with
    | some l => match viewF h K fs ls with
      | some (k, p, q) => some (.round b d ops rest :: k, (a.n, l) :: p, q)
      | none => none
    | none => none
  | _, _, _ => none

theorem tsub_of {a : Tmps} {f : List Nat} {l : List (Nat × AV)} (h : getAll a f = some l) : TSub (tmpsOf (a.n, l)) a :=
  ⟨rfl, fun t v hv => getAll_ok h t v (by
    simp only [Tmps.get, tmpsOf] at hv
    cases hq : (slotsT l).get t with
    | none => rw [hq] at hv; cases hv
    | some u => rw [hq] at hv; exact hv)⟩

theorem viewF_ok {h : Heap} {t0 : T Blk} (h0 : ∀ b c, t0.get b = some c → ∃ d, h.t.get b = some d ∧ BSub c d) : ∀ {K : List Fr} {fs ls : List (List Nat)} {k : List FC} {p q : List (Nat × List (Nat × AV))}, viewF h K fs ls = some (k, p, q) →
    KSub (mkK k p) K ∧ (∀ b c, (loopsT k q t0).get b = some c → ∃ d, h.t.get b = some d ∧ BSub c d) ∧ ∀ b, 1048576 ≤ b → (loopsT k q t0).get b = t0.get b
  | [], fs, ls, k, p, q, hv => by
    simp only [viewF, Option.some.injEq, Prod.mk.injEq] at hv; obtain ⟨rfl, rfl, rfl⟩ := hv
    exact ⟨.nil, h0, fun _ _ => rfl⟩
  | .seq y :: K, fs, ls, k, p, q, hv => by
    simp only [viewF] at hv
    split at hv
    · rename_i k' p' q' hk
      simp only [Option.some.injEq, Prod.mk.injEq] at hv; obtain ⟨rfl, rfl, rfl⟩ := hv
      obtain ⟨h1, h2, h3⟩ := viewF_ok h0 hk
      exact ⟨by simp only [mkK]; exact .seq h1, by simpa only [loopsT] using h2, by simpa only [loopsT] using h3⟩
    · cases hv
  | .block y :: K, fs, ls, k, p, q, hv => by
    simp only [viewF] at hv
    split at hv
    · rename_i k' p' q' hk
      simp only [Option.some.injEq, Prod.mk.injEq] at hv; obtain ⟨rfl, rfl, rfl⟩ := hv
      obtain ⟨h1, h2, h3⟩ := viewF_ok h0 hk
      exact ⟨by simp only [mkK]; exact .block h1, by simpa only [loopsT] using h2, by simpa only [loopsT] using h3⟩
    · cases hv
  | .scp :: K, fs, ls, k, p, q, hv => by
    simp only [viewF] at hv
    split at hv
    · rename_i k' p' q' hk
      simp only [Option.some.injEq, Prod.mk.injEq] at hv; obtain ⟨rfl, rfl, rfl⟩ := hv
      obtain ⟨h1, h2, h3⟩ := viewF_ok h0 hk
      exact ⟨by simp only [mkK]; exact .scp h1, by simpa only [loopsT] using h2, by simpa only [loopsT] using h3⟩
    · cases hv
  | .loop y :: K, fs, ls, k, p, q, hv => by
    simp only [viewF] at hv
    split at hv
    · rename_i k' p' q' hk
      simp only [Option.some.injEq, Prod.mk.injEq] at hv; obtain ⟨rfl, rfl, rfl⟩ := hv
      obtain ⟨h1, h2, h3⟩ := viewF_ok h0 hk
      exact ⟨by simp only [mkK]; exact .loop h1, by simpa only [loopsT] using h2, by simpa only [loopsT] using h3⟩
    · cases hv
  | .call fn d ops rest a :: K, [], ls, k, p, q, hv => by simp [viewF] at hv
  | .call fn d ops rest a :: K, f :: fs, ls, k, p, q, hv => by
    simp only [viewF] at hv
    split at hv
    · rename_i l hl
      split at hv
      · rename_i k' p' q' hk
        simp only [Option.some.injEq, Prod.mk.injEq] at hv; obtain ⟨rfl, rfl, rfl⟩ := hv
        obtain ⟨h1, h2, h3⟩ := viewF_ok h0 hk
        exact ⟨by simp only [mkK]; exact .call (tsub_of hl) h1, by simpa only [loopsT] using h2, by simpa only [loopsT] using h3⟩
      · cases hv
    · cases hv
  | .callD fn d ops m a :: K, [], ls, k, p, q, hv => by simp [viewF] at hv
  | .callD fn d ops m a :: K, f :: fs, ls, k, p, q, hv => by
    simp only [viewF] at hv
    split at hv
    · rename_i l hl
      split at hv
      · rename_i k' p' q' hk
        simp only [Option.some.injEq, Prod.mk.injEq] at hv; obtain ⟨rfl, rfl, rfl⟩ := hv
        obtain ⟨h1, h2, h3⟩ := viewF_ok h0 hk
        exact ⟨by simp only [mkK]; exact .callD (tsub_of hl) h1, by simpa only [loopsT] using h2, by simpa only [loopsT] using h3⟩
      · cases hv
    · cases hv
  | .rng fn b a :: K, [], ls, k, p, q, hv => by simp [viewF] at hv
  | .rng fn b a :: K, f :: fs, [], k, p, q, hv => by simp [viewF] at hv
  | .rng fn b a :: K, f :: fs, l :: ls, k, p, q, hv => by
    simp only [viewF] at hv
    split at hv
    · rename_i x ps asg body t hx hlt hg
      split at hv
      · rename_i y hy
        split at hv
        · rename_i k' p' q' hk
          simp only [Option.some.injEq, Prod.mk.injEq] at hv; obtain ⟨rfl, rfl, rfl⟩ := hv
          obtain ⟨h1, h2, h3⟩ := viewF_ok h0 hk
          have hlt : b < 1048576 := Nat.le_of_ble_eq_true hlt
          refine ⟨by simp only [mkK]; exact .rng (tsub_of hx) h1, ?_, ?_⟩
          · intro b' c hc
            simp only [loopsT] at hc
            rw [T.get_put _ _ _ _ _ (Nat.lt_succ_self _)] at hc
            by_cases q : b' = b
            · rw [if_pos q, Option.some.injEq] at hc; subst hc; subst q
              exact ⟨_, hg, .loop (tsub_of hy)⟩
            · rw [if_neg q] at hc; exact h2 b' c hc
          · intro b' hb'
            simp only [loopsT]
            rw [T.get_put _ _ _ _ _ (Nat.lt_succ_self _), if_neg (by omega)]; exact h3 b' hb'
        · cases hv
      · cases hv
    · rename_i x ps asg body t hx hlt hg
      split at hv
      · rename_i y hy
        split at hv
        · rename_i k' p' q' hk
          simp only [Option.some.injEq, Prod.mk.injEq] at hv; obtain ⟨rfl, rfl, rfl⟩ := hv
          obtain ⟨h1, h2, h3⟩ := viewF_ok h0 hk
          have hlt : b < 1048576 := Nat.le_of_ble_eq_true hlt
          refine ⟨by simp only [mkK]; exact .rng (tsub_of hx) h1, ?_, ?_⟩
          · intro b' c hc
            simp only [loopsT] at hc
            rw [T.get_put _ _ _ _ _ (Nat.lt_succ_self _)] at hc
            by_cases q : b' = b
            · rw [if_pos q, Option.some.injEq] at hc; subst hc; subst q
              exact ⟨_, hg, .loop (tsub_of hy)⟩
            · rw [if_neg q] at hc; exact h2 b' c hc
          · intro b' hb'
            simp only [loopsT]
            rw [T.get_put _ _ _ _ _ (Nat.lt_succ_self _), if_neg (by omega)]; exact h3 b' hb'
        · cases hv
      · cases hv
    · cases hv
  | .round b d ops rest a :: K, [], ls, k, p, q, hv => by simp [viewF] at hv
  | .round b d ops rest a :: K, f :: fs, ls, k, p, q, hv => by
    simp only [viewF] at hv
    split at hv
    · rename_i l hl
      split at hv
      · rename_i k' p' q' hk
        simp only [Option.some.injEq, Prod.mk.injEq] at hv; obtain ⟨rfl, rfl, rfl⟩ := hv
        obtain ⟨h1, h2, h3⟩ := viewF_ok h0 hk
        exact ⟨by simp only [mkK]; exact .round (tsub_of hl) h1, by simpa only [loopsT] using h2, by simpa only [loopsT] using h3⟩
      · cases hv
    · cases hv

noncomputable def view3 (L : List (Nat × List AV)) (ix : Ix3) (K : List Fr) (c : Cfg) : Option ((List FC × CC) × Pt) :=
  match viewF c.h K ix.frs.tail ix.lps, ccOf c, getAll c.a (ix.frs.headD []), getBs c.h ix.blks, Nat.beq c.h.lim 1048576 with
  | some (k, p, q), some d, some l, some bs, true => some ((k, d), { frs := (c.a.n, l) :: p, lps := q, next := c.h.next, blks := bs })
  | _, _, _, _, _ => none

def RunAt (P : Program) (fnTop : Func) (L : List (Nat × List AV)) (v0 : AV) (s : List FC × CC) (p : Pt) : Prop := Run P fnTop L v0 (mkK s.1 p.frs.tail) (mkC L p s.1 s.2)

theorem laid_sub {h : Heap} {L : List (Nat × List AV)} (hl : Vars L h) : ∀ b c, (laidTree L).get b = some c → ∃ d, h.t.get b = some d ∧ BSub c d := by
  intro b c hb
  rw [laidTree_get] at hb
  by_cases q : 1048576 ≤ b
  · rw [if_pos q] at hb
    cases ha : assocL L (b - 1048576) with
    | none => rw [ha] at hb; cases hb
    | some cs =>
      rw [ha] at hb; simp only [Option.map_some, Option.some.injEq] at hb; subst hb
      have := hl _ _ ha
      rw [show 1048576 + (b - 1048576) = b by omega] at this
      exact ⟨_, this, .refl _⟩
  · rw [if_neg q] at hb; cases hb

theorem run_view3 {P : Program} {fnTop : Func} {L : List (Nat × List AV)} {v0 : AV} {K : List Fr} {c : Cfg} {ix : Ix3} {s : List FC × CC} {p : Pt} (hv : view3 L ix K c = some (s, p)) (k : RunAt P fnTop L v0 s p) : Run P fnTop L v0 K c := by
  unfold RunAt at k
  simp only [view3] at hv
  split at hv
  · rename_i k' p' q' d l bl h1 h2 h3 h4 h5
    simp only [Option.some.injEq, Prod.mk.injEq] at hv; obtain ⟨rfl, rfl⟩ := hv
    have i12 := fun (V : Vars L c.h) => getBs_ok (laid_sub V) h4
    have q23 := fun (V : Vars L c.h) => viewF_ok (i12 V).1 h1
    have q1 := (viewF_ok (t0 := .leaf) (fun b c hc => by simp [T.get] at hc) h1).1
    have hT : TSub (tmpsOf (c.a.n, l)) c.a := tsub_of h3
    have hH : Vars L c.h → HSub (ptH L { frs := (c.a.n, l) :: p', lps := q', next := c.h.next, blks := bl } k') c.h := fun V =>
      ⟨rfl, (Nat.eq_of_beq_eq_true h5).symm, fun b c hc => (q23 V).2.1 b c hc⟩
    have hl : Vars L c.h → Vars L (ptH L { frs := (c.a.n, l) :: p', lps := q', next := c.h.next, blks := bl } k') := by
      intro V g x hg
      simp only [ptH]
      rw [(q23 V).2.2 _ (Nat.le_add_right _ _), (i12 V).2 _ (Nat.le_add_right _ _), laidTree_get, if_pos (Nat.le_add_right _ _), show 1048576 + g - 1048576 = g by omega, hg]; rfl
    cases c with
    | code cd a h => simp only [ccOf, Option.some.injEq] at h2; subst h2; exact .weak q1 (fun V => ⟨.code hT (hH V), hl V⟩) k
    | head x a h => simp only [ccOf, Option.some.injEq] at h2; subst h2; exact .weak q1 (fun V => ⟨.head hT (hH V), hl V⟩) k
    | ops o r a h => simp only [ccOf, Option.some.injEq] at h2; subst h2; exact .weak q1 (fun V => ⟨.ops hT (hH V), hl V⟩) k
    | opsD o r a h => simp only [ccOf, Option.some.injEq] at h2; subst h2; exact .weak q1 (fun V => ⟨.opsD hT (hH V), hl V⟩) k
    | fin ex a h => cases h2
  · cases hv

/-! other numbers -/
def assocN : List (Nat × Nat) → Nat → Option Nat
  | [], _ => none
  | (o, n) :: r, b => match Nat.beq o b with
    | true => some n
    | false => assocN r b
def tauOf (T : List (Nat × Nat)) (b : Nat) : Option Nat := match Nat.ble 1048576 b with
  | true => some b
  | false => assocN T b
def renSlots (τ : Nat → Option Nat) : List (Nat × AV) → Option (List (Nat × AV))
  | [] => some []
  | (t, v) :: r => match mapAV τ v, renSlots τ r with
    | some u, some s => some ((t, u) :: s)
    | _, _ => none
def renFrs (τ : Nat → Option Nat) : List (Nat × List (Nat × AV)) → Option (List (Nat × List (Nat × AV)))
  | [] => some []
  | (n, l) :: r => match renSlots τ l, renFrs τ r with
    | some u, some s => some ((n, u) :: s)
    | _, _ => none
def renBlk (τ : Nat → Option Nat) (pure : Bool) : Blk → Option Blk
  | .cells t cs opn => match pure with
    | true => some (.cells t cs opn)
    | false => match mapAVs τ cs with
      | some ds => some (.cells t ds opn)
      | none => none
  | .map es clock => match mapEs τ es with
    | some es' => some (.map es' clock)
    | none => none
  | .dead => some .dead
  | .iter m clk S => match τ m with
    | some m1 => some (.iter m1 clk S)
    | none => none
  | _ => none
def renBlks (τ : Nat → Option Nat) (op : List Nat) : List (Nat × Blk) → Option (List (Nat × Blk))
  | [] => some []
  | (b, c) :: r => match τ b, renBlk τ (memN b op) c, renBlks τ op r with
    | some b', some c', some s => some ((b', c') :: s)
    | _, _, _ => none
def fixB (τ : Nat → Option Nat) (b : Nat) : Bool := match τ b with
  | some c => Nat.beq b c && Nat.blt b 1048576
  | none => false
theorem fixB_ok {τ : Nat → Option Nat} {b : Nat} (h : fixB τ b = true) : τ b = some b ∧ b < 1048576 := by
  unfold fixB at h
  split at h
  · rename_i c hc
    simp only [Bool.and_eq_true] at h
    exact ⟨by rw [hc, Nat.eq_of_beq_eq_true h.1], Nat.le_of_ble_eq_true h.2⟩
  · cases h
def fixK (τ : Nat → Option Nat) : List FC → Bool
  | [] => true
  | .rng _ b _ _ _ _ :: K => fixB τ b && fixK τ K
  | .round b _ _ _ :: K => fixB τ b && fixK τ K
  | .seq _ :: K => fixK τ K
  | .block _ :: K => fixK τ K
  | .scp :: K => fixK τ K
  | .loop _ :: K => fixK τ K
  | .call .. :: K => fixK τ K
  | .callD .. :: K => fixK τ K
def freshN (n : Nat) : List (Nat × Nat) → Bool
  | [] => true
  | (_, m) :: r => !Nat.beq n m && freshN n r
def okTab (nx : Nat) : List (Nat × Nat) → Bool
  | [] => Nat.ble nx 1048576
  | (o, n) :: r => Nat.blt o 1048576 && (Nat.blt n nx && (freshN n r && okTab nx r))
def renP (T : List (Nat × Nat)) (nx : Nat) (op : List Nat) (k : List FC) (p : Pt) : Option Pt :=
  match renFrs (tauOf T) p.frs, renFrs (tauOf T) p.lps, renBlks (tauOf T) op p.blks, okTab nx T && fixK (tauOf T) k with
  | some f, some l, some b, true => some { frs := f, lps := l, next := nx, blks := b }
  | _, _, _, _ => none
/-- the contents that are not looked into lead to no memory -/
def pureP (op : List Nat) (Q : Prop) : List (Nat × Blk) → Prop
  | [] => Q
  | (b, .cells _ cs _) :: r => match memN b op with
    | true => pureAVs cs = true ∧ pureP op Q r
    | false => pureP op Q r
  | (_, _) :: r => pureP op Q r

theorem okTab_nx {nx : Nat} : ∀ {T : List (Nat × Nat)}, okTab nx T = true → nx ≤ 1048576
  | [], h => Nat.le_of_ble_eq_true h
  | (o, n) :: r, h => by
    simp only [okTab, Bool.and_eq_true] at h
    exact okTab_nx h.2.2.2
theorem assocN_lt {nx : Nat} : ∀ {T : List (Nat × Nat)}, okTab nx T = true → ∀ {o n : Nat}, assocN T o = some n → o < 1048576 ∧ n < nx
  | [], _, o, n, h => by cases h
  | (o', n') :: r, hT, o, n, h => by
    simp only [okTab, Bool.and_eq_true] at hT
    simp only [assocN] at h
    split at h
    · rename_i hq
      have hq := Nat.eq_of_beq_eq_true hq; subst hq
      simp only [Option.some.injEq] at h; subst h
      exact ⟨Nat.le_of_ble_eq_true hT.1, Nat.le_of_ble_eq_true hT.2.1⟩
    · exact assocN_lt hT.2.2.2 h
theorem freshN_ok {n : Nat} : ∀ {T : List (Nat × Nat)}, freshN n T = true → ∀ {o : Nat}, assocN T o ≠ some n
  | [], _, o, h => by cases h
  | (o', n') :: r, hT, o, h => by
    simp only [freshN, Bool.and_eq_true, Bool.not_eq_true'] at hT
    simp only [assocN] at h
    split at h
    · simp only [Option.some.injEq] at h; subst h
      have := hT.1; rw [Nat.beq_refl] at this; cases this
    · exact freshN_ok hT.2 h
theorem assocN_inj {nx : Nat} : ∀ {T : List (Nat × Nat)}, okTab nx T = true → ∀ {o o' n : Nat}, assocN T o = some n → assocN T o' = some n → o = o'
  | [], _, o, o', n, h, _ => by cases h
  | (p, m) :: r, hT, o, o', n, h, h' => by
    simp only [okTab, Bool.and_eq_true] at hT
    simp only [assocN] at h h'
    split at h
    · rename_i q1
      simp only [Option.some.injEq] at h; subst h
      split at h'
      · rename_i q2
        rw [← Nat.eq_of_beq_eq_true q1, ← Nat.eq_of_beq_eq_true q2]
      · exact absurd h' (freshN_ok hT.2.2.1)
    · split at h'
      · simp only [Option.some.injEq] at h'; subst h'
        exact absurd h (freshN_ok hT.2.2.1)
      · exact assocN_inj hT.2.2.2 h h'
theorem tau_glob (T : List (Nat × Nat)) {b : Nat} (h : 1048576 ≤ b) : tauOf T b = some b := by
  unfold tauOf; rw [Nat.ble_eq_true_of_le h]
theorem tau_low {T : List (Nat × Nat)} {b : Nat} (h : b < 1048576) : tauOf T b = assocN T b := by
  unfold tauOf
  have : Nat.ble 1048576 b = false := by
    cases hq : Nat.ble 1048576 b with
    | false => rfl
    | true => have := Nat.le_of_ble_eq_true hq; omega
  rw [this]
theorem tau_inj {nx : Nat} {T : List (Nat × Nat)} (h : okTab nx T = true) : TInj (tauOf T) := by
  intro o o' j h1 h2
  have hnx := okTab_nx h
  rcases Nat.lt_or_ge o 1048576 with q1 | q1 <;> rcases Nat.lt_or_ge o' 1048576 with q2 | q2
  · rw [tau_low q1] at h1; rw [tau_low q2] at h2; exact assocN_inj h h1 h2
  · rw [tau_low q1] at h1; rw [tau_glob T q2] at h2
    have := (assocN_lt h h1).2
    simp only [Option.some.injEq] at h2; omega
  · rw [tau_glob T q1] at h1; rw [tau_low q2] at h2
    have := (assocN_lt h h2).2
    simp only [Option.some.injEq] at h1; omega
  · rw [tau_glob T q1] at h1; rw [tau_glob T q2] at h2
    simp only [Option.some.injEq] at h1 h2; omega
theorem renSlots_ok {τ : Nat → Option Nat} : ∀ {l m : List (Nat × AV)}, renSlots τ l = some m → ∀ t v1, (slotsT m).get t = some v1 → ∃ v, (slotsT l).get t = some v ∧ mapAV τ v = some v1
  | [], m, h, t, v1, hv => by simp only [renSlots, Option.some.injEq] at h; subst h; simp [slotsT, T.get] at hv
  | (s, u) :: r, m, h, t, v1, hv => by
    simp only [renSlots] at h
    split at h
    · rename_i u' r' hu hr
      simp only [Option.some.injEq] at h; subst h
      simp only [slotsT] at hv ⊢
      rw [T.get_put _ _ _ _ _ (Nat.lt_succ_self _)] at hv ⊢
      by_cases q : t = s
      · rw [if_pos q, Option.some.injEq] at hv; subst hv
        exact ⟨u, by rw [if_pos q], hu⟩
      · rw [if_neg q] at hv
        obtain ⟨v, k1, k2⟩ := renSlots_ok hr t v1 hv
        exact ⟨v, by rw [if_neg q]; exact k1, k2⟩
    · cases h
theorem tmpsOf_get {n : Nat} {l : List (Nat × AV)} {t : Nat} : (tmpsOf (n, l)).get t = (slotsT l).get t := by
  simp only [Tmps.get, tmpsOf]
  cases (slotsT l).get t <;> rfl
theorem ren_tmps {τ : Nat → Option Nat} {n : Nat} {l m : List (Nat × AV)} (h : renSlots τ l = some m) : TRen τ (tmpsOf (n, m)) (tmpsOf (n, l)) :=
  ⟨rfl, fun t v1 hv => by rw [tmpsOf_get] at hv; obtain ⟨v, k1, k2⟩ := renSlots_ok h t v1 hv; exact ⟨v, by rw [tmpsOf_get]; exact k1, k2⟩⟩
theorem ren_K {τ : Nat → Option Nat} : ∀ {k : List FC} {fs gs : List (Nat × List (Nat × AV))}, fixK τ k = true → renFrs τ fs = some gs → KRen τ (mkK k gs) (mkK k fs)
  | [], fs, gs, _, _ => by simp only [mkK]; exact .nil
  | .seq y :: K, fs, gs, hf, hr => by simp only [mkK]; exact .seq (ren_K hf hr)
  | .block y :: K, fs, gs, hf, hr => by simp only [mkK]; exact .block (ren_K hf hr)
  | .scp :: K, fs, gs, hf, hr => by simp only [mkK]; exact .scp (ren_K hf hr)
  | .loop y :: K, fs, gs, hf, hr => by simp only [mkK]; exact .loop (ren_K hf hr)
  | .call fn d ops rest :: K, [], gs, hf, hr => by simp only [renFrs, Option.some.injEq] at hr; subst hr; simp only [mkK]; exact .nil
  | .call fn d ops rest :: K, (n, l) :: fs, gs, hf, hr => by
    simp only [renFrs] at hr
    split at hr
    · rename_i u s hu hs
      simp only [Option.some.injEq] at hr; subst hr
      simp only [mkK]; exact .call (ren_tmps hu) (ren_K hf hs)
    · cases hr
  | .callD fn d ops m :: K, [], gs, hf, hr => by simp only [renFrs, Option.some.injEq] at hr; subst hr; simp only [mkK]; exact .nil
  | .callD fn d ops m :: K, (n, l) :: fs, gs, hf, hr => by
    simp only [renFrs] at hr
    split at hr
    · rename_i u s hu hs
      simp only [Option.some.injEq] at hr; subst hr
      simp only [mkK]; exact .callD (ren_tmps hu) (ren_K hf hs)
    · cases hr
  | .rng fn b ps asg body bs :: K, [], gs, hf, hr => by simp only [renFrs, Option.some.injEq] at hr; subst hr; simp only [mkK]; exact .nil
  | .rng fn b ps asg body bs :: K, (n, l) :: fs, gs, hf, hr => by
    simp only [renFrs] at hr
    split at hr
    · rename_i u s hu hs
      simp only [Option.some.injEq] at hr; subst hr
      simp only [fixK, Bool.and_eq_true] at hf
      have hb : τ b = some b := (fixB_ok hf.1).1
      simp only [mkK]; exact .rng hb (ren_tmps hu) (ren_K hf.2 hs)
    · cases hr
  | .round b d ops rest :: K, [], gs, hf, hr => by simp only [renFrs, Option.some.injEq] at hr; subst hr; simp only [mkK]; exact .nil
  | .round b d ops rest :: K, (n, l) :: fs, gs, hf, hr => by
    simp only [renFrs] at hr
    split at hr
    · rename_i u s hu hs
      simp only [Option.some.injEq] at hr; subst hr
      simp only [fixK, Bool.and_eq_true] at hf
      have hb : τ b = some b := (fixB_ok hf.1).1
      simp only [mkK]; exact .round hb (ren_tmps hu) (ren_K hf.2 hs)
    · cases hr
theorem ren_blks {τ : Nat → Option Nat} {op : List Nat} {Q : Prop} {t0 : T Blk} (h0 : ∀ j c, t0.get j = some c → τ j = some j ∧ BRen τ c c) (hi : TInj τ) : ∀ {l m : List (Nat × Blk)}, renBlks τ op l = some m → pureP op Q l →
    (∀ j c1, (blksT t0 m).get j = some c1 → ∃ o c, τ o = some j ∧ (blksT t0 l).get o = some c ∧ BRen τ c c1) ∧ Q
  | [], m, h, hp => by
    simp only [renBlks, Option.some.injEq] at h; subst h
    exact ⟨fun j c1 hj => ⟨j, c1, (h0 j c1 hj).1, hj, (h0 j c1 hj).2⟩, hp⟩
  | (b, c) :: r, m, h, hp => by
    simp only [renBlks] at h
    split at h
    · rename_i b' c' s hb hc hs
      simp only [Option.some.injEq] at h; subst h
      have key : pureP op Q r ∧ BRen τ c c' := by
        cases c with
        | cells t cs opn =>
          simp only [pureP] at hp
          simp only [renBlk] at hc
          cases hm : memN b op with
          | true =>
            rw [hm] at hp hc
            simp only [Option.some.injEq] at hc; subst hc
            exact ⟨hp.2, .pure hp.1⟩
          | false =>
            rw [hm] at hp hc
            simp only at hc
            split at hc
            · rename_i ds hd
              simp only [Option.some.injEq] at hc; subst hc
              exact ⟨hp, .cells hd⟩
            · cases hc
        | map es clock =>
          simp only [renBlk] at hc
          split at hc
          · rename_i es' he
            simp only [Option.some.injEq] at hc; subst hc
            exact ⟨hp, .map he⟩
          · cases hc
        | dead => simp only [renBlk, Option.some.injEq] at hc; subst hc; exact ⟨hp, .dead⟩
        | ro cs => simp only [renBlk] at hc; cases hc
        | loop => simp only [renBlk] at hc; cases hc
        | iter m clk Sn =>
          simp only [renBlk] at hc
          split at hc
          · rename_i m1 he
            simp only [Option.some.injEq] at hc; subst hc
            exact ⟨hp, .iter he⟩
          · cases hc
      obtain ⟨ih, hQ⟩ := ren_blks h0 hi hs key.1
      refine ⟨fun j c1 hj => ?_, hQ⟩
      simp only [blksT] at hj ⊢
      rw [_root_.Go.Sx.T.get_put _ _ _ _ _ (Nat.lt_succ_self _)] at hj
      by_cases q : j = b'
      · rw [if_pos q, Option.some.injEq] at hj; subst hj; subst q
        refine ⟨b, c, hb, ?_, key.2⟩
        rw [_root_.Go.Sx.T.get_put _ _ _ _ _ (Nat.lt_succ_self _), if_pos rfl]
      · rw [if_neg q] at hj
        obtain ⟨o, d, k1, k2, k3⟩ := ih j c1 hj
        refine ⟨o, d, k1, ?_, k3⟩
        rw [_root_.Go.Sx.T.get_put _ _ _ _ _ (Nat.lt_succ_self _), if_neg ?_]
        · exact k2
        · rintro rfl
          rw [hb] at k1; exact q (Option.some.inj k1).symm
    · cases h
theorem ren_loops {τ : Nat → Option Nat} {t t' : T Blk} (h0 : ∀ j c1, t'.get j = some c1 → ∃ o c, τ o = some j ∧ t.get o = some c ∧ BRen τ c c1) : ∀ {k : List FC} {ls ms : List (Nat × List (Nat × AV))}, fixK τ k = true → renFrs τ ls = some ms →
    ∀ j c1, (loopsT k ms t').get j = some c1 → ∃ o c, τ o = some j ∧ (loopsT k ls t).get o = some c ∧ BRen τ c c1
  | [], ls, ms, _, _ => by simpa only [loopsT] using h0
  | .seq y :: K, ls, ms, hf, hr => by simp only [loopsT]; exact ren_loops h0 (k := K) hf hr
  | .block y :: K, ls, ms, hf, hr => by simp only [loopsT]; exact ren_loops h0 (k := K) hf hr
  | .scp :: K, ls, ms, hf, hr => by simp only [loopsT]; exact ren_loops h0 (k := K) hf hr
  | .loop y :: K, ls, ms, hf, hr => by simp only [loopsT]; exact ren_loops h0 (k := K) hf hr
  | .call .. :: K, ls, ms, hf, hr => by simp only [loopsT]; exact ren_loops h0 (k := K) hf hr
  | .callD .. :: K, ls, ms, hf, hr => by simp only [loopsT]; exact ren_loops h0 (k := K) hf hr
  | .round b d ops rest :: K, ls, ms, hf, hr => by
    simp only [fixK, Bool.and_eq_true] at hf
    simp only [loopsT]; exact ren_loops h0 (k := K) hf.2 hr
  | .rng fn b ps asg body bs :: K, [], ms, hf, hr => by simp only [renFrs, Option.some.injEq] at hr; subst hr; simpa only [loopsT] using h0
  | .rng fn b ps asg body bs :: K, (n, l) :: ls, ms, hf, hr => by
    simp only [renFrs] at hr
    split at hr
    · rename_i u s hu hs
      simp only [Option.some.injEq] at hr; subst hr
      simp only [fixK, Bool.and_eq_true] at hf
      have hb : τ b = some b := (fixB_ok hf.1).1
      have ih := ren_loops h0 (k := K) hf.2 hs
      intro j c1 hj
      simp only [loopsT] at hj ⊢
      rw [_root_.Go.Sx.T.get_put _ _ _ _ _ (Nat.lt_succ_self _)] at hj
      by_cases q : j = b
      · rw [if_pos q, Option.some.injEq] at hj; subst hj; subst q
        refine ⟨j, _, hb, ?_, .loop (ren_tmps hu)⟩
        rw [_root_.Go.Sx.T.get_put _ _ _ _ _ (Nat.lt_succ_self _), if_pos rfl]
      · rw [if_neg q] at hj
        obtain ⟨o, d, k1, k2, k3⟩ := ih j c1 hj
        refine ⟨o, d, k1, ?_, k3⟩
        rw [_root_.Go.Sx.T.get_put _ _ _ _ _ (Nat.lt_succ_self _), if_neg ?_]
        · exact k2
        · rintro rfl
          rw [hb] at k1; exact q (Option.some.inj k1).symm
    · cases hr
theorem blksT_high {t0 : T Blk} {j : Nat} (hj : 1048576 ≤ j) : ∀ {l : List (Nat × Blk)}, (∀ x, x ∈ l → x.1 < 1048576) → (blksT t0 l).get j = t0.get j
  | [], _ => rfl
  | (b, c) :: r, h => by
    have hb : b < 1048576 := h (b, c) (List.mem_cons_self)
    simp only [blksT]
    rw [_root_.Go.Sx.T.get_put _ _ _ _ _ (Nat.lt_succ_self _), if_neg (by omega)]
    exact blksT_high hj (fun x hx => h x (List.mem_cons_of_mem _ hx))
theorem renBlks_low {T : List (Nat × Nat)} {nx : Nat} {op : List Nat} (hT : okTab nx T = true) : ∀ {l m : List (Nat × Blk)}, renBlks (tauOf T) op l = some m → (∀ x, x ∈ l → x.1 < 1048576) → ∀ x, x ∈ m → x.1 < 1048576
  | [], m, h, _, x, hx => by simp only [renBlks, Option.some.injEq] at h; subst h; cases hx
  | (b, c) :: r, m, h, hl, x, hx => by
    simp only [renBlks] at h
    split at h
    · rename_i b' c' s hb hc hs
      simp only [Option.some.injEq] at h; subst h
      rcases List.mem_cons.1 hx with rfl | hx
      · have hb0 : b < 1048576 := hl (b, c) (List.mem_cons_self)
        rw [tau_low hb0] at hb
        have := (assocN_lt hT hb).2
        have := okTab_nx hT
        simp only; omega
      · exact renBlks_low hT hs (fun x hx => hl x (List.mem_cons_of_mem _ hx)) x hx
    · cases h
theorem loopsT_high {t0 : T Blk} {j : Nat} (hj : 1048576 ≤ j) {τ : Nat → Option Nat} : ∀ {k : List FC} {ls : List (Nat × List (Nat × AV))}, fixK τ k = true → (loopsT k ls t0).get j = t0.get j := by
  intro k
  induction k with
  | nil => intro ls _; rfl
  | cons x K ih =>
    intro ls hf
    cases x with
    | seq y => simp only [loopsT]; exact ih hf
    | block y => simp only [loopsT]; exact ih hf
    | scp => simp only [loopsT]; exact ih hf
    | loop y => simp only [loopsT]; exact ih hf
    | call => simp only [loopsT]; exact ih hf
    | callD => simp only [loopsT]; exact ih hf
    | round b => simp only [fixK, Bool.and_eq_true] at hf; simp only [loopsT]; exact ih hf.2
    | rng fn b ps asg body bs =>
      cases ls with
      | nil => rfl
      | cons f fs =>
        simp only [fixK, Bool.and_eq_true] at hf
        simp only [loopsT]
        have := (fixB_ok hf.1).2
        rw [_root_.Go.Sx.T.get_put _ _ _ _ _ (Nat.lt_succ_self _), if_neg (by omega)]
        exact ih hf.2
def lowB : List (Nat × Blk) → Bool
  | [] => true
  | (b, _) :: r => Nat.blt b 1048576 && lowB r
theorem lowB_ok : ∀ {l : List (Nat × Blk)}, lowB l = true → ∀ x, x ∈ l → x.1 < 1048576
  | [], _, x, hx => by cases hx
  | (b, c) :: r, h, x, hx => by
    simp only [lowB, Bool.and_eq_true] at h
    rcases List.mem_cons.1 hx with rfl | hx
    · exact Nat.le_of_ble_eq_true h.1
    · exact lowB_ok h.2 x hx
theorem run_ren {P : Program} {fnTop : Func} {L : List (Nat × List AV)} (hL : (L.all fun x => pureAVs x.2) = true) {v0 : AV} {T : List (Nat × Nat)} {nx : Nat} {op : List Nat} {s : List FC × CC} {p p' : Pt} (hr : renP T nx op s.1 p = some p') (hlow : lowB p.blks = true)
    (hp : pureP op (RunAt P fnTop L v0 s p') p.blks) (hfr : p.frs ≠ []) : RunAt P fnTop L v0 s p := by
  unfold renP at hr
  split at hr
  · rename_i f l b h1 h2 h3 h4
    simp only [Option.some.injEq] at hr; subst hr
    simp only [Bool.and_eq_true] at h4
    have hi := tau_inj h4.1
    have hvars : ∀ j c, (laidTree L).get j = some c → tauOf T j = some j ∧ BRen (tauOf T) c c := by
      intro j c hj
      rw [laidTree_get] at hj
      by_cases q : 1048576 ≤ j
      · rw [if_pos q] at hj
        cases ha : assocL L (j - 1048576) with
        | none => rw [ha] at hj; cases hj
        | some cs =>
          rw [ha] at hj; simp only [Option.map_some, Option.some.injEq] at hj; subst hj
          refine ⟨tau_glob T q, .ro ?_⟩
          clear h1 h2 h3 h4 hi hp hlow
          induction L with
          | nil => cases ha
          | cons x xs ih =>
            simp only [List.all_cons, Bool.and_eq_true] at hL
            simp only [assocL] at ha
            split at ha
            · simp only [Option.some.injEq] at ha; subst ha; exact hL.1
            · exact ih hL.2 ha
      · rw [if_neg q] at hj; cases hj
    obtain ⟨hb, hrun⟩ := ren_blks hvars hi h3 hp
    have hl := ren_loops hb h4.2 h2
    have low' := renBlks_low h4.1 h3 (lowB_ok hlow)
    have hH : HRen (tauOf T) (ptH L { frs := f, lps := l, next := nx, blks := b } s.1) (ptH L p s.1) := by
      refine ⟨rfl, hi, fun o j ho hj => ?_, okTab_nx h4.1, fun b hb => tau_glob T hb, hl⟩
      have hj : j < 1048576 := hj
      rcases Nat.lt_or_ge o 1048576 with q | q
      · rw [tau_low q] at ho; exact (assocN_lt h4.1 ho).2
      · rw [tau_glob T q] at ho; simp only [Option.some.injEq] at ho; omega
    have hlaid : ∀ g x, assocL L g = some x → (ptH L { frs := f, lps := l, next := nx, blks := b } s.1).t.get (1048576 + g) = some (.ro x) := by
      intro g x hg
      simp only [ptH]
      rw [loopsT_high (Nat.le_add_right _ _) h4.2, blksT_high (Nat.le_add_right _ _) low', laidTree_get, if_pos (Nat.le_add_right _ _), show 1048576 + g - 1048576 = g by omega, hg]; rfl
    cases hfs : p.frs with
    | nil => exact absurd hfs hfr
    | cons x xs =>
      obtain ⟨n, sl⟩ := x
      rw [hfs] at h1
      simp only [renFrs] at h1
      split at h1
      · rename_i u r hu hrs
        simp only [Option.some.injEq] at h1; subst h1
        have hK : KRen (tauOf T) (mkK s.1 r) (mkK s.1 xs) := ren_K h4.2 hrs
        have hT : TRen (tauOf T) (tmpsOf (n, u)) (tmpsOf (n, sl)) := ren_tmps hu
        unfold RunAt at hrun ⊢
        rw [hfs]
        simp only [List.tail_cons] at hrun ⊢
        have hh : (p.frs.headD (0, [])) = (n, sl) := by rw [hfs]; rfl
        cases hs : s.2 with
        | code cd => rw [hs] at hrun; simp only [mkC, hh] at hrun ⊢; exact .ren hK (.code hT hH) hlaid hrun
        | head cd => rw [hs] at hrun; simp only [mkC, hh] at hrun ⊢; exact .ren hK (.head hT hH) hlaid hrun
        | ops o rs => rw [hs] at hrun; simp only [mkC, hh] at hrun ⊢; exact .ren hK (.ops hT hH) hlaid hrun
        | opsD o rs => rw [hs] at hrun; simp only [mkC, hh] at hrun ⊢; exact .ren hK (.opsD hT hH) hlaid hrun
      · cases h1
  · cases hr

/-! the formula -/
def BR (b : Bool) (X Y : Prop) : Prop := (b = true → X) ∧ (b = false → Y)
def AN (b : Bool) (X : Prop) : Prop := b = true ∧ X
def IM (b : Bool) (X : Prop) : Prop := b = true → X
/-! regions that draw their order -/
noncomputable def drOf (P : Program) (L : List (Nat × List AV)) (cs : List DCh) : Cfg → Option (Bool × List UseF × Cfg)
  | .code (.region _ ops true) a h => match P.follows .mixedOrders, masksF ops.toList [] with
    | true, some ms => match drawC P L (codeN P 100000) ops ms a h (ops.toList.take (cutAt ms ops.toList.length)) cs [] h.next with
      | some (b, fs, es, base) => match chkAll ms [] es && unwritten L (keysOf es ++ h.wr) with
        | true => some (b, fs, .ops ops (ops.toList.drop (cutAt ms ops.toList.length)) (tmpsD (fun _ => true) es 0 a) { next := base, lim := h.lim, wr := [], t := heapT (fun _ => true) es 0 h.t })
        | false => none
      | none => none
    | _, _ => none
  | _ => none
def FS (P : Program) (L : List (Nat × List AV)) (Q : Prop) : List UseF → Prop
  | [] => Q
  | (f, args, v, M) :: r => Fact P (M ++ progVars L) f args v ∧ FS P L Q r
theorem FS_ok {P : Program} {L : List (Nat × List AV)} {Q : Prop} : ∀ {fs : List UseF}, FS P L Q fs → factsIn P L fs ∧ Q
  | [], h => ⟨(fun x hx => by cases hx), h⟩
  | (f, args, v, M) :: r, h => by
    obtain ⟨h1, h2⟩ := FS_ok h.2
    refine ⟨fun x hx => ?_, h2⟩
    rcases List.mem_cons.1 hx with rfl | hx
    · exact h.1
    · exact h1 x hx
theorem dr_ok {P : Program} {fnTop : Func} {L : List (Nat × List AV)} {v0 : AV} {cs : List DCh} {K : List Fr} {c c' : Cfg} {b : Bool} {fs : List UseF} (hs : drOf P L cs c = some (b, fs, c')) (hb : b = true) (hF : factsIn P L fs) (r : Run P fnTop L v0 K c') : Run P fnTop L v0 K c := by
  unfold drOf at hs
  split at hs
  · rename_i id ops a h
    split at hs
    · rename_i ms hmx hms
      split at hs
      · rename_i b1 fs1 es base hd
        split at hs
        · rename_i hq
          simp only [Bool.and_eq_true] at hq
          simp only [Option.some.injEq, Prod.mk.injEq] at hs; obtain ⟨rfl, rfl, rfl⟩ := hs
          obtain ⟨c1, c2⟩ := cutAt_ok (ms := ms) (n := ops.toList.length)
          refine .drawnC (List.take_append_drop _ _).symm hmx hms hd hb hF hq.1 (fun i o hi ho => fullMask_ok (c2 i ?_ (getElem?_lt ho))) hq.2 r
          rw [List.length_take] at hi; omega
        · cases hs
      · cases hs
    · cases hs
  · cases hs
inductive Scr where
  | stop (ix : Ix3) (T : List (Nat × Nat)) (nx : Nat) (op : List Nat)
  | ans
  | dead
  | st (bs : List Nat) (S : Scr)
  | br (t : Nat) (S T : Scr)
  | split (b : Bool) (S T : Scr)
  | use (bs : List Nat) (v : AV) (S : Scr)
  | sp (k : Nat) (S : Scr)
  | dr (cs : List DCh) (S : Scr)
  /-- a segment of a region that draws its order -/
  | sg (len : Nat) (cs : List DCh) (S : Scr)
  /-- a range over a map begins; the entry that it came to -/
  | mi (S : Scr)
  /-- the next way of a range over a map: its end first, then each entry; and the ways after it -/
  | pk (S T : Scr)
  | pe

/-! ranges over maps -/
noncomputable def pkI (L : List (Nat × List AV)) : Cfg → Option (Array Oper × List Oper × Tmps × Option Nat × Heap × Nat × Nat × Nat × List Nat × List (AV × AV × Nat))
  | .ops ops (o :: rest) a h => match o.op with
    | .next x false => match wantedA ops o a, evalA a x with
      | some true, some (.ptr b 0) => match h.get b with
        | some (.iter m clk S) => match h.get m with
          | some (.map es c) => match Nat.beq c clk, bornB clk es, unwritten L (b :: h.wr) with
            | true, true, true => some (ops, rest, a, o.dst, h, b, m, clk, S, es)
            | _, _, _ => none
          | _ => none
        | _ => none
      | _, _ => none
    | _ => none
  | _ => none
def pkW (i : Nat) : Array Oper × List Oper × Tmps × Option Nat × Heap × Nat × Nat × Nat × List Nat × List (AV × AV × Nat) → Option (Bool × Cfg)
  | (ops, rest, a, d, h, b, m, clk, S, es) => match i with
    | 0 => some (allSeen S es, .ops ops rest (put a d (.tup [.bool false])) h)
    | i + 1 => match nth es i with
      | some e => some (not (seenN e.2.2 S), .ops ops rest (put a d (.tup [.bool true, e.1, e.2.1])) (h.set b (.iter m clk (e.2.2 :: S))).fresh)
      | none => none
noncomputable def pkOf (L : List (Nat × List AV)) (i : Nat) (c : Cfg) : Option (Bool × Cfg) := match pkI L c with
  | some t => pkW i t
  | none => none
noncomputable def miOf (P : Program) (L : List (Nat × List AV)) : Cfg → Option Cfg
  | .ops ops (o :: rest) a h => match o.op with
    | .range ty x => match wantedA ops o a, Nat.blt h.next h.lim, isMapT P ty, evalA a x with
      | some true, true, true, some (.map m) => match h.get m with
        | some (.map _ clk) => match unwritten L h.wr with
          | true => some (.ops ops rest (put a o.dst (.ptr h.next 0)) (h.push (.iter m clk [])).fresh)
          | false => none
        | _ => none
      | _, _, _, _ => none
    | .entry x => match wantedA ops o a, evalA a x with
      | some true, some (.ptr b 0) => match h.get b with
        | some (.iter m clk (n :: _)) => match h.get m with
          | some (.map es c) => match Nat.beq c clk, findBorn n es, unwritten L h.wr with
            | true, some e, true => some (.ops ops rest (put a o.dst (.tup [e.1, e.2.1])) h.fresh)
            | _, _, _ => none
          | _ => none
        | _ => none
      | _, _ => none
    | _ => none
  | _ => none
theorem mi_ok {P : Program} {fnTop : Func} {L : List (Nat × List AV)} {v0 : AV} {K : List Fr} {c c' : Cfg} (hs : miOf P L c = some c') (r : Run P fnTop L v0 K c') : Run P fnTop L v0 K c := by
  unfold miOf at hs
  split at hs
  · rename_i ops o rest a h
    split at hs
    · rename_i ty x ho
      split at hs
      · rename_i m hw hl ht hx
        split at hs
        · rename_i es clk hm
          split at hs
          · rename_i hu
            simp only [Option.some.injEq] at hs; subst hs
            exact .rangeM hw (Nat.le_of_ble_eq_true hl) ho ht hx hm hu r
          · cases hs
        · cases hs
      · cases hs
    · rename_i x ho
      split at hs
      · rename_i b hw hx
        split at hs
        · rename_i m clk n S hb
          split at hs
          · rename_i es c hm
            split at hs
            · rename_i e hc hf hu
              have hc := Nat.eq_of_beq_eq_true hc; subst hc
              simp only [Option.some.injEq] at hs; subst hs
              exact .entryM hw ho hx hb hm hf hu r
            · cases hs
          · cases hs
        · cases hs
      · cases hs
    · cases hs
  · cases hs
theorem pk_none {L : List (Nat × List AV)} {i : Nat} {c : Cfg} {y : Bool × Cfg} (h0 : pkOf L 0 c = some y) (hi : pkOf L i c = none) : ∀ j, i ≤ j → pkOf L j c = none := by
  intro j hj
  unfold pkOf at *
  cases ht : pkI L c with
  | none => simp only [ht] at h0 <;> cases h0
  | some t =>
    simp only [ht] at hi ⊢
    obtain ⟨ops, rest, a, d, h, b, m, clk, S, es⟩ := t
    cases i with
    | zero => simp only [pkW] at hi <;> cases hi
    | succ i =>
      cases j with
      | zero => omega
      | succ j =>
        simp only [pkW] at hi ⊢
        split at hi
        · cases hi
        · rename_i q
          rw [nth_eq] at q
          have : nth es j = none := by
            rw [nth_eq]
            rw [List.getElem?_eq_none_iff] at q ⊢; omega
          rw [this]
theorem pk_ok {P : Program} {fnTop : Func} {L : List (Nat × List AV)} {v0 : AV} {K : List Fr} {c : Cfg} {y : Bool × Cfg} (h0 : pkOf L 0 c = some y) (r : ∀ j b c', pkOf L j c = some (b, c') → b = true → Run P fnTop L v0 K c') : Run P fnTop L v0 K c := by
  unfold pkOf at h0 r
  cases ht : pkI L c with
  | none => rw [ht] at h0; cases h0
  | some t =>
    simp only [ht] at r
    unfold pkI at ht
    split at ht
    · rename_i ops o rest a h
      split at ht
      · rename_i x ho
        split at ht
        · rename_i b hw hx
          split at ht
          · rename_i m clk S hb
            split at ht
            · rename_i es cl hm
              split at ht
              · rename_i hc hbn hu
                have hc := Nat.eq_of_beq_eq_true hc; subst hc
                simp only [Option.some.injEq] at ht; subst ht
                refine .nextM hw ho hx hb hm hbn hu (fun q => r 0 _ _ rfl q) (fun e he hs => ?_)
                obtain ⟨j, hj⟩ := List.getElem?_of_mem he
                refine r (j + 1) (not (seenN e.2.2 S)) _ ?_ (by rw [hs]; rfl)
                simp only [pkW, nth_eq, hj]
              · cases ht
            · cases ht
          · cases ht
        · cases ht
      · cases ht
    · cases ht

def Cfg.putA (t : Nat) (v : AV) : Cfg → Cfg
  | .code c a h => .code c { n := a.n, dflt := a.dflt, t := a.t.put (t + 1) t v } h
  | .head c a h => .head c { n := a.n, dflt := a.dflt, t := a.t.put (t + 1) t v } h
  | .ops o r a h => .ops o r { n := a.n, dflt := a.dflt, t := a.t.put (t + 1) t v } h
  | .opsD o r a h => .opsD o r { n := a.n, dflt := a.dflt, t := a.t.put (t + 1) t v } h
  | .fin ex a h => .fin ex a h
def finB : Cfg → Bool
  | .fin .. => true
  | _ => false
noncomputable def spOf (P : Program) (L : List (Nat × List AV)) (k : Nat) : Cfg → Option (Bool × Cfg)
  | .ops ops (o :: rest) a h => match wantedA ops o a, Nat.blt h.next h.lim, symA P h a o k with
    | some true, true, some (b, v, h') => match unwritten L h'.wr with
      | true => some (b, .ops ops rest (put a o.dst v) h'.fresh)
      | false => none
    | _, _, _ => none
  | .opsD ops m a h => match masksF ops.toList [], nth ops.toList m with
    | some ms, some o => match singleB ms m, wantedA ops o a, Nat.blt h.next h.lim, symA P h a o k with
      | true, some true, true, some (b, v, h') => match unwritten L h'.wr with
        | true => some (b, .opsD ops (m + 1) (put a o.dst v) h'.fresh)
        | false => none
      | _, _, _, _ => none
    | _, _ => none
  | _ => none
def allFull (k : Nat) : List Nat → Bool
  | [] => true
  | x :: r => match fullMask x k with
    | true => allFull k r
    | false => false
theorem allFull_ok {k : Nat} : ∀ {l : List Nat}, allFull k l = true → ∀ x ∈ l, fullMask x k = true
  | [], _, x, hx => by cases hx
  | y :: l, h, x, hx => by
    simp only [allFull] at h
    split at h
    · rename_i q
      rcases List.mem_cons.1 hx with rfl | hx
      · exact q
      · exact allFull_ok h x hx
    · cases h
noncomputable def sgOf (P : Program) (L : List (Nat × List AV)) (len : Nat) (cs : List DCh) : Cfg → Option (Bool × List UseF × Cfg)
  | .opsD ops m a h => match masksF ops.toList [] with
    | some ms => match allFull (m + len) (ms.drop (m + len)), Nat.ble (m + len) ops.toList.length with
      | true, true => match drawC P L (codeN P 100000) ops ms a h ((ops.toList.drop m).take len) cs (List.replicate m (dmy h.next)) h.next with
        | some (b, fs, es, base) => match chkAll ms [] es && unwritten L (keysOf es ++ h.wr) with
          | true => some (b, fs, .opsD ops (m + len) (tmpsD (fun _ => true) es 0 a) { next := base, lim := h.lim, wr := [], t := heapT (fun _ => true) es 0 h.t })
          | false => none
        | none => none
      | _, _ => none
    | none => none
  | _ => none
theorem sg_ok {P : Program} {fnTop : Func} {L : List (Nat × List AV)} {v0 : AV} {len : Nat} {cs : List DCh} {K : List Fr} {c c' : Cfg} {b : Bool} {fs : List UseF} (hs : sgOf P L len cs c = some (b, fs, c')) (hb : b = true) (hF : factsIn P L fs) (r : Run P fnTop L v0 K c') : Run P fnTop L v0 K c := by
  unfold sgOf at hs
  split at hs
  · rename_i ops m a h
    split at hs
    · rename_i ms hms
      split at hs
      · rename_i hfull hlen
        have hlen := Nat.le_of_ble_eq_true hlen
        split at hs
        · rename_i b1 fs1 es base hd
          split at hs
          · rename_i hq
            simp only [Bool.and_eq_true] at hq
            simp only [Option.some.injEq, Prod.mk.injEq] at hs; obtain ⟨rfl, rfl, rfl⟩ := hs
            have hsl : ((ops.toList.drop m).take len).length = len := by rw [List.length_take, List.length_drop]; omega
            refine .segC (pre := ops.toList.take m) (seg := (ops.toList.drop m).take len) (post := (ops.toList.drop m).drop len) ?_ ?_ hms hd hb hF hq.1 ?_ hq.2 ?_
            · rw [List.take_append_drop, List.take_append_drop]
            · rw [List.length_take]; omega
            · intro i o hi ho k hk
              rw [hsl] at hi hk
              have hml := (masks_ok hms).len
              have hl : i < ms.length := by rw [hml]; exact getElem?_lt ho
              have hget : (ms.drop (m + len))[i - (m + len)]? = some ms[i] := by
                rw [List.getElem?_drop, show m + len + (i - (m + len)) = i by omega]; simp [hl]
              have := allFull_ok hfull ms[i] (List.mem_of_getElem? hget)
              have e : nthD ms i = ms[i] := by simp [nthD, nth_eq, hl]
              rw [e]; exact fullMask_ok this k hk
            · rw [hsl]; exact r
          · cases hs
        · cases hs
      · cases hs
    · cases hs
  · cases hs

noncomputable def wp2 (P : Program) (fnTop : Func) (L : List (Nat × List AV)) (v0 : AV) (S : Scr) : (List Fr → Cfg → Prop) × (Nat → List Fr → Cfg → Prop) :=
  @Scr.rec (fun _ => (List Fr → Cfg → Prop) × (Nat → List Fr → Cfg → Prop))
    (fun ix T nx op => (fun K c => match view3 L ix K c with
      | some (s, p) => match renP T nx op s.1 p, lowB p.blks with
        | some p', true => pureP op (RunAt P fnTop L v0 s p') p.blks
        | _, _ => False
      | none => False, fun _ _ _ => False))
    (fun K c => match answer P fnTop (some (K, c)) with
      | some v => v0 = v
      | none => False, fun _ _ _ => False)
    (fun _ _ => False, fun _ _ _ => False)
    (fun bs _ ih => (fun K c => match goK P 100000 L bs K c with
      | some (K', c') => ih.1 K' c'
      | none => False, fun _ _ _ => False))
    (fun t _ _ ih1 ih2 => (fun K c => match c.a.get t, !finB c with
      | some (.bool b), true => BR b (ih1.1 K (c.putA t (.bool true))) (ih2.1 K (c.putA t (.bool false)))
      | _, _ => False, fun _ _ _ => False))
    (fun b _ _ ih1 ih2 => (fun K c => BR b (ih1.1 K c) (ih2.1 K c), fun _ _ _ => False))
    (fun bs v _ ih => (fun K c => match useOf P L bs c with
      | some (f, args, M) => Fact P (M ++ progVars L) f args v ∧ ih.1 K (useC v c)
      | none => False, fun _ _ _ => False))
    (fun k _ ih => (fun K c => match spOf P L k c with
      | some (b, c') => AN b (ih.1 K c')
      | none => False, fun _ _ _ => False))
    (fun cs _ ih => (fun K c => match drOf P L cs c with
      | some (b, fs, c') => AN b (FS P L (ih.1 K c') fs)
      | none => False, fun _ _ _ => False))
    (fun len cs _ ih => (fun K c => match sgOf P L len cs c with
      | some (b, fs, c') => AN b (FS P L (ih.1 K c') fs)
      | none => False, fun _ _ _ => False))
    (fun _ ih => (fun K c => match miOf P L c with
      | some c' => ih.1 K c'
      | none => False, fun _ _ _ => False))
    (fun _ _ ih1 ih2 => (fun K c => match pkOf L 0 c with
      | some (b, c') => IM b (ih1.1 K c') ∧ ih2.2 1 K c
      | none => False, fun i K c => match pkOf L i c with
      | some (b, c') => IM b (ih1.1 K c') ∧ ih2.2 (i + 1) K c
      | none => False))
    (fun _ _ => False, fun i _ c => match pkOf L i c with
      | some _ => False
      | none => True) S
noncomputable def wpS (P : Program) (fnTop : Func) (L : List (Nat × List AV)) (v0 : AV) (S : Scr) : List Fr → Cfg → Prop := (wp2 P fnTop L v0 S).1

theorem sp_ok {P : Program} {fnTop : Func} {L : List (Nat × List AV)} {v0 : AV} {k : Nat} {K : List Fr} {c c' : Cfg} {b : Bool} (hs : spOf P L k c = some (b, c')) (hb : b = true) (r : Run P fnTop L v0 K c') : Run P fnTop L v0 K c := by
  unfold spOf at hs
  split at hs
  · rename_i ops o rest a h
    split at hs
    · rename_i b' v h' hw hl hy
      split at hs
      · rename_i hu
        simp only [Option.some.injEq, Prod.mk.injEq] at hs; obtain ⟨rfl, rfl⟩ := hs
        have ho : oneA P (codeN P 0) ops o a h = .ok (v, h') := by
          rcases symA_ok hy hb with q | ⟨q, rfl⟩
          · simp only [oneA, hw, hl, q]
          · simp only [oneA, hw, hl, q]
        exact .one ho hu r
      · cases hs
    · cases hs
  · rename_i ops m a h
    split at hs
    · rename_i ms o hms hoj
      rw [nth_eq] at hoj
      split at hs
      · rename_i b' v h' hsg hw hl hy
        split at hs
        · rename_i hu
          simp only [Option.some.injEq, Prod.mk.injEq] at hs; obtain ⟨rfl, rfl⟩ := hs
          have ho : oneA P (codeN P 0) ops o a h = .ok (v, h') := by
            rcases symA_ok hy hb with q | ⟨q, rfl⟩
            · simp only [oneA, hw, hl, q]
            · simp only [oneA, hw, hl, q]
          exact .oneD hms hoj (singleB_ok hms hsg) ho hu r
        · cases hs
      · cases hs
    · cases hs
  · cases hs
theorem putA_sub {c : Cfg} {t : Nat} {b : Bool} (hf : finB c = false) (h : c.a.get t = some (.bool b)) : CSub (c.putA t (.bool b)) c := by
  have key : ∀ a : Tmps, a.get t = some (.bool b) → TSub { n := a.n, dflt := a.dflt, t := a.t.put (t + 1) t (.bool b) } a := by
    intro a ha
    refine ⟨rfl, fun u v hv => ?_⟩
    simp only [Tmps.get] at hv
    rw [T.get_put _ _ _ _ _ (Nat.lt_succ_self _)] at hv
    by_cases q : u = t
    · rw [if_pos q] at hv
      simp only [Option.some.injEq] at hv; subst hv; subst q; exact ha
    · rw [if_neg q] at hv
      exact hv
  have hh : ∀ h : Heap, HSub h h := fun h => ⟨rfl, rfl, fun b c hc => ⟨c, hc, .refl _⟩⟩
  cases c with
  | code cd a h' => exact .code (key a h) (hh _)
  | head cd a h' => exact .head (key a h) (hh _)
  | ops o r a h' => exact .ops (key a h) (hh _)
  | opsD o r a h' => exact .opsD (key a h) (hh _)
  | fin => cases hf
theorem KSub.refl : ∀ (K : List Fr), KSub K K
  | [] => .nil
  | .seq _ :: K => .seq (KSub.refl K)
  | .block _ :: K => .block (KSub.refl K)
  | .scp :: K => .scp (KSub.refl K)
  | .loop _ :: K => .loop (KSub.refl K)
  | .call .. :: K => .call ⟨rfl, fun _ _ h => h⟩ (KSub.refl K)
  | .callD .. :: K => .callD ⟨rfl, fun _ _ h => h⟩ (KSub.refl K)
  | .rng .. :: K => .rng ⟨rfl, fun _ _ h => h⟩ (KSub.refl K)
  | .round .. :: K => .round ⟨rfl, fun _ _ h => h⟩ (KSub.refl K)
theorem putA_h (t : Nat) (v : AV) (c : Cfg) : (c.putA t v).h = c.h := by cases c <;> rfl
theorem view3_frs {L : List (Nat × List AV)} {ix : Ix3} {K : List Fr} {c : Cfg} {s : List FC × CC} {p : Pt} (hv : view3 L ix K c = some (s, p)) : p.frs ≠ [] := by
  simp only [view3] at hv
  split at hv
  · simp only [Option.some.injEq, Prod.mk.injEq] at hv; obtain ⟨rfl, rfl⟩ := hv; simp
  · cases hv
theorem wp2_ok {P : Program} {fnTop : Func} {L : List (Nat × List AV)} (hL : (L.all fun x => pureAVs x.2) = true) {v0 : AV} : ∀ (S : Scr), (∀ {K : List Fr} {c : Cfg}, (wp2 P fnTop L v0 S).1 K c → Run P fnTop L v0 K c) ∧
    ∀ {i : Nat} {K : List Fr} {c : Cfg} {y : Bool × Cfg}, (wp2 P fnTop L v0 S).2 i K c → pkOf L 0 c = some y → ∀ j, i ≤ j → ∀ b c', pkOf L j c = some (b, c') → b = true → Run P fnTop L v0 K c' := by
  intro S
  induction S with
  | stop ix T nx op =>
    refine ⟨?_, fun h => by cases h⟩
    intro K c h
    simp only [wp2] at h
    split at h
    · rename_i s p hv
      split at h
      · rename_i p' hr hlow
        exact run_view3 hv (run_ren hL hr hlow h (view3_frs hv))
      · cases h
    · cases h
  | ans =>
    refine ⟨?_, fun h => by cases h⟩
    intro K c h
    simp only [wp2] at h
    split at h
    · rename_i v hv
      subst h
      exact run_answer (n := 0) (bs := []) hv
    · cases h
  | dead => exact ⟨fun h => (by cases h), fun h => (by cases h)⟩
  | st bs S ih =>
    refine ⟨?_, fun h => by cases h⟩
    intro K c h
    simp only [wp2] at h
    split at h
    · rename_i K' c' hg
      exact goK_ok hg (ih.1 h)
    · cases h
  | br t S T ih1 ih2 =>
    refine ⟨?_, fun h => by cases h⟩
    intro K c h
    simp only [wp2] at h
    split at h
    · rename_i b hb hl
      simp only [Bool.not_eq_true'] at hl
      have hlaid : ∀ v, Vars L c.h → Vars L (c.putA t v).h := by
        intro v hV g x hg
        rw [putA_h]; exact hV g x hg
      cases b with
      | true => exact .weak (KSub.refl K) (fun V => ⟨putA_sub hl hb, hlaid _ V⟩) (ih1.1 (h.1 rfl))
      | false => exact .weak (KSub.refl K) (fun V => ⟨putA_sub hl hb, hlaid _ V⟩) (ih2.1 (h.2 rfl))
    · cases h
  | split b S T ih1 ih2 =>
    refine ⟨?_, fun h => by cases h⟩
    intro K c h
    cases b with
    | true => exact ih1.1 (h.1 rfl)
    | false => exact ih2.1 (h.2 rfl)
  | use bs v S ih =>
    refine ⟨?_, fun h => by cases h⟩
    intro K c h
    simp only [wp2] at h
    split at h
    · rename_i f args M hq
      exact run_use hq h.1 (ih.1 h.2)
    · cases h
  | sp k S ih =>
    refine ⟨?_, fun h => by cases h⟩
    intro K c h
    simp only [wp2] at h
    split at h
    · rename_i b c' hq
      exact sp_ok hq h.1 (ih.1 h.2)
    · cases h
  | dr cs S ih =>
    refine ⟨?_, fun h => by cases h⟩
    intro K c h
    simp only [wp2] at h
    split at h
    · rename_i b fs c' hq
      obtain ⟨h1, h2⟩ := FS_ok h.2
      exact dr_ok hq h.1 h1 (ih.1 h2)
    · cases h
  | sg len cs S ih =>
    refine ⟨?_, fun h => by cases h⟩
    intro K c h
    simp only [wp2] at h
    split at h
    · rename_i b fs c' hq
      obtain ⟨h1, h2⟩ := FS_ok h.2
      exact sg_ok hq h.1 h1 (ih.1 h2)
    · cases h
  | mi S ih =>
    refine ⟨?_, fun h => by cases h⟩
    intro K c h
    simp only [wp2] at h
    split at h
    · rename_i c' hq
      exact mi_ok hq (ih.1 h)
    · cases h
  | pk S T ih1 ih2 =>
    have key : ∀ {i : Nat} {K : List Fr} {c : Cfg} {y : Bool × Cfg}, (wp2 P fnTop L v0 (.pk S T)).2 i K c → pkOf L 0 c = some y → ∀ j, i ≤ j → ∀ b c', pkOf L j c = some (b, c') → b = true → Run P fnTop L v0 K c' := by
      intro i K c y h h0 j hj b c' hq hb
      simp only [wp2] at h
      split at h
      · rename_i b1 c1 h1
        rcases Nat.lt_or_ge i j with q | q
        · exact ih2.2 h.2 h0 j q b c' hq hb
        · have : j = i := by omega
          subst this
          rw [h1] at hq; simp only [Option.some.injEq, Prod.mk.injEq] at hq; obtain ⟨rfl, rfl⟩ := hq
          exact ih1.1 (h.1 hb)
      · cases h
    refine ⟨?_, key⟩
    intro K c h
    have h' : (wp2 P fnTop L v0 (.pk S T)).2 0 K c := h
    simp only [wp2] at h
    split at h
    · rename_i b1 c1 h1
      exact pk_ok h1 (fun j b c' hq hb => key h' h1 j (Nat.zero_le _) b c' hq hb)
    · cases h
  | pe =>
    refine ⟨fun h => (by cases h), ?_⟩
    intro i K c y h h0 j hj b c' hq hb
    simp only [wp2] at h
    split at h
    · cases h
    · rename_i hn
      rw [pk_none h0 hn j hj] at hq; cases hq
theorem wpS_ok {P : Program} {fnTop : Func} {L : List (Nat × List AV)} (hL : (L.all fun x => pureAVs x.2) = true) {v0 : AV} {S : Scr} {K : List Fr} {c : Cfg} (h : wpS P fnTop L v0 S K c) : Run P fnTop L v0 K c := (wp2_ok hL S).1 h
/-- the formula of a piece, in other words -/
theorem wpS_run {P : Program} {fnTop : Func} {L : List (Nat × List AV)} (hL : (L.all fun x => pureAVs x.2) = true) {v0 : AV} {S : Scr} {K : List Fr} {c : Cfg} {Φ : Prop} (he : wpS P fnTop L v0 S K c = Φ) (h : Φ) : Run P fnTop L v0 K c := wpS_ok hL (by rw [he]; exact h)

/-! the formula holds where the function's Lean form has a value -/
theorem br_of {α : Type} {b : Bool} {x y : Option α} {r : α} {X Y : Prop} (h1 : b = true → x = some r → X) (h2 : b = false → y = some r → Y) : (bif b then x else y) = some r → BR b X Y := by
  intro h
  cases b with
  | true => exact ⟨fun _ => h1 rfl h, fun q => by cases q⟩
  | false => exact ⟨fun q => (by cases q), fun _ => h2 rfl h⟩
theorem an_of {α : Type} {b : Bool} {x : Option α} {r : α} {X : Prop} (h1 : b = true → x = some r → X) : (bif b then x else none) = some r → AN b X := by
  intro h
  cases b with
  | true => exact ⟨rfl, h1 rfl h⟩
  | false => cases h
theorem and_of {α : Type} {b : Bool} {x : Option α} {r : α} {F X : Prop} (hF : b = true → F) (h1 : b = true → x = some r → X) : (bif b then x else none) = some r → F ∧ X := by
  intro h
  cases b with
  | true => exact ⟨hF rfl, h1 rfl h⟩
  | false => cases h
/-- ways that are open all come to one value -/
def agr (b : Bool) (x y : Option Bool) : Option Bool := bif b then (match x, y with
  | some true, some true => some true
  | some false, some false => some false
  | _, _ => none) else y
theorem agr_of {b : Bool} {x y : Option Bool} {r : Bool} {X Y : Prop} (h1 : b = true → x = some r → X) (h2 : y = some r → Y) : agr b x y = some r → IM b X ∧ Y := by
  intro h
  cases b with
  | false => exact ⟨fun q => (by cases q), h2 h⟩
  | true =>
    simp only [agr, cond_true] at h
    split at h
    · simp only [Option.some.injEq] at h; subst h; exact ⟨fun q => h1 q rfl, h2 rfl⟩
    · simp only [Option.some.injEq] at h; subst h; exact ⟨fun q => h1 q rfl, h2 rfl⟩
    · cases h
theorem agr_true {b : Bool} {x y : Option Bool} (h1 : b = true → x = some true) (h2 : y = some true) : agr b x y = some true := by
  cases b with
  | false => exact h2
  | true => rw [h1 rfl, h2]; rfl
theorem guard_of {α : Type} {b : Bool} {x : Option α} {r : α} {X : Prop} (h1 : b = true → x = some r → X) : (bif b then x else none) = some r → X := by
  intro h
  cases b with
  | true => exact h1 rfl h
  | false => cases h
theorem some_br {α : Type} {b : Bool} {x y : Option α} (h1 : x.isSome = true) (h2 : y.isSome = true) : (bif b then x else y).isSome = true := by cases b <;> assumption
theorem getD_some {α : Type} {x : Option α} {d : α} (h : x.isSome = true) : x = some (x.getD d) := by
  cases x with
  | none => cases h
  | some y => rfl
theorem not_t {b : Bool} (h : b = false) : (!b) = true := by rw [h]; rfl
theorem not_f {b : Bool} (h : b = true) : (!b) = false := by rw [h]; rfl
theorem and_t {a b : Bool} (h1 : a = true) (h2 : b = true) : andB a b = true := andB_eq.2 ⟨h1, h2⟩
theorem and_t' {a b : Bool} (h1 : a = true) (h2 : b = true) : (a && b) = true := by rw [h1, h2]; rfl
theorem tf {b : Bool} {X : Prop} (h1 : b = true) (h2 : b = false) : X := by rw [h1] at h2; cases h2
end Go.Sx

namespace Go.Sx
/-! ### Numbers once more: what a machine's number is, so that omega can reckon with it -/
theorem w64 (n : Int) : wrapA .i64 n = (n + 9223372036854775808) % 18446744073709551616 - 9223372036854775808 := by
  rw [wrapA_eq, IntKind.wrap_i64]
theorem wk64 (n : Int) : IntKind.wrap .i64 n = (n + 9223372036854775808) % 18446744073709551616 - 9223372036854775808 := IntKind.wrap_i64 n
theorem kwrap_eq (k : IntKind) (n : Int) : IntKind.wrap k n = wrapA k n := (wrapA_eq k n).symm
theorem wrap_in {k : IntKind} {n : Int} (h1 : k.min ≤ n) (h2 : n ≤ k.max) : wrapA k n = n := by
  cases k <;> simp only [IntKind.min, IntKind.max, IntKind.signed, IntKind.bits] at h1 h2 <;> simp only [wrapA_eq, IntKind.wrap, IntKind.signed, IntKind.bits] <;> simp at h1 h2 ⊢ <;> omega
theorem condI {α : Type} (b : Bool) (x y : α) : (bif b then x else y) = if b = true then x else y := by cases b <;> rfl
theorem ltI_t (x y : Int) : (ltI x y = true) = (x < y) := by rw [ltI_eq]; simp
theorem ltI_f (x y : Int) : (ltI x y = false) = (y ≤ x) := by rw [ltI_eq]; simp
theorem eqI_t (x y : Int) : (eqI x y = true) = (x = y) := by rw [eqI_dec]; simp
theorem eqI_f (x y : Int) : (eqI x y = false) = (x ≠ y) := by rw [eqI_dec]; simp
theorem fdiv_pos (x : Int) {c : Int} (h : 0 ≤ c) : Int.fdiv x c = x / c := Int.fdiv_eq_ediv_of_nonneg x h
theorem nneg_n (b : Bool) : ((!b) = true) = (b = false) := by cases b <;> simp
theorem mul_bd {x y a b : Int} (hx1 : -a ≤ x) (hx2 : x ≤ a) (hy1 : -b ≤ y) (hy2 : y ≤ b) : -(a * b) ≤ x * y ∧ x * y ≤ a * b := by
  have ha : 0 ≤ a := by omega
  have hb : 0 ≤ b := by omega
  have h1 : x.natAbs ≤ a.natAbs := by omega
  have h2 : y.natAbs ≤ b.natAbs := by omega
  have h3 := Nat.mul_le_mul h1 h2
  rw [← Int.natAbs_mul, ← Int.natAbs_mul] at h3
  have : 0 ≤ a * b := Int.mul_nonneg ha hb
  omega
/-- division rounded towards 0, made into division rounded down -/
theorem tdiv_floor {a y : Int} (hy : 0 < y) : (if Int.tmod a y < 0 then Int.tdiv a y - 1 else Int.tdiv a y) = a / y := by
  have h1 := @Int.tdiv_eq_ediv a y
  have h2 := @Int.tmod_eq_emod a y
  have h3 := Int.emod_nonneg a (by omega : y ≠ 0)
  have h4 := Int.emod_lt_of_pos a hy
  have h5 : Int.sign y = 1 := Int.sign_eq_one_of_pos hy
  have h6 : (y.natAbs : Int) = y := by omega
  rw [h5] at h1
  by_cases q : 0 ≤ a ∨ y ∣ a
  · rw [if_pos q] at h1 h2
    have h2 : a.tmod y = a % y - 0 := h2
    rw [h1, h2, if_neg (by omega)]; omega
  · rw [if_neg q] at h1 h2
    rw [h6] at h2
    rw [h1, h2, if_pos (by omega)]; omega
theorem tdiv_bd {a y : Int} (hy : 0 < y) : Int.tdiv a y ≤ a.natAbs ∧ -(a.natAbs : Int) ≤ Int.tdiv a y := by
  have := Int.natAbs_tdiv_le_natAbs a y
  omega
theorem tmod_bd (a : Int) {c : Int} (hc : 0 < c) : -c < Int.tmod a c ∧ Int.tmod a c < c := by
  have h1 := Int.tmod_lt_of_pos a hc
  have h2 := Int.lt_tmod_of_pos a hc
  exact ⟨h2, h1⟩
theorem byteI_bd (s : List Nat) (i : Int) : 0 ≤ byteI s i ∧ byteI s i < 256 := by
  simp only [byteI, Int.ofNat_eq_natCast]; omega
theorem inB_t (i : Int) (n : Nat) : (inB i n = true) = (0 ≤ i ∧ i.toNat < n) := by
  simp only [inB, Bool.and_eq_true, nneg_n, ltI_f, eq_iff_iff]
  constructor
  · rintro ⟨h1, h2⟩; exact ⟨h1, blt_lt h2⟩
  · rintro ⟨h1, h2⟩; exact ⟨h1, Nat.ble_eq_true_of_le h2⟩
end Go.Sx

namespace Go.Sx
open Go.WideShapes Go.ChangeShapes Go.RowKit

/-! ### Arguments that lead to no memory: ints, bools, strings, and structs and arrays of them -/

def bytesOf (s : ByteArray) : List Nat := s.data.toList.map UInt8.toNat
def KOk : List CK → List AV → Prop
  | [], cs => cs = []
  | .int k :: ks, cs => ∃ (n : Int) (r : List AV), cs = .int k n :: r ∧ (Lit.int k n).wf = true ∧ KOk ks r
  | .bool :: ks, cs => ∃ (b : Bool) (r : List AV), cs = .bool b :: r ∧ KOk ks r
  | .str :: ks, cs => ∃ (s : ByteArray) (r : List AV), cs = .str (bytesOf s) :: r ∧ s.size ≤ maxLen ∧ KOk ks r
theorem KOk.length : ∀ {ks : List CK} {cs : List AV}, KOk ks cs → cs.length = ks.length
  | [], _, h => by simp only [KOk] at h; subst h; rfl
  | .int k :: ks, cs, h => by obtain ⟨n, r, rfl, _, h⟩ := h; simp [KOk.length h]
  | .bool :: ks, cs, h => by obtain ⟨n, r, rfl, h⟩ := h; simp [KOk.length h]
  | .str :: ks, cs, h => by obtain ⟨n, r, rfl, _, h⟩ := h; simp [KOk.length h]
theorem KOk.append : ∀ {ks ls : List CK} {cs ds : List AV}, KOk ks cs → KOk ls ds → KOk (ks ++ ls) (cs ++ ds)
  | [], _, _, _, h, k => by simp only [KOk] at h; subst h; exact k
  | .int k :: ks, ls, cs, ds, h, q => by obtain ⟨n, r, rfl, hw, h⟩ := h; exact ⟨n, r ++ ds, rfl, hw, KOk.append h q⟩
  | .bool :: ks, ls, cs, ds, h, q => by obtain ⟨n, r, rfl, h⟩ := h; exact ⟨n, r ++ ds, rfl, KOk.append h q⟩
  | .str :: ks, ls, cs, ds, h, q => by obtain ⟨n, r, rfl, hw, h⟩ := h; exact ⟨n, r ++ ds, rfl, hw, KOk.append h q⟩
theorem KOk.pure : ∀ {ks : List CK} {cs : List AV}, KOk ks cs → pureAVs cs = true
  | [], _, h => by simp only [KOk] at h; subst h; rfl
  | .int k :: ks, cs, h => by obtain ⟨n, r, rfl, _, h⟩ := h; simp [pureAVs, pureAV, KOk.pure h]
  | .bool :: ks, cs, h => by obtain ⟨n, r, rfl, h⟩ := h; simp [pureAVs, pureAV, KOk.pure h]
  | .str :: ks, cs, h => by obtain ⟨n, r, rfl, _, h⟩ := h; simp [pureAVs, pureAV, KOk.pure h]

def kFields (self : TypeId → Option (List CK)) : List Field → List CK → Option (List CK)
  | [], acc => some acc
  | f :: fs, acc => if f.offset = acc.length then match self f.type with
      | some l => kFields self fs (acc ++ l)
      | none => none
    else none
def kRep : Nat → List CK → List CK
  | 0, _ => []
  | n + 1, l => l ++ kRep n l
theorem kRep_length (n : Nat) (l : List CK) : (kRep n l).length = n * l.length := by
  induction n with
  | zero => simp [kRep]
  | succ n ih => simp [kRep, ih, Nat.succ_mul]; omega
def kOf (P : Program) : Nat → TypeId → Option (List CK)
  | 0, _ => none
  | d + 1, t => match P.underlying t with
    | some (.int k) => some [.int k]
    | some .bool => some [.bool]
    | some .string => some [.str]
    | some (.struct fs) => match kFields (kOf P d) fs.toList [] with
      | some l => if l.length = P.cellsOf t then some l else none
      | none => none
    | some (.array n e) => match kOf P d e with
      | some l => if l.length = P.cellsOf e ∧ n * P.cellsOf e = P.cellsOf t then some (kRep n l) else none
      | none => none
    | _ => none

section
variable {H : Type} {enc : TypeId × Value → H} {P : Program} {w : World} {base : Nat} {spare : Nat → Bool} {held : Bool}

theorem take_len {α : Type} {l : List α} {n m : Nat} (h : (l.take n).length = m) : l.take n = l.take m := by
  rw [List.length_take] at h
  rcases Nat.le_total n l.length with q | q
  · rw [show m = n by omega]
  · rw [List.take_of_length_le q, List.take_of_length_le (by omega)]

theorem fields_kinds {m : Nat} {self : TypeId → Option (List CK)} {cs : List Value}
    (ih : ∀ t ks cs x, self t = some ks → DataW.trod enc P w base spare held m t cs = some x → ∃ as, KOk ks as ∧ RelL (fun _ => none) as cs ∧ x.2 = []) :
    ∀ (fl : List Field) (ys : List (DataW H × List MemPlace)) (acc ks : List CK) (as : List AV), ys.length = fl.length →
      (∀ (i : Nat) (f : Field), fl[i]? = some f → DataW.trod enc P w base spare held m f.type ((cs.drop f.offset).take (P.cellsOf f.type)) = ys[i]?) →
      kFields self fl acc = some ks → KOk acc as → RelL (fun _ => none) as (cs.take acc.length) → ∃ bs, KOk ks bs ∧ RelL (fun _ => none) bs (cs.take ks.length) ∧ ys.flatMap (·.2) = []
  | [], ys, acc, ks, as, hl, _, h, hk, hr => by
    simp only [kFields, Option.some.injEq] at h; subst h
    have : ys = [] := by cases ys with | nil => rfl | cons _ _ => simp at hl
    subst this
    exact ⟨as, hk, hr, rfl⟩
  | f :: fl, ys, acc, ks, as, hl, he, h, hk, hr => by
    simp only [kFields] at h
    split at h
    · rename_i hoff
      split at h
      · rename_i l hs
        cases ys with
        | nil => simp at hl
        | cons y ys =>
          have e0 := he 0 f rfl
          simp only [List.getElem?_cons_zero] at e0
          obtain ⟨a, ha, hra, hp⟩ := ih _ _ _ _ hs e0
          have hla := ha.length
          have hlr := hra.length
          rw [hla] at hlr
          rw [take_len hlr, hoff] at hra
          have hcs : cs.take (acc ++ l).length = cs.take acc.length ++ (cs.drop acc.length).take l.length := by
            rw [List.length_append, List.take_add]
          obtain ⟨bs, h1, h2, h3⟩ := fields_kinds ih fl ys (acc ++ l) ks (as ++ a) (by simpa using hl) (fun i g hg => by have := he (i + 1) g (by simpa using hg); simpa using this) h (hk.append ha) (by rw [hcs]; exact hr.append hra)
          exact ⟨bs, h1, h2, by simp [hp, h3]⟩
      · cases h
    · cases h

theorem elems_kinds {m k n : Nat} {e : TypeId} {cs : List Value} {l : List CK}
    (ih : ∀ cs x, DataW.trod enc P w base spare held m e cs = some x → ∃ as, KOk l as ∧ RelL (fun _ => none) as cs ∧ x.2 = []) (ht : cs.length = n * k) :
    ∀ (r i : Nat) (ys : List (DataW H × List MemPlace)), ys.length = r → i + r = n →
      (∀ j, j < r → DataW.trod enc P w base spare held m e ((cs.drop ((i + j) * k)).take k) = ys[j]?) →
      ∃ as, KOk (kRep r l) as ∧ RelL (fun _ => none) as (cs.drop (i * k)) ∧ ys.flatMap (·.2) = []
  | 0, i, ys, hl, hn, _ => by
    have : ys = [] := by cases ys with | nil => rfl | cons _ _ => simp at hl
    subst this
    have : i = n := by omega
    subst this
    exact ⟨[], rfl, by rw [List.drop_eq_nil_of_le (by omega)]; simp [RelL], rfl⟩
  | r + 1, i, ys, hl, hn, he => by
    cases ys with
    | nil => simp at hl
    | cons y ys =>
      have e0 := he 0 (by omega)
      simp only [List.getElem?_cons_zero, Nat.add_zero] at e0
      obtain ⟨a, ha, hra, hp⟩ := ih _ _ e0
      obtain ⟨b, hb, hrb, hq⟩ := elems_kinds ih ht r (i + 1) ys (by simpa using hl) (by omega) (fun j hj => by
        have := he (j + 1) (by omega)
        rw [show i + (j + 1) = i + 1 + j by omega] at this
        simpa using this)
      refine ⟨a ++ b, ha.append hb, ?_, by simp [hp, hq]⟩
      have e : cs.drop (i * k) = (cs.drop (i * k)).take k ++ cs.drop ((i + 1) * k) := by
        rw [Nat.succ_mul, ← List.drop_drop, List.take_append_drop]
      rw [e]; exact hra.append hrb

theorem trod_kinds : ∀ (f fuel : Nat) (t : TypeId) (ks : List CK) (cs : List Value) (x : DataW H × List MemPlace), kOf P f t = some ks → DataW.trod enc P w base spare held fuel t cs = some x →
    ∃ as, KOk ks as ∧ RelL (fun _ => none) as cs ∧ x.2 = []
  | 0, _, _, _, _, _, h, _ => by cases h
  | f + 1, fuel, t, ks, cs, x, h, hx => by
    simp only [kOf] at h
    split at h
    · rename_i k ht
      simp only [Option.some.injEq] at h; subst h
      obtain ⟨n, rfl, rfl, hw⟩ := DataW.trod_int ht hx
      exact ⟨[.int k n], ⟨n, [], rfl, hw, rfl⟩, by simp [RelL, Rel], rfl⟩
    · rename_i ht
      simp only [Option.some.injEq] at h; subst h
      obtain ⟨b, rfl, rfl⟩ := DataW.trod_bool ht hx
      exact ⟨[.bool b], ⟨b, [], rfl, rfl⟩, by simp [RelL, Rel], rfl⟩
    · rename_i ht
      simp only [Option.some.injEq] at h; subst h
      obtain ⟨s, rfl, rfl, hs⟩ := DataW.trod_string ht hx
      exact ⟨[.str (bytesOf s)], ⟨s, [], rfl, hs, rfl⟩, by have := string_back s; simp only [RelL]; exact ⟨_, _, this, rfl, rfl⟩, rfl⟩
    · rename_i fs ht
      split at h
      · rename_i l hl0
        split at h
        · rename_i hlen
          simp only [Option.some.injEq] at h; subst h
          obtain ⟨xs, m, rfl, rfl, hl, hs, he⟩ := DataW.trod_struct ht hx
          obtain ⟨bs, h1, h2, h3⟩ := fields_kinds (fun t ks cs x h1 h2 => trod_kinds f m t ks cs x h1 h2) fs.toList xs [] l [] (by simpa using hs) (fun i g hg => he i g (by simpa using hg)) hl0 rfl (by simp [RelL])
          refine ⟨bs, h1, ?_, h3⟩
          rw [List.take_of_length_le (by omega)] at h2; exact h2
        · cases h
      · cases h
    · rename_i n e ht
      split at h
      · rename_i l hl0
        split at h
        · rename_i hq
          simp only [Option.some.injEq] at h; subst h
          obtain ⟨xs, m, rfl, rfl, hl, hs, he⟩ := DataW.trod_array ht hx
          obtain ⟨as, h1, h2, h3⟩ := elems_kinds (k := P.cellsOf e) (n := n) (fun cs x h2 => trod_kinds f m e l cs x hl0 h2) (by rw [hl, hq.2]) n 0 xs hs (by omega) (fun j hj => by rw [Nat.zero_add]; exact he j hj)
          exact ⟨as, h1, by simpa using h2, h3⟩
        · cases h
      · cases h
    · cases h

/-- a scalar argument, or a whole one -/
theorem open_kinds {t : TypeId} {v : Value} {d : DataW H} {ps : List MemPlace} {ks : List CK} (hk : kOf P 20 t = some ks) (hd : DataW.Trod enc P w base spare held t v d ps) :
    ps = [] ∧ ∃ as, KOk ks as ∧ RelL (fun _ => none) as v.cells.toList := by
  obtain ⟨fuel, hf⟩ := hd
  obtain ⟨as, h1, h2, h3⟩ := trod_kinds 20 fuel t ks _ _ hk hf
  exact ⟨h3, as, h1, h2⟩
theorem rel_agg {t : TypeId} {v : Value} {r : Reach} {b0 : Nat} (ht : (∃ fs, P.underlying t = some (.struct fs)) ∨ ∃ n e, P.underlying t = some (.array n e)) (hval : Value.okWide P w r b0 t v) {as : List AV} (h : RelL (fun _ => none) as v.cells.toList) : Rel (fun _ => none) (.agg as) v := by
  have key : ∃ cs, v = .agg cs := by
    rcases ht with ⟨fs, ht⟩ | ⟨n, e, ht⟩
    · obtain ⟨cs, h1, _⟩ := okWide_struct ht hval
      exact ⟨cs, h1⟩
    · simp only [Value.okWide, ht] at hval
      obtain ⟨cs, h1, _⟩ := hval
      exact ⟨cs, h1⟩
  obtain ⟨cs, rfl⟩ := key
  simp only [Rel]
  exact ⟨cs.toList, by simpa [Value.cells] using h, by simp⟩
theorem rel_str {t : TypeId} {v : Value} {r : Reach} {b0 : Nat} (ht : P.underlying t = some .string) (hval : Value.okWide P w r b0 t v) {a : AV} (h : RelL (fun _ => none) [a] v.cells.toList) : Rel (fun _ => none) a v := by
  obtain ⟨s, rfl⟩ := okWide_string ht hval
  simp only [RelL, Value.cells] at h
  obtain ⟨x, ws, h1, rfl, h2⟩ := h
  simp at h2; subst h2; exact h1
theorem rel_int {t : TypeId} {v : Value} {r : Reach} {b0 : Nat} {k : IntKind} (ht : P.underlying t = some (.int k)) (hval : Value.okWide P w r b0 t v) {a : AV} (h : RelL (fun _ => none) [a] v.cells.toList) : Rel (fun _ => none) a v := by
  obtain ⟨s, rfl⟩ := okWide_int ht hval
  simp only [RelL, Value.cells] at h
  obtain ⟨x, ws, h1, rfl, h2⟩ := h
  simp at h2; subst h2; exact h1
theorem rel_bool {t : TypeId} {v : Value} {r : Reach} {b0 : Nat} (ht : P.underlying t = some .bool) (hval : Value.okWide P w r b0 t v) {a : AV} (h : RelL (fun _ => none) [a] v.cells.toList) : Rel (fun _ => none) a v := by
  obtain ⟨s, rfl⟩ := okWide_bool ht hval
  simp only [RelL, Value.cells] at h
  obtain ⟨x, ws, h1, rfl, h2⟩ := h
  simp at h2; subst h2; exact h1
/-- what leads to no memory reads as it did -/
theorem stays {t : TypeId} (hl : laidOutB P = true) (hr : P.readableRec t = true) (hrow : t < P.types.size) {W W' : World} {sp' : Nat → Bool} {v : Value} {d : DataW H}
    (h : DataW.Trod enc P W 0 (fun _ => true) true t v d []) : DataW.Trod enc P W' 0 sp' true t v d [] :=
  WideElems.Trod_stays hl hr hrow h (fun x hx => by cases hx) (fun x hx => by cases hx)
end

/-- a call with arguments that hold no memory, run so -/
theorem call_args {P : Program} (hP : okProg P = true) {f : FuncId} {fn : Func} {body : Code} {L : List (Nat × List AV)} {args : List AV} {ARGS : List Value} (hp : pureAVs args = true) (ha : RelL (fun _ => none) args ARGS) (hf : P.funcs[f]? = some fn) (hb : fn.body = some body)
    (hr : Run P fn L (.bool true) [] (.code body (startA args fn) (laidHeap L))) {w : World} (hL : LaidIn w L) :
    Calls P f ARGS.toArray w fun e w' => e = .returned (.bool true) ∧ Below w.heap.size w w' :=
  call_run_args hP (pure_rels args hp ha) hf hb hr hL
/-- octets, no more than a string may have -/
def IsBytes (s : List Nat) : Prop := (∀ b, b ∈ s → b < 256) ∧ s.length ≤ 9223372036854775807
theorem bytes_ok {s : ByteArray} (h : s.size ≤ maxLen) : IsBytes (bytesOf s) := by
  refine ⟨fun b hb => ?_, ?_⟩
  · obtain ⟨u, _, rfl⟩ := List.mem_map.1 hb
    exact UInt8.toNat_lt u
  · have : (bytesOf s).length = s.size := by simp only [bytesOf, List.length_map, Array.length_toList]; rfl
    rw [this]; exact h
end Go.Sx

namespace Go.Sx
open Go.WideShapes Go.ChangeShapes Go.RowKit

/-! ### Arguments with slices in them -/
theorem laid_cons {g : Nat} {xs : List AV} {L : List (Nat × List AV)} (h : pureAVs xs = true) (k : (L.all fun x => pureAVs x.2) = true) : (((g, xs) :: L).all fun x => pureAVs x.2) = true := by
  simp only [List.all_cons, Bool.and_eq_true]; exact ⟨h, k⟩

/-- the kinds of an argument's cells: a slice of elements of such kinds among them -/
inductive CS where
  | int (k : IntKind)
  | bool
  | str
  | sl (ks : List CK)
/-- one cell of an argument, and what it leads to -/
inductive CV where
  | sc (a : AV)
  | nl
  | sl (blk shift len cap : Nat) (xs : List AV)

/-- the cells of the elements lie in memory -/
def SlAt (w : World) (blk shift : Nat) (xs : List AV) : Prop :=
  ∃ (vals : Array Value) (t : TypeId) (fr : Nat × Nat), w.heap[blk]? = some (.cells vals t fr) ∧ ∀ (j : Nat) (a : AV), xs[j]? = some a → ∃ v, vals[shift + j]? = some v ∧ Rel (fun _ => none) a v

def CVOk (w : World) : CS → CV → Value → Prop
  | .int k, c, v => ∃ n, c = .sc (.int k n) ∧ (Lit.int k n).wf = true ∧ v = .int k n
  | .bool, c, v => ∃ b, c = .sc (.bool b) ∧ v = .bool b
  | .str, c, v => ∃ s : ByteArray, c = .sc (.str (bytesOf s)) ∧ s.size ≤ maxLen ∧ v = .string s
  | .sl ks, c, v => (c = .nl ∧ Rel (fun _ => none) .emp v) ∨ ∃ (b s n m : Nat) (xs : List AV), c = .sl b s n m xs ∧ 0 < n ∧ n ≤ m ∧ m ≤ maxLen ∧ KOk (kRep n ks) xs ∧ SlAt w b s xs ∧ v = .slice (some ⟨b, s, none⟩) n m

def CVsOk (w : World) : List CS → List CV → List Value → Prop
  | [], cs, vs => cs = [] ∧ vs = []
  | k :: ks, cs, vs => ∃ c r v u, cs = c :: r ∧ vs = v :: u ∧ CVOk w k c v ∧ CVsOk w ks r u

theorem CVsOk.length {w : World} : ∀ {ks : List CS} {cs : List CV} {vs : List Value}, CVsOk w ks cs vs → vs.length = ks.length
  | [], _, _, h => by rw [h.2]; rfl
  | k :: ks, _, _, h => by obtain ⟨c, r, v, u, rfl, rfl, _, h⟩ := h; simp [CVsOk.length h]
theorem CVsOk.append {w : World} : ∀ {ks ls : List CS} {cs ds : List CV} {vs us : List Value}, CVsOk w ks cs vs → CVsOk w ls ds us → CVsOk w (ks ++ ls) (cs ++ ds) (vs ++ us)
  | [], _, _, _, _, _, h, k => by obtain ⟨rfl, rfl⟩ := h; exact k
  | k :: ks, ls, _, _, _, _, h, q => by
    obtain ⟨c, r, v, u, rfl, rfl, h1, h⟩ := h
    exact ⟨c, r ++ _, v, u ++ _, rfl, rfl, h1, CVsOk.append h q⟩

def csFields (self : TypeId → Option (List CS)) : List Field → List CS → Option (List CS)
  | [], acc => some acc
  | f :: fs, acc => if f.offset = acc.length then match self f.type with
      | some l => csFields self fs (acc ++ l)
      | none => none
    else none
def csRep : Nat → List CS → List CS
  | 0, _ => []
  | n + 1, l => l ++ csRep n l
/-- the kinds of a type's cells; slices are of elements that lead to no memory -/
def csOf (P : Program) : Nat → TypeId → Option (List CS)
  | 0, _ => none
  | d + 1, t => match P.underlying t with
    | some (.int k) => some [.int k]
    | some .bool => some [.bool]
    | some .string => some [.str]
    | some (.slice e) => match kOf P 20 e with
      | some l => if l.length = P.cellsOf e ∧ l ≠ [] then some [.sl l] else none
      | none => none
    | some (.struct fs) => match csFields (csOf P d) fs.toList [] with
      | some l => if l.length = P.cellsOf t then some l else none
      | none => none
    | some (.array n e) => match csOf P d e with
      | some l => if l.length = P.cellsOf e ∧ n * P.cellsOf e = P.cellsOf t then some (csRep n l) else none
      | none => none
    | _ => none

section
variable {H : Type} {enc : TypeId × Value → H} {P : Program} {w : World} {base : Nat} {spare : Nat → Bool} {held : Bool}

theorem cs_fields {m : Nat} {self : TypeId → Option (List CS)} {cs : List Value}
    (ih : ∀ t ks cs x, self t = some ks → DataW.trod enc P w base spare held m t cs = some x → ∃ as, CVsOk w ks as cs) :
    ∀ (fl : List Field) (ys : List (DataW H × List MemPlace)) (acc ks : List CS) (as : List CV), ys.length = fl.length →
      (∀ (i : Nat) (f : Field), fl[i]? = some f → DataW.trod enc P w base spare held m f.type ((cs.drop f.offset).take (P.cellsOf f.type)) = ys[i]?) →
      csFields self fl acc = some ks → CVsOk w acc as (cs.take acc.length) → ∃ bs, CVsOk w ks bs (cs.take ks.length)
  | [], ys, acc, ks, as, hl, _, h, hk => by
    simp only [csFields, Option.some.injEq] at h; subst h
    exact ⟨as, hk⟩
  | f :: fl, ys, acc, ks, as, hl, he, h, hk => by
    simp only [csFields] at h
    split at h
    · rename_i hoff
      split at h
      · rename_i l hs
        cases ys with
        | nil => simp at hl
        | cons y ys =>
          have e0 := he 0 f rfl
          simp only [List.getElem?_cons_zero] at e0
          obtain ⟨a, ha⟩ := ih _ _ _ _ hs e0
          have hlr := ha.length
          rw [take_len hlr, hoff] at ha
          have hcs : cs.take (acc ++ l).length = cs.take acc.length ++ (cs.drop acc.length).take l.length := by
            rw [List.length_append, List.take_add]
          exact cs_fields ih fl ys (acc ++ l) ks (as ++ a) (by simpa using hl) (fun i g hg => by have := he (i + 1) g (by simpa using hg); simpa using this) h (by rw [hcs]; exact hk.append ha)
      · cases h
    · cases h

theorem cs_elems {m k n : Nat} {e : TypeId} {cs : List Value} {l : List CS}
    (ih : ∀ cs x, DataW.trod enc P w base spare held m e cs = some x → ∃ as, CVsOk w l as cs) (ht : cs.length = n * k) :
    ∀ (r i : Nat) (ys : List (DataW H × List MemPlace)), ys.length = r → i + r = n →
      (∀ j, j < r → DataW.trod enc P w base spare held m e ((cs.drop ((i + j) * k)).take k) = ys[j]?) →
      ∃ as, CVsOk w (csRep r l) as (cs.drop (i * k))
  | 0, i, ys, hl, hn, _ => by
    have : i = n := by omega
    subst this
    exact ⟨[], rfl, by rw [List.drop_eq_nil_of_le (by omega)]⟩
  | r + 1, i, ys, hl, hn, he => by
    cases ys with
    | nil => simp at hl
    | cons y ys =>
      have e0 := he 0 (by omega)
      simp only [List.getElem?_cons_zero, Nat.add_zero] at e0
      obtain ⟨a, ha⟩ := ih _ _ e0
      obtain ⟨b, hb⟩ := cs_elems ih ht r (i + 1) ys (by simpa using hl) (by omega) (fun j hj => by
        have := he (j + 1) (by omega)
        rw [show i + (j + 1) = i + 1 + j by omega] at this
        simpa using this)
      refine ⟨a ++ b, ?_⟩
      have e : cs.drop (i * k) = (cs.drop (i * k)).take k ++ cs.drop ((i + 1) * k) := by
        rw [Nat.succ_mul, ← List.drop_drop, List.take_append_drop]
      rw [e]; exact ha.append hb

theorem cells_get {a : Addr} {n : Nat} {vs : List Value} (h : w.cells? base a n = some vs) : vs.length = n ∧ ∀ i, i < n → w.cell? (a.add i) = vs[i]? := by
  unfold World.cells? at h
  split at h
  · refine ⟨by simpa using mapM_some_length h, fun i hi => ?_⟩
    have := mapM_some_get h i i (by simp [hi])
    exact this
  · cases h
theorem cell_addr {a : Addr} {v : Value} (h : w.cell? a = some v) : a.spot = none ∧ ∃ (vals : Array Value) (t : TypeId) (fr : Nat × Nat), w.heap[a.block]? = some (.cells vals t fr) ∧ vals[a.off]? = some v := by
  unfold World.cell? at h
  split at h
  · rename_i c t fr hh
    split at h
    · cases h
    · rename_i hs
      exact ⟨by simpa using hs, c, t, fr, hh, h⟩
  · cases h
theorem add_none {a : Addr} (h : a.spot = none) (n : Nat) : a.add n = ⟨a.block, a.off + n, none⟩ := by
  obtain ⟨b, o, s⟩ := a
  simp only at h; subst h
  unfold Addr.add
  split
  · rename_i q; subst q; rfl
  · rfl

theorem sl_elems {a : Addr} (hs : a.spot = none) {vals : Array Value} {t : TypeId} {fr : Nat × Nat} (hb : w.heap[a.block]? = some (.cells vals t fr)) {m k : Nat} {e : TypeId} {l : List CK} (hk : kOf P 20 e = some l) (hl : l.length = k) :
    ∀ (r i : Nat), (∀ j, j < r → ∃ x, (w.cells? base (a.add ((i + j) * k)) k).bind (DataW.trod enc P w base spare held m e) = some x) →
      ∃ xs, KOk (kRep r l) xs ∧ ∀ (j : Nat) (c : AV), xs[j]? = some c → ∃ v, vals[a.off + i * k + j]? = some v ∧ Rel (fun _ => none) c v
  | 0, i, _ => ⟨[], rfl, fun j c h => by simp at h⟩
  | r + 1, i, h => by
    obtain ⟨x, hx⟩ := h 0 (by omega)
    rw [Nat.add_zero, Option.bind_eq_some_iff] at hx
    obtain ⟨vs, hv, hx⟩ := hx
    obtain ⟨as, h1, h2, _⟩ := trod_kinds 20 m e l vs x hk hx
    obtain ⟨xs, k1, k2⟩ := sl_elems hs hb hk hl r (i + 1) (fun j hj => by
      have := h (j + 1) (by omega)
      rw [show i + (j + 1) = i + 1 + j by omega] at this
      exact this)
    obtain ⟨g1, g2⟩ := cells_get hv
    have hal : as.length = k := h1.length.trans hl
    refine ⟨as ++ xs, h1.append k1, fun j c hj => ?_⟩
    rcases Nat.lt_or_ge j k with q | q
    · rw [List.getElem?_append_left (by omega)] at hj
      obtain ⟨v, hv1, hv2⟩ := h2.nth hj
      refine ⟨v, ?_, hv2⟩
      have hc := g2 j q
      rw [hv1, add_none hs, add_none (a := ⟨a.block, a.off + i * k, none⟩) rfl] at hc
      obtain ⟨_, vals', t', fr', e1, e2⟩ := cell_addr hc
      simp only at e1 e2
      rw [hb] at e1
      simp only [Option.some.injEq, Obj.cells.injEq] at e1
      rw [e1.1]; exact e2
    · rw [List.getElem?_append_right (by omega), hal] at hj
      obtain ⟨v, hv1, hv2⟩ := k2 _ _ hj
      refine ⟨v, ?_, hv2⟩
      rw [← hv1]; congr 1
      rw [Nat.succ_mul]; omega

theorem cs_kinds : ∀ (f fuel : Nat) (t : TypeId) (ks : List CS) (cs : List Value) (x : DataW H × List MemPlace), csOf P f t = some ks → DataW.trod enc P w base spare held fuel t cs = some x → ∃ as, CVsOk w ks as cs
  | 0, _, _, _, _, _, h, _ => by cases h
  | f + 1, fuel, t, ks, cs, x, h, hx => by
    simp only [csOf] at h
    split at h
    · rename_i k ht
      simp only [Option.some.injEq] at h; subst h
      obtain ⟨n, rfl, rfl, hw⟩ := DataW.trod_int ht hx
      exact ⟨[.sc (.int k n)], _, _, _, _, rfl, rfl, ⟨n, rfl, hw, rfl⟩, rfl, rfl⟩
    · rename_i ht
      simp only [Option.some.injEq] at h; subst h
      obtain ⟨b, rfl, rfl⟩ := DataW.trod_bool ht hx
      exact ⟨[.sc (.bool b)], _, _, _, _, rfl, rfl, ⟨b, rfl, rfl⟩, rfl, rfl⟩
    · rename_i ht
      simp only [Option.some.injEq] at h; subst h
      obtain ⟨s, rfl, rfl, hs⟩ := DataW.trod_string ht hx
      exact ⟨[.sc (.str (bytesOf s))], _, _, _, _, rfl, rfl, ⟨s, rfl, hs, rfl⟩, rfl, rfl⟩
    · rename_i e ht
      split at h
      · rename_i l hl
        split at h
        · rename_i hq
          simp only [Option.some.injEq] at h; subst h
          rcases DataW.trod_slice ht hx with ⟨rfl, _⟩ | ⟨a, len, cap, elems, rest, n, rfl, rfl, _, hb, hle, hm, hlen, hel, _, _⟩
          · exact ⟨[.nl], _, _, _, _, rfl, rfl, .inl ⟨rfl, .inr rfl⟩, rfl, rfl⟩
          · cases len with
            | zero => exact ⟨[.nl], _, _, _, _, rfl, rfl, .inl ⟨rfl, .inl ⟨a, cap, rfl⟩⟩, rfl, rfl⟩
            | succ len =>
              have hpos : 0 < P.cellsOf e := by rw [← hq.1]; exact List.length_pos_iff.2 hq.2
              have all : ∀ j, j < len + 1 → ∃ x, (w.cells? base (a.add ((0 + j) * P.cellsOf e)) (P.cellsOf e)).bind (DataW.trod enc P w base spare held n e) = some x := by
                intro j hj
                have := hel j hj
                rw [Nat.zero_add, this]
                exact ⟨elems[j]'(by omega), List.getElem?_eq_getElem (by omega)⟩
              obtain ⟨x0, hx0⟩ := all 0 (by omega)
              rw [Option.bind_eq_some_iff] at hx0
              obtain ⟨vs, hv, _⟩ := hx0
              obtain ⟨g1, g2⟩ := cells_get hv
              have hc := g2 0 hpos
              rw [List.getElem?_eq_getElem (by omega)] at hc
              have e0 : (a.add ((0 + 0) * P.cellsOf e)).add 0 = a := by simp [Addr.add]
              rw [e0] at hc
              obtain ⟨hs, vals, t', fr, hblk, _⟩ := cell_addr hc
              obtain ⟨xs, k1, k2⟩ := sl_elems hs hblk hl hq.1 (len + 1) 0 all
              have ea : a = ⟨a.block, a.off, none⟩ := by
                obtain ⟨b, o, s⟩ := a
                simp only at hs; subst hs; rfl
              refine ⟨[.sl a.block a.off (len + 1) cap xs], _, _, _, _, rfl, rfl, .inr ⟨_, _, _, _, _, rfl, Nat.succ_pos _, hle, hm, k1, ⟨vals, t', fr, hblk, fun j c hj => ?_⟩, by rw [← ea]⟩, rfl, rfl⟩
              obtain ⟨v, p1, p2⟩ := k2 j c hj
              exact ⟨v, by simpa using p1, p2⟩
        · cases h
      · cases h
    · rename_i fs ht
      split at h
      · rename_i l hl0
        split at h
        · rename_i hlen
          simp only [Option.some.injEq] at h; subst h
          obtain ⟨xs, m, rfl, rfl, hl, hs, he⟩ := DataW.trod_struct ht hx
          obtain ⟨bs, h1⟩ := cs_fields (fun t ks cs x h1 h2 => cs_kinds f m t ks cs x h1 h2) fs.toList xs [] l [] (by simpa using hs) (fun i g hg => he i g (by simpa using hg)) hl0 ⟨rfl, by simp⟩
          refine ⟨bs, ?_⟩
          rw [List.take_of_length_le (by omega)] at h1; exact h1
        · cases h
      · cases h
    · rename_i n e ht
      split at h
      · rename_i l hl0
        split at h
        · rename_i hq
          simp only [Option.some.injEq] at h; subst h
          obtain ⟨xs, m, rfl, rfl, hl, hs, he⟩ := DataW.trod_array ht hx
          obtain ⟨as, h1⟩ := cs_elems (k := P.cellsOf e) (n := n) (fun cs x h2 => cs_kinds f m e l cs x hl0 h2) (by rw [hl, hq.2]) n 0 xs hs (by omega) (fun j hj => by rw [Nat.zero_add]; exact he j hj)
          exact ⟨as, by simpa using h1⟩
        · cases h
      · cases h
    · cases h

/-- an argument, opened -/
theorem open_cs {t : TypeId} {v : Value} {d : DataW H} {ps : List MemPlace} {ks : List CS} (hk : csOf P 20 t = some ks) (hd : DataW.Trod enc P w base spare held t v d ps) : ∃ as, CVsOk w ks as v.cells.toList := by
  obtain ⟨fuel, hf⟩ := hd
  exact cs_kinds 20 fuel t ks _ _ hk hf

/-- the arguments read behind the call as before -/
theorem stays_below {t : TypeId} (hl : laidOutB P = true) (hr : P.readableRec t = true) (hrow : t < P.types.size) {W W' : World} {sp' : Nat → Bool} {v : Value} {d : DataW H} {ps : List MemPlace}
    (h : DataW.Trod enc P W 0 (fun _ => true) true t v d ps) (hB : Below W.heap.size W W') (hs : ∀ p ∈ ps, sp' p.block = true) : DataW.Trod enc P W' 0 sp' true t v d ps := by
  have hlt : ∀ p ∈ ps, p.block < W.heap.size := by
    obtain ⟨n, hn⟩ := h
    exact fun p hp => DataW.trod_lt n t _ _ hn p hp
  exact WideElems.Trod_stays hl hr hrow h (fun p hp => hB.same (hlt p hp)) hs
end

theorem KOk.rep_len {n : Nat} {l : List CK} {xs : List AV} (h : KOk (kRep n l) xs) : xs.length = n * l.length := by rw [h.length, kRep_length]

/-- a call with arguments of which some lie in memory, run so -/
theorem call_args_at {P : Program} (hP : okProg P = true) {f : FuncId} {fn : Func} {body : Code} {E : Nat → Ent} (hE : GlobE E) {L : List (Nat × List AV)} {args : List AV} {ARGS : List Value} (ha : RelL (laidE E) args ARGS) (hf : P.funcs[f]? = some fn) (hb : fn.body = some body)
    (hr : Run P fn L (.bool true) [] (.code body (startA args fn) (laidHeap L))) {w : World} (hL : LaidAt E w L) :
    Calls P f ARGS.toArray w fun e w' => e = .returned (.bool true) ∧ Below w.heap.size w w' := by
  refine callsIn_wide.1 (CallsIn.mono (call_res_at hP hE (v0 := .bool true) rfl ha hf hb hr hL) ?_)
  rintro e w' ⟨V, rfl, hV, hB⟩
  simp only [Rel] at hV
  subst hV
  exact ⟨rfl, hB⟩

/-- where the arguments' slices lie -/
def argE (l : List (Nat × Nat)) (i : Nat) : Ent := match Nat.ble 1048576 i with
  | true => globE i
  | false => match nth l i with
    | some p => ⟨p.1, p.2, 0⟩
    | none => globE i
theorem argE_glob (l : List (Nat × Nat)) : GlobE (argE l) := fun g => by
  refine ⟨0, ?_⟩
  unfold argE
  rw [Nat.ble_eq_true_of_le (Nat.le_add_right _ _)]
  exact globE_at g
theorem argE_high {l : List (Nat × Nat)} {i : Nat} (h : 1048576 ≤ i) : argE l i = globE i := by
  unfold argE
  rw [Nat.ble_eq_true_of_le h]
def allGlob (L : List (Nat × List AV)) : Bool := L.all fun x => Nat.ble 1048576 x.1
theorem allGlob_ok {L : List (Nat × List AV)} (h : allGlob L = true) : ∀ g cs, assocL L g = some cs → 1048576 ≤ g := by
  induction L with
  | nil => intro g cs hg; cases hg
  | cons x L ih =>
    simp only [allGlob, List.all_cons, Bool.and_eq_true] at h
    intro g cs hg
    simp only [assocL] at hg
    split at hg
    · rename_i q; rw [← q]; exact Nat.le_of_ble_eq_true h.1
    · exact ih h.2 g cs hg
theorem laid_none {w : World} {l : List (Nat × Nat)} {L : List (Nat × List AV)} (h : LaidIn w L) (hg : allGlob L = true) : LaidAt (argE l) w L := fun g cs k => by
  rw [argE_high (allGlob_ok hg g cs k)]; exact h g cs k
theorem laid_more {w : World} {E : Nat → Ent} {g : Nat} {xs : List AV} {L : List (Nat × List AV)} (hs : SlAt w (E g).blk (E g).shift xs) (h : LaidAt E w L) : LaidAt E w ((g, xs) :: L) := fun k cs hk => by
  simp only [assocL] at hk
  split at hk
  · rename_i q; subst q
    simp only [Option.some.injEq] at hk; subst hk
    exact hs
  · exact h k cs hk
theorem laid_nil (w : World) (E : Nat → Ent) : LaidAt E w [] := fun g cs h => by cases h
/-- an argument's cells as the executor has them; its slices by number -/
def avOf : Nat → List CV → List AV
  | _, [] => []
  | n, .sc a :: r => a :: avOf n r
  | n, .nl :: r => .emp :: avOf n r
  | n, .sl _ _ l c _ :: r => .slc (1048576 + n) 0 l (.exact c) :: avOf (n + 1) r
/-- the slices lie where it is said -/
def EOk (E : Nat → Ent) : Nat → List CV → Prop
  | _, [] => True
  | n, .sc _ :: r => EOk E n r
  | n, .nl :: r => EOk E n r
  | n, .sl b s _ _ _ :: r => E n = ⟨b, s, 0⟩ ∧ EOk E (n + 1) r
theorem none_ext (ρ : Nat → Option Ent) : Ext (fun _ => none) ρ := fun _ _ q => by cases q
theorem rel_cvs {w : World} {E : Nat → Ent} : ∀ {ks : List CS} {cs : List CV} {vs : List Value} {n : Nat}, CVsOk w ks cs vs → EOk E n cs → RelL (laidE E) (avOf n cs) vs
  | [], _, _, n, h, _ => by obtain ⟨rfl, rfl⟩ := h; simp [avOf, RelL]
  | k :: ks, _, _, n, h, he => by
    obtain ⟨c, r, v, u, rfl, rfl, h1, h⟩ := h
    cases k with
    | int k =>
      obtain ⟨m, rfl, _, rfl⟩ := h1
      exact ⟨_, _, by simp [Rel], rel_cvs h he, rfl⟩
    | bool =>
      obtain ⟨b, rfl, rfl⟩ := h1
      exact ⟨_, _, by simp [Rel], rel_cvs h he, rfl⟩
    | str =>
      obtain ⟨s, rfl, _, rfl⟩ := h1
      exact ⟨_, _, Rel.ext (none_ext _) _ (string_back s), rel_cvs h he, rfl⟩
    | sl l =>
      rcases h1 with ⟨rfl, h2⟩ | ⟨b, s, q, m, xs, rfl, _, hle, _, _, _, rfl⟩
      · exact ⟨_, _, Rel.ext (none_ext _) _ h2, rel_cvs h he, rfl⟩
      · refine ⟨_, _, ?_, rel_cvs h he.2, rfl⟩
        simp only [Rel]
        exact ⟨_, m, laidE_at E n, ⟨rfl, hle⟩, by rw [he.1]; rfl⟩
section
variable {P : Program} {w : World} {r : Reach} {b0 : Nat} {E : Nat → Ent}
theorem rel_agg_cs {t : TypeId} {v : Value} (ht : (∃ fs, P.underlying t = some (.struct fs)) ∨ ∃ n e, P.underlying t = some (.array n e)) (hval : Value.okWide P w r b0 t v) {ks : List CS} {cs : List CV} {n : Nat} (h : CVsOk w ks cs v.cells.toList) (he : EOk E n cs) : Rel (laidE E) (.agg (avOf n cs)) v := by
  have key : ∃ cs, v = .agg cs := by
    rcases ht with ⟨fs, ht⟩ | ⟨n, e, ht⟩
    · obtain ⟨cs, h1, _⟩ := okWide_struct ht hval
      exact ⟨cs, h1⟩
    · simp only [Value.okWide, ht] at hval
      obtain ⟨cs, h1, _⟩ := hval
      exact ⟨cs, h1⟩
  obtain ⟨ds, rfl⟩ := key
  simp only [Rel]
  exact ⟨ds.toList, by simpa [Value.cells] using rel_cvs h he, by simp⟩
theorem rel_one_cs {t : TypeId} {v : Value} (hc : v.cells = #[v]) {ks : List CS} {c : CV} {a : AV} {n : Nat} (h : CVsOk w ks [c] v.cells.toList) (he : EOk E n [c]) (ha : avOf n [c] = [a]) : Rel (laidE E) a v := by
  have := rel_cvs h he
  rw [hc, ha] at this
  simp only [RelL] at this
  obtain ⟨x, ws, h1, rfl, h2⟩ := this
  simp at h2; subst h2; exact h1
theorem one_int {t : TypeId} {k : IntKind} {v : Value} (ht : P.underlying t = some (.int k)) (hval : Value.okWide P w r b0 t v) : v.cells = #[v] := by obtain ⟨n, rfl⟩ := okWide_int ht hval; rfl
theorem one_bool {t : TypeId} {v : Value} (ht : P.underlying t = some .bool) (hval : Value.okWide P w r b0 t v) : v.cells = #[v] := by obtain ⟨n, rfl⟩ := okWide_bool ht hval; rfl
theorem one_str {t : TypeId} {v : Value} (ht : P.underlying t = some .string) (hval : Value.okWide P w r b0 t v) : v.cells = #[v] := by obtain ⟨n, rfl⟩ := okWide_string ht hval; rfl
theorem one_slice {t e : TypeId} {v : Value} (ht : P.underlying t = some (.slice e)) (hval : Value.okWide P w r b0 t v) : v.cells = #[v] := by obtain ⟨a, l, c, rfl⟩ := okWide_slice ht hval; rfl
end
end Go.Sx

