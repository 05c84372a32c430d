/- A call whose run the executor does in pieces, each from a state that is written down, returns true in the model. Condition: the program passes 'okProg', and the world holds the variables so. -/
import Derived.Test.YtjmjjkcecgdkeaaDoorSxE
set_option linter.unusedSimpArgs false
set_option linter.unusedVariables false
set_option linter.unnecessarySimpa false
namespace Go.Sx
open Go.RowKit (Below)

/-! ### A run in pieces: what is known between two of them is written down -/

/-- the statements of a piece of code, one after another -/
def flat : Code → List Code
  | .seq x y => flat x ++ flat y
  | c => [c]

def wpChain (F : Fence) (n : Nat) (P : Program) (Q : Exit → Act → World → Prop) : List Code → Act → World → Prop
  | [], a, w => Q .normal a w
  | c :: cs, a, w => c.wpIn F n P (Exit.then (wpChain F n P Q cs) Q) a w

theorem chain_mono {F : Fence} {n : Nat} {P : Program} {Q Q' : Exit → Act → World → Prop} (hq : ∀ e a w, Q e a w → Q' e a w) : ∀ (cs : List Code) {a : Act} {w : World}, wpChain F n P Q cs a w → wpChain F n P Q' cs a w
  | [], a, w, h => hq _ _ _ h
  | c :: cs, a, w, h => wpIn_mono h (fun e a w he => by
      cases e with
      | normal => exact chain_mono hq cs he
      | _ => exact hq _ _ _ he)

theorem chain_flat {F : Fence} {n : Nat} {P : Program} : ∀ (c : Code) {Q : Exit → Act → World → Prop} {a : Act} {w : World}, wpChain F n P Q (flat c) a w → c.wpIn F n P Q a w := by
  have app : ∀ (xs ys : List Code) {Q : Exit → Act → World → Prop} {a : Act} {w : World}, wpChain F n P Q (xs ++ ys) a w → wpChain F n P (Exit.then (wpChain F n P Q ys) Q) xs a w := by
    intro xs
    induction xs with
    | nil => intro ys Q a w h; exact h
    | cons x xs ih =>
      intro ys Q a w h
      refine wpIn_mono h (fun e a w he => ?_)
      cases e with
      | normal => exact ih ys he
      | _ => exact he
  have one : ∀ (c : Code) {Q : Exit → Act → World → Prop} {a : Act} {w : World}, wpChain F n P Q [c] a w → c.wpIn F n P Q a w := by
    intro c Q a w h
    refine wpIn_mono h (fun e a w he => ?_)
    cases e <;> exact he
  intro c
  induction c with
  | seq x y ihx ihy =>
    intro Q a w h
    refine wpIn_seq (ihx (chain_mono (fun e a w he => ?_) _ (app (flat x) (flat y) h)))
    cases e with
    | normal => exact ihy he
    | _ => exact he
  | _ => intro Q a w h; exact one _ h

/-- a run of statements by the plain executor -/
def chainF (self : Code → Tmps → Heap → Res) : List Code → Tmps → Heap → Res
  | [], a, h => .ok (.normal, a, h)
  | c :: cs, a, h => match self c a h with
    | .ok (.normal, a', h') => chainF self cs a' h'
    | r => r

theorem chain_sound {P : Program} {self : Code → Tmps → Heap → Res} (hs : SelfOk P self) : ∀ (cs : List Code) {a a' : Tmps} {h h' : Heap} {ex : Ex}, chainF self cs a h = .ok (ex, a', h') →
    ∀ (lo : Nat) (DL : List Deferred) (ρ : Nat → Option Ent) (w : World) (A : Act), SRel ρ h w → FRel DL ρ a A → Marks lo DL ρ h w →
    ∀ Q : Exit → Act → World → Prop, (∀ DL' ρ' w' A', SRel ρ' h' w' → Good ρ h w ρ' h' w' → FRel DL' ρ' a' A' → Marks lo DL' ρ' h' w' → Q (exitOf ex) A' w') → wpChain (RF none) 0 P Q cs A w
  | [], a, a', h, h', ex, hr, lo, DL, ρ, w, A, S, F, M, Q, hQ => by
    simp only [chainF, R.ok.injEq, Prod.mk.injEq] at hr; obtain ⟨rfl, rfl, rfl⟩ := hr
    exact hQ DL ρ w A S (Good.refl _ _ _) F M
  | c :: cs, a, a', h, h', ex, hr, lo, DL, ρ, w, A, S, F, M, Q, hQ => by
    simp only [chainF] at hr
    split at hr
    · rename_i a1 h1 h2
      refine hs none _ _ _ _ _ _ h2 (.inl rfl) lo DL ρ w A S F M _ (fun DL1 ρ1 w1 A1 S1 G1 F1 M1 => ?_)
      exact chain_sound hs cs hr lo DL1 ρ1 w1 A1 S1 F1 M1 Q (fun DL2 ρ2 w2 A2 S2 G2 F2 M2 => hQ DL2 ρ2 w2 A2 S2 (G1.trans G2) F2 M2)
    · rename_i hne
      refine hs none _ _ _ _ _ _ hr (.inl rfl) lo DL ρ w A S F M _ (fun DL1 ρ1 w1 A1 S1 G1 F1 M1 => ?_)
      have := hQ DL1 ρ1 w1 A1 S1 G1 F1 M1
      cases ex with
      | normal => exact absurd hr (hne _ _)
      | exit id => exact this
      | ret => exact this
      | goto l => exact this

/-! what is kept of a state -/
structure Sub (a1 : Tmps) (h1 : Heap) (a : Tmps) (h : Heap) : Prop where
  n : a1.n = a.n
  slots : ∀ t v, a1.get t = some v → a.get t = some v
  next : h1.next = h.next
  lim : h1.lim = h.lim
  blks : ∀ b c, h1.t.get b = some c → h.t.get b = some c

theorem Sub.srel {a1 a : Tmps} {h1 h : Heap} (B : Sub a1 h1 a h) {ρ : Nat → Option Ent} {w : World} (S : SRel ρ h w) : SRel ρ h1 w :=
  ⟨fun i c hc => S.dom i c (B.blks i c hc), fun i p q => S.free i (by rw [← B.next]; exact p) (by rw [← B.lim]; exact q), fun i e b he hb => S.blks i e b he (B.blks i b hb),
    fun i j e e' b b' hij he he' hb hb' => S.inj i j e e' b b' hij he he' (B.blks i b hb) (B.blks j b' hb')⟩
theorem Sub.frel {a1 a : Tmps} {h1 h : Heap} (B : Sub a1 h1 a h) {DL : List Deferred} {ρ : Nat → Option Ent} {A : Act} (F : FRel DL ρ a A) : FRel DL ρ a1 A :=
  ⟨fun t v hv => F.slot t v (B.slots t v hv), by rw [B.n]; exact F.n, F.defers, F.glob⟩
theorem Sub.marks {a1 a : Tmps} {h1 h : Heap} (B : Sub a1 h1 a h) {lo : Nat} {DL : List Deferred} {ρ : Nat → Option Ent} {w : World} (M : Marks lo DL ρ h w) : Marks lo DL ρ h1 w := by
  obtain ⟨hl, Ds, h1', h2, h3⟩ := M
  exact ⟨hl, Ds, h1', h2, fun D hD => let ⟨k1, k2, k3⟩ := h3 D hD; ⟨k1, k2, fun i e b he hb hlb => k3 i e b he (B.blks i b hb) hlb⟩⟩

/-- the rest of a function's statements, in pieces -/
inductive Pieces (P : Program) (n : Nat) (fn : Func) (L : List (Nat × List AV)) : List Code → Tmps → Heap → Prop where
  | last {cs : List Code} {a a' : Tmps} {h h' : Heap} {ex : Ex} (hr : chainF (codeN P n) cs a h = .ok (ex, a', h')) (hx : ex = .normal ∨ ex = .ret) (hv : resultsA P fn h' a' = some (.bool true))
      (hu : unwritten L h'.wr = true) : Pieces P n fn L cs a h
  | more {cs ds : List Code} {a a' a1 : Tmps} {h h' h1 : Heap} (hr : chainF (codeN P n) cs a h = .ok (.normal, a', h')) (hu : unwritten L h'.wr = true) (hs : Sub a1 h1 a' h')
      (hl : ∀ g c, assocL L g = some c → h1.t.get (1048576 + g) = some (.cells 0 c false)) (hp : Pieces P n fn L ds a1 h1) : Pieces P n fn L (cs ++ ds) a h

/-- since the world w0 nothing that was there has changed; what the heap holds is new, or one of the variables -/
structure Since (L : List (Nat × List AV)) (w0 : World) (ρ : Nat → Option Ent) (h : Heap) (w : World) : Prop where
  below : Below w0.heap.size w0 w
  lim : h.lim = 1048576
  nextLe : h.next ≤ h.lim
  vars : ∀ g c, assocL L g = some c → h.t.get (1048576 + g) = some (.cells 0 c false)
  ents : ∀ g c, assocL L g = some c → ∃ k, ρ (1048576 + g) = some ⟨g, 0, k⟩
  img : ∀ (i : Nat) (e : Ent) (b : Blk), ρ i = some e → h.t.get i = some b → b.live = true → (∃ c, assocL L e.blk = some c) ∨ w0.heap.size ≤ e.blk

theorem Since.good {L : List (Nat × List AV)} {w0 w w' : World} {ρ ρ' : Nat → Option Ent} {h h' : Heap} (I : Since L w0 ρ h w) (S : SRel ρ h w) (G : Good ρ h w ρ' h' w') (hu : unwritten L h'.wr = true) :
    Below w0.heap.size w0 w' ∧ h'.lim = 1048576 ∧ h'.next ≤ h'.lim ∧ (∀ g c, assocL L g = some c → ∃ k, ρ' (1048576 + g) = some ⟨g, 0, k⟩) ∧
      ∀ (i : Nat) (e : Ent) (b : Blk), ρ' i = some e → h'.t.get i = some b → b.live = true → (∃ c, assocL L e.blk = some c) ∨ w0.heap.size ≤ e.blk := by
  have hsz : w0.heap.size ≤ w.heap.size := I.below.size
  refine ⟨⟨G.os.trans I.below.os, G.tape.trans I.below.tape, G.output.trans I.below.output, Nat.le_trans hsz G.size, fun k hk => ?_⟩, by rw [G.lims]; exact I.lim, by rw [G.lims]; exact G.bound I.nextLe, fun g c hg => ?_, fun i e b he hb hl => ?_⟩
  · have hw : w.heap[k]? = w0.heap[k]? := I.below.block k hk
    cases hL : assocL L k with
    | some c =>
      obtain ⟨q, hq⟩ := I.ents k c hL
      have := G.unw (1048576 + k) _ _ hq (I.vars k c hL) rfl (unwritten_ok hu k c hL) I.nextLe (.inr (by rw [I.lim]; exact Nat.le_add_right _ _))
      rw [← hw]; exact this
    | none =>
      rw [← hw]
      refine G.keep k (Nat.lt_of_lt_of_le hk hsz) (fun i e b he hb hl hq => ?_)
      rcases I.img i e b he hb hl with ⟨c, hc⟩ | hge
      · rw [hq, hL] at hc; cases hc
      · omega
  · obtain ⟨k, hk⟩ := I.ents g c hg
    exact ⟨k, G.ext _ _ hk⟩
  · rcases G.img i e b he hb hl with ⟨i0, e0, b0, q1, q2, q3, q4⟩ | hge
    · rw [← q4]; exact I.img i0 e0 b0 q1 q2 q3
    · exact .inr (Nat.le_trans hsz hge)

theorem leaves_true {P : Program} {DL : List Deferred} {ρ : Nat → Option Ent} {h : Heap} {a : Tmps} {A : Act} {fn : Func} (F : FRel DL ρ a A) (hv : resultsA P fn h a = some (.bool true)) {w0 : World} :
    ∀ (Ds : List Nat) (w : World), SRel ρ h w → Below w0.heap.size w0 w → Ds.Nodup → (∀ D, D ∈ Ds → w0.heap.size ≤ D ∧ w.heap[D]? = some (.deferred (some [])) ∧
      ∀ (i : Nat) (e : Ent) (b : Blk), ρ i = some e → h.t.get i = some b → b.live = true → e.blk ≠ D) →
      LeavesInM (RF none) 0 P fn A.tmps (fun e w' => e = .returned (.bool true) ∧ Below w0.heap.size w0 w') (Ds.map markOf) .returning w
  | [], w, S, B, _, _ => by
    obtain ⟨V, k1, k2⟩ := resultsA_run S F hv
    simp only [Rel] at k2
    subst k2
    exact ⟨_, k1, rfl, B⟩
  | D :: Ds, w, S, B, hn, hD => by
    obtain ⟨k1, k2, k3⟩ := hD D (List.mem_cons_self)
    have hnd := List.nodup_cons.1 hn
    refine ⟨by simp, .inl ⟨D, w.putObj D (.deferred none), rfl, run_takeDeferred k2, ?_⟩⟩
    refine leaves_true F hv Ds _ (S.aside k3) ⟨B.os, B.tape, B.output, by simpa using B.size, fun k hk => by rw [World.putObj_heap_other (by omega)]; exact B.block k hk⟩ hnd.2 (fun E hE => ?_)
    obtain ⟨q1, q2, q3⟩ := hD E (List.mem_cons_of_mem _ hE)
    exact ⟨q1, by rw [World.putObj_heap_other (fun q => hnd.1 (by rw [← q]; exact hE))]; exact q2, q3⟩

theorem chain_append {F : Fence} {n : Nat} {P : Program} {Q : Exit → Act → World → Prop} (ds : List Code) : ∀ (cs : List Code) {a : Act} {w : World}, wpChain F n P (Exit.then (wpChain F n P Q ds) Q) cs a w → wpChain F n P Q (cs ++ ds) a w
  | [], a, w, h => h
  | c :: cs, a, w, h => wpIn_mono h (fun e a w he => by
      cases e with
      | normal => exact chain_append ds cs he
      | _ => exact he)

theorem pieces_sound {P : Program} (hP : okProg P = true) {n : Nat} {fn : Func} {L : List (Nat × List AV)} {w0 : World} {cs : List Code} {a : Tmps} {h : Heap} (hp : Pieces P n fn L cs a h) :
    ∀ {DL : List Deferred} {ρ : Nat → Option Ent} {w : World} {A : Act}, SRel ρ h w → FRel DL ρ a A → Marks w0.heap.size DL ρ h w → Since L w0 ρ h w →
      wpChain (RF none) 0 P (bodyPostM (RF none) 0 P fn fun e w' => e = .returned (.bool true) ∧ Below w0.heap.size w0 w') cs A w := by
  induction hp with
  | last hr hx hv hu =>
    intro DL ρ w A S F M I
    refine chain_sound (code_sound hP n) _ hr _ DL ρ w A S F M _ (fun DL' ρ' w' A' S' G' F' M' => ?_)
    obtain ⟨hb, _, _, _, _⟩ := I.good S G' hu
    obtain ⟨_, Ds, rfl, hn, hD⟩ := M'
    have key := leaves_true F' hv Ds w' S' hb hn hD
    rw [← F'.defers] at key
    rcases hx with rfl | rfl <;> exact key
  | more hr hu hs hl hp ih =>
    intro DL ρ w A S F M I
    refine chain_append _ _ (chain_sound (code_sound hP n) _ hr _ DL ρ w A S F M _ (fun DL' ρ' w' A' S' G' F' M' => ?_))
    obtain ⟨hb, hlim, hle, hents, himg⟩ := I.good S G' hu
    exact ih (hs.srel S') (hs.frel F') (hs.marks M') ⟨hb, by rw [hs.lim]; exact hlim, by rw [hs.lim, hs.next]; exact hle, hl, hents, fun i e b he hb' hlb => himg i e b he (hs.blks i b hb') hlb⟩

/-- a call of a function without parameters whose statements were run in pieces -/
theorem call_pieces {P : Program} (hP : okProg P = true) {n : Nat} {f : FuncId} {fn : Func} {body : Code} {L : List (Nat × List AV)} (hf : P.funcs[f]? = some fn) (hb : fn.body = some body)
    (hp : Pieces P n fn L (flat body) { n := fn.ntmps, dflt := true, t := .leaf } (laidHeap L)) {w : World} (hL : LaidIn w L) :
    Calls P f #[] w fun e w' => e = .returned (.bool true) ∧ Below w.heap.size w w' := by
  have S := srel_laid hL
  have F0 := frame_enter (globs_laid L) (args := []) (ARGS := []) (by simp [RelL]) fn.ntmps
  have F : FRel [] (globsLaid L) { n := fn.ntmps, dflt := true, t := .leaf } { tmps := #[] ++ Array.replicate (fn.ntmps - (#[] : Array Value).size) undef, defers := [] } := by
    simpa [enterT] using F0
  have I : Since L w (globsLaid L) (laidHeap L) w := by
    refine ⟨Below.refl _ _, rfl, Nat.zero_le _, fun g c hg => ?_, fun g c hg => ⟨_, by simp only [globsLaid]; rw [if_pos (by omega), show 1048576 + g - 1048576 = g by omega]⟩, fun i e b he hb' hl => ?_⟩
    · show (laidTree L).get (1048576 + g) = _
      rw [laidTree_get, if_pos (by omega), show 1048576 + g - 1048576 = g by omega, hg]; rfl
    · have hb' : (laidTree L).get i = some b := hb'
      rw [laidTree_get] at hb'
      by_cases q : 1048576 ≤ i
      · rw [if_pos q] at hb'
        simp only [globsLaid, if_pos q, Option.some.injEq] at he
        subst he
        cases ha : assocL L (i - 1048576) with
        | none => rw [ha] at hb'; cases hb'
        | some c => exact .inl ⟨c, (by first | exact ha | rfl)⟩
      · rw [if_neg q] at hb'; cases hb'
  have M : Marks w.heap.size [] (globsLaid L) (laidHeap L) w := Marks.none (Nat.le_refl _)
  exact callsIn_wide.1 (callsIn_of_wp_marks hf hb trivial (chain_flat body (pieces_sound hP hp S F M I)))

end Go.Sx

namespace Go.Sx
open Go.RowKit (Below)

/-! ### Pieces by closed Bools -/

/-- statements one after another, in the fast form -/
noncomputable def chainS (P : Program) (cs : List Code) : BoxF :=
  @List.rec Code (fun _ => BoxF) ⟨fun _ _ a h => .normal a h⟩
    (fun c _ ih => ⟨fun s n a h => @RC.rec (fun _ => RC) (fun a' h' => ih.f s n a' h') RC.exit RC.ret RC.goto RC.bad ((codeS P c).f s n a h)⟩) cs

theorem chainS_eq {P : Program} {s : Self'} {n : Nat} (hs : SelfS P s n) (cs : List Code) (a : Tmps) (h : Heap) : (chainS P cs).f s n a h = RC.ofR (chainF (codeN P n) cs a h) := by
  induction cs generalizing a h with
  | nil => rfl
  | cons c cs ih =>
    show @RC.rec (fun _ => RC) (fun a' h' => (chainS P cs).f s n a' h') RC.exit RC.ret RC.goto RC.bad ((codeS P c).f s n a h) = _
    rw [codeS_eq n hs, RC.rec_ofR, chainF]
    cases codeN P n c a h with
    | bad q => rfl
    | ok x => obtain ⟨ex, a', h'⟩ := x; cases ex <;> first | rfl | exact ih a' h'

/-- what is written down between two pieces -/
structure St where
  n : Nat
  slots : List (Nat × AV)
  next : Nat
  blks : List (Nat × Blk)

def slotsT : List (Nat × AV) → T AV
  | [] => .leaf
  | (t, v) :: r => (slotsT r).put (t + 1) t v
def blksT (t0 : T Blk) : List (Nat × Blk) → T Blk
  | [] => t0
  | (b, c) :: r => (blksT t0 r).put (b + 1) b c
def stT (S : St) : Tmps := { n := S.n, dflt := false, t := slotsT S.slots }
def stH (L : List (Nat × List AV)) (S : St) : Heap := { next := S.next, lim := 1048576, wr := [], t := blksT (laidTree L) S.blks }

/-! equality -/
def eqNs : List Nat → List Nat → Bool
  | [], [] => true
  | x :: a, y :: b => Nat.beq x y && eqNs a b
  | _, _ => false
theorem eqNs_ok : ∀ {a b : List Nat}, eqNs a b = true → a = b
  | [], [], _ => rfl
  | x :: a, y :: b, h => by
    simp only [eqNs, Bool.and_eq_true] at h
    rw [Nat.eq_of_beq_eq_true h.1, eqNs_ok h.2]
  | [], _ :: _, h => by cases h
  | _ :: _, [], h => by cases h
def eqCap : Cap → Cap → Bool
  | .exact a, .exact b => Nat.beq a b
  | .upto a c, .upto b d => Nat.beq a b && Nat.beq c d
  | _, _ => false
theorem eqCap_ok : ∀ {a b : Cap}, eqCap a b = true → a = b
  | .exact a, .exact b, h => by rw [Nat.eq_of_beq_eq_true h]
  | .upto a c, .upto b d, h => by simp only [eqCap, Bool.and_eq_true] at h; rw [Nat.eq_of_beq_eq_true h.1, Nat.eq_of_beq_eq_true h.2]
  | .exact _, .upto _ _, h => by cases h
  | .upto _ _, .exact _, h => by cases h
def eqFn : Fn → Fn → Bool
  | .func a, .func b => Nat.beq a b
  | _, _ => false
theorem eqFn_ok : ∀ {a b : Fn}, eqFn a b = true → a = b := by
  intro a b h
  cases a <;> cases b <;> first | (cases h; done) | (rw [Nat.eq_of_beq_eq_true h])
theorem eqI_ok : ∀ {a b : Int}, eqI a b = true → a = b := by
  intro a b h
  cases a <;> cases b <;> first | (cases h; done) | (rw [Nat.eq_of_beq_eq_true h])
theorem kEq_ok {k k' : IntKind} (h : kEq k k' = true) : k = k' := by rw [kEq_eq] at h; exact of_decide_eq_true h

mutual
noncomputable def eqAV : AV → AV → Bool
  | .bool a, .bool b => a == b
  | .int k a, .int j b => kEq k j && eqI a b
  | .str a, .str b => eqNs a b
  | .nilp, .nilp => true
  | .ptr a i, .ptr b j => Nat.beq a b && Nat.beq i j
  | .nils, .nils => true
  | .slc a i n c, .slc b j m d => Nat.beq a b && Nat.beq i j && Nat.beq n m && eqCap c d
  | .nilm, .nilm => true
  | .map a, .map b => Nat.beq a b
  | .nilf, .nilf => true
  | .fn f x y, .fn g u v => eqFn f g && eqAVs x u && eqAVs y v
  | .nili, .nili => true
  | .ifc t v, .ifc u w => Nat.beq t u && eqAV v w
  | .agg a, .agg b => eqAVs a b
  | .tup a, .tup b => eqAVs a b
  | .emp, .emp => true
  | _, _ => false
noncomputable def eqAVs : List AV → List AV → Bool
  | [], [] => true
  | a :: x, b :: y => eqAV a b && eqAVs x y
  | _, _ => false
end

mutual
theorem eqAV_ok : ∀ (a b : AV), eqAV a b = true → a = b
  | .bool a, b, h => by cases b <;> first | (cases h; done) | (simp only [eqAV, beq_iff_eq] at h; rw [h])
  | .int k a, b, h => by
    cases b <;> first | (cases h; done) | skip
    simp only [eqAV, Bool.and_eq_true] at h; rw [kEq_ok h.1, eqI_ok h.2]
  | .str a, b, h => by cases b <;> first | (cases h; done) | (simp only [eqAV] at h; rw [eqNs_ok h])
  | .nilp, b, h => by cases b <;> first | (cases h; done) | rfl
  | .ptr a i, b, h => by
    cases b <;> first | (cases h; done) | skip
    simp only [eqAV, Bool.and_eq_true] at h; rw [Nat.eq_of_beq_eq_true h.1, Nat.eq_of_beq_eq_true h.2]
  | .nils, b, h => by cases b <;> first | (cases h; done) | rfl
  | .slc a i n c, b, h => by
    cases b <;> first | (cases h; done) | skip
    simp only [eqAV, Bool.and_eq_true] at h; obtain ⟨⟨⟨h1, h2⟩, h3⟩, h4⟩ := h
    rw [Nat.eq_of_beq_eq_true h1, Nat.eq_of_beq_eq_true h2, Nat.eq_of_beq_eq_true h3, eqCap_ok h4]
  | .nilm, b, h => by cases b <;> first | (cases h; done) | rfl
  | .map a, b, h => by cases b <;> first | (cases h; done) | (simp only [eqAV] at h; rw [Nat.eq_of_beq_eq_true h])
  | .nilf, b, h => by cases b <;> first | (cases h; done) | rfl
  | .fn f x y, b, h => by
    cases b <;> first | (cases h; done) | skip
    simp only [eqAV, Bool.and_eq_true] at h; obtain ⟨⟨h1, h2⟩, h3⟩ := h
    rw [eqFn_ok h1, eqAVs_ok x _ h2, eqAVs_ok y _ h3]
  | .nili, b, h => by cases b <;> first | (cases h; done) | rfl
  | .ifc t v, b, h => by
    cases b <;> first | (cases h; done) | skip
    simp only [eqAV, Bool.and_eq_true] at h; rw [Nat.eq_of_beq_eq_true h.1, eqAV_ok v _ h.2]
  | .agg a, b, h => by cases b <;> first | (cases h; done) | (simp only [eqAV] at h; rw [eqAVs_ok a _ h])
  | .tup a, b, h => by cases b <;> first | (cases h; done) | (simp only [eqAV] at h; rw [eqAVs_ok a _ h])
  | .emp, b, h => by cases b <;> first | (cases h; done) | rfl
theorem eqAVs_ok : ∀ (a b : List AV), eqAVs a b = true → a = b
  | [], b, h => by cases b <;> first | (cases h; done) | rfl
  | x :: a, b, h => by
    cases b with
    | nil => cases h
    | cons y b => simp only [eqAVs, Bool.and_eq_true] at h; rw [eqAV_ok x y h.1, eqAVs_ok a b h.2]
end

noncomputable def eqEs : List (AV × AV × Nat) → List (AV × AV × Nat) → Bool
  | [], [] => true
  | (k, v, n) :: a, (j, w, m) :: b => eqAV k j && eqAV v w && Nat.beq n m && eqEs a b
  | _, _ => false
theorem eqEs_ok : ∀ {a b : List (AV × AV × Nat)}, eqEs a b = true → a = b
  | [], [], _ => rfl
  | (k, v, n) :: a, (j, w, m) :: b, h => by
    simp only [eqEs, Bool.and_eq_true] at h; obtain ⟨⟨⟨h1, h2⟩, h3⟩, h4⟩ := h
    rw [eqAV_ok _ _ h1, eqAV_ok _ _ h2, Nat.eq_of_beq_eq_true h3, eqEs_ok h4]
  | [], _ :: _, h => by cases h
  | _ :: _, [], h => by cases h
noncomputable def eqBlk : Blk → Blk → Bool
  | .cells t cs o, .cells u ds p => Nat.beq t u && eqAVs cs ds && o == p
  | .map es n, .map fs m => eqEs es fs && Nat.beq n m
  | .dead, .dead => true
  | _, _ => false
theorem eqBlk_ok : ∀ {a b : Blk}, eqBlk a b = true → a = b := by
  intro a b h
  cases a <;> cases b <;> first | (cases h; done) | skip
  · simp only [eqBlk, Bool.and_eq_true, beq_iff_eq] at h; obtain ⟨⟨h1, h2⟩, h3⟩ := h
    rw [Nat.eq_of_beq_eq_true h1, eqAVs_ok _ _ h2, h3]
  · simp only [eqBlk, Bool.and_eq_true] at h; rw [eqEs_ok h.1, Nat.eq_of_beq_eq_true h.2]
  · rfl

noncomputable def slotsB (a : Tmps) : List (Nat × AV) → Bool
  | [] => true
  | (t, v) :: r => (match a.get t with | some u => eqAV v u | none => false) && slotsB a r
noncomputable def blksB (h : Heap) : List (Nat × Blk) → Bool
  | [] => true
  | (b, c) :: r => Nat.blt b 1048576 && (match h.t.get b with | some d => eqBlk c d | none => false) && blksB h r
noncomputable def laidB (h : Heap) : List (Nat × List AV) → Bool
  | [] => true
  | (g, cs) :: r => (match h.t.get (1048576 + g) with | some d => eqBlk (.cells 0 cs false) d | none => false) && laidB h r
noncomputable def subB (L : List (Nat × List AV)) (S : St) (a : Tmps) (h : Heap) : Bool :=
  Nat.beq S.n a.n && Nat.beq S.next h.next && Nat.beq h.lim 1048576 && slotsB a S.slots && blksB h S.blks && laidB h L

theorem slotsB_ok {a : Tmps} : ∀ {l : List (Nat × AV)}, slotsB a l = true → ∀ t v, (slotsT l).get t = some v → a.get t = some v
  | [], _, t, v, h => by simp [slotsT, T.get] at h
  | (t0, v0) :: r, h, t, v, hg => by
    simp only [slotsB, Bool.and_eq_true] at h
    rw [slotsT, T.get_put _ _ _ _ _ (Nat.lt_succ_self _)] at hg
    by_cases q : t = t0
    · rw [if_pos q, Option.some.injEq] at hg; subst hg; subst q
      have h1 := h.1
      cases ha : a.get t with
      | none => rw [ha] at h1; cases h1
      | some u => rw [ha] at h1; rw [eqAV_ok _ _ h1]
    · rw [if_neg q] at hg; exact slotsB_ok h.2 t v hg

theorem blksB_ok {h : Heap} {t0 : T Blk} (h0 : ∀ b c, t0.get b = some c → h.t.get b = some c) : ∀ {l : List (Nat × Blk)}, blksB h l = true → ∀ b c, (blksT t0 l).get b = some c → h.t.get b = some c
  | [], _, b, c, hg => h0 b c hg
  | (b1, c1) :: r, hb, b, c, hg => by
    simp only [blksB, Bool.and_eq_true] at hb
    rw [blksT, T.get_put _ _ _ _ _ (Nat.lt_succ_self _)] at hg
    by_cases q : b = b1
    · rw [if_pos q, Option.some.injEq] at hg; subst hg; subst q
      have h1 := hb.1.2
      cases ha : h.t.get b with
      | none => rw [ha] at h1; cases h1
      | some u => rw [ha] at h1; rw [eqBlk_ok h1]
    · rw [if_neg q] at hg; exact blksB_ok h0 hb.2 b c hg

theorem blks_above {h : Heap} {t0 : T Blk} {b : Nat} (hb : 1048576 ≤ b) : ∀ {l : List (Nat × Blk)}, blksB h l = true → (blksT t0 l).get b = t0.get b
  | [], _ => rfl
  | (b1, c1) :: r, h1 => by
    simp only [blksB, Bool.and_eq_true] at h1
    have : b1 < 1048576 := Nat.le_of_ble_eq_true h1.1.1
    rw [blksT, T.get_put _ _ _ _ _ (Nat.lt_succ_self _), if_neg (by omega)]
    exact blks_above hb h1.2

theorem laidB_ok {h : Heap} : ∀ {L : List (Nat × List AV)}, laidB h L = true → ∀ g cs, assocL L g = some cs → h.t.get (1048576 + g) = some (.cells 0 cs false)
  | [], _, g, cs, hg => by cases hg
  | (k, ks) :: r, hl, g, cs, hg => by
    simp only [laidB, Bool.and_eq_true] at hl
    simp only [assocL] at hg
    split at hg
    · rename_i hk; subst hk
      simp only [Option.some.injEq] at hg; subst hg
      have h1 := hl.1
      cases ha : h.t.get (1048576 + k) with
      | none => rw [ha] at h1; cases h1
      | some u => rw [ha] at h1; rw [← eqBlk_ok h1]
    · exact laidB_ok hl.2 g cs hg

theorem subB_ok {L : List (Nat × List AV)} {S : St} {a : Tmps} {h : Heap} (hs : subB L S a h = true) :
    Sub (stT S) (stH L S) a h ∧ ∀ g c, assocL L g = some c → (stH L S).t.get (1048576 + g) = some (.cells 0 c false) := by
  simp only [subB, Bool.and_eq_true] at hs
  obtain ⟨⟨⟨⟨⟨h1, h2⟩, h3⟩, h4⟩, h5⟩, h6⟩ := hs
  have laid : ∀ b c, (laidTree L).get b = some c → h.t.get b = some c := by
    intro b c hb
    rw [laidTree_get] at hb
    by_cases q : 1048576 ≤ b
    · rw [if_pos q] at hb
      cases ha : assocL L (b - 1048576) with
      | none => rw [ha] at hb; cases hb
      | some cs =>
        rw [ha] at hb; simp only [Option.map_some, Option.some.injEq] at hb; subst hb
        have := laidB_ok h6 _ _ ha
        rwa [show 1048576 + (b - 1048576) = b by omega] at this
    · rw [if_neg q] at hb; cases hb
  refine ⟨⟨Nat.eq_of_beq_eq_true h1, fun t v hv => ?_, Nat.eq_of_beq_eq_true h2, (Nat.eq_of_beq_eq_true h3).symm, blksB_ok laid h5⟩, fun g c hg => ?_⟩
  · refine slotsB_ok h4 t v ?_
    simp only [Tmps.get, stT] at hv
    cases hq : (slotsT S.slots).get t with
    | none => rw [hq] at hv; cases hv
    | some u => rw [hq] at hv; exact hv
  · show (blksT (laidTree L) S.blks).get (1048576 + g) = _
    rw [blks_above (Nat.le_add_right _ _) h5, laidTree_get, if_pos (Nat.le_add_right _ _), show 1048576 + g - 1048576 = g by omega, hg]; rfl

/-- one piece: it goes off its end in a state that is as written down -/
noncomputable def pieceB (L : List (Nat × List AV)) (S : St) (r : RC) : Bool :=
  @RC.rec (fun _ => Bool) (fun a h => unwritten L h.wr && subB L S a h) (fun _ _ _ => false) (fun _ _ => false) (fun _ _ _ => false) (fun _ => false) r
/-- the last piece -/
noncomputable def lastB (P : Program) (fn : Func) (L : List (Nat × List AV)) (r : RC) : Bool :=
  @RC.rec (fun _ => Bool) (fun a h => unwritten L h.wr && (match (resultsS P fn).f h a with | some (.bool b) => b | _ => false)) (fun _ _ _ => false)
    (fun a h => unwritten L h.wr && (match (resultsS P fn).f h a with | some (.bool b) => b | _ => false)) (fun _ _ _ => false) (fun _ => false) r

theorem selfS_run (P : Program) (n : Nat) : SelfS P (runS P n) n := fun m hm t args h => runS_eq P n m hm t args h

theorem piece_more {P : Program} {n : Nat} {fn : Func} {L : List (Nat × List AV)} {cs ds : List Code} {a : Tmps} {h : Heap} {S : St} (hb : pieceB L S ((chainS P cs).f (runS P n) n a h) = true) (hp : Pieces P n fn L ds (stT S) (stH L S)) :
    Pieces P n fn L (cs ++ ds) a h := by
  rw [chainS_eq (selfS_run P n)] at hb
  cases hc : chainF (codeN P n) cs a h with
  | bad q => rw [hc] at hb; cases hb
  | ok x =>
    obtain ⟨ex, a', h'⟩ := x
    rw [hc] at hb
    cases ex <;> try (cases hb; done)
    have hb : (unwritten L h'.wr && subB L S a' h') = true := hb
    simp only [Bool.and_eq_true] at hb
    obtain ⟨hs, hl⟩ := subB_ok hb.2
    exact .more hc hb.1 hs hl hp

theorem piece_last {P : Program} {n : Nat} {fn : Func} {L : List (Nat × List AV)} {cs : List Code} {a : Tmps} {h : Heap} (hb : lastB P fn L ((chainS P cs).f (runS P n) n a h) = true) : Pieces P n fn L cs a h := by
  rw [chainS_eq (selfS_run P n)] at hb
  have key : ∀ {a' h'}, (unwritten L h'.wr && (match (resultsS P fn).f h' a' with | some (.bool b) => b | _ => false)) = true → unwritten L h'.wr = true ∧ resultsA P fn h' a' = some (.bool true) := by
    intro a' h' hq
    simp only [Bool.and_eq_true, resultsS_eq] at hq
    refine ⟨hq.1, ?_⟩
    have h2 := hq.2
    split at h2
    · rename_i b hr; rw [hr, h2]
    · cases h2
  cases hc : chainF (codeN P n) cs a h with
  | bad q => rw [hc] at hb; cases hb
  | ok x =>
    obtain ⟨ex, a', h'⟩ := x
    rw [hc] at hb
    cases ex <;> try (cases hb; done)
    · obtain ⟨k1, k2⟩ := key hb; exact .last hc (.inl rfl) k2 k1
    · obtain ⟨k1, k2⟩ := key hb; exact .last hc (.inr rfl) k2 k1

end Go.Sx

