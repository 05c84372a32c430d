/- A call whose run the executor does in pieces, each from a state that is written down, returns true in the model. Condition: the program passes 'okProg', and the world holds the variables so. Also where unknown numbers stand in the states: then what the call returns is a term. -/
import Derived.Test.YtpfmnoebodjaiaaSxE
set_option linter.unusedSimpArgs false
set_option linter.unusedVariables false
set_option linter.unnecessarySimpa false
namespace Go.Sx
open Go.RowKit (Below)

/-! ### A run in pieces: what is known between two of them is written down -/

/-- the statements of a piece of code, one after another -/
def flat : Code → List Code
  | .seq x y => flat x ++ flat y
  | c => [c]

def wpChain (F : Fence) (n : Nat) (P : Program) (Q : Exit → Act → World → Prop) : List Code → Act → World → Prop
  | [], a, w => Q .normal a w
  | c :: cs, a, w => c.wpIn F n P (Exit.then (wpChain F n P Q cs) Q) a w

theorem chain_mono {F : Fence} {n : Nat} {P : Program} {Q Q' : Exit → Act → World → Prop} (hq : ∀ e a w, Q e a w → Q' e a w) : ∀ (cs : List Code) {a : Act} {w : World}, wpChain F n P Q cs a w → wpChain F n P Q' cs a w
  | [], a, w, h => hq _ _ _ h
  | c :: cs, a, w, h => wpIn_mono h (fun e a w he => by
      cases e with
      | normal => exact chain_mono hq cs he
      | _ => exact hq _ _ _ he)

theorem chain_flat {F : Fence} {n : Nat} {P : Program} : ∀ (c : Code) {Q : Exit → Act → World → Prop} {a : Act} {w : World}, wpChain F n P Q (flat c) a w → c.wpIn F n P Q a w := by
  have app : ∀ (xs ys : List Code) {Q : Exit → Act → World → Prop} {a : Act} {w : World}, wpChain F n P Q (xs ++ ys) a w → wpChain F n P (Exit.then (wpChain F n P Q ys) Q) xs a w := by
    intro xs
    induction xs with
    | nil => intro ys Q a w h; exact h
    | cons x xs ih =>
      intro ys Q a w h
      refine wpIn_mono h (fun e a w he => ?_)
      cases e with
      | normal => exact ih ys he
      | _ => exact he
  have one : ∀ (c : Code) {Q : Exit → Act → World → Prop} {a : Act} {w : World}, wpChain F n P Q [c] a w → c.wpIn F n P Q a w := by
    intro c Q a w h
    refine wpIn_mono h (fun e a w he => ?_)
    cases e <;> exact he
  intro c
  induction c with
  | seq x y ihx ihy =>
    intro Q a w h
    refine wpIn_seq (ihx (chain_mono (fun e a w he => ?_) _ (app (flat x) (flat y) h)))
    cases e with
    | normal => exact ihy he
    | _ => exact he
  | _ => intro Q a w h; exact one _ h

/-- a run of statements by the plain executor -/
def chainF (self : Code → Tmps → Heap → Res) : List Code → Tmps → Heap → Res
  | [], a, h => .ok (.normal, a, h)
  | c :: cs, a, h => match self c a h with
    | .ok (.normal, a', h') => chainF self cs a' h'
    | r => r

theorem chain_sound {P : Program} {self : Code → Tmps → Heap → Res} (hs : SelfOk P self) : ∀ (cs : List Code) {a a' : Tmps} {h h' : Heap} {ex : Ex}, chainF self cs a h = .ok (ex, a', h') →
    ∀ (lo : Nat) (DL : List Deferred) (ρ : Nat → Option Ent) (w : World) (A : Act), SRel ρ h w → FRel DL ρ a A → Marks lo DL ρ h w →
    ∀ Q : Exit → Act → World → Prop, (∀ DL' ρ' w' A', SRel ρ' h' w' → Good ρ h w ρ' h' w' → FRel DL' ρ' a' A' → Marks lo DL' ρ' h' w' → Q (exitOf ex) A' w') → wpChain (RF none) 0 P Q cs A w
  | [], a, a', h, h', ex, hr, lo, DL, ρ, w, A, S, F, M, Q, hQ => by
    simp only [chainF, R.ok.injEq, Prod.mk.injEq] at hr; obtain ⟨rfl, rfl, rfl⟩ := hr
    exact hQ DL ρ w A S (Good.refl _ _ _) F M
  | c :: cs, a, a', h, h', ex, hr, lo, DL, ρ, w, A, S, F, M, Q, hQ => by
    simp only [chainF] at hr
    split at hr
    · rename_i a1 h1 h2
      refine hs none _ _ _ _ _ _ h2 (.inl rfl) lo DL ρ w A S F M _ (fun DL1 ρ1 w1 A1 S1 G1 F1 M1 => ?_)
      exact chain_sound hs cs hr lo DL1 ρ1 w1 A1 S1 F1 M1 Q (fun DL2 ρ2 w2 A2 S2 G2 F2 M2 => hQ DL2 ρ2 w2 A2 S2 (G1.trans G2) F2 M2)
    · rename_i hne
      refine hs none _ _ _ _ _ _ hr (.inl rfl) lo DL ρ w A S F M _ (fun DL1 ρ1 w1 A1 S1 G1 F1 M1 => ?_)
      have := hQ DL1 ρ1 w1 A1 S1 G1 F1 M1
      cases ex with
      | normal => exact absurd hr (hne _ _)
      | exit id => exact this
      | ret => exact this
      | goto l => exact this

/-! what is kept of a state -/
structure Sub (a1 : Tmps) (h1 : Heap) (a : Tmps) (h : Heap) : Prop where
  n : a1.n = a.n
  slots : ∀ t v, a1.get t = some v → a.get t = some v
  next : h1.next = h.next
  lim : h1.lim = h.lim
  blks : ∀ b c, h1.t.get b = some c → h.t.get b = some c

theorem Sub.srel {a1 a : Tmps} {h1 h : Heap} (B : Sub a1 h1 a h) {ρ : Nat → Option Ent} {w : World} (S : SRel ρ h w) : SRel ρ h1 w :=
  ⟨fun i c hc => S.dom i c (B.blks i c hc), fun i p q => S.free i (by rw [← B.next]; exact p) (by rw [← B.lim]; exact q), fun i e b he hb => S.blks i e b he (B.blks i b hb),
    fun i j e e' b b' hij he he' hb hb' => S.inj i j e e' b b' hij he he' (B.blks i b hb) (B.blks j b' hb')⟩
theorem Sub.frel {a1 a : Tmps} {h1 h : Heap} (B : Sub a1 h1 a h) {DL : List Deferred} {ρ : Nat → Option Ent} {A : Act} (F : FRel DL ρ a A) : FRel DL ρ a1 A :=
  ⟨fun t v hv => F.slot t v (B.slots t v hv), by rw [B.n]; exact F.n, F.defers, F.glob⟩
theorem Sub.marks {a1 a : Tmps} {h1 h : Heap} (B : Sub a1 h1 a h) {lo : Nat} {DL : List Deferred} {ρ : Nat → Option Ent} {w : World} (M : Marks lo DL ρ h w) : Marks lo DL ρ h1 w := by
  obtain ⟨hl, Ds, h1', h2, h3⟩ := M
  exact ⟨hl, Ds, h1', h2, fun D hD => let ⟨k1, k2, k3⟩ := h3 D hD; ⟨k1, k2, fun i e b he hb hlb => k3 i e b he (B.blks i b hb) hlb⟩⟩

/-- the rest of a function's statements, in pieces -/
inductive Pieces (P : Program) (n : Nat) (fn : Func) (L : List (Nat × List AV)) : List Code → Tmps → Heap → Prop where
  | last {cs : List Code} {a a' : Tmps} {h h' : Heap} {ex : Ex} (hr : chainF (codeN P n) cs a h = .ok (ex, a', h')) (hx : ex = .normal ∨ ex = .ret) (hv : resultsA P fn h' a' = some (.bool true))
      (hu : unwritten L h'.wr = true) : Pieces P n fn L cs a h
  | more {cs ds : List Code} {a a' a1 : Tmps} {h h' h1 : Heap} (hr : chainF (codeN P n) cs a h = .ok (.normal, a', h')) (hu : unwritten L h'.wr = true) (hs : Sub a1 h1 a' h')
      (hl : ∀ g c, assocL L g = some c → h1.t.get (1048576 + g) = some (.cells 0 c false)) (hp : Pieces P n fn L ds a1 h1) : Pieces P n fn L (cs ++ ds) a h

/-- since the world w0 nothing that was there has changed; what the heap holds is new, or one of the variables -/
structure Since (L : List (Nat × List AV)) (w0 : World) (ρ : Nat → Option Ent) (h : Heap) (w : World) : Prop where
  below : Below w0.heap.size w0 w
  lim : h.lim = 1048576
  nextLe : h.next ≤ h.lim
  vars : ∀ g c, assocL L g = some c → h.t.get (1048576 + g) = some (.cells 0 c false)
  ents : ∀ g c, assocL L g = some c → ∃ k, ρ (1048576 + g) = some ⟨g, 0, k⟩
  img : ∀ (i : Nat) (e : Ent) (b : Blk), ρ i = some e → h.t.get i = some b → b.live = true → (∃ c, assocL L e.blk = some c) ∨ w0.heap.size ≤ e.blk

theorem Since.good {L : List (Nat × List AV)} {w0 w w' : World} {ρ ρ' : Nat → Option Ent} {h h' : Heap} (I : Since L w0 ρ h w) (S : SRel ρ h w) (G : Good ρ h w ρ' h' w') (hu : unwritten L h'.wr = true) :
    Below w0.heap.size w0 w' ∧ h'.lim = 1048576 ∧ h'.next ≤ h'.lim ∧ (∀ g c, assocL L g = some c → ∃ k, ρ' (1048576 + g) = some ⟨g, 0, k⟩) ∧
      ∀ (i : Nat) (e : Ent) (b : Blk), ρ' i = some e → h'.t.get i = some b → b.live = true → (∃ c, assocL L e.blk = some c) ∨ w0.heap.size ≤ e.blk := by
  have hsz : w0.heap.size ≤ w.heap.size := I.below.size
  refine ⟨⟨G.os.trans I.below.os, G.tape.trans I.below.tape, G.output.trans I.below.output, Nat.le_trans hsz G.size, fun k hk => ?_⟩, by rw [G.lims]; exact I.lim, by rw [G.lims]; exact G.bound I.nextLe, fun g c hg => ?_, fun i e b he hb hl => ?_⟩
  · have hw : w.heap[k]? = w0.heap[k]? := I.below.block k hk
    cases hL : assocL L k with
    | some c =>
      obtain ⟨q, hq⟩ := I.ents k c hL
      have := G.unw (1048576 + k) _ _ hq (I.vars k c hL) rfl (unwritten_ok hu k c hL) I.nextLe (.inr (by rw [I.lim]; exact Nat.le_add_right _ _))
      rw [← hw]; exact this
    | none =>
      rw [← hw]
      refine G.keep k (Nat.lt_of_lt_of_le hk hsz) (fun i e b he hb hl hq => ?_)
      rcases I.img i e b he hb hl with ⟨c, hc⟩ | hge
      · rw [hq, hL] at hc; cases hc
      · omega
  · obtain ⟨k, hk⟩ := I.ents g c hg
    exact ⟨k, G.ext _ _ hk⟩
  · rcases G.img i e b he hb hl with ⟨i0, e0, b0, q1, q2, q3, q4⟩ | hge
    · rw [← q4]; exact I.img i0 e0 b0 q1 q2 q3
    · exact .inr (Nat.le_trans hsz hge)

theorem leaves_true {P : Program} {DL : List Deferred} {ρ : Nat → Option Ent} {h : Heap} {a : Tmps} {A : Act} {fn : Func} (F : FRel DL ρ a A) (hv : resultsA P fn h a = some (.bool true)) {w0 : World} :
    ∀ (Ds : List Nat) (w : World), SRel ρ h w → Below w0.heap.size w0 w → Ds.Nodup → (∀ D, D ∈ Ds → w0.heap.size ≤ D ∧ w.heap[D]? = some (.deferred (some [])) ∧
      ∀ (i : Nat) (e : Ent) (b : Blk), ρ i = some e → h.t.get i = some b → b.live = true → e.blk ≠ D) →
      LeavesInM (RF none) 0 P fn A.tmps (fun e w' => e = .returned (.bool true) ∧ Below w0.heap.size w0 w') (Ds.map markOf) .returning w
  | [], w, S, B, _, _ => by
    obtain ⟨V, k1, k2⟩ := resultsA_run S F hv
    simp only [Rel] at k2
    subst k2
    exact ⟨_, k1, rfl, B⟩
  | D :: Ds, w, S, B, hn, hD => by
    obtain ⟨k1, k2, k3⟩ := hD D (List.mem_cons_self)
    have hnd := List.nodup_cons.1 hn
    refine ⟨by simp, .inl ⟨D, w.putObj D (.deferred none), rfl, run_takeDeferred k2, ?_⟩⟩
    refine leaves_true F hv Ds _ (S.aside k3) ⟨B.os, B.tape, B.output, by simpa using B.size, fun k hk => by rw [World.putObj_heap_other (by omega)]; exact B.block k hk⟩ hnd.2 (fun E hE => ?_)
    obtain ⟨q1, q2, q3⟩ := hD E (List.mem_cons_of_mem _ hE)
    exact ⟨q1, by rw [World.putObj_heap_other (fun q => hnd.1 (by rw [← q]; exact hE))]; exact q2, q3⟩

theorem chain_append {F : Fence} {n : Nat} {P : Program} {Q : Exit → Act → World → Prop} (ds : List Code) : ∀ (cs : List Code) {a : Act} {w : World}, wpChain F n P (Exit.then (wpChain F n P Q ds) Q) cs a w → wpChain F n P Q (cs ++ ds) a w
  | [], a, w, h => h
  | c :: cs, a, w, h => wpIn_mono h (fun e a w he => by
      cases e with
      | normal => exact chain_append ds cs he
      | _ => exact he)

theorem pieces_sound {P : Program} (hP : okProg P = true) {n : Nat} {fn : Func} {L : List (Nat × List AV)} {w0 : World} {cs : List Code} {a : Tmps} {h : Heap} (hp : Pieces P n fn L cs a h) :
    ∀ {DL : List Deferred} {ρ : Nat → Option Ent} {w : World} {A : Act}, SRel ρ h w → FRel DL ρ a A → Marks w0.heap.size DL ρ h w → Since L w0 ρ h w →
      wpChain (RF none) 0 P (bodyPostM (RF none) 0 P fn fun e w' => e = .returned (.bool true) ∧ Below w0.heap.size w0 w') cs A w := by
  induction hp with
  | last hr hx hv hu =>
    intro DL ρ w A S F M I
    refine chain_sound (code_sound hP n) _ hr _ DL ρ w A S F M _ (fun DL' ρ' w' A' S' G' F' M' => ?_)
    obtain ⟨hb, _, _, _, _⟩ := I.good S G' hu
    obtain ⟨_, Ds, rfl, hn, hD⟩ := M'
    have key := leaves_true F' hv Ds w' S' hb hn hD
    rw [← F'.defers] at key
    rcases hx with rfl | rfl <;> exact key
  | more hr hu hs hl hp ih =>
    intro DL ρ w A S F M I
    refine chain_append _ _ (chain_sound (code_sound hP n) _ hr _ DL ρ w A S F M _ (fun DL' ρ' w' A' S' G' F' M' => ?_))
    obtain ⟨hb, hlim, hle, hents, himg⟩ := I.good S G' hu
    exact ih (hs.srel S') (hs.frel F') (hs.marks M') ⟨hb, by rw [hs.lim]; exact hlim, by rw [hs.lim, hs.next]; exact hle, hl, hents, fun i e b he hb' hlb => himg i e b he (hs.blks i b hb') hlb⟩

/-- a call of a function without parameters whose statements were run in pieces -/
theorem call_pieces {P : Program} (hP : okProg P = true) {n : Nat} {f : FuncId} {fn : Func} {body : Code} {L : List (Nat × List AV)} (hf : P.funcs[f]? = some fn) (hb : fn.body = some body)
    (hp : Pieces P n fn L (flat body) { n := fn.ntmps, dflt := true, t := .leaf } (laidHeap L)) {w : World} (hL : LaidIn w L) :
    Calls P f #[] w fun e w' => e = .returned (.bool true) ∧ Below w.heap.size w w' := by
  have S := srel_laid hL
  have F0 := frame_enter (globs_laid L) (args := []) (ARGS := []) (by simp [RelL]) fn.ntmps
  have F : FRel [] (globsLaid L) { n := fn.ntmps, dflt := true, t := .leaf } { tmps := #[] ++ Array.replicate (fn.ntmps - (#[] : Array Value).size) undef, defers := [] } := by
    simpa [enterT] using F0
  have I : Since L w (globsLaid L) (laidHeap L) w := by
    refine ⟨Below.refl _ _, rfl, Nat.zero_le _, fun g c hg => ?_, fun g c hg => ⟨_, by simp only [globsLaid]; rw [if_pos (by omega), show 1048576 + g - 1048576 = g by omega]⟩, fun i e b he hb' hl => ?_⟩
    · show (laidTree L).get (1048576 + g) = _
      rw [laidTree_get, if_pos (by omega), show 1048576 + g - 1048576 = g by omega, hg]; rfl
    · have hb' : (laidTree L).get i = some b := hb'
      rw [laidTree_get] at hb'
      by_cases q : 1048576 ≤ i
      · rw [if_pos q] at hb'
        simp only [globsLaid, if_pos q, Option.some.injEq] at he
        subst he
        cases ha : assocL L (i - 1048576) with
        | none => rw [ha] at hb'; cases hb'
        | some c => exact .inl ⟨c, (by first | exact ha | rfl)⟩
      · rw [if_neg q] at hb'; cases hb'
  have M : Marks w.heap.size [] (globsLaid L) (laidHeap L) w := Marks.none (Nat.le_refl _)
  exact callsIn_wide.1 (callsIn_of_wp_marks hf hb trivial (chain_flat body (pieces_sound hP hp S F M I)))

end Go.Sx

namespace Go.Sx
open Go.RowKit (Below)

/-! ### Pieces by closed Bools -/

/-- statements one after another, in the fast form -/
noncomputable def chainS (P : Program) (cs : List Code) : BoxF :=
  @List.rec Code (fun _ => BoxF) ⟨fun _ _ a h => .normal a h⟩
    (fun c _ ih => ⟨fun s n a h => @RC.rec (fun _ => RC) (fun a' h' => ih.f s n a' h') RC.exit RC.ret RC.goto RC.bad ((codeS P c).f s n a h)⟩) cs

theorem chainS_eq {P : Program} {s : Self'} {n : Nat} (hs : SelfS P s n) (cs : List Code) (a : Tmps) (h : Heap) : (chainS P cs).f s n a h = RC.ofR (chainF (codeN P n) cs a h) := by
  induction cs generalizing a h with
  | nil => rfl
  | cons c cs ih =>
    show @RC.rec (fun _ => RC) (fun a' h' => (chainS P cs).f s n a' h') RC.exit RC.ret RC.goto RC.bad ((codeS P c).f s n a h) = _
    rw [codeS_eq n hs, RC.rec_ofR, chainF]
    cases codeN P n c a h with
    | bad q => rfl
    | ok x => obtain ⟨ex, a', h'⟩ := x; cases ex <;> first | rfl | exact ih a' h'

/-- what is written down between two pieces -/
structure St where
  n : Nat
  slots : List (Nat × AV)
  next : Nat
  blks : List (Nat × Blk)

def slotsT : List (Nat × AV) → T AV
  | [] => .leaf
  | (t, v) :: r => (slotsT r).put (t + 1) t v
def blksT (t0 : T Blk) : List (Nat × Blk) → T Blk
  | [] => t0
  | (b, c) :: r => (blksT t0 r).put (b + 1) b c
def stT (S : St) : Tmps := { n := S.n, dflt := false, t := slotsT S.slots }
def stH (L : List (Nat × List AV)) (S : St) : Heap := { next := S.next, lim := 1048576, wr := [], t := blksT (laidTree L) S.blks }

/-! equality -/
def eqNs : List Nat → List Nat → Bool
  | [], [] => true
  | x :: a, y :: b => Nat.beq x y && eqNs a b
  | _, _ => false
theorem eqNs_ok : ∀ {a b : List Nat}, eqNs a b = true → a = b
  | [], [], _ => rfl
  | x :: a, y :: b, h => by
    simp only [eqNs, Bool.and_eq_true] at h
    rw [Nat.eq_of_beq_eq_true h.1, eqNs_ok h.2]
  | [], _ :: _, h => by cases h
  | _ :: _, [], h => by cases h
def eqCap : Cap → Cap → Bool
  | .exact a, .exact b => Nat.beq a b
  | .upto a c, .upto b d => Nat.beq a b && Nat.beq c d
  | _, _ => false
theorem eqCap_ok : ∀ {a b : Cap}, eqCap a b = true → a = b
  | .exact a, .exact b, h => by rw [Nat.eq_of_beq_eq_true h]
  | .upto a c, .upto b d, h => by simp only [eqCap, Bool.and_eq_true] at h; rw [Nat.eq_of_beq_eq_true h.1, Nat.eq_of_beq_eq_true h.2]
  | .exact _, .upto _ _, h => by cases h
  | .upto _ _, .exact _, h => by cases h
def eqFn : Fn → Fn → Bool
  | .func a, .func b => Nat.beq a b
  | .yield a, .yield b => Nat.beq a b
  | _, _ => false
theorem eqFn_ok : ∀ {a b : Fn}, eqFn a b = true → a = b := by
  intro a b h
  cases a <;> cases b <;> first | (cases h; done) | (rw [Nat.eq_of_beq_eq_true h])
theorem eqI_ok : ∀ {a b : Int}, eqI a b = true → a = b := by
  intro a b h
  cases a <;> cases b <;> first | (cases h; done) | (rw [Nat.eq_of_beq_eq_true h])
theorem kEq_ok {k k' : IntKind} (h : kEq k k' = true) : k = k' := by rw [kEq_eq] at h; exact of_decide_eq_true h

mutual
noncomputable def eqAV : AV → AV → Bool
  | .bool a, .bool b => a == b
  | .int k a, .int j b => kEq k j && eqI a b
  | .str a, .str b => eqNs a b
  | .nilp, .nilp => true
  | .ptr a i, .ptr b j => Nat.beq a b && Nat.beq i j
  | .nils, .nils => true
  | .slc a i n c, .slc b j m d => Nat.beq a b && Nat.beq i j && Nat.beq n m && eqCap c d
  | .nilm, .nilm => true
  | .map a, .map b => Nat.beq a b
  | .nilf, .nilf => true
  | .fn f x y, .fn g u v => eqFn f g && eqAVs x u && eqAVs y v
  | .nili, .nili => true
  | .ifc t v, .ifc u w => Nat.beq t u && eqAV v w
  | .agg a, .agg b => eqAVs a b
  | .tup a, .tup b => eqAVs a b
  | .emp, .emp => true
  | _, _ => false
noncomputable def eqAVs : List AV → List AV → Bool
  | [], [] => true
  | a :: x, b :: y => eqAV a b && eqAVs x y
  | _, _ => false
end

mutual
theorem eqAV_ok : ∀ (a b : AV), eqAV a b = true → a = b
  | .bool a, b, h => by cases b <;> first | (cases h; done) | (simp only [eqAV, beq_iff_eq] at h; rw [h])
  | .int k a, b, h => by
    cases b <;> first | (cases h; done) | skip
    simp only [eqAV, Bool.and_eq_true] at h; rw [kEq_ok h.1, eqI_ok h.2]
  | .str a, b, h => by cases b <;> first | (cases h; done) | (simp only [eqAV] at h; rw [eqNs_ok h])
  | .nilp, b, h => by cases b <;> first | (cases h; done) | rfl
  | .ptr a i, b, h => by
    cases b <;> first | (cases h; done) | skip
    simp only [eqAV, Bool.and_eq_true] at h; rw [Nat.eq_of_beq_eq_true h.1, Nat.eq_of_beq_eq_true h.2]
  | .nils, b, h => by cases b <;> first | (cases h; done) | rfl
  | .slc a i n c, b, h => by
    cases b <;> first | (cases h; done) | skip
    simp only [eqAV, Bool.and_eq_true] at h; obtain ⟨⟨⟨h1, h2⟩, h3⟩, h4⟩ := h
    rw [Nat.eq_of_beq_eq_true h1, Nat.eq_of_beq_eq_true h2, Nat.eq_of_beq_eq_true h3, eqCap_ok h4]
  | .nilm, b, h => by cases b <;> first | (cases h; done) | rfl
  | .map a, b, h => by cases b <;> first | (cases h; done) | (simp only [eqAV] at h; rw [Nat.eq_of_beq_eq_true h])
  | .nilf, b, h => by cases b <;> first | (cases h; done) | rfl
  | .fn f x y, b, h => by
    cases b <;> first | (cases h; done) | skip
    simp only [eqAV, Bool.and_eq_true] at h; obtain ⟨⟨h1, h2⟩, h3⟩ := h
    rw [eqFn_ok h1, eqAVs_ok x _ h2, eqAVs_ok y _ h3]
  | .nili, b, h => by cases b <;> first | (cases h; done) | rfl
  | .ifc t v, b, h => by
    cases b <;> first | (cases h; done) | skip
    simp only [eqAV, Bool.and_eq_true] at h; rw [Nat.eq_of_beq_eq_true h.1, eqAV_ok v _ h.2]
  | .agg a, b, h => by cases b <;> first | (cases h; done) | (simp only [eqAV] at h; rw [eqAVs_ok a _ h])
  | .tup a, b, h => by cases b <;> first | (cases h; done) | (simp only [eqAV] at h; rw [eqAVs_ok a _ h])
  | .emp, b, h => by cases b <;> first | (cases h; done) | rfl
theorem eqAVs_ok : ∀ (a b : List AV), eqAVs a b = true → a = b
  | [], b, h => by cases b <;> first | (cases h; done) | rfl
  | x :: a, b, h => by
    cases b with
    | nil => cases h
    | cons y b => simp only [eqAVs, Bool.and_eq_true] at h; rw [eqAV_ok x y h.1, eqAVs_ok a b h.2]
end

noncomputable def eqEs : List (AV × AV × Nat) → List (AV × AV × Nat) → Bool
  | [], [] => true
  | (k, v, n) :: a, (j, w, m) :: b => eqAV k j && eqAV v w && Nat.beq n m && eqEs a b
  | _, _ => false
theorem eqEs_ok : ∀ {a b : List (AV × AV × Nat)}, eqEs a b = true → a = b
  | [], [], _ => rfl
  | (k, v, n) :: a, (j, w, m) :: b, h => by
    simp only [eqEs, Bool.and_eq_true] at h; obtain ⟨⟨⟨h1, h2⟩, h3⟩, h4⟩ := h
    rw [eqAV_ok _ _ h1, eqAV_ok _ _ h2, Nat.eq_of_beq_eq_true h3, eqEs_ok h4]
  | [], _ :: _, h => by cases h
  | _ :: _, [], h => by cases h
noncomputable def eqBlk : Blk → Blk → Bool
  | .cells t cs o, .cells u ds p => Nat.beq t u && eqAVs cs ds && o == p
  | .map es n, .map fs m => eqEs es fs && Nat.beq n m
  | .dead, .dead => true
  | _, _ => false
theorem eqBlk_ok : ∀ {a b : Blk}, eqBlk a b = true → a = b := by
  intro a b h
  cases a <;> cases b <;> first | (cases h; done) | skip
  · simp only [eqBlk, Bool.and_eq_true, beq_iff_eq] at h; obtain ⟨⟨h1, h2⟩, h3⟩ := h
    rw [Nat.eq_of_beq_eq_true h1, eqAVs_ok _ _ h2, h3]
  · simp only [eqBlk, Bool.and_eq_true] at h; rw [eqEs_ok h.1, Nat.eq_of_beq_eq_true h.2]
  · rfl

noncomputable def slotsB (a : Tmps) : List (Nat × AV) → Bool
  | [] => true
  | (t, v) :: r => (match a.get t with | some u => eqAV v u | none => false) && slotsB a r
noncomputable def blksB (h : Heap) : List (Nat × Blk) → Bool
  | [] => true
  | (b, c) :: r => Nat.blt b 1048576 && (match h.t.get b with | some d => eqBlk c d | none => false) && blksB h r
noncomputable def laidB (h : Heap) : List (Nat × List AV) → Bool
  | [] => true
  | (g, cs) :: r => (match h.t.get (1048576 + g) with | some d => eqBlk (.cells 0 cs false) d | none => false) && laidB h r
noncomputable def subB (L : List (Nat × List AV)) (S : St) (a : Tmps) (h : Heap) : Bool :=
  Nat.beq S.n a.n && Nat.beq S.next h.next && Nat.beq h.lim 1048576 && slotsB a S.slots && blksB h S.blks && laidB h L

theorem slotsB_ok {a : Tmps} : ∀ {l : List (Nat × AV)}, slotsB a l = true → ∀ t v, (slotsT l).get t = some v → a.get t = some v
  | [], _, t, v, h => by simp [slotsT, T.get] at h
  | (t0, v0) :: r, h, t, v, hg => by
    simp only [slotsB, Bool.and_eq_true] at h
    rw [slotsT, T.get_put _ _ _ _ _ (Nat.lt_succ_self _)] at hg
    by_cases q : t = t0
    · rw [if_pos q, Option.some.injEq] at hg; subst hg; subst q
      have h1 := h.1
      cases ha : a.get t with
      | none => rw [ha] at h1; cases h1
      | some u => rw [ha] at h1; rw [eqAV_ok _ _ h1]
    · rw [if_neg q] at hg; exact slotsB_ok h.2 t v hg

theorem blksB_ok {h : Heap} {t0 : T Blk} (h0 : ∀ b c, t0.get b = some c → h.t.get b = some c) : ∀ {l : List (Nat × Blk)}, blksB h l = true → ∀ b c, (blksT t0 l).get b = some c → h.t.get b = some c
  | [], _, b, c, hg => h0 b c hg
  | (b1, c1) :: r, hb, b, c, hg => by
    simp only [blksB, Bool.and_eq_true] at hb
    rw [blksT, T.get_put _ _ _ _ _ (Nat.lt_succ_self _)] at hg
    by_cases q : b = b1
    · rw [if_pos q, Option.some.injEq] at hg; subst hg; subst q
      have h1 := hb.1.2
      cases ha : h.t.get b with
      | none => rw [ha] at h1; cases h1
      | some u => rw [ha] at h1; rw [eqBlk_ok h1]
    · rw [if_neg q] at hg; exact blksB_ok h0 hb.2 b c hg

theorem blks_above {h : Heap} {t0 : T Blk} {b : Nat} (hb : 1048576 ≤ b) : ∀ {l : List (Nat × Blk)}, blksB h l = true → (blksT t0 l).get b = t0.get b
  | [], _ => rfl
  | (b1, c1) :: r, h1 => by
    simp only [blksB, Bool.and_eq_true] at h1
    have : b1 < 1048576 := Nat.le_of_ble_eq_true h1.1.1
    rw [blksT, T.get_put _ _ _ _ _ (Nat.lt_succ_self _), if_neg (by omega)]
    exact blks_above hb h1.2

theorem laidB_ok {h : Heap} : ∀ {L : List (Nat × List AV)}, laidB h L = true → ∀ g cs, assocL L g = some cs → h.t.get (1048576 + g) = some (.cells 0 cs false)
  | [], _, g, cs, hg => by cases hg
  | (k, ks) :: r, hl, g, cs, hg => by
    simp only [laidB, Bool.and_eq_true] at hl
    simp only [assocL] at hg
    split at hg
    · rename_i hk; subst hk
      simp only [Option.some.injEq] at hg; subst hg
      have h1 := hl.1
      cases ha : h.t.get (1048576 + k) with
      | none => rw [ha] at h1; cases h1
      | some u => rw [ha] at h1; rw [← eqBlk_ok h1]
    · exact laidB_ok hl.2 g cs hg

theorem subB_ok {L : List (Nat × List AV)} {S : St} {a : Tmps} {h : Heap} (hs : subB L S a h = true) :
    Sub (stT S) (stH L S) a h ∧ ∀ g c, assocL L g = some c → (stH L S).t.get (1048576 + g) = some (.cells 0 c false) := by
  simp only [subB, Bool.and_eq_true] at hs
  obtain ⟨⟨⟨⟨⟨h1, h2⟩, h3⟩, h4⟩, h5⟩, h6⟩ := hs
  have laid : ∀ b c, (laidTree L).get b = some c → h.t.get b = some c := by
    intro b c hb
    rw [laidTree_get] at hb
    by_cases q : 1048576 ≤ b
    · rw [if_pos q] at hb
      cases ha : assocL L (b - 1048576) with
      | none => rw [ha] at hb; cases hb
      | some cs =>
        rw [ha] at hb; simp only [Option.map_some, Option.some.injEq] at hb; subst hb
        have := laidB_ok h6 _ _ ha
        rwa [show 1048576 + (b - 1048576) = b by omega] at this
    · rw [if_neg q] at hb; cases hb
  refine ⟨⟨Nat.eq_of_beq_eq_true h1, fun t v hv => ?_, Nat.eq_of_beq_eq_true h2, (Nat.eq_of_beq_eq_true h3).symm, blksB_ok laid h5⟩, fun g c hg => ?_⟩
  · refine slotsB_ok h4 t v ?_
    simp only [Tmps.get, stT] at hv
    cases hq : (slotsT S.slots).get t with
    | none => rw [hq] at hv; cases hv
    | some u => rw [hq] at hv; exact hv
  · show (blksT (laidTree L) S.blks).get (1048576 + g) = _
    rw [blks_above (Nat.le_add_right _ _) h5, laidTree_get, if_pos (Nat.le_add_right _ _), show 1048576 + g - 1048576 = g by omega, hg]; rfl

/-- one piece: it goes off its end in a state that is as written down -/
noncomputable def pieceB (L : List (Nat × List AV)) (S : St) (r : RC) : Bool :=
  @RC.rec (fun _ => Bool) (fun a h => unwritten L h.wr && subB L S a h) (fun _ _ _ => false) (fun _ _ => false) (fun _ _ _ => false) (fun _ => false) r
/-- the last piece -/
noncomputable def lastB (P : Program) (fn : Func) (L : List (Nat × List AV)) (r : RC) : Bool :=
  @RC.rec (fun _ => Bool) (fun a h => unwritten L h.wr && (match (resultsS P fn).f h a with | some (.bool b) => b | _ => false)) (fun _ _ _ => false)
    (fun a h => unwritten L h.wr && (match (resultsS P fn).f h a with | some (.bool b) => b | _ => false)) (fun _ _ _ => false) (fun _ => false) r

theorem selfS_run (P : Program) (n : Nat) : SelfS P (runS P n) n := fun m hm t args h => runS_eq P n m hm t args h

theorem piece_more {P : Program} {n : Nat} {fn : Func} {L : List (Nat × List AV)} {cs ds : List Code} {a : Tmps} {h : Heap} {S : St} (hb : pieceB L S ((chainS P cs).f (runS P n) n a h) = true) (hp : Pieces P n fn L ds (stT S) (stH L S)) :
    Pieces P n fn L (cs ++ ds) a h := by
  rw [chainS_eq (selfS_run P n)] at hb
  cases hc : chainF (codeN P n) cs a h with
  | bad q => rw [hc] at hb; cases hb
  | ok x =>
    obtain ⟨ex, a', h'⟩ := x
    rw [hc] at hb
    cases ex <;> try (cases hb; done)
    have hb : (unwritten L h'.wr && subB L S a' h') = true := hb
    simp only [Bool.and_eq_true] at hb
    obtain ⟨hs, hl⟩ := subB_ok hb.2
    exact .more hc hb.1 hs hl hp

theorem piece_last {P : Program} {n : Nat} {fn : Func} {L : List (Nat × List AV)} {cs : List Code} {a : Tmps} {h : Heap} (hb : lastB P fn L ((chainS P cs).f (runS P n) n a h) = true) : Pieces P n fn L cs a h := by
  rw [chainS_eq (selfS_run P n)] at hb
  have key : ∀ {a' h'}, (unwritten L h'.wr && (match (resultsS P fn).f h' a' with | some (.bool b) => b | _ => false)) = true → unwritten L h'.wr = true ∧ resultsA P fn h' a' = some (.bool true) := by
    intro a' h' hq
    simp only [Bool.and_eq_true, resultsS_eq] at hq
    refine ⟨hq.1, ?_⟩
    have h2 := hq.2
    split at h2
    · rename_i b hr; rw [hr, h2]
    · cases h2
  cases hc : chainF (codeN P n) cs a h with
  | bad q => rw [hc] at hb; cases hb
  | ok x =>
    obtain ⟨ex, a', h'⟩ := x
    rw [hc] at hb
    cases ex <;> try (cases hb; done)
    · obtain ⟨k1, k2⟩ := key hb; exact .last hc (.inl rfl) k2 k1
    · obtain ⟨k1, k2⟩ := key hb; exact .last hc (.inr rfl) k2 k1

end Go.Sx

namespace Go.Sx
open Go.RowKit (Below)

/-! ### Runs in pieces that may begin within loops and within calls: what is still to do is a stack -/

inductive Fr where
  | seq (y : Code)
  | block (id : Nat)
  | loop (x : Code)
  | call (fn : Func) (d : Option Nat) (ops : Array Oper) (rest : List Oper) (a : Tmps)
  /-- the function that is ranged over, the loop's number, the frame of the range -/
  | rng (fn : Func) (b : Nat) (a : Tmps)
  /-- a round of the loop of this number; the frame of the function that is ranged over -/
  | round (b : Nat) (d : Option Nat) (ops : Array Oper) (rest : List Oper) (a : Tmps)

/-- whether the frame is a round's -/
def inR : List Fr → Bool
  | [] => false
  | .seq _ :: K => inR K
  | .block _ :: K => inR K
  | .loop _ :: K => inR K
  | .call .. :: _ => false
  | .rng .. :: _ => false
  | .round .. :: _ => true

def Heap.fresh (h : Heap) : Heap := { next := h.next, lim := h.lim, wr := [], t := h.t }

inductive Cfg where
  | code (c : Code) (a : Tmps) (h : Heap)
  /-- about to begin a round of a loop -/
  | head (x : Code) (a : Tmps) (h : Heap)
  | ops (ops : Array Oper) (rest : List Oper) (a : Tmps) (h : Heap)
  | fin (ex : Ex) (a : Tmps) (h : Heap)

def Cfg.a : Cfg → Tmps
  | .code _ a _ => a
  | .head _ a _ => a
  | .ops _ _ a _ => a
  | .fin _ a _ => a
def Cfg.h : Cfg → Heap
  | .code _ _ h => h
  | .head _ _ h => h
  | .ops _ _ _ h => h
  | .fin _ _ h => h

/-- a frame of which less is known -/
structure TSub (a1 a : Tmps) : Prop where
  n : a1.n = a.n
  slots : ∀ t v, a1.get t = some v → a.get t = some v
/-- a block of which less is known -/
inductive BSub : Blk → Blk → Prop where
  | refl (b : Blk) : BSub b b
  | loop {ps : List Nat} {asg body : Code} {t1 t : Tmps} {st : Option (Option Ex)} (ht : TSub t1 t) : BSub (.loop ps asg body t1 st) (.loop ps asg body t st)
theorem BSub.live {b c : Blk} (h : BSub b c) : b.live = c.live := by cases h <;> rfl
theorem BSub.brel {b c : Blk} (h : BSub b c) {ρ : Nat → Option Ent} {w : World} {e : Ent} (k : BRel ρ w e c) : BRel ρ w e b := by
  cases h with
  | refl => exact k
  | loop ht =>
    obtain ⟨r, r1, r2, r3, r4, r5, r6, r7⟩ := k
    exact ⟨r, r1, r2, r3, r4, fun t v hv => r5 t v (ht.slots t v hv), by rw [ht.n]; exact r6, r7⟩
structure HSub (h1 h : Heap) : Prop where
  next : h1.next = h.next
  lim : h1.lim = h.lim
  blks : ∀ b c, h1.t.get b = some c → ∃ d, h.t.get b = some d ∧ BSub c d

inductive KSub : List Fr → List Fr → Prop where
  | nil : KSub [] []
  | seq {y : Code} {K1 K : List Fr} (h : KSub K1 K) : KSub (.seq y :: K1) (.seq y :: K)
  | block {id : Nat} {K1 K : List Fr} (h : KSub K1 K) : KSub (.block id :: K1) (.block id :: K)
  | loop {x : Code} {K1 K : List Fr} (h : KSub K1 K) : KSub (.loop x :: K1) (.loop x :: K)
  | call {fn : Func} {d : Option Nat} {ops : Array Oper} {rest : List Oper} {a1 a : Tmps} {K1 K : List Fr} (ha : TSub a1 a) (h : KSub K1 K) : KSub (.call fn d ops rest a1 :: K1) (.call fn d ops rest a :: K)
  | rng {fn : Func} {b : Nat} {a1 a : Tmps} {K1 K : List Fr} (ha : TSub a1 a) (h : KSub K1 K) : KSub (.rng fn b a1 :: K1) (.rng fn b a :: K)
  | round {b : Nat} {d : Option Nat} {ops : Array Oper} {rest : List Oper} {a1 a : Tmps} {K1 K : List Fr} (ha : TSub a1 a) (h : KSub K1 K) : KSub (.round b d ops rest a1 :: K1) (.round b d ops rest a :: K)

inductive CSub : Cfg → Cfg → Prop where
  | code {c : Code} {a1 a : Tmps} {h1 h : Heap} (ha : TSub a1 a) (hh : HSub h1 h) : CSub (.code c a1 h1) (.code c a h)
  | head {x : Code} {a1 a : Tmps} {h1 h : Heap} (ha : TSub a1 a) (hh : HSub h1 h) : CSub (.head x a1 h1) (.head x a h)
  | ops {ops : Array Oper} {rest : List Oper} {a1 a : Tmps} {h1 h : Heap} (ha : TSub a1 a) (hh : HSub h1 h) : CSub (.ops ops rest a1 h1) (.ops ops rest a h)

/-- what a call returns is known, from whatever state; of the memory that was there nothing is changed -/
def Fact (P : Program) (f : FuncId) (args : List AV) (v : AV) : Prop :=
  ∃ fn body, P.funcs[f]? = some fn ∧ fn.body = some body ∧ ∀ (ρ : Nat → Option Ent) (h : Heap) (w : World) (ARGS : List Value), SRel ρ h w → Globs ρ → RelL ρ args ARGS → CallsIn (RF none) 0 P f ARGS.toArray w (CallRes ρ h w v h)

inductive Run (P : Program) (fnTop : Func) (L : List (Nat × List AV)) (v0 : AV) : List Fr → Cfg → Prop where
  | exec {n : Nat} {K : List Fr} {c : Code} {a a' : Tmps} {h h' : Heap} {ex : Ex} (hn : inR K = false ∨ noRange c = true) (hr : codeN P n c a h = .ok (ex, a', h')) (hu : unwritten L h'.wr = true) (k : Run P fnTop L v0 K (.fin ex a' h'.fresh)) : Run P fnTop L v0 K (.code c a h)
  | seq {K : List Fr} {x y : Code} {a : Tmps} {h : Heap} (k : Run P fnTop L v0 (.seq y :: K) (.code x a h)) : Run P fnTop L v0 K (.code (.seq x y) a h)
  | block {K : List Fr} {id : Nat} {x : Code} {a : Tmps} {h : Heap} (k : Run P fnTop L v0 (.block id :: K) (.code x a h)) : Run P fnTop L v0 K (.code (.block id x) a h)
  | loop {K : List Fr} {x : Code} {a : Tmps} {h : Heap} (k : Run P fnTop L v0 K (.head x a h)) : Run P fnTop L v0 K (.code (.loop x) a h)
  | head {K : List Fr} {x : Code} {a : Tmps} {h : Heap} (k : Run P fnTop L v0 (.loop x :: K) (.code x a h)) : Run P fnTop L v0 K (.head x a h)
  | condT {K : List Fr} {c : Operand} {x y : Code} {a : Tmps} {h : Heap} (hc : evalA a c = some (.bool true)) (k : Run P fnTop L v0 K (.code x a h)) : Run P fnTop L v0 K (.code (.cond c x y) a h)
  | condF {K : List Fr} {c : Operand} {x y : Code} {a : Tmps} {h : Heap} (hc : evalA a c = some (.bool false)) (k : Run P fnTop L v0 K (.code y a h)) : Run P fnTop L v0 K (.code (.cond c x y) a h)
  | region {K : List Fr} {id : Nat} {ops : Array Oper} {a : Tmps} {h : Heap} (k : Run P fnTop L v0 K (.ops ops ops.toList a h)) : Run P fnTop L v0 K (.code (.region id ops false) a h)
  /-- a region that draws its order, whose last operations wait for all ahead of them -/
  | drawn {n : Nat} {K : List Fr} {id : Nat} {ops : Array Oper} {pre post : List Oper} {ms : List Nat} {es : List En} {fin : Nat} {a : Tmps} {h : Heap} (hops : ops.toList = pre ++ post) (hm : P.follows .mixedOrders = true) (hms : masksF ops.toList [] = some ms)
      (hdr : drawF P (codeN P n) ops ms a h pre [] h.next = .ok (es, fin)) (hchk : chkAll ms [] es = true) (hmask : ∀ i o, pre.length ≤ i → ops.toList[i]? = some o → ∀ k, k < i → Nat.testBit (nthD ms i) k = true) (hu : unwritten L (keysOf es ++ h.wr) = true)
      (k : Run P fnTop L v0 K (.ops ops post (tmpsD (fun _ => true) es 0 a) { next := fin, lim := h.lim, wr := [], t := heapT (fun _ => true) es 0 h.t })) : Run P fnTop L v0 K (.code (.region id ops true) a h)
  | one {n : Nat} {K : List Fr} {ops : Array Oper} {o : Oper} {rest : List Oper} {a : Tmps} {h h' : Heap} {v : AV} (ho : oneA P (codeN P n) ops o a h = .ok (v, h')) (hu : unwritten L h'.wr = true)
      (k : Run P fnTop L v0 K (.ops ops rest (put a o.dst v) h'.fresh)) : Run P fnTop L v0 K (.ops ops (o :: rest) a h)
  | enter {K : List Fr} {ops : Array Oper} {o : Oper} {rest : List Oper} {a : Tmps} {h : Heap} {f : FuncId} {args : List AV} {fn : Func} {body : Code} (hw : wantedA ops o a = some true) (hl : h.next < h.lim)
      (ho : opA P h a o = some (.enter f args)) (hf : P.funcs[f]? = some fn) (hb : fn.body = some body)
      (k : Run P fnTop L v0 (.call fn o.dst ops rest a :: K) (.code body { n := args.length + (fn.ntmps - args.length), dflt := true, t := enterT 0 args .leaf } h)) : Run P fnTop L v0 K (.ops ops (o :: rest) a h)
  /-- a call of which it is known what it returns -/
  | use {K : List Fr} {ops : Array Oper} {o : Oper} {rest : List Oper} {a : Tmps} {h : Heap} {f : FuncId} {args : List AV} {v : AV} (hw : wantedA ops o a = some true) (hl : h.next < h.lim) (ho : opA P h a o = some (.enter f args)) (hF : Fact P f args v)
      (hu : unwritten L h.wr = true) (k : Run P fnTop L v0 K (.ops ops rest (put a o.dst v) h.fresh)) : Run P fnTop L v0 K (.ops ops (o :: rest) a h)
  | opsEnd {K : List Fr} {ops : Array Oper} {a : Tmps} {h : Heap} (k : Run P fnTop L v0 K (.fin .normal a h)) : Run P fnTop L v0 K (.ops ops [] a h)
  | finSeq {K : List Fr} {y : Code} {a : Tmps} {h : Heap} (k : Run P fnTop L v0 K (.code y a h)) : Run P fnTop L v0 (.seq y :: K) (.fin .normal a h)
  | finSeqX {K : List Fr} {y : Code} {ex : Ex} {a : Tmps} {h : Heap} (hx : ex ≠ .normal) (k : Run P fnTop L v0 K (.fin ex a h)) : Run P fnTop L v0 (.seq y :: K) (.fin ex a h)
  | finBlock {K : List Fr} {id : Nat} {a : Tmps} {h : Heap} (k : Run P fnTop L v0 K (.fin .normal a h)) : Run P fnTop L v0 (.block id :: K) (.fin (.exit id) a h)
  | finBlockX {K : List Fr} {id : Nat} {ex : Ex} {a : Tmps} {h : Heap} (hx : ex ≠ .exit id) (k : Run P fnTop L v0 K (.fin ex a h)) : Run P fnTop L v0 (.block id :: K) (.fin ex a h)
  | finLoop {K : List Fr} {x : Code} {a : Tmps} {h : Heap} (k : Run P fnTop L v0 K (.head x a h)) : Run P fnTop L v0 (.loop x :: K) (.fin .normal a h)
  | finLoopX {K : List Fr} {x : Code} {ex : Ex} {a : Tmps} {h : Heap} (hx : ex ≠ .normal) (k : Run P fnTop L v0 K (.fin ex a h)) : Run P fnTop L v0 (.loop x :: K) (.fin ex a h)
  | finCall {K : List Fr} {fn : Func} {d : Option Nat} {ops : Array Oper} {rest : List Oper} {a0 a : Tmps} {h : Heap} {ex : Ex} {v : AV} (hx : ex = .normal ∨ ex = .ret) (hv : resultsA P fn h a = some v)
      (k : Run P fnTop L v0 K (.ops ops rest (put a0 d v) h)) : Run P fnTop L v0 (.call fn d ops rest a0 :: K) (.fin ex a h)
  | range {K : List Fr} {f : Operand} {ps : Array Nat} {asg body gb : Code} {a : Tmps} {h : Heap} {g : FuncId} {first cap : List AV} {fn : Func} (hin : inR K = false) (hf : evalA a f = some (.fn (.func g) first cap)) (hlt : h.next < h.lim) (hg : P.funcs[g]? = some fn) (hb : fn.body = some gb)
      (hu : unwritten L h.wr = true)
      (k : Run P fnTop L v0 (.rng fn h.next a :: K) (.code gb { n := (first ++ [AV.fn (.yield h.next) [] []] ++ cap).length + (fn.ntmps - (first ++ [AV.fn (.yield h.next) [] []] ++ cap).length), dflt := true, t := enterT 0 (first ++ [AV.fn (.yield h.next) [] []] ++ cap) .leaf } (h.push (.loop ps.toList asg body a none)).fresh)) :
      Run P fnTop L v0 K (.code (.rangeFunc f ps asg body) a h)
  | finRngN {K : List Fr} {fn : Func} {b : Nat} {a0 a t : Tmps} {h : Heap} {ex : Ex} {v : AV} {ps : List Nat} {asg body : Code} (hx : ex = .normal ∨ ex = .ret) (hv : resultsA P fn h a = some v) (hb : h.get b = some (.loop ps asg body t none)) (hu : unwritten L (b :: h.wr) = true)
      (k : Run P fnTop L v0 K (.fin .normal a0 (h.set b .dead).fresh)) : Run P fnTop L v0 (.rng fn b a0 :: K) (.fin ex a h)
  | finRngX {K : List Fr} {fn : Func} {b : Nat} {a0 a t : Tmps} {h : Heap} {ex ex' : Ex} {v : AV} {ps : List Nat} {asg body : Code} (hx : ex = .normal ∨ ex = .ret) (hv : resultsA P fn h a = some v) (hb : h.get b = some (.loop ps asg body t (some (some ex')))) (hu : unwritten L (b :: h.wr) = true)
      (k : Run P fnTop L v0 K (.fin ex' a0 (h.set b .dead).fresh)) : Run P fnTop L v0 (.rng fn b a0 :: K) (.fin ex a h)
  | round {n : Nat} {K : List Fr} {ops : Array Oper} {o : Oper} {rest : List Oper} {a ab a1 t1 : Tmps} {h h1 : Heap} {b : Nat} {args : List AV} {ps ps1 : List Nat} {asg body asg1 body1 : Code} (hw : wantedA ops o a = some true) (hl : h.next < h.lim)
      (ho : opA P h a o = some (.round b args)) (hb : h.get b = some (.loop ps asg body ab none)) (hlen : args.length = ps.length) (hn1 : noRange asg = true) (hr1 : codeN P n asg (setParams ab ps args) h = .ok (.normal, a1, h1))
      (hb1 : h1.get b = some (.loop ps1 asg1 body1 t1 none)) (hu : unwritten L (b :: h1.wr) = true)
      (k : Run P fnTop L v0 (.round b o.dst ops rest a :: K) (.code body a1 (h1.set b (.loop ps1 asg1 body1 t1 (some none))).fresh)) : Run P fnTop L v0 K (.ops ops (o :: rest) a h)
  | finRoundN {K : List Fr} {b : Nat} {d : Option Nat} {ops : Array Oper} {rest : List Oper} {a0 a t : Tmps} {h : Heap} {ps : List Nat} {asg body : Code} (hb : h.get b = some (.loop ps asg body t (some none))) (hu : unwritten L (b :: h.wr) = true)
      (k : Run P fnTop L v0 K (.ops ops rest (put a0 d (.bool true)) (h.set b (.loop ps asg body t none)).fresh)) : Run P fnTop L v0 (.round b d ops rest a0 :: K) (.fin .normal a h)
  | finRoundX {K : List Fr} {b : Nat} {d : Option Nat} {ops : Array Oper} {rest : List Oper} {a0 a t : Tmps} {h : Heap} {ex : Ex} {ps : List Nat} {asg body : Code} (hx : ex ≠ .normal) (hb : h.get b = some (.loop ps asg body t (some none))) (hu : unwritten L (b :: h.wr) = true)
      (k : Run P fnTop L v0 K (.ops ops rest (put a0 d (.bool false)) (h.set b (.loop ps asg body t (some (some ex)))).fresh)) : Run P fnTop L v0 (.round b d ops rest a0 :: K) (.fin ex a h)
  | top {ex : Ex} {a : Tmps} {h : Heap} (hx : ex = .normal ∨ ex = .ret) (hv : resultsA P fnTop h a = some v0) : Run P fnTop L v0 [] (.fin ex a h)
  | weak {K1 K : List Fr} {c1 c : Cfg} (hk : KSub K1 K) (hc : CSub c1 c) (hl : ∀ g x, assocL L g = some x → c1.h.t.get (1048576 + g) = some (.cells 0 x false)) (k : Run P fnTop L v0 K1 c1) : Run P fnTop L v0 K c

/-! what it means in the model -/
def hdIn (F : Fence) (n : Nat) (P : Program) (c : Code) (Q : Exit → Act → World → Prop) (a : Act) (w : World) : Prop :=
  ∀ b k cs, b.roundOf = F.round → F.fn b.fn → F.room (cs.length + 1 + n) → ∃ e a' w', Q e a' w' ∧ ArrivesIn (Machine.fenced P F) P (lone (b.atR a (.code c :: .inLoop c :: k)) cs w) b k cs e a' w'

theorem loop_of_hd {F : Fence} {n : Nat} {P : Program} {c : Code} {Q : Exit → Act → World → Prop} {a : Act} {w : World} (h : hdIn F n P c Q a w) : (Code.loop c).wpIn F n P Q a w := by
  intro b k cs hro hb hr
  obtain ⟨e, a', w', hq, harr⟩ := h b k cs hro hb hr
  exact ⟨e, a', w', hq, .of_steps (.one (fenced_calm hb hr rfl) stepR_loop) harr⟩

theorem hd_of {F : Fence} {n : Nat} {P : Program} {c : Code} {Q : Exit → Act → World → Prop} {a : Act} {w : World} (h : c.wpIn F n P (Exit.then (hdIn F n P c Q) Q) a w) : hdIn F n P c Q a w := by
  intro b k cs hro hb hr
  obtain ⟨e, a₁, w₁, hq, harr⟩ := h b (.inLoop c :: k) cs hro hb hr
  cases e with
  | normal =>
    obtain ⟨e₂, a₂, w₂, hq₂, harr₂⟩ := (show hdIn F n P c Q a₁ w₁ from hq) b k cs hro hb hr
    exact ⟨e₂, a₂, w₂, hq₂, .of_steps (StepsIn.trans harr (.one (fenced_calm hb hr rfl) stepR_inLoop)) harr₂⟩
  | exit id => exact ⟨_, a₁, w₁, hq, .pass (x := .inLoop c) rfl (fun _ _ => .inl (by simp)) harr⟩
  | goto l => exact ⟨_, a₁, w₁, hq, .pass (x := .inLoop c) rfl (fun _ _ => .inl (by simp)) harr⟩
  | ret => exact ⟨_, a₁, w₁, hq, .pass (x := .inLoop c) rfl (fun _ _ => .inl (by simp)) harr⟩
  | panic ch => exact ⟨_, a₁, w₁, hq, .pass (x := .inLoop c) rfl (fun _ _ => .inl (by simp)) harr⟩
  | outgrown => exact ⟨_, a₁, w₁, hq, .pass (x := .inLoop c) rfl (fun _ _ => .inl (by simp)) harr⟩

inductive KC where
  | seq (y : Code)
  | block (id : Nat)
  | loop (x : Code)
  | call (fn : Func) (d : Option Nat) (ops : Array Oper) (rest : List Oper) (A : Act)
  | rng (fn : Func) (l : Nat) (A : Act)
  | round (l : Nat) (d : Option Nat) (ops : Array Oper) (rest : List Oper) (A : Act)

def roC : List KC → Option Nat
  | [] => none
  | .seq _ :: C => roC C
  | .block _ :: C => roC C
  | .loop _ :: C => roC C
  | .call .. :: _ => none
  | .rng .. :: _ => none
  | .round l _ _ _ _ :: _ => some l

def kpost (P : Program) (Q0 : Exit → Act → World → Prop) : List KC → Exit → Act → World → Prop
  | [] => Q0
  | .seq y :: C => Exit.then (y.wpIn (RF (roC C)) 0 P (kpost P Q0 C)) (kpost P Q0 C)
  | .block id :: C => Exit.inBlock id (kpost P Q0 C)
  | .loop x :: C => Exit.then (hdIn (RF (roC C)) 0 P x (kpost P Q0 C)) (kpost P Q0 C)
  | .call fn d ops rest A :: C => bodyPostM (RF none) 0 P fn fun e w' => ∃ V, e = .returned V ∧ wpListIn (RF (roC C)) 0 P ops (kpost P Q0 C) rest (A.put d V) w'
  | .rng fn l A :: C => bodyPostM (RF none) 0 P fn (rangePost (RF none) 0 P l (kpost P Q0 C) A)
  | .round l d ops rest A :: C => roundPost P l fun e w' => ∃ V, e = .returned V ∧ wpListIn (RF (roC C)) 0 P ops (kpost P Q0 C) rest (A.put d V) w'

def CfgSem (P : Program) (ro : Option Nat) (Q : Exit → Act → World → Prop) (A : Act) (w : World) : Cfg → Prop
  | .code c _ _ => c.wpIn (RF ro) 0 P Q A w
  | .head x _ _ => hdIn (RF ro) 0 P x Q A w
  | .ops ops rest _ _ => wpListIn (RF ro) 0 P ops Q rest A w
  | .fin ex _ _ => Q (exitOf ex) A w

inductive KRel (ρ : Nat → Option Ent) (h : Heap) (w : World) (s : Nat) : List Fr → List KC → Nat → Prop where
  | nil {lo : Nat} : KRel ρ h w s [] [] lo
  | seq {y : Code} {K : List Fr} {C : List KC} {lo : Nat} (k : KRel ρ h w s K C lo) : KRel ρ h w s (.seq y :: K) (.seq y :: C) lo
  | block {id : Nat} {K : List Fr} {C : List KC} {lo : Nat} (k : KRel ρ h w s K C lo) : KRel ρ h w s (.block id :: K) (.block id :: C) lo
  | loop {x : Code} {K : List Fr} {C : List KC} {lo : Nat} (k : KRel ρ h w s K C lo) : KRel ρ h w s (.loop x :: K) (.loop x :: C) lo
  | call {fn : Func} {d : Option Nat} {ops : Array Oper} {rest : List Oper} {a : Tmps} {A : Act} {K : List Fr} {C : List KC} {lo lo' : Nat} {DL : List Deferred} (F : FRel DL ρ a A) (M : Marks lo' DL ρ h w) (hs : s ≤ lo') (hlo : lo' ≤ lo)
      (hD : ∀ D, markOf D ∈ DL → D < lo) (k : KRel ρ h w s K C lo') : KRel ρ h w s (.call fn d ops rest a :: K) (.call fn d ops rest A :: C) lo
  | rng {fn : Func} {b : Nat} {e : Ent} {a : Tmps} {A : Act} {K : List Fr} {C : List KC} {lo lo' : Nat} {DL : List Deferred} (F : FRel DL ρ a A) (M : Marks lo' DL ρ h w) (hs : s ≤ lo') (hlo : lo' ≤ lo)
      (hD : ∀ D, markOf D ∈ DL → D < lo) (he : ρ b = some e) (k : KRel ρ h w s K C lo') : KRel ρ h w s (.rng fn b a :: K) (.rng fn e.blk A :: C) lo
  | round {b : Nat} {d : Option Nat} {ops : Array Oper} {rest : List Oper} {e : Ent} {a : Tmps} {A : Act} {K : List Fr} {C : List KC} {lo lo' : Nat} {DL : List Deferred} (F : FRel DL ρ a A) (M : Marks lo' DL ρ h w) (hs : s ≤ lo') (hlo : lo' ≤ lo)
      (hD : ∀ D, markOf D ∈ DL → D < lo) (he : ρ b = some e) (k : KRel ρ h w s K C lo') : KRel ρ h w s (.round b d ops rest a :: K) (.round e.blk d ops rest A :: C) lo

theorem Marks.fresh {DL : List Deferred} {ρ : Nat → Option Ent} {h : Heap} {w : World} {lo : Nat} (M : Marks lo DL ρ h w) : Marks lo DL ρ h.fresh w := M

theorem KRel.good {ρ ρ' : Nat → Option Ent} {h h' : Heap} {w w' : World} {s : Nat} (G : Good ρ h w ρ' h' w') {K : List Fr} {C : List KC} {lo : Nat} (k : KRel ρ h w s K C lo) : KRel ρ' h'.fresh w' s K C lo := by
  induction k with
  | nil => exact .nil
  | seq _ ih => exact .seq ih
  | block _ ih => exact .block ih
  | loop _ ih => exact .loop ih
  | call F M hs hlo hD _ ih => exact .call (F.ext G.ext) (M.good G).fresh hs hlo hD ih
  | rng F M hs hlo hD he _ ih => exact .rng (F.ext G.ext) (M.good G).fresh hs hlo hD (G.ext _ _ he) ih
  | round F M hs hlo hD he _ ih => exact .round (F.ext G.ext) (M.good G).fresh hs hlo hD (G.ext _ _ he) ih

theorem markOf_inj {D E : Nat} (h : markOf D = markOf E) : D = E := by
  simp only [markOf, Deferred.mk.injEq, and_true] at h
  injection h

theorem Marks.aside {DL : List Deferred} {ρ : Nat → Option Ent} {h : Heap} {w : World} {lo D : Nat} {o : Obj} (M : Marks lo DL ρ h w) (hD : markOf D ∉ DL) : Marks lo DL ρ h (w.putObj D o) := by
  obtain ⟨hl, Ds, rfl, hn, hk⟩ := M
  refine ⟨by simpa using hl, Ds, rfl, hn, fun E hE => ?_⟩
  obtain ⟨k1, k2, k3⟩ := hk E hE
  have : E ≠ D := fun q => hD (by rw [← q]; exact List.mem_map_of_mem hE)
  exact ⟨k1, by rw [World.putObj_heap_other this]; exact k2, k3⟩

theorem KRel.aside {ρ : Nat → Option Ent} {h : Heap} {w : World} {s : Nat} {o : Obj} {K : List Fr} {C : List KC} {lo : Nat} (k : KRel ρ h w s K C lo) {D : Nat} (hDlo : lo ≤ D) : KRel ρ h (w.putObj D o) s K C lo := by
  induction k with
  | nil => exact .nil
  | seq _ ih => exact .seq (ih hDlo)
  | block _ ih => exact .block (ih hDlo)
  | loop _ ih => exact .loop (ih hDlo)
  | call F M hs hlo hD _ ih => exact .call F (M.aside (fun q => by have := hD D q; omega)) hs hlo hD (ih (by omega))
  | rng F M hs hlo hD he _ ih => exact .rng F (M.aside (fun q => by have := hD D q; omega)) hs hlo hD he (ih (by omega))
  | round F M hs hlo hD he _ ih => exact .round F (M.aside (fun q => by have := hD D q; omega)) hs hlo hD he (ih (by omega))

theorem TSub.frel {a1 a : Tmps} (B : TSub a1 a) {DL : List Deferred} {ρ : Nat → Option Ent} {A : Act} (F : FRel DL ρ a A) : FRel DL ρ a1 A :=
  ⟨fun t v hv => F.slot t v (B.slots t v hv), by rw [B.n]; exact F.n, F.defers, F.glob⟩
theorem HSub.srel {h1 h : Heap} (B : HSub h1 h) {ρ : Nat → Option Ent} {w : World} (S : SRel ρ h w) : SRel ρ h1 w :=
  ⟨fun i c hc => let ⟨d, hd, _⟩ := B.blks i c hc; S.dom i d hd, fun i p q => S.free i (by rw [← B.next]; exact p) (by rw [← B.lim]; exact q), fun i e b he hb => let ⟨d, hd, k⟩ := B.blks i b hb; k.brel (S.blks i e d he hd),
    fun i j e e' b b' hij he he' hb hb' hl hl' => let ⟨d, hd, k⟩ := B.blks i b hb; let ⟨d', hd', k'⟩ := B.blks j b' hb'; S.inj i j e e' d d' hij he he' hd hd' (by rw [← k.live]; exact hl) (by rw [← k'.live]; exact hl')⟩
theorem HSub.marks {h1 h : Heap} (B : HSub h1 h) {lo : Nat} {DL : List Deferred} {ρ : Nat → Option Ent} {w : World} (M : Marks lo DL ρ h w) : Marks lo DL ρ h1 w := by
  obtain ⟨hl, Ds, h1', h2, h3⟩ := M
  exact ⟨hl, Ds, h1', h2, fun D hD => let ⟨k1, k2, k3⟩ := h3 D hD; ⟨k1, k2, fun i e b he hb hlb => let ⟨d, hd, k⟩ := B.blks i b hb; k3 i e d he hd (by rw [← k.live]; exact hlb)⟩⟩
theorem HSub.krel {h1 h : Heap} (B : HSub h1 h) {ρ : Nat → Option Ent} {w : World} {s : Nat} {K1 K : List Fr} (hk : KSub K1 K) : ∀ {C : List KC} {lo : Nat}, KRel ρ h w s K C lo → KRel ρ h1 w s K1 C lo := by
  induction hk with
  | nil => intro C lo k; cases k; exact .nil
  | seq _ ih => intro C lo k; cases k with | seq k => exact .seq (ih k)
  | block _ ih => intro C lo k; cases k with | block k => exact .block (ih k)
  | loop _ ih => intro C lo k; cases k with | loop k => exact .loop (ih k)
  | call ha _ ih => intro C lo k; cases k with | call F M hs hlo hD k => exact .call (ha.frel F) (B.marks M) hs hlo hD (ih k)
  | rng ha _ ih => intro C lo k; cases k with | rng F M hs hlo hD he k => exact .rng (ha.frel F) (B.marks M) hs hlo hD he (ih k)
  | round ha _ ih => intro C lo k; cases k with | round F M hs hlo hD he k => exact .round (ha.frel F) (B.marks M) hs hlo hD he (ih k)

theorem KRel.ro {ρ : Nat → Option Ent} {h : Heap} {w : World} {s : Nat} {K : List Fr} {C : List KC} {lo : Nat} (k : KRel ρ h w s K C lo) : inR K = false → roC C = none := by
  induction k with
  | nil => intro _; rfl
  | seq _ ih => exact ih
  | block _ ih => exact ih
  | loop _ ih => exact ih
  | call => intro _; rfl
  | rng => intro _; rfl
  | round => intro h; cases h

theorem KSub.inR {K1 K : List Fr} (h : KSub K1 K) : inR K1 = inR K := by
  induction h with
  | nil => rfl
  | seq _ ih => exact ih
  | block _ ih => exact ih
  | loop _ ih => exact ih
  | call => rfl
  | rng => rfl
  | round => rfl

theorem HSub.since {h1 h : Heap} (B : HSub h1 h) {L : List (Nat × List AV)} {w0 w : World} {ρ : Nat → Option Ent} (I : Since L w0 ρ h w) (hl : ∀ g x, assocL L g = some x → h1.t.get (1048576 + g) = some (.cells 0 x false)) : Since L w0 ρ h1 w :=
  ⟨I.below, by rw [B.lim]; exact I.lim, by rw [B.lim, B.next]; exact I.nextLe, hl, I.ents, fun i e b he hb hlb => let ⟨d, hd, k⟩ := B.blks i b hb; I.img i e d he hd (by rw [← k.live]; exact hlb)⟩

theorem Since.step {L : List (Nat × List AV)} {w0 w w' : World} {ρ ρ' : Nat → Option Ent} {h h' : Heap} (I : Since L w0 ρ h w) (S : SRel ρ h w) (G : Good ρ h w ρ' h' w') (hu : unwritten L h'.wr = true) : Since L w0 ρ' h'.fresh w' := by
  obtain ⟨h1, h2, h3, h4, h5⟩ := I.good S G hu
  refine ⟨h1, h2, h3, fun g c hg => ?_, h4, h5⟩
  show h'.t.get (1048576 + g) = _
  rw [G.same _ (unwritten_ok hu g c hg) (by omega)]
  exact I.vars g c hg

theorem Since.aside {L : List (Nat × List AV)} {w0 w : World} {ρ : Nat → Option Ent} {h : Heap} {D : Nat} {o : Obj} (I : Since L w0 ρ h w) (hD : w0.heap.size ≤ D) : Since L w0 ρ h (w.putObj D o) :=
  ⟨⟨I.below.os, I.below.tape, I.below.output, by simpa using I.below.size, fun k hk => by rw [World.putObj_heap_other (by omega)]; exact I.below.block k hk⟩, I.lim, I.nextLe, I.vars, I.ents, I.img⟩

theorem leaves_post {P : Program} {DL : List Deferred} {ρ : Nat → Option Ent} {h : Heap} {a : Tmps} {A : Act} {fn : Func} {v : AV} (F : FRel DL ρ a A) (hv : resultsA P fn h a = some v) {lo : Nat} {I : World → Prop} {Post : Ending → World → Prop}
    (hI : ∀ D w, lo ≤ D → I w → I (w.putObj D (.deferred none))) (hPost : ∀ V w, SRel ρ h w → I w → Rel ρ v V → Post (.returned V) w) :
    ∀ (Ds : List Nat) (w : World), SRel ρ h w → I w → Ds.Nodup → (∀ D, D ∈ Ds → lo ≤ D ∧ w.heap[D]? = some (.deferred (some [])) ∧
      ∀ (i : Nat) (e : Ent) (b : Blk), ρ i = some e → h.t.get i = some b → b.live = true → e.blk ≠ D) →
      LeavesInM (RF none) 0 P fn A.tmps Post (Ds.map markOf) .returning w
  | [], w, S, hi, _, _ => by
    obtain ⟨V, k1, k2⟩ := resultsA_run S F hv
    exact ⟨V, k1, hPost V w S hi k2⟩
  | D :: Ds, w, S, hi, hn, hD => by
    obtain ⟨k1, k2, k3⟩ := hD D (List.mem_cons_self)
    have hnd := List.nodup_cons.1 hn
    refine ⟨by simp, .inl ⟨D, w.putObj D (.deferred none), rfl, run_takeDeferred k2, ?_⟩⟩
    refine leaves_post F hv hI hPost Ds _ (S.aside k3) (hI D w k1 hi) hnd.2 (fun E hE => ?_)
    obtain ⟨q1, q2, q3⟩ := hD E (List.mem_cons_of_mem _ hE)
    exact ⟨q1, by rw [World.putObj_heap_other (fun q => hnd.1 (by rw [← q]; exact hE))]; exact q2, q3⟩

theorem SRel.fresh {ρ : Nat → Option Ent} {h : Heap} {w : World} (S : SRel ρ h w) : SRel ρ h.fresh w := ⟨S.dom, S.free, S.blks, S.inj⟩

mutual
/-- a value that leads to no memory -/
def pureAV : AV → Bool
  | .bool _ => true
  | .int _ _ => true
  | .str _ => true
  | .nilp => true
  | .nils => true
  | .nilm => true
  | .nilf => true
  | .nili => true
  | .agg cs => pureAVs cs
  | .tup cs => pureAVs cs
  | _ => false
def pureAVs : List AV → Bool
  | [] => true
  | a :: as => pureAV a && pureAVs as
end
mutual
theorem pure_rel {ρ ρ' : Nat → Option Ent} : ∀ (a : AV), pureAV a = true → ∀ {v : Value}, Rel ρ a v → Rel ρ' a v
  | .bool b, _, v, h => by simpa [Rel] using h
  | .int k n, _, v, h => by simpa [Rel] using h
  | .str s, _, v, h => by simpa [Rel] using h
  | .nilp, _, v, h => by simpa [Rel] using h
  | .nils, _, v, h => by simpa [Rel] using h
  | .nilm, _, v, h => by simpa [Rel] using h
  | .nilf, _, v, h => by simpa [Rel] using h
  | .nili, _, v, h => by simpa [Rel] using h
  | .agg cs, hp, v, h => by
    simp only [pureAV] at hp
    simp only [Rel] at h ⊢; obtain ⟨vs, h1, h2⟩ := h; exact ⟨vs, pure_rels cs hp h1, h2⟩
  | .tup cs, hp, v, h => by
    simp only [pureAV] at hp
    simp only [Rel] at h ⊢; obtain ⟨vs, h1, h2⟩ := h; exact ⟨vs, pure_rels cs hp h1, h2⟩
  | .ptr _ _, hp, _, _ => by simp [pureAV] at hp
  | .slc _ _ _ _, hp, _, _ => by simp [pureAV] at hp
  | .map _, hp, _, _ => by simp [pureAV] at hp
  | .fn _ _ _, hp, _, _ => by simp [pureAV] at hp
  | .ifc _ _, hp, _, _ => by simp [pureAV] at hp
  | .emp, hp, _, _ => by simp [pureAV] at hp
theorem pure_rels {ρ ρ' : Nat → Option Ent} : ∀ (a : List AV), pureAVs a = true → ∀ {v : List Value}, RelL ρ a v → RelL ρ' a v
  | [], _, v, h => by simpa [RelL] using h
  | a :: as, hp, v, h => by
    simp only [pureAVs, Bool.and_eq_true] at hp
    simp only [RelL] at h ⊢; obtain ⟨x, ws, h1, h2, h3⟩ := h; exact ⟨x, ws, pure_rel a hp.1 h1, pure_rels as hp.2 h2, h3⟩
end

theorem cfg_sound {P : Program} (hP : okProg P = true) {fnTop : Func} {L : List (Nat × List AV)} {v0 : AV} (hv0 : pureAV v0 = true) {w0 : World} {K : List Fr} {cfg : Cfg} (hr : Run P fnTop L v0 K cfg) :
    ∀ {ρ : Nat → Option Ent} {w : World} {A : Act} {C : List KC} {DL : List Deferred} {lo : Nat}, SRel ρ cfg.h w → FRel DL ρ cfg.a A → Marks lo DL ρ cfg.h w → w0.heap.size ≤ lo → Since L w0 ρ cfg.h w → KRel ρ cfg.h w w0.heap.size K C lo →
      CfgSem P (roC C) (kpost P (bodyPostM (RF none) 0 P fnTop fun e w' => ∃ V, e = .returned V ∧ Rel (fun _ => none) v0 V ∧ Below w0.heap.size w0 w') C) A w cfg := by
  induction hr with
  | exec hn hr hu _ ih =>
    intro ρ w A C DL lo S F M hlo I k
    refine code_sound hP _ (roC C) _ _ _ _ _ _ hr (hn.imp k.ro id) lo DL ρ w A S F M _ (fun DL' ρ' w' A' S' G' F' M' => ?_)
    exact ih S'.fresh F' M'.fresh hlo (I.step S G' hu) (k.good G')
  | seq _ ih =>
    intro ρ w A C DL lo S F M hlo I k
    exact wpIn_seq (ih S F M hlo I (.seq k))
  | block _ ih =>
    intro ρ w A C DL lo S F M hlo I k
    exact wpIn_block (ih S F M hlo I (.block k))
  | loop _ ih =>
    intro ρ w A C DL lo S F M hlo I k
    exact loop_of_hd (ih S F M hlo I k)
  | head _ ih =>
    intro ρ w A C DL lo S F M hlo I k
    exact hd_of (ih S F M hlo I (.loop k))
  | condT hc _ ih =>
    intro ρ w A C DL lo S F M hlo I k
    have hb := evalA_rel F hc
    simp only [Rel] at hb
    exact wpIn_cond_true hb (ih S F M hlo I k)
  | condF hc _ ih =>
    intro ρ w A C DL lo S F M hlo I k
    have hb := evalA_rel F hc
    simp only [Rel] at hb
    exact wpIn_cond_false hb (ih S F M hlo I k)
  | region _ ih =>
    intro ρ w A C DL lo S F M hlo I k
    exact wpIn_region_list (ih S F M hlo I k)
  | @drawn n K id ops pre post ms es fin a h hops hm hms hdr hchk hmask hu _ ih =>
    intro ρ w A C DL lo S F M hlo I k
    exact drawL_sound (roC C) hP (code_sound hP n) (code_lim P n) hops hm hms hdr hchk hmask S F (fun ρ' w' A' S' G' F' => ih S'.fresh F' (M.good G').fresh hlo (I.step S G' hu) (k.good G'))
  | one ho hu _ ih =>
    intro ρ w A C DL lo S F M hlo I k
    refine wpListIn_step fun K' hK => one_sound hP (code_sound hP _) (roC C) ho S F (fun ρ1 w1 V S1 G1 R1 => hK _ _ ?_)
    exact ih S1.fresh ((F.ext G1.ext).put R1 _) (M.good G1).fresh hlo (I.step S G1 hu) (k.good G1)
  | @enter K ops o rest a h f args fn body hw hl ho hf hb _ ih =>
    intro ρ w A C DL lo S F M hlo I k
    refine wpListIn_step fun K' hK => ?_
    have hab : ∀ f, o.about P w A.eval = some f → (RF (roC C)).fn f := fun _ _ => trivial
    rw [if_pos (wanted_eq F ops o hw)]
    refine ⟨hab, ?_⟩
    obtain ⟨vs, k1, k2⟩ := op_sound S hl F ho
    rw [semAt_ok ho, k2, callFunc_run hP hf hb, Oper.uponIn_enter]
    refine ⟨(fun q => (by cases q)), ?_⟩
    have hlt : lo ≤ w.heap.size := M.1
    have hD : ∀ D, markOf D ∈ DL → D < w.heap.size := by
      intro D hm
      obtain ⟨_, Ds, rfl, _, h3⟩ := M
      obtain ⟨E, hE, hq⟩ := List.mem_map.1 hm
      have := markOf_inj hq; subst this
      exact heap_lt (h3 _ hE).2.1
    have hC : CallsIn (RF none) 0 P f vs.toArray w fun e w' => ∃ V, e = .returned V ∧ wpListIn (RF (roC C)) 0 P ops (kpost P (bodyPostM (RF none) 0 P fnTop fun e w' => ∃ V, e = .returned V ∧ Rel (fun _ => none) v0 V ∧ Below w0.heap.size w0 w') C) rest (A.put o.dst V) w' :=
      callsIn_of_wp_marks hf hb trivial (ih (C := .call fn o.dst ops rest A :: C) S (frame_enter F.glob k1 fn.ntmps) (Marks.none (Nat.le_refl _)) (Nat.le_trans hlo hlt) I (.call F M hlo hlt hD k))
    have hC' : CallsIn (RF (roC C)) 0 P f vs.toArray w fun e w' => ∃ V, e = .returned V ∧ wpListIn (RF (roC C)) 0 P ops (kpost P (bodyPostM (RF none) 0 P fnTop fun e w' => ∃ V, e = .returned V ∧ Rel (fun _ => none) v0 V ∧ Below w0.heap.size w0 w') C) rest (A.put o.dst V) w' := hC
    refine hC'.mono ?_
    rintro e w' ⟨V, rfl, hw'⟩
    exact hK _ _ hw'
  | @use K ops o rest a h f args v hw hl ho hF hu _ ih =>
    intro ρ w A C DL lo S F M hlo I k
    refine wpListIn_step fun K' hK => ?_
    have hab : ∀ f, o.about P w A.eval = some f → (RF (roC C)).fn f := fun _ _ => trivial
    rw [if_pos (wanted_eq F ops o hw)]
    refine ⟨hab, ?_⟩
    obtain ⟨vs, k1, k2⟩ := op_sound S hl F ho
    obtain ⟨fn, body, hf, hb, hC⟩ := hF
    rw [semAt_ok ho, k2, callFunc_run hP hf hb, Oper.uponIn_enter]
    refine ⟨(fun q => (by cases q)), ?_⟩
    have hC' : CallsIn (RF (roC C)) 0 P f vs.toArray w (CallRes ρ h w v h) := hC ρ h w vs S F.glob k1
    refine hC'.mono ?_
    rintro e w' ⟨V, ρ', rfl, q1, q2, q3⟩
    exact hK _ _ (ih q2.fresh ((F.ext q3.ext).put q1 _) (M.good q3).fresh hlo (I.step S q3 hu) (k.good q3))
  | opsEnd _ ih =>
    intro ρ w A C DL lo S F M hlo I k
    exact ih S F M hlo I k
  | finSeq _ ih =>
    intro ρ w A C DL lo S F M hlo I k
    cases k with | seq k => exact ih S F M hlo I k
  | @finSeqX _ _ ex _ _ hx _ ih =>
    intro ρ w A C DL lo S F M hlo I k
    cases k with
    | seq k =>
      have := ih S F M hlo I k
      cases ex with
      | normal => exact absurd rfl hx
      | exit id => exact this
      | ret => exact this
      | goto l => exact this
  | finBlock _ ih =>
    intro ρ w A C DL lo S F M hlo I k
    cases k with
    | block k =>
      have := ih S F M hlo I k
      simp only [CfgSem, kpost, exitOf, Exit.inBlock, if_true]
      exact this
  | @finBlockX _ id ex _ _ hx _ ih =>
    intro ρ w A C DL lo S F M hlo I k
    cases k with
    | block k =>
      have := ih S F M hlo I k
      cases ex with
      | normal => exact this
      | exit id' =>
        have hne : id' ≠ id := fun q => hx (by rw [q])
        simp only [CfgSem, kpost, exitOf, Exit.inBlock, if_neg hne]
        exact this
      | ret => exact this
      | goto l => exact this
  | finLoop _ ih =>
    intro ρ w A C DL lo S F M hlo I k
    cases k with | loop k => exact ih S F M hlo I k
  | @finLoopX _ _ ex _ _ hx _ ih =>
    intro ρ w A C DL lo S F M hlo I k
    cases k with
    | loop k =>
      have := ih S F M hlo I k
      cases ex with
      | normal => exact absurd rfl hx
      | exit id => exact this
      | ret => exact this
      | goto l => exact this
  | @finCall K fn d ops rest a0 a h ex v hx hv _ ih =>
    intro ρ w A C DL lo S F M hlo I k
    cases k with
    | @call _ _ _ _ _ A0 _ C _ lo' DL0 F0 M0 hs hlo' hD k =>
      obtain ⟨_, Ds, rfl, hn, hDs⟩ := M
      have key := leaves_post (lo := lo) (I := fun w => Since L w0 ρ h w ∧ Marks lo' DL0 ρ h w ∧ KRel ρ h w w0.heap.size K C lo')
        (Post := fun e w' => ∃ V, e = .returned V ∧ wpListIn (RF (roC C)) 0 P ops (kpost P (bodyPostM (RF none) 0 P fnTop fun e w' => ∃ V, e = .returned V ∧ Rel (fun _ => none) v0 V ∧ Below w0.heap.size w0 w') C) rest (A0.put d V) w')
        F hv (fun D w hD' hI => ⟨hI.1.aside (by omega), hI.2.1.aside (fun q => by have := hD D q; omega), hI.2.2.aside (by omega)⟩)
        (fun V w S' hI hV => ⟨V, rfl, ih S' (F0.put hV d) hI.2.1 hs hI.1 hI.2.2⟩) Ds w S ⟨I, M0, k⟩ hn hDs
      rw [← F.defers] at key
      rcases hx with rfl | rfl <;> exact key
  | @range K f ps asg body gb a h g first cap fn hin hf hlt hg hb hu _ ih =>
    intro ρ w A C DL lo S F M hlo I k
    simp only [CfgSem]
    rw [k.ro hin]
    have hfr := evalA_rel F hf
    simp only [Rel] at hfr
    obtain ⟨g', xs, ys, hg', hxs, hys, hev⟩ := hfr
    have hg' : g' = .func g := hg'
    subst hg'
    refine wpIn_rangeFunc (fun fr _ => ?_)
    obtain ⟨S0, G0⟩ := alloc_aside S (.deferred (some []))
    let rec0 : Loop := { state := .ready, pending := none, fn := fr, tmps := A.tmps, params := ps, assign := asg, body, defers := w.heap.size }
    have hs0 : (w.alloc (.deferred (some []))).heap.size = w.heap.size + 1 := by simp
    have S1 : SRel (upd ρ h.next ⟨w.heap.size + 1, 0, 0⟩) (h.push (.loop ps.toList asg body a none)) ((w.alloc (.deferred (some []))).alloc (.loop rec0)) := by
      refine S0.push hlt (fun i x c hx hc hl => ?_) ⟨rec0, ?_, rfl, rfl, rfl, fun t u hu => Rel.ext (Ext.push _ (S.unmapped hlt)) _ (F.slot t u hu), F.n, rfl, rfl⟩
      · have := (S0.blks i x c hx hc).lt hl
        refine ⟨by show ((w.alloc (.deferred (some []))).heap.push _)[x.blk]? = _; rw [Array.getElem?_push, if_neg (by omega)], ?_⟩
        simp only; omega
      · have := World.alloc_heap_new (w.alloc (.deferred (some []))) (.loop rec0)
        rw [hs0] at this; exact this
    have G1 : Good ρ h (w.alloc (.deferred (some []))) (upd ρ h.next ⟨w.heap.size + 1, 0, 0⟩) (h.push (.loop ps.toList asg body a none)) ((w.alloc (.deferred (some []))).alloc (.loop rec0)) :=
      Good.push S0 hlt (by simp) (fun k hk => by show ((w.alloc (.deferred (some []))).heap.push _)[k]? = _; rw [Array.getElem?_push, if_neg (by omega)]) (by simp) rfl rfl rfl
    have hnew : upd ρ h.next ⟨w.heap.size + 1, 0, 0⟩ h.next = some ⟨w.heap.size + 1, 0, 0⟩ := upd_same _ _ _
    have hargs : RelL (upd ρ h.next ⟨w.heap.size + 1, 0, 0⟩) (first ++ [.fn (.yield h.next) [] []] ++ cap) (xs ++ [Value.func (.yield (w.heap.size + 1)) #[] #[]] ++ ys) := by
      refine ((RelL.ext G1.ext _ hxs).append ?_).append (RelL.ext G1.ext _ hys)
      simp only [RelL, Rel]
      exact ⟨_, [], ⟨.yield (w.heap.size + 1), [], [], ⟨_, hnew, rfl⟩, rfl, rfl, rfl⟩, rfl, rfl⟩
    have G01 := G0.trans G1
    have hM1 : Marks lo (markOf w.heap.size :: DL) ρ h (w.alloc (.deferred (some []))) := by
      obtain ⟨hl, Ds, rfl, hn, hD⟩ := M
      refine ⟨by omega, w.heap.size :: Ds, rfl, List.nodup_cons.2 ⟨fun hm => ?_, hn⟩, fun D hm => ?_⟩
      · have := heap_lt (hD _ hm).2.1; omega
      · rcases List.mem_cons.1 hm with rfl | hm
        · refine ⟨hl, World.alloc_heap_new w _, fun i e b he hb hlb => ?_⟩
          have := (S.blks i e b he hb).lt hlb; omega
        · obtain ⟨k1, k2, k3⟩ := hD D hm
          refine ⟨k1, ?_, k3⟩
          have := heap_lt k2
          show (w.heap.push _)[D]? = _
          rw [Array.getElem?_push, if_neg (by omega)]; exact k2
    have hM2 := (hM1.good G1).fresh
    have F2 : FRel (markOf w.heap.size :: DL) (upd ρ h.next ⟨w.heap.size + 1, 0, 0⟩) a { A with defers := [markOf w.heap.size] ++ A.defers } := by
      have F' := F.ext G01.ext
      exact ⟨F'.slot, F'.n, by simp [F.defers], F'.glob⟩
    have hsz2 : ((w.alloc (.deferred (some []))).alloc (.loop rec0)).heap.size = w.heap.size + 2 := by simp
    have hD2 : ∀ D, markOf D ∈ (markOf w.heap.size :: DL) → D < ((w.alloc (.deferred (some []))).alloc (.loop rec0)).heap.size := by
      intro D hm
      rw [hsz2]
      rcases List.mem_cons.1 hm with hq | hm
      · have := markOf_inj hq; omega
      · obtain ⟨_, Ds, hq, _, h3⟩ := M
        rw [hq] at hm
        obtain ⟨E, hE, hq2⟩ := List.mem_map.1 hm
        have := markOf_inj hq2; subst this
        have := heap_lt (h3 _ hE).2.1; omega
    have hlt1 : lo ≤ w.heap.size := M.1
    have I1 := I.step S G01 hu
    have hC : CallsIn (RF none) 0 P g (xs ++ [Value.func (.yield (w.heap.size + 1)) #[] #[]] ++ ys).toArray ((w.alloc (.deferred (some []))).alloc (.loop rec0))
        (rangePost (RF none) 0 P (w.heap.size + 1) (kpost P (bodyPostM (RF none) 0 P fnTop fun e w' => ∃ V, e = .returned V ∧ Rel (fun _ => none) v0 V ∧ Below w0.heap.size w0 w') C) { A with defers := [markOf w.heap.size] ++ A.defers }) :=
      callsIn_of_wp_marks hg hb trivial (ih (C := .rng fn (w.heap.size + 1) { A with defers := [markOf w.heap.size] ++ A.defers } :: C) S1.fresh (frame_enter F2.glob hargs fn.ntmps) (Marks.none (Nat.le_refl _)) (by rw [hsz2]; omega) I1
        (.rng (e := ⟨w.heap.size + 1, 0, 0⟩) F2 hM2 hlo (by rw [hsz2]; omega) hD2 hnew (k.good G01)))
    refine ⟨w.heap.size + 1, [markOf w.heap.size], (w.alloc (.deferred (some []))).alloc (.loop rec0), { target := .fn (.func g) ys.toArray, args := xs.toArray ++ #[Value.func (.yield (w.heap.size + 1)) #[] #[]] },
      (w.alloc (.deferred (some []))).alloc (.loop rec0), g, (xs ++ [Value.func (.yield (w.heap.size + 1)) #[] #[]] ++ ys).toArray, (w.alloc (.deferred (some []))).alloc (.loop rec0), ?_, ?_, fun _ _ => trivial, ?_, (fun q => (by cases q)), hC⟩
    · exact run_enterLoop_outer fr A.tmps ps asg body
    · have ec : A.eval (.const (.func (.yield (w.heap.size + 1)) #[] #[])) = .func (.yield (w.heap.size + 1)) #[] #[] := rfl
      simp [resolve, rangeCall, hev, Deferred.ofValue, ec]
    · simp only [invoke]
      have e : (xs.toArray ++ #[Value.func (.yield (w.heap.size + 1)) #[] #[]]) ++ ys.toArray = (xs ++ [Value.func (.yield (w.heap.size + 1)) #[] #[]] ++ ys).toArray := by simp
      rw [e]; exact callFunc_run hP hg hb _ _
  | @finRngN K fn b a0 a t h ex v ps asg body hx hv hb hu _ ih =>
    intro ρ w A C DL lo S F M hlo I k
    cases k with
    | @rng _ _ e _ A0 _ C _ lo' DL0 F0 M0 hs hlo' hD he k =>
      obtain ⟨_, Ds, rfl, hn, hDs⟩ := M
      have key := leaves_post (lo := lo) (I := fun w => Since L w0 ρ h w ∧ Marks lo' DL0 ρ h w ∧ KRel ρ h w w0.heap.size K C lo')
        (Post := rangePost (RF none) 0 P e.blk (kpost P (bodyPostM (RF none) 0 P fnTop fun e w' => ∃ V, e = .returned V ∧ Rel (fun _ => none) v0 V ∧ Below w0.heap.size w0 w') C) A0)
        F hv (fun D w hD' hI => ⟨hI.1.aside (by omega), hI.2.1.aside (fun q => by have := hD D q; omega), hI.2.2.aside (by omega)⟩)
        (fun V w S' hI hV => by
          obtain ⟨q, q1, _, _, _, _, _, q7⟩ := S'.blks _ _ _ he hb
          have hd := loop_dead (o := .loop { q with state := .exhausted }) S' hb he
          refine ⟨q.pending, _, run_endLoop (P := P) q1 (by rw [q7.1]; simp), ?_⟩
          split
          · exact ih hd.1.fresh F0 (hI.2.1.good hd.2).fresh hs (hI.1.step S' hd.2 hu) (hI.2.2.good hd.2)
          · rename_i c hc
            rw [q7.2] at hc; cases hc) Ds w S ⟨I, M0, k⟩ hn hDs
      rw [← F.defers] at key
      rcases hx with rfl | rfl <;> exact key
  | @finRngX K fn b a0 a t h ex ex' v ps asg body hx hv hb hu _ ih =>
    intro ρ w A C DL lo S F M hlo I k
    cases k with
    | @rng _ _ e _ A0 _ C _ lo' DL0 F0 M0 hs hlo' hD he k =>
      obtain ⟨_, Ds, rfl, hn, hDs⟩ := M
      have key := leaves_post (lo := lo) (I := fun w => Since L w0 ρ h w ∧ Marks lo' DL0 ρ h w ∧ KRel ρ h w w0.heap.size K C lo')
        (Post := rangePost (RF none) 0 P e.blk (kpost P (bodyPostM (RF none) 0 P fnTop fun e w' => ∃ V, e = .returned V ∧ Rel (fun _ => none) v0 V ∧ Below w0.heap.size w0 w') C) A0)
        F hv (fun D w hD' hI => ⟨hI.1.aside (by omega), hI.2.1.aside (fun q => by have := hD D q; omega), hI.2.2.aside (by omega)⟩)
        (fun V w S' hI hV => by
          obtain ⟨q, q1, _, _, _, _, _, q7⟩ := S'.blks _ _ _ he hb
          have hd := loop_dead (o := .loop { q with state := .exhausted }) S' hb he
          refine ⟨q.pending, _, run_endLoop (P := P) q1 (by rw [q7.1]; simp), ?_⟩
          have hq := ih hd.1.fresh F0 (hI.2.1.good hd.2).fresh hs (hI.1.step S' hd.2 hu) (hI.2.2.good hd.2)
          split
          · rename_i hc
            rw [q7.2] at hc; cases hc
          · rename_i c hc
            rw [q7.2, Option.some.injEq] at hc
            subst hc
            cases ex' with
            | normal => exact wpIn_skip hq
            | exit id => exact wpIn_exit hq
            | ret => exact wpIn_ret hq
            | goto l => exact wpIn_goto hq) Ds w S ⟨I, M0, k⟩ hn hDs
      rw [← F.defers] at key
      rcases hx with rfl | rfl <;> exact key
  | @round n K ops o rest a ab a1 t1 h h1 b args ps ps1 asg body asg1 body1 hw hl ho hb hlen hn1 hr1 hb1 hu _ ih =>
    intro ρ w A C DL lo S F M hlo I k
    refine wpListIn_step fun K' hK => ?_
    have hab : ∀ f, o.about P w A.eval = some f → (RF (roC C)).fn f := fun _ _ => trivial
    rw [if_pos (wanted_eq F ops o hw)]
    refine ⟨hab, ?_⟩
    obtain ⟨e, vs, he, k1, k2⟩ := op_sound S hl F ho
    obtain ⟨r, r1, r2, r3, r4, r5, r6, r7⟩ := S.blks b e _ he hb
    have hsz : vs.toArray.size = r.params.size := by
      have := k1.length
      have h2 : r.params.toList.length = ps.length := by rw [r2]
      simp at h2 ⊢; omega
    have hlt : lo ≤ w.heap.size := M.1
    have hD : ∀ D, markOf D ∈ DL → D < w.heap.size := by
      intro D hm
      obtain ⟨_, Ds, rfl, _, h3⟩ := M
      obtain ⟨E, hE, hq⟩ := List.mem_map.1 hm
      have := markOf_inj hq; subst this
      exact heap_lt (h3 _ hE).2.1
    rw [semAt_ok ho, k2, run_yield r1 hsz, Oper.uponIn_round]
    refine ⟨(fun q => (by cases q)), ?_⟩
    subst r2; subst r3; subst r4
    have hR : RoundIn (RF none) 0 P e.blk r.fn ((r.params.zip vs.toArray).foldl (fun t (p, v) => t.setIfInBounds p v) r.tmps) r.assign r.body w
        (fun e' w' => ∃ V, e' = .returned V ∧ wpListIn (RF (roC C)) 0 P ops (kpost P (bodyPostM (RF none) 0 P fnTop fun e w' => ∃ V, e = .returned V ∧ Rel (fun _ => none) v0 V ∧ Below w0.heap.size w0 w') C) rest (A.put o.dst V) w') := by
      refine roundIn_of_wpIn trivial ?_
      have F0 : FRel [] ρ ab { tmps := r.tmps, defers := [] } := ⟨r5, r6, rfl, F.glob⟩
      have F1 := setParams_rel F0 k1 hlen
      have M0 : Marks w.heap.size [] ρ h w := Marks.none (Nat.le_refl _)
      have key := code_sound hP n (some e.blk) _ _ _ _ _ _ hr1 (.inr hn1) _ _ ρ w _ S F1 M0
        (Exit.then (fun a₁ w₁ => ∃ w₂, (Instr.beginRound e.blk).run P w₁ = .ok () w₂ ∧ r.body.wpIn ((RF none).inRound e.blk) 0 P (roundPost P e.blk (fun e' w' => ∃ V, e' = .returned V ∧ wpListIn (RF (roC C)) 0 P ops (kpost P (bodyPostM (RF none) 0 P fnTop fun e w' => ∃ V, e = .returned V ∧ Rel (fun _ => none) v0 V ∧ Below w0.heap.size w0 w') C) rest (A.put o.dst V) w')) a₁ w₂) (fun _ _ _ => False)) ?_
      · rw [zip_fold]; exact key
      intro DL1 ρ1 w1 A1 S1 G1 F1' M1
      have he1 := G1.ext b e he
      obtain ⟨q, q1, q2, q3, q4, q5, q6, q7⟩ := S1.blks b e _ he1 hb1
      have st1 := loop_put (st' := some none) (r' := { q with state := .busy }) S1 hb1 he1 q1 ⟨q2, q3, q4, q5, q6⟩ ⟨rfl, rfl, rfl, rfl⟩ rfl
      refine ⟨_, run_beginRound q1 q7.1, ?_⟩
      have G12 := G1.trans st1.2
      exact ih (C := .round e.blk o.dst ops rest A :: C) st1.1.fresh F1' (M1.good st1.2).fresh (Nat.le_trans hlo hlt) (I.step S G12 hu) (.round (F.ext G12.ext) (M.good G12).fresh hlo hlt hD he1 (k.good G12))
    have hR' : RoundIn (RF (roC C)) 0 P e.blk r.fn ((r.params.zip vs.toArray).foldl (fun t (p, v) => t.setIfInBounds p v) r.tmps) r.assign r.body w
        (fun e' w' => ∃ V, e' = .returned V ∧ wpListIn (RF (roC C)) 0 P ops (kpost P (bodyPostM (RF none) 0 P fnTop fun e w' => ∃ V, e = .returned V ∧ Rel (fun _ => none) v0 V ∧ Below w0.heap.size w0 w') C) rest (A.put o.dst V) w') := hR
    refine hR'.mono ?_
    rintro e' w' ⟨V, rfl, hw'⟩
    exact hK _ _ hw'
  | @finRoundN K b d ops rest a0 a t h ps asg body hb hu _ ih =>
    intro ρ w A C DL lo S F M hlo I k
    cases k with
    | @round _ _ _ _ e _ A0 _ C _ lo' DL0 F0 M0 hs hlo' hD he k =>
      obtain ⟨u, u1, u2, u3, u4, u5, u6, u7⟩ := S.blks b e _ he hb
      have st2 := loop_put (st' := none) (r' := { u with state := .ready, pending := none }) S hb he u1 ⟨u2, u3, u4, u5, u6⟩ ⟨rfl, rfl, rfl, rfl⟩ ⟨rfl, rfl⟩
      exact ⟨_, _, run_endRound none u1, _, rfl, ih st2.1.fresh (F0.put (by simp [Rel]) d) (M0.good st2.2).fresh hs (I.step S st2.2 hu) (k.good st2.2)⟩
  | @finRoundX K b d ops rest a0 a t h ex ps asg body hx hb hu _ ih =>
    intro ρ w A C DL lo S F M hlo I k
    cases k with
    | @round _ _ _ _ e _ A0 _ C _ lo' DL0 F0 M0 hs hlo' hD he k =>
      obtain ⟨u, u1, u2, u3, u4, u5, u6, u7⟩ := S.blks b e _ he hb
      have st2 := loop_put (st' := some (some ex)) (r' := { u with state := .done, pending := some (codeOfEx ex) }) S hb he u1 ⟨u2, u3, u4, u5, u6⟩ ⟨rfl, rfl, rfl, rfl⟩ ⟨rfl, rfl⟩
      have hq := ih st2.1.fresh (F0.put (V := .bool false) (by simp [Rel]) d) (M0.good st2.2).fresh hs (I.step S st2.2 hu) (k.good st2.2)
      cases ex with
      | normal => exact absurd rfl hx
      | exit id => exact ⟨_, _, run_endRound (some (.exit id)) u1, _, rfl, hq⟩
      | ret => exact ⟨_, _, run_endRound (some .ret) u1, _, rfl, hq⟩
      | goto l => exact ⟨_, _, run_endRound (some (.goto l)) u1, _, rfl, hq⟩
  | top hx hv =>
    intro ρ w A C DL lo S F M hlo I k
    cases k
    obtain ⟨_, Ds, rfl, hn, hD⟩ := M
    have key := leaves_post (lo := lo) (I := fun w => Below w0.heap.size w0 w) (Post := fun e w' => ∃ V, e = .returned V ∧ Rel (fun _ => none) v0 V ∧ Below w0.heap.size w0 w') F hv
      (fun D w hD' hI => ⟨hI.os, hI.tape, hI.output, by simpa using hI.size, fun k hk => by rw [World.putObj_heap_other (by omega)]; exact hI.block k hk⟩)
      (fun V w _ hI hV => ⟨V, rfl, pure_rel _ hv0 hV, hI⟩) Ds w S I.below hn hD
    rw [← F.defers] at key
    rcases hx with rfl | rfl <;> exact key
  | weak hk hc hl _ ih =>
    intro ρ w A C DL lo S F M hlo I k
    cases hc with
    | code ha hh => exact ih (hh.srel S) (ha.frel F) (hh.marks M) hlo (hh.since I hl) (hh.krel hk k)
    | head ha hh => exact ih (hh.srel S) (ha.frel F) (hh.marks M) hlo (hh.since I hl) (hh.krel hk k)
    | ops ha hh => exact ih (hh.srel S) (ha.frel F) (hh.marks M) hlo (hh.since I hl) (hh.krel hk k)

theorem since_laid (w : World) (L : List (Nat × List AV)) : Since L w (globsLaid L) (laidHeap L) w := by
  refine ⟨Below.refl _ _, rfl, Nat.zero_le _, fun g c hg => ?_, fun g c hg => ⟨_, by simp only [globsLaid]; rw [if_pos (by omega), show 1048576 + g - 1048576 = g by omega]⟩, fun i e b he hb' hl => ?_⟩
  · show (laidTree L).get (1048576 + g) = _
    rw [laidTree_get, if_pos (by omega), show 1048576 + g - 1048576 = g by omega, hg]; rfl
  · have hb' : (laidTree L).get i = some b := hb'
    rw [laidTree_get] at hb'
    by_cases q : 1048576 ≤ i
    · rw [if_pos q] at hb'
      simp only [globsLaid, if_pos q, Option.some.injEq] at he
      subst he
      cases ha : assocL L (i - 1048576) with
      | none => rw [ha] at hb'; cases hb'
      | some c => exact .inl ⟨c, (by first | exact ha | rfl)⟩
    · rw [if_neg q] at hb'; cases hb'

/-- a call that was run so -/
theorem call_res {P : Program} (hP : okProg P = true) {f : FuncId} {fn : Func} {body : Code} {L : List (Nat × List AV)} {v0 : AV} (hv0 : pureAV v0 = true) {args : List AV} {ARGS : List Value} (ha : RelL (globsLaid L) args ARGS) (hf : P.funcs[f]? = some fn) (hb : fn.body = some body)
    (hr : Run P fn L v0 [] (.code body { n := args.length + (fn.ntmps - args.length), dflt := true, t := enterT 0 args .leaf } (laidHeap L))) {w : World} (hL : LaidIn w L) :
    CallsIn (RF none) 0 P f ARGS.toArray w fun e w' => ∃ V, e = .returned V ∧ Rel (fun _ => none) v0 V ∧ Below w.heap.size w w' := by
  have S := srel_laid hL
  have F := frame_enter (globs_laid L) ha fn.ntmps
  have M : Marks w.heap.size [] (globsLaid L) (laidHeap L) w := Marks.none (Nat.le_refl _)
  exact callsIn_of_wp_marks hf hb trivial (cfg_sound hP hv0 hr (C := []) S F M (Nat.le_refl _) (since_laid w L) .nil)

/-- a call of a function without parameters that was run so -/
theorem call_run {P : Program} (hP : okProg P = true) {f : FuncId} {fn : Func} {body : Code} {L : List (Nat × List AV)} (hf : P.funcs[f]? = some fn) (hb : fn.body = some body)
    (hr : Run P fn L (.bool true) [] (.code body { n := fn.ntmps, dflt := true, t := .leaf } (laidHeap L))) {w : World} (hL : LaidIn w L) :
    Calls P f #[] w fun e w' => e = .returned (.bool true) ∧ Below w.heap.size w w' := by
  have h := call_res hP (v0 := .bool true) rfl (args := []) (ARGS := []) (by simp [RelL]) hf hb (by simpa [enterT] using hr) hL
  refine callsIn_wide.1 (CallsIn.mono h ?_)
  rintro e w' ⟨V, rfl, hV, hB⟩
  simp only [Rel] at hV
  subst hV
  exact ⟨rfl, hB⟩

/-- what is below is as it was: so is what a heap says of it -/
theorem srel_below {ρ : Nat → Option Ent} {h : Heap} {w w' : World} (S : SRel ρ h w) (B : Below w.heap.size w w') : SRel ρ h w' ∧ Good ρ h w ρ h w' := by
  have hw : ∀ k, k < w.heap.size → w'.heap[k]? = w.heap[k]? := fun k hk => B.block k hk
  refine ⟨⟨S.dom, S.free, fun i e b he hb => (S.blks i e b he hb).mono (Ext.refl _) (fun hl => hw _ ((S.blks i e b he hb).lt hl)), S.inj⟩, ?_⟩
  exact ⟨Ext.refl _, B.os, B.tape, B.output, B.size, fun k hk _ => hw k hk, fun i e b h1 h2 h3 => .inl ⟨i, e, b, h1, h2, h3, rfl⟩, Nat.le_refl _, rfl, fun h => h, fun _ h => h, fun _ _ _ => rfl,
    fun b c h => ⟨c, h⟩, fun b c h => .inl ⟨c, h⟩, fun b e h => .inl h, fun i e b he hb hl _ _ _ => hw _ ((S.blks i e b he hb).lt hl)⟩

/-- a call that was run from the empty heap returns the same from any -/
theorem fact_of_run {P : Program} (hP : okProg P = true) {f : FuncId} {fn : Func} {body : Code} {v0 : AV} (hv0 : pureAV v0 = true) {args : List AV} (hp : pureAVs args = true) (hf : P.funcs[f]? = some fn) (hb : fn.body = some body)
    (hr : Run P fn [] v0 [] (.code body { n := args.length + (fn.ntmps - args.length), dflt := true, t := enterT 0 args .leaf } (laidHeap []))) : Fact P f args v0 := by
  refine ⟨fn, body, hf, hb, fun ρ h w ARGS S GL ha => ?_⟩
  refine CallsIn.mono (call_res hP hv0 (pure_rels args hp ha) hf hb hr (fun _ _ h => by cases h)) ?_
  rintro e w' ⟨V, rfl, hV, hB⟩
  obtain ⟨h1, h2⟩ := srel_below S hB
  exact ⟨V, ρ, rfl, pure_rel _ hv0 hV, h1, h2⟩
end Go.Sx

namespace Go.Sx
open Go.RowKit (Below)

/-! ### The pieces, by closed Bools -/

def fullMask (m : Nat) : Nat → Bool
  | 0 => true
  | k + 1 => Nat.testBit m k && fullMask m k
theorem fullMask_ok {m : Nat} : ∀ {n : Nat}, fullMask m n = true → ∀ k, k < n → Nat.testBit m k = true
  | 0, _, k, hk => by omega
  | n + 1, h, k, hk => by
    simp only [fullMask, Bool.and_eq_true] at h
    by_cases q : k = n
    · rw [q]; exact h.1
    · exact fullMask_ok h.2 k (by omega)

/-- from here on each operation waits for all ahead of it -/
def cutAt (ms : List Nat) : Nat → Nat
  | 0 => 0
  | k + 1 => match fullMask (nthD ms k) k with
    | true => cutAt ms k
    | false => k + 1
theorem cutAt_ok {ms : List Nat} : ∀ {n : Nat}, cutAt ms n ≤ n ∧ ∀ i, cutAt ms n ≤ i → i < n → fullMask (nthD ms i) i = true
  | 0 => ⟨Nat.le_refl _, fun i _ hi => by omega⟩
  | n + 1 => by
    obtain ⟨h1, h2⟩ := cutAt_ok (ms := ms) (n := n)
    simp only [cutAt]
    cases hf : fullMask (nthD ms n) n with
    | true =>
      simp only []
      refine ⟨by omega, fun i hi hn => ?_⟩
      by_cases q : i = n
      · rw [q]; exact hf
      · exact h2 i hi (by omega)
    | false => exact ⟨Nat.le_refl _, fun i hi hn => by simp only [] at hi; omega⟩

def leavesB : Ex → Bool
  | .normal => true
  | .ret => true
  | _ => false
theorem leavesB_ok {ex : Ex} (h : leavesB ex = true) : ex = .normal ∨ ex = .ret := by
  cases ex <;> first | exact .inl rfl | exact .inr rfl | cases h

/-- one step: `b` says whether what is ahead is run at once or entered -/
noncomputable def micro (P : Program) (n : Nat) (L : List (Nat × List AV)) (b : Bool) (K : List Fr) (c : Cfg) : Option (List Fr × Cfg) :=
  match c with
  | .code c a h => match b with
    | true => match inR K && !noRange c with
     | true => none
     | false => match (codeS P c).f (runS P n) n a h with
      | .normal a' h' => match unwritten L h'.wr with
        | true => some (K, .fin .normal a' h'.fresh)
        | false => none
      | .exit id a' h' => match unwritten L h'.wr with
        | true => some (K, .fin (.exit id) a' h'.fresh)
        | false => none
      | .ret a' h' => match unwritten L h'.wr with
        | true => some (K, .fin .ret a' h'.fresh)
        | false => none
      | .goto l a' h' => match unwritten L h'.wr with
        | true => some (K, .fin (.goto l) a' h'.fresh)
        | false => none
      | .bad _ => none
    | false => match c with
      | .seq x y => some (.seq y :: K, .code x a h)
      | .block id x => some (.block id :: K, .code x a h)
      | .loop x => some (K, .head x a h)
      | .cond o x y => match evalA a o with
        | some (.bool true) => some (K, .code x a h)
        | some (.bool false) => some (K, .code y a h)
        | _ => none
      | .region _ ops false => some (K, .ops ops ops.toList a h)
      | .region _ ops true => match P.follows .mixedOrders, masksF ops.toList [] with
        | true, some ms => match (drawS P ops ms (ops.toList.take (cutAt ms ops.toList.length)) 0).f (runS P (n + 1) n) a a.n h.lim h.t h.t [] h.next with
          | .ok es base => match chkAll ms [] es && unwritten L (keysOf es ++ h.wr) with
            | true => some (K, .ops ops (ops.toList.drop (cutAt ms ops.toList.length)) (tmpsD (fun _ => true) es 0 a) { next := base, lim := h.lim, wr := [], t := heapT (fun _ => true) es 0 h.t })
            | false => none
          | .bad _ => none
        | _, _ => none
      | .rangeFunc f ps asg body => match inR K, evalA a f, Nat.blt h.next h.lim, unwritten L h.wr with
        | false, some (.fn (.func g) first cap), true, true => match nth P.funcs.toList g with
          | some fn => match fn.body with
            | some gb => some (.rng fn h.next a :: K, .code gb { n := (first ++ [AV.fn (.yield h.next) [] []] ++ cap).length + (fn.ntmps - (first ++ [AV.fn (.yield h.next) [] []] ++ cap).length), dflt := true, t := enterT 0 (first ++ [AV.fn (.yield h.next) [] []] ++ cap) .leaf } (h.push (.loop ps.toList asg body a none)).fresh)
            | none => none
          | none => none
        | _, _, _, _ => none
      | _ => none
  | .head x a h => some (.loop x :: K, .code x a h)
  | .ops _ [] a h => some (K, .fin .normal a h)
  | .ops ops (o :: rest) a h => match b with
    | true => match (regS P ops [o]).f (runS P (n + 1) n) a h with
      | .normal a' h' => match unwritten L h'.wr with
        | true => some (K, .ops ops rest a' h'.fresh)
        | false => none
      | _ => none
    | false => match wantedA ops o a, Nat.blt h.next h.lim, opA P h a o with
      | some true, true, some (.enter f args) => match nth P.funcs.toList f with
        | some fn => match fn.body with
          | some body => some (.call fn o.dst ops rest a :: K, .code body { n := args.length + (fn.ntmps - args.length), dflt := true, t := enterT 0 args .leaf } h)
          | none => none
        | none => none
      | some true, true, some (.round b args) => match h.get b with
        | some (.loop ps asg body ab none) => match Nat.beq args.length ps.length && noRange asg with
          | true => match (codeS P asg).f (runS P n) n (setParams ab ps args) h with
            | .normal a1 h1 => match h1.get b with
              | some (.loop ps1 asg1 body1 t1 none) => match unwritten L (b :: h1.wr) with
                | true => some (.round b o.dst ops rest a :: K, .code body a1 (h1.set b (.loop ps1 asg1 body1 t1 (some none))).fresh)
                | false => none
              | _ => none
            | _ => none
          | false => none
        | _ => none
      | _, _, _ => none
  | .fin ex a h => match K with
    | [] => none
    | .seq y :: K => match ex with
      | .normal => some (K, .code y a h)
      | ex => some (K, .fin ex a h)
    | .block id :: K => match ex with
      | .exit id' => match Nat.beq id' id with
        | true => some (K, .fin .normal a h)
        | false => some (K, .fin (.exit id') a h)
      | ex => some (K, .fin ex a h)
    | .loop x :: K => match ex with
      | .normal => some (K, .head x a h)
      | ex => some (K, .fin ex a h)
    | .call fn d ops rest a0 :: K => match ex with
      | .normal => match resultsA P fn h a with
        | some v => some (K, .ops ops rest (put a0 d v) h)
        | none => none
      | .ret => match resultsA P fn h a with
        | some v => some (K, .ops ops rest (put a0 d v) h)
        | none => none
      | _ => none
    | .round b d ops rest a0 :: K => match h.get b, unwritten L (b :: h.wr) with
      | some (.loop ps asg body t (some none)), true => match ex with
        | .normal => some (K, .ops ops rest (put a0 d (.bool true)) (h.set b (.loop ps asg body t none)).fresh)
        | ex => some (K, .ops ops rest (put a0 d (.bool false)) (h.set b (.loop ps asg body t (some (some ex)))).fresh)
      | _, _ => none
    | .rng fn b a0 :: K => match leavesB ex, resultsA P fn h a, unwritten L (b :: h.wr) with
      | true, some _, true => match h.get b with
        | some (.loop _ _ _ _ none) => some (K, .fin .normal a0 (h.set b .dead).fresh)
        | some (.loop _ _ _ _ (some (some ex'))) => some (K, .fin ex' a0 (h.set b .dead).fresh)
        | _ => none
      | _, _, _ => none

theorem micro_ok {P : Program} {n : Nat} {fnTop : Func} {L : List (Nat × List AV)} {v0 : AV} {b : Bool} {K K' : List Fr} {c c' : Cfg} (hm : micro P n L b K c = some (K', c')) (k : Run P fnTop L v0 K' c') : Run P fnTop L v0 K c := by
  have hc : ∀ t args h, runS P (n + 1) n t args h = RV.ofR (tgtF P (codeN P n) t args h) := runS_eq P (n + 1) n (Nat.lt_succ_self n)
  unfold micro at hm
  split at hm
  · rename_i c a h
    split at hm
    · split at hm
      · cases hm
      rename_i hnr
      have hnr' : inR K = false ∨ noRange c = true := by
        cases h1 : inR K with
        | false => exact .inl rfl
        | true => rw [h1] at hnr; right; simpa using hnr
      rw [codeS_eq n (selfS_run P n)] at hm
      cases hr : codeN P n c a h with
      | bad s => rw [hr] at hm; cases hm
      | ok x =>
        obtain ⟨ex, a', h'⟩ := x
        rw [hr] at hm
        have key : ∀ {ex : Ex}, codeN P n c a h = .ok (ex, a', h') → (match unwritten L h'.wr with | true => some (K, Cfg.fin ex a' h'.fresh) | false => none) = some (K', c') → Run P fnTop L v0 K (.code c a h) := by
          intro ex hr hq
          split at hq
          · rename_i hu
            simp only [Option.some.injEq, Prod.mk.injEq] at hq; obtain ⟨rfl, rfl⟩ := hq
            exact .exec hnr' hr hu k
          · cases hq
        cases ex <;> exact key hr hm
    · split at hm
      · simp only [Option.some.injEq, Prod.mk.injEq] at hm; obtain ⟨rfl, rfl⟩ := hm; exact .seq k
      · simp only [Option.some.injEq, Prod.mk.injEq] at hm; obtain ⟨rfl, rfl⟩ := hm; exact .block k
      · simp only [Option.some.injEq, Prod.mk.injEq] at hm; obtain ⟨rfl, rfl⟩ := hm; exact .loop k
      · split at hm
        · rename_i he
          simp only [Option.some.injEq, Prod.mk.injEq] at hm; obtain ⟨rfl, rfl⟩ := hm; exact .condT he k
        · rename_i he
          simp only [Option.some.injEq, Prod.mk.injEq] at hm; obtain ⟨rfl, rfl⟩ := hm; exact .condF he k
        · cases hm
      · simp only [Option.some.injEq, Prod.mk.injEq] at hm; obtain ⟨rfl, rfl⟩ := hm; exact .region k
      · rename_i ops
        split at hm
        · rename_i ms hmx hms
          have hq := drawS_eq hc ops ms a h (ops.toList.take (cutAt ms ops.toList.length)) 0 ms [] h.next rfl rfl
          simp only [heapT] at hq
          rw [hq] at hm
          cases hd : drawF P (codeN P n) ops ms a h (ops.toList.take (cutAt ms ops.toList.length)) [] h.next with
          | bad s => rw [hd] at hm; cases hm
          | ok x =>
            obtain ⟨es, base⟩ := x
            rw [hd] at hm
            simp only [RD.ofR] at hm
            split at hm
            · rename_i hb
              simp only [Bool.and_eq_true] at hb
              simp only [Option.some.injEq, Prod.mk.injEq] at hm; obtain ⟨rfl, rfl⟩ := hm
              obtain ⟨c1, c2⟩ := cutAt_ok (ms := ms) (n := ops.toList.length)
              refine .drawn (List.take_append_drop _ _).symm hmx hms hd hb.1 (fun i o hi ho => fullMask_ok (c2 i ?_ (getElem?_lt ho))) hb.2 k
              rw [List.length_take] at hi; omega
            · cases hm
        · cases hm
      · split at hm
        · rename_i g first cap hin he hl hu
          split at hm
          · rename_i fn hf
            rw [nth_eq] at hf
            split at hm
            · rename_i gb hb
              simp only [Option.some.injEq, Prod.mk.injEq] at hm; obtain ⟨rfl, rfl⟩ := hm
              exact .range hin he (Nat.le_of_ble_eq_true hl) (by simpa using hf) hb hu k
            · cases hm
          · cases hm
        · cases hm
      · cases hm
  · simp only [Option.some.injEq, Prod.mk.injEq] at hm; obtain ⟨rfl, rfl⟩ := hm; exact .head k
  · simp only [Option.some.injEq, Prod.mk.injEq] at hm; obtain ⟨rfl, rfl⟩ := hm; exact .opsEnd k
  · rename_i ops o rest a h
    split at hm
    · rw [regS_eq hc] at hm
      simp only [opsF] at hm
      cases ho : oneA P (codeN P n) ops o a h with
      | bad s => rw [ho] at hm; cases hm
      | ok x =>
        obtain ⟨v, h'⟩ := x
        rw [ho] at hm
        simp only [RC.ofT] at hm
        split at hm
        · rename_i hu
          simp only [Option.some.injEq, Prod.mk.injEq] at hm; obtain ⟨rfl, rfl⟩ := hm
          exact .one ho hu k
        · cases hm
    · split at hm
      · rename_i f args hw hl ho
        split at hm
        · rename_i fn hf
          rw [nth_eq] at hf
          split at hm
          · rename_i body hb
            simp only [Option.some.injEq, Prod.mk.injEq] at hm; obtain ⟨rfl, rfl⟩ := hm
            exact .enter hw (Nat.le_of_ble_eq_true hl) ho (by simpa using hf) hb k
          · cases hm
        · cases hm
      · rename_i b args hw hl ho
        split at hm
        · rename_i ps asg body ab hb
          split at hm
          · rename_i hcond
            simp only [Bool.and_eq_true] at hcond
            rw [codeS_eq n (selfS_run P n)] at hm
            cases hr : codeN P n asg (setParams ab ps args) h with
            | bad s => rw [hr] at hm; cases hm
            | ok x =>
              obtain ⟨ex, a1, h1⟩ := x
              rw [hr] at hm
              cases ex <;> try (cases hm; done)
              simp only [RC.ofR] at hm
              split at hm
              · rename_i ps1 asg1 body1 t1 hb1
                split at hm
                · rename_i hu
                  simp only [Option.some.injEq, Prod.mk.injEq] at hm; obtain ⟨rfl, rfl⟩ := hm
                  exact .round hw (Nat.le_of_ble_eq_true hl) ho hb (Nat.eq_of_beq_eq_true hcond.1) hcond.2 hr hb1 hu k
                · cases hm
              · cases hm
          · cases hm
        · cases hm
      · cases hm
  · rename_i ex a h
    split at hm
    · cases hm
    · split at hm
      · simp only [Option.some.injEq, Prod.mk.injEq] at hm; obtain ⟨rfl, rfl⟩ := hm; exact .finSeq k
      · rename_i hx
        simp only [Option.some.injEq, Prod.mk.injEq] at hm; obtain ⟨rfl, rfl⟩ := hm; exact .finSeqX (fun q => hx q) k
    · split at hm
      · rename_i id id'
        split at hm
        · rename_i hq
          have := Nat.eq_of_beq_eq_true hq; subst this
          simp only [Option.some.injEq, Prod.mk.injEq] at hm; obtain ⟨rfl, rfl⟩ := hm; exact .finBlock k
        · rename_i hq
          simp only [Option.some.injEq, Prod.mk.injEq] at hm; obtain ⟨rfl, rfl⟩ := hm
          exact .finBlockX (fun q => by injection q with q; subst q; simp at hq) k
      · rename_i hx
        simp only [Option.some.injEq, Prod.mk.injEq] at hm; obtain ⟨rfl, rfl⟩ := hm; exact .finBlockX (fun q => hx _ q) k
    · split at hm
      · simp only [Option.some.injEq, Prod.mk.injEq] at hm; obtain ⟨rfl, rfl⟩ := hm; exact .finLoop k
      · rename_i hx
        simp only [Option.some.injEq, Prod.mk.injEq] at hm; obtain ⟨rfl, rfl⟩ := hm; exact .finLoopX (fun q => hx q) k
    · split at hm
      · split at hm
        · rename_i hv
          simp only [Option.some.injEq, Prod.mk.injEq] at hm; obtain ⟨rfl, rfl⟩ := hm; exact .finCall (.inl rfl) hv k
        · cases hm
      · split at hm
        · rename_i hv
          simp only [Option.some.injEq, Prod.mk.injEq] at hm; obtain ⟨rfl, rfl⟩ := hm; exact .finCall (.inr rfl) hv k
        · cases hm
      · cases hm
    · split at hm
      · rename_i ps asg body t hb hu
        split at hm
        · simp only [Option.some.injEq, Prod.mk.injEq] at hm; obtain ⟨rfl, rfl⟩ := hm; exact .finRoundN hb hu k
        · rename_i hx
          simp only [Option.some.injEq, Prod.mk.injEq] at hm; obtain ⟨rfl, rfl⟩ := hm; exact .finRoundX (fun q => hx q) hb hu k
      · cases hm
    · split at hm
      · rename_i hx hv hu
        split at hm
        · rename_i hb
          simp only [Option.some.injEq, Prod.mk.injEq] at hm; obtain ⟨rfl, rfl⟩ := hm; exact .finRngN (leavesB_ok hx) hv hb hu k
        · rename_i hb
          simp only [Option.some.injEq, Prod.mk.injEq] at hm; obtain ⟨rfl, rfl⟩ := hm; exact .finRngX (leavesB_ok hx) hv hb hu k
        · cases hm
      · cases hm

/-- steps in a row -/
noncomputable def go (P : Program) (n : Nat) (L : List (Nat × List AV)) (bs : List Bool) : List Fr → Cfg → Option (List Fr × Cfg) :=
  @List.rec Bool (fun _ => List Fr → Cfg → Option (List Fr × Cfg)) (fun K c => some (K, c))
    (fun b _ ih K c => @Option.rec (List Fr × Cfg) (fun _ => Option (List Fr × Cfg)) none (fun x => @Prod.rec (List Fr) Cfg (fun _ => Option (List Fr × Cfg)) (fun K' c' => ih K' c') x) (micro P n L b K c)) bs

theorem go_ok {P : Program} {n : Nat} {fnTop : Func} {L : List (Nat × List AV)} {v0 : AV} : ∀ (bs : List Bool) {K K' : List Fr} {c c' : Cfg}, go P n L bs K c = some (K', c') → Run P fnTop L v0 K' c' → Run P fnTop L v0 K c
  | [], K, K', c, c', hg, k => by
    have hg : some (K, c) = some (K', c') := hg
    simp only [Option.some.injEq, Prod.mk.injEq] at hg; obtain ⟨rfl, rfl⟩ := hg; exact k
  | b :: bs, K, K', c, c', hg, k => by
    have hg : @Option.rec (List Fr × Cfg) (fun _ => Option (List Fr × Cfg)) none (fun x => @Prod.rec (List Fr) Cfg (fun _ => Option (List Fr × Cfg)) (fun K' c' => go P n L bs K' c') x) (micro P n L b K c) = some (K', c') := hg
    cases hm : micro P n L b K c with
    | none => rw [hm] at hg; cases hg
    | some x =>
      obtain ⟨K1, c1⟩ := x
      rw [hm] at hg
      exact micro_ok hm (go_ok bs hg k)

/-- a script: so many steps that run, one that enters, so many that run .. -/
def script : List Nat → List Bool
  | [] => []
  | [k] => List.replicate k true
  | k :: ks => List.replicate k true ++ false :: script ks

/-! what is written down of a point: the slots of the frames, the blocks -/
structure Pt where
  /-- the frame's own, then its callers' -/
  frs : List (Nat × List (Nat × AV))
  /-- the frames of the ranges under way -/
  lps : List (Nat × List (Nat × AV))
  next : Nat
  blks : List (Nat × Blk)

/-- a stack without what its slots hold -/
inductive FC where
  | seq (y : Code)
  | block (id : Nat)
  | loop (x : Code)
  | call (fn : Func) (d : Option Nat) (ops : Array Oper) (rest : List Oper)
  | rng (fn : Func) (b : Nat) (ps : List Nat) (asg body : Code) (busy : Bool)
  | round (b : Nat) (d : Option Nat) (ops : Array Oper) (rest : List Oper)
inductive CC where
  | code (c : Code)
  | head (x : Code)
  | ops (ops : Array Oper) (rest : List Oper)

def tmpsOf (x : Nat × List (Nat × AV)) : Tmps := { n := x.1, dflt := false, t := slotsT x.2 }
def mkK : List FC → List (Nat × List (Nat × AV)) → List Fr
  | .seq y :: K, fs => .seq y :: mkK K fs
  | .block id :: K, fs => .block id :: mkK K fs
  | .loop x :: K, fs => .loop x :: mkK K fs
  | .call fn d ops rest :: K, f :: fs => .call fn d ops rest (tmpsOf f) :: mkK K fs
  | .rng fn b _ _ _ _ :: K, f :: fs => .rng fn b (tmpsOf f) :: mkK K fs
  | .round b d ops rest :: K, f :: fs => .round b d ops rest (tmpsOf f) :: mkK K fs
  | _, _ => []
def bst : Bool → Option (Option Ex)
  | true => some none
  | false => none
def loopsT : List FC → List (Nat × List (Nat × AV)) → T Blk → T Blk
  | .rng _ b ps asg body busy :: K, f :: fs, t => (loopsT K fs t).put (b + 1) b (.loop ps asg body (tmpsOf f) (bst busy))
  | .round .. :: K, fs, t => loopsT K fs t
  | .rng .. :: _, [], t => t
  | .seq _ :: K, fs, t => loopsT K fs t
  | .block _ :: K, fs, t => loopsT K fs t
  | .loop _ :: K, fs, t => loopsT K fs t
  | .call .. :: K, fs, t => loopsT K fs t
  | [], _, t => t
def ptH (L : List (Nat × List AV)) (p : Pt) (k : List FC) : Heap := { next := p.next, lim := 1048576, wr := [], t := loopsT k p.lps (blksT (laidTree L) p.blks) }
def mkC (L : List (Nat × List AV)) (p : Pt) (k : List FC) : CC → Cfg
  | .code c => .code c (tmpsOf (p.frs.headD (0, []))) (ptH L p k)
  | .head x => .head x (tmpsOf (p.frs.headD (0, []))) (ptH L p k)
  | .ops ops rest => .ops ops rest (tmpsOf (p.frs.headD (0, []))) (ptH L p k)

noncomputable def frB (a : Tmps) (x : Nat × List (Nat × AV)) : Bool := Nat.beq x.1 a.n && slotsB a x.2
/-- the stack's codes, if its slots hold what is written down -/
noncomputable def skK (h : Heap) : List Fr → List (Nat × List (Nat × AV)) → List (Nat × List (Nat × AV)) → Option (List FC)
  | [], [], [] => some []
  | .seq y :: K, fs, ls => (skK h K fs ls).map (.seq y :: ·)
  | .block id :: K, fs, ls => (skK h K fs ls).map (.block id :: ·)
  | .loop x :: K, fs, ls => (skK h K fs ls).map (.loop x :: ·)
  | .call fn d ops rest a :: K, f :: fs, ls => match frB a f with
    | true => (skK h K fs ls).map (.call fn d ops rest :: ·)
    | false => none
  | .rng fn b a :: K, f :: fs, l :: ls => match frB a f, Nat.blt b 1048576, h.t.get b with
    | true, true, some (.loop ps asg body t none) => match frB t l with
      | true => (skK h K fs ls).map (.rng fn b ps asg body false :: ·)
      | false => none
    | true, true, some (.loop ps asg body t (some none)) => match frB t l with
      | true => (skK h K fs ls).map (.rng fn b ps asg body true :: ·)
      | false => none
    | _, _, _ => none
  | .round b d ops rest a :: K, f :: fs, ls => match frB a f with
    | true => (skK h K fs ls).map (.round b d ops rest :: ·)
    | false => none
  | _, _, _ => none
noncomputable def heapB (L : List (Nat × List AV)) (p : Pt) (h : Heap) : Bool := Nat.beq p.next h.next && Nat.beq h.lim 1048576 && blksB h p.blks && laidB h L
noncomputable def skC (L : List (Nat × List AV)) (p : Pt) : Cfg → Option CC
  | .code c a h => match frB a (p.frs.headD (0, [])) && heapB L p h with
    | true => some (.code c)
    | false => none
  | .head x a h => match frB a (p.frs.headD (0, [])) && heapB L p h with
    | true => some (.head x)
    | false => none
  | .ops ops rest a h => match frB a (p.frs.headD (0, [])) && heapB L p h with
    | true => some (.ops ops rest)
    | false => none
  | .fin .. => none
noncomputable def skel (L : List (Nat × List AV)) (p : Pt) (r : Option (List Fr × Cfg)) : Option (List FC × CC) := match r with
  | some (K, c) => match skK c.h K p.frs.tail p.lps, skC L p c with
    | some k, some d => some (k, d)
    | _, _ => none
  | none => none

theorem frB_ok {a : Tmps} {x : Nat × List (Nat × AV)} (h : frB a x = true) : TSub (tmpsOf x) a := by
  simp only [frB, Bool.and_eq_true] at h
  refine ⟨Nat.eq_of_beq_eq_true h.1, fun t v hv => slotsB_ok h.2 t v ?_⟩
  simp only [Tmps.get, tmpsOf] at hv
  cases hq : (slotsT x.2).get t with
  | none => rw [hq] at hv; cases hv
  | some u => rw [hq] at hv; exact hv

theorem loops_ok {h : Heap} {t0 : T Blk} (h0 : ∀ b c, t0.get b = some c → ∃ d, h.t.get b = some d ∧ BSub c d) : ∀ {K : List Fr} {fs ls : List (Nat × List (Nat × AV))} {k : List FC}, skK h K fs ls = some k →
    (∀ b c, (loopsT k ls t0).get b = some c → ∃ d, h.t.get b = some d ∧ BSub c d) ∧ ∀ b, 1048576 ≤ b → (loopsT k ls t0).get b = t0.get b
  | [], [], [], k, hk => by simp only [skK, Option.some.injEq] at hk; subst hk; exact ⟨h0, fun _ _ => rfl⟩
  | [], [], _ :: _, k, hk => by simp [skK] at hk
  | [], _ :: _, _, k, hk => by simp [skK] at hk
  | .seq y :: K, fs, ls, k, hk => by
    simp only [skK, Option.map_eq_some_iff] at hk; obtain ⟨k', h1, rfl⟩ := hk
    simp only [loopsT]; exact loops_ok h0 h1
  | .block y :: K, fs, ls, k, hk => by
    simp only [skK, Option.map_eq_some_iff] at hk; obtain ⟨k', h1, rfl⟩ := hk
    simp only [loopsT]; exact loops_ok h0 h1
  | .loop y :: K, fs, ls, k, hk => by
    simp only [skK, Option.map_eq_some_iff] at hk; obtain ⟨k', h1, rfl⟩ := hk
    simp only [loopsT]; exact loops_ok h0 h1
  | .call fn d ops rest a :: K, [], ls, k, hk => by simp [skK] at hk
  | .call fn d ops rest a :: K, f :: fs, ls, k, hk => by
    simp only [skK] at hk
    split at hk
    · simp only [Option.map_eq_some_iff] at hk; obtain ⟨k', h1, rfl⟩ := hk
      simp only [loopsT]; exact loops_ok h0 h1
    · cases hk
  | .rng fn b a :: K, [], ls, k, hk => by simp [skK] at hk
  | .rng fn b a :: K, f :: fs, [], k, hk => by simp [skK] at hk
  | .rng fn b a :: K, f :: fs, l :: ls, k, hk => by
    simp only [skK] at hk
    split at hk
    · rename_i ps asg body t h1 hlt hg
      split at hk
      · rename_i hl
        simp only [Option.map_eq_some_iff] at hk; obtain ⟨k', h2, rfl⟩ := hk
        obtain ⟨i1, i2⟩ := loops_ok h0 h2
        have hlt : b < 1048576 := Nat.le_of_ble_eq_true hlt
        simp only [loopsT]
        refine ⟨fun b' c hc => ?_, fun b' hb' => ?_⟩
        · rw [T.get_put _ _ _ _ _ (Nat.lt_succ_self _)] at hc
          by_cases q : b' = b
          · rw [if_pos q, Option.some.injEq] at hc; subst hc; subst q
            exact ⟨_, hg, .loop (frB_ok hl)⟩
          · rw [if_neg q] at hc; exact i1 b' c hc
        · rw [T.get_put _ _ _ _ _ (Nat.lt_succ_self _), if_neg (by omega)]; exact i2 b' hb'
      · cases hk
    · rename_i ps asg body t h1 hlt hg
      split at hk
      · rename_i hl
        simp only [Option.map_eq_some_iff] at hk; obtain ⟨k', h2, rfl⟩ := hk
        obtain ⟨i1, i2⟩ := loops_ok h0 h2
        have hlt : b < 1048576 := Nat.le_of_ble_eq_true hlt
        simp only [loopsT]
        refine ⟨fun b' c hc => ?_, fun b' hb' => ?_⟩
        · rw [T.get_put _ _ _ _ _ (Nat.lt_succ_self _)] at hc
          by_cases q : b' = b
          · rw [if_pos q, Option.some.injEq] at hc; subst hc; subst q
            exact ⟨_, hg, .loop (frB_ok hl)⟩
          · rw [if_neg q] at hc; exact i1 b' c hc
        · rw [T.get_put _ _ _ _ _ (Nat.lt_succ_self _), if_neg (by omega)]; exact i2 b' hb'
      · cases hk
    · cases hk
  | .round b d ops rest a :: K, [], ls, k, hk => by simp [skK] at hk
  | .round b d ops rest a :: K, f :: fs, ls, k, hk => by
    simp only [skK] at hk
    split at hk
    · simp only [Option.map_eq_some_iff] at hk; obtain ⟨k', h1, rfl⟩ := hk
      simp only [loopsT]; exact loops_ok h0 h1
    · cases hk

theorem heapB_ok {L : List (Nat × List AV)} {p : Pt} {h : Heap} {K : List Fr} {fs : List (Nat × List (Nat × AV))} {k : List FC} (hh : heapB L p h = true) (hk : skK h K fs p.lps = some k) :
    HSub (ptH L p k) h ∧ ∀ g x, assocL L g = some x → (ptH L p k).t.get (1048576 + g) = some (.cells 0 x false) := by
  simp only [heapB, Bool.and_eq_true] at hh
  obtain ⟨⟨⟨h1, h2⟩, h3⟩, h4⟩ := hh
  have laid : ∀ b c, (laidTree L).get b = some c → h.t.get b = some c := by
    intro b c hb
    rw [laidTree_get] at hb
    by_cases q : 1048576 ≤ b
    · rw [if_pos q] at hb
      cases ha : assocL L (b - 1048576) with
      | none => rw [ha] at hb; cases hb
      | some cs =>
        rw [ha] at hb; simp only [Option.map_some, Option.some.injEq] at hb; subst hb
        have := laidB_ok h4 _ _ ha
        rwa [show 1048576 + (b - 1048576) = b by omega] at this
    · rw [if_neg q] at hb; cases hb
  obtain ⟨i1, i2⟩ := loops_ok (t0 := blksT (laidTree L) p.blks) (fun b c hc => ⟨c, blksB_ok laid h3 b c hc, .refl c⟩) hk
  refine ⟨⟨Nat.eq_of_beq_eq_true h1, (Nat.eq_of_beq_eq_true h2).symm, i1⟩, fun g c hg => ?_⟩
  show (loopsT k p.lps (blksT (laidTree L) p.blks)).get (1048576 + g) = _
  rw [i2 _ (Nat.le_add_right _ _), blks_above (Nat.le_add_right _ _) h3, laidTree_get, if_pos (Nat.le_add_right _ _), show 1048576 + g - 1048576 = g by omega, hg]; rfl

theorem skK_ok {hp : Heap} : ∀ {K : List Fr} {fs ls : List (Nat × List (Nat × AV))} {k : List FC}, skK hp K fs ls = some k → KSub (mkK k fs) K
  | [], [], [], k, h => by simp only [skK, Option.some.injEq] at h; subst h; exact .nil
  | [], [], _ :: _, k, h => by simp [skK] at h
  | [], _ :: _, _, k, h => by simp [skK] at h
  | .seq y :: K, fs, ls, k, h => by
    simp only [skK, Option.map_eq_some_iff] at h; obtain ⟨k', h1, rfl⟩ := h
    simp only [mkK]; exact .seq (skK_ok h1)
  | .block y :: K, fs, ls, k, h => by
    simp only [skK, Option.map_eq_some_iff] at h; obtain ⟨k', h1, rfl⟩ := h
    simp only [mkK]; exact .block (skK_ok h1)
  | .loop y :: K, fs, ls, k, h => by
    simp only [skK, Option.map_eq_some_iff] at h; obtain ⟨k', h1, rfl⟩ := h
    simp only [mkK]; exact .loop (skK_ok h1)
  | .call fn d ops rest a :: K, [], ls, k, h => by simp [skK] at h
  | .call fn d ops rest a :: K, f :: fs, ls, k, h => by
    simp only [skK] at h
    split at h
    · rename_i hf
      simp only [Option.map_eq_some_iff] at h; obtain ⟨k', h1, rfl⟩ := h
      simp only [mkK]; exact .call (frB_ok hf) (skK_ok h1)
    · cases h
  | .rng fn b a :: K, [], ls, k, h => by simp [skK] at h
  | .rng fn b a :: K, f :: fs, [], k, h => by simp [skK] at h
  | .rng fn b a :: K, f :: fs, l :: ls, k, h => by
    simp only [skK] at h
    split at h
    · rename_i ps asg body t hf hlt hg
      split at h
      · simp only [Option.map_eq_some_iff] at h; obtain ⟨k', h1, rfl⟩ := h
        simp only [mkK]; exact .rng (frB_ok hf) (skK_ok h1)
      · cases h
    · rename_i ps asg body t hf hlt hg
      split at h
      · simp only [Option.map_eq_some_iff] at h; obtain ⟨k', h1, rfl⟩ := h
        simp only [mkK]; exact .rng (frB_ok hf) (skK_ok h1)
      · cases h
    · cases h
  | .round b d ops rest a :: K, [], ls, k, h => by simp [skK] at h
  | .round b d ops rest a :: K, f :: fs, ls, k, h => by
    simp only [skK] at h
    split at h
    · rename_i hf
      simp only [Option.map_eq_some_iff] at h; obtain ⟨k', h1, rfl⟩ := h
      simp only [mkK]; exact .round (frB_ok hf) (skK_ok h1)
    · cases h

/-- one piece: it comes to the point that is written down -/
theorem run_piece {P : Program} {n : Nat} {fnTop : Func} {L : List (Nat × List AV)} {v0 : AV} {bs : List Bool} {K : List Fr} {c : Cfg} {p : Pt} {s : List FC × CC} (hg : skel L p (go P n L bs K c) = some s)
    (k : Run P fnTop L v0 (mkK s.1 p.frs.tail) (mkC L p s.1 s.2)) : Run P fnTop L v0 K c := by
  cases hr : go P n L bs K c with
  | none => rw [hr] at hg; cases hg
  | some x =>
    obtain ⟨K', c'⟩ := x
    rw [hr] at hg
    refine go_ok bs hr ?_
    simp only [skel] at hg
    split at hg
    · rename_i k' d h1 h2
      simp only [Option.some.injEq] at hg; subst hg
      have hk := skK_ok h1
      unfold skC at h2
      split at h2
      · split at h2
        · rename_i hb
          simp only [Option.some.injEq] at h2; subst h2
          simp only [Bool.and_eq_true] at hb
          obtain ⟨q1, q2⟩ := heapB_ok hb.2 h1
          exact .weak hk (.code (frB_ok hb.1) q1) q2 k
        · cases h2
      · split at h2
        · rename_i hb
          simp only [Option.some.injEq] at h2; subst h2
          simp only [Bool.and_eq_true] at hb
          obtain ⟨q1, q2⟩ := heapB_ok hb.2 h1
          exact .weak hk (.head (frB_ok hb.1) q1) q2 k
        · cases h2
      · split at h2
        · rename_i hb
          simp only [Option.some.injEq] at h2; subst h2
          simp only [Bool.and_eq_true] at hb
          obtain ⟨q1, q2⟩ := heapB_ok hb.2 h1
          exact .weak hk (.ops (frB_ok hb.1) q1) q2 k
        · cases h2
      · cases h2
    · cases hg

/-- the last piece -/
noncomputable def endB (P : Program) (fnTop : Func) (r : Option (List Fr × Cfg)) : Bool := match r with
  | some ([], .fin .normal a h) => match resultsA P fnTop h a with
    | some (.bool b) => b
    | _ => false
  | some ([], .fin .ret a h) => match resultsA P fnTop h a with
    | some (.bool b) => b
    | _ => false
  | _ => false

theorem run_end {P : Program} {n : Nat} {fnTop : Func} {L : List (Nat × List AV)} {bs : List Bool} {K : List Fr} {c : Cfg} (hg : endB P fnTop (go P n L bs K c) = true) : Run P fnTop L (.bool true) K c := by
  cases hr : go P n L bs K c with
  | none => rw [hr] at hg; cases hg
  | some x =>
    obtain ⟨K', c'⟩ := x
    rw [hr] at hg
    refine go_ok bs hr ?_
    unfold endB at hg
    split at hg
    · rename_i a h hq
      simp only [Option.some.injEq, Prod.mk.injEq] at hq; obtain ⟨rfl, rfl⟩ := hq
      split at hg
      · rename_i b hv; subst hg; exact .top (.inl rfl) hv
      · cases hg
    · rename_i a h hq
      simp only [Option.some.injEq, Prod.mk.injEq] at hq; obtain ⟨rfl, rfl⟩ := hq
      split at hg
      · rename_i b hv; subst hg; exact .top (.inr rfl) hv
      · cases hg
    · cases hg

/-! short names for what is written down -/
def zt : AV := .bool true
def zf : AV := .bool false
def zi (n : Nat) : AV := .int .i64 (.ofNat n)
def zn (n : Nat) : AV := .int .i64 (.negSucc n)
def zu (n : Nat) : AV := .int .u8 (.ofNat n)

/-! where a point is: for each function on the way its number and the way through its code -/
inductive Dir where
  | l | r | i | h
  | op (k : Nat)
  | rg (b : Nat) (busy : Bool)
/-- what a way ends at -/
inductive WE where
  | at (d : CC)
  | range (b : Nat) (busy : Bool) (ps : List Nat) (asg body : Code)
noncomputable def walk : Code → List Dir → List FC → Option (List FC × WE)
  | c, [], K => some (K, .at (.code c))
  | .seq x y, .l :: p, K => walk x p (.seq y :: K)
  | .seq _ y, .r :: p, K => walk y p K
  | .block id x, .i :: p, K => walk x p (.block id :: K)
  | .loop x, .i :: p, K => walk x p (.loop x :: K)
  | .loop x, [.h], K => some (K, .at (.head x))
  | .rangeFunc _ ps asg body, [.rg b busy], K => some (K, .range b busy ps.toList asg body)
  | .cond _ x _, .l :: p, K => walk x p K
  | .cond _ _ y, .r :: p, K => walk y p K
  | .region _ ops _, [.op k], K => some (K, .at (.ops ops (dropR k ops.toList)))
  | _, _, _ => none
noncomputable def findAt : Code → List Dir → Option Code
  | c, [] => some c
  | .seq x _, .l :: p => findAt x p
  | .seq _ y, .r :: p => findAt y p
  | .block _ x, .i :: p => findAt x p
  | .loop x, .i :: p => findAt x p
  | .cond _ x _, .l :: p => findAt x p
  | .cond _ _ y, .r :: p => findAt y p
  | .rangeFunc _ _ _ body, .i :: p => findAt body p
  | _, _ => none
/-- a frame on the way: a function's, or a round's, of the loop whose body lies there in that function -/
inductive Lv where
  | fn (f : Nat) (p : List Dir)
  | round (f : Nat) (q p : List Dir) (b : Nat)
noncomputable def bodyAt (P : Program) (f : Nat) : Option Code := match nth P.funcs.toList f with
  | some fn => fn.body
  | none => none
noncomputable def codeAt (P : Program) : Lv → Option (Code × List Dir)
  | .fn f p => match bodyAt P f with
    | some c => some (c, p)
    | none => none
  | .round f q p _ => match bodyAt P f with
    | some c => match findAt c q with
      | some x => some (x, p)
      | none => none
    | none => none
noncomputable def skelAt (P : Program) : List Lv → List FC → Option (List FC × CC)
  | [], _ => none
  | v :: ls, K => match codeAt P v with
    | some (c, p) => match walk c p K with
      | some (K', d) => match ls with
        | [] => match d with
          | .at d => some (K', d)
          | _ => none
        | v2 :: _ => match d, v2 with
          | .at (.ops ops (o :: rest)), .fn g _ => match nth P.funcs.toList g with
            | some gn => skelAt P ls (.call gn o.dst ops rest :: K')
            | none => none
          | .at (.ops ops (o :: rest)), .round _ _ _ b => skelAt P ls (.round b o.dst ops rest :: K')
          | .range b busy ps asg body, .fn g _ => match nth P.funcs.toList g with
            | some gn => skelAt P ls (.rng gn b ps asg body busy :: K')
            | none => none
          | _, _ => none
      | none => none
    | none => none

end Go.Sx

namespace Go.Sx
open Go.RowKit (Below)

/-! ### Pieces whose states hold unknown numbers: the plain executor runs them, and what is written down is compared as terms -/

/-- one step: 0 enters, 1 runs by the fast executor, 2 by the plain one -/
noncomputable def stepK (P : Program) (n : Nat) (L : List (Nat × List AV)) (b : Nat) (K : List Fr) (c : Cfg) : Option (List Fr × Cfg) :=
  match b with
  | 0 => micro P n L false K c
  | 1 => micro P n L true K c
  | _ => match c with
    | .code cd a h => match inR K && !noRange cd with
      | true => none
      | false => match codeN P n cd a h with
        | .ok (ex, a', h') => match unwritten L h'.wr with
          | true => some (K, .fin ex a' h'.fresh)
          | false => none
        | .bad _ => none
    | .ops ops (o :: rest) a h => match oneA P (codeN P n) ops o a h with
      | .ok (v, h') => match unwritten L h'.wr with
        | true => some (K, .ops ops rest (put a o.dst v) h'.fresh)
        | false => none
      | .bad _ => none
    | c => micro P n L true K c

theorem stepK_ok {P : Program} {n : Nat} {fnTop : Func} {L : List (Nat × List AV)} {v0 : AV} {b : Nat} {K K' : List Fr} {c c' : Cfg} (hm : stepK P n L b K c = some (K', c')) (k : Run P fnTop L v0 K' c') : Run P fnTop L v0 K c := by
  unfold stepK at hm
  split at hm
  · exact micro_ok hm k
  · exact micro_ok hm k
  · split at hm
    · rename_i cd a h
      split at hm
      · cases hm
      · rename_i hnr
        have hnr' : inR K = false ∨ noRange cd = true := by
          cases h1 : inR K with
          | false => exact .inl rfl
          | true => rw [h1] at hnr; right; simpa using hnr
        split at hm
        · rename_i ex a' h' hr
          split at hm
          · rename_i hu
            simp only [Option.some.injEq, Prod.mk.injEq] at hm; obtain ⟨rfl, rfl⟩ := hm
            exact .exec hnr' hr hu k
          · cases hm
        · cases hm
    · rename_i ops o rest a h
      split at hm
      · rename_i v h' ho
        split at hm
        · rename_i hu
          simp only [Option.some.injEq, Prod.mk.injEq] at hm; obtain ⟨rfl, rfl⟩ := hm
          exact .one ho hu k
        · cases hm
      · cases hm
    · exact micro_ok hm k

noncomputable def goK (P : Program) (n : Nat) (L : List (Nat × List AV)) : List Nat → List Fr → Cfg → Option (List Fr × Cfg)
  | [], K, c => some (K, c)
  | b :: bs, K, c => match stepK P n L b K c with
    | some (K', c') => goK P n L bs K' c'
    | none => none

theorem goK_ok {P : Program} {n : Nat} {fnTop : Func} {L : List (Nat × List AV)} {v0 : AV} : ∀ {bs : List Nat} {K K' : List Fr} {c c' : Cfg}, goK P n L bs K c = some (K', c') → Run P fnTop L v0 K' c' → Run P fnTop L v0 K c
  | [], K, K', c, c', hg, k => by
    simp only [goK, Option.some.injEq, Prod.mk.injEq] at hg; obtain ⟨rfl, rfl⟩ := hg; exact k
  | b :: bs, K, K', c, c', hg, k => by
    simp only [goK] at hg
    split at hg
    · rename_i K1 c1 hm; exact stepK_ok hm (goK_ok hg k)
    · cases hg

/-! what is read off a state, slot by slot and block by block -/
structure Ix where
  frs : List (List Nat)
  blks : List Nat

def getAll (a : Tmps) : List Nat → Option (List (Nat × AV))
  | [] => some []
  | t :: ts => match a.get t with
    | some v => match getAll a ts with
      | some r => some ((t, v) :: r)
      | none => none
    | none => none
theorem getAll_ok {a : Tmps} : ∀ {ts : List Nat} {l : List (Nat × AV)}, getAll a ts = some l → ∀ t v, (slotsT l).get t = some v → a.get t = some v
  | [], l, h, t, v, hv => by simp only [getAll, Option.some.injEq] at h; subst h; simp [slotsT, T.get] at hv
  | t0 :: ts, l, h, t, v, hv => by
    simp only [getAll] at h
    split at h
    · rename_i v0 hv0
      split at h
      · rename_i r hr
        simp only [Option.some.injEq] at h; subst h
        rw [slotsT, T.get_put _ _ _ _ _ (Nat.lt_succ_self _)] at hv
        by_cases q : t = t0
        · rw [if_pos q, Option.some.injEq] at hv; subst hv; subst q; exact hv0
        · rw [if_neg q] at hv; exact getAll_ok hr t v hv
      · cases h
    · cases h
def getBs (h : Heap) : List Nat → Option (List (Nat × Blk))
  | [] => some []
  | b :: bs => match Nat.blt b 1048576, h.t.get b with
    | true, some c => match getBs h bs with
      | some r => some ((b, c) :: r)
      | none => none
    | _, _ => none
theorem getBs_ok {h : Heap} {t0 : T Blk} (h0 : ∀ b c, t0.get b = some c → ∃ d, h.t.get b = some d ∧ BSub c d) : ∀ {bs : List Nat} {l : List (Nat × Blk)}, getBs h bs = some l →
    (∀ b c, (blksT t0 l).get b = some c → ∃ d, h.t.get b = some d ∧ BSub c d) ∧ ∀ b, 1048576 ≤ b → (blksT t0 l).get b = t0.get b
  | [], l, hl => by simp only [getBs, Option.some.injEq] at hl; subst hl; exact ⟨h0, fun _ _ => rfl⟩
  | b0 :: bs, l, hl => by
    simp only [getBs] at hl
    split at hl
    · rename_i c0 hlt hc0
      split at hl
      · rename_i r hr
        simp only [Option.some.injEq] at hl; subst hl
        obtain ⟨i1, i2⟩ := getBs_ok h0 hr
        have hlt : b0 < 1048576 := Nat.le_of_ble_eq_true hlt
        refine ⟨fun b c hc => ?_, fun b hb => ?_⟩
        · rw [blksT, T.get_put _ _ _ _ _ (Nat.lt_succ_self _)] at hc
          by_cases q : b = b0
          · rw [if_pos q, Option.some.injEq] at hc; subst hc; subst q; exact ⟨c0, hc0, .refl _⟩
          · rw [if_neg q] at hc; exact i1 b c hc
        · rw [blksT, T.get_put _ _ _ _ _ (Nat.lt_succ_self _), if_neg (by omega)]; exact i2 b hb
      · cases hl
    · cases hl

def viewK : List Fr → List (List Nat) → Option (List FC × List (Nat × List (Nat × AV)))
  | [], _ => some ([], [])
  | .seq y :: K, fs => match viewK K fs with
    | some (k, p) => some (.seq y :: k, p)
    | none => none
  | .block id :: K, fs => match viewK K fs with
    | some (k, p) => some (.block id :: k, p)
    | none => none
  | .loop x :: K, fs => match viewK K fs with
    | some (k, p) => some (.loop x :: k, p)
    | none => none
  | .call fn d ops rest a :: K, f :: fs => match getAll a f with
    | some l => match viewK K fs with
      | some (k, p) => some (.call fn d ops rest :: k, (a.n, l) :: p)
      | none => none
    | none => none
  | _, _ => none

theorem viewK_ok : ∀ {K : List Fr} {fs : List (List Nat)} {k : List FC} {p : List (Nat × List (Nat × AV))}, viewK K fs = some (k, p) → KSub (mkK k p) K ∧ ∀ t, loopsT k [] t = t
  | [], fs, k, p, h => by
    simp only [viewK, Option.some.injEq, Prod.mk.injEq] at h; obtain ⟨rfl, rfl⟩ := h; exact ⟨.nil, fun _ => rfl⟩
  | .seq y :: K, fs, k, p, h => by
    simp only [viewK] at h
    split at h
    · rename_i k' p' hk
      simp only [Option.some.injEq, Prod.mk.injEq] at h; obtain ⟨rfl, rfl⟩ := h
      obtain ⟨h1, h2⟩ := viewK_ok hk
      exact ⟨by simp only [mkK]; exact .seq h1, fun t => by simp only [loopsT]; exact h2 t⟩
    · cases h
  | .block y :: K, fs, k, p, h => by
    simp only [viewK] at h
    split at h
    · rename_i k' p' hk
      simp only [Option.some.injEq, Prod.mk.injEq] at h; obtain ⟨rfl, rfl⟩ := h
      obtain ⟨h1, h2⟩ := viewK_ok hk
      exact ⟨by simp only [mkK]; exact .block h1, fun t => by simp only [loopsT]; exact h2 t⟩
    · cases h
  | .loop y :: K, fs, k, p, h => by
    simp only [viewK] at h
    split at h
    · rename_i k' p' hk
      simp only [Option.some.injEq, Prod.mk.injEq] at h; obtain ⟨rfl, rfl⟩ := h
      obtain ⟨h1, h2⟩ := viewK_ok hk
      exact ⟨by simp only [mkK]; exact .loop h1, fun t => by simp only [loopsT]; exact h2 t⟩
    · cases h
  | .call fn d ops rest a :: K, [], k, p, h => by simp [viewK] at h
  | .call fn d ops rest a :: K, f :: fs, k, p, h => by
    simp only [viewK] at h
    split at h
    · rename_i l hl
      split at h
      · rename_i k' p' hk
        simp only [Option.some.injEq, Prod.mk.injEq] at h; obtain ⟨rfl, rfl⟩ := h
        obtain ⟨h1, h2⟩ := viewK_ok hk
        refine ⟨?_, fun t => by simp only [loopsT]; exact h2 t⟩
        simp only [mkK]
        refine .call ⟨rfl, fun t v hv => getAll_ok hl t v ?_⟩ h1
        simp only [Tmps.get, tmpsOf] at hv
        cases hq : (slotsT l).get t with
        | none => rw [hq] at hv; cases hv
        | some u => rw [hq] at hv; exact hv
      · cases h
    · cases h
  | .rng fn b a :: K, fs, k, p, h => by simp [viewK] at h
  | .round b d ops rest a :: K, fs, k, p, h => by simp [viewK] at h

def ccOf : Cfg → Option CC
  | .code c _ _ => some (.code c)
  | .head x _ _ => some (.head x)
  | .ops ops rest _ _ => some (.ops ops rest)
  | .fin .. => none

/-- the state as codes and as what is read off; none unless the variables stand as they were laid -/
noncomputable def view (L : List (Nat × List AV)) (ix : Ix) (r : Option (List Fr × Cfg)) : Option ((List FC × CC) × Pt) := match r with
  | some (K, c) => match viewK K ix.frs.tail, ccOf c, getAll c.a (ix.frs.headD []), getBs c.h ix.blks, Nat.beq c.h.lim 1048576 && laidB c.h L with
    | some (k, p), some d, some l, some bs, true => some ((k, d), { frs := (c.a.n, l) :: p, lps := [], next := c.h.next, blks := bs })
    | _, _, _, _, _ => none
  | none => none

theorem run_view {P : Program} {n : Nat} {fnTop : Func} {L : List (Nat × List AV)} {v0 : AV} {bs : List Nat} {K : List Fr} {c : Cfg} {ix : Ix} {s : List FC × CC} {p : Pt} (hv : view L ix (goK P n L bs K c) = some (s, p))
    (k : Run P fnTop L v0 (mkK s.1 p.frs.tail) (mkC L p s.1 s.2)) : Run P fnTop L v0 K c := by
  cases hr : goK P n L bs K c with
  | none => rw [hr] at hv; cases hv
  | some x =>
    obtain ⟨K', c'⟩ := x
    rw [hr] at hv
    refine goK_ok hr ?_
    simp only [view] at hv
    split at hv
    · rename_i k' p' d l bl h1 h2 h3 h4 h5
      simp only [Option.some.injEq, Prod.mk.injEq] at hv; obtain ⟨rfl, rfl⟩ := hv
      simp only [Bool.and_eq_true] at h5
      obtain ⟨q1, q2⟩ := viewK_ok h1
      have laid : ∀ b c, (laidTree L).get b = some c → ∃ d, c'.h.t.get b = some d ∧ BSub c d := by
        intro b c hb
        rw [laidTree_get] at hb
        by_cases q : 1048576 ≤ b
        · rw [if_pos q] at hb
          cases ha : assocL L (b - 1048576) with
          | none => rw [ha] at hb; cases hb
          | some cs =>
            rw [ha] at hb; simp only [Option.map_some, Option.some.injEq] at hb; subst hb
            have := laidB_ok h5.2 _ _ ha
            rw [show 1048576 + (b - 1048576) = b by omega] at this
            exact ⟨_, this, .refl _⟩
        · rw [if_neg q] at hb; cases hb
      obtain ⟨i1, i2⟩ := getBs_ok laid h4
      have hT : TSub (tmpsOf (c'.a.n, l)) c'.a := ⟨rfl, fun t v hv => getAll_ok h3 t v (by
        simp only [Tmps.get, tmpsOf] at hv
        cases hq : (slotsT l).get t with
        | none => rw [hq] at hv; cases hv
        | some u => rw [hq] at hv; exact hv)⟩
      have hH : HSub (ptH L { frs := (c'.a.n, l) :: p', lps := [], next := c'.h.next, blks := bl } k') c'.h :=
        ⟨rfl, (Nat.eq_of_beq_eq_true h5.1).symm, fun b c hc => i1 b c (by simp only [ptH] at hc; rw [q2] at hc; exact hc)⟩
      have hl : ∀ g x, assocL L g = some x → (ptH L { frs := (c'.a.n, l) :: p', lps := [], next := c'.h.next, blks := bl } k').t.get (1048576 + g) = some (.cells 0 x false) := by
        intro g x hg
        simp only [ptH]
        rw [q2, i2 _ (Nat.le_add_right _ _), laidTree_get, if_pos (Nat.le_add_right _ _), show 1048576 + g - 1048576 = g by omega, hg]; rfl
      cases c' with
      | code cd a h => simp only [ccOf, Option.some.injEq] at h2; subst h2; exact .weak q1 (.code hT hH) hl k
      | head x a h => simp only [ccOf, Option.some.injEq] at h2; subst h2; exact .weak q1 (.head hT hH) hl k
      | ops o r a h => simp only [ccOf, Option.some.injEq] at h2; subst h2; exact .weak q1 (.ops hT hH) hl k
      | fin ex a h => cases h2
    · cases hv

/-- the last piece: what it answers, as a term -/
noncomputable def answer (P : Program) (fnTop : Func) (r : Option (List Fr × Cfg)) : Option AV := match r with
  | some ([], .fin .normal a h) => resultsA P fnTop h a
  | some ([], .fin .ret a h) => resultsA P fnTop h a
  | _ => none
theorem run_answer {P : Program} {n : Nat} {fnTop : Func} {L : List (Nat × List AV)} {v0 : AV} {bs : List Nat} {K : List Fr} {c : Cfg} (hg : answer P fnTop (goK P n L bs K c) = some v0) : Run P fnTop L v0 K c := by
  cases hr : goK P n L bs K c with
  | none => rw [hr] at hg; cases hg
  | some x =>
    obtain ⟨K', c'⟩ := x
    rw [hr] at hg
    refine goK_ok hr ?_
    unfold answer at hg
    split at hg
    · rename_i a h hq
      simp only [Option.some.injEq, Prod.mk.injEq] at hq; obtain ⟨rfl, rfl⟩ := hq
      exact .top (.inl rfl) hg
    · rename_i a h hq
      simp only [Option.some.injEq, Prod.mk.injEq] at hq; obtain ⟨rfl, rfl⟩ := hq
      exact .top (.inr rfl) hg
    · cases hg

/-- a call with arguments that hold no memory, run so -/
theorem call_run_args {P : Program} (hP : okProg P = true) {f : FuncId} {fn : Func} {body : Code} {L : List (Nat × List AV)} {args : List AV} {ARGS : List Value} (ha : RelL (globsLaid L) args ARGS) (hf : P.funcs[f]? = some fn) (hb : fn.body = some body)
    (hr : Run P fn L (.bool true) [] (.code body { n := args.length + (fn.ntmps - args.length), dflt := true, t := enterT 0 args .leaf } (laidHeap L))) {w : World} (hL : LaidIn w L) :
    Calls P f ARGS.toArray w fun e w' => e = .returned (.bool true) ∧ Below w.heap.size w w' := by
  refine callsIn_wide.1 (CallsIn.mono (call_res hP (v0 := .bool true) rfl ha hf hb hr hL) ?_)
  rintro e w' ⟨V, rfl, hV, hB⟩
  simp only [Rel] at hV
  subst hV
  exact ⟨rfl, hB⟩

/-! a call whose contract is known -/
noncomputable def useOf (P : Program) (L : List (Nat × List AV)) (c : Cfg) : Option (Nat × List AV) := match c with
  | .ops ops (o :: _) a h => match wantedA ops o a, Nat.blt h.next h.lim, unwritten L h.wr with
    | some true, true, true => match opA P h a o with
      | some (.enter f args) => some (f, args)
      | _ => none
    | _, _, _ => none
  | _ => none
def useC (v : AV) : Cfg → Cfg
  | .ops ops (o :: rest) a h => .ops ops rest (put a o.dst v) h.fresh
  | c => c
theorem run_use {P : Program} {fnTop : Func} {L : List (Nat × List AV)} {v0 : AV} {K : List Fr} {c : Cfg} {f : Nat} {args : List AV} {v : AV} (hq : useOf P L c = some (f, args)) (hF : Fact P f args v) (k : Run P fnTop L v0 K (useC v c)) : Run P fnTop L v0 K c := by
  unfold useOf at hq
  split at hq
  · rename_i ops o rest a h
    split at hq
    · rename_i hw hl hu
      split at hq
      · rename_i f' args' ho
        simp only [Option.some.injEq, Prod.mk.injEq] at hq; obtain ⟨rfl, rfl⟩ := hq
        exact .use hw (Nat.le_of_ble_eq_true hl) ho hF hu k
      · cases hq
    · cases hq
  · cases hq
/-- a call's frame -/
def startA (args : List AV) (fn : Func) : Tmps := { n := args.length + (fn.ntmps - args.length), dflt := true, t := enterT 0 args .leaf }
theorem some_getD {α : Type} {x : Option α} {d : α} (h : x.isSome = true) : x = some (x.getD d) := by
  cases x with
  | none => cases h
  | some y => rfl

end Go.Sx

namespace Go.Sx
/-! ### Numbers, in plain Lean -/
theorem eqI_dec (x y : Int) : eqI x y = decide (x = y) := by
  rw [eqI_eq]; rfl
theorem wrap64 {n : Int} (h1 : -9223372036854775808 ≤ n) (h2 : n ≤ 9223372036854775807) : wrapA .i64 n = n := by
  unfold wrapA
  have : fits .i64 n = true := by
    cases n with
    | ofNat m => simp only [fits, Nat.ble_eq]; have : (m : Int) ≤ 9223372036854775807 := h2; omega
    | negSucc m => simp only [fits, Nat.ble_eq]; omega
  rw [this]
theorem tdiv_pos {x c : Int} (h : 0 ≤ x) : Int.tdiv x c = x / c := Int.tdiv_eq_ediv_of_nonneg h
theorem tmod_pos {x c : Int} (h : 0 ≤ x) : Int.tmod x c = x % c := Int.tmod_eq_emod_of_nonneg h
theorem add_int (x y : Int) : Int.add x y = x + y := rfl
theorem sub_int (x y : Int) : Int.sub x y = x - y := rfl
theorem mul_int (x y : Int) : Int.mul x y = x * y := rfl
theorem ofNat_int (n : Nat) : Int.ofNat n = (n : Int) := rfl
theorem wf_bounds {k : IntKind} {n : Int} (h : (Lit.int k n).wf = true) : k.min ≤ n ∧ n ≤ k.max := by
  simpa [Lit.wf] using h
theorem wf_u32 {n : Int} (h : (Lit.int .u32 n).wf = true) : 0 ≤ n ∧ n ≤ 4294967295 := wf_bounds h
theorem wf_u16 {n : Int} (h : (Lit.int .u16 n).wf = true) : 0 ≤ n ∧ n ≤ 65535 := wf_bounds h
theorem wf_u8 {n : Int} (h : (Lit.int .u8 n).wf = true) : 0 ≤ n ∧ n ≤ 255 := wf_bounds h
theorem wf_i64 {n : Int} (h : (Lit.int .i64 n).wf = true) : -9223372036854775808 ≤ n ∧ n ≤ 9223372036854775807 := wf_bounds h
theorem wf_i32 {n : Int} (h : (Lit.int .i32 n).wf = true) : -2147483648 ≤ n ∧ n ≤ 2147483647 := wf_bounds h
end Go.Sx

