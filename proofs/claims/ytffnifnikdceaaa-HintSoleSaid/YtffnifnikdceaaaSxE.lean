/- A call that the executor answers with true, from a heap that holds package variables as a row lays them, returns true in the model. Condition: the program passes 'okProg', and the world holds the variables so. -/
import Derived.Test.YtffnifnikdceaaaSxD
import Derived.ChangeArms
import Derived.OpenShut
import GoSem.ClaimJoined
import Derived.MakeChecks
import Derived.Maps.RangeRun
set_option linter.unusedSimpArgs false
set_option linter.unusedVariables false
set_option linter.unnecessarySimpa false
namespace Go.Sx
open Go.RowKit (Below)

/-! ### Runs that begin with package variables laid -/

/-- variables by number, each with its cells -/
def assocL : List (Nat × List AV) → Nat → Option (List AV)
  | [], _ => none
  | (g, cs) :: r, i => if g = i then some cs else assocL r i

def laidTree : List (Nat × List AV) → T Blk
  | [] => .leaf
  | (g, cs) :: r => (laidTree r).put (1048576 + g + 1) (1048576 + g) (.ro cs)

def laidHeap (L : List (Nat × List AV)) : Heap := { next := 0, lim := 1048576, wr := [], t := laidTree L }

theorem laidTree_get (L : List (Nat × List AV)) (i : Nat) : (laidTree L).get i = if 1048576 ≤ i then (assocL L (i - 1048576)).map (fun cs => Blk.ro cs) else none := by
  induction L with
  | nil => simp [laidTree, T.get, assocL]
  | cons x L ih =>
    obtain ⟨g, cs⟩ := x
    rw [laidTree, T.get_put _ _ _ _ _ (Nat.lt_succ_self _)]
    by_cases h : i = 1048576 + g
    · subst h; simp [assocL]
    · rw [if_neg h, ih]
      by_cases h2 : 1048576 ≤ i
      · rw [if_pos h2, if_pos h2, assocL, if_neg (by omega)]
      · rw [if_neg h2, if_neg h2]
theorem laid_live {L : List (Nat × List AV)} {i : Nat} {b : Blk} (h : (laidTree L).get i = some b) : b.live = false := by
  rw [laidTree_get] at h
  by_cases q : 1048576 ≤ i
  · rw [if_pos q] at h
    cases ha : assocL L (i - 1048576) with
    | none => rw [ha] at h; cases h
    | some cs => rw [ha] at h; simp only [Option.map_some, Option.some.injEq] at h; subst h; rfl
  · rw [if_neg q] at h; cases h

/-- where what is laid lies: package variable g by the number 1048576 + g -/
def GlobE (E : Nat → Ent) : Prop := ∀ g, ∃ n, E (1048576 + g) = ⟨g, 0, n⟩
/-- the world holds these cells so -/
def LaidAt (E : Nat → Ent) (w : World) (L : List (Nat × List AV)) : Prop :=
  ∀ g cs, assocL L g = some cs → ∃ (vals : Array Value) (t : TypeId) (fr : Nat × Nat), w.heap[(E g).blk]? = some (.cells vals t fr) ∧ ∀ (j : Nat) (a : AV), cs[j]? = some a → ∃ v, vals[(E g).shift + j]? = some v ∧ Rel (fun _ => none) a v
def laidE (E : Nat → Ent) (i : Nat) : Option Ent := if 1048576 ≤ i then some (E (i - 1048576)) else none
theorem laidE_at (E : Nat → Ent) (g : Nat) : laidE E (1048576 + g) = some (E g) := by
  simp only [laidE]; rw [if_pos (by omega), show 1048576 + g - 1048576 = g by omega]
theorem globs_at {E : Nat → Ent} (h : GlobE E) : Globs (laidE E) := fun g => by
  obtain ⟨n, hn⟩ := h g
  exact ⟨n, by rw [show 2097152 + g = 1048576 + (1048576 + g) by omega, laidE_at, hn]⟩
theorem srel_at {E : Nat → Ent} {w : World} {L : List (Nat × List AV)} (h : LaidAt E w L) : SRel (laidE E) (laidHeap L) w := by
  have get : ∀ i c, (laidHeap L).t.get i = some c → 1048576 ≤ i ∧ ∃ cs, assocL L (i - 1048576) = some cs ∧ c = .ro cs := by
    intro i c hc
    have hc : (laidTree L).get i = some c := hc
    rw [laidTree_get] at hc
    by_cases h2 : 1048576 ≤ i
    · rw [if_pos h2] at hc
      cases ha : assocL L (i - 1048576) with
      | none => rw [ha] at hc; cases hc
      | some cs => rw [ha] at hc; simp only [Option.map_some, Option.some.injEq] at hc; exact ⟨h2, cs, rfl, hc.symm⟩
    · rw [if_neg h2] at hc; cases hc
  refine ⟨fun i c hc => ?_, fun i _ h2 => ?_, fun i e b he hb => ?_, fun i j e e' b b' hij he he' hb hb' hl _ => ?_⟩
  · obtain ⟨h2, _⟩ := get i c hc
    exact ⟨_, by simp only [laidE]; rw [if_pos h2]⟩
  · have h2 : i < 1048576 := h2
    simp only [laidE]; rw [if_neg (by omega)]
  · obtain ⟨h2, cs, ha, rfl⟩ := get i b hb
    simp only [laidE, if_pos h2, Option.some.injEq] at he
    subst he
    obtain ⟨vals, t, fr, hw, hr⟩ := h _ _ ha
    exact ⟨vals, t, fr, hw, fun j a hj => let ⟨v, p, q⟩ := hr j a hj; ⟨v, p, Rel.ext (fun i e q => by cases q) _ q⟩⟩
  · have hb : (laidTree L).get i = some b := hb
    rw [laid_live hb] at hl; cases hl

/-- package variables alone -/
def globE (i : Nat) : Ent := ⟨i - 1048576, 0, 0⟩
theorem globE_at (g : Nat) : globE (1048576 + g) = ⟨g, 0, 0⟩ := congrArg (fun x => Ent.mk x 0 0) (Nat.add_sub_cancel_left (n := 1048576) (m := g))
theorem globE_ok : GlobE globE := fun g => ⟨0, globE_at g⟩
/-- the world holds the variables so -/
def LaidIn (w : World) (L : List (Nat × List AV)) : Prop := LaidAt globE w L
def globsLaid (_ : List (Nat × List AV)) (i : Nat) : Option Ent := laidE globE i
theorem globs_laid (L : List (Nat × List AV)) : Globs (globsLaid L) := globs_at globE_ok
theorem srel_laid {w : World} {L : List (Nat × List AV)} (h : LaidIn w L) : SRel (globsLaid L) (laidHeap L) w := srel_at h

/-- none of the variables was written -/
noncomputable def unwritten (L : List (Nat × List AV)) (wr : List Nat) : Bool :=
  @List.rec (Nat × List AV) (fun _ => Bool) true (fun x _ ih => @Bool.rec (fun _ => Bool) ih false (memN (1048576 + x.1) wr)) L

theorem memN_mem (x : Nat) (l : List Nat) : memN x l = false → x ∉ l := by
  induction l with
  | nil => intro _ h; cases h
  | cons y l ih =>
    intro h
    simp only [memN] at h
    split at h
    · cases h
    · rename_i hq
      have := Nat.ne_of_beq_eq_false hq
      simp only [List.mem_cons, not_or]; exact ⟨this, ih h⟩

theorem unwritten_ok {L : List (Nat × List AV)} {wr : List Nat} (h : unwritten L wr = true) : ∀ g cs, assocL L g = some cs → 1048576 + g ∉ wr := by
  induction L with
  | nil => intro g cs hg; cases hg
  | cons x L ih =>
    obtain ⟨k, ks⟩ := x
    have h : @Bool.rec (fun _ => Bool) (unwritten L wr) false (memN (1048576 + k) wr) = true := h
    rw [brecE] at h
    cases hm : memN (1048576 + k) wr with
    | true => rw [hm] at h; cases h
    | false =>
      rw [hm] at h
      intro g cs hg
      simp only [assocL] at hg
      split at hg
      · rename_i hk; subst hk; exact memN_mem _ _ hm
      · exact ih h g cs hg

/-- the answer is true and no variable was written -/
noncomputable def trueD (L : List (Nat × List AV)) (r : RV) : Bool :=
  @RV.rec (fun _ => Bool) (fun v h => @Option.rec Bool (fun _ => Bool) false (fun b => @Bool.rec (fun _ => Bool) false (@Heap.rec (fun _ => Bool) (fun _ _ wr _ => unwritten L wr) h) b) (asBool v)) (fun _ => false) r

/-- a run of the executor with variables laid is a call, and nothing that was there is changed -/
theorem runD_true {P : Program} (hP : okProg P = true) {n : Nat} {f : FuncId} {L : List (Nat × List AV)} (hr : trueD L (runS P (n + 1) n (.fn f) [] (laidHeap L)) = true) {w : World} (hL : LaidIn w L) :
    Calls P f #[] w fun e w' => e = .returned (.bool true) ∧ Below w.heap.size w w' := by
  rw [runS_eq P (n + 1) n (Nat.lt_succ_self n)] at hr
  simp only [tgtF] at hr
  cases hc : callF P (codeN P n) f [] (laidHeap L) with
  | bad q => rw [hc] at hr; cases hr
  | ok x =>
    obtain ⟨v, h'⟩ := x
    rw [hc] at hr
    cases v <;> try (cases hr)
    rename_i b
    obtain ⟨nx, lm, wr, t⟩ := h'
    cases b <;> try (cases hr)
    have hu : unwritten L wr = true := hr
    refine (run_from hP (srel_laid hL) (globs_laid L) hc).mono ?_
    rintro e w' ⟨rfl, ρ', h2, h3⟩
    refine ⟨rfl, h3.os, h3.tape, h3.output, h3.size, fun k hk => ?_⟩
    refine h3.keep k hk (fun i e b he hb hl => ?_)
    have hb : (laidTree L).get i = some b := hb
    rw [laid_live hb] at hl; cases hl

/-! ### What a laid datum says of the cells -/

mutual
def flatD : DataW Unit → Option (List AV)
  | .lit (.int k n) => some [.int k n]
  | .lit (.string bs) => some [.str (bs.map UInt8.toNat)]
  | .lit (.bool b) => some [.bool b]
  | .agg ds => flatAll ds
  | _ => none
def flatAll : List (DataW Unit) → Option (List AV)
  | [] => some []
  | d :: ds => match flatD d, flatAll ds with
    | some a, some b => some (a ++ b)
    | _, _ => none
end

def tileFields (P : Program) (self : TypeId → Bool) : Nat → List Field → Nat → Bool
  | off, [], total => off == total
  | off, f :: r, total => f.offset == off && self f.type && tileFields P self (off + P.cellsOf f.type) r total

/-- types made of bools, ints, strings, whose parts lie side by side -/
def tiles (P : Program) : Nat → TypeId → Bool
  | 0, _ => false
  | f + 1, t => match P.underlying t with
    | some .bool => true
    | some (.int _) => true
    | some .string => true
    | some (.struct fs) => tileFields P (tiles P f) 0 fs.toList (P.cellsOf t)
    | some (.array n e) => tiles P f e && n * P.cellsOf e == P.cellsOf t
    | _ => false

theorem string_back (s : ByteArray) : Rel (fun _ => none) (.str (s.data.toList.map UInt8.toNat)) (.string s) := by
  simp only [Rel, ofNats, List.map_map]
  have : (UInt8.ofNat ∘ UInt8.toNat) = id := funext fun b => by simp
  rw [this, List.map_id]

section
variable {enc : TypeId × Value → Unit} {P : Program} {w : World} {base : Nat} {spare : Nat → Bool} {held : Bool}

theorem fields_flat {m : Nat} {self : TypeId → Bool} {cs : List Value} {total : Nat}
    (ih : ∀ t cs x, self t = true → DataW.trod enc P w base spare held m t cs = some x → ∃ as, flatD x.1 = some as ∧ RelL (fun _ => none) as cs) (ht : cs.length = total) :
    ∀ (fl : List Field) (ys : List (DataW Unit × List MemPlace)) (off : Nat), ys.length = fl.length →
      (∀ (i : Nat) (f : Field), fl[i]? = some f → DataW.trod enc P w base spare held m f.type ((cs.drop f.offset).take (P.cellsOf f.type)) = ys[i]?) →
      tileFields P self off fl total = true → ∃ as, flatAll (ys.map (·.1)) = some as ∧ RelL (fun _ => none) as (cs.drop off)
  | [], ys, off, hl, _, h => by
    simp only [tileFields, beq_iff_eq] at h
    have : ys = [] := by cases ys with | nil => rfl | cons _ _ => simp at hl
    subst this
    exact ⟨[], rfl, by rw [List.drop_eq_nil_of_le (by omega)]; simp [RelL]⟩
  | f :: fl, ys, off, hl, he, h => by
    simp only [tileFields, Bool.and_eq_true, beq_iff_eq] at h
    obtain ⟨⟨h1, h2⟩, h3⟩ := h
    cases ys with
    | nil => simp at hl
    | cons y ys =>
      have e0 := he 0 f rfl
      simp only [List.getElem?_cons_zero] at e0
      obtain ⟨a, ha, hra⟩ := ih _ _ _ h2 e0
      obtain ⟨b, hb, hrb⟩ := fields_flat ih ht fl ys (off + P.cellsOf f.type) (by simpa using hl) (fun i g hg => by have := he (i + 1) g (by simpa using hg); simpa using this) h3
      refine ⟨a ++ b, by simp only [List.map_cons, flatAll, ha, hb], ?_⟩
      have e : cs.drop off = (cs.drop f.offset).take (P.cellsOf f.type) ++ cs.drop (off + P.cellsOf f.type) := by
        rw [h1, ← List.drop_drop, List.take_append_drop]
      rw [e]; exact hra.append hrb

theorem elems_flat {m k n : Nat} {e : TypeId} {cs : List Value}
    (ih : ∀ cs x, DataW.trod enc P w base spare held m e cs = some x → ∃ as, flatD x.1 = some as ∧ RelL (fun _ => none) as cs) (ht : cs.length = n * k) :
    ∀ (r i : Nat) (ys : List (DataW Unit × List MemPlace)), ys.length = r → i + r = n →
      (∀ j, j < r → DataW.trod enc P w base spare held m e ((cs.drop ((i + j) * k)).take k) = ys[j]?) →
      ∃ as, flatAll (ys.map (·.1)) = some as ∧ RelL (fun _ => none) as (cs.drop (i * k))
  | 0, i, ys, hl, hn, _ => by
    have : ys = [] := by cases ys with | nil => rfl | cons _ _ => simp at hl
    subst this
    have : i = n := by omega
    subst this
    exact ⟨[], rfl, by rw [List.drop_eq_nil_of_le (by omega)]; simp [RelL]⟩
  | r + 1, i, ys, hl, hn, he => by
    cases ys with
    | nil => simp at hl
    | cons y ys =>
      have e0 := he 0 (by omega)
      simp only [List.getElem?_cons_zero, Nat.add_zero] at e0
      obtain ⟨a, ha, hra⟩ := ih _ _ e0
      obtain ⟨b, hb, hrb⟩ := elems_flat ih ht r (i + 1) ys (by simpa using hl) (by omega) (fun j hj => by
        have := he (j + 1) (by omega)
        rw [show i + (j + 1) = i + 1 + j by omega] at this
        simpa using this)
      refine ⟨a ++ b, by simp only [List.map_cons, flatAll, ha, hb], ?_⟩
      have e : cs.drop (i * k) = (cs.drop (i * k)).take k ++ cs.drop ((i + 1) * k) := by
        rw [Nat.succ_mul, ← List.drop_drop, List.take_append_drop]
      rw [e]; exact hra.append hrb

theorem trod_flat : ∀ (f fuel : Nat) (t : TypeId) (cs : List Value) (x : DataW Unit × List MemPlace), tiles P f t = true → DataW.trod enc P w base spare held fuel t cs = some x →
    ∃ as, flatD x.1 = some as ∧ RelL (fun _ => none) as cs
  | 0, _, _, _, _, h, _ => by cases h
  | f + 1, fuel, t, cs, x, h, hx => by
    simp only [tiles] at h
    split at h
    · rename_i ht
      obtain ⟨b, rfl, rfl⟩ := DataW.trod_bool ht hx
      exact ⟨_, rfl, by simp [RelL, Rel]⟩
    · rename_i k ht
      obtain ⟨n, rfl, rfl, _⟩ := DataW.trod_int ht hx
      exact ⟨_, rfl, by simp [RelL, Rel]⟩
    · rename_i ht
      obtain ⟨s, rfl, rfl, _⟩ := DataW.trod_string ht hx
      exact ⟨_, rfl, by have := string_back s; simp only [RelL]; exact ⟨_, _, this, rfl, rfl⟩⟩
    · rename_i fs ht
      obtain ⟨xs, m, rfl, rfl, hl, hs, he⟩ := DataW.trod_struct ht hx
      have := fields_flat (fun t cs x h1 h2 => trod_flat f m t cs x h1 h2) hl fs.toList xs 0 (by simpa using hs) (fun i g hg => he i g (by simpa using hg)) h
      simpa [flatD] using this
    · rename_i n e ht
      simp only [Bool.and_eq_true, beq_iff_eq] at h
      obtain ⟨xs, m, rfl, rfl, hl, hs, he⟩ := DataW.trod_array ht hx
      have := elems_flat (k := P.cellsOf e) (n := n) (fun cs x h2 => trod_flat f m e cs x h.1 h2) (by rw [hl, h.2]) n 0 xs hs (by omega) (fun j hj => by rw [Nat.zero_add]; exact he j hj)
      simpa [flatD] using this
    · cases h
end

/-- the variables that a row lays, by number and cells: where all are of such types -/
def laidOf (P : Program) : List (String × DataW Unit) → Option (List (Nat × List AV))
  | [] => some []
  | (n, d) :: r => match P.globalNamed n with
    | none => none
    | some g => match (P.globals[g]?).map (·.type) with
      | none => none
      | some t => match tiles P 50 t, flatD d, laidOf P r with
        | true, some (c :: cs), some L => some ((1048576 + g, c :: cs) :: L)
        | _, _, _ => none

theorem laidIn_of_vars {P : Program} {w : World} : ∀ {laid : List (String × DataW Unit)} {ps : List MemPlace} {L : List (Nat × List AV)}, DataW.LaidVars P w laid ps → laidOf P laid = some L →
    (∀ b off, MemPlace.cell b off ∈ ps → ∃ c t, w.heap[b]? = some (.cells c t (0, 0))) → LaidIn w L
  | [], ps, L, _, hL, _ => by
    simp only [laidOf, Option.some.injEq] at hL; subst hL
    intro g cs h; cases h
  | (n, d) :: r, ps, L, hv, hL, hz => by
    obtain ⟨g, t, cs, fuel, p, q, hg, ht, hvar, hd, hr, rfl⟩ := hv
    simp only [laidOf, hg, ht] at hL
    split at hL
    · rename_i _ _ _ c as L' h1 h2 h3
      simp only [Option.some.injEq] at hL; subst hL
      have hrest := laidIn_of_vars hr h3 (fun b off hb => hz b off (List.mem_append.2 (.inr hb)))
      obtain ⟨as', h4, h5⟩ := trod_flat 50 fuel t cs.toList _ h1 hd
      simp only [h2, Option.some.injEq] at h4; subst h4
      intro g' cs' hq
      simp only [assocL] at hq
      split at hq
      · rename_i hk; subst hk
        simp only [Option.some.injEq] at hq; subst hq
        have hlen := h5.length
        have hpos : 0 < cs.size := by have : cs.toList.length = (c :: as).length := hlen; simp at this; omega
        obtain ⟨vals, u, hh⟩ := hz g 0 (List.mem_append.2 (.inl (List.mem_append.2 (.inl (by
          simp only [MemPlace.row, List.mem_map, List.mem_range]; exact ⟨0, hpos, by simp⟩)))))
        have : vals = cs := by
          simp only [World.var?, hg, Option.bind_some, hh] at hvar
          simpa using hvar
        subst this
        refine ⟨vals, u, (0, 0), by rw [globE_at]; exact hh, fun j a hj => ?_⟩
        obtain ⟨v, hv, hr⟩ := h5.nth hj
        refine ⟨v, ?_, hr⟩
        rw [globE_at, Nat.zero_add]; simpa using hv
      · exact hrest g' cs' hq
    · cases hL

theorem laidIn_of {P : Program} {w : World} {laid : List (String × DataW Unit)} {L : List (Nat × List AV)} (h : laidMetH P laid w) (hp : (laid.all fun x => x.2.handleName?.isNone) = true) (hL : laidOf P laid = some L) : LaidIn w L := by
  rw [MakeChecks.laidMetH_plain _ _ _ hp] at h
  obtain ⟨ps, hv, _, hz⟩ := h
  exact laidIn_of_vars hv hL (fun b off hb => (hz b off hb).1)

end Go.Sx

namespace Go.Sx
open Go.RowKit (Below)

/-! ### A run in pieces: what is known between two of them is written down -/

/-- the statements of a piece of code, one after another -/
def flat : Code → List Code
  | .seq x y => flat x ++ flat y
  | c => [c]

def wpChain (F : Fence) (n : Nat) (P : Program) (Q : Exit → Act → World → Prop) : List Code → Act → World → Prop
  | [], a, w => Q .normal a w
  | c :: cs, a, w => c.wpIn F n P (Exit.then (wpChain F n P Q cs) Q) a w

theorem chain_mono {F : Fence} {n : Nat} {P : Program} {Q Q' : Exit → Act → World → Prop} (hq : ∀ e a w, Q e a w → Q' e a w) : ∀ (cs : List Code) {a : Act} {w : World}, wpChain F n P Q cs a w → wpChain F n P Q' cs a w
  | [], a, w, h => hq _ _ _ h
  | c :: cs, a, w, h => wpIn_mono h (fun e a w he => by
      cases e with
      | normal => exact chain_mono hq cs he
      | _ => exact hq _ _ _ he)

theorem chain_flat {F : Fence} {n : Nat} {P : Program} : ∀ (c : Code) {Q : Exit → Act → World → Prop} {a : Act} {w : World}, wpChain F n P Q (flat c) a w → c.wpIn F n P Q a w := by
  have app : ∀ (xs ys : List Code) {Q : Exit → Act → World → Prop} {a : Act} {w : World}, wpChain F n P Q (xs ++ ys) a w → wpChain F n P (Exit.then (wpChain F n P Q ys) Q) xs a w := by
    intro xs
    induction xs with
    | nil => intro ys Q a w h; exact h
    | cons x xs ih =>
      intro ys Q a w h
      refine wpIn_mono h (fun e a w he => ?_)
      cases e with
      | normal => exact ih ys he
      | _ => exact he
  have one : ∀ (c : Code) {Q : Exit → Act → World → Prop} {a : Act} {w : World}, wpChain F n P Q [c] a w → c.wpIn F n P Q a w := by
    intro c Q a w h
    refine wpIn_mono h (fun e a w he => ?_)
    cases e <;> exact he
  intro c
  induction c with
  | seq x y ihx ihy =>
    intro Q a w h
    refine wpIn_seq (ihx (chain_mono (fun e a w he => ?_) _ (app (flat x) (flat y) h)))
    cases e with
    | normal => exact ihy he
    | _ => exact he
  | _ => intro Q a w h; exact one _ h

/-- a run of statements by the plain executor -/
def chainF (self : Code → Tmps → Heap → Res) : List Code → Tmps → Heap → Res
  | [], a, h => .ok (.normal, a, h)
  | c :: cs, a, h => match self c a h with
    | .ok (.normal, a', h') => chainF self cs a' h'
    | r => r

theorem chain_sound {P : Program} {self : Code → Tmps → Heap → Res} (hs : SelfOk P self) : ∀ (cs : List Code) {a a' : Tmps} {h h' : Heap} {ex : Ex}, chainF self cs a h = .ok (ex, a', h') →
    ∀ (lo : Nat) (DL : List Deferred) (ρ : Nat → Option Ent) (w : World) (A : Act), SRel ρ h w → FRel DL ρ a A → Marks lo DL ρ h w →
    ∀ Q : Exit → Act → World → Prop, (∀ DL' ρ' w' A', SRel ρ' h' w' → Good ρ h w ρ' h' w' → FRel DL' ρ' a' A' → Marks lo DL' ρ' h' w' → Q (exitOf ex) A' w') → wpChain (RF none) 0 P Q cs A w
  | [], a, a', h, h', ex, hr, lo, DL, ρ, w, A, S, F, M, Q, hQ => by
    simp only [chainF, R.ok.injEq, Prod.mk.injEq] at hr; obtain ⟨rfl, rfl, rfl⟩ := hr
    exact hQ DL ρ w A S (Good.refl _ _ _) F M
  | c :: cs, a, a', h, h', ex, hr, lo, DL, ρ, w, A, S, F, M, Q, hQ => by
    simp only [chainF] at hr
    split at hr
    · rename_i a1 h1 h2
      refine hs none _ _ _ _ _ _ h2 (.inl rfl) lo DL ρ w A S F M _ (fun DL1 ρ1 w1 A1 S1 G1 F1 M1 => ?_)
      exact chain_sound hs cs hr lo DL1 ρ1 w1 A1 S1 F1 M1 Q (fun DL2 ρ2 w2 A2 S2 G2 F2 M2 => hQ DL2 ρ2 w2 A2 S2 (G1.trans G2) F2 M2)
    · rename_i hne
      refine hs none _ _ _ _ _ _ hr (.inl rfl) lo DL ρ w A S F M _ (fun DL1 ρ1 w1 A1 S1 G1 F1 M1 => ?_)
      have := hQ DL1 ρ1 w1 A1 S1 G1 F1 M1
      cases ex with
      | normal => exact absurd hr (hne _ _)
      | exit id => exact this
      | ret => exact this
      | goto l => exact this

/-! what is kept of a state -/
structure Sub (a1 : Tmps) (h1 : Heap) (a : Tmps) (h : Heap) : Prop where
  n : a1.n = a.n
  slots : ∀ t v, a1.get t = some v → a.get t = some v
  next : h1.next = h.next
  lim : h1.lim = h.lim
  blks : ∀ b c, h1.t.get b = some c → h.t.get b = some c

theorem Sub.srel {a1 a : Tmps} {h1 h : Heap} (B : Sub a1 h1 a h) {ρ : Nat → Option Ent} {w : World} (S : SRel ρ h w) : SRel ρ h1 w :=
  ⟨fun i c hc => S.dom i c (B.blks i c hc), fun i p q => S.free i (by rw [← B.next]; exact p) (by rw [← B.lim]; exact q), fun i e b he hb => S.blks i e b he (B.blks i b hb),
    fun i j e e' b b' hij he he' hb hb' => S.inj i j e e' b b' hij he he' (B.blks i b hb) (B.blks j b' hb')⟩
theorem Sub.frel {a1 a : Tmps} {h1 h : Heap} (B : Sub a1 h1 a h) {DL : List Deferred} {ρ : Nat → Option Ent} {A : Act} (F : FRel DL ρ a A) : FRel DL ρ a1 A :=
  ⟨fun t v hv => F.slot t v (B.slots t v hv), by rw [B.n]; exact F.n, F.defers, F.glob⟩
theorem Sub.marks {a1 a : Tmps} {h1 h : Heap} (B : Sub a1 h1 a h) {lo : Nat} {DL : List Deferred} {ρ : Nat → Option Ent} {w : World} (M : Marks lo DL ρ h w) : Marks lo DL ρ h1 w := by
  obtain ⟨hl, Ds, h1', h2, h3⟩ := M
  exact ⟨hl, Ds, h1', h2, fun D hD => let ⟨k1, k2, k3⟩ := h3 D hD; ⟨k1, k2, fun i e b he hb hlb => k3 i e b he (B.blks i b hb) hlb⟩⟩

/-- the rest of a function's statements, in pieces -/
inductive Pieces (P : Program) (n : Nat) (fn : Func) (L : List (Nat × List AV)) : List Code → Tmps → Heap → Prop where
  | last {cs : List Code} {a a' : Tmps} {h h' : Heap} {ex : Ex} (hr : chainF (codeN P n) cs a h = .ok (ex, a', h')) (hx : ex = .normal ∨ ex = .ret) (hv : resultsA P fn h' a' = some (.bool true))
      (hu : unwritten L h'.wr = true) : Pieces P n fn L cs a h
  | more {cs ds : List Code} {a a' a1 : Tmps} {h h' h1 : Heap} (hr : chainF (codeN P n) cs a h = .ok (.normal, a', h')) (hu : unwritten L h'.wr = true) (hs : Sub a1 h1 a' h')
      (hl : ∀ g c, assocL L g = some c → h1.t.get (1048576 + g) = some (.ro c)) (hp : Pieces P n fn L ds a1 h1) : Pieces P n fn L (cs ++ ds) a h

/-- since the world w0 nothing that was there has changed; what the heap holds is new, or one of the variables -/
structure Since (L : List (Nat × List AV)) (w0 : World) (ρ : Nat → Option Ent) (h : Heap) (w : World) : Prop where
  below : Below w0.heap.size w0 w
  lim : h.lim = 1048576
  nextLe : h.next ≤ h.lim
  vars : ∀ g c, assocL L g = some c → h.t.get (1048576 + g) = some (.ro c)
  ents : ∀ g c, assocL L g = some c → ∃ e, ρ (1048576 + g) = some e
  img : ∀ (i : Nat) (e : Ent) (b : Blk), ρ i = some e → h.t.get i = some b → b.live = true → w0.heap.size ≤ e.blk

theorem Since.good {L : List (Nat × List AV)} {w0 w w' : World} {ρ ρ' : Nat → Option Ent} {h h' : Heap} (I : Since L w0 ρ h w) (S : SRel ρ h w) (G : Good ρ h w ρ' h' w') (hu : unwritten L h'.wr = true) :
    Below w0.heap.size w0 w' ∧ h'.lim = 1048576 ∧ h'.next ≤ h'.lim ∧ (∀ g c, assocL L g = some c → ∃ e, ρ' (1048576 + g) = some e) ∧
      ∀ (i : Nat) (e : Ent) (b : Blk), ρ' i = some e → h'.t.get i = some b → b.live = true → w0.heap.size ≤ e.blk := by
  have hsz : w0.heap.size ≤ w.heap.size := I.below.size
  refine ⟨⟨G.os.trans I.below.os, G.tape.trans I.below.tape, G.output.trans I.below.output, Nat.le_trans hsz G.size, fun k hk => ?_⟩, by rw [G.lims]; exact I.lim, by rw [G.lims]; exact G.bound I.nextLe, fun g c hg => ?_, fun i e b he hb hl => ?_⟩
  · have hw : w.heap[k]? = w0.heap[k]? := I.below.block k hk
    rw [← hw]
    refine G.keep k (Nat.lt_of_lt_of_le hk hsz) (fun i e b he hb hl hq => ?_)
    have hge := I.img i e b he hb hl
    omega
  · obtain ⟨k, hk⟩ := I.ents g c hg
    exact ⟨k, G.ext _ _ hk⟩
  · rcases G.img i e b he hb hl with ⟨i0, e0, b0, q1, q2, q3, q4⟩ | hge
    · rw [← q4]; exact I.img i0 e0 b0 q1 q2 q3
    · exact Nat.le_trans hsz hge

theorem since_at (w : World) (E : Nat → Ent) (L : List (Nat × List AV)) : Since L w (laidE E) (laidHeap L) w := by
  refine ⟨Below.refl _ _, rfl, Nat.zero_le _, fun g c hg => ?_, fun g c hg => ⟨_, laidE_at E g⟩, fun i e b he hb' hl => ?_⟩
  · show (laidTree L).get (1048576 + g) = _
    rw [laidTree_get, if_pos (by omega), show 1048576 + g - 1048576 = g by omega, hg]; rfl
  · have hb' : (laidTree L).get i = some b := hb'
    rw [laid_live hb'] at hl; cases hl

theorem leaves_true {P : Program} {DL : List Deferred} {ρ : Nat → Option Ent} {h : Heap} {a : Tmps} {A : Act} {fn : Func} (F : FRel DL ρ a A) (hv : resultsA P fn h a = some (.bool true)) {w0 : World} :
    ∀ (Ds : List Nat) (w : World), SRel ρ h w → Below w0.heap.size w0 w → Ds.Nodup → (∀ D, D ∈ Ds → w0.heap.size ≤ D ∧ w.heap[D]? = some (.deferred (some [])) ∧
      ∀ (i : Nat) (e : Ent) (b : Blk), ρ i = some e → h.t.get i = some b → b.solid = true → e.blk ≠ D) →
      LeavesInM (RF none) 0 P fn A.tmps (fun e w' => e = .returned (.bool true) ∧ Below w0.heap.size w0 w') (Ds.map markOf) .returning w
  | [], w, S, B, _, _ => by
    obtain ⟨V, k1, k2⟩ := resultsA_run S F hv
    simp only [Rel] at k2
    subst k2
    exact ⟨_, k1, rfl, B⟩
  | D :: Ds, w, S, B, hn, hD => by
    obtain ⟨k1, k2, k3⟩ := hD D (List.mem_cons_self)
    have hnd := List.nodup_cons.1 hn
    refine ⟨by simp, .inl ⟨D, w.putObj D (.deferred none), rfl, run_takeDeferred k2, ?_⟩⟩
    refine leaves_true F hv Ds _ (S.aside k3) ⟨B.os, B.tape, B.output, by simpa using B.size, fun k hk => by rw [World.putObj_heap_other (by omega)]; exact B.block k hk⟩ hnd.2 (fun E hE => ?_)
    obtain ⟨q1, q2, q3⟩ := hD E (List.mem_cons_of_mem _ hE)
    exact ⟨q1, by rw [World.putObj_heap_other (fun q => hnd.1 (by rw [← q]; exact hE))]; exact q2, q3⟩

theorem chain_append {F : Fence} {n : Nat} {P : Program} {Q : Exit → Act → World → Prop} (ds : List Code) : ∀ (cs : List Code) {a : Act} {w : World}, wpChain F n P (Exit.then (wpChain F n P Q ds) Q) cs a w → wpChain F n P Q (cs ++ ds) a w
  | [], a, w, h => h
  | c :: cs, a, w, h => wpIn_mono h (fun e a w he => by
      cases e with
      | normal => exact chain_append ds cs he
      | _ => exact he)

theorem pieces_sound {P : Program} (hP : okProg P = true) {n : Nat} {fn : Func} {L : List (Nat × List AV)} {w0 : World} {cs : List Code} {a : Tmps} {h : Heap} (hp : Pieces P n fn L cs a h) :
    ∀ {DL : List Deferred} {ρ : Nat → Option Ent} {w : World} {A : Act}, SRel ρ h w → FRel DL ρ a A → Marks w0.heap.size DL ρ h w → Since L w0 ρ h w →
      wpChain (RF none) 0 P (bodyPostM (RF none) 0 P fn fun e w' => e = .returned (.bool true) ∧ Below w0.heap.size w0 w') cs A w := by
  induction hp with
  | last hr hx hv hu =>
    intro DL ρ w A S F M I
    refine chain_sound (code_sound hP n) _ hr _ DL ρ w A S F M _ (fun DL' ρ' w' A' S' G' F' M' => ?_)
    obtain ⟨hb, _, _, _, _⟩ := I.good S G' hu
    obtain ⟨_, Ds, rfl, hn, hD⟩ := M'
    have key := leaves_true F' hv Ds w' S' hb hn hD
    rw [← F'.defers] at key
    rcases hx with rfl | rfl <;> exact key
  | more hr hu hs hl hp ih =>
    intro DL ρ w A S F M I
    refine chain_append _ _ (chain_sound (code_sound hP n) _ hr _ DL ρ w A S F M _ (fun DL' ρ' w' A' S' G' F' M' => ?_))
    obtain ⟨hb, hlim, hle, hents, himg⟩ := I.good S G' hu
    exact ih (hs.srel S') (hs.frel F') (hs.marks M') ⟨hb, by rw [hs.lim]; exact hlim, by rw [hs.lim, hs.next]; exact hle, hl, hents, fun i e b he hb' hlb => himg i e b he (hs.blks i b hb') hlb⟩

/-- a call of a function without parameters whose statements were run in pieces -/
theorem call_pieces {P : Program} (hP : okProg P = true) {n : Nat} {f : FuncId} {fn : Func} {body : Code} {L : List (Nat × List AV)} (hf : P.funcs[f]? = some fn) (hb : fn.body = some body)
    (hp : Pieces P n fn L (flat body) { n := fn.ntmps, dflt := true, t := .leaf } (laidHeap L)) {w : World} (hL : LaidIn w L) :
    Calls P f #[] w fun e w' => e = .returned (.bool true) ∧ Below w.heap.size w w' := by
  have S := srel_laid hL
  have F0 := frame_enter (globs_laid L) (args := []) (ARGS := []) (by simp [RelL]) fn.ntmps
  have F : FRel [] (globsLaid L) { n := fn.ntmps, dflt := true, t := .leaf } { tmps := #[] ++ Array.replicate (fn.ntmps - (#[] : Array Value).size) undef, defers := [] } := by
    simpa [enterT] using F0
  have I : Since L w (globsLaid L) (laidHeap L) w := since_at w globE L
  have M : Marks w.heap.size [] (globsLaid L) (laidHeap L) w := Marks.none (Nat.le_refl _)
  exact callsIn_wide.1 (callsIn_of_wp_marks hf hb trivial (chain_flat body (pieces_sound hP hp S F M I)))

end Go.Sx

namespace Go.Sx
open Go.RowKit (Below)

/-! ### Pieces by closed Bools -/

/-- statements one after another, in the fast form -/
noncomputable def chainS (P : Program) (cs : List Code) : BoxF :=
  @List.rec Code (fun _ => BoxF) ⟨fun _ _ a h => .normal a h⟩
    (fun c _ ih => ⟨fun s n a h => @RC.rec (fun _ => RC) (fun a' h' => ih.f s n a' h') RC.exit RC.ret RC.goto RC.bad ((codeS P c).f s n a h)⟩) cs

theorem chainS_eq {P : Program} {s : Self'} {n : Nat} (hs : SelfS P s n) (cs : List Code) (a : Tmps) (h : Heap) : (chainS P cs).f s n a h = RC.ofR (chainF (codeN P n) cs a h) := by
  induction cs generalizing a h with
  | nil => rfl
  | cons c cs ih =>
    show @RC.rec (fun _ => RC) (fun a' h' => (chainS P cs).f s n a' h') RC.exit RC.ret RC.goto RC.bad ((codeS P c).f s n a h) = _
    rw [codeS_eq n hs, RC.rec_ofR, chainF]
    cases codeN P n c a h with
    | bad q => rfl
    | ok x => obtain ⟨ex, a', h'⟩ := x; cases ex <;> first | rfl | exact ih a' h'

/-- what is written down between two pieces -/
structure St where
  n : Nat
  slots : List (Nat × AV)
  next : Nat
  blks : List (Nat × Blk)

def slotsT : List (Nat × AV) → T AV
  | [] => .leaf
  | (t, v) :: r => (slotsT r).put (t + 1) t v
def blksT (t0 : T Blk) : List (Nat × Blk) → T Blk
  | [] => t0
  | (b, c) :: r => (blksT t0 r).put (b + 1) b c
def stT (S : St) : Tmps := { n := S.n, dflt := false, t := slotsT S.slots }
def stH (L : List (Nat × List AV)) (S : St) : Heap := { next := S.next, lim := 1048576, wr := [], t := blksT (laidTree L) S.blks }

/-! equality -/
def eqNs : List Nat → List Nat → Bool
  | [], [] => true
  | x :: a, y :: b => Nat.beq x y && eqNs a b
  | _, _ => false
theorem eqNs_ok : ∀ {a b : List Nat}, eqNs a b = true → a = b
  | [], [], _ => rfl
  | x :: a, y :: b, h => by
    simp only [eqNs, Bool.and_eq_true] at h
    rw [Nat.eq_of_beq_eq_true h.1, eqNs_ok h.2]
  | [], _ :: _, h => by cases h
  | _ :: _, [], h => by cases h
def eqCap : Cap → Cap → Bool
  | .exact a, .exact b => Nat.beq a b
  | .upto a c, .upto b d => Nat.beq a b && Nat.beq c d
  | _, _ => false
theorem eqCap_ok : ∀ {a b : Cap}, eqCap a b = true → a = b
  | .exact a, .exact b, h => by rw [Nat.eq_of_beq_eq_true h]
  | .upto a c, .upto b d, h => by simp only [eqCap, Bool.and_eq_true] at h; rw [Nat.eq_of_beq_eq_true h.1, Nat.eq_of_beq_eq_true h.2]
  | .exact _, .upto _ _, h => by cases h
  | .upto _ _, .exact _, h => by cases h
def eqFn : Fn → Fn → Bool
  | .func a, .func b => Nat.beq a b
  | .yield a, .yield b => Nat.beq a b
  | _, _ => false
theorem eqFn_ok : ∀ {a b : Fn}, eqFn a b = true → a = b := by
  intro a b h
  cases a <;> cases b <;> first | (cases h; done) | (rw [Nat.eq_of_beq_eq_true h])
theorem eqI_ok : ∀ {a b : Int}, eqI a b = true → a = b := by
  intro a b h
  cases a <;> cases b <;> first | (cases h; done) | (rw [Nat.eq_of_beq_eq_true h])
theorem kEq_ok {k k' : IntKind} (h : kEq k k' = true) : k = k' := by rw [kEq_eq] at h; exact of_decide_eq_true h

mutual
noncomputable def eqAV : AV → AV → Bool
  | .bool a, .bool b => a == b
  | .int k a, .int j b => kEq k j && eqI a b
  | .str a, .str b => eqNs a b
  | .nilp, .nilp => true
  | .ptr a i, .ptr b j => Nat.beq a b && Nat.beq i j
  | .nils, .nils => true
  | .slc a i n c, .slc b j m d => Nat.beq a b && Nat.beq i j && Nat.beq n m && eqCap c d
  | .nilm, .nilm => true
  | .map a, .map b => Nat.beq a b
  | .nilf, .nilf => true
  | .fn f x y, .fn g u v => eqFn f g && eqAVs x u && eqAVs y v
  | .nili, .nili => true
  | .ifc t v, .ifc u w => Nat.beq t u && eqAV v w
  | .agg a, .agg b => eqAVs a b
  | .tup a, .tup b => eqAVs a b
  | .emp, .emp => true
  | _, _ => false
noncomputable def eqAVs : List AV → List AV → Bool
  | [], [] => true
  | a :: x, b :: y => eqAV a b && eqAVs x y
  | _, _ => false
end

mutual
theorem eqAV_ok : ∀ (a b : AV), eqAV a b = true → a = b
  | .bool a, b, h => by cases b <;> first | (cases h; done) | (simp only [eqAV, beq_iff_eq] at h; rw [h])
  | .int k a, b, h => by
    cases b <;> first | (cases h; done) | skip
    simp only [eqAV, Bool.and_eq_true] at h; rw [kEq_ok h.1, eqI_ok h.2]
  | .str a, b, h => by cases b <;> first | (cases h; done) | (simp only [eqAV] at h; rw [eqNs_ok h])
  | .nilp, b, h => by cases b <;> first | (cases h; done) | rfl
  | .ptr a i, b, h => by
    cases b <;> first | (cases h; done) | skip
    simp only [eqAV, Bool.and_eq_true] at h; rw [Nat.eq_of_beq_eq_true h.1, Nat.eq_of_beq_eq_true h.2]
  | .nils, b, h => by cases b <;> first | (cases h; done) | rfl
  | .slc a i n c, b, h => by
    cases b <;> first | (cases h; done) | skip
    simp only [eqAV, Bool.and_eq_true] at h; obtain ⟨⟨⟨h1, h2⟩, h3⟩, h4⟩ := h
    rw [Nat.eq_of_beq_eq_true h1, Nat.eq_of_beq_eq_true h2, Nat.eq_of_beq_eq_true h3, eqCap_ok h4]
  | .nilm, b, h => by cases b <;> first | (cases h; done) | rfl
  | .map a, b, h => by cases b <;> first | (cases h; done) | (simp only [eqAV] at h; rw [Nat.eq_of_beq_eq_true h])
  | .nilf, b, h => by cases b <;> first | (cases h; done) | rfl
  | .fn f x y, b, h => by
    cases b <;> first | (cases h; done) | skip
    simp only [eqAV, Bool.and_eq_true] at h; obtain ⟨⟨h1, h2⟩, h3⟩ := h
    rw [eqFn_ok h1, eqAVs_ok x _ h2, eqAVs_ok y _ h3]
  | .nili, b, h => by cases b <;> first | (cases h; done) | rfl
  | .ifc t v, b, h => by
    cases b <;> first | (cases h; done) | skip
    simp only [eqAV, Bool.and_eq_true] at h; rw [Nat.eq_of_beq_eq_true h.1, eqAV_ok v _ h.2]
  | .agg a, b, h => by cases b <;> first | (cases h; done) | (simp only [eqAV] at h; rw [eqAVs_ok a _ h])
  | .tup a, b, h => by cases b <;> first | (cases h; done) | (simp only [eqAV] at h; rw [eqAVs_ok a _ h])
  | .emp, b, h => by cases b <;> first | (cases h; done) | rfl
theorem eqAVs_ok : ∀ (a b : List AV), eqAVs a b = true → a = b
  | [], b, h => by cases b <;> first | (cases h; done) | rfl
  | x :: a, b, h => by
    cases b with
    | nil => cases h
    | cons y b => simp only [eqAVs, Bool.and_eq_true] at h; rw [eqAV_ok x y h.1, eqAVs_ok a b h.2]
end

noncomputable def eqEs : List (AV × AV × Nat) → List (AV × AV × Nat) → Bool
  | [], [] => true
  | (k, v, n) :: a, (j, w, m) :: b => eqAV k j && eqAV v w && Nat.beq n m && eqEs a b
  | _, _ => false
theorem eqEs_ok : ∀ {a b : List (AV × AV × Nat)}, eqEs a b = true → a = b
  | [], [], _ => rfl
  | (k, v, n) :: a, (j, w, m) :: b, h => by
    simp only [eqEs, Bool.and_eq_true] at h; obtain ⟨⟨⟨h1, h2⟩, h3⟩, h4⟩ := h
    rw [eqAV_ok _ _ h1, eqAV_ok _ _ h2, Nat.eq_of_beq_eq_true h3, eqEs_ok h4]
  | [], _ :: _, h => by cases h
  | _ :: _, [], h => by cases h
noncomputable def eqBlk : Blk → Blk → Bool
  | .cells t cs o, .cells u ds p => Nat.beq t u && eqAVs cs ds && o == p
  | .map es n, .map fs m => eqEs es fs && Nat.beq n m
  | .dead, .dead => true
  | .ro cs, .ro ds => eqAVs cs ds
  | _, _ => false
theorem eqBlk_ok : ∀ {a b : Blk}, eqBlk a b = true → a = b := by
  intro a b h
  cases a <;> cases b <;> first | (cases h; done) | skip
  · simp only [eqBlk, Bool.and_eq_true, beq_iff_eq] at h; obtain ⟨⟨h1, h2⟩, h3⟩ := h
    rw [Nat.eq_of_beq_eq_true h1, eqAVs_ok _ _ h2, h3]
  · simp only [eqBlk, Bool.and_eq_true] at h; rw [eqEs_ok h.1, Nat.eq_of_beq_eq_true h.2]
  · rfl
  · simp only [eqBlk] at h; rw [eqAVs_ok _ _ h]

noncomputable def slotsB (a : Tmps) : List (Nat × AV) → Bool
  | [] => true
  | (t, v) :: r => (match a.get t with | some u => eqAV v u | none => false) && slotsB a r
noncomputable def blksB (h : Heap) : List (Nat × Blk) → Bool
  | [] => true
  | (b, c) :: r => Nat.blt b 1048576 && (match h.t.get b with | some d => eqBlk c d | none => false) && blksB h r
noncomputable def laidB (h : Heap) : List (Nat × List AV) → Bool
  | [] => true
  | (g, cs) :: r => (match h.t.get (1048576 + g) with | some d => eqBlk (.ro cs) d | none => false) && laidB h r
noncomputable def subB (L : List (Nat × List AV)) (S : St) (a : Tmps) (h : Heap) : Bool :=
  Nat.beq S.n a.n && Nat.beq S.next h.next && Nat.beq h.lim 1048576 && slotsB a S.slots && blksB h S.blks && laidB h L

theorem slotsB_ok {a : Tmps} : ∀ {l : List (Nat × AV)}, slotsB a l = true → ∀ t v, (slotsT l).get t = some v → a.get t = some v
  | [], _, t, v, h => by simp [slotsT, T.get] at h
  | (t0, v0) :: r, h, t, v, hg => by
    simp only [slotsB, Bool.and_eq_true] at h
    rw [slotsT, T.get_put _ _ _ _ _ (Nat.lt_succ_self _)] at hg
    by_cases q : t = t0
    · rw [if_pos q, Option.some.injEq] at hg; subst hg; subst q
      have h1 := h.1
      cases ha : a.get t with
      | none => rw [ha] at h1; cases h1
      | some u => rw [ha] at h1; rw [eqAV_ok _ _ h1]
    · rw [if_neg q] at hg; exact slotsB_ok h.2 t v hg

theorem blksB_ok {h : Heap} {t0 : T Blk} (h0 : ∀ b c, t0.get b = some c → h.t.get b = some c) : ∀ {l : List (Nat × Blk)}, blksB h l = true → ∀ b c, (blksT t0 l).get b = some c → h.t.get b = some c
  | [], _, b, c, hg => h0 b c hg
  | (b1, c1) :: r, hb, b, c, hg => by
    simp only [blksB, Bool.and_eq_true] at hb
    rw [blksT, T.get_put _ _ _ _ _ (Nat.lt_succ_self _)] at hg
    by_cases q : b = b1
    · rw [if_pos q, Option.some.injEq] at hg; subst hg; subst q
      have h1 := hb.1.2
      cases ha : h.t.get b with
      | none => rw [ha] at h1; cases h1
      | some u => rw [ha] at h1; rw [eqBlk_ok h1]
    · rw [if_neg q] at hg; exact blksB_ok h0 hb.2 b c hg

theorem blks_above {h : Heap} {t0 : T Blk} {b : Nat} (hb : 1048576 ≤ b) : ∀ {l : List (Nat × Blk)}, blksB h l = true → (blksT t0 l).get b = t0.get b
  | [], _ => rfl
  | (b1, c1) :: r, h1 => by
    simp only [blksB, Bool.and_eq_true] at h1
    have : b1 < 1048576 := Nat.le_of_ble_eq_true h1.1.1
    rw [blksT, T.get_put _ _ _ _ _ (Nat.lt_succ_self _), if_neg (by omega)]
    exact blks_above hb h1.2

theorem laidB_ok {h : Heap} : ∀ {L : List (Nat × List AV)}, laidB h L = true → ∀ g cs, assocL L g = some cs → h.t.get (1048576 + g) = some (.ro cs)
  | [], _, g, cs, hg => by cases hg
  | (k, ks) :: r, hl, g, cs, hg => by
    simp only [laidB, Bool.and_eq_true] at hl
    simp only [assocL] at hg
    split at hg
    · rename_i hk; subst hk
      simp only [Option.some.injEq] at hg; subst hg
      have h1 := hl.1
      cases ha : h.t.get (1048576 + k) with
      | none => rw [ha] at h1; cases h1
      | some u => rw [ha] at h1; rw [← eqBlk_ok h1]
    · exact laidB_ok hl.2 g cs hg

theorem subB_ok {L : List (Nat × List AV)} {S : St} {a : Tmps} {h : Heap} (hs : subB L S a h = true) :
    Sub (stT S) (stH L S) a h ∧ ∀ g c, assocL L g = some c → (stH L S).t.get (1048576 + g) = some (.ro c) := by
  simp only [subB, Bool.and_eq_true] at hs
  obtain ⟨⟨⟨⟨⟨h1, h2⟩, h3⟩, h4⟩, h5⟩, h6⟩ := hs
  have laid : ∀ b c, (laidTree L).get b = some c → h.t.get b = some c := by
    intro b c hb
    rw [laidTree_get] at hb
    by_cases q : 1048576 ≤ b
    · rw [if_pos q] at hb
      cases ha : assocL L (b - 1048576) with
      | none => rw [ha] at hb; cases hb
      | some cs =>
        rw [ha] at hb; simp only [Option.map_some, Option.some.injEq] at hb; subst hb
        have := laidB_ok h6 _ _ ha
        rwa [show 1048576 + (b - 1048576) = b by omega] at this
    · rw [if_neg q] at hb; cases hb
  refine ⟨⟨Nat.eq_of_beq_eq_true h1, fun t v hv => ?_, Nat.eq_of_beq_eq_true h2, (Nat.eq_of_beq_eq_true h3).symm, blksB_ok laid h5⟩, fun g c hg => ?_⟩
  · refine slotsB_ok h4 t v ?_
    simp only [Tmps.get, stT] at hv
    cases hq : (slotsT S.slots).get t with
    | none => rw [hq] at hv; cases hv
    | some u => rw [hq] at hv; exact hv
  · show (blksT (laidTree L) S.blks).get (1048576 + g) = _
    rw [blks_above (Nat.le_add_right _ _) h5, laidTree_get, if_pos (Nat.le_add_right _ _), show 1048576 + g - 1048576 = g by omega, hg]; rfl

/-- one piece: it goes off its end in a state that is as written down -/
noncomputable def pieceB (L : List (Nat × List AV)) (S : St) (r : RC) : Bool :=
  @RC.rec (fun _ => Bool) (fun a h => unwritten L h.wr && subB L S a h) (fun _ _ _ => false) (fun _ _ => false) (fun _ _ _ => false) (fun _ => false) r
/-- the last piece -/
noncomputable def lastB (P : Program) (fn : Func) (L : List (Nat × List AV)) (r : RC) : Bool :=
  @RC.rec (fun _ => Bool) (fun a h => unwritten L h.wr && (match (resultsS P fn).f h a with | some (.bool b) => b | _ => false)) (fun _ _ _ => false)
    (fun a h => unwritten L h.wr && (match (resultsS P fn).f h a with | some (.bool b) => b | _ => false)) (fun _ _ _ => false) (fun _ => false) r

theorem selfS_run (P : Program) (n : Nat) : SelfS P (runS P n) n := fun m hm t args h => runS_eq P n m hm t args h

theorem piece_more {P : Program} {n : Nat} {fn : Func} {L : List (Nat × List AV)} {cs ds : List Code} {a : Tmps} {h : Heap} {S : St} (hb : pieceB L S ((chainS P cs).f (runS P n) n a h) = true) (hp : Pieces P n fn L ds (stT S) (stH L S)) :
    Pieces P n fn L (cs ++ ds) a h := by
  rw [chainS_eq (selfS_run P n)] at hb
  cases hc : chainF (codeN P n) cs a h with
  | bad q => rw [hc] at hb; cases hb
  | ok x =>
    obtain ⟨ex, a', h'⟩ := x
    rw [hc] at hb
    cases ex <;> try (cases hb; done)
    have hb : (unwritten L h'.wr && subB L S a' h') = true := hb
    simp only [Bool.and_eq_true] at hb
    obtain ⟨hs, hl⟩ := subB_ok hb.2
    exact .more hc hb.1 hs hl hp

theorem piece_last {P : Program} {n : Nat} {fn : Func} {L : List (Nat × List AV)} {cs : List Code} {a : Tmps} {h : Heap} (hb : lastB P fn L ((chainS P cs).f (runS P n) n a h) = true) : Pieces P n fn L cs a h := by
  rw [chainS_eq (selfS_run P n)] at hb
  have key : ∀ {a' h'}, (unwritten L h'.wr && (match (resultsS P fn).f h' a' with | some (.bool b) => b | _ => false)) = true → unwritten L h'.wr = true ∧ resultsA P fn h' a' = some (.bool true) := by
    intro a' h' hq
    simp only [Bool.and_eq_true, resultsS_eq] at hq
    refine ⟨hq.1, ?_⟩
    have h2 := hq.2
    split at h2
    · rename_i b hr; rw [hr, h2]
    · cases h2
  cases hc : chainF (codeN P n) cs a h with
  | bad q => rw [hc] at hb; cases hb
  | ok x =>
    obtain ⟨ex, a', h'⟩ := x
    rw [hc] at hb
    cases ex <;> try (cases hb; done)
    · obtain ⟨k1, k2⟩ := key hb; exact .last hc (.inl rfl) k2 k1
    · obtain ⟨k1, k2⟩ := key hb; exact .last hc (.inr rfl) k2 k1

end Go.Sx

namespace Go.Sx
open Go.RowKit (Below)

/-! ### Operations on contents that are not known: what they yield, if a condition holds -/

def inB (i : Int) (n : Nat) : Bool := !ltI i 0 && Nat.blt i.toNat n
def byteI (s : List Nat) (i : Int) : Int := Int.ofNat ((s.getD i.toNat 0) % 256)
def subS (s : List Nat) (l h : Nat) : List Nat := (s.drop l).take (h - l)
def isU8 : AV → Bool
  | .int .u8 _ => true
  | _ => false
def isIntC (k : IntKind) (cs : List AV) (j : Nat) : Bool := match nth cs j with
  | some (.int k' _) => decide (k' = k)
  | _ => false
def intC (cs : List AV) (j : Nat) : Int := match nth cs j with
  | some (.int _ n) => n
  | _ => 0
def isBoolC (cs : List AV) (j : Nat) : Bool := match nth cs j with
  | some (.bool _) => true
  | _ => false
def boolC (cs : List AV) (j : Nat) : Bool := match nth cs j with
  | some (.bool n) => n
  | _ => false
def isStrC (cs : List AV) (j : Nat) : Bool := match nth cs j with
  | some (.str _) => true
  | _ => false
def strC (cs : List AV) (j : Nat) : List Nat := match nth cs j with
  | some (.str n) => n
  | _ => []
inductive CK where
  | int (k : IntKind)
  | bool
  | str
def cellV (cs : List AV) (j : Nat) : CK → AV
  | .int k => .int k (intC cs j)
  | .bool => .bool (boolC cs j)
  | .str => .str (strC cs j)
def cellB (cs : List AV) (j : Nat) : CK → Bool
  | .int k => isIntC k cs j
  | .bool => isBoolC cs j
  | .str => isStrC cs j
def cellsV (cs : List AV) : Nat → List CK → List AV
  | _, [] => []
  | j, k :: ks => cellV cs j k :: cellsV cs (j + 1) ks
def andB : Bool → Bool → Bool
  | true, b => b
  | false, _ => false
theorem andB_eq {a b : Bool} : andB a b = true ↔ a = true ∧ b = true := by cases a <;> simp [andB]
def cellsB (cs : List AV) : Nat → List CK → Bool
  | _, [] => true
  | j, [k] => cellB cs j k
  | j, k :: ks => andB (cellB cs j k) (cellsB cs (j + 1) ks)
theorem cell_ok {cs : List AV} {j : Nat} {k : CK} (h : cellB cs j k = true) : nth cs j = some (cellV cs j k) := by
  cases k with
  | int k =>
    simp only [cellB, isIntC, cellV, intC] at *
    split at h
    · rename_i k' n hn
      rw [hn, of_decide_eq_true h]
    · cases h
  | bool =>
    simp only [cellB, isBoolC, cellV, boolC] at *
    split at h
    · rename_i n hn; rw [hn]
    · cases h
  | str =>
    simp only [cellB, isStrC, cellV, strC] at *
    split at h
    · rename_i n hn; rw [hn]
    · cases h
theorem cells_ok {cs : List AV} : ∀ {ks : List CK} {j : Nat}, cellsB cs j ks = true → takeN ks.length (dropN j cs) = some (cellsV cs j ks)
  | [], j, _ => by cases dropN j cs <;> rfl
  | k :: ks, j, h => by
    have hk : cellB cs j k = true ∧ cellsB cs (j + 1) ks = true := by
      cases ks with
      | nil => exact ⟨h, rfl⟩
      | cons k2 ks => exact andB_eq.1 h
    have h1 := cell_ok hk.1
    have h2 := cells_ok hk.2
    rw [nth_eq] at h1
    rw [dropN_eq] at h2 ⊢
    have hj : cs.drop j = cellV cs j k :: cs.drop (j + 1) := by
      obtain ⟨hl, he⟩ := List.getElem?_eq_some_iff.1 h1
      rw [List.drop_eq_getElem_cons hl, he]
    rw [hj]
    simp only [List.length_cons, takeN, h2, cellsV]

/-- the kinds of a type's cells, where they are ints, bools and strings -/
def ckFields (self : TypeId → Option (List CK)) : List Field → List CK → Option (List CK)
  | [], acc => some acc
  | f :: fs, acc => match Nat.beq f.offset acc.length, self f.type with
    | true, some l => ckFields self fs (acc ++ l)
    | _, _ => none
def ckRep : Nat → List CK → List CK
  | 0, _ => []
  | n + 1, l => l ++ ckRep n l
def ckOf (P : Program) : Nat → TypeId → Option (List CK)
  | 0, _ => none
  | d + 1, t => match P.underlying t with
    | some (.int k) => some [.int k]
    | some .bool => some [.bool]
    | some .string => some [.str]
    | some (.struct fs) => ckFields (ckOf P d) fs.toList []
    | some (.array n e) => match ckOf P d e with
      | some l => some (ckRep n l)
      | none => none
    | _ => none
/-- a value of the type at a place of cells -/
def partC (P : Program) (t : TypeId) (cs : List AV) (off : Nat) : Option (Bool × AV) :=
  match isAgg P t, ckOf P 20 t with
  | some true, some ks => match sizeOf P t with
    | some n => match Nat.beq n ks.length with
      | true => some (cellsB cs off ks, .agg (cellsV cs off ks))
      | false => none
    | none => none
  | some false, some [k] => some (cellB cs off k, cellV cs off k)
  | _, _ => none
theorem partC_ok {P : Program} {t : TypeId} {cs : List AV} {off : Nat} {b : Bool} {v : AV} (h : partC P t cs off = some (b, v)) (hb : b = true) : part P t cs off = some v := by
  unfold partC at h
  split at h
  · rename_i ks ha hk
    split at h
    · rename_i n hn
      split at h
      · rename_i hq
        simp only [Option.some.injEq, Prod.mk.injEq] at h; obtain ⟨rfl, rfl⟩ := h
        have hq := Nat.eq_of_beq_eq_true hq
        simp only [part, ha, hn]
        rw [hq, cells_ok hb]; rfl
      · cases h
    · cases h
  · rename_i k ha hk
    simp only [Option.some.injEq, Prod.mk.injEq] at h; obtain ⟨rfl, rfl⟩ := h
    simp only [part, ha]
    exact cell_ok hb
  · cases h
theorem part_load {P : Program} {h : Heap} {t : TypeId} {b off : Nat} {cs : List AV} {v : AV} (hc : getCells h b = some cs) (hp : part P t cs off = some v) : loadVar P h t b off = some v := by
  cases ha : isAgg P t with
  | none => simp only [part, ha] at hp; cases hp
  | some g =>
    cases g with
    | false =>
      simp only [part, ha] at hp
      simp only [loadVar, ha, hc]; exact hp
    | true =>
      cases hn : sizeOf P t with
      | none => simp only [part, ha, hn] at hp; cases hp
      | some n =>
        simp only [part, ha, hn, Option.map_eq_some_iff] at hp
        obtain ⟨l, h1, rfl⟩ := hp
        simp only [loadVar, ha, hn, loadCells]
        by_cases h0 : n = 0
        · subst h0
          have : l = [] := by cases hd : dropN off cs <;> rw [hd] at h1 <;> simp [takeN] at h1 <;> exact h1
          rw [this]; simp
        · rw [if_neg h0, hc]; simp only [h1]

abbrev SR := Option (Bool × AV × Heap)

def symLoad (P : Program) (h : Heap) (t : TypeId) (x : AV) : SR := match x with
  | .ptr b off => match getCells h b with
    | some cs => match partC P t cs off with
      | some (c, v) => some (c, v, h)
      | none => none
    | none => none
  | _ => none
def symIndex (P : Program) (h : Heap) (t : TypeId) (x i : AV) : SR := match x, i with
  | .str s, .int _ n => match P.underlying t with
    | some .string => some (inB n s.length, .int .u8 (byteI s n), h)
    | _ => none
  | .agg cs, .int _ n => match P.underlying t with
    | some (.array len e) => match sizeOf P e with
      | some z => match partC P e cs (n.toNat * z) with
        | some (c, v) => some (andB (inB n len) c, v, h)
        | none => none
      | none => none
    | _ => none
  | _, _ => none
def atI (off : Nat) (n : Int) : Nat → Nat
  | 1 => off + n.toNat
  | z => off + n.toNat * z
theorem atI_eq (off : Nat) (n : Int) (z : Nat) : atI off n z = off + n.toNat * z := by
  unfold atI; split <;> simp
def symIndexAddr (P : Program) (h : Heap) (t : TypeId) (x i : AV) : SR := match i with
  | .int _ n => match P.underlying t, x with
    | some (.array len e), .ptr b off => match sizeOf P e with
      | some z => some (inB n len, .ptr b (atI off n z), h)
      | none => none
    | some (.slice e), .slc b off len _ => match sizeOf P e with
      | some z => some (inB n len, .ptr b (atI off n z), h)
      | none => none
    | _, _ => none
  | _ => none
def putOk (cs : List AV) (off n : Nat) : Bool := Nat.ble (off + n) cs.length
def putL (cs : List AV) (off : Nat) (vs : List AV) : List AV := cs.take off ++ vs ++ cs.drop (off + vs.length)
theorem splice_put : ∀ {cs : List AV} {off : Nat} {vs : List AV}, putOk cs off vs.length = true → splice cs off vs = some (putL cs off vs)
  | cs, off, [], h => by simp [splice, putL]
  | [], off, v :: vs, h => by
    simp only [putOk] at h
    have := Nat.le_of_ble_eq_true h
    simp at this
  | c :: cs, 0, v :: vs, h => by
    have h' : putOk cs 0 vs.length = true := by
      simp only [putOk] at h ⊢
      have := Nat.le_of_ble_eq_true h
      simp at this
      exact Nat.ble_eq_true_of_le (by omega)
    have ih := splice_put h'
    simp only [splice, ih, putL]
    simp
  | c :: cs, n + 1, v :: vs, h => by
    have h' : putOk cs n (v :: vs).length = true := by
      simp only [putOk] at h ⊢
      have := Nat.le_of_ble_eq_true h
      simp at this ⊢
      omega
    have ih := splice_put h'
    simp only [splice, ih, putL, List.take_succ_cons, List.length_cons]
    rw [show n + 1 + (vs.length + 1) = (n + (vs.length + 1)) + 1 by omega, List.drop_succ_cons]
    simp
def symStore (P : Program) (h : Heap) (t : TypeId) (x v : AV) : SR := match x with
  | .ptr b off => match sizeOf P t, h.get b with
    | some n, some (.cells ty cs opn) => match Nat.beq v.cells.length n && (v.cells.all AV.plain && !v.cells.isEmpty) with
      | true => some (putOk cs off n, .undef, h.set b (.cells ty (putL cs off v.cells) opn))
      | false => none
    | _, _ => none
  | _ => none

def boundC (x : Option AV) (d : Nat) : Option (Bool × Nat) := match x with
  | none => some (true, d)
  | some (.int _ i) => some (!ltI i 0, i.toNat)
  | _ => none
theorem ltI_iff (x y : Int) : ltI x y = true ↔ x < y := by rw [ltI_eq]; simp
theorem boundC_ok {x : Option AV} {d : Nat} {b : Bool} {n : Nat} (h : boundC x d = some (b, n)) (hb : b = true) : boundA x d = some n := by
  unfold boundC at h
  split at h
  · simp only [Option.some.injEq, Prod.mk.injEq] at h; obtain ⟨rfl, rfl⟩ := h; rfl
  · rename_i i
    simp only [Option.some.injEq, Prod.mk.injEq] at h; obtain ⟨rfl, rfl⟩ := h
    have : 0 ≤ i := by
      have hb : ltI i 0 = false := by simpa using hb
      rw [ltI_eq] at hb
      have := of_decide_eq_false hb; omega
    simp only [boundA, if_pos this]
  · cases h
def orB : Bool → Bool → Bool
  | true, _ => true
  | false, b => b
theorem orB_eq {a b : Bool} : orB a b = true ↔ a = true ∨ b = true := by cases a <;> simp [orB]
def leB (a b : Nat) : Bool := Nat.ble a b
def selN (c l off y : Nat) : Nat := if c = l then off else y
/-- 0: a string, or within the capacity; 1: to the end of what is known of the capacity -/
def symSlice (P : Program) (h : Heap) (xt : TypeId) (x : AV) (lo hi mx : Option AV) (k : Nat) : SR :=
  match mx.isSome && hi.isNone with
  | true => none
  | false => match x with
    | .str s => match mx, P.underlying xt, boundC hi s.length, boundC lo 0 with
      | none, some .string, some (c1, e), some (c2, l) => some (andB (andB c1 c2) (andB (leB l e) (leB e s.length)), .str (subS s l e), h)
      | _, _, _, _ => none
    | .slc b off len cap => match P.underlying xt with
      | some (.slice et) => match sizeOf P et, boundC hi len, boundC lo 0 with
        | some (n + 1), some (c1, e), some (c2, l) => match mx with
          | some _ => match boundC mx 0 with
            | some (c3, m) => some (andB (andB c1 (andB c2 c3)) (andB (leB l e) (andB (leB e m) (leB m (match cap with
              | .exact c => c
              | .upto _ _ => len)))), .slc b (selN m l off (off + l * (n + 1))) (e - l) (.exact (m - l)), h)
            | none => none
          | none => match cap with
            | .exact c => some (andB (andB c1 c2) (andB (leB l e) (leB e c)), .slc b (selN c l off (off + l * (n + 1))) (e - l) (.exact (c - l)), h)
            | .upto sz c0 => match Nat.beq sz (n + 1), k with
              | true, 0 => some (andB (andB c1 c2) (andB (leB l e) (andB (leB e c0) (orB (Nat.beq l 0) (Nat.blt l c0)))), .slc b (off + l * (n + 1)) (e - l) (.upto sz (c0 - l)), h)
              | true, _ => some (andB (andB c1 c2) (andB (leB l e) (andB (leB e c0) (andB (!Nat.blt l c0) (!Nat.beq l 0)))), .emp, h)
              | false, _ => none
        | _, _, _ => none
      | _ => none
    | .ptr b off => match P.underlying xt with
      | some (.array kk et) => match sizeOf P et, boundC hi kk, boundC lo 0, mx with
        | some n, some (c1, e), some (c2, l), none => some (andB (andB c1 c2) (andB (leB l e) (leB e kk)), .slc b (selN kk l off (off + l * n)) (e - l) (.exact (kk - l)), h)
        | _, _, _, _ => none
      | _ => none
    | _ => none
/-! equality of values whose parts are not known -/
def eqFieldsS (P : Program) (self : TypeId → AV → AV → Option Bool) (xs ys : List AV) : List Field → Option Bool
  | [] => some true
  | f :: fs =>
    if f.name = "_" then eqFieldsS P self xs ys fs else
    match part P f.type xs f.offset, part P f.type ys f.offset with
    | some a, some b => match self f.type a b, eqFieldsS P self xs ys fs with
      | some r, some s => some (andB r s)
      | _, _ => none
    | _, _ => none
def eqElemsS (P : Program) (self : TypeId → AV → AV → Option Bool) (e : TypeId) (sz : Nat) (xs ys : List AV) : Nat → Nat → Option Bool
  | 0, _ => some true
  | n + 1, i =>
    match part P e xs (i * sz), part P e ys (i * sz) with
    | some a, some b => match self e a b, eqElemsS P self e sz xs ys n (i + 1) with
      | some r, some s => some (andB r s)
      | _, _ => none
    | _, _ => none
def eqInS (P : Program) : Nat → TypeId → AV → AV → Option Bool
  | 0, _, _, _ => none
  | d + 1, t, x, y => match P.underlying t with
    | some (.struct fs) => match x, y with
      | .agg xs, .agg ys => match P.stoodInHeld t with
        | true => none
        | false => eqFieldsS P (eqInS P d) xs ys fs.toList
      | _, _ => none
    | some (.array n e) => match x, y with
      | .agg xs, .agg ys => match sizeOf P e with
        | some sz => eqElemsS P (eqInS P d) e sz xs ys n 0
        | none => none
      | _, _ => none
    | _ => eqIn P (d + 1) t x y
theorem eqFieldsS_ok {P : Program} {s1 s2 : TypeId → AV → AV → Option Bool} (hs : ∀ t a b r, s1 t a b = some r → s2 t a b = some r) {xs ys : List AV} : ∀ {fs : List Field} {r : Bool}, eqFieldsS P s1 xs ys fs = some r → eqFieldsA P s2 xs ys fs = some r
  | [], r, h => h
  | f :: fs, r, h => by
    simp only [eqFieldsS] at h
    simp only [eqFieldsA]
    split at h
    · rename_i hn; rw [if_pos hn]; exact eqFieldsS_ok hs h
    · rename_i hn
      rw [if_neg hn]
      split at h
      · rename_i a b ha hb
        simp only [ha, hb]
        split at h
        · rename_i u v hu hv
          simp only [Option.some.injEq] at h; subst h
          rw [hs _ _ _ _ hu]
          cases u with
          | true => exact eqFieldsS_ok hs hv
          | false => rfl
        · cases h
      · cases h
theorem eqElemsS_ok {P : Program} {s1 s2 : TypeId → AV → AV → Option Bool} (hs : ∀ t a b r, s1 t a b = some r → s2 t a b = some r) {e : TypeId} {sz : Nat} {xs ys : List AV} : ∀ {n i : Nat} {r : Bool}, eqElemsS P s1 e sz xs ys n i = some r → eqElemsA P s2 e sz xs ys n i = some r
  | 0, _, r, h => h
  | n + 1, i, r, h => by
    simp only [eqElemsS] at h
    simp only [eqElemsA]
    split at h
    · rename_i a b ha hb
      simp only [ha, hb]
      split at h
      · rename_i u v hu hv
        simp only [Option.some.injEq] at h; subst h
        rw [hs _ _ _ _ hu]
        cases u with
        | true => exact eqElemsS_ok hs hv
        | false => rfl
      · cases h
    · cases h
theorem eqInS_ok {P : Program} : ∀ (d : Nat) (t : TypeId) (x y : AV) (r : Bool), eqInS P d t x y = some r → eqIn P d t x y = some r
  | 0, _, _, _, _, h => by cases h
  | d + 1, t, x, y, r, h => by
    unfold eqInS at h
    split at h
    · rename_i fs hu
      unfold eqIn
      rw [hu]
      simp only
      split at h
      · split at h
        · cases h
        · rename_i hst
          rw [hst]; exact eqFieldsS_ok (eqInS_ok d) h
      · cases h
    · rename_i n e hu
      unfold eqIn
      rw [hu]
      simp only
      split at h
      · split at h
        · rename_i sz hz
          rw [hz]; exact eqElemsS_ok (eqInS_ok d) h
        · cases h
      · cases h
    · exact h
def symBin (P : Program) (h : Heap) (op : BinOp) (t : TypeId) (x y : AV) : SR := match x, y with
  | .int k a, .int k' b => match op with
    | .quo => match decide (k = k') with
      | true => some (!eqI b 0, .int k (wrapA k (a.tdiv b)), h)
      | false => none
    | .rem => match decide (k = k') with
      | true => some (!eqI b 0, .int k (a.tmod b), h)
      | false => none
    | .shl => some (!ltI b 0, .int k (wrapA k (Int.mul a (Int.ofNat (2 ^ (Nat.min b.toNat k.bits))))), h)
    | .shr => some (!ltI b 0, .int k (a.fdiv (Int.ofNat (2 ^ (Nat.min b.toNat k.bits)))), h)
    | _ => none
  | .str a, .str b => match op with
    | .add => some (Nat.blt (a.length + b.length) 9223372036854775808, .str (a ++ b), h)
    | _ => none
  | .agg xs, .agg ys => match op, guardOk P t (.agg xs), eqInS P 100 t (.agg xs) (.agg ys) with
    | .eql, true, some r => some (true, .bool r, h)
    | .neq, true, some r => some (true, .bool (!r), h)
    | _, _, _ => none
  | _, _ => none

def strOk (cs : List AV) (off len : Nat) : Bool := Nat.ble (off + len) cs.length && ((cs.drop off).take len).all isU8
def strOf (cs : List AV) (off len : Nat) : List Nat := ((cs.drop off).take len).map fun c => match c with
  | .int _ n => n.toNat
  | _ => 0
theorem pick_all : ∀ {l : List AV}, l.all isU8 = true → l.foldr pickByte (some []) = some (l.map fun c => match c with
  | .int _ n => n.toNat
  | _ => 0)
  | [], _ => rfl
  | a :: l, h => by
    simp only [List.all_cons, Bool.and_eq_true] at h
    simp only [List.foldr_cons, List.map_cons, pick_all h.2]
    cases a with
    | int k n => cases k <;> first | rfl | (simp [isU8] at h)
    | _ => simp [isU8] at h
theorem takeN_take {n : Nat} {l : List AV} (h : n ≤ l.length) : takeN n l = some (l.take n) := by
  induction n generalizing l with
  | zero => cases l <;> rfl
  | succ n ih =>
    cases l with
    | nil => simp at h
    | cons x xs => simp only [takeN, List.take_succ_cons, ih (by simpa using h)]
theorem load_cells {h : Heap} {b off n : Nat} {cs : List AV} (hc : getCells h b = some cs) (hl : off + n ≤ cs.length) : loadCells h b off n = some ((cs.drop off).take n) := by
  unfold loadCells
  split
  · rename_i h0; subst h0; simp
  · rw [hc]; simp only [dropN_eq]
    exact takeN_take (by rw [List.length_drop]; omega)
def symConv (P : Program) (h : Heap) (s d : TypeId) (x : AV) : SR := match P.underlying s, P.underlying d, x with
  | some (.slice e), some .string, .slc b off len _ => match P.underlying e, getCells h b with
    | some (.int .u8), some cs => some (strOk cs off len, .str (strOf cs off len), h)
    | _, _ => none
  | _, _, _ => none

/-- the first cells of a slice or string that is read whole -/
def symFirst (h : Heap) (size n : Nat) : AV → Option (Bool × List AV)
  | .nils => some (true, [])
  | .emp => some (true, [])
  | .slc b off _ _ => match getCells h b with
    | some cs => some (Nat.ble (off + n * size) cs.length && ((cs.drop off).take (n * size)).all AV.plain, (cs.drop off).take (n * size))
    | none => none
  | .str s => match Nat.beq size 1 with
    | true => some (true, (s.take n).map fun b => .int .u8 (b % 256 : Nat))
    | false => none
  | _ => none
def knownN (l : List AV) : Nat → List AV
  | 1 => match l with
    | [] => []
    | x :: _ => [x]
  | _ => l
/-- 0: nothing is appended; 1: in place; 2: into new cells -/
def symAppend (P : Program) (h : Heap) (ts : List TypeId) (args : List AV) (k : Nat) : SR := match ts, args with
  | [st, xt], [s, x] => match P.underlying st, P.underlying xt with
    | some (.slice e), some xd => match (match xd with
        | .int _ => true
        | _ => false), P.info? e, zeroOf P e, lenOfA x with
      | false, some i, some z, some n => match Nat.ble 1 i.size && (Nat.ble i.bytes 65536 && Nat.beq z.cells.length i.size) with
        | true => match symFirst h i.size n x with
          | some (c0, new) => match k, s with
            | 0, .nils => some (andB (Nat.beq n 0) c0, .nils, h)
            | 2, .nils => some (andB (andB (Nat.ble n 10000000) c0) (Nat.blt 0 n), .slc h.next 0 n (.upto i.size n), h.push (.cells e new true))
            | 1, .slc b off len (.exact c) => match h.get b with
              | some (.cells ty cs opn) => some (andB (andB (Nat.ble n 10000000) c0) (andB (Nat.ble (len + n) c) (andB (Nat.blt 0 n) (putOk cs (off + len * i.size) new.length))), .slc b off (len + n) (.exact c), h.set b (.cells ty (putL cs (off + len * i.size) new) opn))
              | _ => none
            | 2, .slc b off len (.exact c) => match getCells h b with
              | some cs => some (andB (andB (Nat.ble n 10000000) c0) (andB (Nat.blt c (len + n)) (andB (Nat.ble len 10000000) (Nat.ble (off + len * i.size) cs.length))), .slc h.next 0 (len + n) (.upto i.size (len + n)), h.push (.cells e ((cs.drop off).take (len * i.size) ++ new) true))
              | none => none
            | 0, .slc b off len (.upto sz c1) => some (andB (Nat.beq n 0) c0, s, h)
            | 1, .slc b off len (.upto sz c1) => match h.get b with
              | some (.cells ty cs opn) => some (andB (andB (Nat.ble n 10000000) c0) (andB (Nat.ble (len + n) c1) (andB (Nat.blt 0 n) (andB (Nat.beq sz i.size) (andB (Nat.ble len 10000000) (putOk cs (off + len * i.size) new.length))))), .slc b off (len + n) (.upto sz c1), h.set b (.cells ty (putL cs (off + len * i.size) new) opn))
              | _ => none
            | 2, .slc b off len (.upto sz c1) => match h.get b with
              | some (.cells _ cs true) => some (andB (andB (Nat.ble n 10000000) c0) (andB (Nat.blt c1 (len + n)) (andB (Nat.blt 0 n) (andB (Nat.beq sz i.size) (andB (Nat.ble len 10000000) (Nat.beq cs.length (off + len * i.size)))))), .slc h.next 0 (len + n) (.upto i.size (len + n)), (h.set b .dead).push (.cells e (dropN off cs ++ new) true))
              | _ => none
            | _, _ => none
          | none => none
        | false => none
      | _, _, _, _ => none
    | _, _ => none
  | _, _ => none

/-- a look-up by an unknown key: it is the key number j, and none ahead of it; or none of them -/
def pickK (kd : TypeDesc) (key : AV) : List (AV × AV × Nat) → Nat → Option (Bool × Option AV)
  | [], 0 => some (true, none)
  | [], _ + 1 => none
  | e :: _, 0 => match keyEq kd key e.1 with
    | some b => some (b, some e.2.1)
    | none => none
  | e :: es, j + 1 => match keyEq kd key e.1, pickK kd key es j with
    | some b, some (c, v) => some (andB (!b) c, v)
    | _, _ => none
theorem pickK_some {kd : TypeDesc} {key : AV} : ∀ {es : List (AV × AV × Nat)} {j i : Nat} {b : Bool} {v : AV}, pickK kd key es j = some (b, some v) → b = true → ∃ l, findA kd key es i = some (some (l, v))
  | [], 0, i, b, v, h, _ => by simp [pickK] at h
  | [], _ + 1, i, b, v, h, _ => by cases h
  | e :: es, 0, i, b, v, h, hb => by
    simp only [pickK] at h
    split at h
    · rename_i c hc
      simp only [Option.some.injEq, Prod.mk.injEq] at h; obtain ⟨rfl, rfl⟩ := h
      subst hb
      exact ⟨i, by simp only [findA, hc]⟩
    · cases h
  | e :: es, j + 1, i, b, v, h, hb => by
    simp only [pickK] at h
    split at h
    · rename_i c d u hc hd
      simp only [Option.some.injEq, Prod.mk.injEq] at h; obtain ⟨rfl, rfl⟩ := h
      obtain ⟨h1, h2⟩ := andB_eq.1 hb
      obtain ⟨l, hl⟩ := pickK_some (i := i + 1) hd h2
      cases c with
      | true => cases h1
      | false => exact ⟨l, by simp only [findA, hc]; exact hl⟩
    · cases h
theorem pickK_none {kd : TypeDesc} {key : AV} : ∀ {es : List (AV × AV × Nat)} {j i : Nat} {b : Bool}, pickK kd key es j = some (b, none) → b = true → findA kd key es i = some none
  | [], 0, i, b, h, _ => rfl
  | [], _ + 1, i, b, h, _ => by cases h
  | e :: es, 0, i, b, h, hb => by
    simp only [pickK] at h
    split at h
    · simp at h
    · cases h
  | e :: es, j + 1, i, b, h, hb => by
    simp only [pickK] at h
    split at h
    · rename_i c d u hc hd
      simp only [Option.some.injEq, Prod.mk.injEq] at h; obtain ⟨rfl, rfl⟩ := h
      obtain ⟨h1, h2⟩ := andB_eq.1 hb
      cases c with
      | true => cases h1
      | false => simp only [findA, hc]; exact pickK_none hd h2
    · cases h
def entriesOf (h : Heap) : AV → Option (List (AV × AV × Nat))
  | .nilm => some []
  | .map b => match h.get b with
    | some (.map es _) => some es
    | _ => none
  | _ => none
def symLookup (P : Program) (h : Heap) (t : TypeId) (m key : AV) (ok : Bool) (j : Nat) : SR := match P.underlying t with
  | some (.map kt et) => match P.underlying kt with
    | some kd => match plainKey kd, entriesOf h m with
      | true, some es => match pickK kd key es j with
        | some (c, some v) => some (c, if ok then .tup [v, .bool true] else v, h)
        | some (c, none) => match zeroOf P et with
          | some z => some (c, if ok then .tup [z, .bool false] else z, h)
          | none => none
        | none => none
      | _, _ => none
    | none => none
  | _ => none
theorem lookupA_entries {P : Program} {h : Heap} {t kt et : TypeId} {kd : TypeDesc} {m key : AV} {ok : Bool} (hu : P.underlying t = some (.map kt et)) (hk : P.underlying kt = some kd) (hp : plainKey kd = true) :
    lookupA P h t m key ok = match entriesOf h m with
      | none => none
      | some es => match findA kd key es 0 with
        | some (some (_, v)) => some (if ok then .tup [v, .bool true] else v)
        | some none => match zeroOf P et with
          | some z => some (if ok then .tup [z, .bool false] else z)
          | none => none
        | none => none := by
  unfold lookupA entriesOf
  simp only [hu, hk, hp, Bool.not_true, Bool.false_eq_true, if_false]
  cases m <;> rfl
theorem symLookup_ok {P : Program} {h h' : Heap} {t : TypeId} {m key v : AV} {ok : Bool} {j : Nat} {b : Bool} (hs : symLookup P h t m key ok j = some (b, v, h')) (hb : b = true) : h' = h ∧ lookupA P h t m key ok = some v := by
  unfold symLookup at hs
  split at hs
  · rename_i kt et hu
    split at hs
    · rename_i kd hk
      split at hs
      · rename_i es hp he
        rw [lookupA_entries hu hk hp, he]
        split at hs
        · rename_i c v' hq
          simp only [Option.some.injEq, Prod.mk.injEq] at hs; obtain ⟨rfl, rfl, rfl⟩ := hs
          obtain ⟨l, hl⟩ := pickK_some (i := 0) hq hb
          simp only [hl]; exact ⟨trivial, trivial⟩
        · rename_i c hq
          split at hs
          · rename_i z hz
            simp only [Option.some.injEq, Prod.mk.injEq] at hs; obtain ⟨rfl, rfl, rfl⟩ := hs
            simp only [pickK_none (i := 0) hq hb, hz]; exact ⟨trivial, trivial⟩
          · cases hs
        · cases hs
      · cases hs
    · cases hs
  · cases hs

/-- what an operation does whose operands are not known, and on what condition -/
def symMake (P : Program) (h : Heap) (t : TypeId) (l c : AV) : SR := match l, c with
  | .int _ l, .int _ c => match P.underlying t with
    | some (.slice e) => match P.info? e, zeroOf P e with
      | some i, some z => match Nat.blt 0 i.size && (Nat.beq z.cells.length i.size && Nat.ble (i.bytes * 10000000) 281474976710656) with
        | true => some (andB (!ltI l 0) (andB (!ltI c l) (!ltI 10000000 c)), .slc h.next 0 l.toNat (.exact c.toNat), h.push (.cells e (repeatL c.toNat z.cells) false))
        | false => none
      | _, _ => none
    | _ => none
  | _, _ => none
theorem symMake_ok {P : Program} {h h' : Heap} {t : TypeId} {l c v : AV} {b : Bool} (hs : symMake P h t l c = some (b, v, h')) (hb : b = true) : makeSliceA P h t l c = some (v, h') := by
  unfold symMake at hs
  split at hs
  · rename_i k1 l k2 c
    split at hs
    · rename_i e hu
      split at hs
      · rename_i i z hi hz
        split at hs
        · rename_i hq
          simp only [Bool.and_eq_true] at hq
          obtain ⟨q1, q2, q3⟩ := hq
          have q1 : 0 < i.size := Nat.le_of_ble_eq_true q1
          have q2 := Nat.eq_of_beq_eq_true q2
          have q3 := Nat.le_of_ble_eq_true q3
          simp only [Option.some.injEq, Prod.mk.injEq] at hs; obtain ⟨rfl, rfl, rfl⟩ := hs
          obtain ⟨b1, b2⟩ := andB_eq.1 hb
          obtain ⟨b2, b3⟩ := andB_eq.1 b2
          simp only [ltI_eq, Bool.not_eq_true', decide_eq_false_iff_not] at b1 b2 b3
          have hm : (i.bytes : Int) * c ≤ 281474976710656 := by
            have : (i.bytes : Int) * c ≤ (i.bytes : Int) * 10000000 := Int.mul_le_mul_of_nonneg_left (by omega) (by omega)
            have q3' : ((i.bytes * 10000000 : Nat) : Int) ≤ 281474976710656 := by omega
            rw [Int.natCast_mul] at q3'
            omega
          simp only [makeSliceA, hu, hi, hz]
          rw [if_pos ⟨by omega, by omega, by omega, hm, by omega, q2⟩]
        · cases hs
      · cases hs
    · cases hs
  · cases hs
/-- copy: 0: nothing; 1: some elements -/
def symCopy (P : Program) (h : Heap) (ts : List TypeId) (args : List AV) (k : Nat) : SR := match ts, args with
  | dt :: _, [d, x] => match P.underlying dt with
    | some (.slice e) => match sizeOf P e, lenOfA x, lenOfA d with
      | some sz, some n, some m => match Nat.ble 1 sz with
        | true => match symFirst h sz (Nat.min n m) x with
          | some (c0, new) => match k, d with
            | 0, .slc _ _ _ _ => some (andB (Nat.beq (Nat.min n m) 0) c0, .int .i64 (Nat.min n m), h)
            | 1, .slc b off _ _ => match h.get b with
              | some (.cells ty cs opn) => some (andB (andB (Nat.blt 0 (Nat.min n m)) c0) (putOk cs off new.length), .int .i64 (Nat.min n m), h.set b (.cells ty (putL cs off new) opn))
              | _ => none
            | _, _ => none
          | none => none
        | false => none
      | _, _, _ => none
    | _ => none
  | _, _ => none
theorem symFirst_ok' {h : Heap} {size n : Nat} {x : AV} {c : Bool} {new : List AV} (hn : n ≤ (lenOfA x).getD 0) (hs : symFirst h size n x = some (c, new)) (hc : c = true) : firstCellsA h size n x = some new ∧ new.all AV.plain = true := by
  unfold symFirst at hs
  split at hs
  · simp only [Option.some.injEq, Prod.mk.injEq] at hs; obtain ⟨_, rfl⟩ := hs
    exact ⟨rfl, rfl⟩
  · simp only [Option.some.injEq, Prod.mk.injEq] at hs; obtain ⟨_, rfl⟩ := hs
    have : n = 0 := by simpa [lenOfA] using hn
    subst this; exact ⟨rfl, rfl⟩
  · split at hs
    · rename_i cs hcs
      simp only [Option.some.injEq, Prod.mk.injEq] at hs; obtain ⟨rfl, rfl⟩ := hs
      simp only [Bool.and_eq_true] at hc
      exact ⟨load_cells hcs (Nat.le_of_ble_eq_true hc.1), hc.2⟩
    · cases hs
  · split at hs
    · rename_i q
      simp only [Option.some.injEq, Prod.mk.injEq] at hs; obtain ⟨_, rfl⟩ := hs
      refine ⟨?_, ?_⟩
      · simp only [firstCellsA, Nat.eq_of_beq_eq_true q, if_true]
      · rw [List.all_eq_true]; intro y hy; obtain ⟨b, _, rfl⟩ := List.mem_map.1 hy; rfl
    · cases hs
  · cases hs
theorem firstCells_length' {h : Heap} {size n : Nat} {x : AV} {new : List AV} (hn : n ≤ (lenOfA x).getD 0) (hz : 1 ≤ size) (hf : firstCellsA h size n x = some new) : new.length = n * size := by
  unfold firstCellsA at hf
  split at hf
  · simp only [Option.some.injEq] at hf; subst hf
    have : n = 0 := by simpa [lenOfA] using hn
    subst this; simp
  · split at hf
    · rename_i q; simp only [Option.some.injEq] at hf; subst hf; subst q; simp
    · cases hf
  · unfold loadCells at hf
    split at hf
    · rename_i q; simp only [Option.some.injEq] at hf; subst hf; simp [q]
    · split at hf
      · exact (takeN_spec hf).2
      · cases hf
  · split at hf
    · rename_i s q
      simp only [Option.some.injEq] at hf; subst hf; subst q
      have : n ≤ s.length := by simpa [lenOfA] using hn
      simp; omega
    · cases hf
  · cases hf
theorem symCopy_ok {P : Program} {h h' : Heap} {ts : List TypeId} {args : List AV} {k : Nat} {v : AV} {b : Bool} (hs : symCopy P h ts args k = some (b, v, h')) (hb : b = true) : copyA P h ts args = some (v, h') := by
  unfold symCopy at hs
  split at hs
  · rename_i dt _ d x
    split at hs
    · rename_i e hu
      split at hs
      · rename_i sz n m hsz hn hm
        split at hs
        · rename_i hz
          have hz := Nat.le_of_ble_eq_true hz
          split at hs
          · rename_i c0 new hf
            have hle : Nat.min n m ≤ (lenOfA x).getD 0 := by rw [hn]; exact Nat.min_le_left _ _
            have key : c0 = true → firstCellsA h sz (Nat.min n m) x = some new ∧ new.all AV.plain = true := fun hc => symFirst_ok' hle hf hc
            split at hs
            · rename_i b0 off l cp
              simp only [Option.some.injEq, Prod.mk.injEq] at hs; obtain ⟨rfl, rfl, rfl⟩ := hs
              obtain ⟨h1, h2⟩ := andB_eq.1 hb
              obtain ⟨k1, k2⟩ := key h2
              have h1 := Nat.eq_of_beq_eq_true h1
              have hl := firstCells_length' hle hz k1
              rw [h1, Nat.zero_mul] at hl
              have : new = [] := List.eq_nil_of_length_eq_zero hl
              subst this
              simp only [copyA, hu, hsz, hn, hm, k1, storeCells, List.isEmpty_nil, if_true]
            · rename_i b0 off l cp
              split at hs
              · rename_i ty cs opn hg
                simp only [Option.some.injEq, Prod.mk.injEq] at hs; obtain ⟨rfl, rfl, rfl⟩ := hs
                obtain ⟨h1, h2⟩ := andB_eq.1 hb
                obtain ⟨h1, h3⟩ := andB_eq.1 h1
                obtain ⟨k1, k2⟩ := key h3
                have h1 : 0 < Nat.min n m := Nat.le_of_ble_eq_true h1
                have hl := firstCells_length' hle hz k1
                have hp : 0 < Nat.min n m * sz := Nat.mul_pos h1 hz
                have he : new.isEmpty = false := by
                  cases new with
                  | nil => simp only [List.length_nil] at hl; omega
                  | cons _ _ => rfl
                simp only [copyA, hu, hsz, hn, hm, k1, storeCells, he, k2, hg, splice_put h2, Bool.not_true, Bool.false_eq_true, if_false]
              · cases hs
            · cases hs
          · cases hs
        · cases hs
      · cases hs
    · cases hs
  · cases hs
def symA (P : Program) (h : Heap) (a : Tmps) (o : Oper) (k : Nat) : SR := match o.op with
  | .load t x => match evalA a x with
    | some x => symLoad P h t x
    | none => none
  | .store t x y => match evalA a x, evalA a y with
    | some x, some y => symStore P h t x y
    | _, _ => none
  | .index t x i => match evalA a x, evalA a i with
    | some x, some i => symIndex P h t x i
    | _, _ => none
  | .indexAddr t x i => match evalA a x, evalA a i with
    | some x, some i => symIndexAddr P h t x i
    | _, _ => none
  | .slice t x lo hi mx => match evalA a x, evalOpt a lo, evalOpt a hi, evalOpt a mx with
    | some x, some lo, some hi, some mx => symSlice P h t x lo hi mx k
    | _, _, _, _ => none
  | .binOp op t x y _ => match evalA a x, evalA a y with
    | some x, some y => symBin P h op t x y
    | _, _ => none
  | .convert s d x => match evalA a x with
    | some x => symConv P h s d x
    | none => none
  | .lookup t x y ok => match evalA a x, evalA a y with
    | some x, some y => symLookup P h t x y ok k
    | _, _ => none
  | .call c => match evalAs a c.args.toList, c.callee with
    | some args, .builtin .append => symAppend P h c.argTypes.toList args k
    | some args, .builtin .copy => symCopy P h c.argTypes.toList args k
    | _, _ => none
  | .makeSlice t l c => match evalA a l, evalA a c with
    | some l, some c => symMake P h t l c
    | _, _ => none
  | _ => none

/-- what it means that it is right -/
def SymOk (P : Program) (h : Heap) (a : Tmps) (o : Oper) (v : AV) (h' : Heap) : Prop := opA P h a o = some (.val v h') ∨ (opA P h a o = some (.skip h') ∧ v = .undef)

theorem symLoad_ok {P : Program} {h h' : Heap} {t : TypeId} {x v : AV} {b : Bool} (hs : symLoad P h t x = some (b, v, h')) (hb : b = true) : h' = h ∧ ∃ k off, x = .ptr k off ∧ loadVar P h t k off = some v := by
  unfold symLoad at hs
  split at hs
  · split at hs
    · rename_i cs hc
      split at hs
      · rename_i c u hp
        simp only [Option.some.injEq, Prod.mk.injEq] at hs; obtain ⟨rfl, rfl, rfl⟩ := hs
        exact ⟨rfl, _, _, rfl, part_load hc (partC_ok hp hb)⟩
      · cases hs
    · cases hs
  · cases hs
theorem inB_ok {i : Int} {n : Nat} (h : inB i n = true) : ¬ i < 0 ∧ i.toNat < n := by
  simp only [inB, Bool.and_eq_true, Bool.not_eq_true'] at h
  have h1 := h.1
  rw [ltI_eq] at h1
  exact ⟨of_decide_eq_false h1, Nat.le_of_ble_eq_true h.2⟩
theorem symIndex_ok {P : Program} {h h' : Heap} {t : TypeId} {x i v : AV} {b : Bool} (hs : symIndex P h t x i = some (b, v, h')) (hb : b = true) : h' = h ∧ indexA P t x i = some v := by
  unfold symIndex at hs
  split at hs
  · rename_i s k n
    split at hs
    · rename_i hu
      simp only [Option.some.injEq, Prod.mk.injEq] at hs; obtain ⟨rfl, rfl, rfl⟩ := hs
      obtain ⟨h1, h2⟩ := inB_ok hb
      refine ⟨rfl, ?_⟩
      simp only [indexA, if_neg h1, hu]
      have : nth s n.toNat = some (s.getD n.toNat 0) := by
        rw [nth_eq]; simp [List.getD, List.getElem?_eq_getElem h2]
      rw [this]; rfl
    · cases hs
  · rename_i cs k n
    split at hs
    · rename_i len e hu
      split at hs
      · rename_i z hz
        split at hs
        · rename_i c u hp
          simp only [Option.some.injEq, Prod.mk.injEq] at hs; obtain ⟨rfl, rfl, rfl⟩ := hs
          obtain ⟨h0, hc⟩ := andB_eq.1 hb
          obtain ⟨h1, h2⟩ := inB_ok h0
          refine ⟨rfl, ?_⟩
          simp only [indexA, if_neg h1, hu, hz, if_pos h2]
          exact partC_ok hp hc
        · cases hs
      · cases hs
    · cases hs
  · cases hs
theorem symIndexAddr_ok {P : Program} {h h' : Heap} {t : TypeId} {x i v : AV} {b : Bool} (hs : symIndexAddr P h t x i = some (b, v, h')) (hb : b = true) : h' = h ∧ indexAddrA P t x i = some v := by
  unfold symIndexAddr at hs
  split at hs
  · rename_i k n
    split at hs
    · rename_i len e b' off hu
      split at hs
      · rename_i z hz
        simp only [Option.some.injEq, Prod.mk.injEq] at hs; obtain ⟨rfl, rfl, rfl⟩ := hs
        obtain ⟨h1, h2⟩ := inB_ok hb
        refine ⟨rfl, ?_⟩
        simp only [indexAddrA, if_neg h1, hu, hz, if_pos h2, atI_eq]
      · cases hs
    · rename_i e b' off len c hu
      split at hs
      · rename_i z hz
        simp only [Option.some.injEq, Prod.mk.injEq] at hs; obtain ⟨rfl, rfl, rfl⟩ := hs
        obtain ⟨h1, h2⟩ := inB_ok hb
        refine ⟨rfl, ?_⟩
        simp only [indexAddrA, if_neg h1, hu, hz, if_pos h2, atI_eq]
      · cases hs
    · cases hs
  · cases hs
theorem symStore_ok {P : Program} {h h' : Heap} {t : TypeId} {x y v : AV} {b : Bool} (hs : symStore P h t x y = some (b, v, h')) (hb : b = true) : v = .undef ∧ ∃ k off, x = .ptr k off ∧ storeVar P h t k off y = some h' := by
  unfold symStore at hs
  split at hs
  · rename_i k off
    split at hs
    · rename_i n ty cs opn hn hk
      split at hs
      · rename_i hq
        simp only [Bool.and_eq_true, Bool.not_eq_true'] at hq
        obtain ⟨q1, q2, q3⟩ := hq
        have q1 := Nat.eq_of_beq_eq_true q1
        simp only [Option.some.injEq, Prod.mk.injEq] at hs; obtain ⟨rfl, rfl, rfl⟩ := hs
        refine ⟨rfl, _, _, rfl, ?_⟩
        rw [← q1] at hb
        simp only [storeVar, hn, if_pos q1, storeCells, q3, q2, hk, splice_put hb]
        simp
      · cases hs
    · cases hs
  · cases hs
theorem leB_le {a b : Nat} : leB a b = true ↔ a ≤ b := ⟨fun h => Nat.le_of_ble_eq_true h, fun h => Nat.ble_eq_true_of_le h⟩
theorem symSlice_ok {P : Program} {h h' : Heap} {t : TypeId} {x v : AV} {lo hi mx : Option AV} {k : Nat} {b : Bool} (hs : symSlice P h t x lo hi mx k = some (b, v, h')) (hb : b = true) : h' = h ∧ (mx.isSome && hi.isNone) = false ∧ sliceA P t x lo hi mx = some v := by
  unfold symSlice at hs
  split at hs
  · cases hs
  rename_i hmh
  refine (fun (q : h' = h ∧ sliceA P t x lo hi mx = some v) => ⟨q.1, hmh, q.2⟩) ?_
  split at hs
  · rename_i s
    split at hs
    · rename_i c1 e c2 l hu h1 h2
      simp only [Option.some.injEq, Prod.mk.injEq] at hs; obtain ⟨rfl, rfl, rfl⟩ := hs
      obtain ⟨p, q⟩ := andB_eq.1 hb
      obtain ⟨p1, p2⟩ := andB_eq.1 p
      obtain ⟨q1, q2⟩ := andB_eq.1 q
      refine ⟨rfl, ?_⟩
      simp only [sliceA, hu, boundC_ok h1 p1, boundC_ok h2 p2]
      rw [if_pos ⟨leB_le.1 q1, leB_le.1 q2⟩]; rfl
    · cases hs
  · rename_i b' off len cap
    split at hs
    · rename_i et hu
      split at hs
      · rename_i n c1 e c2 l hz h1 h2
        split at hs
        · rename_i m
          split at hs
          · rename_i c3 m' h3
            simp only [Option.some.injEq, Prod.mk.injEq] at hs; obtain ⟨rfl, rfl, rfl⟩ := hs
            obtain ⟨p, q⟩ := andB_eq.1 hb
            obtain ⟨p1, p⟩ := andB_eq.1 p
            obtain ⟨p2, p3⟩ := andB_eq.1 p
            obtain ⟨q1, q⟩ := andB_eq.1 q
            obtain ⟨q2, q3⟩ := andB_eq.1 q
            refine ⟨rfl, ?_⟩
            simp only [sliceA, hu, hz, boundC_ok h1 p1, boundC_ok h2 p2, boundC_ok h3 p3, Nat.succ_ne_zero, if_false]
            cases cap with
            | exact c => simp only []; rw [if_pos ⟨leB_le.1 q1, leB_le.1 q2, leB_le.1 q3⟩]; rfl
            | upto sz c0 => simp only []; rw [if_pos ⟨leB_le.1 q1, leB_le.1 q2, leB_le.1 q3⟩]; rfl
          · cases hs
        · split at hs
          · rename_i c
            simp only [Option.some.injEq, Prod.mk.injEq] at hs; obtain ⟨rfl, rfl, rfl⟩ := hs
            obtain ⟨p, q⟩ := andB_eq.1 hb
            obtain ⟨p1, p2⟩ := andB_eq.1 p
            obtain ⟨q1, q2⟩ := andB_eq.1 q
            refine ⟨rfl, ?_⟩
            simp only [sliceA, hu, hz, boundC_ok h1 p1, boundC_ok h2 p2, Nat.succ_ne_zero, if_false]
            rw [if_pos ⟨leB_le.1 q1, leB_le.1 q2⟩]; rfl
          · rename_i sz c0
            split at hs
            · rename_i hz2
              have hz2 := Nat.eq_of_beq_eq_true hz2
              simp only [Option.some.injEq, Prod.mk.injEq] at hs; obtain ⟨rfl, rfl, rfl⟩ := hs
              obtain ⟨p, q⟩ := andB_eq.1 hb
              obtain ⟨p1, p2⟩ := andB_eq.1 p
              obtain ⟨q1, q⟩ := andB_eq.1 q
              obtain ⟨q2, q3⟩ := andB_eq.1 q
              refine ⟨rfl, ?_⟩
              simp only [sliceA, hu, hz, boundC_ok h1 p1, boundC_ok h2 p2, Nat.succ_ne_zero, if_false]
              rw [if_pos ⟨leB_le.1 q1, leB_le.1 q2, hz2⟩, if_pos]
              rcases orB_eq.1 q3 with r | r
              · exact .inr (Nat.eq_of_beq_eq_true r)
              · exact .inl (Nat.le_of_ble_eq_true r)
            · rename_i hz2 _
              have hz2 := Nat.eq_of_beq_eq_true hz2
              simp only [Option.some.injEq, Prod.mk.injEq] at hs; obtain ⟨rfl, rfl, rfl⟩ := hs
              obtain ⟨p, q⟩ := andB_eq.1 hb
              obtain ⟨p1, p2⟩ := andB_eq.1 p
              obtain ⟨q1, q⟩ := andB_eq.1 q
              obtain ⟨q2, q3⟩ := andB_eq.1 q
              obtain ⟨q3, q4⟩ := andB_eq.1 q3
              refine ⟨rfl, ?_⟩
              simp only [sliceA, hu, hz, boundC_ok h1 p1, boundC_ok h2 p2, Nat.succ_ne_zero, if_false]
              simp only [Bool.not_eq_true'] at q3 q4
              rw [if_pos ⟨leB_le.1 q1, leB_le.1 q2, hz2⟩, if_neg]
              rintro (r | r)
              · have := Nat.ble_eq_true_of_le (show l + 1 ≤ c0 from r)
                have q3 : Nat.ble (l + 1) c0 = false := q3
                rw [this] at q3; cases q3
              · subst r; cases q4
            · cases hs
      · cases hs
    · cases hs
  · rename_i b' off
    split at hs
    · rename_i kk et hu
      split at hs
      · rename_i n c1 e c2 l hz h1 h2
        simp only [Option.some.injEq, Prod.mk.injEq] at hs; obtain ⟨rfl, rfl, rfl⟩ := hs
        obtain ⟨p, q⟩ := andB_eq.1 hb
        obtain ⟨p1, p2⟩ := andB_eq.1 p
        obtain ⟨q1, q2⟩ := andB_eq.1 q
        refine ⟨rfl, ?_⟩
        have hm : boundA none kk = some kk := rfl
        simp only [sliceA, hu, hz, boundC_ok h1 p1, boundC_ok h2 p2, hm]
        rw [if_pos ⟨leB_le.1 q1, leB_le.1 q2, Nat.le_refl _⟩]; rfl
      · cases hs
    · cases hs
  · cases hs
theorem symBin_ok {P : Program} {h h' : Heap} {op : BinOp} {t : TypeId} {x y v : AV} {b : Bool} (hs : symBin P h op t x y = some (b, v, h')) (hb : b = true) : h' = h ∧ binA P op t x y = some v := by
  unfold symBin at hs
  split at hs
  · rename_i k a k' c
    split at hs
    · split at hs
      · rename_i hk
        have hk := of_decide_eq_true hk
        simp only [Option.some.injEq, Prod.mk.injEq] at hs; obtain ⟨rfl, rfl, rfl⟩ := hs
        simp only [Bool.not_eq_true'] at hb
        refine ⟨rfl, ?_⟩
        simp only [binA, if_pos hk, intBin, hb]
      · cases hs
    · split at hs
      · rename_i hk
        have hk := of_decide_eq_true hk
        simp only [Option.some.injEq, Prod.mk.injEq] at hs; obtain ⟨rfl, rfl, rfl⟩ := hs
        simp only [Bool.not_eq_true'] at hb
        refine ⟨rfl, ?_⟩
        simp only [binA, if_pos hk, intBin, hb]
      · cases hs
    · simp only [Option.some.injEq, Prod.mk.injEq] at hs; obtain ⟨rfl, rfl, rfl⟩ := hs
      simp only [Bool.not_eq_true'] at hb
      exact ⟨rfl, by simp only [binA, shiftOp, hb]⟩
    · simp only [Option.some.injEq, Prod.mk.injEq] at hs; obtain ⟨rfl, rfl, rfl⟩ := hs
      simp only [Bool.not_eq_true'] at hb
      exact ⟨rfl, by simp only [binA, shiftOp, hb]⟩
    · cases hs
  · rename_i a c
    split at hs
    · simp only [Option.some.injEq, Prod.mk.injEq] at hs; obtain ⟨rfl, rfl, rfl⟩ := hs
      exact ⟨rfl, by simp only [binA, strBin]; rw [if_pos (show a.length + c.length < 9223372036854775808 from Nat.le_of_ble_eq_true hb)]⟩
    · cases hs
  · split at hs
    · rename_i r hg hr
      simp only [Option.some.injEq, Prod.mk.injEq] at hs; obtain ⟨rfl, rfl, rfl⟩ := hs
      exact ⟨rfl, by simp only [binA, hg, eqInS_ok _ _ _ _ _ hr]; rfl⟩
    · rename_i r hg hr
      simp only [Option.some.injEq, Prod.mk.injEq] at hs; obtain ⟨rfl, rfl, rfl⟩ := hs
      exact ⟨rfl, by simp only [binA, hg, eqInS_ok _ _ _ _ _ hr]; rfl⟩
    · cases hs
  · cases hs
theorem symConv_ok {P : Program} {h h' : Heap} {s d : TypeId} {x v : AV} {b : Bool} (hs : symConv P h s d x = some (b, v, h')) (hb : b = true) : convA P h s d x = some (v, h') := by
  unfold symConv at hs
  split at hs
  · rename_i e b' off len cap h1 h2
    split at hs
    · rename_i cs h3 h4
      simp only [Option.some.injEq, Prod.mk.injEq] at hs; obtain ⟨rfl, rfl, rfl⟩ := hs
      simp only [strOk, Bool.and_eq_true] at hb
      simp only [convA, h1, h2, h3, load_cells h4 (Nat.le_of_ble_eq_true hb.1), pick_all hb.2]
      rfl
    · cases hs
  · cases hs
theorem symFirst_ok {h : Heap} {size n : Nat} {x : AV} {c : Bool} {new : List AV} (hn : lenOfA x = some n) (hs : symFirst h size n x = some (c, new)) (hc : c = true) : firstCellsA h size n x = some new ∧ new.all AV.plain = true := by
  unfold symFirst at hs
  split at hs
  · simp only [Option.some.injEq, Prod.mk.injEq] at hs; obtain ⟨rfl, rfl⟩ := hs
    exact ⟨rfl, rfl⟩
  · simp only [Option.some.injEq, Prod.mk.injEq] at hs; obtain ⟨rfl, rfl⟩ := hs
    simp only [lenOfA, Option.some.injEq] at hn
    exact ⟨by simp [firstCellsA, ← hn], rfl⟩
  · split at hs
    · rename_i cs hcs
      simp only [Option.some.injEq, Prod.mk.injEq] at hs; obtain ⟨rfl, rfl⟩ := hs
      simp only [Bool.and_eq_true] at hc
      exact ⟨by simp only [firstCellsA]; exact load_cells hcs (Nat.le_of_ble_eq_true hc.1), hc.2⟩
    · cases hs
  · split at hs
    · rename_i hz
      have hz := Nat.eq_of_beq_eq_true hz
      simp only [Option.some.injEq, Prod.mk.injEq] at hs; obtain ⟨rfl, rfl⟩ := hs
      refine ⟨by simp only [firstCellsA, if_pos hz], ?_⟩
      rw [List.all_eq_true]
      intro x hx
      obtain ⟨y, _, rfl⟩ := List.mem_map.1 hx
      rfl
    · cases hs
  · cases hs
theorem firstCells_length {h : Heap} {size n : Nat} {x : AV} {new : List AV} (hn : lenOfA x = some n) (hz : 1 ≤ size) (hf : firstCellsA h size n x = some new) : new.length = n * size := by
  unfold firstCellsA at hf
  split at hf
  · simp only [Option.some.injEq] at hf; subst hf
    simp only [lenOfA, Option.some.injEq] at hn; subst hn; simp
  · split at hf
    · rename_i h0
      simp only [Option.some.injEq] at hf; subst hf; subst h0; simp
    · cases hf
  · unfold loadCells at hf
    split at hf
    · rename_i h0; simp only [Option.some.injEq] at hf; subst hf; rw [h0]; rfl
    · split at hf
      · exact (takeN_spec hf).2
      · cases hf
  · rename_i s
    simp only [lenOfA, Option.some.injEq] at hn; subst hn
    split at hf
    · rename_i h1
      simp only [Option.some.injEq] at hf; subst hf; subst h1; simp
    · cases hf
  · cases hf
theorem not_empty {l : List AV} {n : Nat} (h : l.length = n) (hn : 0 < n) : l.isEmpty = false := by
  cases l with
  | nil => simp at h; omega
  | cons => rfl
theorem ble_le {a b : Nat} (h : Nat.ble a b = true) : a ≤ b := Nat.le_of_ble_eq_true h
theorem blt_lt {a b : Nat} (h : Nat.blt a b = true) : a < b := Nat.le_of_ble_eq_true h
theorem symAppend_ok {P : Program} {h h' : Heap} {ts : List TypeId} {args : List AV} {k : Nat} {v : AV} {b : Bool} (hs : symAppend P h ts args k = some (b, v, h')) (hb : b = true) : appendA P h ts args = some (v, h') := by
  unfold symAppend at hs
  split at hs
  · rename_i st xt s x
    split at hs
    · rename_i e xd hu1 hu2
      split at hs
      · rename_i i z n hxd hi hz hn
        split at hs
        · rename_i hq
          simp only [Bool.and_eq_true] at hq
          obtain ⟨q1, q2, q3⟩ := hq
          have q1 := ble_le q1
          have q2 := ble_le q2
          have q3 := Nat.eq_of_beq_eq_true q3
          have hA : ∀ r, (¬ (i.size = 0 ∨ n > 10000000 ∨ i.bytes > 65536 ∨ z.cells.length ≠ i.size) → (match firstCellsA h i.size n x with
              | none => none
              | some new => if !new.all AV.plain then none else
                match s with
                | .nils => if n = 0 then some (AV.nils, h) else some (.slc h.next 0 n (.upto i.size n), h.push (.cells e new true))
                | .slc b off len (.exact c) =>
                  if len + n ≤ c then match storeCells h b (off + len * i.size) new with
                    | some h' => some (.slc b off (len + n) (.exact c), h')
                    | none => none
                  else if len > 10000000 then none else match loadCells h b off (len * i.size) with
                    | some old => some (.slc h.next 0 (len + n) (.upto i.size (len + n)), h.push (.cells e (old ++ new) true))
                    | none => none
                | .slc b off len (.upto sz c0) =>
                  if n = 0 then some (s, h) else
                  if len > 10000000 ∨ sz ≠ i.size then none else
                  if len + n ≤ c0 then match storeCells h b (off + len * i.size) new with
                    | some h' => some (.slc b off (len + n) (.upto sz c0), h')
                    | none => none
                  else match h.get b with
                    | some (.cells _ cs true) => if cs.length = off + len * i.size then
                        some (.slc h.next 0 (len + n) (.upto i.size (len + n)), (h.set b .dead).push (.cells e (dropN off cs ++ new) true))
                      else none
                    | _ => none
                | _ => none) = some r) → n ≤ 10000000 → appendA P h [st, xt] [s, x] = some r := by
            intro r hr hle
            have hc : ¬ (i.size = 0 ∨ n > 10000000 ∨ i.bytes > 65536 ∨ z.cells.length ≠ i.size) := by omega
            have hr := hr hc
            simp only [appendA, hu1, hu2]
            cases xd <;> first | (cases hxd; done) | (simp only [hi, hz, hn, if_neg hc]; exact hr)
          split at hs
          · rename_i c0 new hf
            split at hs
            · -- 0, nils
              simp only [Option.some.injEq, Prod.mk.injEq] at hs; obtain ⟨rfl, rfl, rfl⟩ := hs
              obtain ⟨p1, p2⟩ := andB_eq.1 hb
              have p1 := Nat.eq_of_beq_eq_true p1
              obtain ⟨f1, f2⟩ := symFirst_ok hn hf p2
              subst p1
              refine hA _ (fun _ => ?_) (by omega)
              simp only [f1, f2]; simp
            · simp only [Option.some.injEq, Prod.mk.injEq] at hs; obtain ⟨rfl, rfl, rfl⟩ := hs
              obtain ⟨p1, p2⟩ := andB_eq.1 hb
              obtain ⟨p1, p3⟩ := andB_eq.1 p1
              obtain ⟨f1, f2⟩ := symFirst_ok hn hf p3
              have p1 := ble_le p1
              have p2 := blt_lt p2
              refine hA _ (fun _ => ?_) p1
              simp only [f1, f2]; simp; omega
            · rename_i b' off len c
              split at hs
              · rename_i ty cs opn hbk
                simp only [Option.some.injEq, Prod.mk.injEq] at hs; obtain ⟨rfl, rfl, rfl⟩ := hs
                obtain ⟨p1, p2⟩ := andB_eq.1 hb
                obtain ⟨p1, p3⟩ := andB_eq.1 p1
                obtain ⟨p2, p4⟩ := andB_eq.1 p2
                obtain ⟨p4, p5⟩ := andB_eq.1 p4
                obtain ⟨f1, f2⟩ := symFirst_ok hn hf p3
                have fl := firstCells_length hn q1 f1
                have p1 := ble_le p1
                have p2 := ble_le p2
                have p4 := blt_lt p4
                have hne := not_empty fl (Nat.mul_pos p4 q1)
                refine hA _ (fun _ => ?_) p1
                simp only [f1, f2, if_pos p2, storeCells, hne, hbk, splice_put p5]; simp
              · cases hs
            · rename_i b' off len c
              split at hs
              · rename_i cs hcs
                simp only [Option.some.injEq, Prod.mk.injEq] at hs; obtain ⟨rfl, rfl, rfl⟩ := hs
                obtain ⟨p1, p2⟩ := andB_eq.1 hb
                obtain ⟨p1, p3⟩ := andB_eq.1 p1
                obtain ⟨p2, p4⟩ := andB_eq.1 p2
                obtain ⟨p4, p5⟩ := andB_eq.1 p4
                obtain ⟨f1, f2⟩ := symFirst_ok hn hf p3
                have p1 := ble_le p1
                have p2 := blt_lt p2
                have p4 := ble_le p4
                have p5 := ble_le p5
                refine hA _ (fun _ => ?_) p1
                simp only [f1, f2, load_cells hcs p5]
                rw [if_neg (by simp), if_neg (by omega), if_neg (by omega)]
              · cases hs
            · rename_i b' off len sz c1
              simp only [Option.some.injEq, Prod.mk.injEq] at hs; obtain ⟨rfl, rfl, rfl⟩ := hs
              obtain ⟨p1, p2⟩ := andB_eq.1 hb
              have p1 := Nat.eq_of_beq_eq_true p1
              obtain ⟨f1, f2⟩ := symFirst_ok hn hf p2
              subst p1
              refine hA _ (fun _ => ?_) (by omega)
              simp only [f1, f2]; simp
            · rename_i b' off len sz c1
              split at hs
              · rename_i ty cs opn hbk
                simp only [Option.some.injEq, Prod.mk.injEq] at hs; obtain ⟨rfl, rfl, rfl⟩ := hs
                obtain ⟨p1, p2⟩ := andB_eq.1 hb
                obtain ⟨p1, p3⟩ := andB_eq.1 p1
                obtain ⟨p2, p4⟩ := andB_eq.1 p2
                obtain ⟨p4, p5⟩ := andB_eq.1 p4
                obtain ⟨p5, p6⟩ := andB_eq.1 p5
                obtain ⟨p6, p7⟩ := andB_eq.1 p6
                obtain ⟨f1, f2⟩ := symFirst_ok hn hf p3
                have fl := firstCells_length hn q1 f1
                have p1 := ble_le p1
                have p2 := ble_le p2
                have p4 := blt_lt p4
                have p5 := Nat.eq_of_beq_eq_true p5
                have p6 := ble_le p6
                have hne := not_empty fl (Nat.mul_pos p4 q1)
                refine hA _ (fun _ => ?_) p1
                simp only [f1, f2, storeCells, hne, hbk, splice_put p7]
                rw [if_neg (by simp), if_neg (by omega), if_neg (by omega), if_pos p2]; simp
              · cases hs
            · rename_i b' off len sz c1
              split at hs
              · rename_i ty cs hbk
                simp only [Option.some.injEq, Prod.mk.injEq] at hs; obtain ⟨rfl, rfl, rfl⟩ := hs
                obtain ⟨p1, p2⟩ := andB_eq.1 hb
                obtain ⟨p1, p3⟩ := andB_eq.1 p1
                obtain ⟨p2, p4⟩ := andB_eq.1 p2
                obtain ⟨p4, p5⟩ := andB_eq.1 p4
                obtain ⟨p5, p6⟩ := andB_eq.1 p5
                obtain ⟨p6, p7⟩ := andB_eq.1 p6
                obtain ⟨f1, f2⟩ := symFirst_ok hn hf p3
                have p1 := ble_le p1
                have p2 := blt_lt p2
                have p4 := blt_lt p4
                have p5 := Nat.eq_of_beq_eq_true p5
                have p6 := ble_le p6
                have p7 := Nat.eq_of_beq_eq_true p7
                refine hA _ (fun _ => ?_) p1
                simp only [f1, f2, hbk]
                rw [if_neg (by simp), if_neg (by omega), if_neg (by omega), if_neg (by omega), if_pos p7]
              · cases hs
            · cases hs
          · cases hs
        · cases hs
      · cases hs
    · cases hs
  · cases hs

theorem symA_ok {P : Program} {h h' : Heap} {a : Tmps} {o : Oper} {k : Nat} {v : AV} {b : Bool} (hs : symA P h a o k = some (b, v, h')) (hb : b = true) : SymOk P h a o v h' := by
  unfold symA at hs
  unfold SymOk
  split at hs
  · rename_i t x ho
    split at hs
    · rename_i u hx
      obtain ⟨rfl, k', off, rfl, h2⟩ := symLoad_ok hs hb
      left; simp only [opA, ho, hx, h2]; rfl
    · cases hs
  · rename_i t x y ho
    split at hs
    · rename_i u u2 hx hy
      obtain ⟨rfl, k', off, rfl, h2⟩ := symStore_ok hs hb
      right; simp only [opA, ho, hx, hy, h2]; exact ⟨rfl, trivial⟩
    · cases hs
  · rename_i t x i ho
    split at hs
    · rename_i u u2 hx hy
      obtain ⟨rfl, h2⟩ := symIndex_ok hs hb
      left; simp only [opA, ho, hx, hy, h2]; rfl
    · cases hs
  · rename_i t x i ho
    split at hs
    · rename_i u u2 hx hy
      obtain ⟨rfl, h2⟩ := symIndexAddr_ok hs hb
      left; simp only [opA, ho, hx, hy, h2]; rfl
    · cases hs
  · rename_i t x lo hi mx ho
    split at hs
    · rename_i u l e m hx hl he hm
      obtain ⟨rfl, h1, h2⟩ := symSlice_ok hs hb
      left; simp only [opA, ho, hx, hl, he, hm, h2, h1]; rfl
    · cases hs
  · rename_i op t x y _ ho
    split at hs
    · rename_i u u2 hx hy
      obtain ⟨rfl, h2⟩ := symBin_ok hs hb
      left; simp only [opA, ho, hx, hy, h2]; rfl
    · cases hs
  · rename_i s d x ho
    split at hs
    · rename_i u hx
      have h2 := symConv_ok hs hb
      left; simp only [opA, ho, hx, h2]; rfl
    · cases hs
  · rename_i t x y okk ho
    split at hs
    · rename_i u u2 hx hy
      obtain ⟨rfl, h2⟩ := symLookup_ok hs hb
      left; simp only [opA, ho, hx, hy, h2]; rfl
    · cases hs
  · rename_i c ho
    split at hs
    · rename_i args hx hc
      have h2 := symAppend_ok hs hb
      left; simp only [opA, ho, hx, hc, builtinA, h2]; rfl
    · rename_i args hx hc
      have h2 := symCopy_ok hs hb
      left; simp only [opA, ho, hx, hc, builtinA, h2]; rfl
    · cases hs
  · rename_i t l c ho
    split at hs
    · rename_i u u2 hx hy
      have h2 := symMake_ok hs hb
      left; simp only [opA, ho, hx, hy, h2]; rfl
    · cases hs
  · cases hs
end Go.Sx

namespace Go.Sx

/-! ### Ranges over maps: in any order -/
def isMapT (P : Program) (t : TypeId) : Bool := match P.underlying t with
  | some (.map _ _) => true
  | _ => false
def seenN (n : Nat) : List Nat → Bool
  | [] => false
  | x :: S => match Nat.beq x n with
    | true => true
    | false => seenN n S
def allSeen (S : List Nat) : List (AV × AV × Nat) → Bool
  | [] => true
  | e :: es => andB (seenN e.2.2 S) (allSeen S es)
def bornB (clk : Nat) : List (AV × AV × Nat) → Bool
  | [] => true
  | e :: es => match Nat.blt e.2.2 clk with
    | true => bornB clk es
    | false => false
def findBorn (n : Nat) : List (AV × AV × Nat) → Option (AV × AV × Nat)
  | [] => none
  | e :: es => match Nat.beq e.2.2 n with
    | true => some e
    | false => findBorn n es
theorem seenN_iff {n : Nat} : ∀ {S : List Nat}, seenN n S = true ↔ n ∈ S
  | [] => by simp [seenN]
  | x :: S => by
    simp only [seenN]
    split
    · rename_i h
      have := Nat.eq_of_beq_eq_true h; subst this; simp
    · rename_i h
      rw [seenN_iff (S := S), List.mem_cons]
      have : n ≠ x := fun q => by subst q; rw [Nat.beq_refl] at h; cases h
      simp [this]
theorem allSeen_of {S : List Nat} : ∀ {es : List (AV × AV × Nat)}, (∀ e ∈ es, e.2.2 ∈ S) → allSeen S es = true
  | [], _ => rfl
  | e :: es, h => andB_eq.2 ⟨seenN_iff.2 (h e List.mem_cons_self), allSeen_of fun x hx => h x (List.mem_cons_of_mem _ hx)⟩
theorem bornB_ok {clk : Nat} : ∀ {es : List (AV × AV × Nat)}, bornB clk es = true → ∀ e ∈ es, e.2.2 < clk
  | [], _, e, he => by cases he
  | x :: es, h, e, he => by
    simp only [bornB] at h
    split at h
    · rename_i q
      rcases List.mem_cons.1 he with rfl | he
      · exact Nat.le_of_ble_eq_true q
      · exact bornB_ok h e he
    · cases h
theorem MRel.back {ρ : Nat → Option Ent} : ∀ {xs : List (AV × AV × Nat)} {es : List MapEntry}, MRel ρ xs es → ∀ e ∈ es, ∃ x ∈ xs, Rel ρ x.1 e.key ∧ Rel ρ x.2.1 e.val ∧ e.born = x.2.2
  | [], es, h, e, he => by simp only [MRel] at h; subst h; cases he
  | x :: xs, es, h, e, he => by
    obtain ⟨e0, r, h1, h2, h3, h4, rfl⟩ := h
    rcases List.mem_cons.1 he with rfl | he
    · exact ⟨x, List.mem_cons_self, h1, h2, h3⟩
    · obtain ⟨y, hy, q⟩ := MRel.back h4 e he
      exact ⟨y, List.mem_cons_of_mem _ hy, q⟩
theorem MRel.to {ρ : Nat → Option Ent} : ∀ {xs : List (AV × AV × Nat)} {es : List MapEntry}, MRel ρ xs es → ∀ x ∈ xs, ∃ e ∈ es, e.born = x.2.2
  | [], es, h, x, hx => by cases hx
  | y :: xs, es, h, x, hx => by
    obtain ⟨e0, r, h1, h2, h3, h4, rfl⟩ := h
    rcases List.mem_cons.1 hx with rfl | hx
    · exact ⟨e0, List.mem_cons_self, h3⟩
    · obtain ⟨e, he, q⟩ := MRel.to h4 x hx
      exact ⟨e, List.mem_cons_of_mem _ he, q⟩
theorem MRel.find {ρ : Nat → Option Ent} {n : Nat} : ∀ {xs : List (AV × AV × Nat)} {es : List MapEntry}, MRel ρ xs es → ∀ {x : AV × AV × Nat}, findBorn n xs = some x →
    ∃ e, es.find? (·.born == n) = some e ∧ Rel ρ x.1 e.key ∧ Rel ρ x.2.1 e.val
  | [], es, h, x, hx => by cases hx
  | y :: xs, es, h, x, hx => by
    obtain ⟨e0, r, h1, h2, h3, h4, rfl⟩ := h
    simp only [findBorn] at hx
    split at hx
    · rename_i q
      simp only [Option.some.injEq] at hx; subst hx
      have := Nat.eq_of_beq_eq_true q
      exact ⟨e0, by rw [List.find?_cons_of_pos (by simp [h3, this])], h1, h2⟩
    · rename_i q
      obtain ⟨e, q1, q2⟩ := MRel.find h4 hx
      refine ⟨e, ?_, q2⟩
      rw [List.find?_cons_of_neg ?_]
      · exact q1
      · intro hh
        have hh : e0.born = n := by simpa using hh
        rw [h3] at hh; rw [hh, Nat.beq_refl] at q; cases q
theorem rel_over (ρ : Nat → Option Ent) : Rel ρ (.tup [.bool false]) (.tuple #[.bool false]) := by simp [Rel, RelL]

theorem range_run {P : Program} {ρ : Nat → Option Ent} {h : Heap} {w : World} {a : Tmps} {A : Act} {DL : List Deferred} {o : Oper} {ty : TypeId} {x : Operand} {m clk : Nat} {es : List (AV × AV × Nat)} (S : SRel ρ h w) (hl : h.next < h.lim) (F : FRel DL ρ a A)
    (ho : o.op = .range ty x) (ht : isMapT P ty = true) (hx : evalA a x = some (.map m)) (hm : h.get m = some (.map es clk)) :
    ∃ w', (execOp A.eval o).run P w = .ok (.value (.pointer (some ⟨w.heap.size, 0, none⟩))) w' ∧ SRel (upd ρ h.next ⟨w.heap.size, 0, 0⟩) (h.push (.iter m clk [])) w' ∧
      Good ρ h w (upd ρ h.next ⟨w.heap.size, 0, 0⟩) (h.push (.iter m clk [])) w' ∧ Rel (upd ρ h.next ⟨w.heap.size, 0, 0⟩) (.ptr h.next 0) (.pointer (some ⟨w.heap.size, 0, none⟩)) := by
  obtain ⟨em, hem, es', hb, hr⟩ := S.ent hm
  have hv := evalA_rel F hx
  simp only [Rel] at hv
  obtain ⟨em', hem', hv⟩ := hv
  rw [hem] at hem'; simp only [Option.some.injEq] at hem'; subst hem'
  have htt : ∃ k e, P.underlying ty = some (.map k e) := by
    unfold isMapT at ht
    split at ht
    · rename_i k e q; exact ⟨k, e, q⟩
    · cases ht
  obtain ⟨k, e, htt⟩ := htt
  have hn := S.unmapped hl
  refine ⟨w.alloc (.mapIter (some em.blk) clk #[] clk), ?_, ?_, good_alloc S hl _ _ _, by simp only [Rel]; exact ⟨_, upd_same _ _ _, rfl⟩⟩
  · have := run_range_map w ty k e em.blk es' clk htt hb
    simp [execOp, ho, hv, this]
  · refine S.push hl (fun i x c hx hc hlc => ?_) ⟨em, #[], rfl, Ext.push _ hn _ _ hem, by show (w.heap.push _)[w.heap.size]? = _; simp, rfl⟩
    have := (S.blks i x c hx hc).lt hlc
    exact ⟨by show (w.heap.push _)[x.blk]? = _; rw [Array.getElem?_push, if_neg (by omega)], by simp only; omega⟩

theorem next_run {P : Program} {ρ : Nat → Option Ent} {h : Heap} {w : World} {a : Tmps} {A : Act} {DL : List Deferred} {o : Oper} {x : Operand} {b m clk : Nat} {L : List Nat} {es : List (AV × AV × Nat)} (S : SRel ρ h w) (F : FRel DL ρ a A)
    (ho : o.op = .next x false) (hx : evalA a x = some (.ptr b 0)) (hb : h.get b = some (.iter m clk L)) (hm : h.get m = some (.map es clk)) (hc : bornB clk es = true) :
    (allSeen L es = true ∧ (execOp A.eval o).run P w = .ok (.value (.tuple #[.bool false])) w) ∨
    ∃ (e : AV × AV × Nat) (w' : World) (V : Value), e ∈ es ∧ seenN e.2.2 L = false ∧ (execOp A.eval o).run P w = .ok (.value V) w' ∧ SRel ρ (h.set b (.iter m clk (e.2.2 :: L))) w' ∧ Good ρ h w ρ (h.set b (.iter m clk (e.2.2 :: L))) w' ∧ Rel ρ (.tup [.bool true, e.1, e.2.1]) V := by
  obtain ⟨eb, heb, em, seen, hsh, hem, hw, hseen⟩ := S.ent hb
  obtain ⟨em', hem', es', hwm, hr⟩ := S.ent hm
  rw [hem] at hem'; simp only [Option.some.injEq] at hem'; subst hem'
  have hv := evalA_rel F hx
  simp only [Rel] at hv
  obtain ⟨eb', heb', hv⟩ := hv
  rw [heb] at heb'; simp only [Option.some.injEq] at heb'; subst heb'
  rw [hsh] at hv
  have hold : ∀ x ∈ es'.toList, x.born < clk := fun x hx => by
    obtain ⟨y, hy, _, _, q⟩ := MRel.back hr x hx
    rw [q]; exact bornB_ok hc y hy
  have hmem : ∀ n, n ∈ L ↔ n ∈ seen := fun n => by rw [← hseen]; simp
  rcases run_next_at (P := P) w o.type eb.blk em.blk clk clk seen es' clk hw hwm hold (Nat.le_refl _) with ⟨q1, q2⟩ | ⟨e, he, w1, hw1, q2⟩
  · left
    refine ⟨allSeen_of fun e he => ?_, by simp [execOp, ho, hv, q2]⟩
    obtain ⟨e', he', hbn⟩ := MRel.to hr e he
    rw [hmem]
    rcases Classical.em (e.2.2 ∈ seen) with q | q
    · exact q
    · exfalso
      have hin : e' ∈ leftOf es' seen := by
        unfold leftOf
        rw [Array.mem_filter]
        exact ⟨by simpa using he', by rw [hbn]; simpa using q⟩
      have : leftOf es' seen = #[] := Array.eq_empty_of_size_eq_zero q1
      rw [this] at hin; simp at hin
  · right
    have he' : e ∈ es' ∧ e.born ∉ seen := by
      have : e ∈ leftOf es' seen := by simpa using he
      unfold leftOf at this
      rw [Array.mem_filter] at this
      exact ⟨this.1, by simpa using this.2⟩
    obtain ⟨y, hy, r1, r2, r3⟩ := MRel.back hr e (by simpa using he'.1)
    have hheap : w1.heap = w.heap ∧ w1.os = w.os ∧ w1.tape = w.tape ∧ w1.output = w.output := by rcases hw1 with rfl | rfl <;> exact ⟨rfl, rfl, rfl, rfl⟩
    have hlt : eb.blk < w.heap.size := by
      rcases Nat.lt_or_ge eb.blk w.heap.size with h' | h'
      · exact h'
      · simp [Array.getElem?_eq_none h'] at hw
    have hother : ∀ k, k ≠ eb.blk → (ChangeMaps.setBlock w1 eb.blk (.mapIter (some em.blk) clk (seen.push e.born) clk)).heap[k]? = w.heap[k]? := by
      intro k hk
      show (w1.heap.setIfInBounds eb.blk _)[k]? = _
      rw [Array.getElem?_setIfInBounds, if_neg (fun q => hk q.symm), hheap.1]
    refine ⟨y, ChangeMaps.setBlock w1 eb.blk (.mapIter (some em.blk) clk (seen.push e.born) clk), .tuple #[.bool true, e.key, e.val], hy, ?_, by simp [execOp, ho, hv, q2], ?_, ?_, ?_⟩
    · cases hq : seenN y.2.2 L with
      | false => rfl
      | true =>
        have := (hmem _).1 (seenN_iff.1 hq)
        rw [← r3] at this
        exact absurd this he'.2
    · refine S.set hb heb rfl hother ⟨em, seen.push e.born, hsh, hem, ?_, by simp [hseen, r3]⟩
      show (w1.heap.setIfInBounds eb.blk _)[eb.blk]? = _
      rw [Array.getElem?_setIfInBounds, if_pos rfl, if_pos (by rw [hheap.1]; exact hlt)]
    · exact Good.set S hb heb rfl hother (by show (w1.heap.setIfInBounds eb.blk _).size = _; rw [Array.size_setIfInBounds, hheap.1]) hheap.2.1 hheap.2.2.1 hheap.2.2.2
    · simp only [Rel, RelL]
      exact ⟨[.bool true, e.key, e.val], ⟨_, _, rfl, ⟨_, _, r1, ⟨_, _, r2, rfl, rfl⟩, rfl⟩, rfl⟩, rfl⟩

theorem entry_run {P : Program} {ρ : Nat → Option Ent} {h : Heap} {w : World} {a : Tmps} {A : Act} {DL : List Deferred} {o : Oper} {x : Operand} {b m clk n : Nat} {L : List Nat} {es : List (AV × AV × Nat)} {e : AV × AV × Nat} (S : SRel ρ h w) (F : FRel DL ρ a A)
    (ho : o.op = .entry x) (hx : evalA a x = some (.ptr b 0)) (hb : h.get b = some (.iter m clk (n :: L))) (hm : h.get m = some (.map es clk)) (hf : findBorn n es = some e) :
    ∃ V : Value, (execOp A.eval o).run P w = .ok (.value V) w ∧ Rel ρ (.tup [e.1, e.2.1]) V := by
  obtain ⟨eb, heb, em, seen, hsh, hem, hw, hseen⟩ := S.ent hb
  obtain ⟨em', hem', es', hwm, hr⟩ := S.ent hm
  rw [hem] at hem'; simp only [Option.some.injEq] at hem'; subst hem'
  have hv := evalA_rel F hx
  simp only [Rel] at hv
  obtain ⟨eb', heb', hv⟩ := hv
  rw [heb] at heb'; simp only [Option.some.injEq] at heb'; subst heb'
  rw [hsh] at hv
  obtain ⟨e', q1, r1, r2⟩ := MRel.find hr hf
  have hback : seen.back? = some n := by
    have : seen.toList = L.reverse ++ [n] := by rw [← List.reverse_reverse seen.toList, hseen, List.reverse_cons]
    rw [← Array.getLast?_toList, this]; simp
  have hfind : es'.find? (·.born == n) = some e' := by rw [← Array.find?_toList]; exact q1
  refine ⟨.tuple #[e'.key, e'.val], ?_, ?_⟩
  · simp only [execOp, ho, hv, Instr.entry, getObj, Sem.run_bind, Sem.run, Nat.zero_add, hw, hwm, hback, Result.andThen, bne_self_eq_false, Bool.false_eq_true, if_false, hfind]
    rfl
  · simp only [Rel, RelL]
    exact ⟨[e'.key, e'.val], ⟨_, _, r1, ⟨_, _, r2, rfl, rfl⟩, rfl⟩, rfl⟩
end Go.Sx

