/- A call that the executor answers with true, from a heap that holds package variables as a row lays them, returns true in the model. Condition: the program passes 'okProg', and the world holds the variables so. -/
import Derived.Test.YtgfpkhhbpnnjjaaSxD
import Derived.ChangeArms
import Derived.OpenShut
import GoSem.ClaimJoined
import Derived.MakeChecks
set_option linter.unusedSimpArgs false
set_option linter.unusedVariables false
set_option linter.unnecessarySimpa false
namespace Go.Sx
open Go.RowKit (Below)

/-! ### Runs that begin with package variables laid -/

/-- variables by number, each with its cells -/
def assocL : List (Nat × List AV) → Nat → Option (List AV)
  | [], _ => none
  | (g, cs) :: r, i => if g = i then some cs else assocL r i

def laidTree : List (Nat × List AV) → T Blk
  | [] => .leaf
  | (g, cs) :: r => (laidTree r).put (1048576 + g + 1) (1048576 + g) (.cells 0 cs false)

def laidHeap (L : List (Nat × List AV)) : Heap := { next := 0, lim := 1048576, wr := [], t := laidTree L }

theorem laidTree_get (L : List (Nat × List AV)) (i : Nat) : (laidTree L).get i = if 1048576 ≤ i then (assocL L (i - 1048576)).map (fun cs => Blk.cells 0 cs false) else none := by
  induction L with
  | nil => simp [laidTree, T.get, assocL]
  | cons x L ih =>
    obtain ⟨g, cs⟩ := x
    rw [laidTree, T.get_put _ _ _ _ _ (Nat.lt_succ_self _)]
    by_cases h : i = 1048576 + g
    · subst h; simp [assocL]
    · rw [if_neg h, ih]
      by_cases h2 : 1048576 ≤ i
      · rw [if_pos h2, if_pos h2, assocL, if_neg (by omega)]
      · rw [if_neg h2, if_neg h2]

/-- the world holds the variables so -/
def LaidIn (w : World) (L : List (Nat × List AV)) : Prop :=
  ∀ g cs, assocL L g = some cs → ∃ (vals : Array Value) (t : TypeId) (lo hi : Nat), w.heap[g]? = some (.cells vals t (lo, hi)) ∧ (∀ k, k < vals.size → ¬ (lo ≤ k ∧ k < hi)) ∧ RelL (fun _ => none) cs vals.toList

def globsLaid (L : List (Nat × List AV)) (i : Nat) : Option Ent :=
  if 1048576 ≤ i then some ⟨i - 1048576, 0, match assocL L (i - 1048576) with | some cs => cs.length | none => 0⟩ else none

theorem globs_laid (L : List (Nat × List AV)) : Globs (globsLaid L) := fun g => ⟨_, by simp only [globsLaid]; rw [if_pos (by omega), show 1048576 + g - 1048576 = g by omega]⟩

theorem srel_laid {w : World} {L : List (Nat × List AV)} (h : LaidIn w L) : SRel (globsLaid L) (laidHeap L) w := by
  have get : ∀ i c, (laidHeap L).t.get i = some c → 1048576 ≤ i ∧ ∃ cs, assocL L (i - 1048576) = some cs ∧ c = .cells 0 cs false := by
    intro i c hc
    have hc : (laidTree L).get i = some c := hc
    rw [laidTree_get] at hc
    by_cases h2 : 1048576 ≤ i
    · rw [if_pos h2] at hc
      cases ha : assocL L (i - 1048576) with
      | none => rw [ha] at hc; cases hc
      | some cs => rw [ha] at hc; simp only [Option.map_some, Option.some.injEq] at hc; exact ⟨h2, cs, rfl, hc.symm⟩
    · rw [if_neg h2] at hc; cases hc
  refine ⟨fun i c hc => ?_, fun i _ h2 => ?_, fun i e b he hb => ?_, fun i j e e' b b' hij he he' hb hb' _ _ => ?_⟩
  · obtain ⟨h2, _⟩ := get i c hc
    exact ⟨_, by simp only [globsLaid]; rw [if_pos h2]⟩
  · have h2 : i < 1048576 := h2
    simp only [globsLaid]; rw [if_neg (by omega)]
  · obtain ⟨h2, cs, ha, rfl⟩ := get i b hb
    simp only [globsLaid, if_pos h2, ha, Option.some.injEq] at he
    subst he
    obtain ⟨vals, t, lo, hi, hw, hz, hr⟩ := h _ _ ha
    have hl : vals.size = cs.length := by simpa using hr.length
    refine ⟨⟨vals, t, lo, hi, hw, by simp [hl], Nat.le_refl _, fun j a hj => ?_, fun k _ hk => hz k hk⟩, fun _ => rfl⟩
    obtain ⟨v, hv, hrel⟩ := hr.nth hj
    refine ⟨v, by simpa using hv, Rel.ext (fun i e q => by cases q) _ hrel⟩
  · obtain ⟨h2, _⟩ := get i b hb
    obtain ⟨h3, _⟩ := get j b' hb'
    simp only [globsLaid, if_pos h2, Option.some.injEq] at he
    simp only [globsLaid, if_pos h3, Option.some.injEq] at he'
    subst he; subst he'
    simp only; omega

/-- none of the variables was written -/
noncomputable def unwritten (L : List (Nat × List AV)) (wr : List Nat) : Bool :=
  @List.rec (Nat × List AV) (fun _ => Bool) true (fun x _ ih => @Bool.rec (fun _ => Bool) ih false (memN (1048576 + x.1) wr)) L

theorem memN_mem (x : Nat) (l : List Nat) : memN x l = false → x ∉ l := by
  induction l with
  | nil => intro _ h; cases h
  | cons y l ih =>
    intro h
    simp only [memN] at h
    split at h
    · cases h
    · rename_i hq
      have := Nat.ne_of_beq_eq_false hq
      simp only [List.mem_cons, not_or]; exact ⟨this, ih h⟩

theorem unwritten_ok {L : List (Nat × List AV)} {wr : List Nat} (h : unwritten L wr = true) : ∀ g cs, assocL L g = some cs → 1048576 + g ∉ wr := by
  induction L with
  | nil => intro g cs hg; cases hg
  | cons x L ih =>
    obtain ⟨k, ks⟩ := x
    have h : @Bool.rec (fun _ => Bool) (unwritten L wr) false (memN (1048576 + k) wr) = true := h
    rw [brecE] at h
    cases hm : memN (1048576 + k) wr with
    | true => rw [hm] at h; cases h
    | false =>
      rw [hm] at h
      intro g cs hg
      simp only [assocL] at hg
      split at hg
      · rename_i hk; subst hk; exact memN_mem _ _ hm
      · exact ih h g cs hg

/-- the answer is true and no variable was written -/
noncomputable def trueD (L : List (Nat × List AV)) (r : RV) : Bool :=
  @RV.rec (fun _ => Bool) (fun v h => @Option.rec Bool (fun _ => Bool) false (fun b => @Bool.rec (fun _ => Bool) false (@Heap.rec (fun _ => Bool) (fun _ _ wr _ => unwritten L wr) h) b) (asBool v)) (fun _ => false) r

/-- a run of the executor with variables laid is a call, and nothing that was there is changed -/
theorem runD_true {P : Program} (hP : okProg P = true) {n : Nat} {f : FuncId} {L : List (Nat × List AV)} (hr : trueD L (runS P (n + 1) n (.fn f) [] (laidHeap L)) = true) {w : World} (hL : LaidIn w L) :
    Calls P f #[] w fun e w' => e = .returned (.bool true) ∧ Below w.heap.size w w' := by
  rw [runS_eq P (n + 1) n (Nat.lt_succ_self n)] at hr
  simp only [tgtF] at hr
  cases hc : callF P (codeN P n) f [] (laidHeap L) with
  | bad q => rw [hc] at hr; cases hr
  | ok x =>
    obtain ⟨v, h'⟩ := x
    rw [hc] at hr
    cases v <;> try (cases hr)
    rename_i b
    obtain ⟨nx, lm, wr, t⟩ := h'
    cases b <;> try (cases hr)
    have hu : unwritten L wr = true := hr
    refine (run_from hP (srel_laid hL) (globs_laid L) hc).mono ?_
    rintro e w' ⟨rfl, ρ', h2, h3⟩
    refine ⟨rfl, h3.os, h3.tape, h3.output, h3.size, fun k hk => ?_⟩
    cases ha : assocL L k with
    | none =>
      refine h3.keep k hk (fun i e b he hb _ => ?_)
      have hb : (laidTree L).get i = some b := hb
      rw [laidTree_get] at hb
      by_cases q : 1048576 ≤ i
      · simp only [globsLaid, if_pos q, Option.some.injEq] at he
        subst he
        intro hk'
        simp only at hk'
        subst hk'
        rw [if_pos q, ha] at hb; cases hb
      · rw [if_neg q] at hb; cases hb
    | some cs =>
      have hget : (laidHeap L).t.get (1048576 + k) = some (.cells 0 cs false) := by
        show (laidTree L).get (1048576 + k) = _
        rw [laidTree_get, if_pos (by omega), show 1048576 + k - 1048576 = k by omega, ha]; rfl
      have hρ : globsLaid L (1048576 + k) = some ⟨k, 0, cs.length⟩ := by
        simp only [globsLaid]; rw [if_pos (by omega), show 1048576 + k - 1048576 = k by omega, ha]
      exact h3.unw (1048576 + k) _ _ hρ hget rfl (unwritten_ok hu k cs ha) (Nat.zero_le _) (.inr (Nat.le_add_right _ _))

/-! ### What a laid datum says of the cells -/

mutual
def flatD : DataW Unit → Option (List AV)
  | .lit (.int k n) => some [.int k n]
  | .lit (.string bs) => some [.str (bs.map UInt8.toNat)]
  | .lit (.bool b) => some [.bool b]
  | .agg ds => flatAll ds
  | _ => none
def flatAll : List (DataW Unit) → Option (List AV)
  | [] => some []
  | d :: ds => match flatD d, flatAll ds with
    | some a, some b => some (a ++ b)
    | _, _ => none
end

def tileFields (P : Program) (self : TypeId → Bool) : Nat → List Field → Nat → Bool
  | off, [], total => off == total
  | off, f :: r, total => f.offset == off && self f.type && tileFields P self (off + P.cellsOf f.type) r total

/-- types made of bools, ints, strings, whose parts lie side by side -/
def tiles (P : Program) : Nat → TypeId → Bool
  | 0, _ => false
  | f + 1, t => match P.underlying t with
    | some .bool => true
    | some (.int _) => true
    | some .string => true
    | some (.struct fs) => tileFields P (tiles P f) 0 fs.toList (P.cellsOf t)
    | some (.array n e) => tiles P f e && n * P.cellsOf e == P.cellsOf t
    | _ => false

theorem string_back (s : ByteArray) : Rel (fun _ => none) (.str (s.data.toList.map UInt8.toNat)) (.string s) := by
  simp only [Rel, ofNats, List.map_map]
  have : (UInt8.ofNat ∘ UInt8.toNat) = id := funext fun b => by simp
  rw [this, List.map_id]

section
variable {enc : TypeId × Value → Unit} {P : Program} {w : World} {base : Nat} {spare : Nat → Bool} {held : Bool}

theorem fields_flat {m : Nat} {self : TypeId → Bool} {cs : List Value} {total : Nat}
    (ih : ∀ t cs x, self t = true → DataW.trod enc P w base spare held m t cs = some x → ∃ as, flatD x.1 = some as ∧ RelL (fun _ => none) as cs) (ht : cs.length = total) :
    ∀ (fl : List Field) (ys : List (DataW Unit × List MemPlace)) (off : Nat), ys.length = fl.length →
      (∀ (i : Nat) (f : Field), fl[i]? = some f → DataW.trod enc P w base spare held m f.type ((cs.drop f.offset).take (P.cellsOf f.type)) = ys[i]?) →
      tileFields P self off fl total = true → ∃ as, flatAll (ys.map (·.1)) = some as ∧ RelL (fun _ => none) as (cs.drop off)
  | [], ys, off, hl, _, h => by
    simp only [tileFields, beq_iff_eq] at h
    have : ys = [] := by cases ys with | nil => rfl | cons _ _ => simp at hl
    subst this
    exact ⟨[], rfl, by rw [List.drop_eq_nil_of_le (by omega)]; simp [RelL]⟩
  | f :: fl, ys, off, hl, he, h => by
    simp only [tileFields, Bool.and_eq_true, beq_iff_eq] at h
    obtain ⟨⟨h1, h2⟩, h3⟩ := h
    cases ys with
    | nil => simp at hl
    | cons y ys =>
      have e0 := he 0 f rfl
      simp only [List.getElem?_cons_zero] at e0
      obtain ⟨a, ha, hra⟩ := ih _ _ _ h2 e0
      obtain ⟨b, hb, hrb⟩ := fields_flat ih ht fl ys (off + P.cellsOf f.type) (by simpa using hl) (fun i g hg => by have := he (i + 1) g (by simpa using hg); simpa using this) h3
      refine ⟨a ++ b, by simp only [List.map_cons, flatAll, ha, hb], ?_⟩
      have e : cs.drop off = (cs.drop f.offset).take (P.cellsOf f.type) ++ cs.drop (off + P.cellsOf f.type) := by
        rw [h1, ← List.drop_drop, List.take_append_drop]
      rw [e]; exact hra.append hrb

theorem elems_flat {m k n : Nat} {e : TypeId} {cs : List Value}
    (ih : ∀ cs x, DataW.trod enc P w base spare held m e cs = some x → ∃ as, flatD x.1 = some as ∧ RelL (fun _ => none) as cs) (ht : cs.length = n * k) :
    ∀ (r i : Nat) (ys : List (DataW Unit × List MemPlace)), ys.length = r → i + r = n →
      (∀ j, j < r → DataW.trod enc P w base spare held m e ((cs.drop ((i + j) * k)).take k) = ys[j]?) →
      ∃ as, flatAll (ys.map (·.1)) = some as ∧ RelL (fun _ => none) as (cs.drop (i * k))
  | 0, i, ys, hl, hn, _ => by
    have : ys = [] := by cases ys with | nil => rfl | cons _ _ => simp at hl
    subst this
    have : i = n := by omega
    subst this
    exact ⟨[], rfl, by rw [List.drop_eq_nil_of_le (by omega)]; simp [RelL]⟩
  | r + 1, i, ys, hl, hn, he => by
    cases ys with
    | nil => simp at hl
    | cons y ys =>
      have e0 := he 0 (by omega)
      simp only [List.getElem?_cons_zero, Nat.add_zero] at e0
      obtain ⟨a, ha, hra⟩ := ih _ _ e0
      obtain ⟨b, hb, hrb⟩ := elems_flat ih ht r (i + 1) ys (by simpa using hl) (by omega) (fun j hj => by
        have := he (j + 1) (by omega)
        rw [show i + (j + 1) = i + 1 + j by omega] at this
        simpa using this)
      refine ⟨a ++ b, by simp only [List.map_cons, flatAll, ha, hb], ?_⟩
      have e : cs.drop (i * k) = (cs.drop (i * k)).take k ++ cs.drop ((i + 1) * k) := by
        rw [Nat.succ_mul, ← List.drop_drop, List.take_append_drop]
      rw [e]; exact hra.append hrb

theorem trod_flat : ∀ (f fuel : Nat) (t : TypeId) (cs : List Value) (x : DataW Unit × List MemPlace), tiles P f t = true → DataW.trod enc P w base spare held fuel t cs = some x →
    ∃ as, flatD x.1 = some as ∧ RelL (fun _ => none) as cs
  | 0, _, _, _, _, h, _ => by cases h
  | f + 1, fuel, t, cs, x, h, hx => by
    simp only [tiles] at h
    split at h
    · rename_i ht
      obtain ⟨b, rfl, rfl⟩ := DataW.trod_bool ht hx
      exact ⟨_, rfl, by simp [RelL, Rel]⟩
    · rename_i k ht
      obtain ⟨n, rfl, rfl, _⟩ := DataW.trod_int ht hx
      exact ⟨_, rfl, by simp [RelL, Rel]⟩
    · rename_i ht
      obtain ⟨s, rfl, rfl, _⟩ := DataW.trod_string ht hx
      exact ⟨_, rfl, by have := string_back s; simp only [RelL]; exact ⟨_, _, this, rfl, rfl⟩⟩
    · rename_i fs ht
      obtain ⟨xs, m, rfl, rfl, hl, hs, he⟩ := DataW.trod_struct ht hx
      have := fields_flat (fun t cs x h1 h2 => trod_flat f m t cs x h1 h2) hl fs.toList xs 0 (by simpa using hs) (fun i g hg => he i g (by simpa using hg)) h
      simpa [flatD] using this
    · rename_i n e ht
      simp only [Bool.and_eq_true, beq_iff_eq] at h
      obtain ⟨xs, m, rfl, rfl, hl, hs, he⟩ := DataW.trod_array ht hx
      have := elems_flat (k := P.cellsOf e) (n := n) (fun cs x h2 => trod_flat f m e cs x h.1 h2) (by rw [hl, h.2]) n 0 xs hs (by omega) (fun j hj => by rw [Nat.zero_add]; exact he j hj)
      simpa [flatD] using this
    · cases h
end

/-- the variables that a row lays, by number and cells: where all are of such types -/
def laidOf (P : Program) : List (String × DataW Unit) → Option (List (Nat × List AV))
  | [] => some []
  | (n, d) :: r => match P.globalNamed n with
    | none => none
    | some g => match (P.globals[g]?).map (·.type) with
      | none => none
      | some t => match tiles P 50 t, flatD d, laidOf P r with
        | true, some (c :: cs), some L => some ((g, c :: cs) :: L)
        | _, _, _ => none

theorem laidIn_of_vars {P : Program} {w : World} : ∀ {laid : List (String × DataW Unit)} {ps : List MemPlace} {L : List (Nat × List AV)}, DataW.LaidVars P w laid ps → laidOf P laid = some L →
    (∀ b off, MemPlace.cell b off ∈ ps → ∃ c t, w.heap[b]? = some (.cells c t (0, 0))) → LaidIn w L
  | [], ps, L, _, hL, _ => by
    simp only [laidOf, Option.some.injEq] at hL; subst hL
    intro g cs h; cases h
  | (n, d) :: r, ps, L, hv, hL, hz => by
    obtain ⟨g, t, cs, fuel, p, q, hg, ht, hvar, hd, hr, rfl⟩ := hv
    simp only [laidOf, hg, ht] at hL
    split at hL
    · rename_i _ _ _ c as L' h1 h2 h3
      simp only [Option.some.injEq] at hL; subst hL
      have hrest := laidIn_of_vars hr h3 (fun b off hb => hz b off (List.mem_append.2 (.inr hb)))
      obtain ⟨as', h4, h5⟩ := trod_flat 50 fuel t cs.toList _ h1 hd
      simp only [h2, Option.some.injEq] at h4; subst h4
      intro g' cs' hq
      simp only [assocL] at hq
      split at hq
      · rename_i hk; subst hk
        simp only [Option.some.injEq] at hq; subst hq
        have hlen := h5.length
        have hpos : 0 < cs.size := by have : cs.toList.length = (c :: as).length := hlen; simp at this; omega
        obtain ⟨vals, u, hh⟩ := hz g 0 (List.mem_append.2 (.inl (List.mem_append.2 (.inl (by
          simp only [MemPlace.row, List.mem_map, List.mem_range]; exact ⟨0, hpos, by simp⟩)))))
        have : vals = cs := by
          simp only [World.var?, hg, Option.bind_some, hh] at hvar
          simpa using hvar
        subst this
        exact ⟨vals, u, 0, 0, hh, fun k _ => by omega, h5⟩
      · exact hrest g' cs' hq
    · cases hL

theorem laidIn_of {P : Program} {w : World} {laid : List (String × DataW Unit)} {L : List (Nat × List AV)} (h : laidMetH P laid w) (hp : (laid.all fun x => x.2.handleName?.isNone) = true) (hL : laidOf P laid = some L) : LaidIn w L := by
  rw [MakeChecks.laidMetH_plain _ _ _ hp] at h
  obtain ⟨ps, hv, _, hz⟩ := h
  exact laidIn_of_vars hv hL (fun b off hb => (hz b off hb).1)

end Go.Sx

