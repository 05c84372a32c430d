/- A call that the executor answers with true returns true in the model. Condition: the program passes 'okProg', one closed Bool. -/
import Derived.Test.YtffnifnikdceaaaSxB
import Derived.StillTail
import Derived.Scope
import Derived.ProofKit
import Derived.OpenShut
set_option linter.unusedSimpArgs false
set_option linter.unusedVariables false
set_option linter.unnecessarySimpa false
namespace Go.Sx

theorem putsH_get : ∀ (ks : List (Nat × Blk)) (t : T Blk) (b : Nat), (putsH ks t).get b = match assoc ks b with | some c => some c | none => t.get b
  | [], t, b => by simp [putsH, assoc]
  | (k, c) :: r, t, b => by
    simp only [putsH, assoc]
    rw [T.get_put _ _ _ _ _ (Nat.lt_succ_self k), putsH_get r t b]
    by_cases h : k = b
    · subst h; rw [if_pos rfl, Nat.beq_refl]
    · rw [if_neg (fun q => h q.symm), beq_false h]

theorem heapT_get (D : Nat → Bool) : ∀ (es : List En) (k : Nat) (t : T Blk) (b : Nat), (heapT D es k t).get b = lookH D es k b (t.get b)
  | [], k, t, b => by simp [heapT, lookH]
  | e :: es, k, t, b => by
    simp only [heapT, lookH]
    rw [heapT_get D es (k + 1)]
    congr 1
    cases D k
    · rfl
    · simp only [putsH_get]
      rfl

theorem tmpsD_n (D : Nat → Bool) : ∀ (es : List En) (k : Nat) (a : Tmps), (tmpsD D es k a).n = a.n
  | [], k, a => rfl
  | e :: es, k, a => by
    simp only [tmpsD]
    rw [tmpsD_n D es (k + 1)]
    cases D k
    · rfl
    · exact put_n _ _ _

theorem tmpsD_get (D : Nat → Bool) : ∀ (es : List En) (k : Nat) (a : Tmps) (t : Nat), (∀ e ∈ es, ∀ d, e.dst = some d → d < a.n) → (tmpsD D es k a).get t = lookT D es k t (a.get t)
  | [], k, a, t, _ => by simp [tmpsD, lookT]
  | e :: es, k, a, t, h => by
    simp only [tmpsD, lookT]
    rw [tmpsD_get D es (k + 1) _ t (fun x hx d hd => by
      have := h x (List.mem_cons_of_mem _ hx) d hd
      cases D k
      · exact this
      · simp only [put_n]; exact this)]
    congr 1
    cases D k
    · rfl
    · cases hd : e.dst with
      | none => rfl
      | some d =>
        have hlt := h e List.mem_cons_self d hd
        simp only [put_get]
        by_cases hq : d = t
        · subst hq; rw [Nat.beq_refl, if_pos ⟨hlt, rfl⟩]
        · rw [beq_false hq, if_neg (fun x => hq x.2.symm)]

theorem lookT_same (D D' : Nat → Bool) : ∀ (es : List En) (k t : Nat) (r : Option AV), (∀ (j : Nat) (e : En), es[j]? = some e → e.dst = some t → D (k + j) = D' (k + j)) → lookT D es k t r = lookT D' es k t r
  | [], k, t, r, _ => by simp [lookT]
  | e :: es, k, t, r, h => by
    simp only [lookT]
    rw [lookT_same D D' es (k + 1) t _ (fun j x hx hd => by have := h (j + 1) x (by simpa using hx) hd; rwa [show k + (j + 1) = k + 1 + j from by omega] at this)]
    congr 1
    cases hd : e.dst with
    | none => cases D k <;> cases D' k <;> rfl
    | some d =>
      by_cases hq : d = t
      · subst hq
        have := h 0 e (by simp) hd
        simp only [Nat.add_zero] at this
        rw [this]
      · cases D k <;> cases D' k <;> simp [beq_false hq]

theorem lookH_same (D D' : Nat → Bool) : ∀ (es : List En) (k b : Nat) (r : Option Blk), (∀ (j : Nat) (e : En) (c : Blk), es[j]? = some e → assoc e.keys b = some c → D (k + j) = D' (k + j)) → lookH D es k b r = lookH D' es k b r
  | [], k, b, r, _ => by simp [lookH]
  | e :: es, k, b, r, h => by
    simp only [lookH]
    rw [lookH_same D D' es (k + 1) b _ (fun j x c hx hd => by have := h (j + 1) x c (by simpa using hx) hd; rwa [show k + (j + 1) = k + 1 + j from by omega] at this)]
    congr 1
    cases hd : assoc e.keys b with
    | none => cases D k <;> cases D' k <;> rfl
    | some c =>
      have := h 0 e c (by simp) hd
      simp only [Nat.add_zero] at this
      rw [this]

theorem lookT_append (D : Nat → Bool) : ∀ (es es' : List En) (k t : Nat) (r : Option AV), lookT D (es ++ es') k t r = lookT D es' (k + es.length) t (lookT D es k t r)
  | [], es', k, t, r => by simp [lookT]
  | e :: es, es', k, t, r => by
    simp only [List.cons_append, lookT, List.length_cons]
    rw [lookT_append D es es' (k + 1)]
    congr 1; omega

theorem lookH_append (D : Nat → Bool) : ∀ (es es' : List En) (k t : Nat) (r : Option Blk), lookH D (es ++ es') k t r = lookH D es' (k + es.length) t (lookH D es k t r)
  | [], es', k, t, r => by simp [lookH]
  | e :: es, es', k, t, r => by
    simp only [List.cons_append, lookH, List.length_cons]
    rw [lookH_append D es es' (k + 1)]
    congr 1; omega

theorem lookT_none (D : Nat → Bool) : ∀ (es : List En) (k t : Nat) (r : Option AV), (∀ (j : Nat) (e : En), es[j]? = some e → e.dst = some t → D (k + j) = false) → lookT D es k t r = r
  | [], k, t, r, _ => by simp [lookT]
  | e :: es, k, t, r, h => by
    simp only [lookT]
    rw [lookT_none D es (k + 1) t _ (fun j x hx hd => by have := h (j + 1) x (by simpa using hx) hd; rwa [show k + (j + 1) = k + 1 + j from by omega] at this)]
    cases hd : e.dst with
    | none => cases D k <;> rfl
    | some d =>
      by_cases hq : d = t
      · subst hq
        have := h 0 e (by simp) hd
        simp only [Nat.add_zero] at this
        rw [this]
      · cases D k <;> simp [beq_false hq]

theorem lookH_none (D : Nat → Bool) : ∀ (es : List En) (k b : Nat) (r : Option Blk), (∀ (j : Nat) (e : En) (c : Blk), es[j]? = some e → assoc e.keys b = some c → D (k + j) = false) → lookH D es k b r = r
  | [], k, b, r, _ => by simp [lookH]
  | e :: es, k, b, r, h => by
    simp only [lookH]
    rw [lookH_none D es (k + 1) b _ (fun j x c hx hd => by have := h (j + 1) x c (by simpa using hx) hd; rwa [show k + (j + 1) = k + 1 + j from by omega] at this)]
    cases hd : assoc e.keys b with
    | none => cases D k <;> rfl
    | some c =>
      have := h 0 e c (by simp) hd
      simp only [Nat.add_zero] at this
      rw [this]

theorem split_at {α : Type} {l : List α} {j : Nat} {x : α} (h : l[j]? = some x) : ∃ l1 l2, l = l1 ++ x :: l2 ∧ l1.length = j := by
  have hj := getElem?_lt h
  rw [List.getElem?_eq_getElem hj] at h
  simp only [Option.some.injEq] at h
  exact ⟨l.take j, l.drop (j + 1), by rw [← h]; simp, by simp; omega⟩

/-- the last that writes a slot decides -/
theorem lookT_hit (D : Nat → Bool) {es : List En} {j t : Nat} {e : En} {r : Option AV} (hj : es[j]? = some e) (hD : D j = true) (hd : e.dst = some t)
    (hlater : ∀ (k : Nat) (x : En), j < k → es[k]? = some x → x.dst = some t → D k = false) : lookT D es 0 t r = some e.v := by
  obtain ⟨l1, l2, rfl, hl⟩ := split_at hj
  rw [lookT_append]
  simp only [lookT, Nat.zero_add, hl, hD, hd, Nat.beq_refl]
  refine lookT_none D l2 (j + 1) t _ (fun k x hx hxd => hlater (j + 1 + k) x (by omega) ?_ hxd)
  rw [List.getElem?_append_right (by omega), hl, show j + 1 + k - j = k + 1 from by omega]; simpa using hx

theorem lookH_hit (D : Nat → Bool) {es : List En} {j b : Nat} {e : En} {c : Blk} {r : Option Blk} (hj : es[j]? = some e) (hD : D j = true) (hd : assoc e.keys b = some c)
    (hlater : ∀ (k : Nat) (x : En) (c' : Blk), j < k → es[k]? = some x → assoc x.keys b = some c' → D k = false) : lookH D es 0 b r = some c := by
  obtain ⟨l1, l2, rfl, hl⟩ := split_at hj
  rw [lookH_append]
  simp only [lookH, Nat.zero_add, hl, hD, hd]
  refine lookH_none D l2 (j + 1) b _ (fun k x c' hx hxd => hlater (j + 1 + k) x c' (by omega) ?_ hxd)
  rw [List.getElem?_append_right (by omega), hl, show j + 1 + k - j = k + 1 from by omega]; simpa using hx

theorem restrT_get (D : Nat → Bool) (acc : List En) (a : Tmps) : ∀ (xs : List Nat) (t : Nat) (v : AV), (restrT D acc a xs).get t = some v → lookT D acc 0 t (a.get t) = some v
  | [], t, v, h => by simp [restrT, T.get] at h
  | x :: xs, t, v, h => by
    simp only [restrT] at h
    split at h
    · rename_i u hu
      rw [T.get_put _ _ _ _ _ (Nat.lt_succ_self x)] at h
      split at h
      · rename_i hx; subst hx; simp only [Option.some.injEq] at h; subst h; exact hu
      · exact restrT_get D acc a xs t v h
    · exact restrT_get D acc a xs t v h

theorem restrT_ment (D : Nat → Bool) (acc : List En) (a : Tmps) : ∀ (xs : List Nat) (t : Nat) (v : AV), (restrT D acc a xs).get t = some v → t ∈ xs
  | [], t, v, h => by simp [restrT, T.get] at h
  | x :: xs, t, v, h => by
    simp only [restrT] at h
    split at h
    · rename_i u hu
      rw [T.get_put _ _ _ _ _ (Nat.lt_succ_self x)] at h
      split at h
      · rename_i hx; subst hx; exact List.mem_cons_self
      · exact List.mem_cons_of_mem _ (restrT_ment D acc a xs t v h)
    · exact List.mem_cons_of_mem _ (restrT_ment D acc a xs t v h)

theorem restrH_get (D : Nat → Bool) (acc : List En) (h : Heap) : ∀ (xs : List Nat) (t : Nat) (v : Blk), (restrH D acc h xs).get t = some v → lookH D acc 0 t (h.t.get t) = some v
  | [], t, v, hh => by simp [restrH, T.get] at hh
  | x :: xs, t, v, hh => by
    simp only [restrH] at hh
    split at hh
    · rename_i u hu
      rw [T.get_put _ _ _ _ _ (Nat.lt_succ_self x)] at hh
      split at hh
      · rename_i hx; subst hx; simp only [Option.some.injEq] at hh; subst hh; exact hu
      · exact restrH_get D acc h xs t v hh
    · exact restrH_get D acc h xs t v hh

theorem wKeys_assoc (t : T Blk) : ∀ (l : List Nat) (b : Nat) (c : Blk), assoc (wKeys t l) b = some c → t.get b = some c
  | [], b, c, h => by simp [wKeys, assoc] at h
  | x :: l, b, c, h => by
    simp only [wKeys] at h
    split at h
    · rename_i d hd
      simp only [assoc] at h
      split at h
      · rename_i hx; have := Nat.eq_of_beq_eq_true hx; subst this; simp only [Option.some.injEq] at h; subst h; exact hd
      · exact wKeys_assoc t l b c h
    · exact wKeys_assoc t l b c h

theorem wKeys_mem (t : T Blk) : ∀ (l : List Nat) (b : Nat) (c : Blk), b ∈ l → t.get b = some c → assoc (wKeys t l) b = some c
  | [], b, c, h, _ => by cases h
  | x :: l, b, c, h, hc => by
    simp only [wKeys]
    by_cases hx : x = b
    · subst hx; rw [hc]; simp [assoc]
    · have hb : b ∈ l := by
        rcases List.mem_cons.1 h with h | h
        · exact absurd h.symm hx
        · exact h
      split
      · simp only [assoc, beq_false hx]; exact wKeys_mem t l b c hb hc
      · exact wKeys_mem t l b c hb hc

theorem rangeL_mem : ∀ (n b x : Nat), x ∈ rangeL b n ↔ b ≤ x ∧ x < b + n
  | 0, b, x => by simp [rangeL]
  | n + 1, b, x => by
    simp only [rangeL, List.mem_cons, rangeL_mem n (b + 1) x]; omega

/-! the masks -/
theorem maskOf_bit (acc : List Nat) : ∀ (es : List Edge) (i : Nat), Nat.testBit (maskOf acc es) i = true → ∃ e ∈ es, Region.binds .any e = true ∧ (i = e.on ∨ Nat.testBit (nthD acc e.on) i = true)
  | [], i, h => by simp [maskOf] at h
  | e :: es, i, h => by
    simp only [maskOf] at h
    split at h
    · rename_i hb
      have h' : (Nat.testBit (Nat.shiftLeft 1 e.on) i || Nat.testBit (nthD acc e.on) i || Nat.testBit (maskOf acc es) i) = true := by
        rw [← Nat.testBit_or, ← Nat.testBit_or]; exact h
      simp only [Bool.or_eq_true] at h'
      rcases h' with (h1 | h1) | h1
      · refine ⟨e, List.mem_cons_self, hb, .inl ?_⟩
        have : Nat.shiftLeft 1 e.on = 2 ^ e.on := by rw [show Nat.shiftLeft 1 e.on = 1 <<< e.on from rfl, Nat.one_shiftLeft]
        rw [this, Nat.testBit_two_pow] at h1
        exact (of_decide_eq_true h1).symm
      · exact ⟨e, List.mem_cons_self, hb, .inr h1⟩
      · obtain ⟨x, hx, k⟩ := maskOf_bit acc es i h1
        exact ⟨x, List.mem_cons_of_mem _ hx, k⟩
    · obtain ⟨x, hx, k⟩ := maskOf_bit acc es i h
      exact ⟨x, List.mem_cons_of_mem _ hx, k⟩

theorem edgesOk_spec (i : Nat) : ∀ {es : List Edge}, edgesOk i es = true → ∀ e ∈ es, Region.binds .any e = true → e.on < i
  | [], _, e, he, _ => by cases he
  | x :: es, h, e, he, hb => by
    simp only [edgesOk] at h
    rcases List.mem_cons.1 he with rfl | he'
    · rw [hb] at h
      simp only [Bool.and_eq_true] at h
      exact Nat.le_of_ble_eq_true h.1
    · split at h
      · simp only [Bool.and_eq_true] at h; exact edgesOk_spec i h.2 e he' hb
      · exact edgesOk_spec i h e he' hb

structure MasksOk (ops : List Oper) (ms : List Nat) : Prop where
  len : ms.length = ops.length
  back : ∀ (j : Nat) (o : Oper), ops[j]? = some o → ∀ e ∈ o.after, Region.binds .any e = true → e.on < j
  bit : ∀ (j : Nat) (o : Oper), ops[j]? = some o → ∀ i, Nat.testBit (nthD ms j) i = true → ∃ e ∈ o.after, Region.binds .any e = true ∧ (i = e.on ∨ Nat.testBit (nthD ms e.on) i = true)

theorem nthD_append (acc l : List Nat) (i : Nat) (h : i < acc.length) : nthD (acc ++ l) i = nthD acc i := by
  simp only [nthD, nth_eq, List.getElem?_append_left h]

theorem masksF_spec : ∀ (l : List Oper) (acc ms : List Nat), masksF l acc = some ms → ∃ new, ms = acc ++ new ∧ new.length = l.length ∧
    ∀ (j : Nat) (o : Oper), l[j]? = some o → (∀ e ∈ o.after, Region.binds .any e = true → e.on < acc.length + j) ∧
      ∀ i, Nat.testBit (nthD ms (acc.length + j)) i = true → ∃ e ∈ o.after, Region.binds .any e = true ∧ (i = e.on ∨ Nat.testBit (nthD ms e.on) i = true)
  | [], acc, ms, h => by simp only [masksF, Option.some.injEq] at h; subst h; exact ⟨[], by simp, rfl, fun j o hj => by simp at hj⟩
  | o :: l, acc, ms, h => by
    simp only [masksF] at h
    split at h
    · rename_i hb
      obtain ⟨new, h1, h2, h3⟩ := masksF_spec l _ ms h
      refine ⟨maskOf acc o.after.toList :: new, by rw [h1]; simp, by simp [h2], fun j x hj => ?_⟩
      cases j with
      | zero =>
        simp only [List.getElem?_cons_zero, Option.some.injEq] at hj; subst hj
        have hback := edgesOk_spec acc.length hb
        refine ⟨fun e he hbd => hback e (by simpa using he) hbd, fun i hi => ?_⟩
        have hm : nthD ms (acc.length + 0) = maskOf acc o.after.toList := by
          rw [h1]; simp [nthD, nth_eq]
        rw [hm] at hi
        obtain ⟨e, he, hbd, hor⟩ := maskOf_bit acc _ i hi
        refine ⟨e, by simpa using he, hbd, hor.imp id (fun q => ?_)⟩
        rw [h1, List.append_assoc, nthD_append _ _ _ (hback e he hbd)]; exact q
      | succ j =>
        have := h3 j x (by simpa using hj)
        simp only [List.length_append, List.length_cons, List.length_nil] at this
        rw [show acc.length + (0 + 1) + j = acc.length + (j + 1) from by omega] at this
        exact this
    · cases h

theorem masks_ok {ops : List Oper} {ms : List Nat} (h : masksF ops [] = some ms) : MasksOk ops ms := by
  obtain ⟨new, h1, h2, h3⟩ := masksF_spec ops [] ms h
  simp only [List.nil_append] at h1; subst h1
  refine ⟨h2, fun j o hj => ?_, fun j o hj => ?_⟩
  · have := (h3 j o hj).1; simpa using this
  · have := (h3 j o hj).2; simpa using this

theorem MasksOk.lt {ops : List Oper} {ms : List Nat} (M : MasksOk ops ms) : ∀ (j : Nat) (o : Oper), ops[j]? = some o → ∀ i, Nat.testBit (nthD ms j) i = true → i < j := by
  intro j
  induction j using Nat.strongRecOn with
  | _ j ih =>
    intro o hj i hi
    obtain ⟨e, he, hb, hor⟩ := M.bit j o hj i hi
    have hlt := M.back j o hj e he hb
    rcases hor with rfl | hor
    · exact hlt
    · have hlen := getElem?_lt hj
      have h0 : e.on < ops.length := by omega
      have hx : ops[e.on]? = some (ops[e.on]'h0) := by simp [h0]
      have := ih e.on hlt _ hx i hor
      omega

/-- what a closed set holds, when an operation is ready -/
theorem MasksOk.closed {ops : List Oper} {ms : List Nat} (M : MasksOk ops ms) {D : Nat → Prop} (hc : ∀ (k : Nat) (o : Oper), ops[k]? = some o → D k → ∀ e ∈ o.after, Region.binds .any e = true → D e.on) :
    ∀ (j : Nat) (o : Oper), ops[j]? = some o → (∀ e ∈ o.after, Region.binds .any e = true → D e.on) → ∀ i, Nat.testBit (nthD ms j) i = true → D i := by
  intro j
  induction j using Nat.strongRecOn with
  | _ j ih =>
    intro o hj hr i hi
    obtain ⟨e, he, hb, hor⟩ := M.bit j o hj i hi
    have hlt := M.back j o hj e he hb
    have hD := hr e he hb
    rcases hor with rfl | hor
    · exact hD
    · have hlen := getElem?_lt hj
      have h0 : e.on < ops.length := by omega
      have hx : ops[e.on]? = some (ops[e.on]'h0) := by simp [h0]
      exact ih e.on hlt _ hx (hc _ _ hx hD) i hor
end Go.Sx

namespace Go.Sx

/-- the same heap with another end of its numbers -/
def Heap.setLim (h : Heap) (L : Nat) : Heap := { next := h.next, lim := L, wr := h.wr, t := h.t }
def setV (L : Nat) (r : AV × Heap) : AV × Heap := (r.1, r.2.setLim L)
def HOk (h h' : Heap) : Prop := h.next ≤ h'.next ∧ h'.lim = h.lim
theorem HOk.refl (h : Heap) : HOk h h := ⟨Nat.le_refl _, rfl⟩
theorem HOk.push (h : Heap) (b : Blk) : HOk h (h.push b) := ⟨Nat.le_succ _, rfl⟩
theorem HOk.set (h : Heap) (i : Nat) (b : Blk) : HOk h (h.set i b) := ⟨Nat.le_refl _, rfl⟩

variable {P : Program}

theorem loadCells_lim (h : Heap) (L b off n : Nat) : loadCells (h.setLim L) b off n = loadCells h b off n := rfl
theorem loadVar_lim (h : Heap) (L : Nat) (t : TypeId) (b off : Nat) : loadVar P (h.setLim L) t b off = loadVar P h t b off := rfl
theorem firstCells_lim (h : Heap) (L s n : Nat) (x : AV) : firstCellsA (h.setLim L) s n x = firstCellsA h s n x := by
  cases x <;> rfl
theorem len_lim (h : Heap) (L : Nat) (t : TypeId) (x : AV) : lenA P (h.setLim L) t x = lenA P h t x := rfl
theorem lookup_lim (h : Heap) (L : Nat) (t : TypeId) (m k : AV) (ok : Bool) : lookupA P (h.setLim L) t m k ok = lookupA P h t m k ok := rfl

theorem storeCells_lim (h : Heap) (L b off : Nat) (vs : List AV) : storeCells (h.setLim L) b off vs = (storeCells h b off vs).map (·.setLim L) := by
  unfold storeCells
  simp only [show (h.setLim L).get b = h.get b from rfl]
  repeat' split
  all_goals first | rfl | simp_all
theorem storeCells_ok {h h' : Heap} {b off : Nat} {vs : List AV} (hr : storeCells h b off vs = some h') : HOk h h' := by
  unfold storeCells at hr
  repeat' split at hr
  all_goals first | (cases hr; done) | (simp only [Option.some.injEq] at hr; subst hr; first | exact HOk.refl _ | exact HOk.set _ _ _)
theorem storeVar_lim (h : Heap) (L : Nat) (t : TypeId) (b off : Nat) (v : AV) : storeVar P (h.setLim L) t b off v = (storeVar P h t b off v).map (·.setLim L) := by
  unfold storeVar
  repeat' split
  all_goals first | rfl | exact storeCells_lim _ _ _ _ _
theorem storeVar_ok {h h' : Heap} {t : TypeId} {b off : Nat} {v : AV} (hr : storeVar P h t b off v = some h') : HOk h h' := by
  unfold storeVar at hr
  repeat' split at hr
  all_goals first | (cases hr; done) | exact storeCells_ok hr

theorem buildSlice_lim (h : Heap) (L : Nat) (t : TypeId) (len : Nat) (ps : List (Nat × AV)) : buildSliceA P (h.setLim L) t len ps = (buildSliceA P h t len ps).map (setV L) := by
  unfold buildSliceA
  repeat' split
  all_goals first | rfl | simp_all
theorem buildSlice_ok {h : Heap} {t : TypeId} {len : Nat} {ps : List (Nat × AV)} {r : AV × Heap} (hr : buildSliceA P h t len ps = some r) : HOk h r.2 := by
  unfold buildSliceA at hr
  repeat' split at hr
  all_goals first | (cases hr; done) | (simp only [Option.some.injEq] at hr; subst hr; exact HOk.push _ _)
theorem makeSlice_lim (h : Heap) (L : Nat) (t : TypeId) (l c : AV) : makeSliceA P (h.setLim L) t l c = (makeSliceA P h t l c).map (setV L) := by
  unfold makeSliceA
  repeat' split
  all_goals first | rfl | simp_all
theorem makeSlice_ok {h : Heap} {t : TypeId} {l c : AV} {r : AV × Heap} (hr : makeSliceA P h t l c = some r) : HOk h r.2 := by
  unfold makeSliceA at hr
  repeat' split at hr
  all_goals first | (cases hr; done) | (simp only [Option.some.injEq] at hr; subst hr; exact HOk.push _ _)
theorem mapUpdateK_lim (h : Heap) (L : Nat) (kt : TypeId) (b : Nat) (k v : AV) : mapUpdateK P (h.setLim L) kt b k v = (mapUpdateK P h kt b k v).map (·.setLim L) := by
  unfold mapUpdateK
  simp only [show ∀ b, (h.setLim L).get b = h.get b from fun _ => rfl]
  repeat' split
  all_goals first | rfl | simp_all
theorem mapUpdateK_ok {h h' : Heap} {kt : TypeId} {b : Nat} {k v : AV} (hr : mapUpdateK P h kt b k v = some h') : HOk h h' := by
  unfold mapUpdateK at hr
  repeat' split at hr
  all_goals first | (cases hr; done) | (simp only [Option.some.injEq] at hr; subst hr; exact HOk.set _ _ _)
theorem mapUpdate_lim (h : Heap) (L : Nat) (t : TypeId) (m k v : AV) : mapUpdateA P (h.setLim L) t m k v = (mapUpdateA P h t m k v).map (·.setLim L) := by
  unfold mapUpdateA
  simp only [show ∀ b, (h.setLim L).get b = h.get b from fun _ => rfl, mapUpdateK_lim]
  repeat' split
  all_goals first | rfl | simp_all
theorem mapUpdate_ok {h h' : Heap} {t : TypeId} {m k v : AV} (hr : mapUpdateA P h t m k v = some h') : HOk h h' := by
  unfold mapUpdateA at hr
  repeat' split at hr
  all_goals first | (cases hr; done) | exact mapUpdateK_ok hr | (simp only [Option.some.injEq] at hr; subst hr; exact HOk.set _ _ _)
theorem append_lim (h : Heap) (L : Nat) (ts : List TypeId) (args : List AV) : appendA P (h.setLim L) ts args = (appendA P h ts args).map (setV L) := by
  unfold appendA
  simp only [show ∀ b, (h.setLim L).get b = h.get b from fun _ => rfl, firstCells_lim, loadCells_lim, storeCells_lim]
  repeat' split
  all_goals first | rfl | simp_all [setV]
theorem append_ok {h : Heap} {ts : List TypeId} {args : List AV} {r : AV × Heap} (hr : appendA P h ts args = some r) : HOk h r.2 := by
  unfold appendA at hr
  repeat' split at hr
  all_goals first
    | (cases hr; done)
    | (simp only [Option.some.injEq] at hr; subst hr; first | exact HOk.refl _ | exact HOk.push _ _ | exact ⟨Nat.le_succ _, rfl⟩ | (rename_i hs; exact storeCells_ok hs))
theorem copy_lim (h : Heap) (L : Nat) (ts : List TypeId) (args : List AV) : copyA P (h.setLim L) ts args = (copyA P h ts args).map (setV L) := by
  unfold copyA
  simp only [firstCells_lim, storeCells_lim]
  repeat' split
  all_goals first | rfl | simp_all [setV]
theorem copy_ok {h : Heap} {ts : List TypeId} {args : List AV} {r : AV × Heap} (hr : copyA P h ts args = some r) : HOk h r.2 := by
  unfold copyA at hr
  repeat' split at hr
  all_goals first
    | (cases hr; done)
    | (simp only [Option.some.injEq] at hr; subst hr; first | exact HOk.refl _ | (rename_i hs; exact storeCells_ok hs))
theorem conv_lim (h : Heap) (L : Nat) (s d : TypeId) (x : AV) : convA P (h.setLim L) s d x = (convA P h s d x).map (setV L) := by
  unfold convA
  simp only [loadCells_lim]
  repeat' split
  all_goals first | rfl | (simp [setV, Option.map_map, Function.comp_def]; done) | simp_all [setV]
theorem conv_ok {h : Heap} {s d : TypeId} {x : AV} {r : AV × Heap} (hr : convA P h s d x = some r) : HOk h r.2 := by
  unfold convA at hr
  repeat' split at hr
  all_goals first
    | (cases hr; done)
    | (simp only [Option.some.injEq] at hr; subst hr; first | exact HOk.refl _ | exact HOk.push _ _)
    | (simp only [Option.map_eq_some_iff] at hr; obtain ⟨_, _, rfl⟩ := hr; exact HOk.refl _)
theorem clear_lim (h : Heap) (L : Nat) (t : TypeId) (x : AV) : clearA P (h.setLim L) t x = (clearA P h t x).map (setV L) := by
  unfold clearA
  simp only [storeCells_lim]
  repeat' split
  all_goals first | rfl | simp_all [setV]
theorem clear_ok {h : Heap} {t : TypeId} {x : AV} {r : AV × Heap} (hr : clearA P h t x = some r) : HOk h r.2 := by
  unfold clearA at hr
  repeat' split at hr
  all_goals first
    | (cases hr; done)
    | (simp only [Option.some.injEq] at hr; subst hr; first | exact HOk.refl _ | (rename_i hs; exact storeCells_ok hs))
theorem builtin_lim (h : Heap) (L : Nat) (b : Builtin) (ts : List TypeId) (args : List AV) : builtinA P (h.setLim L) b ts args = (builtinA P h b ts args).map (setV L) := by
  unfold builtinA
  split
  · split <;> simp [len_lim, setV, Option.map_map, Function.comp_def]
  · split <;> simp [setV, Option.map_map, Function.comp_def]
  · exact append_lim _ _ _ _
  · exact copy_lim _ _ _ _
  · split <;> simp [setV, Option.map_map, Function.comp_def]
  · split <;> simp [setV, Option.map_map, Function.comp_def]
  · split
    · exact clear_lim _ _ _ _
    · rfl
  · rfl
theorem builtin_ok {h : Heap} {b : Builtin} {ts : List TypeId} {args : List AV} {r : AV × Heap} (hr : builtinA P h b ts args = some r) : HOk h r.2 := by
  unfold builtinA at hr
  repeat' split at hr
  all_goals first
    | (cases hr; done)
    | exact append_ok hr
    | exact copy_ok hr
    | exact clear_ok hr
    | (simp only [Option.map_eq_some_iff] at hr; obtain ⟨_, _, rfl⟩ := hr; exact HOk.refl _)

def ORes.setLim (L : Nat) : ORes → ORes
  | .val v h => .val v (h.setLim L)
  | .skip h => .skip (h.setLim L)
  | .enter f a => .enter f a
  | .round b a => .round b a
def ORes.HOk (h : Heap) : ORes → Prop
  | .val _ h' => Sx.HOk h h'
  | .skip h' => Sx.HOk h h'
  | .enter _ _ => True
  | .round _ _ => True

theorem op_lim (h : Heap) (L : Nat) (a : Tmps) (o : Oper) : opA P (h.setLim L) a o = (opA P h a o).map (·.setLim L) := by
  unfold opA
  simp only [loadVar_lim, lookup_lim, storeVar_lim, buildSlice_lim, makeSlice_lim, mapUpdate_lim, conv_lim, builtin_lim]
  repeat' split
  all_goals first | rfl | (simp [setV, ORes.setLim, Option.map_map, Function.comp_def]; done) | simp_all [setV, ORes.setLim, Option.map_map, Function.comp_def]
theorem op_ok {h : Heap} {a : Tmps} {o : Oper} {r : ORes} (hr : opA P h a o = some r) : r.HOk h := by
  unfold opA at hr
  repeat' split at hr
  all_goals first
    | (cases hr; done)
    | (simp only [Option.some.injEq] at hr; subst hr; first | exact HOk.refl _ | exact HOk.push _ _ | exact True.intro)
    | (simp only [Option.map_eq_some_iff] at hr; obtain ⟨_, hq, rfl⟩ := hr; first | exact storeVar_ok hq | exact buildSlice_ok hq | exact makeSlice_ok hq | exact mapUpdate_ok hq | exact conv_ok hq | exact builtin_ok hq | exact HOk.refl _)
end Go.Sx

namespace Go.Sx
variable {P : Program}

/-- a run that ended well ends the same where its numbers end elsewhere, but behind all that it used -/
def LimOk (self : Code → Tmps → Heap → Res) : Prop :=
  ∀ (c : Code) (a : Tmps) (h : Heap) (ex : Ex) (a' : Tmps) (h' : Heap), self c a h = .ok (ex, a', h') → HOk h h' ∧ ∀ L, h'.next < L → self c a (h.setLim L) = .ok (ex, a', h'.setLim L)

theorem HOk.trans {a b c : Heap} (x : HOk a b) (y : HOk b c) : HOk a c := ⟨Nat.le_trans x.1 y.1, y.2.trans x.2⟩

theorem result_lim (h : Heap) (L : Nat) (a : Tmps) : ∀ rs, resultA P (h.setLim L) a rs = resultA P h a rs
  | [] => rfl
  | .tmp t :: rs => by simp only [resultA, result_lim h L a rs]
  | .cell t ty :: rs => by simp only [resultA, result_lim h L a rs, loadVar_lim]
theorem results_lim (fn : Func) (h : Heap) (L : Nat) (a : Tmps) : resultsA P fn (h.setLim L) a = resultsA P fn h a := by
  unfold resultsA; rw [result_lim]

theorem call_lim {self : Code → Tmps → Heap → Res} (hs : LimOk self) {f : FuncId} {args : List AV} {h h' : Heap} {v : AV} (hr : callF P self f args h = .ok (v, h')) :
    HOk h h' ∧ ∀ L, h'.next < L → callF P self f args (h.setLim L) = .ok (v, h'.setLim L) := by
  unfold callF at hr
  split at hr
  · cases hr
  · rename_i fn hf
    split at hr
    · cases hr
    · rename_i body hb
      split at hr
      · rename_i a1 h1 h2
        split at hr
        · rename_i v1 hv
          simp only [R.ok.injEq, Prod.mk.injEq] at hr; obtain ⟨rfl, rfl⟩ := hr
          obtain ⟨g1, g2⟩ := hs _ _ _ _ _ _ h2
          refine ⟨g1, fun L hL => ?_⟩
          unfold callF
          simp only [hf, hb, g2 L hL, results_lim, hv]
        · cases hr
      · rename_i a1 h1 h2
        split at hr
        · rename_i v1 hv
          simp only [R.ok.injEq, Prod.mk.injEq] at hr; obtain ⟨rfl, rfl⟩ := hr
          obtain ⟨g1, g2⟩ := hs _ _ _ _ _ _ h2
          refine ⟨g1, fun L hL => ?_⟩
          unfold callF
          simp only [hf, hb, g2 L hL, results_lim, hv]
        · cases hr
      · cases hr
      · cases hr

theorem lim_get (h : Heap) (L b : Nat) : (h.setLim L).get b = h.get b := rfl
theorem lim_set (h : Heap) (L b : Nat) (x : Blk) : (h.setLim L).set b x = (h.set b x).setLim L := rfl
theorem lim_push (h : Heap) (L : Nat) (x : Blk) : (h.setLim L).push x = (h.push x).setLim L := rfl
theorem lim_next (h : Heap) (L : Nat) : (h.setLim L).next = h.next := rfl
theorem set_ok (h : Heap) (b : Nat) (x : Blk) : HOk h (h.set b x) := ⟨Nat.le_refl _, rfl⟩

theorem round_lim {self : Code → Tmps → Heap → Res} (hs : LimOk self) {b : Nat} {args : List AV} {h h' : Heap} {v : AV} (hr : roundF self b args h = .ok (v, h')) :
    HOk h h' ∧ ∀ L, h'.next < L → roundF self b args (h.setLim L) = .ok (v, h'.setLim L) := by
  unfold roundF at hr
  split at hr
  · rename_i ps asg body a hb
    split at hr
    · cases hr
    · rename_i hc
      split at hr
      · rename_i a1 h1 hrun1
        obtain ⟨g1, g2⟩ := hs _ _ _ _ _ _ hrun1
        split at hr
        · rename_i ps1 asg1 body1 t1 hb1
          split at hr
          · rename_i ex a2 h2 hrun2
            obtain ⟨k1, k2⟩ := hs _ _ _ _ _ _ hrun2
            have m := (g1.trans (set_ok h1 b _)).trans k1
            split at hr
            · rename_i ps2 asg2 body2 t2 hb2
              have n1 : h1.next ≤ h2.next := k1.1
              split at hr
              · simp only [R.ok.injEq, Prod.mk.injEq] at hr; obtain ⟨rfl, rfl⟩ := hr
                refine ⟨m.trans (set_ok h2 b _), fun L hL => ?_⟩
                have hL : h2.next < L := hL
                simp only [roundF, lim_get, hb, hc, g2 L (by omega), hb1, lim_set, k2 L hL, hb2]
              · rename_i hex
                simp only [R.ok.injEq, Prod.mk.injEq] at hr; obtain ⟨rfl, rfl⟩ := hr
                refine ⟨m.trans (set_ok h2 b _), fun L hL => ?_⟩
                have hL : h2.next < L := hL
                simp only [roundF, lim_get, hb, hc, g2 L (by omega), hb1, lim_set, k2 L hL, hb2]
                all_goals (cases ex <;> first | rfl | exact absurd rfl hex)
            · cases hr
          · cases hr
        · cases hr
      · cases hr
      · cases hr
  · cases hr

theorem range_lim {self : Code → Tmps → Heap → Res} (hs : LimOk self) {f : Operand} {ps : List Nat} {asg body : Code} {a a' : Tmps} {h h' : Heap} {ex : Ex} (hr : rangeF P self f ps asg body a h = .ok (ex, a', h')) :
    HOk h h' ∧ ∀ L, h'.next < L → rangeF P self f ps asg body a (h.setLim L) = .ok (ex, a', h'.setLim L) := by
  unfold rangeF at hr
  split at hr
  · rename_i g first cap he
    split at hr
    · cases hr
    · split at hr
      · rename_i v h2 hcall
        obtain ⟨g1, g2⟩ := call_lim hs hcall
        have n1 : h.next + 1 ≤ h2.next := g1.1
        have hk : HOk h h2 := (HOk.push h _).trans g1
        split at hr
        · rename_i q1 q2 q3 q4 hb
          simp only [R.ok.injEq, Prod.mk.injEq] at hr; obtain ⟨rfl, rfl, rfl⟩ := hr
          refine ⟨hk.trans (set_ok h2 _ _), fun L hL => ?_⟩
          have hL : h2.next < L := hL
          have hbl : Nat.blt h.next (h.setLim L).lim = true := Nat.ble_eq_true_of_le (show h.next + 1 ≤ L by omega)
          unfold rangeF
          simp only [he, hbl, lim_push, lim_next, g2 L hL, lim_get, hb, lim_set]
        · rename_i q1 q2 q3 q4 ex' hb
          simp only [R.ok.injEq, Prod.mk.injEq] at hr; obtain ⟨rfl, rfl, rfl⟩ := hr
          refine ⟨hk.trans (set_ok h2 _ _), fun L hL => ?_⟩
          have hL : h2.next < L := hL
          have hbl : Nat.blt h.next (h.setLim L).lim = true := Nat.ble_eq_true_of_le (show h.next + 1 ≤ L by omega)
          unfold rangeF
          simp only [he, hbl, lim_push, lim_next, g2 L hL, lim_get, hb, lim_set]
        · cases hr
      · cases hr
  · cases hr

theorem one_lim {self : Code → Tmps → Heap → Res} (hs : LimOk self) {ops : Array Oper} {o : Oper} {a : Tmps} {h h' : Heap} {v : AV} (hr : oneA P self ops o a h = .ok (v, h')) :
    HOk h h' ∧ ∀ L, h'.next < L → oneA P self ops o a (h.setLim L) = .ok (v, h'.setLim L) := by
  unfold oneA at hr
  split at hr
  · rename_i hw
    split at hr
    · cases hr
    · split at hr
      · rename_i v1 h1 ho
        simp only [R.ok.injEq, Prod.mk.injEq] at hr; obtain ⟨rfl, rfl⟩ := hr
        have g := op_ok ho
        refine ⟨g, fun L hL => ?_⟩
        have g1 : h.next ≤ h1.next := g.1
        have hb : Nat.blt (h.setLim L).next (h.setLim L).lim = true := Nat.ble_eq_true_of_le (show h.next + 1 ≤ L by omega)
        unfold oneA
        simp only [hw, hb, op_lim, ho, Option.map_some, ORes.setLim]
      · rename_i h1 ho
        simp only [R.ok.injEq, Prod.mk.injEq] at hr; obtain ⟨rfl, rfl⟩ := hr
        have g := op_ok ho
        refine ⟨g, fun L hL => ?_⟩
        have g1 : h.next ≤ h1.next := g.1
        have hb : Nat.blt (h.setLim L).next (h.setLim L).lim = true := Nat.ble_eq_true_of_le (show h.next + 1 ≤ L by omega)
        unfold oneA
        simp only [hw, hb, op_lim, ho, Option.map_some, ORes.setLim]
      · rename_i f args ho
        obtain ⟨g, g2⟩ := call_lim hs hr
        refine ⟨g, fun L hL => ?_⟩
        have g1 : h.next ≤ h'.next := g.1
        have hb : Nat.blt (h.setLim L).next (h.setLim L).lim = true := Nat.ble_eq_true_of_le (show h.next + 1 ≤ L by omega)
        unfold oneA
        simp only [hw, hb, op_lim, ho, Option.map_some, ORes.setLim]
        exact g2 L hL
      · rename_i b args ho
        obtain ⟨g, g2⟩ := round_lim hs hr
        refine ⟨g, fun L hL => ?_⟩
        have g1 : h.next ≤ h'.next := g.1
        have hb : Nat.blt (h.setLim L).next (h.setLim L).lim = true := Nat.ble_eq_true_of_le (show h.next + 1 ≤ L by omega)
        unfold oneA
        simp only [hw, hb, op_lim, ho, Option.map_some, ORes.setLim]
        exact g2 L hL
      · cases hr
  · rename_i hw
    simp only [R.ok.injEq, Prod.mk.injEq] at hr; obtain ⟨rfl, rfl⟩ := hr
    refine ⟨HOk.refl _, fun L hL => ?_⟩
    unfold oneA
    simp only [hw]
  · cases hr

theorem ops_lim {self : Code → Tmps → Heap → Res} (hs : LimOk self) {ops : Array Oper} : ∀ {l : List Oper} {a a' : Tmps} {h h' : Heap}, opsF P self ops l a h = .ok (a', h') →
    HOk h h' ∧ ∀ L, h'.next < L → opsF P self ops l a (h.setLim L) = .ok (a', h'.setLim L)
  | [], a, a', h, h', hr => by
    simp only [opsF, R.ok.injEq, Prod.mk.injEq] at hr; obtain ⟨rfl, rfl⟩ := hr
    exact ⟨HOk.refl _, fun L _ => rfl⟩
  | o :: l, a, a', h, h', hr => by
    simp only [opsF] at hr
    split at hr
    · rename_i v h1 ho
      obtain ⟨g1, g2⟩ := one_lim hs ho
      obtain ⟨k1, k2⟩ := ops_lim hs hr
      refine ⟨g1.trans k1, fun L hL => ?_⟩
      simp only [opsF, g2 L (Nat.lt_of_le_of_lt k1.1 hL)]
      exact k2 L hL
    · cases hr

theorem restrH_lim (D : Nat → Bool) (acc : List En) (h : Heap) (L : Nat) : ∀ xs, restrH D acc (h.setLim L) xs = restrH D acc h xs
  | [] => rfl
  | x :: xs => by
    simp only [restrH, restrH_lim D acc h L xs]
    rfl

theorem drawF_lim {self : Code → Tmps → Heap → Res} (hs : LimOk self) {ops : Array Oper} {ms : List Nat} {a : Tmps} {h : Heap} : ∀ {l : List Oper} {acc es : List En} {base fin : Nat},
    drawF P self ops ms a h l acc base = .ok (es, fin) → base ≤ fin ∧ ∀ L, fin ≤ L → drawF P self ops ms a (h.setLim L) l acc base = .ok (es, fin)
  | [], acc, es, base, fin, hr => by
    simp only [drawF, R.ok.injEq, Prod.mk.injEq] at hr; obtain ⟨rfl, rfl⟩ := hr
    exact ⟨Nat.le_refl _, fun L _ => rfl⟩
  | o :: l, acc, es, base, fin, hr => by
    simp only [drawF] at hr
    split at hr
    · cases hr
    · rename_i v h1 ho
      obtain ⟨g1, g2⟩ := one_lim hs ho
      split at hr
      · cases hr
      · split at hr
        · rename_i hslot
          obtain ⟨k1, k2⟩ := drawF_lim hs hr
          have g1' : base ≤ h1.next := g1.1
          refine ⟨by omega, fun L hL => ?_⟩
          have hb : Nat.blt (h1.setLim L).next (h.setLim L).lim = true := Nat.ble_eq_true_of_le (show h1.next + 1 ≤ L by omega)
          have g3 := g2 L (by omega)
          simp only [Heap.setLim] at g3
          simp only [drawF, restrH_lim]
          simp only [Heap.setLim] at hb ⊢
          simp only [g3, hb, hslot]
          exact k2 L hL
        · cases hr

theorem drawR_lim {self : Code → Tmps → Heap → Res} (hs : LimOk self) {ops : Array Oper} {a a' : Tmps} {h h' : Heap} (hr : drawR P self ops a h = .ok (a', h')) :
    HOk h h' ∧ ∀ L, h'.next < L → drawR P self ops a (h.setLim L) = .ok (a', h'.setLim L) := by
  unfold drawR at hr
  split at hr
  · cases hr
  · rename_i hm
    split at hr
    · cases hr
    · rename_i ms hms
      split at hr
      · cases hr
      · rename_i es base hd
        obtain ⟨g1, g2⟩ := drawF_lim hs hd
        split at hr
        · cases hr
        · rename_i hc
          simp only [R.ok.injEq, Prod.mk.injEq] at hr; obtain ⟨rfl, rfl⟩ := hr
          refine ⟨⟨g1, rfl⟩, fun L hL => ?_⟩
          have := g2 L (Nat.le_of_lt hL)
          unfold drawR
          simp only [hm, hms, hc]
          simp only [Heap.setLim] at this ⊢
          simp only [this, hc]

theorem scope_lim {self : Code → Tmps → Heap → Res} (hs : LimOk self) {body : Code} : ∀ (m : Nat) {cur : Code} {a a' : Tmps} {h h' : Heap} {ex : Ex}, scopeL self body m cur a h = .ok (ex, a', h') →
    HOk h h' ∧ ∀ L, h'.next < L → scopeL self body m cur a (h.setLim L) = .ok (ex, a', h'.setLim L)
  | 0, cur, a, a', h, h', ex, hr => by simp [scopeL] at hr
  | m + 1, cur, a, a', h, h', ex, hr => by
    simp only [scopeL] at hr
    split at hr
    · rename_i l a1 h1 h2
      obtain ⟨g1, g2⟩ := hs _ _ _ _ _ _ h2
      split at hr
      · rename_i rest hf
        obtain ⟨k1, k2⟩ := scope_lim hs m hr
        refine ⟨g1.trans k1, fun L hL => ?_⟩
        simp only [scopeL, g2 L (Nat.lt_of_le_of_lt k1.1 hL), hf]
        exact k2 L hL
      · rename_i hf
        simp only [R.ok.injEq, Prod.mk.injEq] at hr; obtain ⟨rfl, rfl, rfl⟩ := hr
        refine ⟨g1, fun L hL => ?_⟩
        simp only [scopeL, g2 L hL, hf]
    · rename_i hne
      obtain ⟨g1, g2⟩ := hs _ _ _ _ _ _ hr
      refine ⟨g1, fun L hL => ?_⟩
      simp only [scopeL, g2 L hL]
      cases ex with
      | goto l => exact absurd hr (hne _ _ _)
      | _ => rfl

theorem code_lim (P : Program) : ∀ n, LimOk (codeN P n)
  | 0 => by intro c a h ex a' h' hr; simp [codeN] at hr
  | n + 1 => by
    have hn := code_lim P n
    intro c a h ex a' h' hr
    cases c with
    | skip =>
      simp only [codeN, codeF, R.ok.injEq, Prod.mk.injEq] at hr; obtain ⟨rfl, rfl, rfl⟩ := hr
      exact ⟨HOk.refl _, fun L _ => rfl⟩
    | label l =>
      simp only [codeN, codeF, R.ok.injEq, Prod.mk.injEq] at hr; obtain ⟨rfl, rfl, rfl⟩ := hr
      exact ⟨HOk.refl _, fun L _ => rfl⟩
    | exit id =>
      simp only [codeN, codeF, R.ok.injEq, Prod.mk.injEq] at hr; obtain ⟨rfl, rfl, rfl⟩ := hr
      exact ⟨HOk.refl _, fun L _ => rfl⟩
    | ret =>
      simp only [codeN, codeF, R.ok.injEq, Prod.mk.injEq] at hr; obtain ⟨rfl, rfl, rfl⟩ := hr
      exact ⟨HOk.refl _, fun L _ => rfl⟩
    | goto l =>
      simp only [codeN, codeF, R.ok.injEq, Prod.mk.injEq] at hr; obtain ⟨rfl, rfl, rfl⟩ := hr
      exact ⟨HOk.refl _, fun L _ => rfl⟩
    | region id ops draw =>
      simp only [codeN, codeF] at hr
      split at hr
      · split at hr
        · rename_i a1 h1 ho
          simp only [R.ok.injEq, Prod.mk.injEq] at hr; obtain ⟨rfl, rfl, rfl⟩ := hr
          obtain ⟨g1, g2⟩ := ops_lim hn ho
          exact ⟨g1, fun L hL => by simp only [codeN, codeF, g2 L hL]⟩
        · cases hr
      · split at hr
        · rename_i a1 h1 ho
          simp only [R.ok.injEq, Prod.mk.injEq] at hr; obtain ⟨rfl, rfl, rfl⟩ := hr
          obtain ⟨g1, g2⟩ := drawR_lim hn ho
          exact ⟨g1, fun L hL => by simp only [codeN, codeF, g2 L hL]⟩
        · cases hr
    | seq x y =>
      simp only [codeN, codeF] at hr
      split at hr
      · rename_i a1 h1 h2
        obtain ⟨g1, g2⟩ := hn _ _ _ _ _ _ h2
        obtain ⟨k1, k2⟩ := hn _ _ _ _ _ _ hr
        exact ⟨g1.trans k1, fun L hL => by simp only [codeN, codeF, g2 L (Nat.lt_of_le_of_lt k1.1 hL), k2 L hL]⟩
      · rename_i hne
        obtain ⟨g1, g2⟩ := hn _ _ _ _ _ _ hr
        refine ⟨g1, fun L hL => ?_⟩
        simp only [codeN, codeF, g2 L hL]
        cases ex with
        | normal => exact absurd hr (hne _ _)
        | _ => rfl
    | cond c x y =>
      simp only [codeN, codeF] at hr
      split at hr
      · rename_i hc
        obtain ⟨g1, g2⟩ := hn _ _ _ _ _ _ hr
        exact ⟨g1, fun L hL => by simp only [codeN, codeF, hc, g2 L hL]⟩
      · rename_i hc
        obtain ⟨g1, g2⟩ := hn _ _ _ _ _ _ hr
        exact ⟨g1, fun L hL => by simp only [codeN, codeF, hc, g2 L hL]⟩
      · cases hr
    | block id x =>
      simp only [codeN, codeF] at hr
      split at hr
      · rename_i id' a1 h1 h2
        obtain ⟨g1, g2⟩ := hn _ _ _ _ _ _ h2
        split at hr
        · rename_i hid
          simp only [R.ok.injEq, Prod.mk.injEq] at hr; obtain ⟨rfl, rfl, rfl⟩ := hr
          exact ⟨g1, fun L hL => by simp only [codeN, codeF, g2 L hL, if_pos hid]⟩
        · rename_i hid
          simp only [R.ok.injEq, Prod.mk.injEq] at hr; obtain ⟨rfl, rfl, rfl⟩ := hr
          exact ⟨g1, fun L hL => by simp only [codeN, codeF, g2 L hL, if_neg hid]⟩
      · rename_i hne
        obtain ⟨g1, g2⟩ := hn _ _ _ _ _ _ hr
        refine ⟨g1, fun L hL => ?_⟩
        simp only [codeN, codeF, g2 L hL]
        cases ex with
        | exit id => exact absurd hr (hne _ _ _)
        | _ => rfl
    | loop x =>
      simp only [codeN, codeF] at hr
      split at hr
      · rename_i a1 h1 h2
        obtain ⟨g1, g2⟩ := hn _ _ _ _ _ _ h2
        obtain ⟨k1, k2⟩ := hn _ _ _ _ _ _ hr
        exact ⟨g1.trans k1, fun L hL => by simp only [codeN, codeF, g2 L (Nat.lt_of_le_of_lt k1.1 hL), k2 L hL]⟩
      · rename_i hne
        obtain ⟨g1, g2⟩ := hn _ _ _ _ _ _ hr
        refine ⟨g1, fun L hL => ?_⟩
        simp only [codeN, codeF, g2 L hL]
        cases ex with
        | normal => exact absurd hr (hne _ _)
        | _ => rfl
    | scope b =>
      simp only [codeN, codeF] at hr
      obtain ⟨g1, g2⟩ := scope_lim hn 100000 hr
      exact ⟨g1, fun L hL => by simp only [codeN, codeF, g2 L hL]⟩
    | rangeFunc f ps asg body =>
      simp only [codeN, codeF] at hr
      obtain ⟨g1, g2⟩ := range_lim hn hr
      exact ⟨g1, fun L hL => by simp only [codeN, codeF, g2 L hL]⟩
    | refuse s => simp [codeN, codeF] at hr
end Go.Sx

namespace Go.Sx

section
variable (P : Program) (slf : Code → Tmps → Heap → Res) (ops : Array Oper) (ms : List Nat) (a : Tmps) (h : Heap)

/-- what drawF records of the operation number i, the entries ahead of it being ctx -/
structure EnOk (i : Nat) (o : Oper) (e : En) (ctx : List En) : Prop where
  dst : e.dst = o.dst
  slot : ∀ d, o.dst = some d → d < a.n
  ment : e.ment = mentOf ops o
  lim : e.hi ≤ h.lim
  ord : e.lo ≤ e.hi
  tree : (∀ b, e.tr.get b = (heapT (Nat.testBit (nthD ms i)) ctx 0 h.t).get b) ∨ ∃ bs, e.tr = restrH (Nat.testBit (nthD ms i)) ctx h bs
  run : ∃ h1, OneP P ops o { n := a.n, dflt := false, t := restrT (Nat.testBit (nthD ms i)) ctx a (mentOf ops o) } { next := e.lo, lim := e.hi, wr := [], t := e.tr } e.v h1 ∧
    e.keys = wKeys h1.t (h1.wr ++ rangeL e.lo (h1.next - e.lo))

theorem drawF_spec (hP : okProg P = true) (hself : SelfOk P slf) (hs : LimOk slf) : ∀ (l : List Oper) (acc es : List En) (base fin : Nat), drawF P slf ops ms a h l acc base = .ok (es, fin) →
    ∃ new, es = acc ++ new ∧ new.length = l.length ∧ base ≤ fin ∧ (base ≤ h.lim → fin ≤ h.lim) ∧
      (∀ (j : Nat) (o : Oper), l[j]? = some o → ∃ e, new[j]? = some e ∧ EnOk P ops ms a h (acc.length + j) o e (acc ++ new.take j) ∧ base ≤ e.lo ∧ e.hi ≤ fin) ∧
      (∀ (j k : Nat) (e e' : En), j < k → new[j]? = some e → new[k]? = some e' → e.hi ≤ e'.lo)
  | [], acc, es, base, fin, hh => by
    simp only [drawF, R.ok.injEq, Prod.mk.injEq] at hh; obtain ⟨rfl, rfl⟩ := hh
    exact ⟨[], by simp, rfl, Nat.le_refl _, fun h => h, fun j o hj => by simp at hj, fun j k e e' _ hj => by simp at hj⟩
  | o :: l, acc, es, base, fin, hh => by
    simp only [drawF] at hh
    split at hh
    · cases hh
    · rename_i v h1 hq
      obtain ⟨g1, g2⟩ := one_lim hs hq
      have g1' : base ≤ h1.next := g1.1
      split at hh
      · cases hh
      · rename_i hlim
        have hlim' : h1.next + 1 ≤ h.lim := Nat.le_of_ble_eq_true hlim
        have hq' := g2 (h1.next + 1) (Nat.lt_succ_self _)
        split at hh
        · rename_i hslot
          obtain ⟨new, n1, n2, n3, n3b, n4, n5⟩ := drawF_spec hP hself hs l _ es _ fin hh
          refine ⟨_ :: new, by rw [n1, List.append_assoc]; exact rfl, by simp [n2], by omega, fun _ => n3b hlim', ?_, ?_⟩
          · intro j x hj
            cases j with
            | zero =>
              simp only [List.getElem?_cons_zero, Option.some.injEq] at hj; subst hj
              refine ⟨_, rfl, ⟨rfl, ?_, rfl, hlim', by simp; omega, ?_, h1.setLim (h1.next + 1), ?_, rfl⟩, Nat.le_refl _, n3⟩
              · intro d hd
                rw [hd] at hslot
                exact Nat.le_of_ble_eq_true hslot
              · simp only [List.take_zero, List.append_nil, Nat.add_zero]
                split
                · exact .inr ⟨_, rfl⟩
                · exact .inl (fun b => rfl)
              · exact oneP_of hP hself (by simpa [Heap.setLim] using hq')
            | succ j =>
              obtain ⟨e, e1, e2, e3, e4⟩ := n4 j x (by simpa using hj)
              refine ⟨e, by simpa using e1, ?_, by omega, e4⟩
              simp only [List.length_append, List.length_cons, List.length_nil] at e2
              rw [show acc.length + (0 + 1) + j = acc.length + (j + 1) from by omega] at e2
              simpa using e2
          · intro j k e e' hjk hj hk
            cases j with
            | zero =>
              simp only [List.getElem?_cons_zero, Option.some.injEq] at hj; subst hj
              cases k with
              | zero => omega
              | succ k =>
                have hk' : new[k]? = some e' := by simpa using hk
                have hlt := getElem?_lt hk'
                have h0 : k < l.length := by omega
                obtain ⟨e2, f1, _, f3, _⟩ := n4 k (l[k]'h0) (by simp [h0])
                rw [hk'] at f1; simp only [Option.some.injEq] at f1; subst f1
                exact f3
            | succ j =>
              cases k with
              | zero => omega
              | succ k => exact n5 j k e e' (by omega) (by simpa using hj) (by simpa using hk)
        · cases hh

theorem memN_spec (x : Nat) : ∀ (l : List Nat), memN x l = false → x ∉ l
  | [], _ => by simp
  | y :: l, hh => by
    simp only [memN] at hh
    split at hh
    · cases hh
    · rename_i hxy
      intro hm
      rcases List.mem_cons.1 hm with rfl | hm
      · rw [Nat.beq_refl] at hxy; cases hxy
      · exact memN_spec x l hh hm

structure Apart (x y : En) : Prop where
  t1 : ∀ d, x.dst = some d → d ∉ y.ment
  t2 : ∀ d, y.dst = some d → d ∉ x.ment
  t3 : ∀ d, x.dst = some d → y.dst ≠ some d
  h1 : ∀ b c, assoc x.keys b = some c → y.tr.get b = none ∧ assoc y.keys b = none
  h2 : ∀ b c, assoc y.keys b = some c → x.tr.get b = none ∧ assoc x.keys b = none

theorem chkH1_spec (x y : En) : ∀ (l : List (Nat × Blk)), chkH1 x y l = true → ∀ b c, assoc l b = some c → y.tr.get b = none ∧ assoc y.keys b = none
  | [], _, b, c, hb => by simp [assoc] at hb
  | (k, d) :: l, hh, b, c, hb => by
    simp only [chkH1, Bool.and_eq_true] at hh
    simp only [assoc] at hb
    split at hb
    · rename_i hk
      have := Nat.eq_of_beq_eq_true hk; subst this
      have h0 := hh.1
      split at h0
      · cases h0
      · rename_i ht
        split at h0
        · cases h0
        · rename_i hk2; exact ⟨ht, hk2⟩
    · exact chkH1_spec x y l hh.2 b c hb

theorem chkPair_spec {x y : En} (hh : chkPair x y = true) : Apart x y := by
  simp only [chkPair, Bool.and_eq_true] at hh
  obtain ⟨⟨h1, h2⟩, h3⟩ := hh
  simp only [chkT, Bool.and_eq_true] at h1
  refine ⟨?_, ?_, ?_, chkH1_spec x y _ h2, chkH1_spec y x _ h3⟩
  · intro d hd
    have := h1.1
    rw [hd] at this
    simp only [Bool.and_eq_true, Bool.not_eq_true'] at this
    exact memN_spec d _ this.1
  · intro d hd
    have := h1.2
    rw [hd] at this
    simp only [Bool.not_eq_true'] at this
    exact memN_spec d _ this
  · intro d hd hd2
    have := h1.1
    rw [hd, hd2] at this
    simp at this

theorem chkOne_spec (e : En) (m : Nat) : ∀ (l : List En) (k : Nat), chkOne e m l k = true → ∀ (j : Nat) (x : En), l[j]? = some x → Nat.testBit m (k + j) = false → Apart x e
  | [], k, _, j, x, hj => by simp at hj
  | y :: l, k, hh, j, x, hj => by
    intro hb
    simp only [chkOne, Bool.and_eq_true] at hh
    cases j with
    | zero =>
      simp only [List.getElem?_cons_zero, Option.some.injEq] at hj; subst hj
      have h0 := hh.1
      simp only [Nat.add_zero] at hb
      rw [hb] at h0
      exact chkPair_spec h0
    | succ j => exact chkOne_spec e m l (k + 1) hh.2 j x (by simpa using hj) (by rwa [show k + 1 + j = k + (j + 1) from by omega])

theorem chkAll_spec : ∀ (es acc : List En), chkAll ms acc es = true → ∀ (k : Nat) (e : En), es[k]? = some e → ∀ (i : Nat) (x : En), (acc ++ es)[i]? = some x → i < acc.length + k → Nat.testBit (nthD ms (acc.length + k)) i = false → Apart x e
  | [], acc, _, k, e, hk => by simp at hk
  | y :: es, acc, hh, k, e, hk => by
    intro i x hi hlt hb
    simp only [chkAll, Bool.and_eq_true] at hh
    cases k with
    | zero =>
      simp only [List.getElem?_cons_zero, Option.some.injEq] at hk; subst hk
      rw [List.getElem?_append_left (by omega)] at hi
      exact chkOne_spec y _ acc 0 hh.1 i x hi (by simpa using hb)
    | succ k =>
      have := chkAll_spec es (acc ++ [y]) hh.2 k e (by simpa using hk) i x (by simpa using hi)
      simp only [List.length_append, List.length_cons, List.length_nil] at this
      rw [show acc.length + (0 + 1) + k = acc.length + (k + 1) from by omega] at this
      exact this hlt hb
end
end Go.Sx

namespace Go.Sx

/-- the facts of a region that was run over -/
structure Drawn (P : Program) (slf : Code → Tmps → Heap → Res) (ops : Array Oper) (ms : List Nat) (a : Tmps) (h : Heap) (es : List En) (fin bs : Nat) : Prop where
  M : MasksOk ops.toList ms
  E : ∀ (j : Nat) (o : Oper), ops.toList[j]? = some o → bs ≤ j → j < es.length → ∃ e, es[j]? = some e ∧ EnOk P ops ms a h j o e (es.take j) ∧ h.next ≤ e.lo ∧ e.hi ≤ fin
  B : ∀ (j k : Nat) (e e' : En), j < k → es[j]? = some e → es[k]? = some e' → e.hi ≤ e'.lo
  C : ∀ (i k : Nat) (x e : En), i < k → es[i]? = some x → es[k]? = some e → Nat.testBit (nthD ms k) i = false → Apart x e
  len : es.length ≤ ops.toList.length
  Z : ∀ (j : Nat) (e : En), es[j]? = some e → j < bs → e.dst = none ∧ e.keys = [] ∧ e.hi ≤ h.next
  fin1 : h.next ≤ fin
  fin2 : h.next ≤ h.lim → fin ≤ h.lim

def HD (h : Heap) (es : List En) (fin : Nat) (D : Nat → Bool) : Heap := { next := fin, lim := h.lim, wr := keysOf es ++ h.wr, t := heapT D es 0 h.t }

theorem HD_get (h : Heap) (es : List En) (fin : Nat) (D : Nat → Bool) (b : Nat) : (HD h es fin D).t.get b = lookH D es 0 b (h.t.get b) := heapT_get D es 0 h.t b

structure Closed (ops : Array Oper) (D : Nat → Bool) : Prop where
  c : ∀ (k : Nat) (o : Oper), ops.toList[k]? = some o → D k = true → ∀ e ∈ o.after, Region.binds .any e = true → D e.on = true

section
variable {P : Program} {slf : Code → Tmps → Heap → Res} {ops : Array Oper} {ms : List Nat} {a : Tmps} {h : Heap} {es : List En} {fin bs : Nat}

theorem Drawn.op (R : Drawn P slf ops ms a h es fin bs) {j : Nat} {e : En} (he : es[j]? = some e) : ∃ o, ops.toList[j]? = some o := by
  have hj := getElem?_lt he
  have h0 : j < ops.toList.length := Nat.lt_of_lt_of_le hj R.len
  exact ⟨ops.toList[j]'h0, by simp [h0]⟩

theorem Drawn.oper (R : Drawn P slf ops ms a h es fin bs) {j : Nat} {e : En} (he : es[j]? = some e) (hb : bs ≤ j) : ∃ o, ops.toList[j]? = some o ∧ EnOk P ops ms a h j o e (es.take j) ∧ h.next ≤ e.lo ∧ e.hi ≤ fin := by
  have hj := getElem?_lt he
  obtain ⟨o, ho⟩ := R.op he
  obtain ⟨e', h1, h2⟩ := R.E j o ho hb hj
  rw [he] at h1; simp only [Option.some.injEq] at h1; subst h1
  exact ⟨o, ho, h2⟩

theorem Drawn.slots (R : Drawn P slf ops ms a h es fin bs) : ∀ e ∈ es, ∀ d, e.dst = some d → d < a.n := by
  intro x hx d hd
  obtain ⟨j, hj⟩ := List.mem_iff_getElem?.1 hx
  rcases Nat.lt_or_ge j bs with q | q
  · rw [(R.Z j x hj q).1] at hd; cases hd
  · obtain ⟨o', _, K', _⟩ := R.oper hj q
    rw [K'.dst] at hd
    exact K'.slot d hd

/-- two operations, one done and one ready, that do not wait for one another are apart -/
theorem Drawn.apart (R : Drawn P slf ops ms a h es fin bs) {D : Nat → Bool} (hc : Closed ops D) {i j : Nat} {x e : En} (hi : es[i]? = some e) (hj : es[j]? = some x) (hDi : D i = false) (hDj : D j = true)
    (hb : Nat.testBit (nthD ms i) j = false) : (j < i ∧ Apart x e) ∨ (i < j ∧ Apart e x) := by
  rcases Nat.lt_trichotomy j i with hji | hji | hji
  · exact .inl ⟨hji, R.C j i x e hji hj hi hb⟩
  · subst hji; rw [hDi] at hDj; cases hDj
  · refine .inr ⟨hji, R.C i j e x hji hi hj ?_⟩
    cases hq : Nat.testBit (nthD ms j) i with
    | false => rfl
    | true =>
      obtain ⟨o, ho⟩ := R.op hj
      have := R.M.closed (D := fun k => D k = true) hc.c j o ho (hc.c j o ho hDj) i hq
      rw [hDi] at this; cases this

theorem Drawn.tree (R : Drawn P slf ops ms a h es fin bs) {D : Nat → Bool} (hc : Closed ops D) {i : Nat} {o : Oper} {e : En} (ho : ops.toList[i]? = some o) (hi : es[i]? = some e) (hDi : D i = false) (hbi : bs ≤ i)
    (hr : ∀ x ∈ o.after, Region.binds .any x = true → D x.on = true) {b : Nat} {c : Blk} (hg : e.tr.get b = some c) : (HD h es fin D).t.get b = some c := by
  obtain ⟨o', ho', K, _, _⟩ := R.oper hi hbi
  rw [ho] at ho'; simp only [Option.some.injEq] at ho'; subst ho'
  have hmask : ∀ k, Nat.testBit (nthD ms i) k = true → D k = true := R.M.closed (D := fun k => D k = true) hc.c i o ho hr
  have h1 : lookH (Nat.testBit (nthD ms i)) (es.take i) 0 b (h.t.get b) = some c := by
    rcases K.tree with k | ⟨bs, k⟩
    · rw [k, heapT_get] at hg; exact hg
    · rw [k] at hg; exact restrH_get _ _ _ _ _ _ hg
  have hil := getElem?_lt hi
  have h2 : lookH (Nat.testBit (nthD ms i)) es 0 b (h.t.get b) = some c := by
    rw [← List.take_append_drop i es, lookH_append, h1]
    refine lookH_none _ _ _ _ _ (fun j x c' _ _ => ?_)
    simp only [Nat.zero_add, List.length_take]
    cases hq : Nat.testBit (nthD ms i) (min i es.length + j) with
    | false => rfl
    | true => have := R.M.lt i o ho _ hq; omega
  rw [HD_get, ← h2]
  symm
  refine lookH_same _ _ _ _ _ _ (fun j x c' hx hk => ?_)
  simp only [Nat.zero_add]
  cases hq : Nat.testBit (nthD ms i) j with
  | true => exact (hmask j hq).symm
  | false =>
    cases hDj : D j with
    | false => rfl
    | true =>
      rcases R.apart hc hi hx hDi hDj hq with ⟨_, A⟩ | ⟨_, A⟩
      · have := (A.h1 b c' hk).1; rw [hg] at this; cases this
      · have := (A.h2 b c' hk).1; rw [hg] at this; cases this

theorem Drawn.tmps (R : Drawn P slf ops ms a h es fin bs) {D : Nat → Bool} (hc : Closed ops D) {i : Nat} {o : Oper} {e : En} (ho : ops.toList[i]? = some o) (hi : es[i]? = some e) (hDi : D i = false) (hbi : bs ≤ i)
    (hr : ∀ x ∈ o.after, Region.binds .any x = true → D x.on = true) {t : Nat} {v : AV} (hg : (restrT (Nat.testBit (nthD ms i)) (es.take i) a (mentOf ops o)).get t = some v) :
    lookT D es 0 t (a.get t) = some v := by
  obtain ⟨o', ho', K, _, _⟩ := R.oper hi hbi
  rw [ho] at ho'; simp only [Option.some.injEq] at ho'; subst ho'
  have hmask : ∀ k, Nat.testBit (nthD ms i) k = true → D k = true := R.M.closed (D := fun k => D k = true) hc.c i o ho hr
  have h1 := restrT_get _ _ _ _ _ _ hg
  have hm := restrT_ment _ _ _ _ _ _ hg
  have hil := getElem?_lt hi
  have h2 : lookT (Nat.testBit (nthD ms i)) es 0 t (a.get t) = some v := by
    rw [← List.take_append_drop i es, lookT_append, h1]
    refine lookT_none _ _ _ _ _ (fun j x _ _ => ?_)
    simp only [Nat.zero_add, List.length_take]
    cases hq : Nat.testBit (nthD ms i) (min i es.length + j) with
    | false => rfl
    | true => have := R.M.lt i o ho _ hq; omega
  rw [← h2]
  symm
  refine lookT_same _ _ _ _ _ _ (fun j x hx hk => ?_)
  simp only [Nat.zero_add]
  cases hq : Nat.testBit (nthD ms i) j with
  | true => exact (hmask j hq).symm
  | false =>
    cases hDj : D j with
    | false => rfl
    | true =>
      rw [← K.ment] at hm
      rcases R.apart hc hi hx hDi hDj hq with ⟨_, A⟩ | ⟨_, A⟩
      · exact absurd hm (A.t1 t hk)
      · exact absurd hm (A.t2 t hk)

def addD (D : Nat → Bool) (i : Nat) : Nat → Bool := fun k => if k = i then true else D k

theorem Drawn.later (R : Drawn P slf ops ms a h es fin bs) {D : Nat → Bool} (hc : Closed ops D) {i k : Nat} {e x : En} (hi : es[i]? = some e) (hk : es[k]? = some x) (hDi : D i = false) (hik : i < k) (hDk : D k = true) : Apart e x := by
  refine R.C i k e x hik hi hk ?_
  cases hq : Nat.testBit (nthD ms k) i with
  | false => rfl
  | true =>
    obtain ⟨o, ho⟩ := R.op hk
    have := R.M.closed (D := fun k => D k = true) hc.c k o ho (hc.c k o ho hDk) i hq
    rw [hDi] at this; cases this

theorem Drawn.heapKey (R : Drawn P slf ops ms a h es fin bs) {D : Nat → Bool} (hc : Closed ops D) {i : Nat} {e : En} (hi : es[i]? = some e) (hDi : D i = false) {b : Nat} {c : Blk} (hk : assoc e.keys b = some c) :
    (HD h es fin (addD D i)).t.get b = some c := by
  rw [HD_get]
  refine lookH_hit _ hi (by simp [addD]) hk (fun k x c' hik hx hxc => ?_)
  cases hq : addD D i k with
  | false => rfl
  | true =>
    have hDk : D k = true := by simpa [addD, show ¬ k = i by omega] using hq
    have := ((R.later hc hi hx hDi hik hDk).h1 b c hk).2
    rw [hxc] at this; cases this

theorem Drawn.heapOther (i : Nat) (e : En) (D : Nat → Bool) (hi : es[i]? = some e) {b : Nat} (hk : assoc e.keys b = none) :
    (HD h es fin (addD D i)).t.get b = (HD h es fin D).t.get b := by
  rw [HD_get, HD_get]
  refine lookH_same _ _ _ _ _ _ (fun j x c hx hxc => ?_)
  simp only [Nat.zero_add, addD]
  split
  · rename_i hj; subst hj; rw [hi] at hx; simp only [Option.some.injEq] at hx; subst hx; rw [hk] at hxc; cases hxc
  · rfl

theorem Drawn.tmpKey (R : Drawn P slf ops ms a h es fin bs) {D : Nat → Bool} (hc : Closed ops D) {i : Nat} {e : En} (hi : es[i]? = some e) (hDi : D i = false) {t : Nat} (hd : e.dst = some t) (r : Option AV) :
    lookT (addD D i) es 0 t r = some e.v := by
  refine lookT_hit _ hi (by simp [addD]) hd (fun k x hik hx hxd => ?_)
  cases hq : addD D i k with
  | false => rfl
  | true =>
    have hDk : D k = true := by simpa [addD, show ¬ k = i by omega] using hq
    exact absurd hxd ((R.later hc hi hx hDi hik hDk).t3 t hd)

theorem Drawn.tmpOther (i : Nat) (e : En) (D : Nat → Bool) (hi : es[i]? = some e) {t : Nat} (hd : e.dst ≠ some t) (r : Option AV) : lookT (addD D i) es 0 t r = lookT D es 0 t r := by
  refine lookT_same _ _ _ _ _ _ (fun j x hx hxd => ?_)
  simp only [Nat.zero_add, addD]
  split
  · rename_i hj; subst hj; rw [hi] at hx; simp only [Option.some.injEq] at hx; subst hx; exact absurd hxd hd
  · rfl
end
end Go.Sx

namespace Go.Sx
variable {DL : List Deferred}

/-- what a heap that was restricted became, laid into the whole -/
theorem merge {ρ ρ' : Nat → Option Ent} {H H' R h1 : Heap} {w w' : World} {key : Nat → Option Blk} (S : SRel ρ H w) (sub : ∀ b c, R.t.get b = some c → H.t.get b = some c)
    (S1 : SRel ρ' h1 w') (G1 : Good ρ R w ρ' h1 w')
    (e2 : ∀ b, h1.t.get b = match key b with | some c => some c | none => R.t.get b)
    (hk : ∀ b c, key b = some c → H'.t.get b = some c) (ho : ∀ b, key b = none → H'.t.get b = H.t.get b)
    (hfree : ∀ i, H'.next ≤ i → i < H'.lim → ρ' i = none) : SRel ρ' H' w' := by
  have cls : ∀ (i : Nat) (e : Ent) (b : Blk), ρ' i = some e → H'.t.get i = some b → h1.t.get i = some b ∨ (R.t.get i = none ∧ ρ i = some e ∧ H.t.get i = some b) := by
    intro i e b he hb
    cases hq : key i with
    | some c =>
      left
      rw [hk i c hq] at hb
      rw [e2 i, hq]; exact hb
    | none =>
      rw [ho i hq] at hb
      cases hr : R.t.get i with
      | some c =>
        left
        rw [e2 i, hq]
        have := sub i c hr
        rw [hb] at this
        rw [this]; exact hr
      | none =>
        right
        obtain ⟨e0, he0⟩ := S.dom i b hb
        have := G1.ext i e0 he0
        rw [he] at this; simp only [Option.some.injEq] at this; subst this
        exact ⟨rfl, he0, hb⟩
  have out : ∀ (i : Nat) (e : Ent) (b : Blk), R.t.get i = none → ρ i = some e → H.t.get i = some b → b.solid = true → e.blk < w.heap.size ∧ ∀ (j : Nat) (x : Ent) (c : Blk), ρ j = some x → R.t.get j = some c → c.live = true → x.blk ≠ e.blk := by
    intro i e b hr he hb hl
    refine ⟨(S.blks i e b he hb).lt hl, fun j x c hx hc hlc => ?_⟩
    exact S.inj j i x e c b (fun q => by subst q; rw [hr] at hc; cases hc) hx he (sub j c hc) hb hlc hl
  refine ⟨?_, hfree, ?_, ?_⟩
  · intro i c hc
    cases hq : key i with
    | some d =>
      have : h1.t.get i = some d := by rw [e2 i, hq]
      exact S1.dom i d this
    | none =>
      rw [ho i hq] at hc
      obtain ⟨e, he⟩ := S.dom i c hc
      exact ⟨e, G1.ext i e he⟩
  · intro i e b he hb
    rcases cls i e b he hb with h | ⟨hr, he0, hb0⟩
    · exact S1.blks i e b he h
    · refine (S.blks i e b he0 hb0).mono G1.ext (fun hl => ?_)
      obtain ⟨o1, o2⟩ := out i e b hr he0 hb0 hl
      exact G1.keep _ o1 (fun j x c hx hc hlc => o2 j x c hx hc hlc)
  · intro i j e e' b b' hij hi hj hb hb' hl hl'
    rcases cls i e b hi hb with h | ⟨hr, he0, hb0⟩ <;> rcases cls j e' b' hj hb' with k | ⟨kr, ke0, kb0⟩
    · exact S1.inj i j e e' b b' hij hi hj h k hl hl'
    · obtain ⟨o1, o2⟩ := out j e' b' kr ke0 kb0 hl'
      rcases G1.img i e b hi h hl with ⟨i0, x0, b0, q1, q2, q3, q4⟩ | q
      · rw [← q4]; exact o2 i0 x0 b0 q1 q2 q3
      · omega
    · obtain ⟨o1, o2⟩ := out i e b hr he0 hb0 (Blk.solid_of hl)
      rcases G1.imgS j e' b' hj k hl' with ⟨i0, x0, b0, q1, q2, q3, _, q4⟩ | q
      · rw [← q4]; exact S.inj i i0 e x0 b b0 (fun q => by subst q; rw [hr] at q2; cases q2) he0 q1 hb0 (sub i0 b0 q2) hl q3
      · omega
    · exact S.inj i j e e' b b' hij he0 ke0 hb0 kb0 hl hl'

section
variable {P : Program} {slf : Code → Tmps → Heap → Res} {ops : Array Oper} {ms : List Nat} {a : Tmps} {h : Heap} {es : List En} {fin bs : Nat}

/-- the state behind the operations of a set -/
structure Inv (DL : List Deferred) (slf : Code → Tmps → Heap → Res) (ops : Array Oper) (ms : List Nat) (a : Tmps) (h : Heap) (es : List En) (fin bs : Nat) (ρ0 : Nat → Option Ent) (w0 : World) (D : Nat → Bool) (ρ : Nat → Option Ent) (A : Act) (w : World) : Prop where
  closed : Closed ops D
  base : ∀ k, k < bs → D k = true
  S : SRel ρ (HD h es fin D) w
  F : FRel DL ρ (tmpsD D es 0 a) A
  fr : ∀ (k : Nat) (e : En), es[k]? = some e → D k = false → ∀ x, e.lo ≤ x → x < e.hi → ρ x = none
  G : Good ρ0 h w0 ρ (HD h es fin D) w

theorem mem_keysOf : ∀ {es : List En} {e : En} {b : Nat} {c : Blk}, e ∈ es → assoc e.keys b = some c → b ∈ keysOf es
  | [], e, b, c, h, _ => by cases h
  | x :: es, e, b, c, h, hc => by
    simp only [keysOf, List.mem_append]
    rcases List.mem_cons.1 h with rfl | h
    · left
      have : ∀ (l : List (Nat × Blk)), assoc l b = some c → b ∈ l.map (·.1) := by
        intro l
        induction l with
        | nil => intro h; simp [assoc] at h
        | cons y l ih =>
          obtain ⟨k, d⟩ := y
          intro h
          simp only [assoc] at h
          split at h
          · rename_i hk; have := Nat.eq_of_beq_eq_true hk; subst this; simp
          · simp only [List.map_cons]; exact List.mem_cons_of_mem _ (ih h)
      exact this _ hc
    · exact .inr (mem_keysOf h hc)

theorem inv_step (r : Option Nat) (hP : okProg P = true) (hself : SelfOk P slf) (R : Drawn P slf ops ms a h es fin bs) {ρ0 : Nat → Option Ent} {w0 : World} {D : Nat → Bool} {ρ : Nat → Option Ent} {A : Act} {w : World}
    (I : Inv DL slf ops ms a h es fin bs ρ0 w0 D ρ A w) {i : Nat} {o : Oper} (ho : ops.toList[i]? = some o) (hlen : i < es.length) (hDi : D i = false) (hr : ∀ x ∈ o.after, Region.binds .any x = true → D x.on = true)
    {K : Act → World → Prop} {Q : Exit → Act → World → Prop} (hK : ∀ ρ' A' w', Inv DL slf ops ms a h es fin bs ρ0 w0 (addD D i) ρ' A' w' → K A' w') :
    if Region.wanted o (yielded ops A.tmps) then o.wpIn (RF r) 0 P A w K Q else (∀ f, o.about P w A.eval = some f → (RF r).fn f) ∧ K (A.put o.dst undef) w := by
  have hbi : bs ≤ i := by
    rcases Nat.lt_or_ge i bs with q | q
    · rw [I.base i q] at hDi; cases hDi
    · exact q
  obtain ⟨e, hi, KO, hlo, hhi⟩ := R.E i o ho hbi hlen
  obtain ⟨h1, hrun, hkeys⟩ := KO.run
  have hslots : ∀ e ∈ es, ∀ d, e.dst = some d → d < a.n := R.slots
  have sub : ∀ b c, e.tr.get b = some c → (HD h es fin D).t.get b = some c := fun b c => R.tree I.closed ho hi hDi hbi hr
  have SR : SRel ρ { next := e.lo, lim := e.hi, wr := [], t := e.tr } w := by
    refine ⟨fun j c hc => I.S.dom j c (sub j c hc), fun x h1 h2 => I.fr i e hi hDi x h1 h2, fun j x b hx hb => I.S.blks j x b hx (sub j b hb), ?_⟩
    intro j k x y b c hjk hx hy hb hc
    exact I.S.inj j k x y b c hjk hx hy (sub j b hb) (sub k c hc)
  have FR : FRel DL ρ { n := a.n, dflt := false, t := restrT (Nat.testBit (nthD ms i)) (es.take i) a (mentOf ops o) } A := by
    refine ⟨fun t v hv => ?_, by have := I.F.n; rw [tmpsD_n] at this; exact this, I.F.defers, I.F.glob⟩
    refine I.F.slot t v ?_
    rw [tmpsD_get _ _ _ _ _ hslots]
    refine R.tmps I.closed ho hi hDi hbi hr ?_
    simp only [Tmps.get] at hv
    split at hv
    · rename_i u hu; simp only [Option.some.injEq] at hv; subst hv; exact hu
    · cases hv
  refine hrun _ _ _ _ r SR FR _ _ (fun ρ' w' V S1 G1 R1 => hK ρ' _ w' ?_)
  have e2 : ∀ b, h1.t.get b = match assoc e.keys b with | some c => some c | none => e.tr.get b := by
    intro b
    cases hq : assoc e.keys b with
    | some c => rw [hkeys] at hq; exact wKeys_assoc _ _ _ _ hq
    | none =>
      cases hb : h1.t.get b with
      | none =>
        cases ht : e.tr.get b with
        | none => rfl
        | some c =>
          obtain ⟨c', hc'⟩ := G1.stays b c ht
          rw [hb] at hc'; cases hc'
      | some c =>
        have hnot : b ∉ h1.wr ++ rangeL e.lo (h1.next - e.lo) := by
          intro hm
          rw [hkeys, wKeys_mem _ _ _ _ hm hb] at hq; cases hq
        rw [List.mem_append, rangeL_mem] at hnot
        have hnx := G1.nexts
        simp only at hnx
        have := G1.same b (fun x => hnot (.inl x)) (fun x => hnot (.inr (by simp only at x; omega)))
        rw [← hb]; exact this
  have hbound : h1.next ≤ e.hi := G1.bound KO.ord
  have hnew : ∀ (x : Nat) (y : Ent), ρ' x = some y → ρ x = some y ∨ (e.lo ≤ x ∧ x < e.hi) := by
    intro x y hx
    rcases G1.newr x y hx with h | h
    · exact .inl h
    · exact .inr (by simp only at h; omega)
  have SM : SRel ρ' (HD h es fin (addD D i)) w' := by
    refine merge (key := fun b => assoc e.keys b) I.S sub S1 G1 e2 (fun b c hb => R.heapKey I.closed hi hDi hb) (fun b hb => Drawn.heapOther i e D hi hb) ?_
    intro x hx1 hx2
    cases hq : ρ' x with
    | none => rfl
    | some y =>
      rcases hnew x y hq with h | h
      · have := I.S.free x hx1 hx2; rw [h] at this; cases this
      · have hx1' : fin ≤ x := hx1
        omega
  refine ⟨⟨?_⟩, fun k hk => by simp only [addD]; split; rfl; exact I.base k hk, SM, ?_, ?_, ?_⟩
  · intro k o' ho' hk x hx hb
    simp only [addD] at hk ⊢
    split
    · rfl
    · split at hk
      · rename_i hki; subst hki; rw [ho] at ho'; simp only [Option.some.injEq] at ho'; subst ho'; exact hr x hx hb
      · exact I.closed.c k o' ho' hk x hx hb
  · refine ⟨fun t v hv => ?_, ?_, by have := I.F.defers; cases o.dst <;> simpa [Act.put] using this, I.F.glob.ext G1.ext⟩
    · rw [tmpsD_get _ _ _ _ _ hslots] at hv
      by_cases hd : e.dst = some t
      · rw [R.tmpKey I.closed hi hDi hd] at hv
        simp only [Option.some.injEq] at hv; subst hv
        have hod : o.dst = some t := by rw [← KO.dst]; exact hd
        have hlt := KO.slot t hod
        have hn := I.F.n
        rw [tmpsD_n] at hn
        rw [hod, act_put_get, if_pos ⟨by rw [← hn]; exact hlt, rfl⟩]; exact R1
      · rw [Drawn.tmpOther i e D hi hd] at hv
        have hs := I.F.slot t v (by rw [tmpsD_get _ _ _ _ _ hslots]; exact hv)
        have : (A.put o.dst V).tmps.getD t undef = A.tmps.getD t undef := by
          cases hod : o.dst with
          | none => rfl
          | some d =>
            rw [act_put_get, if_neg (fun q => hd (by rw [KO.dst, hod, q.2]))]
        rw [this]; exact Rel.ext G1.ext _ hs
    · have := I.F.n
      rw [tmpsD_n] at this ⊢
      cases hod : o.dst with
      | none => exact this
      | some d => simpa [Act.put] using this
  · intro k x hk hDk y hy1 hy2
    simp only [addD] at hDk
    split at hDk
    · cases hDk
    · rename_i hki
      cases hq : ρ' y with
      | none => rfl
      | some z =>
        rcases hnew y z hq with h | h
        · have := I.fr k x hk hDk y hy1 hy2; rw [h] at this; cases this
        · rcases Nat.lt_or_ge k i with hlt | hge
          · have := R.B k i x e hlt hk hi; omega
          · have := R.B i k e x (by omega) hi hk; omega
  · have G := I.G
    have hn1 := R.fin1
    refine ⟨G.ext.trans G1.ext, G1.os.trans G.os, G1.tape.trans G.tape, G1.output.trans G.output, Nat.le_trans G.size G1.size, ?_, ?_, G.nexts, G.lims, G.bound, G.wrs, ?_, ?_, ?_, ?_, ?_⟩
    · intro k hk hno
      rw [G1.keep k (Nat.lt_of_lt_of_le hk G.size) ?_, G.keep k hk hno]
      intro j x c h1 h2 h3
      rcases G.img j x c h1 (sub j c h2) h3 with ⟨i0, e0, b0, k1, k2, k3, k4⟩ | h4
      · rw [← k4]; exact hno i0 e0 b0 k1 k2 k3
      · omega
    · intro j x c hx hc hl
      cases hq : assoc e.keys j with
      | some d =>
        rw [R.heapKey I.closed hi hDi hq] at hc; simp only [Option.some.injEq] at hc; subst hc
        have h2 : h1.t.get j = some d := by rw [e2 j, hq]
        rcases G1.imgS j x d hx h2 hl with ⟨i0, e0, b0, k1, k2, k3, k5, k4⟩ | h4
        · rcases G.imgS i0 e0 b0 k1 (sub i0 b0 k2) k3 with ⟨i1, e1, b1, l1, l2, l3, l5, l4⟩ | h5
          · exact .inl ⟨i1, e1, b1, l1, l2, l3, fun q => l5 (k5 q), l4.trans k4⟩
          · exact .inr (by omega)
        · exact .inr (Nat.le_trans G.size h4)
      | none =>
        rw [Drawn.heapOther i e D hi hq] at hc
        obtain ⟨y, hy⟩ := I.S.dom j c hc
        have := G1.ext j y hy
        rw [hx] at this; simp only [Option.some.injEq] at this; subst this
        exact G.imgS j x c hy hc hl
    · intro b hb hnb
      have := G.same b hb hnb
      rw [← this]
      refine Drawn.heapOther i e D hi ?_
      cases hq : assoc e.keys b with
      | none => rfl
      | some c => exact absurd (List.mem_append.2 (.inl (mem_keysOf (List.mem_of_getElem? hi) hq))) hb
    · intro b c hc
      obtain ⟨c', hc'⟩ := G.stays b c hc
      cases hq : assoc e.keys b with
      | some d => exact ⟨d, R.heapKey I.closed hi hDi hq⟩
      | none => exact ⟨c', by rw [Drawn.heapOther i e D hi hq]; exact hc'⟩
    · intro b c hc
      cases hq : assoc e.keys b with
      | some d =>
        have h2 : h1.t.get b = some d := by rw [e2 b, hq]
        rcases G1.newb b d h2 with ⟨c0, h0⟩ | h0
        · exact G.newb b c0 (sub b c0 h0)
        · right
          have hf : (HD h es fin (addD D i)).next = fin := rfl
          simp only at h0; omega
      | none =>
        rw [Drawn.heapOther i e D hi hq] at hc
        exact G.newb b c hc
    · intro b x hx
      rcases hnew b x hx with h0 | h0
      · exact G.newr b x h0
      · right
        have hf : (HD h es fin (addD D i)).next = fin := rfl
        omega
    · intro j x c hx hc hl hn hle hr
      have hnD : j ∉ (HD h es fin D).wr := hn
      have hlim := KO.lim
      have hord := KO.ord
      have hGn := G.bound hle
      have hf : (HD h es fin D).next = fin := rfl
      have hcD : (HD h es fin D).t.get j = some c := by rw [G.same j hnD (by omega)]; exact hc
      have hxr := G.ext j x hx
      have step : w'.heap[x.blk]? = w.heap[x.blk]? := by
        cases ht : e.tr.get j with
        | none =>
          refine G1.keep _ ((I.S.blks j x c hxr hcD).lt (Blk.solid_of hl)) (fun k y d hy hd hdl => ?_)
          exact I.S.inj k j y x d c (fun q => by subst q; rw [ht] at hd; cases hd) hy hxr (sub k d hd) hcD hdl (Blk.solid_of hl)
        | some d =>
          have hdc := sub j d ht
          rw [hcD] at hdc; simp only [Option.some.injEq] at hdc; subst hdc
          refine G1.unw j x c hxr ht hl (fun hm => ?_) hord (by
            simp only
            rcases hr with hq | hq
            · left; omega
            · right; omega)
          obtain ⟨c', hc'⟩ := G1.stays j c ht
          have hq : assoc e.keys j ≠ none := by rw [hkeys, wKeys_mem _ _ _ _ (List.mem_append.2 (.inl hm)) hc']; simp
          cases hz : assoc e.keys j with
          | none => exact hq hz
          | some z => exact hn (List.mem_append.2 (.inl (mem_keysOf (List.mem_of_getElem? hi) hz)))
      rw [step]; exact G.unw j x c hx hc hl hnD hle hr

def unlisted (n : Nat) (listed : Array Bool) : List Nat := (List.range n).filter fun i => !listed.getD i true

theorem unlisted_set {n i : Nat} {listed : Array Bool} (hs : listed.size = n) (hi : i < n) (hl : listed.getD i true = false) : (unlisted n (listed.setIfInBounds i true)).length + 1 = (unlisted n listed).length := by
  unfold unlisted
  have key : ∀ (l : List Nat), l.Nodup → ((i ∈ l → (l.filter fun k => !(listed.setIfInBounds i true).getD k true).length + 1 = (l.filter fun k => !listed.getD k true).length) ∧
      (i ∉ l → (l.filter fun k => !(listed.setIfInBounds i true).getD k true) = (l.filter fun k => !listed.getD k true))) := by
    intro l
    induction l with
    | nil => intro _; simp
    | cons x l ih =>
      intro hnd
      obtain ⟨hx, hnd⟩ := List.nodup_cons.1 hnd
      obtain ⟨ih1, ih2⟩ := ih hnd
      have hget : ∀ k, (listed.setIfInBounds i true).getD k true = if k = i then true else listed.getD k true := by
        intro k
        simp only [Array.getD_eq_getD_getElem?, Array.getElem?_setIfInBounds]
        by_cases hk : i = k
        · subst hk; rw [if_pos rfl, if_pos (by omega)]; simp
        · rw [if_neg hk, if_neg (fun q => hk q.symm)]
      constructor
      · intro hm
        by_cases hxi : x = i
        · subst hxi
          rw [List.filter_cons, List.filter_cons, hget, if_pos rfl, ih2 hx, hl]; simp
        · have hm' : i ∈ l := by rcases List.mem_cons.1 hm with h | h; exact absurd h.symm hxi; exact h
          have := ih1 hm'
          rw [List.filter_cons, List.filter_cons, hget, if_neg hxi]
          split
          · simp only [List.length_cons]; omega
          · exact this
      · intro hm
        have hxi : ¬ x = i := fun q => hm (by rw [q]; exact List.mem_cons_self)
        have := ih2 (fun q => hm (List.mem_cons_of_mem _ q))
        rw [List.filter_cons, List.filter_cons, hget, if_neg hxi, this]
  exact (key _ List.nodup_range).1 (List.mem_range.2 hi)

theorem mem_ready' {i : Nat} {listed : Array Bool} (h : i ∈ Region.ready .any ops listed) : i < ops.size ∧ listed.getD i true = false ∧ ∃ o, ops.toList[i]? = some o ∧ ∀ x ∈ o.after, Region.binds .any x = true → listed.getD x.on false = true := by
  simp only [Region.ready, List.mem_filter, List.mem_range, Bool.and_eq_true, Bool.not_eq_true'] at h
  obtain ⟨h1, h2, h3⟩ := h
  have ho : ops[i]? = some ops[i] := by simp [h1]
  rw [ho] at h3
  simp only [Option.map_some, Option.getD_some, Array.all_eq_true'] at h3
  refine ⟨h1, h2, ops[i], by simpa using ho, fun x hx hb => ?_⟩
  have := h3 x hx
  rw [hb] at this
  simpa using this

theorem any_sound (r : Option Nat) (hP : okProg P = true) (hself : SelfOk P slf) (R : Drawn P slf ops ms a h es fin bs) (hfull : es.length = ops.size) {ρ0 : Nat → Option Ent} {w0 : World} {Q : Exit → Act → World → Prop}
    (hQ : ∀ ρ A w D, (∀ k, k < ops.size → D k = true) → Inv DL slf ops ms a h es fin bs ρ0 w0 D ρ A w → Q .normal A w) : ∀ (fuel : Nat) (listed : Array Bool) (ρ : Nat → Option Ent) (A : Act) (w : World), listed.size = ops.size →
    (unlisted ops.size listed).length = fuel → Inv DL slf ops ms a h es fin bs ρ0 w0 (fun k => listed.getD k false) ρ A w → wpAnyIn (RF r) 0 P .any ops Q fuel listed A w := by
  have both : ∀ (listed : Array Bool) (k : Nat), listed.size = ops.size → k < ops.size → listed.getD k true = listed.getD k false := by
    intro listed k hs hk
    simp only [Array.getD_eq_getD_getElem?]
    rw [Array.getElem?_eq_getElem (by omega)]; rfl
  have hall : ∀ (listed : Array Bool), listed.size = ops.size → Region.ready .any ops listed = [] → ∀ k, k < ops.size → listed.getD k false = true := by
    intro listed hs hr k
    induction k using Nat.strongRecOn with
    | _ k ih =>
      intro hk
      cases hq : listed.getD k false with
      | true => rfl
      | false =>
        have ho : ops[k]? = some ops[k] := by simp [hk]
        have hmem : k ∈ Region.ready .any ops listed := by
          simp only [Region.ready, List.mem_filter, List.mem_range, Bool.and_eq_true, Bool.not_eq_true']
          refine ⟨hk, by rw [both listed k hs hk]; exact hq, ?_⟩
          rw [ho]
          simp only [Option.map_some, Option.getD_some, Array.all_eq_true']
          intro x hx
          cases hb : Region.binds .any x with
          | false => simp
          | true =>
            have hlt := R.M.back k ops[k] (by simpa using ho) x hx hb
            simp [ih x.on hlt (by omega)]
        rw [hr] at hmem; cases hmem
  intro fuel
  induction fuel with
  | zero =>
    intro listed ρ A w hs hu I
    have hnone : Region.ready .any ops listed = [] := by
      cases hr : Region.ready .any ops listed with
      | nil => rfl
      | cons i l =>
        obtain ⟨h1, h2, _⟩ := mem_ready' (ops := ops) (listed := listed) (i := i) (by rw [hr]; exact List.mem_cons_self)
        have : i ∈ unlisted ops.size listed := by simp only [unlisted, List.mem_filter, List.mem_range]; exact ⟨h1, by rw [h2]; rfl⟩
        rw [List.eq_nil_of_length_eq_zero hu] at this; cases this
    exact ⟨hnone, hQ ρ A w _ (hall listed hs hnone) I⟩
  | succ fuel ih =>
    intro listed ρ A w hs hu I
    refine ⟨fun hnone => hQ ρ A w _ (hall listed hs hnone) I, fun i hi => ?_⟩
    obtain ⟨h1, h2, o, ho, hr⟩ := mem_ready' hi
    have hstep := inv_step r hP hself R I ho (by omega) (by rw [← both listed i hs h1]; exact h2) hr (K := wpAnyIn (RF r) 0 P .any ops Q fuel (listed.setIfInBounds i true)) (Q := Q) (fun ρ' A' w' I' => by
      refine ih _ ρ' A' w' (by simpa using hs) (by have := unlisted_set hs h1 h2; omega) ?_
      have : (fun k => (listed.setIfInBounds i true).getD k false) = addD (fun k => listed.getD k false) i := by
        funext k
        simp only [addD, Array.getD_eq_getD_getElem?, Array.getElem?_setIfInBounds]
        by_cases hk : i = k
        · subst hk; rw [if_pos rfl, if_pos (by omega), if_pos rfl]; rfl
        · rw [if_neg hk, if_neg (fun q => hk q.symm)]
      rw [this]; exact I')
    have ho' : ops[i]? = some o := by simpa using ho
    unfold wpOpIn
    simp only [ho']
    by_cases hw : Region.wanted o (yielded ops A.tmps) = true
    · rw [if_pos hw] at hstep ⊢; exact hstep
    · rw [if_neg hw] at hstep ⊢; exact hstep

theorem drawR_sound (r : Option Nat) (hP : okProg P = true) (hself : SelfOk P slf) (hlim : LimOk slf) {id : Nat} {a' : Tmps} {h' : Heap} {ρ : Nat → Option Ent} {w : World} {A : Act} {Q : Exit → Act → World → Prop}
    (hd : drawR P slf ops a h = .ok (a', h')) (S : SRel ρ h w) (F : FRel DL ρ a A) (hQ : ∀ ρ' w' A', SRel ρ' h' w' → Good ρ h w ρ' h' w' → FRel DL ρ' a' A' → Q .normal A' w') :
    (Code.region id ops true).wpIn (RF r) 0 P Q A w := by
  unfold drawR at hd
  split at hd
  · cases hd
  · rename_i hm
    split at hd
    · cases hd
    · rename_i ms hms
      split at hd
      · cases hd
      · rename_i es fin hdr
        split at hd
        · cases hd
        · rename_i hchk
          simp only [R.ok.injEq, Prod.mk.injEq] at hd; obtain ⟨rfl, rfl⟩ := hd
          obtain ⟨new, n1, n2, n3, n3b, n4, n5⟩ := drawF_spec P slf ops ms a h hP hself hlim ops.toList [] es h.next fin hdr
          simp only [List.nil_append, List.length_nil, Nat.zero_add] at n1 n4
          subst n1
          have RD : Drawn P slf ops ms a h es fin 0 := by
            refine ⟨masks_ok hms, fun j o hj _ _ => n4 j o hj, n5, ?_, Nat.le_of_eq n2, fun j e _ hb => absurd hb (Nat.not_lt_zero _), n3, n3b⟩
            intro i k x e hik hi hk hb
            have := chkAll_spec ms es [] hchk k e hk i x (by simpa using hi)
            simp only [List.length_nil, Nat.zero_add] at this
            exact this hik hb
          have hnoD : ∀ (j : Nat) (e : En), es[j]? = some e → (fun k => (Array.replicate ops.size false).getD k false) j = false := fun j e _ => getD_replicate_false _ _
          have hw0 : ({ w with drawn := w.drawn + 1 } : World) = w.drew := rfl
          refine wpIn_region_any hm ?_
          rw [hw0]
          refine any_sound (DL := DL) r hP hself RD (by simpa using n2) (ρ0 := ρ) (w0 := w) ?_ ops.size (Array.replicate ops.size false) ρ A w.drew (by simp) ?_ ?_
          · intro ρ' A' w' D hD I
            have hDe : ∀ (j : Nat) (e : En), es[j]? = some e → D j = true := fun j e he => hD j (by have := getElem?_lt he; rw [n2] at this; simpa using this)
            have hH : ∀ b, (HD h es fin D).t.get b = (heapT (fun _ => true) es 0 h.t).get b := by
              intro b
              rw [HD_get, heapT_get]
              exact lookH_same _ _ _ _ _ _ (fun j x c hx _ => by simp only [Nat.zero_add]; exact hDe j x hx)
            have hslots : ∀ e ∈ es, ∀ d, e.dst = some d → d < a.n := RD.slots
            have G := I.G
            refine hQ ρ' w' A' ⟨fun i c hc => I.S.dom i c (by rw [hH]; exact hc), I.S.free, fun i e b he hb => I.S.blks i e b he (by rw [hH]; exact hb), ?_⟩ ?_ ?_
            · intro i j e e' b b' hij hi hj hb hb'
              exact I.S.inj i j e e' b b' hij hi hj (by rw [hH]; exact hb) (by rw [hH]; exact hb')
            · exact ⟨G.ext, G.os, G.tape, G.output, G.size, G.keep, fun i e b he hb => G.imgS i e b he (by rw [hH]; exact hb), G.nexts, G.lims, G.bound, G.wrs, fun b h1 h2 => by rw [← G.same b h1 h2, hH],
                fun b c hc => by obtain ⟨c', hc'⟩ := G.stays b c hc; exact ⟨c', by rw [← hH]; exact hc'⟩, fun b c hc => G.newb b c (by rw [hH]; exact hc), G.newr, G.unw⟩
            · refine ⟨fun t v hv => ?_, ?_, I.F.defers, I.F.glob⟩
              · refine I.F.slot t v ?_
                rw [tmpsD_get _ _ _ _ _ hslots] at hv ⊢
                rw [← hv]
                exact lookT_same _ _ _ _ _ _ (fun j x hx _ => by simp only [Nat.zero_add]; exact hDe j x hx)
              · have := I.F.n
                rw [tmpsD_n] at this ⊢
                exact this
          · simp only [unlisted]
            rw [List.filter_eq_self.2]
            · simp
            · intro i hi
              have hi' := List.mem_range.1 hi
              simp [hi']
          · have hH : ∀ b, (HD h es fin (fun k => (Array.replicate ops.size false).getD k false)).t.get b = h.t.get b := by
              intro b
              rw [HD_get]
              exact lookH_none _ _ _ _ _ (fun j x c hx _ => by simp only [Nat.zero_add]; exact getD_replicate_false _ _)
            have hslots : ∀ e ∈ es, ∀ d, e.dst = some d → d < a.n := RD.slots
            refine ⟨⟨fun k o ho hk => by rw [getD_replicate_false] at hk; cases hk⟩, fun k hk => absurd hk (Nat.not_lt_zero _), ⟨?_, ?_, ?_, ?_⟩, ⟨?_, ?_, F.defers, F.glob⟩, ?_, ?_⟩
            · intro i c hc; rw [hH] at hc; exact S.dom i c hc
            · intro i h1 h2
              have h1' : fin ≤ i := h1
              have h2' : i < h.lim := h2
              exact S.free i (by omega) h2'
            · intro i e b he hb; rw [hH] at hb; exact S.drew.blks i e b he hb
            · intro i j e e' b b' hij hi hj hb hb'
              rw [hH] at hb hb'
              exact S.inj i j e e' b b' hij hi hj hb hb'
            · intro t v hv
              rw [tmpsD_get _ _ _ _ _ hslots] at hv
              rw [lookT_none _ _ _ _ _ (fun j x hx _ => by simp only [Nat.zero_add]; exact getD_replicate_false _ _)] at hv
              exact F.slot t v hv
            · rw [tmpsD_n]; exact F.n
            · intro k e hk _ x hx1 hx2
              obtain ⟨o', _, K', hlo, hhi⟩ := RD.oper hk (Nat.zero_le _)
              exact S.free x (by omega) (by have := K'.lim; omega)
            · refine ⟨Ext.refl _, rfl, rfl, rfl, Nat.le_refl _, fun _ _ _ => rfl, fun i e b h1 h2 h3 => .inl ⟨i, e, b, h1, by rw [← hH]; exact h2, h3, _root_.id, rfl⟩, n3, rfl, n3b, fun b hb => List.mem_append.2 (.inr hb),
                fun b _ _ => hH b, fun b c hc => ⟨c, by rw [hH]; exact hc⟩, fun b c hc => .inl ⟨c, by rw [← hH]; exact hc⟩, fun b e he => .inl he, fun _ _ _ _ _ _ _ _ _ => rfl⟩
/-- the operations from j on wait for all ahead of them: they run in their order -/
theorem tail_sound (r : Option Nat) (R : Drawn P slf ops ms a h es fin bs) {Q : Exit → Act → World → Prop} : ∀ (rest : List Oper) (j fuel : Nat) (listed : Array Bool) (A : Act) (w : World), ops.toList.drop j = rest → listed.size = ops.size →
    (∀ k, k < ops.size → (listed.getD k false = true ↔ k < j)) → (unlisted ops.size listed).length = fuel → (∀ i o, j ≤ i → ops.toList[i]? = some o → ∀ k, k < i → Nat.testBit (nthD ms i) k = true) →
    wpListIn (RF r) 0 P ops Q rest A w → wpAnyIn (RF r) 0 P .any ops Q fuel listed A w := by
  have both : ∀ (listed : Array Bool) (k : Nat), listed.size = ops.size → k < ops.size → listed.getD k true = listed.getD k false := by
    intro listed k hs hk
    simp only [Array.getD_eq_getD_getElem?]
    rw [Array.getElem?_eq_getElem (by omega)]; rfl
  intro rest
  induction rest with
  | nil =>
    intro j fuel listed A w hd hs hl hu hm hq
    have hj : ops.size ≤ j := by have := List.drop_eq_nil_iff.1 hd; simpa using this
    have hready : Region.ready .any ops listed = [] := by
      cases hr : Region.ready .any ops listed with
      | nil => rfl
      | cons i l =>
        obtain ⟨g1, g2, _⟩ := mem_ready' (ops := ops) (listed := listed) (i := i) (by rw [hr]; exact List.mem_cons_self)
        have := (hl i g1).2 (by omega)
        rw [both listed i hs g1, this] at g2; cases g2
    have hq : Q .normal A w := hq
    cases fuel with
    | zero => exact ⟨hready, hq⟩
    | succ f => exact ⟨fun _ => hq, fun i hi => by rw [hready] at hi; cases hi⟩
  | cons o rest ih =>
    intro j fuel listed A w hd hs hl hu hm hq
    have hjl : j < ops.toList.length := by
      rcases Nat.lt_or_ge j ops.toList.length with h1 | h1
      · exact h1
      · rw [List.drop_eq_nil_iff.2 h1] at hd; cases hd
    have hj : j < ops.size := by simpa using hjl
    have hoj : ops.toList[j]? = some o := by
      have := congrArg List.head? hd
      rw [List.head?_drop] at this; simpa using this
    have hd' : ops.toList.drop (j + 1) = rest := by
      rw [← List.drop_drop, hd]; rfl
    have hlj : listed.getD j false = false := by
      cases q : listed.getD j false with
      | false => rfl
      | true => have := (hl j hj).1 q; omega
    have hmem : j ∈ unlisted ops.size listed := by simp only [unlisted, List.mem_filter, List.mem_range]; exact ⟨hj, by rw [both listed j hs hj, hlj]; rfl⟩
    cases fuel with
    | zero => rw [List.eq_nil_of_length_eq_zero hu] at hmem; cases hmem
    | succ fuel =>
      have hready : j ∈ Region.ready .any ops listed := by
        have ho : ops[j]? = some ops[j] := by simp [hj]
        simp only [Region.ready, List.mem_filter, List.mem_range, Bool.and_eq_true, Bool.not_eq_true']
        refine ⟨hj, by rw [both listed j hs hj]; exact hlj, ?_⟩
        rw [ho]
        simp only [Option.map_some, Option.getD_some, Array.all_eq_true']
        intro x hx
        cases hb : Region.binds .any x with
        | false => simp
        | true =>
          have hlt := R.M.back j ops[j] (by simpa using ho) x hx hb
          simp [(hl x.on (by omega)).2 hlt]
      refine ⟨fun hnone => (by rw [hnone] at hready; cases hready), fun i hi => ?_⟩
      obtain ⟨g1, g2, o', ho', hr'⟩ := mem_ready' hi
      have hij : i = j := by
        rcases Nat.lt_trichotomy i j with q | q | q
        · have := (hl i g1).2 q; rw [both listed i hs g1, this] at g2; cases g2
        · exact q
        · exfalso
          have hcl := R.M.closed (D := fun k => k < j) (fun k o2 hk hkj x hx hb => Nat.lt_trans (R.M.back k o2 hk x hx hb) hkj) i o' ho' (fun x hx hb => by
            have hlt := R.M.back i o' ho' x hx hb
            exact (hl x.on (by omega)).1 (hr' x hx hb)) j (hm i o' (by omega) ho' j q)
          exact absurd hcl (Nat.lt_irrefl j)
      subst hij
      have hoj' : ops[i]? = some o := by simpa using hoj
      unfold wpOpIn
      simp only [hoj']
      simp only [wpListIn] at hq
      have hK : ∀ A' w', wpListIn (RF r) 0 P ops Q rest A' w' → wpAnyIn (RF r) 0 P .any ops Q fuel (listed.setIfInBounds i true) A' w' := fun A' w' hw' => by
        refine ih (i + 1) fuel (listed.setIfInBounds i true) A' w' hd' (by simpa using hs) (fun k hk => ?_) (by have := unlisted_set hs g1 g2; omega) (fun i' o2 hi' => hm i' o2 (by omega)) hw'
        have e : (listed.setIfInBounds i true).getD k false = if i = k then true else listed.getD k false := by
          simp only [Array.getD_eq_getD_getElem?, Array.getElem?_setIfInBounds]
          by_cases q : i = k
          · rw [if_pos q, if_pos (by omega), if_pos q]; rfl
          · rw [if_neg q, if_neg q]
        rw [e]
        by_cases q : i = k
        · rw [if_pos q]; exact ⟨fun _ => by omega, fun _ => rfl⟩
        · rw [if_neg q, hl k hk]; omega
      by_cases hw : Region.wanted o (yielded ops A.tmps) = true
      · rw [if_pos hw] at hq ⊢; exact Oper.wpIn_mono hK hq
      · rw [if_neg hw] at hq ⊢; exact ⟨hq.1, hK _ _ hq.2⟩

/-- the operations ahead of m have run, in whatever order; the others wait for all ahead of them -/
theorem last_sound (r : Option Nat) (hP : okProg P = true) (hself : SelfOk P slf) (R : Drawn P slf ops ms a h es fin bs) {m : Nat} (hm : es.length = m) (hsz : m ≤ ops.size)
    (hmask : ∀ i o, m ≤ i → ops.toList[i]? = some o → ∀ k, k < i → Nat.testBit (nthD ms i) k = true) {ρ0 : Nat → Option Ent} {w0 : World} {Q : Exit → Act → World → Prop}
    (hL : ∀ ρ A w D, (∀ k, k < m → D k = true) → Inv DL slf ops ms a h es fin bs ρ0 w0 D ρ A w → wpListIn (RF r) 0 P ops Q (ops.toList.drop m) A w) : ∀ (fuel : Nat) (listed : Array Bool) (ρ : Nat → Option Ent) (A : Act) (w : World), listed.size = ops.size →
    (unlisted ops.size listed).length = fuel → (∀ k, m ≤ k → listed.getD k false = false) → Inv DL slf ops ms a h es fin bs ρ0 w0 (fun k => listed.getD k false) ρ A w → wpAnyIn (RF r) 0 P .any ops Q fuel listed A w := by
  have both : ∀ (listed : Array Bool) (k : Nat), listed.size = ops.size → k < ops.size → listed.getD k true = listed.getD k false := by
    intro listed k hs hk
    simp only [Array.getD_eq_getD_getElem?]
    rw [Array.getElem?_eq_getElem (by omega)]; rfl
  intro fuel
  induction fuel with
  | zero =>
    intro listed ρ A w hs hu hlm I
    refine tail_sound r R (ops.toList.drop m) m 0 listed A w rfl hs (fun k hk => ⟨fun q => ?_, fun _ => ?_⟩) hu hmask (hL ρ A w _ (fun k hk => ?_) I)
    · rcases Nat.lt_or_ge k m with h1 | h1
      · exact h1
      · rw [hlm k h1] at q; cases q
    all_goals
      cases q : listed.getD k false with
      | true => rfl
      | false =>
        have : k ∈ unlisted ops.size listed := by simp only [unlisted, List.mem_filter, List.mem_range]; exact ⟨by omega, by rw [both listed k hs (by omega), q]; rfl⟩
        rw [List.eq_nil_of_length_eq_zero hu] at this; cases this
  | succ fuel ih =>
    intro listed ρ A w hs hu hlm I
    by_cases hAll : ∀ k, k < m → listed.getD k false = true
    · refine tail_sound r R (ops.toList.drop m) m (fuel + 1) listed A w rfl hs (fun k hk => ⟨fun q => ?_, fun q => hAll k q⟩) hu hmask (hL ρ A w _ hAll I)
      rcases Nat.lt_or_ge k m with h1 | h1
      · exact h1
      · rw [hlm k h1] at q; cases q
    · refine ⟨fun hnone => ?_, fun i hi => ?_⟩
      · exfalso
        apply hAll
        intro k
        induction k using Nat.strongRecOn with
        | _ k ihk =>
          intro hk
          cases hq : listed.getD k false with
          | true => rfl
          | false =>
            have hk' : k < ops.size := by omega
            have ho : ops[k]? = some ops[k] := by simp [hk']
            have hmem : k ∈ Region.ready .any ops listed := by
              simp only [Region.ready, List.mem_filter, List.mem_range, Bool.and_eq_true, Bool.not_eq_true']
              refine ⟨hk', by rw [both listed k hs hk']; exact hq, ?_⟩
              rw [ho]
              simp only [Option.map_some, Option.getD_some, Array.all_eq_true']
              intro x hx
              cases hb : Region.binds .any x with
              | false => simp
              | true =>
                have hlt := R.M.back k ops[k] (by simpa using ho) x hx hb
                simp [ihk x.on hlt (by omega)]
            rw [hnone] at hmem; cases hmem
      · obtain ⟨h1, h2, o, ho, hr⟩ := mem_ready' hi
        have ho' : ops[i]? = some o := by simpa using ho
        have him : i < m := by
          rcases Nat.lt_or_ge i m with q | q
          · exact q
          · exfalso
            apply hAll
            intro k hk
            exact R.M.closed (D := fun k => listed.getD k false = true) I.closed.c i o ho hr k (hmask i o q ho k (by omega))
        have hstep := inv_step r hP hself R I ho (by omega) (by rw [← both listed i hs h1]; exact h2) hr (K := wpAnyIn (RF r) 0 P .any ops Q fuel (listed.setIfInBounds i true)) (Q := Q) (fun ρ' A' w' I' => by
          refine ih _ ρ' A' w' (by simpa using hs) (by have := unlisted_set hs h1 h2; omega) (fun k hk => ?_) ?_
          · simp only [Array.getD_eq_getD_getElem?, Array.getElem?_setIfInBounds]
            rw [if_neg (by omega)]
            have := hlm k hk
            simpa [Array.getD_eq_getD_getElem?] using this
          · have : (fun k => (listed.setIfInBounds i true).getD k false) = addD (fun k => listed.getD k false) i := by
              funext k
              simp only [addD, Array.getD_eq_getD_getElem?, Array.getElem?_setIfInBounds]
              by_cases hk : i = k
              · subst hk; rw [if_pos rfl, if_pos (by omega), if_pos rfl]; rfl
              · rw [if_neg hk, if_neg (fun q => hk q.symm)]
            rw [this]; exact I')
        unfold wpOpIn
        simp only [ho']
        by_cases hw : Region.wanted o (yielded ops A.tmps) = true
        · rw [if_pos hw] at hstep ⊢; exact hstep
        · rw [if_neg hw] at hstep ⊢; exact hstep

theorem drawL_of (r : Option Nat) (hP : okProg P = true) (hself : SelfOk P slf) (hlim : LimOk slf) {id : Nat} {ρ : Nat → Option Ent} {w : World} {A : Act} {Q : Exit → Act → World → Prop} {pre post : List Oper}
    (hops : ops.toList = pre ++ post) (hm : P.follows .mixedOrders = true) (hms : masksF ops.toList [] = some ms) (hspec : ∃ new, es = [] ++ new ∧ new.length = pre.length ∧ h.next ≤ fin ∧ (h.next ≤ h.lim → fin ≤ h.lim) ∧
      (∀ (j : Nat) (o : Oper), pre[j]? = some o → ∃ e, new[j]? = some e ∧ EnOk P ops ms a h (([] : List En).length + j) o e ([] ++ new.take j) ∧ h.next ≤ e.lo ∧ e.hi ≤ fin) ∧
      (∀ (j k : Nat) (e e' : En), j < k → new[j]? = some e → new[k]? = some e' → e.hi ≤ e'.lo)) (hchk : chkAll ms [] es = true)
    (hmask : ∀ i o, pre.length ≤ i → ops.toList[i]? = some o → ∀ k, k < i → Nat.testBit (nthD ms i) k = true) (S : SRel ρ h w) (F : FRel DL ρ a A)
    (hQ : ∀ ρ' w' A', SRel ρ' { next := fin, lim := h.lim, wr := keysOf es ++ h.wr, t := heapT (fun _ => true) es 0 h.t } w' → Good ρ h w ρ' { next := fin, lim := h.lim, wr := keysOf es ++ h.wr, t := heapT (fun _ => true) es 0 h.t } w' →
      FRel DL ρ' (tmpsD (fun _ => true) es 0 a) A' → wpListIn (RF r) 0 P ops Q post A' w') :
    (Code.region id ops true).wpIn (RF r) 0 P Q A w := by
  obtain ⟨new, n1, n2, n3, n3b, n4, n5⟩ := hspec
  simp only [List.nil_append, List.length_nil, Nat.zero_add] at n1 n4
  subst n1
  have RD : Drawn P slf ops ms a h es fin 0 := by
    refine ⟨masks_ok hms, fun j o hj _ hlt => n4 j o (by rw [hops, List.getElem?_append_left (by omega)] at hj; exact hj), n5, ?_, by rw [hops, List.length_append]; omega, fun j e _ hb => absurd hb (Nat.not_lt_zero _), n3, n3b⟩
    intro i k x e hik hi hk hb
    have := chkAll_spec ms es [] hchk k e hk i x (by simpa using hi)
    simp only [List.length_nil, Nat.zero_add] at this
    exact this hik hb
  have hnoD : ∀ (j : Nat) (e : En), es[j]? = some e → (fun k => (Array.replicate ops.size false).getD k false) j = false := fun j e _ => getD_replicate_false _ _
  have hw0 : ({ w with drawn := w.drawn + 1 } : World) = w.drew := rfl
  refine wpIn_region_any hm ?_
  rw [hw0]
  have hsz : pre.length ≤ ops.size := by have := congrArg List.length hops; simp at this; omega
  have hdrop : ops.toList.drop pre.length = post := by rw [hops]; simp
  refine last_sound (DL := DL) r hP hself RD (m := pre.length) n2 hsz hmask (ρ0 := ρ) (w0 := w) ?_ ops.size (Array.replicate ops.size false) ρ A w.drew (by simp) ?_ (fun k _ => getD_replicate_false _ _) ?_
  · intro ρ' A' w' D hD I
    have hDe : ∀ (j : Nat) (e : En), es[j]? = some e → D j = true := fun j e he => hD j (by have := getElem?_lt he; rw [n2] at this; exact this)
    have hH : ∀ b, (HD h es fin D).t.get b = (heapT (fun _ => true) es 0 h.t).get b := by
      intro b
      rw [HD_get, heapT_get]
      exact lookH_same _ _ _ _ _ _ (fun j x c hx _ => by simp only [Nat.zero_add]; exact hDe j x hx)
    have hslots : ∀ e ∈ es, ∀ d, e.dst = some d → d < a.n := RD.slots
    have G := I.G
    rw [hdrop]
    refine hQ ρ' w' A' ⟨fun i c hc => I.S.dom i c (by rw [hH]; exact hc), I.S.free, fun i e b he hb => I.S.blks i e b he (by rw [hH]; exact hb), ?_⟩ ?_ ?_
    · intro i j e e' b b' hij hi hj hb hb'
      exact I.S.inj i j e e' b b' hij hi hj (by rw [hH]; exact hb) (by rw [hH]; exact hb')
    · exact ⟨G.ext, G.os, G.tape, G.output, G.size, G.keep, fun i e b he hb => G.imgS i e b he (by rw [hH]; exact hb), G.nexts, G.lims, G.bound, G.wrs, fun b h1 h2 => by rw [← G.same b h1 h2, hH],
        fun b c hc => by obtain ⟨c', hc'⟩ := G.stays b c hc; exact ⟨c', by rw [← hH]; exact hc'⟩, fun b c hc => G.newb b c (by rw [hH]; exact hc), G.newr, G.unw⟩
    · refine ⟨fun t v hv => ?_, ?_, I.F.defers, I.F.glob⟩
      · refine I.F.slot t v ?_
        rw [tmpsD_get _ _ _ _ _ hslots] at hv ⊢
        rw [← hv]
        exact lookT_same _ _ _ _ _ _ (fun j x hx _ => by simp only [Nat.zero_add]; exact hDe j x hx)
      · have := I.F.n
        rw [tmpsD_n] at this ⊢
        exact this
  · simp only [unlisted]
    rw [List.filter_eq_self.2]
    · simp
    · intro i hi
      have hi' := List.mem_range.1 hi
      simp [hi']
  · have hH : ∀ b, (HD h es fin (fun k => (Array.replicate ops.size false).getD k false)).t.get b = h.t.get b := by
      intro b
      rw [HD_get]
      exact lookH_none _ _ _ _ _ (fun j x c hx _ => by simp only [Nat.zero_add]; exact getD_replicate_false _ _)
    have hslots : ∀ e ∈ es, ∀ d, e.dst = some d → d < a.n := RD.slots
    refine ⟨⟨fun k o ho hk => by rw [getD_replicate_false] at hk; cases hk⟩, fun k hk => absurd hk (Nat.not_lt_zero _), ⟨?_, ?_, ?_, ?_⟩, ⟨?_, ?_, F.defers, F.glob⟩, ?_, ?_⟩
    · intro i c hc; rw [hH] at hc; exact S.dom i c hc
    · intro i h1 h2
      have h1' : fin ≤ i := h1
      have h2' : i < h.lim := h2
      exact S.free i (by omega) h2'
    · intro i e b he hb; rw [hH] at hb; exact S.drew.blks i e b he hb
    · intro i j e e' b b' hij hi hj hb hb'
      rw [hH] at hb hb'
      exact S.inj i j e e' b b' hij hi hj hb hb'
    · intro t v hv
      rw [tmpsD_get _ _ _ _ _ hslots] at hv
      rw [lookT_none _ _ _ _ _ (fun j x hx _ => by simp only [Nat.zero_add]; exact getD_replicate_false _ _)] at hv
      exact F.slot t v hv
    · rw [tmpsD_n]; exact F.n
    · intro k e hk _ x hx1 hx2
      obtain ⟨o', _, K', hlo, hhi⟩ := RD.oper hk (Nat.zero_le _)
      exact S.free x (by omega) (by have := K'.lim; omega)
    · refine ⟨Ext.refl _, rfl, rfl, rfl, Nat.le_refl _, fun _ _ _ => rfl, fun i e b h1 h2 h3 => .inl ⟨i, e, b, h1, by rw [← hH]; exact h2, h3, _root_.id, rfl⟩, n3, rfl, n3b, fun b hb => List.mem_append.2 (.inr hb),
        fun b _ _ => hH b, fun b c hc => ⟨c, by rw [hH]; exact hc⟩, fun b c hc => .inl ⟨c, by rw [← hH]; exact hc⟩, fun b e he => .inl he, fun _ _ _ _ _ _ _ _ _ => rfl⟩
theorem drawL_sound (r : Option Nat) (hP : okProg P = true) (hself : SelfOk P slf) (hlim : LimOk slf) {id : Nat} {ρ : Nat → Option Ent} {w : World} {A : Act} {Q : Exit → Act → World → Prop} {pre post : List Oper}
    (hops : ops.toList = pre ++ post) (hm : P.follows .mixedOrders = true) (hms : masksF ops.toList [] = some ms) (hdr : drawF P slf ops ms a h pre [] h.next = .ok (es, fin)) (hchk : chkAll ms [] es = true)
    (hmask : ∀ i o, pre.length ≤ i → ops.toList[i]? = some o → ∀ k, k < i → Nat.testBit (nthD ms i) k = true) (S : SRel ρ h w) (F : FRel DL ρ a A)
    (hQ : ∀ ρ' w' A', SRel ρ' { next := fin, lim := h.lim, wr := keysOf es ++ h.wr, t := heapT (fun _ => true) es 0 h.t } w' → Good ρ h w ρ' { next := fin, lim := h.lim, wr := keysOf es ++ h.wr, t := heapT (fun _ => true) es 0 h.t } w' →
      FRel DL ρ' (tmpsD (fun _ => true) es 0 a) A' → wpListIn (RF r) 0 P ops Q post A' w') :
    (Code.region id ops true).wpIn (RF r) 0 P Q A w := by
  exact drawL_of r hP hself hlim hops hm hms (drawF_spec P slf ops ms a h hP hself hlim pre [] es h.next fin hdr) hchk hmask S F hQ
end
end Go.Sx

namespace Go.Sx
variable {DL : List Deferred}
/-! ### A region in segments: what is done is all below m; the rest runs in any order -/
section
variable {P : Program} {ops : Array Oper} {ms : List Nat}

def RestAt (r : Option Nat) (P : Program) (ops : Array Oper) (Q : Exit → Act → World → Prop) (m : Nat) (A : Act) (w : World) : Prop :=
  ∀ (fuel : Nat) (listed : Array Bool), listed.size = ops.size → (∀ k, k < ops.size → (listed.getD k false = true ↔ k < m)) → (unlisted ops.size listed).length = fuel → wpAnyIn (RF r) 0 P .any ops Q fuel listed A w

theorem listed_both {n : Nat} (listed : Array Bool) (k : Nat) (hs : listed.size = n) (hk : k < n) : listed.getD k true = listed.getD k false := by
  simp only [Array.getD_eq_getD_getElem?]
  rw [Array.getElem?_eq_getElem (by omega)]; rfl

theorem rest_end (r : Option Nat) {Q : Exit → Act → World → Prop} {m : Nat} (hm : ops.size ≤ m) {A : Act} {w : World} (hq : Q .normal A w) : RestAt r P ops Q m A w := by
  intro fuel listed hs hl hu
  have hready : Region.ready .any ops listed = [] := by
    cases hr : Region.ready .any ops listed with
    | nil => rfl
    | cons i l =>
      obtain ⟨g1, g2, _⟩ := mem_ready' (ops := ops) (listed := listed) (i := i) (by rw [hr]; exact List.mem_cons_self)
      have := (hl i g1).2 (by omega)
      rw [listed_both listed i hs g1, this] at g2; cases g2
  cases fuel with
  | zero => exact ⟨hready, hq⟩
  | succ f => exact ⟨fun _ => hq, fun i hi => by rw [hready] at hi; cases hi⟩

theorem rest_one (r : Option Nat) (M : MasksOk ops.toList ms) {Q : Exit → Act → World → Prop} {m : Nat} {o : Oper} (hoj : ops.toList[m]? = some o) (hm : ∀ i o, m < i → ops.toList[i]? = some o → Nat.testBit (nthD ms i) m = true) {A : Act} {w : World}
    (hq : ∀ K : Act → World → Prop, (∀ A' w', RestAt r P ops Q (m + 1) A' w' → K A' w') → if Region.wanted o (yielded ops A.tmps) then o.wpIn (RF r) 0 P A w K Q else (∀ f, o.about P w A.eval = some f → (RF r).fn f) ∧ K (A.put o.dst undef) w) : RestAt r P ops Q m A w := by
  intro fuel listed hs hl hu
  have hj : m < ops.size := by have := getElem?_lt hoj; simpa using this
  have hlj : listed.getD m false = false := by
    cases q : listed.getD m false with
    | false => rfl
    | true => have := (hl m hj).1 q; omega
  have hmem : m ∈ unlisted ops.size listed := by simp only [unlisted, List.mem_filter, List.mem_range]; exact ⟨hj, by rw [listed_both listed m hs hj, hlj]; rfl⟩
  cases fuel with
  | zero => rw [List.eq_nil_of_length_eq_zero hu] at hmem; cases hmem
  | succ fuel =>
    have hready : m ∈ Region.ready .any ops listed := by
      have ho : ops[m]? = some ops[m] := by simp [hj]
      simp only [Region.ready, List.mem_filter, List.mem_range, Bool.and_eq_true, Bool.not_eq_true']
      refine ⟨hj, by rw [listed_both listed m hs hj]; exact hlj, ?_⟩
      rw [ho]
      simp only [Option.map_some, Option.getD_some, Array.all_eq_true']
      intro x hx
      cases hb : Region.binds .any x with
      | false => simp
      | true =>
        have hlt := M.back m ops[m] (by simpa using ho) x hx hb
        simp [(hl x.on (by omega)).2 hlt]
    refine ⟨fun hnone => (by rw [hnone] at hready; cases hready), fun i hi => ?_⟩
    obtain ⟨g1, g2, o', ho', hr'⟩ := mem_ready' hi
    have hij : i = m := by
      rcases Nat.lt_trichotomy i m with q | q | q
      · have := (hl i g1).2 q; rw [listed_both listed i hs g1, this] at g2; cases g2
      · exact q
      · exfalso
        have hcl := M.closed (D := fun k => k < m) (fun k o2 hk hkj x hx hb => Nat.lt_trans (M.back k o2 hk x hx hb) hkj) i o' ho' (fun x hx hb => by
          have hlt := M.back i o' ho' x hx hb
          exact (hl x.on (by omega)).1 (hr' x hx hb)) m (hm i o' q ho')
        exact absurd hcl (Nat.lt_irrefl m)
    subst hij
    have hoj' : ops[i]? = some o := by simpa using hoj
    unfold wpOpIn
    simp only [hoj']
    have hq := hq (wpAnyIn (RF r) 0 P .any ops Q fuel (listed.setIfInBounds i true)) (fun A' w' hw' => by
      refine hw' fuel (listed.setIfInBounds i true) (by simpa using hs) (fun k hk => ?_) (by have := unlisted_set hs g1 g2; omega)
      have e : (listed.setIfInBounds i true).getD k false = if i = k then true else listed.getD k false := by
        simp only [Array.getD_eq_getD_getElem?, Array.getElem?_setIfInBounds]
        by_cases q : i = k
        · rw [if_pos q, if_pos (by omega), if_pos q]; rfl
        · rw [if_neg q, if_neg q]
      rw [e]
      by_cases q : i = k
      · rw [if_pos q]; exact ⟨fun _ => by omega, fun _ => rfl⟩
      · rw [if_neg q, hl k hk]; omega)
    by_cases hw : Region.wanted o (yielded ops A.tmps) = true
    · rw [if_pos hw] at hq ⊢; exact hq
    · rw [if_neg hw] at hq ⊢; exact hq

variable {slf : Code → Tmps → Heap → Res} {a : Tmps} {h : Heap} {es : List En} {fin bs : Nat}

theorem seg_sound (r : Option Nat) (hP : okProg P = true) (hself : SelfOk P slf) (R : Drawn P slf ops ms a h es fin bs) {m : Nat} (hm : es.length = m) (hsz : m ≤ ops.size)
    (hmask : ∀ i o, m ≤ i → ops.toList[i]? = some o → ∀ k, k < m → Nat.testBit (nthD ms i) k = true) {ρ0 : Nat → Option Ent} {w0 : World} {Q : Exit → Act → World → Prop}
    (hL : ∀ ρ A w D, (∀ k, k < m → D k = true) → Inv DL slf ops ms a h es fin bs ρ0 w0 D ρ A w → RestAt r P ops Q m A w) : ∀ (fuel : Nat) (listed : Array Bool) (ρ : Nat → Option Ent) (A : Act) (w : World), listed.size = ops.size →
    (unlisted ops.size listed).length = fuel → (∀ k, m ≤ k → listed.getD k false = false) → Inv DL slf ops ms a h es fin bs ρ0 w0 (fun k => listed.getD k false) ρ A w → wpAnyIn (RF r) 0 P .any ops Q fuel listed A w := by
  intro fuel
  induction fuel with
  | zero =>
    intro listed ρ A w hs hu hlm I
    have hall : ∀ k, k < m → listed.getD k false = true := fun k hk => by
      cases q : listed.getD k false with
      | true => rfl
      | false =>
        have : k ∈ unlisted ops.size listed := by simp only [unlisted, List.mem_filter, List.mem_range]; exact ⟨by omega, by rw [listed_both listed k hs (by omega), q]; rfl⟩
        rw [List.eq_nil_of_length_eq_zero hu] at this; cases this
    refine hL ρ A w _ hall I 0 listed hs (fun k hk => ⟨fun q => ?_, fun q => hall k q⟩) hu
    rcases Nat.lt_or_ge k m with h1 | h1
    · exact h1
    · rw [hlm k h1] at q; cases q
  | succ fuel ih =>
    intro listed ρ A w hs hu hlm I
    by_cases hAll : ∀ k, k < m → listed.getD k false = true
    · refine hL ρ A w _ hAll I (fuel + 1) listed hs (fun k hk => ⟨fun q => ?_, fun q => hAll k q⟩) hu
      rcases Nat.lt_or_ge k m with h1 | h1
      · exact h1
      · rw [hlm k h1] at q; cases q
    · refine ⟨fun hnone => ?_, fun i hi => ?_⟩
      · exfalso
        apply hAll
        intro k
        induction k using Nat.strongRecOn with
        | _ k ihk =>
          intro hk
          cases hq : listed.getD k false with
          | true => rfl
          | false =>
            have hk' : k < ops.size := by omega
            have ho : ops[k]? = some ops[k] := by simp [hk']
            have hmem : k ∈ Region.ready .any ops listed := by
              simp only [Region.ready, List.mem_filter, List.mem_range, Bool.and_eq_true, Bool.not_eq_true']
              refine ⟨hk', by rw [listed_both listed k hs hk']; exact hq, ?_⟩
              rw [ho]
              simp only [Option.map_some, Option.getD_some, Array.all_eq_true']
              intro x hx
              cases hb : Region.binds .any x with
              | false => simp
              | true =>
                have hlt := R.M.back k ops[k] (by simpa using ho) x hx hb
                simp [ihk x.on hlt (by omega)]
            rw [hnone] at hmem; cases hmem
      · obtain ⟨h1, h2, o, ho, hr⟩ := mem_ready' hi
        have ho' : ops[i]? = some o := by simpa using ho
        have him : i < m := by
          rcases Nat.lt_or_ge i m with q | q
          · exact q
          · exfalso
            apply hAll
            intro k hk
            exact R.M.closed (D := fun k => listed.getD k false = true) I.closed.c i o ho hr k (hmask i o q ho k hk)
        have hstep := inv_step r hP hself R I ho (by omega) (by rw [← listed_both listed i hs h1]; exact h2) hr (K := wpAnyIn (RF r) 0 P .any ops Q fuel (listed.setIfInBounds i true)) (Q := Q) (fun ρ' A' w' I' => by
          refine ih _ ρ' A' w' (by simpa using hs) (by have := unlisted_set hs h1 h2; omega) (fun k hk => ?_) ?_
          · simp only [Array.getD_eq_getD_getElem?, Array.getElem?_setIfInBounds]
            rw [if_neg (by omega)]
            have := hlm k hk
            simpa [Array.getD_eq_getD_getElem?] using this
          · have : (fun k => (listed.setIfInBounds i true).getD k false) = addD (fun k => listed.getD k false) i := by
              funext k
              simp only [addD, Array.getD_eq_getD_getElem?, Array.getElem?_setIfInBounds]
              by_cases hk : i = k
              · subst hk; rw [if_pos rfl, if_pos (by omega), if_pos rfl]; rfl
              · rw [if_neg hk, if_neg (fun q => hk q.symm)]
            rw [this]; exact I')
        unfold wpOpIn
        simp only [ho']
        by_cases hw : Region.wanted o (yielded ops A.tmps) = true
        · rw [if_pos hw] at hstep ⊢; exact hstep
        · rw [if_neg hw] at hstep ⊢; exact hstep

def dmy (b : Nat) : En := { lo := b, hi := b, dst := none, v := .bool false, keys := [], ment := [], tr := .leaf }
theorem replicate_get {α : Type} {n j : Nat} {x y : α} (h : (List.replicate n x)[j]? = some y) : y = x ∧ j < n := by
  rw [List.getElem?_replicate] at h
  split at h
  · rename_i q; simp only [Option.some.injEq] at h; exact ⟨h.symm, q⟩
  · cases h

theorem rest_seg (r : Option Nat) (hP : okProg P = true) (hself : SelfOk P slf) {ρ : Nat → Option Ent} {w : World} {A : Act} {Q : Exit → Act → World → Prop} {m : Nat} {pre seg post : List Oper}
    (hops : ops.toList = pre ++ (seg ++ post)) (hpre : pre.length = m) (hms : masksF ops.toList [] = some ms) (hspec : ∃ new, es = List.replicate m (dmy h.next) ++ new ∧ new.length = seg.length ∧ h.next ≤ fin ∧ (h.next ≤ h.lim → fin ≤ h.lim) ∧
      (∀ (j : Nat) (o : Oper), seg[j]? = some o → ∃ e, new[j]? = some e ∧ EnOk P ops ms a h ((List.replicate m (dmy h.next)).length + j) o e (List.replicate m (dmy h.next) ++ new.take j) ∧ h.next ≤ e.lo ∧ e.hi ≤ fin) ∧
      (∀ (j k : Nat) (e e' : En), j < k → new[j]? = some e → new[k]? = some e' → e.hi ≤ e'.lo)) (hchk : chkAll ms [] es = true)
    (hmask : ∀ i o, m + seg.length ≤ i → ops.toList[i]? = some o → ∀ k, k < m + seg.length → Nat.testBit (nthD ms i) k = true) (S : SRel ρ h w) (F : FRel DL ρ a A)
    (hQ : ∀ ρ' w' A', SRel ρ' { next := fin, lim := h.lim, wr := keysOf es ++ h.wr, t := heapT (fun _ => true) es 0 h.t } w' → Good ρ h w ρ' { next := fin, lim := h.lim, wr := keysOf es ++ h.wr, t := heapT (fun _ => true) es 0 h.t } w' →
      FRel DL ρ' (tmpsD (fun _ => true) es 0 a) A' → RestAt r P ops Q (m + seg.length) A' w') :
    RestAt r P ops Q m A w := by
  obtain ⟨new, n1, n2, n3, n3b, n4, n5⟩ := hspec
  have hlen : es.length = m + seg.length := by rw [n1]; simp [n2]
  have hopl : m + seg.length ≤ ops.toList.length := by rw [hops]; simp; omega
  have hsz : m + seg.length ≤ ops.size := by simpa using hopl
  have lowE : ∀ (j : Nat) (e : En), es[j]? = some e → j < m → e = dmy h.next := by
    intro j e he hj
    rw [n1, List.getElem?_append_left (by simpa using hj)] at he
    exact (replicate_get he).1
  have highE : ∀ (j : Nat), m ≤ j → es[j]? = new[j - m]? := by
    intro j hj
    rw [n1, List.getElem?_append_right (by simpa using hj)]; simp
  have loE : ∀ (j : Nat) (e : En), es[j]? = some e → h.next ≤ e.lo := by
    intro j e he
    rcases Nat.lt_or_ge j m with q | q
    · rw [lowE j e he q]; exact Nat.le_refl _
    · rw [highE j q] at he
      have hl := getElem?_lt he
      obtain ⟨e', f1, _, f3, _⟩ := n4 (j - m) (seg[j - m]'(by omega)) (by simp [show j - m < seg.length by omega])
      rw [he] at f1; simp only [Option.some.injEq] at f1; subst f1; exact f3
  have RD : Drawn P slf ops ms a h es fin m := by
    refine ⟨masks_ok hms, ?_, ?_, ?_, by omega, ?_, n3, n3b⟩
    · intro j o hj hb hlt
      have hs : seg[j - m]? = some o := by
        rw [hops, List.getElem?_append_right (by omega), List.getElem?_append_left (by omega), hpre] at hj
        exact hj
      obtain ⟨e, f1, f2, f3, f4⟩ := n4 (j - m) o hs
      refine ⟨e, by rw [highE j hb]; exact f1, ?_, f3, f4⟩
      rw [List.length_replicate, show m + (j - m) = j by omega] at f2
      have ht : es.take j = List.replicate m (dmy h.next) ++ new.take (j - m) := by
        rw [n1, List.take_append, List.take_of_length_le (by simpa using hb)]; simp
      rw [ht]; exact f2
    · intro j k e e' hjk hj hk
      rcases Nat.lt_or_ge j m with q | q
      · rw [lowE j e hj q]; exact loE k e' hk
      · rw [highE j q] at hj
        rw [highE k (by omega)] at hk
        exact n5 (j - m) (k - m) e e' (by omega) hj hk
    · intro i k x e hik hi hk hb
      have := chkAll_spec ms es [] hchk k e hk i x (by simpa using hi)
      simp only [List.length_nil, Nat.zero_add] at this
      exact this hik hb
    · intro j e he hj
      rw [lowE j e he hj]; exact ⟨rfl, rfl, Nat.le_refl _⟩
  intro fuel listed hs hl hu
  have hD : ∀ k, k < m → listed.getD k false = true := fun k hk => (hl k (by omega)).2 hk
  have hN : ∀ k, listed.getD k false = true → k < m := fun k hk => by
    rcases Nat.lt_or_ge k ops.size with q | q
    · exact (hl k q).1 hk
    · simp only [Array.getD_eq_getD_getElem?] at hk
      rw [Array.getElem?_eq_none (by omega)] at hk; cases hk
  have hnone : ∀ (j : Nat) (e : En), es[j]? = some e → listed.getD j false = true → e = dmy h.next := fun j e he hj => lowE j e he (hN j hj)
  refine seg_sound (DL := DL) r hP hself RD hlen hsz hmask (ρ0 := ρ) (w0 := w) ?_ fuel listed ρ A w hs hu (fun k hk => ?_) ?_
  · intro ρ' A' w' D hDk I
    have hDe : ∀ (j : Nat) (e : En), es[j]? = some e → D j = true := fun j e he => hDk j (by have := getElem?_lt he; omega)
    have hH : ∀ b, (HD h es fin D).t.get b = (heapT (fun _ => true) es 0 h.t).get b := by
      intro b
      rw [HD_get, heapT_get]
      exact lookH_same _ _ _ _ _ _ (fun j x c hx _ => by simp only [Nat.zero_add]; exact hDe j x hx)
    have G := I.G
    refine hQ ρ' w' A' ⟨fun i c hc => I.S.dom i c (by rw [hH]; exact hc), I.S.free, fun i e b he hb => I.S.blks i e b he (by rw [hH]; exact hb), ?_⟩ ?_ ?_
    · intro i j e e' b b' hij hi hj hb hb'
      exact I.S.inj i j e e' b b' hij hi hj (by rw [hH]; exact hb) (by rw [hH]; exact hb')
    · exact ⟨G.ext, G.os, G.tape, G.output, G.size, G.keep, fun i e b he hb => G.imgS i e b he (by rw [hH]; exact hb), G.nexts, G.lims, G.bound, G.wrs, fun b h1 h2 => by rw [← G.same b h1 h2, hH],
        fun b c hc => by obtain ⟨c', hc'⟩ := G.stays b c hc; exact ⟨c', by rw [← hH]; exact hc'⟩, fun b c hc => G.newb b c (by rw [hH]; exact hc), G.newr, G.unw⟩
    · refine ⟨fun t v hv => ?_, ?_, I.F.defers, I.F.glob⟩
      · refine I.F.slot t v ?_
        rw [tmpsD_get _ _ _ _ _ RD.slots] at hv ⊢
        rw [← hv]
        exact lookT_same _ _ _ _ _ _ (fun j x hx _ => by simp only [Nat.zero_add]; exact hDe j x hx)
      · have := I.F.n
        rw [tmpsD_n] at this ⊢
        exact this
  · cases q : listed.getD k false with
    | false => rfl
    | true => have := hN k q; omega
  · have hH : ∀ b, (HD h es fin (fun k => listed.getD k false)).t.get b = h.t.get b := by
      intro b
      rw [HD_get]
      refine lookH_none _ _ _ _ _ (fun j x c hx hk => ?_)
      simp only [Nat.zero_add]
      cases q : listed.getD j false with
      | false => rfl
      | true => rw [hnone j x hx q] at hk; cases hk
    refine ⟨⟨fun k o ho hk e he hb => ?_⟩, hD, ⟨?_, ?_, ?_, ?_⟩, ⟨?_, ?_, F.defers, F.glob⟩, ?_, ?_⟩
    · have h1 := hN k hk
      have h2 := RD.M.back k o ho e he hb
      exact hD e.on (by omega)
    · intro i c hc; rw [hH] at hc; exact S.dom i c hc
    · intro i h1 h2
      have h1' : fin ≤ i := h1
      have h2' : i < h.lim := h2
      exact S.free i (by omega) h2'
    · intro i e b he hb; rw [hH] at hb; exact S.blks i e b he hb
    · intro i j e e' b b' hij hi hj hb hb'
      rw [hH] at hb hb'
      exact S.inj i j e e' b b' hij hi hj hb hb'
    · intro t v hv
      rw [tmpsD_get _ _ _ _ _ RD.slots] at hv
      rw [lookT_none _ _ _ _ _ (fun j x hx hd => by
        simp only [Nat.zero_add]
        cases q : listed.getD j false with
        | false => rfl
        | true => rw [hnone j x hx q] at hd; cases hd)] at hv
      exact F.slot t v hv
    · rw [tmpsD_n]; exact F.n
    · intro k e hk hDk x hx1 hx2
      have hkm : m ≤ k := by
        rcases Nat.lt_or_ge k m with q | q
        · rw [hD k q] at hDk; cases hDk
        · exact q
      obtain ⟨o', _, K', hlo, hhi⟩ := RD.oper hk hkm
      exact S.free x (by omega) (by have := K'.lim; omega)
    · refine ⟨Ext.refl _, rfl, rfl, rfl, Nat.le_refl _, fun _ _ _ => rfl, fun i e b h1 h2 h3 => .inl ⟨i, e, b, h1, by rw [← hH]; exact h2, h3, _root_.id, rfl⟩, n3, rfl, n3b, fun b hb => List.mem_append.2 (.inr hb),
        fun b _ _ => hH b, fun b c hc => ⟨c, by rw [hH]; exact hc⟩, fun b c hc => .inl ⟨c, by rw [← hH]; exact hc⟩, fun b e he => .inl he, fun _ _ _ _ _ _ _ _ _ => rfl⟩

/-- a region that draws its order: it begins with nothing done -/
theorem region_rest (r : Option Nat) {id : Nat} {w : World} {A : Act} {Q : Exit → Act → World → Prop} (hm : P.follows .mixedOrders = true) (hq : RestAt r P ops Q 0 A w.drew) : (Code.region id ops true).wpIn (RF r) 0 P Q A w := by
  have hw0 : ({ w with drawn := w.drawn + 1 } : World) = w.drew := rfl
  refine wpIn_region_any hm ?_
  rw [hw0]
  refine hq ops.size (Array.replicate ops.size false) (by simp) (fun k hk => ⟨fun q => (by rw [getD_replicate_false] at q; cases q), fun q => absurd q (Nat.not_lt_zero _)⟩) ?_
  simp only [unlisted]
  rw [List.filter_eq_self.2]
  · simp
  · intro i hi
    have hi' := List.mem_range.1 hi
    simp [hi']
end
end Go.Sx

namespace Go.Sx
open Go.RowKit (Below)
variable {DL : List Deferred}

theorem loop_sound {P : Program} {x : Code} {ro : Option Nat} (hnr : ro = none ∨ noRange x = true) : ∀ (n : Nat), (∀ m, m ≤ n → SelfOk P (codeN P m)) → ∀ {a a' : Tmps} {h h' : Heap} {ex : Ex} {lo : Nat} {DL : List Deferred} {ρ : Nat → Option Ent} {w : World} {A : Act}, codeN P (n + 1) (.loop x) a h = .ok (ex, a', h') → SRel ρ h w → FRel DL ρ a A → Marks lo DL ρ h w →
    ∀ Q : Exit → Act → World → Prop, (∀ DL' ρ' w' A', SRel ρ' h' w' → Good ρ h w ρ' h' w' → FRel DL' ρ' a' A' → Marks lo DL' ρ' h' w' → Q (exitOf ex) A' w') → Code.roundsIn (RF ro) 0 P x Q (n + 1) A w
  | n, hs, a, a', h, h', ex, lo, DL, ρ, w, A, hr, S, F, M, Q, hQ => by
    rw [roundsIn_succ]
    simp only [codeN, codeF] at hr
    split at hr
    · rename_i a1 h1 h2
      refine hs n (Nat.le_refl _) ro _ _ _ _ _ _ h2 hnr lo DL ρ w A S F M _ (fun DL1 ρ1 w1 A1 S1 G1 F1 M1 => ?_)
      cases n with
      | zero => simp [codeN] at hr
      | succ n =>
        exact loop_sound hnr n (fun m hm => hs m (by omega)) hr S1 F1 M1 Q (fun DL2 ρ2 w2 A2 S2 G2 F2 M2 => hQ DL2 ρ2 w2 A2 S2 (G1.trans G2) F2 M2)
    · rename_i hne
      refine hs n (Nat.le_refl _) ro _ _ _ _ _ _ hr hnr lo DL ρ w A S F M _ (fun DL1 ρ1 w1 A1 S1 G1 F1 M1 => ?_)
      have := hQ DL1 ρ1 w1 A1 S1 G1 F1 M1
      cases ex with
      | normal => exact absurd hr (hne _ _)
      | exit id => exact this
      | ret => exact this
      | goto l => exact this

theorem scope_sound {P : Program} {self : Code → Tmps → Heap → Res} (hs : SelfOk P self) {body : Code} : ∀ (m : Nat) {cur : Code} {a a' : Tmps} {h h' : Heap} {ex : Ex} {lo : Nat} {DL : List Deferred} {ρ : Nat → Option Ent} {w : World} {A : Act},
    scopeL self body m cur a h = .ok (ex, a', h') → SRel ρ h w → FRel DL ρ a A → Marks lo DL ρ h w →
    ∀ Q : Exit → Act → World → Prop, (∀ DL' ρ' w' A', SRel ρ' h' w' → Good ρ h w ρ' h' w' → FRel DL' ρ' a' A' → Marks lo DL' ρ' h' w' → Q (exitOf ex) A' w') →
    ∀ (b : Frame) (k : List Item) (cs : List Frame), ∃ e A' w', Q e A' w' ∧ Arrives P (lone (b.at A (.code cur :: .inScope body :: k)) cs w) b k cs e A' w'
  | 0, cur, a, a', h, h', ex, lo, DL, ρ, w, A, hr, S, F, M, Q, hQ => by simp [scopeL] at hr
  | m + 1, cur, a, a', h, h', ex, lo, DL, ρ, w, A, hr, S, F, M, Q, hQ => by
    intro b k cs
    simp only [scopeL] at hr
    split at hr
    · rename_i l a1 h1 h2
      have hw : cur.wp P (fun e A1 w1 => e = .goto l ∧ ∃ DL1 ρ1, SRel ρ1 h1 w1 ∧ Good ρ h w ρ1 h1 w1 ∧ FRel DL1 ρ1 a1 A1 ∧ Marks lo DL1 ρ1 h1 w1) A w :=
        wpIn_wide.1 (hs none _ _ _ _ _ _ h2 (.inl rfl) lo DL ρ w A S F M _ (fun DL1 ρ1 w1 A1 S1 G1 F1 M1 => ⟨rfl, DL1, ρ1, S1, G1, F1, M1⟩))
      obtain ⟨e, A1, w1, ⟨rfl, DL1, ρ1, S1, G1, F1, M1⟩, harr⟩ := hw b (.inScope body :: k) cs
      split at hr
      · rename_i rest hf
        obtain ⟨e2, A2, w2, hq2, harr2⟩ := scope_sound hs m hr S1 F1 M1 Q (fun DL2 ρ2 w2 A2 S2 G2 F2 M2 => hQ DL2 ρ2 w2 A2 S2 (G1.trans G2) F2 M2) b k cs
        exact ⟨e2, A2, w2, hq2, .of_steps (harr _ (by simp [gotoIn, hf])) harr2⟩
      · rename_i hf
        simp only [R.ok.injEq, Prod.mk.injEq] at hr; obtain ⟨rfl, rfl, rfl⟩ := hr
        exact ⟨.goto l, A1, w1, hQ DL1 ρ1 w1 A1 S1 G1 F1 M1, fun k' hk => harr k' (by simp [gotoIn, hf, hk])⟩
    · rename_i hne
      have hw : cur.wp P (fun e A1 w1 => e = exitOf ex ∧ ∃ DL1 ρ1, SRel ρ1 h' w1 ∧ Good ρ h w ρ1 h' w1 ∧ FRel DL1 ρ1 a' A1 ∧ Marks lo DL1 ρ1 h' w1) A w :=
        wpIn_wide.1 (hs none _ _ _ _ _ _ hr (.inl rfl) lo DL ρ w A S F M _ (fun DL1 ρ1 w1 A1 S1 G1 F1 M1 => ⟨rfl, DL1, ρ1, S1, G1, F1, M1⟩))
      obtain ⟨e, A1, w1, ⟨rfl, DL1, ρ1, S1, G1, F1, M1⟩, harr⟩ := hw b (.inScope body :: k) cs
      have hq := hQ DL1 ρ1 w1 A1 S1 G1 F1 M1
      cases ex with
      | normal => exact ⟨_, A1, w1, hq, Steps.trans harr (.one step_inScope)⟩
      | exit id => exact ⟨_, A1, w1, hq, fun k' hk => harr k' (by simp [exitTo, hk])⟩
      | ret => exact ⟨_, A1, w1, hq, harr⟩
      | goto l => exact absurd hr (hne _ _ _)

/-- a block of its own, laid -/
theorem alloc_aside {ρ : Nat → Option Ent} {h : Heap} {w : World} (S : SRel ρ h w) (o : Obj) : SRel ρ h (w.alloc o) ∧ Good ρ h w ρ h (w.alloc o) := by
  have hw : ∀ k, k < w.heap.size → (w.alloc o).heap[k]? = w.heap[k]? := fun k hk => by show (w.heap.push _)[k]? = _; rw [Array.getElem?_push, if_neg (by omega)]
  refine ⟨⟨S.dom, S.free, fun i e b he hb => (S.blks i e b he hb).mono (Ext.refl _) (fun hl => hw _ ((S.blks i e b he hb).lt hl)), S.inj⟩, ?_⟩
  exact ⟨Ext.refl _, rfl, rfl, rfl, by simp, fun k hk _ => hw k hk, fun i e b h1 h2 h3 => .inl ⟨i, e, b, h1, h2, h3, _root_.id, rfl⟩, Nat.le_refl _, rfl, fun h => h, fun _ h => h, fun _ _ _ => rfl,
    fun b c h => ⟨c, h⟩, fun b c h => .inl ⟨c, h⟩, fun b e h => .inl h, fun i e b he hb hl _ _ _ => hw _ ((S.blks i e b he hb).lt (Blk.solid_of hl))⟩

theorem range_sound {P : Program} (hP : okProg P = true) {self : Code → Tmps → Heap → Res} (hself : SelfOk P self) {f : Operand} {ps : Array Nat} {asg body : Code} {a a' : Tmps} {h h' : Heap} {ex : Ex} {lo : Nat} {DL : List Deferred} {ρ : Nat → Option Ent} {w : World} {A : Act}
    (hr : rangeF P self f ps.toList asg body a h = .ok (ex, a', h')) (S : SRel ρ h w) (F : FRel DL ρ a A) (M : Marks lo DL ρ h w)
    (Q : Exit → Act → World → Prop) (hQ : ∀ DL' ρ' w' A', SRel ρ' h' w' → Good ρ h w ρ' h' w' → FRel DL' ρ' a' A' → Marks lo DL' ρ' h' w' → Q (exitOf ex) A' w') : (Code.rangeFunc f ps asg body).wpIn (RF none) 0 P Q A w := by
  unfold rangeF at hr
  split at hr
  · rename_i g first cap hf
    split at hr
    · cases hr
    · rename_i hlt
      have hlt : h.next < h.lim := Nat.le_of_ble_eq_true hlt
      split at hr
      · rename_i v h2 hcall
        have hfr := evalA_rel F hf
        simp only [Rel] at hfr
        obtain ⟨g', xs, ys, hg, hxs, hys, hev⟩ := hfr
        have hg : g' = .func g := hg
        subst hg
        refine wpIn_rangeFunc (fun fn _ => ?_)
        obtain ⟨S0, G0⟩ := alloc_aside S (.deferred (some []))
        let rec0 : Loop := { state := .ready, pending := none, fn, tmps := A.tmps, params := ps, assign := asg, body, defers := w.heap.size }
        have hs0 : (w.alloc (.deferred (some []))).heap.size = w.heap.size + 1 := by simp
        have S1 : SRel (upd ρ h.next ⟨w.heap.size + 1, 0, 0⟩) (h.push (.loop ps.toList asg body a none)) ((w.alloc (.deferred (some []))).alloc (.loop rec0)) := by
          refine S0.push hlt (fun i x c hx hc hl => ?_) ⟨rec0, ?_, rfl, rfl, rfl, fun t u hu => Rel.ext (Ext.push _ (S.unmapped hlt)) _ (F.slot t u hu), F.n, rfl, rfl⟩
          · have := (S0.blks i x c hx hc).lt hl
            refine ⟨by show ((w.alloc (.deferred (some []))).heap.push _)[x.blk]? = _; rw [Array.getElem?_push, if_neg (by omega)], ?_⟩
            simp only; omega
          · have := World.alloc_heap_new (w.alloc (.deferred (some []))) (.loop rec0)
            rw [hs0] at this; exact this
        have G1 : Good ρ h (w.alloc (.deferred (some []))) (upd ρ h.next ⟨w.heap.size + 1, 0, 0⟩) (h.push (.loop ps.toList asg body a none)) ((w.alloc (.deferred (some []))).alloc (.loop rec0)) :=
          Good.push S0 hlt (by simp) (fun k hk => by show ((w.alloc (.deferred (some []))).heap.push _)[k]? = _; rw [Array.getElem?_push, if_neg (by omega)]) (by simp) rfl rfl rfl
        have hnew : upd ρ h.next ⟨w.heap.size + 1, 0, 0⟩ h.next = some ⟨w.heap.size + 1, 0, 0⟩ := upd_same _ _ _
        have hargs : RelL (upd ρ h.next ⟨w.heap.size + 1, 0, 0⟩) (first ++ [.fn (.yield h.next) [] []] ++ cap) (xs ++ [Value.func (.yield (w.heap.size + 1)) #[] #[]] ++ ys) := by
          refine ((RelL.ext G1.ext _ hxs).append ?_).append (RelL.ext G1.ext _ hys)
          simp only [RelL, Rel]
          exact ⟨_, [], ⟨.yield (w.heap.size + 1), [], [], ⟨_, hnew, rfl⟩, rfl, rfl, rfl⟩, rfl, rfl⟩
        obtain ⟨fd, bd, hfd, hbd, hC⟩ := callF_sound hself hcall S1 (F.glob.ext G1.ext) hargs
        refine ⟨w.heap.size + 1, [markOf w.heap.size], (w.alloc (.deferred (some []))).alloc (.loop rec0), { target := .fn (.func g) ys.toArray, args := xs.toArray ++ #[Value.func (.yield (w.heap.size + 1)) #[] #[]] },
          (w.alloc (.deferred (some []))).alloc (.loop rec0), g, (xs ++ [Value.func (.yield (w.heap.size + 1)) #[] #[]] ++ ys).toArray, (w.alloc (.deferred (some []))).alloc (.loop rec0), ?_, ?_, fun _ _ => trivial, ?_, (fun q => (by cases q)), ?_⟩
        · exact run_enterLoop_outer fn A.tmps ps asg body
        · have ec : A.eval (.const (.func (.yield (w.heap.size + 1)) #[] #[])) = .func (.yield (w.heap.size + 1)) #[] #[] := rfl
          simp [resolve, rangeCall, hev, Deferred.ofValue, ec]
        · simp only [invoke]
          have e : (xs.toArray ++ #[Value.func (.yield (w.heap.size + 1)) #[] #[]]) ++ ys.toArray = (xs ++ [Value.func (.yield (w.heap.size + 1)) #[] #[]] ++ ys).toArray := by simp
          rw [e]; exact callFunc_run hP hfd hbd _ _
        · have hM1 : Marks lo (markOf w.heap.size :: DL) ρ h (w.alloc (.deferred (some []))) := by
            obtain ⟨hl, Ds, rfl, hn, hD⟩ := M
            refine ⟨by omega, w.heap.size :: Ds, rfl, List.nodup_cons.2 ⟨fun hm => ?_, hn⟩, fun D hm => ?_⟩
            · have := heap_lt (hD _ hm).2.1; omega
            · rcases List.mem_cons.1 hm with rfl | hm
              · refine ⟨hl, World.alloc_heap_new w _, fun i e b he hb hlb => ?_⟩
                have := (S.blks i e b he hb).lt hlb; omega
              · obtain ⟨k1, k2, k3⟩ := hD D hm
                refine ⟨k1, ?_, k3⟩
                have := heap_lt k2
                show (w.heap.push _)[D]? = _
                rw [Array.getElem?_push, if_neg (by omega)]; exact k2
          refine hC.mono ?_
          rintro e2 w2 ⟨V, ρ2, rfl, _, S2, G2⟩
          have he2 := G2.ext _ _ hnew
          have fin : ∀ {pps pasg pbody pt st} {q : Loop}, h2.get h.next = some (.loop pps pasg pbody pt st) → w2.heap[w.heap.size + 1]? = some (.loop q) →
              SRel ρ2 (h2.set h.next .dead) (w2.putObj (w.heap.size + 1) (.loop { q with state := .exhausted })) ∧ Good ρ h w ρ2 (h2.set h.next .dead) (w2.putObj (w.heap.size + 1) (.loop { q with state := .exhausted })) ∧
              FRel (markOf w.heap.size :: DL) ρ2 a { A with defers := [markOf w.heap.size] ++ A.defers } ∧ Marks lo (markOf w.heap.size :: DL) ρ2 (h2.set h.next .dead) (w2.putObj (w.heap.size + 1) (.loop { q with state := .exhausted })) := by
            intro pps pasg pbody pt st q hb hq
            have hd := loop_dead (o := .loop { q with state := .exhausted }) S2 hb he2
            have G12 := (G1.trans G2).trans hd.2
            have F2 := F.ext G12.ext
            exact ⟨hd.1, G0.trans G12, ⟨F2.slot, F2.n, by simp [F.defers], F2.glob⟩, hM1.good G12⟩
          split at hr
          · rename_i pps pasg pbody pt hb
            simp only [R.ok.injEq, Prod.mk.injEq] at hr; obtain ⟨rfl, rfl, rfl⟩ := hr
            obtain ⟨q, q1, _, _, _, _, _, q7⟩ := S2.blks _ _ _ he2 hb
            obtain ⟨z1, z2, z3, z4⟩ := fin hb q1
            refine ⟨q.pending, _, run_endLoop (P := P) q1 (by rw [q7.1]; simp), ?_⟩
            split
            · exact hQ _ ρ2 _ _ z1 z2 z3 z4
            · rename_i c hc
              rw [q7.2] at hc; cases hc
          · rename_i pps pasg pbody pt ex' hb
            simp only [R.ok.injEq, Prod.mk.injEq] at hr; obtain ⟨rfl, rfl, rfl⟩ := hr
            obtain ⟨q, q1, _, _, _, _, _, q7⟩ := S2.blks _ _ _ he2 hb
            obtain ⟨z1, z2, z3, z4⟩ := fin hb q1
            refine ⟨q.pending, _, run_endLoop (P := P) q1 (by rw [q7.1]; simp), ?_⟩
            have hq := hQ _ ρ2 _ _ z1 z2 z3 z4
            split
            · rename_i hc
              rw [q7.2] at hc; cases hc
            · rename_i c hc
              rw [q7.2, Option.some.injEq] at hc
              subst hc
              cases ex' with
              | normal => exact wpIn_skip hq
              | exit id => exact wpIn_exit hq
              | ret => exact wpIn_ret hq
              | goto l => exact wpIn_goto hq
          · cases hr
      · cases hr
  · cases hr

theorem code_sound {P : Program} (hP : okProg P = true) : ∀ n, SelfOk P (codeN P n) := by
  intro n
  induction n using Nat.strongRecOn with
  | _ n ih =>
    cases n with
    | zero => intro ro c a h ex a' h' hr; simp [codeN] at hr
    | succ n =>
      have hn : SelfOk P (codeN P n) := ih n (Nat.lt_succ_self n)
      intro ro c a h ex a' h' hr hnr lo DL ρ w A S F M Q hQ
      cases c with
      | loop x => exact wpIn_loop_rounds (n + 1) (loop_sound (x := x) (by simpa [noRange] using hnr) n (fun m hm => ih m (by omega)) hr S F M Q hQ)
      | skip =>
        simp only [codeN, codeF, R.ok.injEq, Prod.mk.injEq] at hr; obtain ⟨rfl, rfl, rfl⟩ := hr
        exact wpIn_skip (hQ DL ρ w A S (Good.refl _ _ _) F M)
      | label l =>
        simp only [codeN, codeF, R.ok.injEq, Prod.mk.injEq] at hr; obtain ⟨rfl, rfl, rfl⟩ := hr
        exact wpIn_label (hQ DL ρ w A S (Good.refl _ _ _) F M)
      | exit id =>
        simp only [codeN, codeF, R.ok.injEq, Prod.mk.injEq] at hr; obtain ⟨rfl, rfl, rfl⟩ := hr
        exact wpIn_exit (hQ DL ρ w A S (Good.refl _ _ _) F M)
      | ret =>
        simp only [codeN, codeF, R.ok.injEq, Prod.mk.injEq] at hr; obtain ⟨rfl, rfl, rfl⟩ := hr
        exact wpIn_ret (hQ DL ρ w A S (Good.refl _ _ _) F M)
      | region id ops draw =>
        simp only [codeN, codeF] at hr
        split at hr
        · split at hr
          · rename_i a1 h1 ho
            simp only [R.ok.injEq, Prod.mk.injEq] at hr; obtain ⟨rfl, rfl, rfl⟩ := hr
            exact wpIn_region_list (ops_sound hP hn ro ho S F (fun ρ' w' A' S' G' F' => hQ DL ρ' w' A' S' G' F' (M.good G')))
          · cases hr
        · split at hr
          · rename_i a1 h1 ho
            simp only [R.ok.injEq, Prod.mk.injEq] at hr; obtain ⟨rfl, rfl, rfl⟩ := hr
            exact drawR_sound ro hP hn (code_lim P n) ho S F (fun ρ' w' A' S' G' F' => hQ DL ρ' w' A' S' G' F' (M.good G'))
          · cases hr
      | seq x y =>
        have h1r : ro = none ∨ noRange x = true := by rcases hnr with h | h; exact .inl h; simp only [noRange, Bool.and_eq_true] at h; exact .inr h.1
        have h2r : ro = none ∨ noRange y = true := by rcases hnr with h | h; exact .inl h; simp only [noRange, Bool.and_eq_true] at h; exact .inr h.2
        simp only [codeN, codeF] at hr
        refine wpIn_seq ?_
        split at hr
        · rename_i a1 h1 h2
          refine hn ro _ _ _ _ _ _ h2 h1r lo DL ρ w A S F M _ (fun DL1 ρ1 w1 A1 S1 G1 F1 M1 => ?_)
          exact hn ro _ _ _ _ _ _ hr h2r lo DL1 ρ1 w1 A1 S1 F1 M1 Q (fun DL2 ρ2 w2 A2 S2 G2 F2 M2 => hQ DL2 ρ2 w2 A2 S2 (G1.trans G2) F2 M2)
        · rename_i hne
          refine hn ro _ _ _ _ _ _ hr h1r lo DL ρ w A S F M _ (fun DL1 ρ1 w1 A1 S1 G1 F1 M1 => ?_)
          have := hQ DL1 ρ1 w1 A1 S1 G1 F1 M1
          cases ex with
          | normal => exact absurd hr (hne _ _)
          | exit id => exact this
          | ret => exact this
          | goto l => exact this
      | cond c x y =>
        have h1r : ro = none ∨ noRange x = true := by rcases hnr with h | h; exact .inl h; simp only [noRange, Bool.and_eq_true] at h; exact .inr h.1
        have h2r : ro = none ∨ noRange y = true := by rcases hnr with h | h; exact .inl h; simp only [noRange, Bool.and_eq_true] at h; exact .inr h.2
        simp only [codeN, codeF] at hr
        split at hr
        · rename_i hc
          have hb := evalA_rel F hc
          simp only [Rel] at hb
          exact wpIn_cond_true hb (hn ro _ _ _ _ _ _ hr h1r lo DL ρ w A S F M Q hQ)
        · rename_i hc
          have hb := evalA_rel F hc
          simp only [Rel] at hb
          exact wpIn_cond_false hb (hn ro _ _ _ _ _ _ hr h2r lo DL ρ w A S F M Q hQ)
        · cases hr
      | block id x =>
        have h1r : ro = none ∨ noRange x = true := by simpa [noRange] using hnr
        simp only [codeN, codeF] at hr
        refine wpIn_block ?_
        split at hr
        · rename_i id' a1 h1 h2
          refine hn ro _ _ _ _ _ _ h2 h1r lo DL ρ w A S F M _ (fun DL1 ρ1 w1 A1 S1 G1 F1 M1 => ?_)
          simp only [exitOf, Exit.inBlock]
          split at hr
          · rename_i hid
            simp only [R.ok.injEq, Prod.mk.injEq] at hr; obtain ⟨rfl, rfl, rfl⟩ := hr
            rw [if_pos hid]; exact hQ DL1 ρ1 w1 A1 S1 G1 F1 M1
          · rename_i hid
            simp only [R.ok.injEq, Prod.mk.injEq] at hr; obtain ⟨rfl, rfl, rfl⟩ := hr
            rw [if_neg hid]; exact hQ DL1 ρ1 w1 A1 S1 G1 F1 M1
        · rename_i hne
          refine hn ro _ _ _ _ _ _ hr h1r lo DL ρ w A S F M _ (fun DL1 ρ1 w1 A1 S1 G1 F1 M1 => ?_)
          have := hQ DL1 ρ1 w1 A1 S1 G1 F1 M1
          cases ex with
          | normal => exact this
          | exit id => exact absurd hr (hne _ _ _)
          | ret => exact this
          | goto l => exact this
      | rangeFunc f ps asg body =>
        have h0 : ro = none := by rcases hnr with h | h; exact h; simp [noRange] at h
        subst h0
        simp only [codeN, codeF] at hr
        exact range_sound hP hn hr S F M Q hQ
      | scope b =>
        have h0 : ro = none := by rcases hnr with h | h; exact h; simp [noRange] at h
        subst h0
        simp only [codeN, codeF] at hr
        refine wpIn_wide.2 (fun b' k cs => ?_)
        obtain ⟨e, A', w', hq, harr⟩ := scope_sound hn 100000 hr S F M Q hQ b' k cs
        exact ⟨e, A', w', hq, .of_steps (.one step_scope) harr⟩
      | goto l =>
        simp only [codeN, codeF, R.ok.injEq, Prod.mk.injEq] at hr; obtain ⟨rfl, rfl, rfl⟩ := hr
        exact wpIn_goto (hQ DL ρ w A S (Good.refl _ _ _) F M)
      | refuse s => simp [codeN, codeF] at hr

/-- a run of the executor from a heap that holds what the world holds is a call -/
theorem run_from {P : Program} (hP : okProg P = true) {n : Nat} {f : FuncId} {b : Bool} {h0 h' : Heap} {ρ0 : Nat → Option Ent} {w : World} (S : SRel ρ0 h0 w) (G : Globs ρ0)
    (hr : callF P (codeN P n) f [] h0 = .ok (.bool b, h')) :
    Calls P f #[] w fun e w' => e = .returned (.bool b) ∧ ∃ ρ', SRel ρ' h' w' ∧ Good ρ0 h0 w ρ' h' w' := by
  obtain ⟨fn, body, _, _, hc⟩ := callF_sound (ARGS := []) (code_sound hP n) hr S G (by simp [RelL])
  refine (callsIn_wide.1 hc).mono ?_
  rintro e w' ⟨V, ρ', rfl, h1, h2, h3⟩
  simp only [Rel] at h1
  subst h1
  exact ⟨rfl, ρ', h2, h3⟩

/-- the package variables alone -/
def globsOnly (i : Nat) : Option Ent := if 2097152 ≤ i then some ⟨i - 2097152, 0, 0⟩ else none
theorem globs_only : Globs globsOnly := fun g => ⟨0, by simp [globsOnly]⟩

/-- a run of the executor from the empty heap is a call -/
theorem run_sound {P : Program} (hP : okProg P = true) {n : Nat} {f : FuncId} {b : Bool} {h' : Heap} (hr : run P n f [] = .ok (.bool b, h')) (w : World) :
    Calls P f #[] w fun e w' => e = .returned (.bool b) ∧ Below w.heap.size w w' := by
  have none : ∀ i, Heap.empty.t.get i = none := fun i => by simp [Heap.empty, T.get]
  have S : SRel globsOnly Heap.empty w := by
    refine ⟨fun i c hc => ?_, fun i _ h2 => ?_, fun i e b _ hb => ?_, fun i j e e' b b' _ _ _ hb => ?_⟩
    · rw [none] at hc; cases hc
    · simp only [Heap.empty] at h2; simp only [globsOnly]; rw [if_neg (by omega)]
    · rw [none] at hb; cases hb
    · rw [none] at hb; cases hb
  refine (run_from hP S globs_only hr).mono ?_
  rintro e w' ⟨rfl, ρ', h2, h3⟩
  exact ⟨rfl, h3.os, h3.tape, h3.output, h3.size, fun k hk => h3.keep k hk (fun i e b _ hb => by rw [none] at hb; cases hb)⟩

/-- the same by one closed Bool -/
theorem run_true {P : Program} (hP : okProg P = true) {n : Nat} {f : FuncId} (hr : isTrue (run P n f []) = true) (w : World) :
    Calls P f #[] w fun e w' => e = .returned (.bool true) ∧ Below w.heap.size w w' := by
  unfold isTrue at hr
  split at hr
  · rename_i b h' hq; subst hr; exact run_sound hP hq w
  · cases hr

end Go.Sx

namespace Go.Sx
open Go.WideShapes Go.ChangeShapes Go.RowKit

section
variable {H : Type} {enc : TypeId × Value → H} {P : Program}

/-- 'post_of_same', where of the cells alone that a reading met it is asked that their text stays text -/
theorem post_of_below {f : Func} {s : ChangeSpec} {apart fresh handsOn again : Bool} {W W' : World} {args : Array Value} {v : Value} {ds gs : List (DataW H)} {before pa pv : List MemPlace}
    (hW : DataW.Whole enc P f.params.toList s.vars apart W args.toList ds gs before)
    (hres : ∀ (b : Nat) (sp : Nat → Bool) (hd : Bool), DataW.TrodAll enc P W' b sp hd f.resultTypes.toList (v.resultList f.resultTypes.size) (s.fn H (ds ++ gs)).results [])
    (hargs : ∀ sp : Nat → Bool, (∀ p ∈ before, sp p.block = true) → DataW.TrodAll enc P W' 0 sp true f.params.toList args.toList (s.fn H (ds ++ gs)).args pa)
    (hvars : ∀ sp : Nat → Bool, (∀ p ∈ before, sp p.block = true) → DataW.TrodVars enc P W' sp s.vars (s.fn H (ds ++ gs)).vars pv)
    (hps : before = pa ++ pv) (hb : Below W.heap.size W W')
    (hok : ∀ (j : Nat) (t : TypeId) (r : Value), f.resultTypes[j]? = some t → (v.resultList f.resultTypes.size)[j]? = some r → Value.okWide P W' .any 0 t r) :
    s.post enc P f apart fresh handsOn again W args v W' := by
  have hold : ∀ p ∈ before, (fun b => decide (b < W.heap.size)) p.block = true := fun p hp => by simpa using hW.lt p hp
  have hlt := hW.lt
  refine ⟨ds, gs, before, [], pa, pv, hW, hres _ _ _, hargs _ hold, hvars _ hold, World.keptBut_mono (fun p hp => ⟨hp, ?_⟩) (hb.frame (· ∈ before)), fun _ => ?_⟩
  · rw [hps, List.mem_append] at hp
    exact Or.inr hp
  · obtain ⟨_, _, _, _, _, hz, hn⟩ := hW
    refine ⟨hok, _, _, ([] ++ pa) ++ pv, ⟨[] ++ pa, pv, trodAll_append (hargs _ (fun _ _ => rfl)) (hres _ _ _), hvars _ (fun _ _ => rfl), rfl, ?_, ?_⟩, ?_⟩
    · intro b off hp
      have hp' : MemPlace.cell b off ∈ before := by rw [hps]; simpa using hp
      have h1 : b < W.heap.size := hlt _ hp'
      exact (hb.frozen h1).trans (hz b off hp')
    · intro ha
      have := hn ha
      rw [hps] at this
      simpa using this
    · intro p hp _
      rw [hps]
      simpa using hp
end
end Go.Sx

