/- The executor's operations, one by one, are the model's. No condition. -/
import Derived.Test.YtffnifnikdceaaaSxA
import Derived.KernelRfl
import Derived.RangeFuncRecord
import Derived.TacticsIn
import Derived.OrdersIn
import Derived.LoopNIn
set_option linter.unusedSimpArgs false
set_option linter.unusedVariables false
set_option linter.unnecessarySimpa false
namespace Go.Sx
open Go.RowKit (Below)

theorem indexAddr_run {P : Program} {ρ : Nat → Option Ent} {t : TypeId} {x i v : AV} {X I : Value} (h : indexAddrA P t x i = some v) (hx : Rel ρ x X) (hi : Rel ρ i I) (w : World) :
    ∃ V, (Instr.indexAt t X I).run P w = .ok V w ∧ Rel ρ v V := by
  unfold indexAddrA at h
  split at h
  · rename_i k n
    simp only [Rel] at hi; subst hi
    split at h
    · cases h
    · rename_i hn
      split at h
      · rename_i len e b off hu
        simp only [Rel] at hx; obtain ⟨en, he, rfl⟩ := hx
        split at h
        · rename_i sz hsz
          split at h
          · rename_i hlt
            simp only [Option.some.injEq] at h; subst h
            refine ⟨.pointer (some ⟨en.blk, en.shift + off + n.toNat * sz, none⟩), ?_, by simp only [Rel]; exact ⟨en, he, by simp [Nat.add_assoc]⟩⟩
            have hc : 0 ≤ n ∧ n < (len : Int) := by omega
            simp [Instr.indexAt, asIntOf, underlying_run hu, Instr.sureAddr, hc, sizeOf_run hsz, Addr.add_shift]
          · cases h
        · cases h
      · rename_i e b off len cap hu
        simp only [Rel] at hx; obtain ⟨en, C, he, _, rfl⟩ := hx
        split at h
        · rename_i sz hsz
          split at h
          · rename_i hlt
            simp only [Option.some.injEq] at h; subst h
            refine ⟨.pointer (some ⟨en.blk, en.shift + off + n.toNat * sz, none⟩), ?_, by simp only [Rel]; exact ⟨en, he, by simp [Nat.add_assoc]⟩⟩
            have hc : 0 ≤ n ∧ n < (len : Int) := by omega
            simp [Instr.indexAt, asIntOf, underlying_run hu, Instr.sureAddr, hc, sizeOf_run hsz, Addr.add_shift]
          · cases h
        · cases h
      · cases h
  · cases h

theorem index_run {P : Program} {ρ : Nat → Option Ent} {t : TypeId} {x i v : AV} {X I : Value} (h : indexA P t x i = some v) (hx : Rel ρ x X) (hi : Rel ρ i I) (w : World) :
    ∃ V, (Instr.index t X I).run P w = .ok V w ∧ Rel ρ v V := by
  unfold indexA at h
  split at h
  · rename_i k n
    simp only [Rel] at hi; subst hi
    split at h
    · cases h
    · rename_i hn
      split at h
      · rename_i len e cs hu
        simp only [Rel] at hx; obtain ⟨CS, hcs, rfl⟩ := hx
        split at h
        · rename_i sz hsz
          split at h
          · rename_i hlt
            obtain ⟨A, hA, hA'⟩ := part_run h hcs w
            refine ⟨A, ?_, hA'⟩
            have hc : 0 ≤ n ∧ n < (len : Int) := by omega
            simp [Instr.index, asIntOf, underlying_run hu, hc, sizeOf_run hsz, hA]
          · cases h
        · cases h
      · rename_i s hu
        simp only [Rel] at hx; subst hx
        split at h
        · rename_i b hb
          simp only [Option.some.injEq] at h; subst h
          rw [nth_eq] at hb
          have hlt := getElem?_lt hb
          refine ⟨.int .u8 (b % 256 : Nat), ?_, by simp [Rel]⟩
          have hc : 0 ≤ n := by omega
          have hg : (ofNats s)[n.toNat]? = some (UInt8.ofNat b) := by
            have hsz := size_ofNats s
            rw [ByteArray.getElem?_lt' _ _ (by omega)]
            congr 1
            have hd : (ofNats s).data[n.toNat]? = some (UInt8.ofNat b) := by
              rw [← Array.getElem?_toList, data_ofNats, List.getElem?_map, hb]; rfl
            obtain ⟨_, hd2⟩ := Array.getElem?_eq_some_iff.1 hd
            exact hd2
          simp only [Instr.index, Sem.run_bind, asIntOf, Sem.run_pure, Result.andThen_ok, underlying_run hu, if_pos hc, hg, UInt8.toNat_ofNat']
        · cases h
      · cases h
  · cases h

/-! maps -/
theorem findA_run {ρ : Nat → Option Ent} {kd : TypeDesc} {k : AV} {K : Value} (hk : Rel ρ k K) : ∀ {es : List (AV × AV × Nat)} {ES : List MapEntry} {i : Nat} {r : Option (Nat × AV)},
    findA kd k es i = some r → MRel ρ es ES → ∃ R, Instr.findNow kd K ES i = some R ∧
      (match r, R with | none, none => True | some (j, v), some (j', V) => j = j' ∧ Rel ρ v V ∧ i ≤ j ∧ j - i < es.length | _, _ => False)
  | [], ES, i, r, h, hm => by
    simp only [MRel] at hm; subst hm
    simp [findA] at h; subst h
    exact ⟨none, rfl, trivial⟩
  | e :: es, ES, i, r, h, hm => by
    simp only [MRel] at hm
    obtain ⟨E, R, hk1, hv1, _, hm', rfl⟩ := hm
    simp only [findA] at h
    have key : ∀ b, keyEq kd k e.1 = some b → Instr.sameNow kd K E.key = some b := by
      intro b hb
      unfold keyEq at hb
      split at hb
      · rename_i h1 h2 h3
        split at hb
        · rename_i hkk; subst hkk
          rw [h3] at hk1
          simp only [Rel] at hk hk1
          rw [hk, hk1]
          simp only [Option.some.injEq] at hb; subst hb
          simp [Instr.sameNow, eqI_eq]
        · cases hb
      · rename_i h1 h2 h3
        rw [h3] at hk1
        simp only [Rel] at hk hk1
        rw [hk, hk1]
        simp only [Option.some.injEq] at hb; subst hb
        simp [Instr.sameNow, strEq_eq, beq_toListBytes, toList_ofNats]
      · rename_i h1 h2 h3
        rw [h3] at hk1
        simp only [Rel] at hk hk1
        rw [hk, hk1]
        simp only [Option.some.injEq] at hb; subst hb
        simp [Instr.sameNow]
      · cases hb
    split at h
    · rename_i hb
      simp only [Option.some.injEq] at h; subst h
      exact ⟨some (i, E.val), by simp [Instr.findNow, key _ hb], rfl, hv1, Nat.le_refl _, by simp⟩
    · rename_i hb
      obtain ⟨Q, h1, h2⟩ := findA_run hk h hm'
      refine ⟨Q, by simp [Instr.findNow, key _ hb, h1], ?_⟩
      cases r with
      | none => cases Q <;> simp_all
      | some p =>
        cases Q with
        | none => simp_all
        | some q => obtain ⟨a, b, c, d⟩ := h2; exact ⟨a, b, by omega, by simp; omega⟩
    · cases h

theorem checkKey_run {P : Program} {ρ : Nat → Option Ent} {t : TypeId} {kd : TypeDesc} (hu : P.underlying t = some kd) (hp : plainKey kd = true) (b : Bool) (K : Value) (w : World) :
    (Instr.checkKey b 10000 t K).run P w = .ok () w := by
  show (Instr.checkKey b (9999 + 1) t K).run P w = .ok () w
  generalize 9999 = q
  cases kd <;> simp only [plainKey] at hp <;> first
    | (simp only [Instr.checkKey, Sem.run_bind, underlying_run hu, Result.andThen_ok]; rfl)
    | cases hp

theorem checkKey_any {P : Program} {t : TypeId} {kd : TypeDesc} (hu : P.underlying t = some kd) (hp : plainKey kd = true) (b : Bool) (q : Nat) (K : Value) (w : World) :
    (Instr.checkKey b (q + 1) t K).run P w = .ok () w := by
  cases kd <;> simp only [plainKey] at hp <;> first
    | (simp only [Instr.checkKey, Sem.run_bind, underlying_run hu, Result.andThen_ok]; rfl)
    | cases hp

theorem forIn_keys {P : Program} {ρ : Nat → Option Ent} {cs : List AV} {CS : List Value} (hr : RelL ρ cs CS) (b : Bool) (q : Nat) (w : World) : ∀ (l : List Field), keyFields P l = true → keyParts P cs l = true →
    (forIn l PUnit.unit (fun f (_ : PUnit) => do
      if f.name ≠ "_" then do
        let V ← Go.part f.type CS.toArray f.offset
        Instr.checkKey b (q + 1) f.type V
        pure (ForInStep.yield PUnit.unit)
      else pure (ForInStep.yield PUnit.unit)) : Sem PUnit).run P w = .ok PUnit.unit w
  | [], _, _ => by simp
  | f :: fs, h1, h2 => by
    simp only [keyFields, Bool.and_eq_true] at h1
    simp only [keyParts, Bool.and_eq_true] at h2
    have ih := forIn_keys hr b q w fs h1.2 h2.2
    obtain ⟨a, ha⟩ := Option.isSome_iff_exists.1 h2.1
    obtain ⟨A, hA, _⟩ := part_run (P := P) ha hr w
    have h1' := h1.1
    split at h1'
    · rename_i kd hkd
      have hc := checkKey_any hkd h1' b q A w
      simp only [List.forIn_cons, Sem.run_bind]
      by_cases hn : f.name = "_"
      · rw [if_neg (fun h => h hn)]
        simp only [Sem.run_pure, Result.andThen_ok]
        exact ih
      · rw [if_pos hn]
        simp only [Sem.run_bind, hA, Result.andThen_ok, hc, Sem.run_pure]
        exact ih
    · cases h1'

theorem checkKeyK_run {P : Program} {ρ : Nat → Option Ent} {kt : TypeId} {k : AV} {K : Value} (hk : keyOk P kt k = true) (hr : Rel ρ k K) (b : Bool) (w : World) :
    (Instr.checkKey b 10000 kt K).run P w = .ok () w := by
  unfold keyOk at hk
  split at hk
  · rename_i fs cs hu
    simp only [Bool.and_eq_true] at hk
    simp only [Rel] at hr; obtain ⟨vs, hv, rfl⟩ := hr
    have hf := forIn_keys (P := P) hv b 9998 w fs.toList hk.1 hk.2
    simp only [show 9998 + 1 = 9999 from rfl] at hf
    show (Instr.checkKey b (9999 + 1) kt (.agg vs.toArray)).run P w = .ok () w
    rw [Instr.checkKey]
    simp only [Sem.run_bind, underlying_run hu, Result.andThen_ok]
    rw [← Array.forIn_toList]
    rw [hf]; rfl
  · cases hk

theorem sameNow_struct (fs : Array Field) (a b : Value) : Instr.sameNow (.struct fs) a b = none := by cases a <;> cases b <;> rfl

theorem findS_run {P : Program} {ρ : Nat → Option Ent} {kt : TypeId} {k : AV} {K : Value} (hk : Rel ρ k K) (w : World) : ∀ {es : List (AV × AV × Nat)} {ES : List MapEntry} {i : Nat} {r : Option (Nat × AV)},
    findS P kt k es i = some r → MRel ρ es ES → ∃ R, (Instr.findAsking kt K ES i).run P w = .ok R w ∧
      (match r, R with | none, none => True | some (j, v), some (j', V) => j = j' ∧ Rel ρ v V ∧ i ≤ j ∧ j - i < es.length | _, _ => False)
  | [], ES, i, r, h, hm => by
    simp only [MRel] at hm; subst hm
    simp [findS] at h; subst h
    exact ⟨none, rfl, trivial⟩
  | e :: es, ES, i, r, h, hm => by
    simp only [MRel] at hm
    obtain ⟨E, R, hk1, hv1, _, hm', rfl⟩ := hm
    simp only [findS] at h
    have key : ∀ b, keyEqS P kt k e.1 = some b → (Op.equal kt K E.key).run P w = .ok b w := by
      intro b hb
      have he : eqIn P 100 kt k e.1 = some b := by
        unfold keyEqS at hb
        split at hb
        · rename_i hq
          split at hb
          · split at hb
            · rw [hq]; exact hb
            · cases hb
          · cases hb
        · exact hb
      exact eqIn_run (P := P) (ρ := ρ) 100 9900 kt k e.1 K E.key b he hk hk1 w
    split at h
    · rename_i hb
      simp only [Option.some.injEq] at h; subst h
      exact ⟨some (i, E.val), by simp [Instr.findAsking, key _ hb], rfl, hv1, Nat.le_refl _, by simp⟩
    · rename_i hb
      obtain ⟨Q, h1, h2⟩ := findS_run hk w h hm'
      refine ⟨Q, by simp [Instr.findAsking, key _ hb, h1], ?_⟩
      cases r with
      | none => cases Q <;> simp_all
      | some p =>
        cases Q with
        | none => simp_all
        | some q => obtain ⟨a, b, c, d⟩ := h2; exact ⟨a, b, by omega, by simp; omega⟩
    · cases h

theorem findKeyK_run {P : Program} {ρ : Nat → Option Ent} {kt : TypeId} {k : AV} {K : Value} (hok : keyOk P kt k = true) (hk : Rel ρ k K) (w : World) {es : List (AV × AV × Nat)} {ES : List MapEntry} {r : Option (Nat × AV)} :
    findS P kt k es 0 = some r → MRel ρ es ES → ∃ R, (Instr.findKey kt K ES).run P w = .ok R w ∧
      (match r, R with | none, none => True | some (j, v), some (j', V) => j = j' ∧ Rel ρ v V ∧ 0 ≤ j ∧ j - 0 < es.length | _, _ => False) := by
  intro h hm
  obtain ⟨R, h1, h2⟩ := findS_run (P := P) hk w h hm
  refine ⟨R, ?_, h2⟩
  unfold keyOk at hok
  split at hok
  · rename_i fs cs hu
    simp only [Instr.findKey, Sem.run_bind, underlying_run hu, Result.andThen_ok]
    cases ES with
    | nil => rw [← h1]; rfl
    | cons E ES => simp only [Instr.findNow, sameNow_struct]; exact h1
  · cases hok

theorem lookupK_run {P : Program} {ρ : Nat → Option Ent} {h : Heap} {w : World} (S : SRel ρ h w) {t kt et : TypeId} {m k v : AV} {M K : Value} {ok : Bool} (hu : P.underlying t = some (.map kt et))
    (hl : lookupK P h kt et m k ok = some v) (hm : Rel ρ m M) (hk : Rel ρ k K) : ∃ V, (Instr.lookup t M K ok).run P w = .ok V w ∧ Rel ρ v V := by
  unfold lookupK at hl
  split at hl
  · cases hl
  · rename_i hp
    have hp' : keyOk P kt k = true := by simpa using hp
    split at hl
    · cases hl
    · rename_i es hes
      have hmap : ∃ ES : List MapEntry, MRel ρ es ES ∧ ((M = .map none ∧ ES = []) ∨ ∃ r all clock, M = .map (some r) ∧ w.heap[r]? = some (.map all clock) ∧ all.toList = ES) := by
        split at hes
        · simp only [Rel] at hm; subst hm
          simp only [Option.some.injEq] at hes; subst hes
          exact ⟨[], by simp [MRel], .inl ⟨rfl, rfl⟩⟩
        · rename_i b
          simp only [Rel] at hm; obtain ⟨e, he, rfl⟩ := hm
          split at hes
          · rename_i es' clock hg
            simp only [Option.some.injEq] at hes; subst hes
            obtain ⟨e', he', hb⟩ := S.ent hg
            rw [he] at he'; simp only [Option.some.injEq] at he'; subst he'
            obtain ⟨ES, h1, h2⟩ := hb
            exact ⟨ES.toList, h2, .inr ⟨_, _, _, rfl, h1, rfl⟩⟩
          · cases hes
        · cases hes
      obtain ⟨ES, hm1, hm2⟩ := hmap
      have hfin : ∀ V, (do
          let r ← Instr.findKey kt K ES
          let (v, ok') ← match r with
            | some (_, v) => pure (v, true)
            | none => pure (← Go.zeroValue et, false)
          pure (if ok then .tuple #[v, .bool ok'] else v) : Sem Value).run P w = .ok V w → (Instr.lookup t M K ok).run P w = .ok V w := by
        intro V hV
        rcases hm2 with ⟨rfl, rfl⟩ | ⟨r, all, clock, rfl, hw, rfl⟩
        · rw [← hV]
          simp only [Instr.lookup, Sem.run_bind, underlying_run hu, Result.andThen_ok, Sem.run_pure, checkKeyK_run (ρ := ρ) hp' hk]
          rfl
        · rw [← hV]
          have hgo : (getObj r).run P w = .ok (.map all clock) w := by simp [getObj, Sem.run, hw]
          simp only [Instr.lookup, Sem.run_bind, underlying_run hu, Result.andThen_ok, hgo, Sem.run_pure, checkKeyK_run (ρ := ρ) hp' hk]
          rfl
      split at hl
      · rename_i j u hf
        obtain ⟨R, hR, hr⟩ := findKeyK_run hp' hk w hf hm1
        cases R with
        | none => exact hr.elim
        | some q =>
          obtain ⟨j', V⟩ := q
          obtain ⟨rfl, hv, _⟩ := hr
          simp only [Option.some.injEq] at hl; subst hl
          refine ⟨if ok then .tuple #[V, .bool true] else V, ?_, ?_⟩
          · refine hfin _ ?_
            simp [hR]
          · cases ok
            · simpa using hv
            · simp only [if_true, Rel, RelL]; exact ⟨[V, .bool true], ⟨V, _, hv, ⟨_, _, rfl, rfl, rfl⟩, rfl⟩, by simp⟩
      · rename_i hf
        obtain ⟨R, hR, hr⟩ := findKeyK_run hp' hk w hf hm1
        cases R with
        | some q => exact hr.elim
        | none =>
          split at hl
          · rename_i z hz
            obtain ⟨Z, hz1, hz2⟩ := zeroOf_run (P := P) ρ hz w
            simp only [Option.some.injEq] at hl; subst hl
            refine ⟨if ok then .tuple #[Z, .bool false] else Z, ?_, ?_⟩
            · refine hfin _ ?_
              simp [hR, hz1]
            · cases ok
              · simpa using hz2
              · simp only [if_true, Rel, RelL]; exact ⟨[Z, .bool false], ⟨Z, _, hz2, ⟨_, _, rfl, rfl, rfl⟩, rfl⟩, by simp⟩
          · cases hl
      · cases hl

theorem lookup_run {P : Program} {ρ : Nat → Option Ent} {h : Heap} {w : World} (S : SRel ρ h w) {t : TypeId} {m k v : AV} {M K : Value} {ok : Bool}
    (hl : lookupA P h t m k ok = some v) (hm : Rel ρ m M) (hk : Rel ρ k K) : ∃ V, (Instr.lookup t M K ok).run P w = .ok V w ∧ Rel ρ v V := by
  unfold lookupA at hl
  split at hl
  · rename_i kt et hu
    split at hl
    · rename_i kd hkd
      split at hl
      · exact lookupK_run S hu hl hm hk
      · rename_i hp
        have hp' : plainKey kd = true := by simpa using hp
        split at hl
        · cases hl
        · rename_i es hes
          have hmap : ∃ ES : List MapEntry, MRel ρ es ES ∧ ((M = .map none ∧ ES = []) ∨ ∃ r all clock, M = .map (some r) ∧ w.heap[r]? = some (.map all clock) ∧ all.toList = ES) := by
            split at hes
            · simp only [Rel] at hm; subst hm
              simp only [Option.some.injEq] at hes; subst hes
              exact ⟨[], by simp [MRel], .inl ⟨rfl, rfl⟩⟩
            · rename_i b
              simp only [Rel] at hm; obtain ⟨e, he, rfl⟩ := hm
              split at hes
              · rename_i es' clock hg
                simp only [Option.some.injEq] at hes; subst hes
                obtain ⟨e', he', hb⟩ := S.ent hg
                rw [he] at he'; simp only [Option.some.injEq] at he'; subst he'
                obtain ⟨ES, h1, h2⟩ := hb
                exact ⟨ES.toList, h2, .inr ⟨_, _, _, rfl, h1, rfl⟩⟩
              · cases hes
            · cases hes
          obtain ⟨ES, hm1, hm2⟩ := hmap
          have hfin : ∀ V, (do
              let r ← Instr.findKey kt K ES
              let (v, ok') ← match r with
                | some (_, v) => pure (v, true)
                | none => pure (← Go.zeroValue et, false)
              pure (if ok then .tuple #[v, .bool ok'] else v) : Sem Value).run P w = .ok V w → (Instr.lookup t M K ok).run P w = .ok V w := by
            intro V hV
            rcases hm2 with ⟨rfl, rfl⟩ | ⟨r, all, clock, rfl, hw, rfl⟩
            · rw [← hV]
              simp only [Instr.lookup, Sem.run_bind, underlying_run hu, Result.andThen_ok, Sem.run_pure, checkKey_run (ρ := ρ) hkd hp']
              rfl
            · rw [← hV]
              have hgo : (getObj r).run P w = .ok (.map all clock) w := by simp [getObj, Sem.run, hw]
              simp only [Instr.lookup, Sem.run_bind, underlying_run hu, Result.andThen_ok, hgo, Sem.run_pure, checkKey_run (ρ := ρ) hkd hp']
              rfl
          split at hl
          · rename_i j u hf
            obtain ⟨R, hR, hr⟩ := findA_run hk hf hm1
            cases R with
            | none => exact hr.elim
            | some q =>
              obtain ⟨j', V⟩ := q
              obtain ⟨rfl, hv, _⟩ := hr
              simp only [Option.some.injEq] at hl; subst hl
              refine ⟨if ok then .tuple #[V, .bool true] else V, ?_, ?_⟩
              · refine hfin _ ?_
                simp [Instr.findKey, underlying_run hkd, hR]
              · cases ok
                · simpa using hv
                · simp only [if_true, Rel, RelL]; exact ⟨[V, .bool true], ⟨V, _, hv, ⟨_, _, rfl, rfl, rfl⟩, rfl⟩, by simp⟩
          · rename_i hf
            obtain ⟨R, hR, hr⟩ := findA_run hk hf hm1
            cases R with
            | some q => exact hr.elim
            | none =>
              split at hl
              · rename_i z hz
                obtain ⟨Z, hz1, hz2⟩ := zeroOf_run (P := P) ρ hz w
                simp only [Option.some.injEq] at hl; subst hl
                refine ⟨if ok then .tuple #[Z, .bool false] else Z, ?_, ?_⟩
                · refine hfin _ ?_
                  simp [Instr.findKey, underlying_run hkd, hR, hz1]
                · cases ok
                  · simpa using hz2
                  · simp only [if_true, Rel, RelL]; exact ⟨[Z, .bool false], ⟨Z, _, hz2, ⟨_, _, rfl, rfl, rfl⟩, rfl⟩, by simp⟩
              · cases hl
          · cases hl
    · cases hl
  · cases hl
end Go.Sx

namespace Go.Sx
open Go.RowKit (Below)

theorem MRel.set {ρ : Nat → Option Ent} : ∀ {es : List (AV × AV × Nat)} {ES : List MapEntry} {i : Nat} {x : AV × AV × Nat} {X : MapEntry}, MRel ρ es ES → Rel ρ x.1 X.key → Rel ρ x.2.1 X.val → X.born = x.2.2 →
    MRel ρ (es.set i x) (ES.set i X)
  | [], ES, i, x, X, h, _, _, _ => by simp only [MRel] at h; subst h; simp [MRel]
  | e :: es, ES, 0, x, X, h, h1, h2, h3 => by
    simp only [MRel] at h; obtain ⟨E, R, _, _, _, h4, rfl⟩ := h
    simp only [List.set_cons_zero, MRel]; exact ⟨X, R, h1, h2, h3, h4, rfl⟩
  | e :: es, ES, i + 1, x, X, h, h1, h2, h3 => by
    simp only [MRel] at h; obtain ⟨E, R, k1, k2, k3, h4, rfl⟩ := h
    simp only [List.set_cons_succ, MRel]; exact ⟨E, _, k1, k2, k3, MRel.set h4 h1 h2 h3, rfl⟩

theorem MRel.push {ρ : Nat → Option Ent} : ∀ {es : List (AV × AV × Nat)} {ES : List MapEntry} {x : AV × AV × Nat} {X : MapEntry}, MRel ρ es ES → Rel ρ x.1 X.key → Rel ρ x.2.1 X.val → X.born = x.2.2 →
    MRel ρ (es ++ [x]) (ES ++ [X])
  | [], ES, x, X, h, h1, h2, h3 => by simp only [MRel] at h; subst h; simp only [List.nil_append, MRel]; exact ⟨X, [], h1, h2, h3, rfl, rfl⟩
  | e :: es, ES, x, X, h, h1, h2, h3 => by
    simp only [MRel] at h; obtain ⟨E, R, k1, k2, k3, h4, rfl⟩ := h
    simp only [List.cons_append, MRel]; exact ⟨E, _, k1, k2, k3, MRel.push h4 h1 h2 h3, rfl⟩

theorem MRel.nth {ρ : Nat → Option Ent} : ∀ {es : List (AV × AV × Nat)} {ES : List MapEntry} {i : Nat} {x : AV × AV × Nat}, MRel ρ es ES → es[i]? = some x → ∃ X, ES[i]? = some X ∧ Rel ρ x.1 X.key ∧ Rel ρ x.2.1 X.val ∧ X.born = x.2.2
  | [], ES, i, x, h, hx => by simp at hx
  | e :: es, ES, 0, x, h, hx => by
    simp only [MRel] at h; obtain ⟨E, R, k1, k2, k3, h4, rfl⟩ := h
    simp at hx; subst hx; exact ⟨E, by simp, k1, k2, k3⟩
  | e :: es, ES, i + 1, x, h, hx => by
    simp only [MRel] at h; obtain ⟨E, R, k1, k2, k3, h4, rfl⟩ := h
    simp at hx; obtain ⟨X, a, b⟩ := MRel.nth h4 hx; exact ⟨X, by simpa using a, b⟩

theorem MRel.length {ρ : Nat → Option Ent} : ∀ {es : List (AV × AV × Nat)} {ES : List MapEntry}, MRel ρ es ES → ES.length = es.length
  | [], ES, h => by simp only [MRel] at h; subst h; rfl
  | e :: es, ES, h => by
    simp only [MRel] at h; obtain ⟨E, R, k1, k2, k3, h4, rfl⟩ := h; simp [MRel.length h4]

/-- keys that were found to be equal have the same bits -/
theorem keyEq_same {ρ : Nat → Option Ent} {kd : TypeDesc} {a b : AV} {A B : Value} (h : keyEq kd a b = some true) (ha : Rel ρ a A) (hb : Rel ρ b B) : Instr.sameBits 10000 B A = true := by
  show Instr.sameBits (9999 + 1) B A = true
  generalize 9999 = q
  unfold keyEq at h
  split at h
  · split at h
    · rename_i hk; subst hk
      simp only [Rel] at ha hb; subst ha; subst hb
      simp only [Option.some.injEq, eqI_eq, beq_iff_eq] at h; subst h
      simp [Instr.sameBits]
    · cases h
  · simp only [Rel] at ha hb; subst ha; subst hb
    simp only [Option.some.injEq, strEq_eq, beq_iff_eq] at h
    simp [Instr.sameBits, ofNats, h, beq_toListBytes]
  · simp only [Rel] at ha hb; subst ha; subst hb
    simp only [Option.some.injEq, beq_iff_eq] at h; subst h
    simp [Instr.sameBits]
  · cases h

theorem findA_key {kd : TypeDesc} {k : AV} : ∀ {es : List (AV × AV × Nat)} {i j : Nat} {v : AV}, findA kd k es i = some (some (j, v)) → ∃ e, es[j - i]? = some e ∧ i ≤ j ∧ keyEq kd k e.1 = some true ∧ e.2.1 = v
  | [], i, j, v, h => by simp [findA] at h
  | e :: es, i, j, v, h => by
    simp only [findA] at h
    split at h
    · rename_i hb
      simp only [Option.some.injEq, Prod.mk.injEq] at h; obtain ⟨rfl, rfl⟩ := h
      exact ⟨e, by simp, Nat.le_refl _, hb, rfl⟩
    · obtain ⟨x, h1, h2, h3⟩ := findA_key h
      exact ⟨x, by rw [show j - i = (j - (i + 1)) + 1 from by omega]; simpa using h1, by omega, h3⟩
    · cases h

theorem setObj_run {P : Program} {w : World} {r : Nat} {es : Array MapEntry} {c : Nat} {o : Obj} (h : w.heap[r]? = some (.map es c)) :
    (setObj r o).run P w = .ok () { w with heap := w.heap.setIfInBounds r o } := by
  simp [setObj, Sem.run, h]

theorem findS_key {P : Program} {kt : TypeId} {k : AV} : ∀ {es : List (AV × AV × Nat)} {i j : Nat} {v : AV}, findS P kt k es i = some (some (j, v)) → ∃ e, es[j - i]? = some e ∧ i ≤ j ∧ keyEqS P kt k e.1 = some true ∧ e.2.1 = v
  | [], i, j, v, h => by simp [findS] at h
  | e :: es, i, j, v, h => by
    simp only [findS] at h
    split at h
    · rename_i hb
      simp only [Option.some.injEq, Prod.mk.injEq] at h; obtain ⟨rfl, rfl⟩ := h
      exact ⟨e, by simp, Nat.le_refl _, hb, rfl⟩
    · obtain ⟨x, h1, h2, h3⟩ := findS_key h
      exact ⟨x, by rw [show j - i = (j - (i + 1)) + 1 from by omega]; simpa using h1, by omega, h3⟩
    · cases h

theorem sameCell_bits {ρ : Nat → Option Ent} {a b : AV} {A B : Value} (h : sameCell a b = true) (ha : Rel ρ a A) (hb : Rel ρ b B) (q : Nat) : Instr.sameBits q A B = true := by
  unfold sameCell at h
  split at h
  · simp only [Rel] at ha hb; subst ha; subst hb
    simp only [beq_iff_eq] at h; subst h
    cases q <;> simp [Instr.sameBits]
  · split at h
    · rename_i hk; subst hk
      simp only [Rel] at ha hb; subst ha; subst hb
      simp only [eqI_eq, beq_iff_eq] at h; subst h
      cases q <;> simp [Instr.sameBits]
    · cases h
  · simp only [Rel] at ha hb; subst ha; subst hb
    simp only [strEq_eq, beq_iff_eq] at h
    cases q <;> simp [Instr.sameBits, ofNats, h, beq_toListBytes]
  · cases h

theorem sameCells_bits {ρ : Nat → Option Ent} (q : Nat) : ∀ {a b : List AV} {A B : List Value}, sameCells a b = true → RelL ρ a A → RelL ρ b B → A.length = B.length ∧ (A.zip B).all (fun (x, y) => Instr.sameBits q x y) = true
  | [], [], A, B, _, ha, hb => by simp only [RelL] at ha hb; subst ha; subst hb; simp
  | a :: x, b :: y, A, B, h, ha, hb => by
    simp only [sameCells, Bool.and_eq_true] at h
    simp only [RelL] at ha hb
    obtain ⟨A0, A1, a1, a2, rfl⟩ := ha
    obtain ⟨B0, B1, b1, b2, rfl⟩ := hb
    obtain ⟨h1, h2⟩ := sameCells_bits q h.2 a2 b2
    refine ⟨by simp [h1], ?_⟩
    simp only [List.zip_cons_cons, List.all_cons, Bool.and_eq_true]
    exact ⟨sameCell_bits h.1 a1 b1 q, h2⟩
  | [], _ :: _, _, _, h, _, _ => by cases h
  | _ :: _, [], _, _, h, _, _ => by cases h

theorem keyEqS_same {P : Program} {ρ : Nat → Option Ent} {kt : TypeId} {a b : AV} {A B : Value} (h : keyEqS P kt a b = some true) (ha : Rel ρ a A) (hb : Rel ρ b B) : Instr.sameBits 10000 B A = true := by
  show Instr.sameBits (9999 + 1) B A = true
  unfold keyEqS at h
  split at h
  · split at h
    · rename_i x y
      split at h
      · rename_i hs
        simp only [Rel] at ha hb
        obtain ⟨vs, h1, rfl⟩ := ha
        obtain ⟨us, h2, rfl⟩ := hb
        obtain ⟨h3, h4⟩ := sameCells_bits 9999 hs h2 h1
        simp only [Instr.sameBits, Bool.and_eq_true, List.size_toArray, h3, beq_self_eq_true, true_and]
        exact h4
      · cases h
    · cases h
  · rename_i hq
    exact absurd h hq

theorem mapUpdateK_run {P : Program} {ρ : Nat → Option Ent} {h h' : Heap} {w : World} (S : SRel ρ h w) {t kt et : TypeId} {b : Nat} {k v : AV} {M K V : Value} (hut : P.underlying t = some (.map kt et))
    (hu : mapUpdateK P h kt b k v = some h') (hm : Rel ρ (.map b) M) (hk : Rel ρ k K) (hv : Rel ρ v V) :
    ∃ w', (Instr.mapUpdate t M K V).run P w = .ok () w' ∧ SRel ρ h' w' ∧ Good ρ h w ρ h' w' := by
  unfold mapUpdateK at hu
  split at hu
  · cases hu
  · rename_i hp
    have hp' : keyOk P kt k = true := by simpa using hp
    simp only [Rel] at hm; obtain ⟨e, he, rfl⟩ := hm
    split at hu
    · rename_i es clock hg
      obtain ⟨e', he', hb⟩ := S.ent hg
      rw [he] at he'; simp only [Option.some.injEq] at he'; subst he'
      obtain ⟨ES, h1, h2⟩ := hb
      have hblk : e.blk < w.heap.size := (S.blks b e _ he hg).lt rfl
      have hgo : (getObj e.blk).run P w = .ok (.map ES clock) w := by simp [getObj, Sem.run, h1]
      have fin : ∀ (es' : List (AV × AV × Nat)) (ES' : Array MapEntry) (c' : Nat), MRel ρ es' ES'.toList →
          SRel ρ (h.set b (.map es' c')) { w with heap := w.heap.setIfInBounds e.blk (.map ES' c') } ∧ Good ρ h w ρ (h.set b (.map es' c')) { w with heap := w.heap.setIfInBounds e.blk (.map ES' c') } := by
        intro es' ES' c' hr
        have hot : ∀ k, k ≠ e.blk → (w.heap.setIfInBounds e.blk (.map ES' c'))[k]? = w.heap[k]? := fun k hk => by
          simp only [Array.getElem?_setIfInBounds]; rw [if_neg (by omega)]
        exact ⟨S.set hg he rfl hot ⟨ES', by simp [hblk], hr⟩, Good.set S hg he rfl hot (by simp) rfl rfl rfl⟩
      split at hu
      · rename_i i u hf
        obtain ⟨R, hR, hr⟩ := findKeyK_run hp' hk w hf h2
        cases R with
        | none => exact hr.elim
        | some q =>
          obtain ⟨j', V0⟩ := q
          obtain ⟨rfl, _, _⟩ := hr
          split at hu
          · rename_i e0 hn
            rw [nth_eq] at hn
            simp only [Option.some.injEq] at hu; subst hu
            obtain ⟨x, hx1, _, hx3, _⟩ := findS_key hf
            simp only [Nat.sub_zero] at hx1
            rw [hn] at hx1; simp only [Option.some.injEq] at hx1; subst hx1
            obtain ⟨X, hX1, hX2, hX3, hX4⟩ := h2.nth hn
            have hsame := keyEqS_same hx3 hk hX2
            have hX1' : ES[i]? = some X := by simpa using hX1
            have hmod : ES.modify i (fun e => { e with key := K, val := V }) = (ES.toList.set i { X with key := K, val := V }).toArray := by
              apply Array.ext_getElem?
              intro q
              rw [Array.getElem?_modify]
              simp only [List.getElem?_toArray, List.getElem?_set, Array.getElem?_toList, Array.length_toList]
              by_cases hq : i = q
              · subst hq
                have hlt : i < ES.size := by
                  rcases Nat.lt_or_ge i ES.size with h' | h'
                  · exact h'
                  · simp [Array.getElem?_eq_none h'] at hX1'
                have hXi : ES[i] = X := by have := hX1'; rw [Array.getElem?_eq_getElem hlt] at this; exact Option.some.inj this
                simp [hlt, hXi]
              · simp [hq]
            obtain ⟨f1, f2⟩ := fin (es.set i (k, v, e0.2.2)) (ES.toList.set i { X with key := K, val := V }).toArray clock (by
              simpa using h2.set (i := i) (x := (k, v, e0.2.2)) (X := { X with key := K, val := V }) hk hv hX4)
            refine ⟨_, ?_, f1, f2⟩
            rw [← hmod]
            simp only [Instr.mapUpdate, Sem.run_bind, underlying_run hut, Result.andThen_ok, hgo, checkKeyK_run (ρ := ρ) hp' hk, hR, Sem.run_pure, hX1', Option.map_some, Option.getD_some,
              Instr.keyThatStays, hsame, if_true, setObj_run h1]
          · cases hu
      · rename_i hf
        obtain ⟨R, hR, hr⟩ := findKeyK_run hp' hk w hf h2
        cases R with
        | some q => exact hr.elim
        | none =>
          simp only [Option.some.injEq] at hu; subst hu
          obtain ⟨f1, f2⟩ := fin (es ++ [(k, v, clock)]) (ES.push { key := K, val := V, born := clock }) (clock + 1) (by simpa using h2.push (x := (k, v, clock)) (X := { key := K, val := V, born := clock }) hk hv rfl)
          refine ⟨_, ?_, f1, f2⟩
          simp only [Instr.mapUpdate, Sem.run_bind, underlying_run hut, Result.andThen_ok, hgo, checkKeyK_run (ρ := ρ) hp' hk, hR, Sem.run_pure, setObj_run h1]
      · cases hu
    · cases hu

theorem mapUpdate_run {P : Program} {ρ : Nat → Option Ent} {h h' : Heap} {w : World} (S : SRel ρ h w) {t : TypeId} {m k v : AV} {M K V : Value}
    (hu : mapUpdateA P h t m k v = some h') (hm : Rel ρ m M) (hk : Rel ρ k K) (hv : Rel ρ v V) :
    ∃ w', (Instr.mapUpdate t M K V).run P w = .ok () w' ∧ SRel ρ h' w' ∧ Good ρ h w ρ h' w' := by
  unfold mapUpdateA at hu
  split at hu
  · rename_i kt et b hut
    have hm0 := hm
    simp only [Rel] at hm; obtain ⟨e, he, rfl⟩ := hm
    split at hu
    · rename_i kd es clock hkd hg
      obtain ⟨e', he', hb⟩ := S.ent hg
      rw [he] at he'; simp only [Option.some.injEq] at he'; subst he'
      obtain ⟨ES, h1, h2⟩ := hb
      have hblk : e.blk < w.heap.size := (S.blks b e _ he hg).lt rfl
      have hgo : (getObj e.blk).run P w = .ok (.map ES clock) w := by simp [getObj, Sem.run, h1]
      split at hu
      · exact mapUpdateK_run S hut hu hm0 hk hv
      · rename_i hp
        have hp' : plainKey kd = true := by simpa using hp
        have fin : ∀ (es' : List (AV × AV × Nat)) (ES' : Array MapEntry) (c' : Nat), MRel ρ es' ES'.toList →
            SRel ρ (h.set b (.map es' c')) { w with heap := w.heap.setIfInBounds e.blk (.map ES' c') } ∧ Good ρ h w ρ (h.set b (.map es' c')) { w with heap := w.heap.setIfInBounds e.blk (.map ES' c') } := by
          intro es' ES' c' hr
          have hot : ∀ k, k ≠ e.blk → (w.heap.setIfInBounds e.blk (.map ES' c'))[k]? = w.heap[k]? := fun k hk => by
            simp only [Array.getElem?_setIfInBounds]; rw [if_neg (by omega)]
          exact ⟨S.set hg he rfl hot ⟨ES', by simp [hblk], hr⟩, Good.set S hg he rfl hot (by simp) rfl rfl rfl⟩
        split at hu
        · rename_i i u hf
          obtain ⟨R, hR, hr⟩ := findA_run hk hf h2
          cases R with
          | none => exact hr.elim
          | some q =>
            obtain ⟨j', V0⟩ := q
            obtain ⟨rfl, _, _⟩ := hr
            split at hu
            · rename_i e0 hn
              rw [nth_eq] at hn
              simp only [Option.some.injEq] at hu; subst hu
              obtain ⟨x, hx1, _, hx3, _⟩ := findA_key hf
              simp only [Nat.sub_zero] at hx1
              rw [hn] at hx1; simp only [Option.some.injEq] at hx1; subst hx1
              obtain ⟨X, hX1, hX2, hX3, hX4⟩ := h2.nth hn
              have hsame := keyEq_same hx3 hk hX2
              have hX1' : ES[i]? = some X := by simpa using hX1
              have hmod : ES.modify i (fun e => { e with key := K, val := V }) = (ES.toList.set i { X with key := K, val := V }).toArray := by
                apply Array.ext_getElem?
                intro q
                rw [Array.getElem?_modify]
                simp only [List.getElem?_toArray, List.getElem?_set, Array.getElem?_toList, Array.length_toList]
                by_cases hq : i = q
                · subst hq
                  have hlt : i < ES.size := by
                    rcases Nat.lt_or_ge i ES.size with h' | h'
                    · exact h'
                    · simp [Array.getElem?_eq_none h'] at hX1'
                  have hXi : ES[i] = X := by have := hX1'; rw [Array.getElem?_eq_getElem hlt] at this; exact Option.some.inj this
                  simp [hlt, hXi]
                · simp [hq]
              obtain ⟨f1, f2⟩ := fin (es.set i (k, v, e0.2.2)) (ES.toList.set i { X with key := K, val := V }).toArray clock (by
                simpa using h2.set (i := i) (x := (k, v, e0.2.2)) (X := { X with key := K, val := V }) hk hv hX4)
              refine ⟨_, ?_, f1, f2⟩
              rw [← hmod]
              simp only [Instr.mapUpdate, Sem.run_bind, underlying_run hut, Result.andThen_ok, hgo, checkKey_run (ρ := ρ) hkd hp', Instr.findKey, underlying_run hkd, hR, Sem.run_pure, hX1', Option.map_some, Option.getD_some,
                Instr.keyThatStays, hsame, if_true, setObj_run h1]
            · cases hu
        · rename_i hf
          obtain ⟨R, hR, hr⟩ := findA_run hk hf h2
          cases R with
          | some q => exact hr.elim
          | none =>
            simp only [Option.some.injEq] at hu; subst hu
            obtain ⟨f1, f2⟩ := fin (es ++ [(k, v, clock)]) (ES.push { key := K, val := V, born := clock }) (clock + 1) (by simpa using h2.push (x := (k, v, clock)) (X := { key := K, val := V, born := clock }) hk hv rfl)
            refine ⟨_, ?_, f1, f2⟩
            simp only [Instr.mapUpdate, Sem.run_bind, underlying_run hut, Result.andThen_ok, hgo, checkKey_run (ρ := ρ) hkd hp', Instr.findKey, underlying_run hkd, hR, Sem.run_pure, setObj_run h1]
        · cases hu
    · cases hu
  · cases hu
end Go.Sx

namespace Go.Sx
open Go.RowKit (Below)

theorem lenOf_run {P : Program} {ρ : Nat → Option Ent} {x : AV} {X : Value} {n : Nat} (h : lenOfA x = some n) (hx : Rel ρ x X) (w : World) : (Builtin.lenOf X).run P w = .ok n w := by
  unfold lenOfA at h
  split at h <;> first
    | (simp only [Rel] at hx; subst hx; simp only [Option.some.injEq] at h; subst h; simp [Builtin.lenOf, size_ofNats]; done)
    | (simp only [Rel] at hx; obtain ⟨_, _, _, _, rfl⟩ := hx; simp only [Option.some.injEq] at h; subst h; simp [Builtin.lenOf]; done)
    | (simp only [Rel] at hx; rcases hx with ⟨_, _, rfl⟩ | rfl <;> simp only [Option.some.injEq] at h <;> subst h <;> simp [Builtin.lenOf]; done)
    | (simp only [Rel] at hx; obtain ⟨_, _, rfl⟩ := hx; simp only [Option.some.injEq] at h; subst h; simp [Builtin.lenOf]; done)
    | cases h

theorem bytes_rel (ρ : Nat → Option Ent) : ∀ (s : List Nat), RelL ρ (s.map fun b => .int .u8 (b % 256 : Nat)) (s.map fun b => Value.int .u8 ((UInt8.ofNat b).toNat : Int))
  | [] => by simp [RelL]
  | b :: s => by
    simp only [List.map_cons, RelL]
    exact ⟨_, _, by simp [Rel], bytes_rel ρ s, rfl⟩

theorem firstCells_run {P : Program} {ρ : Nat → Option Ent} {h : Heap} {w : World} (S : SRel ρ h w) {size n : Nat} {x : AV} {X : Value} {cs : List AV}
    (hf : firstCellsA h size n x = some cs) (hx : Rel ρ x X) : ∃ vs, (Builtin.firstCells size n X).run P w = .ok vs.toArray w ∧ RelL ρ cs vs := by
  unfold firstCellsA at hf
  split at hf
  · simp only [Rel] at hx; subst hx
    simp only [Option.some.injEq] at hf; subst hf
    exact ⟨[], by simp [Builtin.firstCells], by simp [RelL]⟩
  · simp only [Rel] at hx
    split at hf
    · rename_i h0; subst h0
      simp only [Option.some.injEq] at hf; subst hf
      rcases hx with ⟨a, C, rfl⟩ | rfl
      · exact ⟨[], by simp [Builtin.firstCells, Go.loadCells, Go.loadCellsFrom], by simp [RelL]⟩
      · exact ⟨[], by simp [Builtin.firstCells], by simp [RelL]⟩
    · cases hf
  · simp only [Rel] at hx; obtain ⟨e, C, he, _, rfl⟩ := hx
    obtain ⟨vs, h1, h2⟩ := loadCells_run (P := P) S hf he
    exact ⟨vs, by simp [Builtin.firstCells, h1], h2⟩
  · rename_i s
    simp only [Rel] at hx; subst hx
    split at hf
    case isFalse => cases hf
    simp only [Option.some.injEq] at hf; subst hf
    refine ⟨(s.take n).map fun b => Value.int .u8 ((UInt8.ofNat b).toNat : Int), ?_, bytes_rel ρ _⟩
    simp only [Builtin.firstCells, extract_str, Sem.run_pure]
    congr 1
    simp [ofNats]
    refine congrArg (List.take n) (List.map_congr_left fun b _ => ?_)
    simp
  · cases hf

theorem len_run {P : Program} {ρ : Nat → Option Ent} {h : Heap} {w : World} (S : SRel ρ h w) {t : TypeId} {ts : Array TypeId} {ty : TypeId} {args : Array Value} {x v : AV} {X : Value}
    (hl : lenA P h t x = some v) (hx : Rel ρ x X) (ht : ts[0]? = some t) (ha : args[0]? = some X) : ∃ V, (Builtin.len_ ts ty args).run P w = .ok V w ∧ Rel ρ v V := by
  unfold lenA at hl
  split at hl
  · rename_i s hu
    simp only [Rel] at hx; subst hx
    simp only [Option.some.injEq] at hl; subst hl
    exact ⟨_, by simp [Builtin.len_, ht, ha, underlying_run hu]; rfl, by simp [Rel, goInt, size_ofNats]⟩
  · rename_i n e hu
    simp only [Option.some.injEq] at hl; subst hl
    exact ⟨.int .i64 n, by simp [Builtin.len_, ht, ha, underlying_run hu, goInt], by simp [Rel]⟩
  · rename_i e hu
    simp only [Rel] at hx; subst hx
    simp only [Option.some.injEq] at hl; subst hl
    exact ⟨_, by simp [Builtin.len_, ht, ha, underlying_run hu]; rfl, by simp [Rel, goInt]⟩
  · rename_i e hu
    simp only [Rel] at hx
    simp only [Option.some.injEq] at hl; subst hl
    rcases hx with ⟨_, _, rfl⟩ | rfl
    · exact ⟨_, by simp [Builtin.len_, ht, ha, underlying_run hu]; rfl, by simp [Rel, goInt]⟩
    · exact ⟨_, by simp [Builtin.len_, ht, ha, underlying_run hu]; rfl, by simp [Rel, goInt]⟩
  · rename_i e b off n c hu
    simp only [Rel] at hx; obtain ⟨_, _, _, _, rfl⟩ := hx
    simp only [Option.some.injEq] at hl; subst hl
    exact ⟨_, by simp [Builtin.len_, ht, ha, underlying_run hu]; rfl, by simp [Rel, goInt]⟩
  · rename_i e1 e2 hu
    simp only [Rel] at hx; subst hx
    simp only [Option.some.injEq] at hl; subst hl
    exact ⟨_, by simp [Builtin.len_, ht, ha, underlying_run hu]; rfl, by simp [Rel, goInt]⟩
  · rename_i e1 e2 b hu
    simp only [Rel] at hx; obtain ⟨e, he, rfl⟩ := hx
    split at hl
    · rename_i es clock hg
      simp only [Option.some.injEq] at hl; subst hl
      obtain ⟨e', he', hb⟩ := S.ent hg
      rw [he] at he'; simp only [Option.some.injEq] at he'; subst he'
      obtain ⟨ES, h1, h2⟩ := hb
      have hgo : (getObj e.blk).run P w = .ok (.map ES clock) w := by simp [getObj, Sem.run, h1]
      exact ⟨.int .i64 ES.size, by simp [Builtin.len_, ht, ha, underlying_run hu, hgo, goInt], by have := h2.length; simp only [Array.length_toList] at this; simp [Rel, this]⟩
    · cases hl
  · cases hl

theorem cap_run {P : Program} {ρ : Nat → Option Ent} {w : World} {t : TypeId} {ts : Array TypeId} {ty : TypeId} {args : Array Value} {x v : AV} {X : Value}
    (hl : capA P t x = some v) (hx : Rel ρ x X) (ht : ts[0]? = some t) (ha : args[0]? = some X) : ∃ V, (Builtin.cap_ ts ty args).run P w = .ok V w ∧ Rel ρ v V := by
  unfold capA at hl
  split at hl
  · rename_i e hu
    simp only [Rel] at hx; subst hx
    simp only [Option.some.injEq] at hl; subst hl
    exact ⟨_, by simp [Builtin.cap_, ht, ha, underlying_run hu]; rfl, by simp [Rel, goInt]⟩
  · rename_i e b off n c hu
    simp only [Rel, CapRel] at hx; obtain ⟨_, C, _, ⟨rfl, _⟩, rfl⟩ := hx
    simp only [Option.some.injEq] at hl; subst hl
    exact ⟨_, by simp [Builtin.cap_, ht, ha, underlying_run hu]; rfl, by simp [Rel, goInt]⟩
  · cases hl

theorem minA_run {P : Program} {ρ : Nat → Option Ent} {x y v : AV} {X Y : Value} (h : minA true x y = some v) (hx : Rel ρ x X) (hy : Rel ρ y Y) (w : World) : ∃ V, (Builtin.min2 X Y).run P w = .ok V w ∧ Rel ρ v V := by
  unfold minA at h
  split at h
  · simp only [Rel] at hx hy; subst hx; subst hy
    simp only [Option.some.injEq] at h; subst h
    exact ⟨_, by simp [Builtin.min2]; rfl, by simp [Rel]⟩
  · cases h
theorem maxA_run {P : Program} {ρ : Nat → Option Ent} {x y v : AV} {X Y : Value} (h : minA false x y = some v) (hx : Rel ρ x X) (hy : Rel ρ y Y) (w : World) : ∃ V, (Builtin.max2 X Y).run P w = .ok V w ∧ Rel ρ v V := by
  unfold minA at h
  split at h
  · simp only [Rel] at hx hy; subst hx; subst hy
    simp only [Option.some.injEq] at h; subst h
    exact ⟨_, by simp [Builtin.max2]; rfl, by simp [Rel]⟩
  · cases h

theorem minsA_run {P : Program} {ρ : Nat → Option Ent} {w : World} : ∀ {r : List AV} {R : List Value} {x v : AV} {X : Value}, minsA true x r = some v → Rel ρ x X → RelL ρ r R →
    ∃ V, (R.foldlM Builtin.min2 X).run P w = .ok V w ∧ Rel ρ v V
  | [], R, x, v, X, h, hx, hr => by
    simp only [RelL] at hr; subst hr
    simp only [minsA, Option.some.injEq] at h; subst h
    exact ⟨X, by simp, hx⟩
  | y :: r, R, x, v, X, h, hx, hr => by
    simp only [RelL] at hr; obtain ⟨Y, R', hy, hr', rfl⟩ := hr
    simp only [minsA] at h
    split at h
    · rename_i z hz
      obtain ⟨Z, hZ, hZ'⟩ := minA_run (P := P) hz hx hy w
      obtain ⟨V, h1, h2⟩ := minsA_run (P := P) (w := w) h hZ' hr'
      exact ⟨V, by simp [List.foldlM_cons, hZ, h1], h2⟩
    · cases h
theorem maxsA_run {P : Program} {ρ : Nat → Option Ent} {w : World} : ∀ {r : List AV} {R : List Value} {x v : AV} {X : Value}, minsA false x r = some v → Rel ρ x X → RelL ρ r R →
    ∃ V, (R.foldlM Builtin.max2 X).run P w = .ok V w ∧ Rel ρ v V
  | [], R, x, v, X, h, hx, hr => by
    simp only [RelL] at hr; subst hr
    simp only [minsA, Option.some.injEq] at h; subst h
    exact ⟨X, by simp, hx⟩
  | y :: r, R, x, v, X, h, hx, hr => by
    simp only [RelL] at hr; obtain ⟨Y, R', hy, hr', rfl⟩ := hr
    simp only [minsA] at h
    split at h
    · rename_i z hz
      obtain ⟨Z, hZ, hZ'⟩ := maxA_run (P := P) hz hx hy w
      obtain ⟨V, h1, h2⟩ := maxsA_run (P := P) (w := w) h hZ' hr'
      exact ⟨V, by simp [List.foldlM_cons, hZ, h1], h2⟩
    · cases h
end Go.Sx

namespace Go.Sx
open Go.RowKit (Below)

theorem set_live_other {ρ : Nat → Option Ent} {h : Heap} {w : World} {i : Nat} {e : Ent} {b : Blk} (S : SRel ρ h w) (hg : h.get i = some b) (he : ρ i = some e) (hl : b.live = true) :
    ∀ (j : Nat) (x : Ent) (d : Blk), ρ j = some x → (h.set i .dead).t.get j = some d → d.solid = true → x.blk ≠ e.blk ∧ h.t.get j = some d := by
  unfold Heap.get at hg
  have hget1 : ∀ j, (h.set i .dead).t.get j = if j = i then some .dead else h.t.get j := fun j => T.get_put _ _ _ _ _ (Nat.lt_succ_self _)
  intro j x d hx hd hdl
  rw [hget1] at hd
  by_cases hji : j = i
  · rw [if_pos hji] at hd; simp only [Option.some.injEq] at hd; subst hd; cases hdl
  · rw [if_neg hji] at hd
    exact ⟨fun q => S.inj i j e x b d (fun q => hji q.symm) he hx hg hd hl hdl q.symm, hd⟩

theorem SRel.move {ρ : Nat → Option Ent} {h : Heap} {w w' : World} {i : Nat} {e e' : Ent} {b c : Blk} (S : SRel ρ h w) (hf : h.next < h.lim) (hg : h.get i = some b) (he : ρ i = some e) (hl : b.live = true)
    (hw : ∀ k, k ≠ e.blk → w'.heap[k]? = w.heap[k]?) (hbk : e'.blk = e.blk) (hc : BRel (upd ρ h.next e') w' e' c) :
    SRel (upd ρ h.next e') ((h.set i .dead).push c) w' := by
  have S1 : SRel ρ (h.set i .dead) w' := S.set hg he hl hw trivial
  refine S1.push hf (fun j x d hx hd hdl => ?_) hc
  exact ⟨rfl, by rw [hbk]; exact (set_live_other S hg he hl j x d hx hd hdl).1⟩

theorem Good.move {ρ : Nat → Option Ent} {h : Heap} {w w' : World} {i : Nat} {e e' : Ent} {b c : Blk} (S : SRel ρ h w) (hf : h.next < h.lim) (hg : h.get i = some b) (he : ρ i = some e) (hl : b.live = true)
    (hw : ∀ k, k ≠ e.blk → w'.heap[k]? = w.heap[k]?) (hs : w'.heap.size = w.heap.size) (hbk : e'.blk = e.blk) (h1 : w'.os = w.os) (h2 : w'.tape = w.tape) (h3 : w'.output = w.output) :
    Good ρ h w (upd ρ h.next e') ((h.set i .dead).push c) w' := by
  have hget := push_get (h.set i .dead) c
  have hget0 := set_get h i .dead
  have hnx : ((h.set i .dead).push c).next = h.next + 1 := rfl
  have hn1 : (h.set i .dead).next = h.next := rfl
  refine ⟨Ext.push _ (S.unmapped hf), h1, h2, h3, by omega, fun k hk hno => hw k (fun q => hno i e b he hg hl q.symm), ?_, by omega, rfl, fun _ => by omega, fun q hq => List.mem_cons_of_mem _ hq, ?_, ?_, ?_, ?_, fun j x d hx hd hdl hn _ _ => hw _ (S.inj j i x e d b (fun q => hn (by rw [q]; exact List.mem_cons_self)) hx he hd hg hdl (Blk.solid_of hl))⟩
  · intro j x d hx hd hdl
    rw [hget, hn1] at hd
    unfold upd at hx
    by_cases hj : j = h.next
    · rw [if_pos hj] at hx; simp only [Option.some.injEq] at hx; subst hx; exact .inl ⟨i, e, b, he, hg, Blk.solid_of hl, fun _ => hl, hbk.symm⟩
    · rw [if_neg hj] at hx hd
      exact .inl ⟨j, x, d, hx, (set_live_other S hg he hl j x d hx hd hdl).2, hdl, id, rfl⟩
  · intro j hj1 hj2
    rw [hget, hn1, if_neg (by omega), hget0, if_neg (fun q => hj1 (by rw [q]; exact List.mem_cons_self))]
  · intro j d hd
    rw [hget, hn1]
    by_cases hj : j = h.next
    · exact ⟨c, by rw [if_pos hj]⟩
    · rw [if_neg hj, hget0]
      by_cases hji : j = i
      · exact ⟨.dead, by rw [if_pos hji]⟩
      · exact ⟨d, by rw [if_neg hji]; exact hd⟩
  · intro j d hd
    rw [hget, hn1] at hd
    by_cases hj : j = h.next
    · exact .inr (by omega)
    · rw [if_neg hj, hget0] at hd
      by_cases hji : j = i
      · subst hji; exact .inl ⟨b, hg⟩
      · rw [if_neg hji] at hd; exact .inl ⟨d, hd⟩
  · intro j x hx
    unfold upd at hx
    by_cases hj : j = h.next
    · exact .inr (by omega)
    · rw [if_neg hj] at hx; exact .inl hx

theorem zeroCells_size (z : Array Value) (n : Nat) : (Builtin.zeroCells z n).size = n * z.size := by simp [Builtin.zeroCells]

theorem append_grow {P : Program} {w : World} {st xt ty e : TypeId} {xd : TypeDesc} {i : TypeInfo} {base : Option Addr} {sLen sCap n : Nat} {X Z : Value} {olds news : List Value}
    (hu : P.underlying st = some (.slice e)) (hx : P.underlying xt = some xd) (hxd : ∀ k, xd ≠ .int k) (hi : P.info? e = some i) (hz : ∀ w, (Go.zeroValue e).run P w = .ok Z w) (hzs : Z.cells.size = i.size)
    (hlen : ∀ w, (Builtin.lenOf X).run P w = .ok n w) (hlt : sCap < sLen + n) (h1 : sLen + n ≤ 20000000) (h2 : i.bytes ≤ 65536)
    (hold : (Builtin.firstCells i.size sLen (.slice base sLen sCap)).run P w.drew = .ok olds.toArray w.drew) (hnew : (Builtin.firstCells i.size n X).run P w.drew = .ok news.toArray w.drew) :
    ∃ cap, sLen + n ≤ cap ∧ ∃ rest : List Value, rest.length = (cap - (sLen + n)) * i.size ∧ (Builtin.append_ #[st, xt] ty #[.slice base sLen sCap, X]).run P w =
      .ok (.slice (some ⟨w.heap.size, 0, none⟩) (sLen + n) cap) (w.drew.alloc (.cells (olds ++ news ++ rest).toArray e)) := by
  refine ⟨grownCap w (sLen + n) sCap e, by simp [grownCap, Question.cut], (Builtin.zeroCells Z.cells (grownCap w (sLen + n) sCap e - (sLen + n))).toList, by simp [zeroCells_size, hzs], ?_⟩
  have hn : ¬ (sLen + n ≤ sCap) := by omega
  have h63' : ¬ (9223372036854775807 < ((sLen : Int) + (n : Int))) := by omega
  have h48' : ¬ (281474976710656 < Builtin.nextslicecap (sLen + n) sCap * i.bytes) := by
    have a1 := nextslicecap_le hlt
    have a2 : Builtin.nextslicecap (sLen + n) sCap * i.bytes ≤ 40000000 * 65536 := Nat.mul_le_mul (by omega) h2
    omega
  have hni : (match xd with | .int _ => true | _ => false) = false := by
    cases xd <;> first | rfl | (exact absurd rfl (hxd _))
  have hsz : ∀ w, (Go.sizeOf e).run P w = .ok i.size w := fun w => sizeOf_run (by simp [sizeOf, hi]) w
  simp [Builtin.append_, underlying_run hu, underlying_run hx, hsz, typeInfo, hi, hlen, hn, h63', h48', Question.forced, hold, hnew, newRow, grownCap, hni, hz]
  congr 2
  apply Array.ext'
  simp

/-- a new block whose cells are known only in front -/
theorem cells_open {ρ : Nat → Option Ent} {h : Heap} {w : World} (S : SRel ρ h w) (hf : h.next < h.lim) {t u : TypeId} {cs : List AV} {VS rest : List Value} (hv : RelL ρ cs VS) :
    SRel (upd ρ h.next ⟨w.heap.size, 0, cs.length + rest.length⟩) (h.push (.cells t cs true)) (w.alloc (.cells (VS ++ rest).toArray u)) := by
  have hold : ∀ k, k < w.heap.size → (w.alloc (.cells (VS ++ rest).toArray u)).heap[k]? = w.heap[k]? := fun k hk => by
    show (w.heap.push _)[k]? = _; rw [Array.getElem?_push, if_neg (by omega)]
  refine S.push hf (fun i x c hx hc hl => ?_) ⟨⟨(VS ++ rest).toArray, u, 0, 0, by show (w.heap.push _)[w.heap.size]? = _; simp, by simp [hv.length], by simp, ?_, by omega⟩, fun h => by cases h⟩
  · have := (S.blks i x c hx hc).lt hl
    exact ⟨hold _ this, by simp only; omega⟩
  · intro j a ha
    obtain ⟨y, hy, hr⟩ := hv.nth ha
    have hj := getElem?_lt hy
    exact ⟨y, by simp only [Nat.zero_add, List.getElem?_toArray]; rw [List.getElem?_append_left hj]; exact hy, Rel.ext (Ext.push _ (S.unmapped hf)) _ hr⟩

theorem append_room {P : Program} {w w' : World} {st xt ty e : TypeId} {xd : TypeDesc} {i : TypeInfo} {a : Addr} {sLen sCap n : Nat} {X : Value} {news : List Value}
    (hu : P.underlying st = some (.slice e)) (hx : P.underlying xt = some xd) (hxd : ∀ k, xd ≠ .int k) (hi : P.info? e = some i) (hlen : ∀ w, (Builtin.lenOf X).run P w = .ok n w) (hle : sLen + n ≤ sCap)
    (hnew : (Builtin.firstCells i.size n X).run P w = .ok news.toArray w) (hst : (Go.storeCells (a.add (sLen * i.size)) news).run P w = .ok () w') :
    (Builtin.append_ #[st, xt] ty #[.slice (some a) sLen sCap, X]).run P w = .ok (.slice (some a) (sLen + n) sCap) w' := by
  have hni : (match xd with | .int _ => true | _ => false) = false := by
    cases xd <;> first | rfl | (exact absurd rfl (hxd _))
  have hsz : ∀ w, (Go.sizeOf e).run P w = .ok i.size w := fun w => sizeOf_run (by simp [sizeOf, hi]) w
  simp [Builtin.append_, underlying_run hu, underlying_run hx, hsz, typeInfo, hi, hlen, hle, hnew, hni, hst]

theorem append_nothing {P : Program} {w : World} {st xt ty e : TypeId} {xd : TypeDesc} {i : TypeInfo} {X : Value} {news : List Value}
    (hu : P.underlying st = some (.slice e)) (hx : P.underlying xt = some xd) (hxd : ∀ k, xd ≠ .int k) (hi : P.info? e = some i) (hlen : ∀ w, (Builtin.lenOf X).run P w = .ok 0 w)
    (hnew : (Builtin.firstCells i.size 0 X).run P w = .ok news.toArray w) :
    (Builtin.append_ #[st, xt] ty #[.slice none 0 0, X]).run P w = .ok (.slice none 0 0) w := by
  have hni : (match xd with | .int _ => true | _ => false) = false := by
    cases xd <;> first | rfl | (exact absurd rfl (hxd _))
  have hsz : ∀ w, (Go.sizeOf e).run P w = .ok i.size w := fun w => sizeOf_run (by simp [sizeOf, hi]) w
  simp [Builtin.append_, underlying_run hu, underlying_run hx, hsz, typeInfo, hi, hlen, hnew, hni]

theorem loadCells_len {h : Heap} {b off n : Nat} {cs : List AV} (hl : loadCells h b off n = some cs) : cs.length = n := by
  unfold loadCells at hl
  split at hl
  · rename_i hn; simp only [Option.some.injEq] at hl; subst hl; simp [hn]
  · split at hl
    · exact (takeN_spec hl).2
    · cases hl

theorem firstCells_len {h : Heap} {size n : Nat} {x : AV} {cs : List AV} (hf : firstCellsA h size n x = some cs) (hn : lenOfA x = some n) : cs.length = n * size := by
  unfold firstCellsA at hf
  split at hf
  · simp only [lenOfA, Option.some.injEq] at hn; subst hn
    simp only [Option.some.injEq] at hf; subst hf; simp
  · split at hf
    · rename_i h0; simp only [Option.some.injEq] at hf; subst hf; simp [h0]
    · cases hf
  · exact loadCells_len hf
  · simp only [lenOfA, Option.some.injEq] at hn; subst hn
    split at hf
    · rename_i h1; subst h1
      simp only [Option.some.injEq] at hf; subst hf; simp
    · cases hf
  · cases hf

theorem takeN_all : ∀ (l : List AV), takeN l.length l = some l
  | [] => rfl
  | x :: l => by simp [takeN, takeN_all l]

theorem append_run {P : Program} {ρ : Nat → Option Ent} {h h' : Heap} {w : World} (S : SRel ρ h w) (hf : h.next < h.lim) {ts : List TypeId} {ty : TypeId} {args : List AV} {ARGS : List Value} {v : AV}
    (ha : appendA P h ts args = some (v, h')) (hr : RelL ρ args ARGS) :
    ∃ ρ' w' V, (Builtin.append_ ts.toArray ty ARGS.toArray).run P w = .ok V w' ∧ Rel ρ' v V ∧ SRel ρ' h' w' ∧ Good ρ h w ρ' h' w' := by
  unfold appendA at ha
  split at ha
  · rename_i st xt s x
    simp only [RelL] at hr
    obtain ⟨SV, _, hs, ⟨X, _, hx, rfl, rfl⟩, rfl⟩ := hr
    split at ha
    · rename_i e xd hu hux
      split at ha
      · cases ha
      · rename_i hxd
        have hxd' : ∀ k, xd ≠ .int k := fun k hk => hxd k hk
        split at ha
        · rename_i i z n hi hz hn
          split at ha
          · cases ha
          · rename_i hlim
            have hlen : ∀ w, (Builtin.lenOf X).run P w = .ok n w := fun w => lenOf_run hn hx w
            obtain ⟨Z, _, hz2⟩ := zeroOf_run (P := P) ρ hz w
            have hzr : ∃ Z, (∀ w, (Go.zeroValue e).run P w = .ok Z w) ∧ Z.cells.size = i.size := by
              have hzc := fun (Z : Value) (h : Rel ρ z Z) => (rel_cells h).length
              have hzl : z.cells.length = i.size := by omega
              unfold zeroOf at hz
              rw [hi] at hz
              simp only at hz
              split at hz
              · rename_i zv hzv
                refine ⟨zv, fun w => by simp [Go.zeroValue, typeInfo, hi, hzv], ?_⟩
                have := (rel_cells (ofValue_rel ρ hz)).length
                simp only [Array.length_toList] at this; omega
              · cases hz
            obtain ⟨Z, hZ, hZs⟩ := hzr
            split at ha
            · cases ha
            · rename_i new hnew
              obtain ⟨news, hn1, hn2⟩ := firstCells_run (P := P) S hnew hx
              obtain ⟨news', hn1', hn2'⟩ := firstCells_run (P := P) S.drew hnew hx
              have hnl : new.length = n * i.size := firstCells_len hnew hn
              split at ha
              · cases ha
              · rename_i hpl0
                split at ha
                · simp only [Rel] at hs; subst hs
                  split at ha
                  · rename_i hn0
                    subst hn0
                    simp only [Option.some.injEq, Prod.mk.injEq] at ha; obtain ⟨rfl, rfl⟩ := ha
                    exact ⟨ρ, w, .slice none 0 0, append_nothing hu hux hxd' hi hlen hn1, by simp [Rel], S, Good.refl _ _ _⟩
                  · rename_i hn0
                    simp only [Option.some.injEq, Prod.mk.injEq] at ha; obtain ⟨rfl, rfl⟩ := ha
                    obtain ⟨cap, hc1, rest, hc2, hc3⟩ := append_grow (w := w) (ty := ty) (base := none) (sLen := 0) (sCap := 0) (olds := []) hu hux hxd' hi hZ hZs hlen (by omega) (by omega) (by omega) (by simp [Builtin.firstCells]) hn1'
                    simp only [Nat.zero_add] at hc1 hc2 hc3
                    refine ⟨_, _, _, hc3, ?_, cells_open (rest := rest) S.drew hf hn2', (good_alloc S.drew hf _ _ _).drew⟩
                    simp only [Rel, CapRel]
                    refine ⟨_, cap, upd_same _ _ _, ⟨⟨?_, hc1⟩, hc1⟩, by simp⟩
                    simp only [hnl, hc2]
                    rw [← Nat.add_mul, show n + (cap - n) = cap by omega]; omega
                · rename_i b off len c
                  simp only [Rel, CapRel] at hs
                  obtain ⟨en, C, he, ⟨rfl, hlc⟩, rfl⟩ := hs
                  split at ha
                  · rename_i hle
                    split at ha
                    · rename_i h'' hst
                      simp only [Option.some.injEq, Prod.mk.injEq] at ha; obtain ⟨rfl, rfl⟩ := ha
                      obtain ⟨w', s1, s2, s3⟩ := storeCells_run (P := P) S hst he hn2
                      refine ⟨ρ, w', _, append_room hu hux hxd' hi hlen hle hn1 (by rw [Addr.add_shift, Nat.add_assoc]; exact s1), ?_, s2, s3⟩
                      simp only [Rel]; exact ⟨en, C, he, ⟨rfl, hle⟩, rfl⟩
                    · cases ha
                  · rename_i hgt
                    split at ha
                    · cases ha
                    · split at ha
                      · rename_i old hold
                        simp only [Option.some.injEq, Prod.mk.injEq] at ha; obtain ⟨rfl, rfl⟩ := ha
                        obtain ⟨olds, o1, o2⟩ := loadCells_run (P := P) S.drew hold he
                        have hol : old.length = len * i.size := loadCells_len hold
                        obtain ⟨cap, hc1, rest, hc2, hc3⟩ := append_grow (w := w) (ty := ty) (base := some ⟨en.blk, en.shift + off, none⟩) (sLen := len) (sCap := C) (olds := olds) hu hux hxd' hi hZ hZs hlen (by omega) (by omega) (by omega) (by simpa [Builtin.firstCells] using o1) hn1'
                        refine ⟨_, _, _, hc3, ?_, cells_open (rest := rest) S.drew hf (o2.append hn2'), (good_alloc S.drew hf _ _ _).drew⟩
                        simp only [Rel, CapRel]
                        refine ⟨_, cap, upd_same _ _ _, ⟨⟨?_, hc1⟩, hc1⟩, by simp⟩
                        simp only [List.length_append, hnl, hol, hc2]
                        rw [← Nat.add_mul, ← Nat.add_mul, show len + n + (cap - (len + n)) = cap by omega]; omega
                      · cases ha
                · rename_i b off len sz c0
                  simp only [Rel, CapRel] at hs
                  obtain ⟨en, C, he, ⟨⟨hcap, hcap0⟩, hlc⟩, rfl⟩ := hs
                  split at ha
                  · rename_i hn0
                    subst hn0
                    simp only [Option.some.injEq, Prod.mk.injEq] at ha; obtain ⟨rfl, rfl⟩ := ha
                    have hnil : news = [] := by have := hn2.length; rw [hnl] at this; simpa using this
                    subst hnil
                    refine ⟨ρ, w, _, append_room hu hux hxd' hi hlen hlc hn1 (w' := w) (by simp [Go.storeCells]), ?_, S, Good.refl _ _ _⟩
                    simp only [Rel, CapRel]; exact ⟨en, C, he, ⟨⟨hcap, hcap0⟩, hlc⟩, rfl⟩
                  · rename_i hn0
                    split at ha
                    · cases ha
                    · rename_i hlim2
                      split at ha
                      · rename_i hle0
                        split at ha
                        · rename_i h'' hst
                          simp only [Option.some.injEq, Prod.mk.injEq] at ha; obtain ⟨rfl, rfl⟩ := ha
                          have hle : len + n ≤ C := Nat.le_trans hle0 hcap0
                          have hszi : sz = i.size := by omega
                          subst hszi
                          obtain ⟨w', s1, s2, s3⟩ := storeCells_run (P := P) S hst he hn2
                          refine ⟨ρ, w', _, append_room hu hux hxd' hi hlen hle hn1 (by rw [Addr.add_shift, Nat.add_assoc]; exact s1), ?_, s2, s3⟩
                          simp only [Rel, CapRel]; exact ⟨en, C, he, ⟨⟨hcap, hcap0⟩, hle⟩, rfl⟩
                        · cases ha
                      rename_i hgt0
                      split at ha
                      · rename_i t' cs hg
                        split at ha
                        · rename_i hcl
                          simp only [Option.some.injEq, Prod.mk.injEq] at ha; obtain ⟨rfl, rfl⟩ := ha
                          have hszi : sz = i.size := by omega
                          subst hszi
                          obtain ⟨e2, he2, hb⟩ := S.ent hg
                          rw [he] at he2; simp only [Option.some.injEq] at he2; subst he2
                          have hb0 := hb
                          obtain ⟨⟨all, u, lo, hi', b1, b2, b3, b4, b5⟩, _⟩ := hb
                          have hdl : (dropN off cs).length = len * i.size := by rw [dropN_eq, List.length_drop, hcl]; omega
                          have hold : loadCells h b off (len * i.size) = some (dropN off cs) := by
                            unfold loadCells
                            split
                            · rename_i h0; rw [h0] at hdl; simp only [Option.some.injEq]; exact (List.eq_nil_of_length_eq_zero hdl).symm
                            · simp only [getCells, hg]
                              rw [← hdl]; exact takeN_all _
                          have hpl : new.all AV.plain = true := by simpa using hpl0
                          by_cases hroom : len + n ≤ C
                          · have hmul : (len + n) * i.size ≤ C * i.size := Nat.mul_le_mul_right _ hroom
                            rw [Nat.add_mul] at hmul
                            have hnl' := hn2.length
                            obtain ⟨all', r1, r2, r3⟩ := storeCells_block (P := P) (k := en.blk) (o := en.shift + off + len * i.size) news 0 w all b1 (fun _ => by omega) (allPlain hn2 hpl)
                              (fun j hj1 hj2 => b5 j (by omega) (by omega))
                            have hblk : en.blk < w.heap.size := (S.blks b en _ he hg).lt rfl
                            have hot : ∀ k, k ≠ en.blk → (w.heap.setIfInBounds en.blk (.cells all' u (lo, hi')))[k]? = w.heap[k]? := fun k hk => by
                              simp only [Array.getElem?_setIfInBounds]; rw [if_neg (by omega)]
                            refine ⟨upd ρ h.next ⟨en.blk, en.shift + off, en.n - off⟩, { w with heap := w.heap.setIfInBounds en.blk (.cells all' u (lo, hi')) }, _, append_room hu hux hxd' hi hlen hroom hn1 (by rw [Addr.add_shift]; exact r1), ?_,
                              S.move hf hg he rfl hot rfl ?_, Good.move S hf hg he rfl hot (by simp) rfl rfl rfl rfl⟩
                            · simp only [Rel, CapRel]
                              refine ⟨⟨en.blk, en.shift + off, en.n - off⟩, C, upd_same _ _ _, ⟨⟨by simp only; omega, hroom⟩, hroom⟩, by simp⟩
                            · refine ⟨⟨all', u, lo, hi', by simp [hblk], by simp only; omega, by simp only [List.length_append, hdl, hnl]; omega, ?_, by rw [r2]; intro k hk1 hk2; exact b5 k (by simp only at hk1; omega) hk2⟩, fun h => by cases h⟩
                              intro j a ha
                              simp only
                              by_cases hj : j < len * i.size
                              · rw [List.getElem?_append_left (by omega), dropN_eq, List.getElem?_drop] at ha
                                obtain ⟨y, y1, y2⟩ := b4 _ a ha
                                refine ⟨y, ?_, Rel.ext (Ext.push _ (S.unmapped hf)) _ y2⟩
                                rw [r3, if_neg (by omega), ← y1]; congr 1; omega
                              · rw [List.getElem?_append_right (by omega)] at ha
                                have ha2 := getElem?_lt ha
                                obtain ⟨y, y1, y2⟩ := hn2.nth ha
                                refine ⟨y, ?_, Rel.ext (Ext.push _ (S.unmapped hf)) _ y2⟩
                                rw [r3, if_pos (by omega), ← y1]; congr 1; omega
                          · have S2 : SRel ρ (h.set b .dead) w := S.set hg he rfl (fun _ _ => rfl) trivial
                            obtain ⟨olds, o1, o2⟩ := loadCells_run (P := P) S.drew hold he
                            obtain ⟨cap, hc1, rest, hc2, hc3⟩ := append_grow (w := w) (ty := ty) (base := some ⟨en.blk, en.shift + off, none⟩) (sLen := len) (sCap := C) (olds := olds) hu hux hxd' hi hZ hZs hlen (by omega) (by omega) (by omega) (by simpa [Builtin.firstCells] using o1) hn1'
                            refine ⟨_, _, _, hc3, ?_, cells_open (rest := rest) S2.drew hf (o2.append hn2'), (Good.set (w := w) (w' := w.drew) S hg he rfl (fun _ _ => rfl) rfl rfl rfl rfl).trans (good_alloc S2.drew hf _ _ _)⟩
                            simp only [Rel, CapRel]
                            refine ⟨_, cap, upd_same _ _ _, ⟨⟨?_, hc1⟩, hc1⟩, by simp⟩
                            simp only [List.length_append, hnl, hdl, hc2]
                            rw [← Nat.add_mul, ← Nat.add_mul, show len + n + (cap - (len + n)) = cap by omega]; omega
                        · cases ha
                      · cases ha
                · cases ha
        · cases ha
    · cases ha
  · cases ha
end Go.Sx

namespace Go.Sx
open Go.RowKit (Below)

theorem copy_run {P : Program} {ρ : Nat → Option Ent} {h h' : Heap} {w : World} (S : SRel ρ h w) {ts : List TypeId} {ty : TypeId} {args : List AV} {ARGS : List Value} {v : AV}
    (ha : copyA P h ts args = some (v, h')) (hr : RelL ρ args ARGS) :
    ∃ ρ' w' V, (Builtin.copy_ ts.toArray ty ARGS.toArray).run P w = .ok V w' ∧ Rel ρ' v V ∧ SRel ρ' h' w' ∧ Good ρ h w ρ' h' w' := by
  unfold copyA at ha
  split at ha
  · rename_i dt tr d x
    simp only [RelL] at hr
    obtain ⟨D, _, hd, ⟨X, _, hx, rfl, rfl⟩, rfl⟩ := hr
    split at ha
    · rename_i e hu
      split at ha
      · rename_i sz n m hsz hn hm
        have hlen := lenOf_run (P := P) hn hx w
        split at ha
        · cases ha
        · rename_i cs hcs
          obtain ⟨CS, c1, c2⟩ := firstCells_run (P := P) S hcs hx
          split at ha
          · simp only [Rel] at hd; subst hd
            simp only [Option.some.injEq, Prod.mk.injEq] at ha; obtain ⟨rfl, rfl⟩ := ha
            simp only [lenOfA, Option.some.injEq] at hm; subst hm
            refine ⟨ρ, w, .int .i64 (Nat.min n 0 : Nat), ?_, by simp [Rel], S, Good.refl _ _ _⟩
            simp only [Builtin.copy_, List.getElem?_toArray, List.getElem?_cons_zero, List.getElem?_cons_succ, Sem.run_bind, underlying_run hu, Result.andThen_ok, hlen, sizeOf_run hsz, c1, Sem.run_pure, goInt]
          · rename_i b off len cap
            simp only [Rel] at hd; obtain ⟨en, C, he, _, rfl⟩ := hd
            simp only [lenOfA, Option.some.injEq] at hm; subst hm
            split at ha
            · rename_i h'' hst
              simp only [Option.some.injEq, Prod.mk.injEq] at ha; obtain ⟨rfl, rfl⟩ := ha
              obtain ⟨w', s1, s2, s3⟩ := storeCells_run (P := P) S hst he c2
              refine ⟨ρ, w', .int .i64 (Nat.min n len : Nat), ?_, by simp [Rel], s2, s3⟩
              simp only [Builtin.copy_, List.getElem?_toArray, List.getElem?_cons_zero, List.getElem?_cons_succ, Sem.run_bind, underlying_run hu, Result.andThen_ok, hlen, sizeOf_run hsz, c1, Sem.run_pure, goInt, s1]
            · cases ha
          · cases ha
      · cases ha
    · cases ha
  · cases ha

theorem forIn_bytes {P : Program} {ρ : Nat → Option Ent} {w : World} : ∀ {cs : List AV} {CS : List Value} {l : List Nat} (acc : ByteArray), cs.foldr pickByte (some []) = some l → RelL ρ cs CS →
    (forIn CS acc (fun c s => match c with
      | .int .u8 n => pure (ForInStep.yield (s.push (UInt8.ofNat n.toNat)))
      | _ => do let _ ← (stuck "bytesToString: byte expected" : Sem PUnit); pure (ForInStep.yield s)) : Sem ByteArray).run P w = .ok (acc ++ ofNats l) w
  | [], CS, l, acc, h, hr => by
    simp only [RelL] at hr; subst hr
    simp at h; subst h
    simp [ofNats]
    apply ByteArray.ext; simp
  | c :: cs, CS, l, acc, h, hr => by
    simp only [RelL] at hr
    obtain ⟨V, R, h1, h2, rfl⟩ := hr
    simp only [List.foldr_cons] at h
    generalize hq : cs.foldr pickByte (some []) = q at h
    unfold pickByte at h
    split at h
    · rename_i n l'
      simp only [Option.some.injEq] at h; subst h
      simp only [Rel] at h1; subst h1
      have ih := forIn_bytes (P := P) (w := w) (acc.push (UInt8.ofNat n.toNat)) hq h2
      simp only [List.forIn_cons, Sem.run_bind, Sem.run_pure, Result.andThen_ok]
      rw [ih]
      congr 1
      apply ByteArray.ext
      simp [ofNats]
    · cases h

theorem bytesToString_run {P : Program} {ρ : Nat → Option Ent} {w : World} {a : Addr} {len cap : Nat} {cs : List AV} {CS : List Value} {l : List Nat} (hc : (Go.loadCells a len).run P w = .ok CS.toArray w)
    (h : cs.foldr pickByte (some []) = some l) (hr : RelL ρ cs CS) : (Conv.bytesToString (.slice (some a) len cap)).run P w = .ok (.string (ofNats l)) w := by
  have := forIn_bytes (P := P) (w := w) ByteArray.empty h hr
  simp only [Conv.bytesToString, Sem.run_bind, hc, Result.andThen_ok, List.forIn_toArray]
  have e : ByteArray.empty ++ ofNats l = ofNats l := by apply ByteArray.ext; simp
  rw [e] at this
  exact (congrArg (fun (r : Result ByteArray) => r.andThen fun a w' => (pure (Value.string a) : Sem Value).run P w') this).trans rfl

/-- a new block of which the cells in front are known, and one letter behind it is marked -/
theorem cells_marked {ρ : Nat → Option Ent} {h : Heap} {w w' : World} (S : SRel ρ h w) (hf : h.next < h.lim) {t u : TypeId} {cs : List AV} {VS rest : List Value} (hv : RelL ρ cs VS)
    (hw : w'.heap = w.heap.push (.cells (VS ++ rest).toArray u ((VS ++ rest).length, (VS ++ rest).length + 1))) :
    SRel (upd ρ h.next ⟨w.heap.size, 0, cs.length + rest.length⟩) (h.push (.cells t cs true)) w' := by
  have hold : ∀ k, k < w.heap.size → w'.heap[k]? = w.heap[k]? := fun k hk => by
    rw [hw, Array.getElem?_push, if_neg (by omega)]
  refine S.push hf (fun i x c hx hc hl => ?_) ⟨⟨(VS ++ rest).toArray, u, (VS ++ rest).length, (VS ++ rest).length + 1, by rw [hw]; simp, by simp [hv.length], by simp, ?_, by intro k _ hk; simp at hk ⊢; omega⟩, fun h => by cases h⟩
  · have := (S.blks i x c hx hc).lt hl
    exact ⟨hold _ this, by simp only; omega⟩
  · intro j a ha
    obtain ⟨y, hy, hr⟩ := hv.nth ha
    have hj := getElem?_lt hy
    exact ⟨y, by simp only [Nat.zero_add, List.getElem?_toArray]; rw [List.getElem?_append_left hj]; exact hy, Rel.ext (Ext.push _ (S.unmapped hf)) _ hr⟩

theorem strToBytes_run {P : Program} (w : World) (e : TypeId) (s : List Nat) : ∃ cap, s.length ≤ cap ∧ ∃ (rest : List Value) (w' : World), rest.length = cap - s.length ∧
    (Conv.stringToBytes e (ofNats s)).run P w = .ok (.slice (some ⟨w.heap.size, 0, none⟩) s.length cap) w' ∧
    (w'.heap = w.heap.push (.cells ((s.map fun b => Value.int .u8 ((UInt8.ofNat b).toNat : Int)) ++ rest).toArray e
      (((s.map fun b => Value.int .u8 ((UInt8.ofNat b).toNat : Int)) ++ rest).length, ((s.map fun b => Value.int .u8 ((UInt8.ofNat b).toNat : Int)) ++ rest).length + 1))) ∧
    w'.os = w.os ∧ w'.tape = w.tape ∧ w'.output = w.output := by
  let rest := List.replicate (grownCap w s.length 0 e - s.length) (Value.int .u8 0)
  let VS := (s.map fun b => Value.int .u8 ((UInt8.ofNat b).toNat : Int)) ++ rest
  have hdata : (ofNats s).data.map (fun b => Value.int .u8 (b.toNat : Int)) ++ Array.replicate (grownCap w s.length 0 e - s.length) (.int .u8 0) = VS.toArray := by
    apply Array.ext'
    simp [VS, rest, ofNats, Function.comp]
  refine ⟨grownCap w s.length 0 e, by simp [grownCap, Question.cut], rest, { w.drew with heap := w.heap.push (.cells VS.toArray e (VS.length, VS.length + 1)) }, by simp [rest], ?_, rfl, rfl, rfl, rfl⟩
  have hg : (Question.appendCap s.length 0 e).cut (w.tape w.drawn (.appendCap s.length 0 e)) = grownCap w s.length 0 e := rfl
  simp only [Conv.stringToBytes, size_ofNats, Sem.run_bind, run_choose, Question.forced, Bool.false_eq_true, if_false, Result.andThen_ok, newRow, run_newObj, Sem.run_pure, markStringish, run_shape, hg, hdata]
  have hsh : ({ w with drawn := w.drawn + 1, heap := w.heap.push (.cells VS.toArray e) } : World).shape? w.heap.size = some (e, VS.length) := by simp [World.shape?]
  have hfr : ({ w with drawn := w.drawn + 1, heap := w.heap.push (.cells VS.toArray e) } : World).freeze { block := w.heap.size, off := VS.length } 1 =
      { w.drew with heap := w.heap.push (.cells VS.toArray e (VS.length, VS.length + 1)) } := by
    simp only [World.freeze, Nat.one_ne_zero, if_false]
    have : (w.heap.push (.cells VS.toArray e)).modify w.heap.size (fun
        | .cells c elem (lo, hi) => .cells c elem (if lo == hi then (VS.length, VS.length + 1) else (min lo VS.length, max hi (VS.length + 1)))
        | o => o) = w.heap.push (.cells VS.toArray e (VS.length, VS.length + 1)) := by
      apply Array.ext_getElem?
      intro j
      rw [Array.getElem?_modify]
      by_cases hj : w.heap.size = j
      · subst hj; simp
      · simp only [hj, if_false, Array.getElem?_push]
        rw [if_neg (fun x => hj x.symm), if_neg (fun x => hj x.symm)]
    exact congrArg (fun hp => ({ w.drew with heap := hp } : World)) this
  simp only [hsh, run_freeze, Result.andThen_ok, hfr]

theorem conv_run {P : Program} {ρ : Nat → Option Ent} {h h' : Heap} {w : World} (S : SRel ρ h w) (hf : h.next < h.lim) {src dst : TypeId} {x v : AV} {X : Value}
    (ha : convA P h src dst x = some (v, h')) (hx : Rel ρ x X) :
    ∃ ρ' w' V, (Go.convert src dst X).run P w = .ok V w' ∧ Rel ρ' v V ∧ SRel ρ' h' w' ∧ Good ρ h w ρ' h' w' := by
  unfold convA at ha
  split at ha
  · rename_i sd dd hs hd
    split at ha
    · simp only [Rel] at hx; subst hx
      simp only [Option.some.injEq, Prod.mk.injEq] at ha; obtain ⟨rfl, rfl⟩ := ha
      rename_i k k' n
      refine ⟨ρ, w, .int k (k.wrap n), ?_, by simp [Rel, wrapA_eq], S, Good.refl _ _ _⟩
      simp only [Go.convert, Sem.run_bind, underlying_run hs, underlying_run hd, Result.andThen_ok]
      cases sd <;> simp [Conv.intToInt]
    · simp only [Rel] at hx; subst hx
      simp only [Option.some.injEq, Prod.mk.injEq] at ha; obtain ⟨rfl, rfl⟩ := ha
      rename_i s
      refine ⟨ρ, w, .string (ofNats s), ?_, by simp [Rel], S, Good.refl _ _ _⟩
      simp only [Go.convert, Sem.run_bind, underlying_run hs, underlying_run hd, Result.andThen_ok]
      cases sd <;> simp
    · rename_i e s
      simp only [Rel] at hx; subst hx
      split at ha
      · rename_i hue
        simp only [Option.some.injEq, Prod.mk.injEq] at ha; obtain ⟨rfl, rfl⟩ := ha
        obtain ⟨cap, k1, rest, w', k2, k3, k4, k5, k6, k7⟩ := strToBytes_run (P := P) w e s
        have hS := cells_marked (rest := rest) (t := e) S hf (bytes_rel ρ s) k4
        refine ⟨_, w', .slice (some ⟨w.heap.size, 0, none⟩) s.length cap, ?_, ?_, hS, ?_⟩
        · simp only [Go.convert, Sem.run_bind, underlying_run hs, underlying_run hd, Result.andThen_ok]
          cases sd <;> simp [underlying_run hue, k3]
        · simp only [Rel, CapRel]
          exact ⟨_, cap, upd_same _ _ _, ⟨⟨by simp [k2]; omega, k1⟩, k1⟩, by simp⟩
        · exact Good.push S hf rfl (fun k hk => by rw [k4, Array.getElem?_push, if_neg (by omega)]) (by rw [k4]; simp) k5 k6 k7
      · cases ha
    · simp only [Rel] at hx; subst hx
      split at ha
      · rename_i e
        split at ha
        · rename_i hue
          simp only [Option.some.injEq, Prod.mk.injEq] at ha; obtain ⟨rfl, rfl⟩ := ha
          refine ⟨ρ, w, .string (ofNats []), ?_, by simp [Rel], S, Good.refl _ _ _⟩
          simp [Go.convert, underlying_run hs, underlying_run hd, underlying_run hue, Conv.bytesToString]
          rfl
        · cases ha
      · cases ha
    · rename_i b off len cap
      simp only [Rel] at hx; obtain ⟨en, C, he, _, rfl⟩ := hx
      split at ha
      · rename_i e
        split at ha
        · rename_i hue
          split at ha
          · rename_i cs hcs
            simp only [Option.map_eq_some_iff, Prod.mk.injEq] at ha
            obtain ⟨l, hl, rfl, rfl⟩ := ha
            obtain ⟨CS, c1, c2⟩ := loadCells_run (P := P) S hcs he
            refine ⟨ρ, w, .string (ofNats l), ?_, by simp [Rel], S, Good.refl _ _ _⟩
            simp only [Go.convert, Sem.run_bind, underlying_run hs, underlying_run hd, underlying_run hue, Result.andThen_ok]
            exact bytesToString_run c1 hl c2
          · cases ha
        · cases ha
      · cases ha
    · cases ha
  · cases ha
end Go.Sx

namespace Go.Sx
variable {DL : List Deferred}

/-! functions without a body -/
theorem ofNats_get (s : List Nat) (i : Nat) (h : i < s.length) : (ofNats s)[i]! = UInt8.ofNat s[i] := by
  rw [getElem!_pos (ofNats s) i (by rw [size_ofNats]; exact h)]
  have h' : i < (ofNats s).data.size := by simp only [ofNats]; simpa using h
  show (ofNats s).data[i]'h' = _
  simp [ofNats]

theorem u8_eq (a b : Nat) : (UInt8.ofNat a == UInt8.ofNat b) = Nat.beq (a % 256) (b % 256) := by
  rw [Bool.eq_iff_iff, beq_iff_eq, Nat.beq_eq]
  constructor
  · intro h; have := congrArg UInt8.toNat h; simpa using this
  · intro h; apply UInt8.toNat_inj.1; simpa using h

theorem idx_find (c : Nat) : ∀ (s : List Nat) (k : Nat) (p : Nat → Bool), (∀ i (h : i < s.length), p (k + i) = Nat.beq (s[i] % 256) c) →
    (match (List.range' k s.length).find? p with | some i => (Int.ofNat i) | none => -1) = idxOf c s k
  | [], k, p, _ => by simp [idxOf]
  | x :: xs, k, p, hp => by
    have h0 := hp 0 (by simp)
    simp only [Nat.add_zero, List.getElem_cons_zero] at h0
    simp only [List.length_cons, List.range'_succ, List.find?_cons, h0, idxOf]
    cases Nat.beq (x % 256) c with
    | true => rfl
    | false => exact idx_find c xs (k + 1) p (fun i h => by have := hp (i + 1) (by simpa using h); simpa [Nat.add_assoc, Nat.add_comm 1 i] using this)

theorem cmp_find : ∀ (x y : List Nat) (k : Nat) (p q : Nat → Bool), (∀ i (h : i < x.length) (h' : i < y.length), p (k + i) = !Nat.beq (x[i] % 256) (y[i] % 256) ∧ q (k + i) = Nat.blt (x[i] % 256) (y[i] % 256)) →
    (match (List.range' k (min x.length y.length)).find? p with | some i => (if q i = true then (-1 : Int) else 1) | none => if x.length < y.length then -1 else if x.length > y.length then 1 else 0) = cmpOf x y
  | [], [], k, p, q, _ => by simp [cmpOf]
  | [], y :: ys, k, p, q, _ => by simp [cmpOf]
  | x :: xs, [], k, p, q, _ => by simp [cmpOf]
  | x :: xs, y :: ys, k, p, q, hp => by
    obtain ⟨h0, h1⟩ := hp 0 (by simp) (by simp)
    simp only [Nat.add_zero, List.getElem_cons_zero] at h0 h1
    have hm : min (x :: xs).length (y :: ys).length = min xs.length ys.length + 1 := by simp only [List.length_cons]; omega
    rw [hm]
    simp only [List.range'_succ, List.find?_cons, h0, cmpOf]
    cases Nat.beq (x % 256) (y % 256) with
    | true =>
      have ih := cmp_find xs ys (k + 1) p q (fun i h h' => by have := hp (i + 1) (by simpa using h) (by simpa using h'); simpa [Nat.add_assoc, Nat.add_comm 1 i] using this)
      rw [← ih]
      simp
    | false =>
      simp only [Bool.not_false, h1]
      cases Nat.blt (x % 256) (y % 256) <;> rfl

theorem next_none (n : String) (h : (Extern.allNextRows.lookup n).isNone = true) {fn : Func} (hn : fn.name = n) (ho : fn.origin = "") : Extern.findNext fn = none := by
  have h0 : (Extern.allNextRows.lookup "").isNone = true := by kernel_rfl
  simp only [Option.isNone_iff_eq_none] at h h0
  simp [Extern.findNext, hn, ho, h, h0]

theorem find_some (n : String) (g : Array Value → Sem Value) (h1 : (Extern.allGenericRows.lookup n).isNone = true) (h2 : (Extern.allTypedRows.lookup n).isNone = true) (h3 : Extern.allRows.lookup n = some g) {fn : Func} (hn : fn.name = n) :
    Extern.find fn = some g := by
  simp only [Option.isNone_iff_eq_none] at h1 h2
  simp [Extern.find, hn, h1, h2, h3]

theorem call_ext {P : Program} {f : FuncId} {fn : Func} (hf : P.funcs[f]? = some fn) (hb : fn.body = none) (hnum : (fn.name == "runtime.NumGoroutine") = false) (h1 : Extern.findNext fn = none) {g : Array Value → Sem Value} (h2 : Extern.find fn = some g)
    (ARGS : Array Value) {V : Value} {w : World} (hg : (g ARGS).run P w = .ok V w) : (callFunc f ARGS).run P w = .ok (.value V) w := by
  have hp : ∀ w, (program : Sem Program).run P w = .ok P w := fun w => rfl
  simp only [callFunc, Sem.run_bind, hp, Result.andThen_ok, hf, hnum, Bool.false_eq_true, if_false, hb, Option.isNone_none, if_true, h1, h2]
  show (Result.andThen ((g ARGS).run P w) _) = _
  rw [hg]; rfl

theorem ext_run {P : Program} {ρ : Nat → Option Ent} {f : FuncId} {e : Xtn} (he : extOf P f = some e) {args : List AV} {ARGS : List Value} {v : AV} (hv : extA e args = some v) (hr : RelL ρ args ARGS) (w : World) :
    ∃ V, (callFunc f ARGS.toArray).run P w = .ok (.value V) w ∧ Rel ρ v V := by
  unfold extOf at he
  split at he
  · cases he
  · rename_i fn hf
    rw [nth_eq] at hf
    have hf' : P.funcs[f]? = some fn := by simpa using hf
    split at he
    · cases he
    · rename_i hb
      split at he
      · rename_i ho
        split at he
        · rename_i hn
          simp only [Option.some.injEq] at he; subst he
          unfold extA at hv
          split at hv
          · rename_i s c _
            simp only [Option.some.injEq] at hv; subst hv
            simp only [RelL] at hr
            obtain ⟨_, _, hs, ⟨_, _, hc, rfl, rfl⟩, rfl⟩ := hr
            simp only [Rel] at hs hc; subst hs; subst hc
            refine ⟨.int .i64 (idxOf (c.toNat % 256) s 0), ?_, by simp [Rel]⟩
            refine call_ext hf' hb (by rw [hn]; rfl) (next_none _ (by kernel_rfl) hn ho) (find_some _ Extern.BytealgIndexByte.indexByte (by kernel_rfl) (by kernel_rfl) (by kernel_rfl) hn) _ ?_
            have key := idx_find (c.toNat % 256) s 0 (fun i => (ofNats s)[i]! == c.toNat.toUInt8) (fun i h => by
              simp only [Nat.zero_add, ofNats_get s i h]
              show (UInt8.ofNat s[i] == UInt8.ofNat c.toNat) = _
              rw [u8_eq])
            show (do
              let b ← Extern.Bytes.bytesOf (.string (ofNats s))
              let c ← Extern.Bytes.asByte (.int .u8 c)
              match (List.range b.size).find? fun i => b[i]! == c with
              | some i => pure (goInt i)
              | none => pure (goInt (-1)) : Sem Value).run P w = _
            simp only [Extern.Bytes.bytesOf, Extern.Bytes.asByte, Sem.run_bind, Sem.run_pure, Result.andThen_ok, size_ofNats, List.range_eq_range']
            rw [← key]
            split <;> simp [goInt, *]
          · rename_i hh; cases hh
          · cases hv
        · split at he
          · rename_i hn
            simp only [Option.some.injEq] at he; subst he
            unfold extA at hv
            split at hv
            · rename_i hh; cases hh
            · rename_i a b _
              simp only [Option.some.injEq] at hv; subst hv
              simp only [RelL] at hr
              obtain ⟨_, _, ha, ⟨_, _, hb', rfl, rfl⟩, rfl⟩ := hr
              simp only [Rel] at ha hb'; subst ha; subst hb'
              refine ⟨.int .i64 (cmpOf a b), ?_, by simp [Rel]⟩
              refine call_ext hf' hb (by rw [hn]; rfl) (next_none _ (by kernel_rfl) hn ho) (find_some _ Extern.BytealgCompare.compare (by kernel_rfl) (by kernel_rfl) (by kernel_rfl) hn) _ ?_
              have key := cmp_find a b 0 (fun i => (ofNats a)[i]! != (ofNats b)[i]!) (fun i => decide ((ofNats a)[i]! < (ofNats b)[i]!)) (fun i h h' => by
                simp only [Nat.zero_add, ofNats_get a i h, ofNats_get b i h']
                refine ⟨by rw [bne, u8_eq], ?_⟩
                rw [Bool.eq_iff_iff, decide_eq_true_iff, UInt8.lt_iff_toNat_lt]
                simp [Nat.blt]; omega)
              show (do pure (goInt (Extern.BytealgCompare.cmp (← Extern.Bytes.bytesOf (.string (ofNats a))) (← Extern.Bytes.bytesOf (.string (ofNats b))))) : Sem Value).run P w = _
              simp only [Extern.Bytes.bytesOf, Sem.run_bind, Sem.run_pure, Result.andThen_ok]
              rw [← key]
              simp only [Extern.BytealgCompare.cmp, size_ofNats, List.range_eq_range', goInt, decide_eq_true_iff]
              rfl
            · cases hv
          · cases he
      · cases he

theorem arrAt_run {P : Program} {ρ : Nat → Option Ent} {t : TypeId} {x v : AV} {X : Value} (h : arrAtA P t x = some v) (hx : Rel ρ x X) (w : World) : ∃ V, (Instr.arrayAt t X).run P w = .ok V w ∧ Rel ρ v V := by
  unfold arrAtA at h
  split at h
  · rename_i b off len cap
    split at h
    · rename_i n e hu
      split at h
      · rename_i hle
        simp only [Option.some.injEq] at h; subst h
        simp only [Rel] at hx; obtain ⟨en, C, he, _, rfl⟩ := hx
        refine ⟨.pointer (some ⟨en.blk, en.shift + off, none⟩), ?_, by simp only [Rel]; exact ⟨en, he, rfl⟩⟩
        simp [Instr.arrayAt, underlying_run hu, Nat.not_lt.2 hle]
      · cases h
    · cases h
  · cases h

theorem clear_run {P : Program} {ρ : Nat → Option Ent} {h h' : Heap} {w : World} (S : SRel ρ h w) {t : TypeId} {ty : TypeId} {x v : AV} {X : Value}
    (ha : clearA P h t x = some (v, h')) (hx : Rel ρ x X) :
    ∃ ρ' w' V, (Builtin.clear_ [t].toArray ty [X].toArray).run P w = .ok V w' ∧ Rel ρ' v V ∧ SRel ρ' h' w' ∧ Good ρ h w ρ' h' w' := by
  unfold clearA at ha
  split at ha
  · rename_i e hu
    split at ha
    · rename_i n z hn hz
      split at ha
      · cases ha
      · rename_i hc
        have hne : z.cells ≠ [] := by intro q; rw [q] at hc; simp at hc; omega
        split at ha
        · simp only [Rel] at hx; subst hx
          simp only [Option.some.injEq, Prod.mk.injEq] at ha; obtain ⟨rfl, rfl⟩ := ha
          exact ⟨ρ, w, .tuple #[], by simp [Builtin.clear_, underlying_run hu], by simp [Rel, RelL], S, Good.refl _ _ _⟩
        · simp only [Rel] at hx
          simp only [Option.some.injEq, Prod.mk.injEq] at ha; obtain ⟨rfl, rfl⟩ := ha
          rcases hx with ⟨a, C, rfl⟩ | rfl
          · exact ⟨ρ, w, .tuple #[], by simp [Builtin.clear_, underlying_run hu], by simp [Rel, RelL], S, Good.refl _ _ _⟩
          · exact ⟨ρ, w, .tuple #[], by simp [Builtin.clear_, underlying_run hu], by simp [Rel, RelL], S, Good.refl _ _ _⟩
        · rename_i b off len cap
          simp only [Rel] at hx; obtain ⟨en, C, he, _, rfl⟩ := hx
          split at ha
          · rename_i h'' hst
            simp only [Option.some.injEq, Prod.mk.injEq] at ha; obtain ⟨rfl, rfl⟩ := ha
            obtain ⟨Z, hZ, hZr⟩ := zeroOf_run (P := P) ρ hz w
            cases len with
            | zero =>
              simp [repeatL, storeCells] at hst; subst hst
              exact ⟨ρ, w, .tuple #[], by simp [Builtin.clear_, underlying_run hu], by simp [Rel, RelL], S, Good.refl _ _ _⟩
            | succ len =>
              have hrel := repeat_rel (rel_cells hZr) hne (len + 1)
              obtain ⟨w', s1, s2, s3⟩ := storeCells_run (P := P) S hst he hrel
              refine ⟨ρ, w', .tuple #[], ?_, by simp [Rel, RelL], s2, s3⟩
              have s1' : (Go.storeCells ⟨en.blk, en.shift + off, none⟩ (Builtin.zeroCells Z.cells (len + 1)).toList).run P w = .ok () w' := s1
              simp [Builtin.clear_, underlying_run hu, hZ, s1']
          · cases ha
        · cases ha
    · cases ha
  · cases ha

theorem builtin_run {P : Program} {ρ : Nat → Option Ent} {h h' : Heap} {w : World} (S : SRel ρ h w) (hf : h.next < h.lim) {b : Builtin} {ts : List TypeId} {ty : TypeId} {cs : Array Bool} {args : List AV} {ARGS : List Value} {v : AV}
    (ha : builtinA P h b ts args = some (v, h')) (hr : RelL ρ args ARGS) :
    ∃ ρ' w' V, (Go.builtin b ts.toArray ty cs ARGS.toArray).run P w = .ok (.value V) w' ∧ Rel ρ' v V ∧ SRel ρ' h' w' ∧ Good ρ h w ρ' h' w' := by
  unfold builtinA at ha
  split at ha
  · split at ha
    · rename_i t tl x xs
      simp only [RelL] at hr
      obtain ⟨X, R, hx, _, rfl⟩ := hr
      simp only [Option.map_eq_some_iff, Prod.mk.injEq] at ha
      obtain ⟨v', hv, rfl, rfl⟩ := ha
      obtain ⟨V, h1, h2⟩ := len_run (P := P) S (ts := (t :: tl).toArray) (ty := ty) (args := (X :: R).toArray) hv hx (by simp) (by simp)
      exact ⟨ρ, w, V, by simp only [Go.builtin, Sem.run_bind, h1, Result.andThen_ok, Sem.run_pure], h2, S, Good.refl _ _ _⟩
    · cases ha
  · split at ha
    · rename_i t tl x xs
      simp only [RelL] at hr
      obtain ⟨X, R, hx, _, rfl⟩ := hr
      simp only [Option.map_eq_some_iff, Prod.mk.injEq] at ha
      obtain ⟨v', hv, rfl, rfl⟩ := ha
      obtain ⟨V, h1, h2⟩ := cap_run (P := P) (w := w) (ts := (t :: tl).toArray) (ty := ty) (args := (X :: R).toArray) hv hx (by simp) (by simp)
      exact ⟨ρ, w, V, by simp only [Go.builtin, Sem.run_bind, h1, Result.andThen_ok, Sem.run_pure], h2, S, Good.refl _ _ _⟩
    · cases ha
  · obtain ⟨ρ', w', V, h1, h2, h3, h4⟩ := append_run (P := P) S hf (ty := ty) ha hr
    exact ⟨ρ', w', V, by simp only [Go.builtin, Sem.run_bind, h1, Result.andThen_ok, Sem.run_pure], h2, h3, h4⟩
  · obtain ⟨ρ', w', V, h1, h2, h3, h4⟩ := copy_run (P := P) S (ty := ty) ha hr
    exact ⟨ρ', w', V, by simp only [Go.builtin, Sem.run_bind, h1, Result.andThen_ok, Sem.run_pure], h2, h3, h4⟩
  · split at ha
    · rename_i x r
      simp only [RelL] at hr
      obtain ⟨X, R, hx, hr', rfl⟩ := hr
      simp only [Option.map_eq_some_iff, Prod.mk.injEq] at ha
      obtain ⟨v', hv, rfl, rfl⟩ := ha
      obtain ⟨V, h1, h2⟩ := minsA_run (P := P) (w := w) hv hx hr'
      exact ⟨ρ, w, V, by simp only [Go.builtin, Builtin.min_, Sem.run_bind, h1, Result.andThen_ok, Sem.run_pure], h2, S, Good.refl _ _ _⟩
    · cases ha
  · split at ha
    · rename_i x r
      simp only [RelL] at hr
      obtain ⟨X, R, hx, hr', rfl⟩ := hr
      simp only [Option.map_eq_some_iff, Prod.mk.injEq] at ha
      obtain ⟨v', hv, rfl, rfl⟩ := ha
      obtain ⟨V, h1, h2⟩ := maxsA_run (P := P) (w := w) hv hx hr'
      exact ⟨ρ, w, V, by simp only [Go.builtin, Builtin.max_, Sem.run_bind, h1, Result.andThen_ok, Sem.run_pure], h2, S, Good.refl _ _ _⟩
    · cases ha
  · split at ha
    · rename_i t x
      simp only [RelL] at hr
      obtain ⟨X, _, hx, rfl, rfl⟩ := hr
      obtain ⟨ρ', w', V, h1, h2, h3, h4⟩ := clear_run (P := P) S (ty := ty) ha hx
      exact ⟨ρ', w', V, by simp only [Go.builtin, Sem.run_bind, h1, Result.andThen_ok, Sem.run_pure], h2, h3, h4⟩
    · cases ha
  · cases ha

def OpRes (P : Program) (ρ : Nat → Option Ent) (h : Heap) (w : World) (A : Act) (o : Oper) : ORes → Prop
  | .val v h' => ∃ ρ' w' V, (execOp A.eval o).run P w = .ok (.value V) w' ∧ Rel ρ' v V ∧ SRel ρ' h' w' ∧ Good ρ h w ρ' h' w'
  | .skip h' => ∃ ρ' w', (execOp A.eval o).run P w = .ok .skip w' ∧ SRel ρ' h' w' ∧ Good ρ h w ρ' h' w'
  | .enter f args => ∃ vs, RelL ρ args vs ∧ (execOp A.eval o).run P w = (callFunc f vs.toArray).run P w
  | .round b args => ∃ e vs, ρ b = some e ∧ RelL ρ args vs ∧ (execOp A.eval o).run P w = (Instr.yield e.blk vs.toArray).run P w

theorem evalOpt_rel {ρ : Nat → Option Ent} {a : Tmps} {A : Act} (h : FRel DL ρ a A) {x : Option Operand} {v : Option AV} (hx : evalOpt a x = some v) : ORel ρ v (x.map A.eval) := by
  cases x with
  | none => simp [evalOpt] at hx; subst hx; simp [ORel]
  | some x =>
    simp only [evalOpt, Option.map_eq_some_iff] at hx
    obtain ⟨u, hu, rfl⟩ := hx
    exact ⟨_, evalA_rel h hu, rfl⟩

theorem map_toArray {α β : Type} (f : α → β) (xs : Array α) : xs.map f = (xs.toList.map f).toArray := by apply Array.ext'; simp

theorem op_sound {P : Program} {ρ : Nat → Option Ent} {h : Heap} {w : World} {a : Tmps} {A : Act} {o : Oper} {r : ORes} (S : SRel ρ h w) (hf : h.next < h.lim) (F : FRel DL ρ a A)
    (hop : opA P h a o = some r) : OpRes P ρ h w A o r := by
  have same : ∀ {v : AV} {V : Value}, (execOp A.eval o).run P w = .ok (.value V) w → Rel ρ v V → OpRes P ρ h w A o (.val v h) := fun h1 h2 => ⟨ρ, w, _, h1, h2, S, Good.refl _ _ _⟩
  unfold opA at hop
  split at hop
  case h_1 x ho =>
    simp only [Option.map_eq_some_iff] at hop; obtain ⟨v, hv, rfl⟩ := hop
    exact same (by simp [execOp, ho]) (evalA_rel F hv)
  case h_2 x ho =>
    simp only [Option.map_eq_some_iff] at hop; obtain ⟨v, hv, rfl⟩ := hop
    exact same (by simp [execOp, ho]) (evalA_rel F hv)
  case h_3 c x y ho =>
    split at hop
    · rename_i b hc
      simp only [Option.map_eq_some_iff] at hop; obtain ⟨v, hv, rfl⟩ := hop
      have hcb := evalA_rel F hc
      simp only [Rel] at hcb
      cases b
      · exact same (V := A.eval y) (by simp [execOp, ho, hcb, asBool]) (evalA_rel F (by simpa using hv))
      · exact same (V := A.eval x) (by simp [execOp, ho, hcb, asBool]) (evalA_rel F (by simpa using hv))
    · cases hop
  case h_4 t ho =>
    split at hop
    · rename_i z hz
      simp only [Option.some.injEq] at hop; subst hop
      obtain ⟨Z, hz1, hz2⟩ := zeroOf_run (P := P) ρ hz w
      refine ⟨_, _, .pointer (some ⟨w.heap.size, 0, none⟩), ?_, ?_, cells_new (u := t) S hf (rel_cells hz2) false, good_alloc S hf _ _ _⟩
      · simp [execOp, ho, Instr.alloc, hz1, newVar, newRow]
      · simp only [Rel]; exact ⟨_, upd_same _ _ _, by simp⟩
    · cases hop
  case h_5 t x ho =>
    split at hop
    · rename_i v hv
      split at hop
      · simp only [Option.some.injEq] at hop; subst hop
        have hr := evalA_rel F hv
        refine ⟨_, _, .pointer (some ⟨w.heap.size, 0, none⟩), ?_, ?_, cells_new (u := t) S hf (rel_cells hr) false, good_alloc S hf _ _ _⟩
        · simp [execOp, ho, Instr.box, newVar, newRow]
        · simp only [Rel]; exact ⟨_, upd_same _ _ _, by simp⟩
      · cases hop
    · cases hop
  case h_6 t parts ho =>
    split at hop
    · rename_i ps hps
      simp only [Option.map_eq_some_iff] at hop; obtain ⟨v, hv, rfl⟩ := hop
      obtain ⟨V, h1, h2⟩ := build_run (P := P) hv (evalParts_rel F hps) w
      refine same (V := V) ?_ h2
      have : (parts.map fun (x : Nat × Operand) => (x.1, A.eval x.2)) = (parts.toList.map fun p => (p.1, A.eval p.2)).toArray := map_toArray _ _
      simp only [execOp, ho, this, Sem.run_bind, h1, Result.andThen_ok, Sem.run_pure]
    · cases hop
  case h_7 t len parts ho =>
    split at hop
    · rename_i ps hps
      simp only [Option.map_eq_some_iff] at hop; obtain ⟨⟨v, h'⟩, hv, rfl⟩ := hop
      obtain ⟨ρ', w', V, h1, h2, h3, h4⟩ := buildSlice_run (P := P) S hf hv (evalParts_rel F hps)
      have : (parts.map fun (x : Nat × Operand) => (x.1, A.eval x.2)) = (parts.toList.map fun p => (p.1, A.eval p.2)).toArray := map_toArray _ _
      exact ⟨ρ', w', V, by simp only [execOp, ho, this, Sem.run_bind, h1, Result.andThen_ok, Sem.run_pure], h2, h3, h4⟩
    · cases hop
  case h_8 t x ho =>
    split at hop
    · rename_i b off hx
      simp only [Option.map_eq_some_iff] at hop; obtain ⟨v, hv, rfl⟩ := hop
      have hr := evalA_rel F hx
      simp only [Rel] at hr
      obtain ⟨e, he, hr⟩ := hr
      obtain ⟨V, h1, h2⟩ := loadVar_run (P := P) S hv he
      refine same (V := V) ?_ h2
      simp only [execOp, ho, hr, Instr.loadAt, Instr.sureAddr, Sem.run_bind, Sem.run_pure, Result.andThen_ok, h1]
    · cases hop
  case h_9 t x y ho =>
    split at hop
    · rename_i b off v hx hy
      simp only [Option.map_eq_some_iff] at hop; obtain ⟨h', hv, rfl⟩ := hop
      have hr := evalA_rel F hx
      simp only [Rel] at hr
      obtain ⟨e, he, hr⟩ := hr
      obtain ⟨w', h1, h2, h3⟩ := storeVar_run (P := P) S hv he (evalA_rel F hy)
      refine ⟨ρ, w', ?_, h2, h3⟩
      simp only [execOp, ho, hr, Instr.storeAt, Instr.sureAddr, Sem.run_bind, Sem.run_pure, Result.andThen_ok, h1]
    · cases hop
  case h_10 x ho =>
    split at hop
    · rename_i b off hx
      simp only [Option.some.injEq] at hop; subst hop
      have hr := evalA_rel F hx
      refine same (V := A.eval x) ?_ hr
      simp only [Rel] at hr
      obtain ⟨e, he, hr⟩ := hr
      simp [execOp, ho, hr]
    · rename_i f r c hx
      simp only [Option.some.injEq] at hop; subst hop
      have hr := evalA_rel F hx
      refine same (V := A.eval x) ?_ hr
      simp only [Rel] at hr
      obtain ⟨g, xs, ys, hg, _, _, hr⟩ := hr
      have hg : g = .func f := hg
      subst hg
      simp [execOp, ho, hr]
    · rename_i b r c hx
      simp only [Option.some.injEq] at hop; subst hop
      have hr := evalA_rel F hx
      refine same (V := A.eval x) ?_ hr
      simp only [Rel] at hr
      obtain ⟨g, xs, ys, hg, _, _, hr⟩ := hr
      obtain ⟨e, _, rfl⟩ := (show ∃ e, ρ b = some e ∧ g = .yield e.blk from hg)
      simp [execOp, ho, hr]
    · cases hop
  case h_11 op t x y ty ho =>
    split at hop
    · rename_i u v hx hy
      simp only [Option.map_eq_some_iff] at hop; obtain ⟨z, hz, rfl⟩ := hop
      obtain ⟨V, h1, h2⟩ := binA_run (P := P) hz (evalA_rel F hx) (evalA_rel F hy) x y w
      refine same (V := V) ?_ h2
      simp only [execOp, ho, Sem.run_bind, h1, Result.andThen_ok, Sem.run_pure] at h1 ⊢
    · cases hop
  case h_12 op t x ho =>
    split at hop
    · rename_i u hx
      simp only [Option.map_eq_some_iff] at hop; obtain ⟨z, hz, rfl⟩ := hop
      obtain ⟨V, h1, h2⟩ := unA_run (P := P) hz (evalA_rel F hx) w
      exact same (V := V) (by simp only [execOp, ho, Sem.run_bind, h1, Result.andThen_ok, Sem.run_pure]) h2
    · cases hop
  case h_13 s d x ho =>
    split at hop
    · rename_i u hx
      simp only [Option.map_eq_some_iff] at hop; obtain ⟨⟨z, h'⟩, hz, rfl⟩ := hop
      obtain ⟨ρ', w', V, h1, h2, h3, h4⟩ := conv_run (P := P) S hf hz (evalA_rel F hx)
      exact ⟨ρ', w', V, by simp only [execOp, ho, Sem.run_bind, h1, Result.andThen_ok, Sem.run_pure], h2, h3, h4⟩
    · cases hop
  case h_14 t x ho =>
    split at hop
    · cases hop
    · rename_i v d hnot hx hu
      simp only [Option.some.injEq] at hop; subst hop
      refine same (V := .iface t (A.eval x)) ?_ (by simp only [Rel]; exact ⟨_, evalA_rel F hx, rfl⟩)
      simp only [execOp, ho, Instr.makeInterface, Sem.run_bind, underlying_run hu, Result.andThen_ok]
      cases d <;> first | (simp; done) | (exact absurd rfl (hnot _))
    · cases hop
  case h_15 f first cap ho =>
    split at hop
    · cases hop
    · rename_i hny
      split at hop
      · rename_i x y hx hy
        simp only [Option.some.injEq] at hop; subst hop
        refine same (V := .func f (first.map A.eval) (cap.map A.eval)) (by simp [execOp, ho, Instr.makeFunc]) ?_
        simp only [Rel]
        have hfn : FnRel ρ f f := by cases f <;> first | rfl | cases hny
        exact ⟨_, _, _, hfn, evalAs_rel F hx, evalAs_rel F hy, by rw [map_toArray, map_toArray]⟩
      · cases hop
  case h_16 t r ho =>
    have hnew : SRel (upd ρ h.next ⟨w.heap.size, 0, 0⟩) (h.push (.map [] 0)) (w.alloc (.map #[] 0)) := by
      refine S.push hf (fun i x c hx hc hl => ?_) ⟨#[], by show (w.heap.push _)[w.heap.size]? = _; simp, by simp [MRel]⟩
      have := (S.blks i x c hx hc).lt hl
      exact ⟨by show (w.heap.push _)[x.blk]? = _; rw [Array.getElem?_push, if_neg (by omega)], by simp only; omega⟩
    have fin : (execOp A.eval o).run P w = .ok (.value (.map (some w.heap.size))) (w.alloc (.map #[] 0)) → OpRes P ρ h w A o (.val (.map h.next) (h.push (.map [] 0))) := fun hrun =>
      ⟨_, _, _, hrun, by simp only [Rel]; exact ⟨_, upd_same _ _ _, rfl⟩, hnew, good_alloc S hf _ _ _⟩
    split at hop
    · simp only [Option.some.injEq] at hop; subst hop
      exact fin (by simp [execOp, ho, Instr.makeMap])
    · split at hop
      · rename_i x k n q1 q2 hx hu
        simp only [Option.some.injEq] at hop; subst hop
        have hr := evalA_rel F hx
        simp only [Rel] at hr
        exact fin (by simp [execOp, ho, Instr.makeMap, hr, underlying_run hu, asInt, asIntOf])
      · cases hop
  case h_17 t l c ho =>
    split at hop
    · rename_i u v hx hy
      simp only [Option.map_eq_some_iff] at hop; obtain ⟨⟨z, h'⟩, hz, rfl⟩ := hop
      obtain ⟨ρ', w', V, h1, h2, h3, h4⟩ := makeSlice_run (P := P) S hf hz (evalA_rel F hx) (evalA_rel F hy)
      exact ⟨ρ', w', V, by simp only [execOp, ho, Sem.run_bind, h1, Result.andThen_ok, Sem.run_pure], h2, h3, h4⟩
    · cases hop
  case h_18 t x lo hi mx ho =>
    split at hop
    · rename_i u l h2 m hx hl hh hm
      split at hop
      · cases hop
      · rename_i hmx
        simp only [Option.map_eq_some_iff] at hop; obtain ⟨z, hz, rfl⟩ := hop
        obtain ⟨V, k1, k2⟩ := slice_run (P := P) hz (evalA_rel F hx) (evalOpt_rel F hl) (evalOpt_rel F hh) (evalOpt_rel F hm) (by
          intro e1 e2
          cases m with
          | none => exact e1 rfl
          | some _ => subst e2; simp at hmx) w
        exact same (V := V) (by simp only [execOp, ho, Sem.run_bind, k1, Result.andThen_ok, Sem.run_pure]) k2
    · cases hop
  case h_19 t x f ho =>
    split at hop
    · rename_i b off fs hx hu
      split at hop
      · rename_i fd hfd
        split at hop
        · rename_i n hn
          simp only [Option.some.injEq] at hop; subst hop
          have hr := evalA_rel F hx
          simp only [Rel] at hr
          obtain ⟨e, he, hr⟩ := hr
          rw [nth_eq] at hfd
          have hfd' : fs[f]? = some fd := by simpa using hfd
          refine same (V := .pointer (some ⟨e.blk, e.shift + off + fd.offset, none⟩)) ?_ (by simp only [Rel]; exact ⟨e, he, by simp [Nat.add_assoc]⟩)
          simp only [execOp, ho, hr, Instr.fieldAt, Instr.sureAddr, fieldPlace, Sem.run_bind, underlying_run hu, Result.andThen_ok, hfd', Sem.run_pure, sizeOf_run hn, Addr.add_shift, Nat.succ_ne_zero, Sem.run_ite, if_false]
        · cases hop
      · cases hop
    · cases hop
  case h_20 t x f ho =>
    split at hop
    · rename_i cs fs hx hu
      split at hop
      · rename_i fd hfd
        simp only [Option.map_eq_some_iff] at hop; obtain ⟨z, hz, rfl⟩ := hop
        have hr := evalA_rel F hx
        simp only [Rel] at hr
        obtain ⟨CS, hcs, hr⟩ := hr
        obtain ⟨V, h1, h2⟩ := part_run (P := P) hz hcs w
        refine same (V := V) ?_ h2
        rw [nth_eq] at hfd
        have hfd' : fs[f]? = some fd := by simpa using hfd
        simp only [execOp, ho, hr, Instr.field, Sem.run_bind, underlying_run hu, Result.andThen_ok, hfd', asAgg, Sem.run_pure, h1]
      · cases hop
    · cases hop
  case h_21 t x i ho =>
    split at hop
    · rename_i u v hx hy
      simp only [Option.map_eq_some_iff] at hop; obtain ⟨z, hz, rfl⟩ := hop
      obtain ⟨V, h1, h2⟩ := indexAddr_run (P := P) hz (evalA_rel F hx) (evalA_rel F hy) w
      exact same (V := V) (by simp only [execOp, ho, Sem.run_bind, h1, Result.andThen_ok, Sem.run_pure]) h2
    · cases hop
  case h_22 t x i ho =>
    split at hop
    · rename_i u v hx hy
      simp only [Option.map_eq_some_iff] at hop; obtain ⟨z, hz, rfl⟩ := hop
      obtain ⟨V, h1, h2⟩ := index_run (P := P) hz (evalA_rel F hx) (evalA_rel F hy) w
      exact same (V := V) (by simp only [execOp, ho, Sem.run_bind, h1, Result.andThen_ok, Sem.run_pure]) h2
    · cases hop
  case h_23 t x k ok ho =>
    split at hop
    · rename_i u v hx hy
      simp only [Option.map_eq_some_iff] at hop; obtain ⟨z, hz, rfl⟩ := hop
      obtain ⟨V, h1, h2⟩ := lookup_run (P := P) S hz (evalA_rel F hx) (evalA_rel F hy)
      exact same (V := V) (by simp only [execOp, ho, Sem.run_bind, h1, Result.andThen_ok, Sem.run_pure]) h2
    · cases hop
  case h_24 t m k x ho =>
    split at hop
    · rename_i u v z hx hy hz
      simp only [Option.map_eq_some_iff] at hop; obtain ⟨h', hq, rfl⟩ := hop
      obtain ⟨w', h1, h2, h3⟩ := mapUpdate_run (P := P) S hq (evalA_rel F hx) (evalA_rel F hy) (evalA_rel F hz)
      exact ⟨ρ, w', by simp only [execOp, ho, Sem.run_bind, h1, Result.andThen_ok, Sem.run_pure], h2, h3⟩
    · cases hop
  case h_25 t m k x ho =>
    split at hop
    · rename_i u v z hx hy hz
      simp only [Option.map_eq_some_iff] at hop; obtain ⟨h', hq, rfl⟩ := hop
      obtain ⟨w', h1, h2, h3⟩ := mapUpdate_run (P := P) S hq (evalA_rel F hx) (evalA_rel F hy) (evalA_rel F hz)
      exact ⟨ρ, w', by simp only [execOp, ho, Sem.run_bind, h1, Result.andThen_ok, Sem.run_pure], h2, h3⟩
    · cases hop
  case h_26 t i ho =>
    split at hop
    · rename_i vs hx
      split at hop
      · rename_i v hv
        simp only [Option.some.injEq] at hop; subst hop
        have hr := evalA_rel F hx
        simp only [Rel] at hr
        obtain ⟨VS, hvs, hr⟩ := hr
        rw [nth_eq] at hv
        obtain ⟨V, h1, h2⟩ := hvs.nth hv
        refine same (V := V) ?_ h2
        have h1' : VS.toArray[i]? = some V := by simpa using h1
        simp only [execOp, ho, hr, Instr.extract, h1', Sem.run_bind, Sem.run_pure, Result.andThen_ok]
      · cases hop
    · cases hop
  case h_27 c ho =>
    split at hop
    · cases hop
    · rename_i args hargs
      have hra := evalAs_rel F hargs
      split at hop
      · rename_i b hb
        simp only [Option.map_eq_some_iff] at hop; obtain ⟨⟨z, h'⟩, hz, rfl⟩ := hop
        obtain ⟨ρ', w', V, h1, h2, h3, h4⟩ := builtin_run (P := P) S hf (ty := o.type) (cs := c.args.map fun | .const _ => true | _ => false) hz hra
        refine ⟨ρ', w', V, ?_, h2, h3, h4⟩
        rw [← h1]
        simp only [execOp, ho, resolve, hb, Sem.run_bind, Sem.run_pure, Result.andThen_ok, invoke, Array.toArray_toList]
        rw [map_toArray A.eval]
        rfl
      · rename_i fo hb
        split at hop
        · rename_i ex hex
          simp only [Option.map_eq_some_iff] at hop; obtain ⟨v, hv, rfl⟩ := hop
          unfold staticExt at hex
          split at hex
          · rename_i f
            obtain ⟨V, h1, h2⟩ := ext_run hex hv hra w
            refine ⟨ρ, w, V, ?_, h2, S, Good.refl _ _ _⟩
            rw [← h1]
            simp only [execOp, ho, resolve, hb, Act.eval, Deferred.ofValue, Sem.run_bind, Sem.run_pure, Result.andThen_ok, invoke]
            rw [map_toArray A.eval]
            simp
          · cases hex
        · split at hop
          · rename_i f first cap hfo
            simp only [Option.some.injEq] at hop; subst hop
            have hr := evalA_rel F hfo
            simp only [Rel] at hr
            obtain ⟨g, xs, ys, hg, hxs, hys, hr⟩ := hr
            have hg : g = .func f := hg
            subst hg
            refine ⟨xs ++ c.args.toList.map A.eval ++ ys, (hxs.append hra).append hys, ?_⟩
            simp only [execOp, ho, resolve, hb, hr, Deferred.ofValue, Sem.run_bind, Sem.run_pure, Result.andThen_ok, invoke]
            rw [map_toArray A.eval]
            simp
          · rename_i b hfo
            simp only [Option.some.injEq] at hop; subst hop
            have hr := evalA_rel F hfo
            simp only [Rel] at hr
            obtain ⟨g, xs, ys, hg, hxs, hys, hr⟩ := hr
            obtain ⟨e, he, rfl⟩ := (show ∃ e, ρ b = some e ∧ g = .yield e.blk from hg)
            simp only [RelL] at hxs hys
            subst hxs; subst hys
            refine ⟨e, c.args.toList.map A.eval, he, hra, ?_⟩
            simp only [execOp, ho, resolve, hb, hr, Deferred.ofValue, Sem.run_bind, Sem.run_pure, Result.andThen_ok, invoke]
            rw [map_toArray A.eval]
            simp
          · cases hop
      · cases hop
  case h_28 t x ho =>
    split at hop
    · rename_i v hx
      simp only [Option.map_eq_some_iff] at hop; obtain ⟨z, hz, rfl⟩ := hop
      obtain ⟨V, h1, h2⟩ := arrAt_run (P := P) hz (evalA_rel F hx) w
      exact same (V := V) (by simp only [execOp, ho, Sem.run_bind, h1, Result.andThen_ok, Sem.run_pure]) h2
    · cases hop
  case h_29 => cases hop
end Go.Sx

namespace Go.Sx
variable {DL : List Deferred}

def exitOf : Ex → Exit
  | .normal => .normal
  | .exit id => .exit id
  | .ret => .ret
  | .goto l => .goto l

/-- frames outside of rounds, and those of a loop's rounds -/
def RF (r : Option Nat) : Fence := { Fence.wide with round := r }

def markOf (D : Nat) : Deferred := { target := .collected D, args := #[] }

/-- the marks that a frame's loops left among its deferred calls: blocks of their own, laid since the frame began, that nothing else holds -/
def Marks (lo : Nat) (DL : List Deferred) (ρ : Nat → Option Ent) (h : Heap) (w : World) : Prop :=
  lo ≤ w.heap.size ∧ ∃ Ds : List Nat, DL = Ds.map markOf ∧ Ds.Nodup ∧ ∀ D, D ∈ Ds → lo ≤ D ∧ w.heap[D]? = some (.deferred (some [])) ∧
    ∀ (i : Nat) (e : Ent) (b : Blk), ρ i = some e → h.t.get i = some b → b.solid = true → e.blk ≠ D

theorem Marks.none {ρ : Nat → Option Ent} {h : Heap} {w : World} {lo : Nat} (hl : lo ≤ w.heap.size) : Marks lo [] ρ h w := ⟨hl, [], rfl, List.nodup_nil, fun D hD => by cases hD⟩

theorem heap_lt {w : World} {k : Nat} {o : Obj} (h : w.heap[k]? = some o) : k < w.heap.size := by
  rcases Nat.lt_or_ge k w.heap.size with h' | h'
  · exact h'
  · simp [Array.getElem?_eq_none h'] at h

theorem Marks.good {ρ ρ' : Nat → Option Ent} {h h' : Heap} {w w' : World} {lo : Nat} (M : Marks lo DL ρ h w) (G : Good ρ h w ρ' h' w') : Marks lo DL ρ' h' w' := by
  obtain ⟨hl, Ds, h1, h2, h3⟩ := M
  refine ⟨Nat.le_trans hl G.size, Ds, h1, h2, fun D hD => ?_⟩
  obtain ⟨k1, k2, k3⟩ := h3 D hD
  have hlt := heap_lt k2
  refine ⟨k1, by rw [G.keep D hlt (fun i e b q1 q2 q3 => k3 i e b q1 q2 (Blk.solid_of q3))]; exact k2, fun i e b he hb hlb => ?_⟩
  rcases G.imgS i e b he hb hlb with ⟨i0, e0, b0, q1, q2, q3, _, q4⟩ | q
  · rw [← q4]; exact k3 i0 e0 b0 q1 q2 q3
  · omega

def SelfOk (P : Program) (self : Code → Tmps → Heap → Res) : Prop :=
  ∀ (r : Option Nat) (c : Code) (a : Tmps) (h : Heap) (ex : Ex) (a' : Tmps) (h' : Heap), self c a h = .ok (ex, a', h') → (r = none ∨ noRange c = true) →
    ∀ (lo : Nat) (DL : List Deferred) (ρ : Nat → Option Ent) (w : World) (A : Act), SRel ρ h w → FRel DL ρ a A → Marks lo DL ρ h w →
    ∀ Q : Exit → Act → World → Prop, (∀ DL' ρ' w' A', SRel ρ' h' w' → Good ρ h w ρ' h' w' → FRel DL' ρ' a' A' → Marks lo DL' ρ' h' w' → Q (exitOf ex) A' w') → c.wpIn (RF r) 0 P Q A w

def okProg (P : Program) : Bool := P.funcs.toList.all fun f => f.name != "runtime.NumGoroutine"

theorem callFunc_run {P : Program} (hP : okProg P = true) {f : FuncId} {fn : Func} {body : Code} (hf : P.funcs[f]? = some fn) (hb : fn.body = some body) (args : Array Value) (w : World) :
    (callFunc f args).run P w = .ok (.enter f args) w := by
  have hn : (fn.name == "runtime.NumGoroutine") = false := by
    have := List.all_eq_true.1 hP fn (by
      have h2 : P.funcs.toList[f]? = some fn := by simpa using hf
      exact List.mem_of_getElem? h2)
    simpa [bne] using this
  have hn' : ¬ fn.name = "runtime.NumGoroutine" := by simpa using hn
  simp [callFunc, hf, hn', hb]

theorem enterT_get : ∀ (vs : List AV) (i : Nat) (t : T AV) (j : Nat), (enterT i vs t).get j = if i ≤ j ∧ j < i + vs.length then vs[j - i]? else t.get j
  | [], i, t, j => by
    simp only [enterT]; rw [if_neg (fun x => by have := x.1; have := x.2; simp at this; omega)]
  | v :: vs, i, t, j => by
    simp only [enterT]
    rw [enterT_get vs (i + 1) _ j, T.get_put _ _ _ _ _ (Nat.lt_succ_self i)]
    by_cases h1 : j = i
    · subst h1; rw [if_neg (by omega), if_pos rfl, if_pos (by simp)]; simp
    · by_cases h2 : i + 1 ≤ j ∧ j < i + 1 + vs.length
      · rw [if_pos h2, if_pos (by simp; omega), show j - i = (j - (i + 1)) + 1 from by omega]; simp
      · rw [if_neg h2, if_neg h1, if_neg (by simp; omega)]

theorem frame_enter {ρ : Nat → Option Ent} {args : List AV} {ARGS : List Value} (G : Globs ρ) (h : RelL ρ args ARGS) (n : Nat) :
    FRel [] ρ { n := args.length + (n - args.length), dflt := true, t := enterT 0 args .leaf } { tmps := ARGS.toArray ++ Array.replicate (n - ARGS.toArray.size) undef, defers := [] } := by
  have hl := h.length
  refine ⟨fun t v hv => ?_, by simp [hl], rfl, G⟩
  simp only [Tmps.get, enterT_get, Nat.zero_le, true_and, Nat.zero_add, Nat.sub_zero] at hv
  by_cases ht : t < args.length
  · rw [if_pos ht] at hv
    have hx : args[t]? = some args[t] := by simp [ht]
    rw [hx] at hv
    simp only [Option.some.injEq] at hv; subst hv
    obtain ⟨y, hy, hr⟩ := h.nth hx
    have : (ARGS.toArray ++ Array.replicate (n - ARGS.toArray.size) undef).getD t undef = y := by
      rw [Array.getD_eq_getD_getElem?, Array.getElem?_append_left (by simp; omega)]
      simp [hy]
    rw [this]; exact hr
  · rw [if_neg ht] at hv
    simp only [T.get, Option.some.injEq] at hv; subst hv
    have : (ARGS.toArray ++ Array.replicate (n - ARGS.toArray.size) undef).getD t undef = undef := by
      rw [Array.getD_eq_getD_getElem?, Array.getElem?_append_right (by simp; omega)]
      rw [Array.getElem?_replicate]; split <;> rfl
    rw [this]
    exact rel_undef ρ

theorem asAddr_ptr (a : Addr) : asAddr (.pointer (some a)) = pure a := rfl

theorem resultA_run {P : Program} {ρ : Nat → Option Ent} {h : Heap} {w : World} {a : Tmps} {A : Act} (S : SRel ρ h w) (F : FRel DL ρ a A) : ∀ {rs : List ResultVar} {vs : List AV}, resultA P h a rs = some vs →
    ∃ VS, (rs.mapM (fun
      | .tmp t => pure (A.tmps.getD t undef)
      | .cell x t => do Go.loadVar t (← asAddr (A.tmps.getD x undef)) : ResultVar → Sem Value)).run P w = .ok VS w ∧ RelL ρ vs VS
  | [], vs, hr => by simp [resultA] at hr; subst hr; exact ⟨[], by simp, by simp [RelL]⟩
  | .tmp t :: rs, vs, hr => by
    simp only [resultA] at hr
    split at hr
    · rename_i v us hv hu
      simp only [Option.some.injEq] at hr; subst hr
      obtain ⟨VS, h1, h2⟩ := resultA_run S F hu
      exact ⟨A.tmps.getD t undef :: VS, by simp only [List.mapM_cons, Sem.run_bind, Sem.run_pure, Result.andThen_ok, h1], by simp only [RelL]; exact ⟨_, _, F.slot t _ hv, h2, rfl⟩⟩
    · cases hr
  | .cell t ty :: rs, vs, hr => by
    simp only [resultA] at hr
    split at hr
    · rename_i b off hp
      split at hr
      · rename_i v us hv hu
        simp only [Option.some.injEq] at hr; subst hr
        have hs := F.slot t _ hp
        simp only [Rel] at hs
        obtain ⟨e, he, hs⟩ := hs
        obtain ⟨V, k1, k2⟩ := loadVar_run (P := P) S hv he
        obtain ⟨VS, h1, h2⟩ := resultA_run S F hu
        exact ⟨V :: VS, by simp only [List.mapM_cons, Sem.run_bind, hs, asAddr_ptr, Sem.run_pure, Result.andThen_ok, h1, k1], by simp only [RelL]; exact ⟨_, _, k2, h2, rfl⟩⟩
      · cases hr
    · cases hr

theorem resultsA_run {P : Program} {ρ : Nat → Option Ent} {h : Heap} {w : World} {a : Tmps} {A : Act} {fn : Func} {v : AV} (S : SRel ρ h w) (F : FRel DL ρ a A) (hr : resultsA P fn h a = some v) :
    ∃ V, (results fn A.tmps).run P w = .ok V w ∧ Rel ρ v V := by
  unfold resultsA at hr
  have key : ∀ {vs : List AV}, resultA P h a fn.results.toList = some vs → ∃ VS, RelL ρ vs VS ∧ (results fn A.tmps).run P w = .ok (if h : VS.toArray.size = 1 then VS.toArray[0] else .tuple VS.toArray) w := by
    intro vs hvs
    obtain ⟨VS, h1, h2⟩ := resultA_run S F hvs
    refine ⟨VS, h2, ?_⟩
    unfold results
    rw [Array.mapM_eq_mapM_toList]
    simp only [Sem.run_bind, Sem.run_map, Sem.run_pure]
    erw [h1]
    rfl
  split at hr
  · rename_i x hx
    simp only [Option.some.injEq] at hr; subst hr
    obtain ⟨VS, h1, h2⟩ := key hx
    simp only [RelL] at h1
    obtain ⟨V, _, k1, rfl, rfl⟩ := h1
    exact ⟨V, by rw [h2]; simp, k1⟩
  · rename_i vs hne hx
    simp only [Option.some.injEq] at hr; subst hr
    obtain ⟨VS, h1, h2⟩ := key hx
    refine ⟨.tuple VS.toArray, ?_, by simp only [Rel]; exact ⟨VS, h1, rfl⟩⟩
    rw [h2]
    have hl := h1.length
    have : ¬ VS.toArray.size = 1 := by
      intro e
      simp at e
      rw [e] at hl
      obtain ⟨x, rfl⟩ := List.length_eq_one_iff.1 hl.symm
      exact hne _ rfl
    rw [dif_neg this]
  · cases hr

theorem get_bool {ρ : Nat → Option Ent} {a : Tmps} {A : Act} (F : FRel DL ρ a A) {d : Nat} {b : Bool} (h : a.get d = some (.bool b)) : A.tmps[d]? = some (.bool b) := by
  have hs := F.slot d _ h
  simp only [Rel, Array.getD_eq_getD_getElem?] at hs
  cases hq : A.tmps[d]? with
  | none => rw [hq] at hs; simp [undef] at hs
  | some v => rw [hq] at hs; simp at hs; rw [hs]

theorem get_nobool {ρ : Nat → Option Ent} {a : Tmps} {A : Act} (F : FRel DL ρ a A) {d : Nat} {v : AV} (h : a.get d = some v) (hv : ∀ b, v ≠ .bool b) (b : Bool) : A.tmps[d]? ≠ some (.bool b) := by
  intro hq
  have hs := F.slot d _ h
  simp only [Array.getD_eq_getD_getElem?, hq, Option.getD_some] at hs
  cases v <;> simp only [Rel] at hs <;> first
    | (exact absurd rfl (hv _))
    | (cases hs; done)
    | (rcases hs with ⟨_, _, hs⟩ | hs <;> cases hs; done)
    | (obtain ⟨_, _, hs⟩ := hs; cases hs; done)
    | (obtain ⟨_, _, _, _, hs⟩ := hs; cases hs; done)
    | (obtain ⟨_, _, _, _, _, _, hs⟩ := hs; cases hs; done)

theorem wanted_eq {ρ : Nat → Option Ent} {a : Tmps} {A : Act} (F : FRel DL ρ a A) (ops : Array Oper) (o : Oper) {b : Bool} (h : wantedA ops o a = some b) : Region.wanted o (yielded ops A.tmps) = b := by
  unfold wantedA at h
  unfold Region.wanted
  split at h
  · rename_i hg; rw [hg]; simp only [Option.some.injEq] at h; exact h
  · rename_i j want hg
    rw [hg]
    rw [nth_eq] at h
    simp only [yielded]
    split at h
    · rename_i ho
      have ho' : ops[j]? = none := by simpa using ho
      simp only [Option.some.injEq] at h; subst h
      simp [ho']
    · rename_i q ho
      have ho' : ops[j]? = some q := by simpa using ho
      simp only [ho', Option.bind_some]
      split at h
      · rename_i hd
        simp only [Option.some.injEq] at h; subst h
        simp [hd]
      · rename_i d hd
        simp only [hd, Option.bind_some]
        split at h
        · rename_i c hc
          simp only [Option.some.injEq] at h; subst h
          rw [get_bool F hc]; simp
        · rename_i v hv hc
          simp only [Option.some.injEq] at h; subst h
          have hn := get_nobool F hc (fun c hcc => hv c hcc)
          cases ht : A.tmps[d]? with
          | none => simp
          | some u =>
            cases u with
            | bool c => exact absurd ht (hn c)
            | _ => simp
        · cases h
end Go.Sx

namespace Go.Sx
open Go.RowKit (Below)
variable {DL : List Deferred}

def CallRes (ρ : Nat → Option Ent) (h : Heap) (w : World) (v : AV) (h' : Heap) : Ending → World → Prop := fun e w' => ∃ V ρ', e = .returned V ∧ Rel ρ' v V ∧ SRel ρ' h' w' ∧ Good ρ h w ρ' h' w'

/-- a block of its own that nothing holds may turn -/
theorem SRel.aside {ρ : Nat → Option Ent} {h : Heap} {w : World} (S : SRel ρ h w) {D : Nat} {o : Obj} (hD : ∀ (i : Nat) (e : Ent) (b : Blk), ρ i = some e → h.t.get i = some b → b.solid = true → e.blk ≠ D) :
    SRel ρ h (w.putObj D o) :=
  ⟨S.dom, S.free, fun i e b he hb => (S.blks i e b he hb).mono (Ext.refl _) (fun hl => World.putObj_heap_other (hD i e b he hb hl)), S.inj⟩

theorem Good.aside {ρ ρ' : Nat → Option Ent} {h h' : Heap} {w w' : World} (S : SRel ρ h w) (G : Good ρ h w ρ' h' w') {D : Nat} {o : Obj} (hD : w.heap.size ≤ D) : Good ρ h w ρ' h' (w'.putObj D o) := by
  refine ⟨G.ext, G.os, G.tape, G.output, by simpa using G.size, fun k hk hno => ?_, G.imgS, G.nexts, G.lims, G.bound, G.wrs, G.same, G.stays, G.newb, G.newr, fun i e b he hb hl hn hle hr => ?_⟩
  · rw [World.putObj_heap_other (by omega)]; exact G.keep k hk hno
  · have := (S.blks i e b he hb).lt (Blk.solid_of hl)
    rw [World.putObj_heap_other (by omega)]; exact G.unw i e b he hb hl hn hle hr

/-- a frame that leaves takes its marks -/
theorem leaves_ok {P : Program} {ρ ρ' : Nat → Option Ent} {h h' : Heap} {w : World} {a : Tmps} {A : Act} {fn : Func} {v : AV} (S : SRel ρ h w) (F : FRel DL ρ' a A) (hu : resultsA P fn h' a = some v) :
    ∀ (Ds : List Nat) (w' : World), SRel ρ' h' w' → Good ρ h w ρ' h' w' → Ds.Nodup → (∀ D, D ∈ Ds → w.heap.size ≤ D ∧ w'.heap[D]? = some (.deferred (some [])) ∧
      ∀ (i : Nat) (e : Ent) (b : Blk), ρ' i = some e → h'.t.get i = some b → b.solid = true → e.blk ≠ D) →
      LeavesInM (RF none) 0 P fn A.tmps (CallRes ρ h w v h') (Ds.map markOf) .returning w'
  | [], w', S', G, _, _ => by
    obtain ⟨V, k1, k2⟩ := resultsA_run S' F hu
    exact ⟨V, k1, V, ρ', rfl, k2, S', G⟩
  | D :: Ds, w', S', G, hn, hD => by
    obtain ⟨k1, k2, k3⟩ := hD D (List.mem_cons_self)
    have hnd := List.nodup_cons.1 hn
    refine ⟨by simp, .inl ⟨D, w'.putObj D (.deferred none), rfl, run_takeDeferred k2, ?_⟩⟩
    refine leaves_ok S F hu Ds _ (S'.aside k3) (G.aside S k1) hnd.2 (fun E hE => ?_)
    obtain ⟨q1, q2, q3⟩ := hD E (List.mem_cons_of_mem _ hE)
    exact ⟨q1, by rw [World.putObj_heap_other (fun q => hnd.1 (by rw [← q]; exact hE))]; exact q2, q3⟩

theorem callF_sound {P : Program} {self : Code → Tmps → Heap → Res} (hself : SelfOk P self) {f : FuncId} {args : List AV} {ARGS : List Value} {h h' : Heap} {v : AV} {ρ : Nat → Option Ent} {w : World}
    (hc : callF P self f args h = .ok (v, h')) (S : SRel ρ h w) (GL : Globs ρ) (ha : RelL ρ args ARGS) : ∃ fn body, P.funcs[f]? = some fn ∧ fn.body = some body ∧ CallsIn (RF none) 0 P f ARGS.toArray w (CallRes ρ h w v h') := by
  unfold callF at hc
  split at hc
  · cases hc
  · rename_i fn hf
    rw [nth_eq] at hf
    have hf' : P.funcs[f]? = some fn := by simpa using hf
    split at hc
    · cases hc
    · rename_i body hb
      refine ⟨fn, body, hf', hb, callsIn_of_wp_marks hf' hb trivial ?_⟩
      have F := frame_enter GL ha fn.ntmps
      have M : Marks w.heap.size [] ρ h w := Marks.none (Nat.le_refl _)
      have fin : ∀ {DL' ρ' w' A' a1}, SRel ρ' h' w' → Good ρ h w ρ' h' w' → FRel DL' ρ' a1 A' → Marks w.heap.size DL' ρ' h' w' → resultsA P fn h' a1 = some v →
          LeavesInM (RF none) 0 P fn A'.tmps (CallRes ρ h w v h') A'.defers .returning w' := by
        intro DL' ρ' w' A' a1 S' G' F' M' hu
        obtain ⟨_, Ds, rfl, hn, hD⟩ := M'
        rw [F'.defers]
        exact leaves_ok S F' hu Ds w' S' G' hn hD
      split at hc
      · rename_i a1 h1 hrun
        split at hc
        · rename_i u hu
          simp only [R.ok.injEq, Prod.mk.injEq] at hc; obtain ⟨rfl, rfl⟩ := hc
          exact hself none _ _ _ _ _ _ hrun (.inl rfl) _ _ ρ w _ S F M _ (fun DL' ρ' w' A' S' G' F' M' => fin S' G' F' M' hu)
        · cases hc
      · rename_i a1 h1 hrun
        split at hc
        · rename_i u hu
          simp only [R.ok.injEq, Prod.mk.injEq] at hc; obtain ⟨rfl, rfl⟩ := hc
          exact hself none _ _ _ _ _ _ hrun (.inl rfl) _ _ ρ w _ S F M _ (fun DL' ρ' w' A' S' G' F' M' => fin S' G' F' M' hu)
        · cases hc
      · cases hc
      · cases hc

/-! ### A round of a range over a function -/

theorem setParams_rel {ρ : Nat → Option Ent} : ∀ {ps : List Nat} {args : List AV} {ARGS : List Value} {a : Tmps} {A : Act}, FRel DL ρ a A → RelL ρ args ARGS → args.length = ps.length →
    FRel DL ρ (setParams a ps args) { tmps := (ps.zip ARGS).foldl (fun t x => t.setIfInBounds x.1 x.2) A.tmps, defers := A.defers }
  | [], args, ARGS, a, A, F, ha, hl => by
    have : args = [] := List.length_eq_zero_iff.1 (by simpa using hl)
    subst this
    exact F
  | p :: ps, [], ARGS, a, A, F, ha, hl => by simp at hl
  | p :: ps, v :: vs, ARGS, a, A, F, ha, hl => by
    simp only [RelL] at ha
    obtain ⟨V, VS, h1, h2, rfl⟩ := ha
    simp only [setParams]
    exact setParams_rel (a := put a (some p) v) (A := A.put (some p) V) (F.put h1 (some p)) h2 (by simpa using hl)

theorem zip_fold (ps : Array Nat) (VS : List Value) (t0 : Array Value) :
    (ps.zip VS.toArray).foldl (fun t (p, v) => t.setIfInBounds p v) t0 = (ps.toList.zip VS).foldl (fun t x => t.setIfInBounds x.1 x.2) t0 := by
  rw [← Array.foldl_toList, Array.toList_zip]

theorem loop_put {ρ : Nat → Option Ent} {h : Heap} {w : World} (S : SRel ρ h w) {b : Nat} {e : Ent} {ps : List Nat} {asg body : Code} {a : Tmps} {st st' : Option (Option Ex)} {r : Loop}
    (hb : h.get b = some (.loop ps asg body a st)) (he : ρ b = some e) (hr : w.heap[e.blk]? = some (.loop r)) (hrel : r.params.toList = ps ∧ r.assign = asg ∧ r.body = body ∧ (∀ (t : Nat) (v : AV), a.get t = some v → Rel ρ v (r.tmps.getD t undef)) ∧ a.n = r.tmps.size)
    {r' : Loop} (hr' : r'.params = r.params ∧ r'.assign = r.assign ∧ r'.body = r.body ∧ r'.tmps = r.tmps) (hst : LoopSt st' r') :
    SRel ρ (h.set b (.loop ps asg body a st')) (w.putObj e.blk (.loop r')) ∧ Good ρ h w ρ (h.set b (.loop ps asg body a st')) (w.putObj e.blk (.loop r')) := by
  have hlt := heap_lt hr
  have hw : ∀ k, k ≠ e.blk → (w.putObj e.blk (.loop r')).heap[k]? = w.heap[k]? := fun k hk => World.putObj_heap_other hk
  obtain ⟨q1, q2, q3, q4, q5⟩ := hrel
  obtain ⟨p1, p2, p3, p4⟩ := hr'
  refine ⟨S.set hb he rfl hw ?_, Good.set S hb he rfl hw (by simp) rfl rfl rfl⟩
  exact ⟨r', World.putObj_heap_same hlt, by rw [p1]; exact q1, by rw [p2]; exact q2, by rw [p3]; exact q3, fun t v hv => by rw [p4]; exact q4 t v hv, by rw [p4]; exact q5, hst⟩

/-- the block of a loop dies -/
theorem loop_dead {ρ : Nat → Option Ent} {h : Heap} {w : World} (S : SRel ρ h w) {b : Nat} {e : Ent} {ps : List Nat} {asg body : Code} {a : Tmps} {st : Option (Option Ex)} {o : Obj}
    (hb : h.get b = some (.loop ps asg body a st)) (he : ρ b = some e) :
    SRel ρ (h.set b .dead) (w.putObj e.blk o) ∧ Good ρ h w ρ (h.set b .dead) (w.putObj e.blk o) :=
  have hw : ∀ k, k ≠ e.blk → (w.putObj e.blk o).heap[k]? = w.heap[k]? := fun k hk => World.putObj_heap_other hk
  ⟨S.set hb he rfl hw trivial, Good.set S hb he rfl hw (by simp) rfl rfl rfl⟩

theorem round_sound {P : Program} {self : Code → Tmps → Heap → Res} (hself : SelfOk P self) {b : Nat} {args : List AV} {ARGS : List Value} {h h' : Heap} {v : AV} {ρ : Nat → Option Ent} {w : World} {e : Ent}
    (hc : roundF self b args h = .ok (v, h')) (S : SRel ρ h w) (GL : Globs ρ) (he : ρ b = some e) (ha : RelL ρ args ARGS) :
    ∃ r : Loop, w.heap[e.blk]? = some (.loop r) ∧ ARGS.toArray.size = r.params.size ∧
      RoundIn (RF none) 0 P e.blk r.fn ((r.params.zip ARGS.toArray).foldl (fun t (p, v) => t.setIfInBounds p v) r.tmps) r.assign r.body w (CallRes ρ h w v h') := by
  unfold roundF at hc
  split at hc
  · rename_i ps asg body a hb
    split at hc
    · cases hc
    · rename_i hcond
      simp only [Bool.and_eq_true] at hcond
      obtain ⟨⟨c1, c2⟩, c3⟩ := hcond
      have c1 := Nat.eq_of_beq_eq_true c1
      obtain ⟨r, r1, r2, r3, r4, r5, r6, r7⟩ := S.blks b e _ he hb
      have hsz : ARGS.toArray.size = r.params.size := by
        have := ha.length
        have h2 : r.params.toList.length = ps.length := by rw [r2]
        simp at h2 ⊢; omega
      refine ⟨r, r1, hsz, ?_⟩
      subst r2; subst r3; subst r4
      refine roundIn_of_wpIn trivial ?_
      have F0 : FRel [] ρ a { tmps := r.tmps, defers := [] } := ⟨r5, r6, rfl, GL⟩
      have F1 := setParams_rel F0 ha c1
      have M0 : Marks w.heap.size [] ρ h w := Marks.none (Nat.le_refl _)
      split at hc
      · rename_i a1 h1 hrun1
        split at hc
        · rename_i ps1 asg1 body1 t1 hb1
          split at hc
          · rename_i ex a2 h2 hrun2
            have key := hself (some e.blk) _ _ _ _ _ _ hrun1 (.inr c2) _ _ ρ w _ S F1 M0
              (Exit.then (fun a₁ w₁ => ∃ w₂, (Instr.beginRound e.blk).run P w₁ = .ok () w₂ ∧ r.body.wpIn ((RF none).inRound e.blk) 0 P (roundPost P e.blk (CallRes ρ h w v h')) a₁ w₂) (fun _ _ _ => False)) ?_
            · rw [zip_fold]; exact key
            intro DL1 ρ1 w1 A1 S1 G1 F1' M1
            have he1 := G1.ext b e he
            obtain ⟨q, q1, q2, q3, q4, q5, q6, q7⟩ := S1.blks b e _ he1 hb1
            have st1 := loop_put (st' := some none) (r' := { q with state := .busy }) S1 hb1 he1 q1 ⟨q2, q3, q4, q5, q6⟩ ⟨rfl, rfl, rfl, rfl⟩ rfl
            refine ⟨_, run_beginRound q1 q7.1, ?_⟩
            refine hself (some e.blk) _ _ _ _ _ _ hrun2 (.inr c3) w.heap.size DL1 ρ1 _ _ st1.1 F1' (M1.good st1.2) _ (fun DL2 ρ2 w2 A2 S2 G2 F2 M2 => ?_)
            have he2 := G2.ext b e he1
            split at hc
            · rename_i ps2 asg2 body2 t2 hb2
              obtain ⟨u, u1, u2, u3, u4, u5, u6, u7⟩ := S2.blks b e _ he2 hb2
              have G12 := G1.trans (st1.2.trans G2)
              split at hc
              · simp only [R.ok.injEq, Prod.mk.injEq] at hc; obtain ⟨rfl, rfl⟩ := hc
                have st2 := loop_put (st' := none) (r' := { u with state := .ready, pending := none }) S2 hb2 he2 u1 ⟨u2, u3, u4, u5, u6⟩ ⟨rfl, rfl, rfl, rfl⟩ ⟨rfl, rfl⟩
                exact ⟨_, _, run_endRound none u1, _, ρ2, rfl, rfl, st2.1, G12.trans st2.2⟩
              · rename_i hex
                simp only [R.ok.injEq, Prod.mk.injEq] at hc; obtain ⟨rfl, rfl⟩ := hc
                have st2 := loop_put (st' := some (some ex)) (r' := { u with state := .done, pending := some (codeOfEx ex) }) S2 hb2 he2 u1 ⟨u2, u3, u4, u5, u6⟩ ⟨rfl, rfl, rfl, rfl⟩ ⟨rfl, rfl⟩
                cases ex with
                | normal => exact absurd rfl hex
                | exit id => exact ⟨_, _, run_endRound (some (.exit id)) u1, _, ρ2, rfl, rfl, st2.1, G12.trans st2.2⟩
                | ret => exact ⟨_, _, run_endRound (some .ret) u1, _, ρ2, rfl, rfl, st2.1, G12.trans st2.2⟩
                | goto l => exact ⟨_, _, run_endRound (some (.goto l)) u1, _, ρ2, rfl, rfl, st2.1, G12.trans st2.2⟩
            · cases hc
          · cases hc
        · cases hc
      · cases hc
      · cases hc
  · cases hc

theorem semAt_ok {P : Program} {h : Heap} {a : Tmps} {o : Oper} {r : ORes} (hop : opA P h a o = some r) (ro : Option Nat) (f : Operand → Value) : o.semAt ro f = execOp f o := by
  refine Oper.semAt_eq ro f o (fun c hc => ?_)
  simp only [opA, hc] at hop
  cases hop

theorem one_sound {P : Program} (hP : okProg P = true) {self : Code → Tmps → Heap → Res} (hself : SelfOk P self) {ops : Array Oper} {o : Oper} {a : Tmps} {h h' : Heap} {v : AV} {ρ : Nat → Option Ent} {w : World} {A : Act}
    (r : Option Nat) (ho : oneA P self ops o a h = .ok (v, h')) (S : SRel ρ h w) (F : FRel DL ρ a A) {K : Act → World → Prop} {Q : Exit → Act → World → Prop}
    (hK : ∀ ρ' w' V, SRel ρ' h' w' → Good ρ h w ρ' h' w' → Rel ρ' v V → K (A.put o.dst V) w') :
    if Region.wanted o (yielded ops A.tmps) then o.wpIn (RF r) 0 P A w K Q else (∀ f, o.about P w A.eval = some f → (RF r).fn f) ∧ K (A.put o.dst undef) w := by
  have hab : ∀ f, o.about P w A.eval = some f → (RF r).fn f := fun _ _ => trivial
  have hro : (RF r).round = r := rfl
  unfold oneA at ho
  split at ho
  · rename_i hw
    rw [if_pos (wanted_eq F ops o hw)]
    refine ⟨hab, ?_⟩
    split at ho
    · cases ho
    · rename_i hf
      have hf : h.next < h.lim := Nat.le_of_ble_eq_true hf
      split at ho
      · rename_i v h1 hop
        simp only [R.ok.injEq, Prod.mk.injEq] at ho; obtain ⟨rfl, rfl⟩ := ho
        obtain ⟨ρ', w', V, k1, k2, k3, k4⟩ := op_sound S hf F hop
        rw [semAt_ok hop, k1]
        exact hK ρ' w' V k3 k4 k2
      · rename_i h1 hop
        simp only [R.ok.injEq, Prod.mk.injEq] at ho; obtain ⟨rfl, rfl⟩ := ho
        obtain ⟨ρ', w', k1, k3, k4⟩ := op_sound S hf F hop
        rw [semAt_ok hop, k1]
        exact hK ρ' w' undef k3 k4 (rel_undef _)
      · rename_i f args hop
        obtain ⟨vs, k1, k2⟩ := op_sound S hf F hop
        obtain ⟨fn, body, hfn, hb, hcall⟩ := callF_sound hself ho S F.glob k1
        rw [semAt_ok hop, k2, callFunc_run hP hfn hb, Oper.uponIn_enter]
        refine ⟨(fun q => (by cases q)), ?_⟩
        have hcall' : CallsIn (RF r) 0 P f vs.toArray w (CallRes ρ h w v h') := hcall
        refine hcall'.mono ?_
        rintro e w' ⟨V, ρ', rfl, q1, q2, q3⟩
        exact hK ρ' w' V q2 q3 q1
      · rename_i b args hop
        obtain ⟨e, vs, he, k1, k2⟩ := op_sound S hf F hop
        obtain ⟨lp, l1, l2, hround⟩ := round_sound (P := P) hself ho S F.glob he k1
        rw [semAt_ok hop, k2, run_yield l1 l2, Oper.uponIn_round]
        refine ⟨(fun q => (by cases q)), ?_⟩
        have hround' : RoundIn (RF r) 0 P e.blk lp.fn ((lp.params.zip vs.toArray).foldl (fun t (p, v) => t.setIfInBounds p v) lp.tmps) lp.assign lp.body w (CallRes ρ h w v h') := hround
        refine hround'.mono ?_
        rintro e' w' ⟨V, ρ', rfl, q1, q2, q3⟩
        exact hK ρ' w' V q2 q3 q1
      · cases ho
  · rename_i hw
    rw [if_neg (by rw [wanted_eq F ops o hw]; simp)]
    simp only [R.ok.injEq, Prod.mk.injEq] at ho; obtain ⟨rfl, rfl⟩ := ho
    exact ⟨hab, hK ρ w undef S (Good.refl _ _ _) (rel_undef _)⟩
  · cases ho

theorem ops_sound {P : Program} (hP : okProg P = true) {self : Code → Tmps → Heap → Res} (hself : SelfOk P self) (r : Option Nat) {ops : Array Oper} {Q : Exit → Act → World → Prop} : ∀ {l : List Oper} {a a' : Tmps} {h h' : Heap} {ρ : Nat → Option Ent} {w : World} {A : Act},
    opsF P self ops l a h = .ok (a', h') → SRel ρ h w → FRel DL ρ a A → (∀ ρ' w' A', SRel ρ' h' w' → Good ρ h w ρ' h' w' → FRel DL ρ' a' A' → Q .normal A' w') → wpListIn (RF r) 0 P ops Q l A w
  | [], a, a', h, h', ρ, w, A, hr, S, F, hQ => by
    simp only [opsF, R.ok.injEq, Prod.mk.injEq] at hr; obtain ⟨rfl, rfl⟩ := hr
    exact hQ ρ w A S (Good.refl _ _ _) F
  | o :: l, a, a', h, h', ρ, w, A, hr, S, F, hQ => by
    simp only [opsF] at hr
    split at hr
    · rename_i v h1 ho
      refine wpListIn_step fun K hK => one_sound hP hself r ho S F (fun ρ1 w1 V S1 G1 R1 => hK _ _ ?_)
      exact ops_sound hP hself r hr S1 ((F.ext G1.ext).put R1 _) (fun ρ2 w2 A2 S2 G2 F2 => hQ ρ2 w2 A2 S2 (G1.trans G2) F2)
    · cases hr

/-- an operation is as is said: what it yields, and the heap behind it -/
def OneP (P : Program) (ops : Array Oper) (o : Oper) (a : Tmps) (h : Heap) (v : AV) (h' : Heap) : Prop :=
  ∀ (DL : List Deferred) (ρ : Nat → Option Ent) (w : World) (A : Act) (r : Option Nat), SRel ρ h w → FRel DL ρ a A → ∀ (K : Act → World → Prop) (Q : Exit → Act → World → Prop),
    (∀ ρ' w' V, SRel ρ' h' w' → Good ρ h w ρ' h' w' → Rel ρ' v V → K (A.put o.dst V) w') →
    if Region.wanted o (yielded ops A.tmps) then o.wpIn (RF r) 0 P A w K Q else (∀ f, o.about P w A.eval = some f → (RF r).fn f) ∧ K (A.put o.dst undef) w
theorem oneP_of {P : Program} (hP : okProg P = true) {self : Code → Tmps → Heap → Res} (hself : SelfOk P self) {ops : Array Oper} {o : Oper} {a : Tmps} {h h' : Heap} {v : AV} (ho : oneA P self ops o a h = .ok (v, h')) : OneP P ops o a h v h' :=
  fun _ _ _ _ r S F _ _ hK => one_sound hP hself r ho S F hK
end Go.Sx

