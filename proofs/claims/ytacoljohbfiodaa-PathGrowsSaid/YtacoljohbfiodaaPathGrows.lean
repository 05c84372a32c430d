/- 'chase/chaselaw21.PathGrows' returns true for every argument, and nothing that was there is changed. The first parts are the texts before: each function of the run as a term. Here: the numbers, and the rest. -/
import Derived.Test.YtacoljohbfiodaaPathGrowsB
namespace Go.Proofs.Ytacoljohbfiodaa.pathGrows
open Go.ChangeShapes Go.WideShapes Go.ChangeAt Go.WideMaps Go.WideElems Go.RowKit
set_option linter.unusedVariables false
set_option linter.unusedSimpArgs false
section
open Go.Sx
set_option maxRecDepth 1000000

set_option maxRecDepth 100000
theorem cT {α : Type} {b : Bool} {x y : α} (h : b = true) : (bif b then x else y) = x := by rw [h]; rfl
theorem cF {α : Type} {b : Bool} {x y : α} (h : b = false) : (bif b then x else y) = y := by rw [h]; rfl
theorem ltT {x y : Int} (h : x < y) : ltI x y = true := by rw [ltI_t]; exact h
theorem ltF {x y : Int} (h : y ≤ x) : ltI x y = false := by rw [ltI_f]; exact h
theorem nltT {x y : Int} (h : y ≤ x) : (!ltI x y) = true := by rw [ltF h]; rfl
theorem nltF {x y : Int} (h : x < y) : (!ltI x y) = false := by rw [ltT h]; rfl
theorem eqT {x y : Int} (h : x = y) : eqI x y = true := by rw [eqI_t]; exact h
theorem eqF {x y : Int} (h : x ≠ y) : eqI x y = false := by rw [eqI_f]; exact h
theorem inT {i : Int} {n : Nat} (h1 : 0 ≤ i) (h2 : i.toNat < n) : inB i n = true := by rw [inB_t]; exact ⟨h1, h2⟩
theorem nbltT {a b : Nat} (h : a < b) : Nat.blt a b = true := Nat.ble_eq_true_of_le h
theorem nbleT {a b : Nat} (h : a ≤ b) : Nat.ble a b = true := Nat.ble_eq_true_of_le h
theorem nbeqT {a b : Nat} (h : a = b) : Nat.beq a b = true := by rw [h]; exact Nat.beq_refl b
theorem w8 {n : Int} (h1 : 0 ≤ n) (h2 : n ≤ 255) : wrapA .u8 n = n := wrap_in (by simpa [IntKind.min, IntKind.signed] using h1) (by simpa [IntKind.max, IntKind.signed, IntKind.bits] using h2)
theorem w16 {n : Int} (h1 : 0 ≤ n) (h2 : n ≤ 65535) : wrapA .u16 n = n := wrap_in (by simpa [IntKind.min, IntKind.signed] using h1) (by simpa [IntKind.max, IntKind.signed, IntKind.bits] using h2)
theorem ku (k : IntKind) (h : k.signed = false) (n : Int) : IntKind.wrap k n = n % (2 ^ k.bits : Nat) := by
  unfold IntKind.wrap; rw [h]; simp
theorem wu8 (n : Int) : wrapA .u8 n = n % 256 := by rw [← kwrap_eq, ku .u8 rfl]; rfl
theorem wu16 (n : Int) : wrapA .u16 n = n % 65536 := by rw [← kwrap_eq, ku .u16 rfl]; rfl
theorem wu32 (n : Int) : wrapA .u32 n = n % 4294967296 := by rw [← kwrap_eq, ku .u32 rfl]; rfl
theorem kku8 (n : Int) : IntKind.wrap .u8 n = n % 256 := by rw [ku .u8 rfl]; rfl
/-- octets as cells -/
def by8 (l : List Nat) : List AV := l.map fun (b : Nat) => AV.int .u8 (b : Int)
theorem by8_len (l : List Nat) : (by8 l).length = l.length := by simp [by8]
theorem by8_app (a b : List Nat) : by8 a ++ by8 b = by8 (a ++ b) := by simp [by8]
theorem by8_pure : ∀ (l : List Nat), pureAVs (by8 l) = true
  | [] => rfl
  | x :: l => by show pureAVs (.int .u8 (x : Int) :: by8 l) = true; simp only [pureAVs, pureAV, Bool.true_and]; exact by8_pure l
theorem by8_plain : ∀ (l : List Nat), (by8 l).all AV.plain = true
  | [] => rfl
  | x :: l => by show (AV.plain (.int .u8 (x : Int)) && (by8 l).all AV.plain) = true; simp only [AV.plain, Bool.true_and]; exact by8_plain l
theorem by8_u8 : ∀ (l : List Nat), (by8 l).all isU8 = true
  | [] => rfl
  | x :: l => by show (isU8 (.int .u8 (x : Int)) && (by8 l).all isU8) = true; simp only [isU8, Bool.true_and]; exact by8_u8 l
theorem by8_str (l : List Nat) {k : Nat} (h : k = l.length) : strOk (by8 l) 0 k = true ∧ strOf (by8 l) 0 k = l := by
  subst h
  have ht : ((by8 l).drop 0).take l.length = by8 l := by rw [List.drop_zero, List.take_of_length_le (by rw [by8_len]; exact Nat.le_refl _)]
  refine ⟨?_, ?_⟩
  · simp only [strOk, ht, Bool.and_eq_true]
    exact ⟨nbleT (by rw [by8_len]; omega), by8_u8 l⟩
  · unfold Go.Sx.strOf; rw [ht]; simp only [by8, List.map_map]
    conv => rhs; rw [← List.map_id l]
    exact List.map_congr_left fun x _ => by simp
theorem dropc {s : List Nat} {i : Nat} (h : i < s.length) : s.drop i = s.getD i 0 :: s.drop (i + 1) := by
  rw [List.drop_eq_getElem_cons h, List.getD_eq_getElem?_getD, List.getElem?_eq_getElem h]; rfl
theorem byteI_at (s : List Nat) (i : Nat) : byteI s (i : Int) = ((s.getD i 0 % 256 : Nat) : Int) := rfl
theorem strEq_same (s : List Nat) : strEq s s = true := by simp [strEq]
theorem strEq_bytes {a b : List Nat} (ha : ∀ x ∈ a, x < 256) (hb : ∀ x ∈ b, x < 256) : strEq a b = decide (a = b) := by
  have key : ∀ l : List Nat, (∀ x ∈ l, x < 256) → l.map (· % 256) = l := fun l h => by
    conv => rhs; rw [← List.map_id l]
    exact List.map_congr_left fun x hx => by have := h x hx; simp; omega
  unfold strEq; rw [key a ha, key b hb]
  by_cases e : a = b
  · subst e; simp
  · simp [e]
theorem xor_u8 {p m : Nat} (hp : p < 256) (hm : m < 256) : IntKind.wrap .u8 (↑(BitVec.toNat (BitVec.ofInt 8 (p : Int) ^^^ BitVec.ofInt 8 (m : Int))) : Int) = ((p ^^^ m : Nat) : Int) := by
  have h := Nat.xor_lt_two_pow (n := 8) (x := p) (y := m) (by omega) (by omega)
  rw [BitVec.toNat_xor, BitVec.ofInt_natCast, BitVec.ofInt_natCast, BitVec.toNat_ofNat, BitVec.toNat_ofNat, Nat.mod_eq_of_lt (by omega), Nat.mod_eq_of_lt (by omega), kku8]
  omega
theorem xor_step (a b : Nat) : a ^^^ b = (if a % 2 = b % 2 then 0 else 1) + 2 * (a / 2 ^^^ b / 2) := by
  have h1 : (a ^^^ b) / 2 = a / 2 ^^^ b / 2 := Nat.xor_div_two
  have h2 : (a ^^^ b) % 2 = 1 ↔ ¬ ((a % 2 = 1) ↔ (b % 2 = 1)) := Nat.xor_mod_two_eq_one
  have h3 := Nat.div_add_mod (a ^^^ b) 2
  rw [h1] at h3
  have ha : a % 2 < 2 := Nat.mod_lt _ (by omega)
  have hb : b % 2 < 2 := Nat.mod_lt _ (by omega)
  have hx : (a ^^^ b) % 2 < 2 := Nat.mod_lt _ (by omega)
  split
  · rename_i e
    have : (a ^^^ b) % 2 ≠ 1 := fun q => (h2.1 q) (by rw [e])
    omega
  · rename_i e
    have : (a ^^^ b) % 2 = 1 := h2.2 (fun q => e (by
      by_cases z : a % 2 = 1
      · have := q.1 z; omega
      · have : ¬ b % 2 = 1 := fun y => z (q.2 y)
        omega))
    omega

/-- a step as seven numbers -/
structure St where
  k : Int
  a : Int
  b : Int
  c : Int
  d : Int
  e : Int
  f : Int
def St.cells (s : St) : List AV := [.int .i64 s.k, .int .i64 s.a, .int .i64 s.b, .int .i64 s.c, .int .i64 s.d, .int .i64 s.e, .int .i64 s.f]
def stc : List St → List AV
  | [] => []
  | s :: P => s.cells ++ stc P
theorem stc_len : ∀ P : List St, (stc P).length = 7 * P.length
  | [] => rfl
  | s :: P => by simp only [stc, St.cells, List.length_append, List.length_cons, List.length_nil, stc_len P]; omega
theorem stc_app : ∀ P Q : List St, stc (P ++ Q) = stc P ++ stc Q
  | [], Q => rfl
  | s :: P, Q => by simp only [List.cons_append, stc, stc_app P Q, List.append_assoc]
theorem stc_pure : ∀ P : List St, pureAVs (stc P) = true
  | [] => rfl
  | s :: P => by simp only [stc, St.cells, List.cons_append, List.nil_append, pureAVs, pureAV, Bool.true_and]; exact stc_pure P
theorem stc_take (P : List St) (i : Nat) : (stc P).take (7 * i) = stc (P.take i) := by
  induction P generalizing i with
  | nil => simp [stc]
  | cons s P ih =>
    cases i with
    | zero => simp [stc]
    | succ i =>
      rw [show 7 * (i + 1) = 7 * i + 1 + 1 + 1 + 1 + 1 + 1 + 1 by omega]
      simp only [stc, St.cells, List.cons_append, List.nil_append, List.take_succ_cons, ih i]
/-- the cell number j of step i -/
theorem stc_nth : ∀ (P : List St) (i : Nat) (s : St), P[i]? = some s → ∀ j v, s.cells[j]? = some v → nth (stc P) (7 * i + j) = some v
  | [], i, s, h, j, v, hv => by simp at h
  | t :: P, 0, s, h, j, v, hv => by
    simp only [List.getElem?_cons_zero, Option.some.injEq] at h; subst h
    rw [nth_eq]
    have hj : j < t.cells.length := by
      rcases Nat.lt_or_ge j t.cells.length with q | q
      · exact q
      · rw [List.getElem?_eq_none q] at hv; cases hv
    simp only [stc, Nat.mul_zero, Nat.zero_add, List.getElem?_append_left hj, hv]
  | t :: P, i + 1, s, h, j, v, hv => by
    simp only [List.getElem?_cons_succ] at h
    have := stc_nth P i s h j v hv
    rw [nth_eq] at this ⊢
    simp only [stc]
    rw [List.getElem?_append_right (by simp [St.cells]; omega), ← this]
    congr 1
    simp [St.cells]; omega
theorem at7 (i : Nat) : atI 0 (i : Int) 7 = 7 * i := by rw [atI_eq]; omega
theorem stc_k {P : List St} {i : Nat} {s : St} (h : P[i]? = some s) : intC (stc P) (7 * i) = s.k := by have := stc_nth P i s h 0 _ rfl; simp only [Nat.add_zero] at this; simp only [intC, this]
theorem stc_a {P : List St} {i : Nat} {s : St} (h : P[i]? = some s) : intC (stc P) (7 * i + 1) = s.a := by have := stc_nth P i s h 1 _ rfl; simp only [intC, this]
theorem stc_b {P : List St} {i : Nat} {s : St} (h : P[i]? = some s) : intC (stc P) (7 * i + 1 + 1) = s.b := by have := stc_nth P i s h 2 _ rfl; simp only [intC, Nat.add_assoc, this]
theorem stc_c {P : List St} {i : Nat} {s : St} (h : P[i]? = some s) : intC (stc P) (7 * i + 1 + 1 + 1) = s.c := by have := stc_nth P i s h 3 _ rfl; simp only [intC, Nat.add_assoc, this]
theorem stc_d {P : List St} {i : Nat} {s : St} (h : P[i]? = some s) : intC (stc P) (7 * i + 1 + 1 + 1 + 1) = s.d := by have := stc_nth P i s h 4 _ rfl; simp only [intC, Nat.add_assoc, this]
theorem stc_e {P : List St} {i : Nat} {s : St} (h : P[i]? = some s) : intC (stc P) (7 * i + 1 + 1 + 1 + 1 + 1) = s.e := by have := stc_nth P i s h 5 _ rfl; simp only [intC, Nat.add_assoc, this]
theorem stc_f {P : List St} {i : Nat} {s : St} (h : P[i]? = some s) : intC (stc P) (7 * i + 1 + 1 + 1 + 1 + 1 + 1) = s.f := by have := stc_nth P i s h 6 _ rfl; simp only [intC, Nat.add_assoc, this]

theorem stc_cell {P : List St} {i : Nat} {s : St} (h : P[i]? = some s) (j : Nat) (v : Int) (hv : s.cells[j]? = some (.int .i64 v)) : cellB (stc P) (7 * i + j) (.int .i64) = true := by
  have := stc_nth P i s h j _ hv
  simp only [cellB, isIntC, this]; rfl
theorem stc_cells {P : List St} {i : Nat} {s : St} (h : P[i]? = some s) : cellsB (stc P) (7 * i) ([] ++ [CK.int .i64] ++ ckRep 3 ([] ++ [CK.int .i64] ++ [CK.int .i64])) = true := by
  show cellsB (stc P) (7 * i) [.int .i64, .int .i64, .int .i64, .int .i64, .int .i64, .int .i64, .int .i64] = true
  simp only [cellsB, andB_eq]
  exact ⟨stc_cell h 0 _ rfl, stc_cell h 1 _ rfl, stc_cell h 2 _ rfl, stc_cell h 3 _ rfl, stc_cell h 4 _ rfl, stc_cell h 5 _ rfl, stc_cell h 6 _ rfl⟩
def inR (x : Int) : Prop := -16384 ≤ x ∧ x ≤ 16384
/-- a valid step -/
def V (s : St) : Prop := ((s.k = 1 ∨ s.k = 2) ∧ inR s.a ∧ inR s.b ∧ s.c = 0 ∧ s.d = 0 ∧ s.e = 0 ∧ s.f = 0) ∨ (s.k = 3 ∧ inR s.a ∧ inR s.b ∧ inR s.c ∧ inR s.d ∧ inR s.e ∧ inR s.f) ∨ (s.k = 4 ∧ s.a = 0 ∧ s.b = 0 ∧ s.c = 0 ∧ s.d = 0 ∧ s.e = 0 ∧ s.f = 0)
theorem ee (x : Int) : eqI x x = true := eqT rfl
theorem inr {x : Int} (h : inR x) : (!ltI x (-16384)) = true ∧ (!ltI 16384 x) = true := ⟨nltT h.1, nltT h.2⟩
theorem f23 {s : St} (h : V s) : F23 s.k s.a s.b s.c s.d s.e s.f = some true := by
  unfold F23 c23_0 c23_1 c23_2
  rcases h with ⟨hk, ha, hb, hc, hd, he, hf⟩ | ⟨hk, ha, hb, hc, hd, he, hf⟩ | ⟨hk, ha, hb, hc, hd, he, hf⟩
  · obtain ⟨a1, a2⟩ := inr ha
    obtain ⟨b1, b2⟩ := inr hb
    rcases hk with hk | hk <;> (rw [hk, hc, hd, he, hf, a1, a2, b1, b2, ee s.a, ee s.b]; rfl)
  · obtain ⟨a1, a2⟩ := inr ha
    obtain ⟨b1, b2⟩ := inr hb
    obtain ⟨c1, c2⟩ := inr hc
    obtain ⟨d1, d2⟩ := inr hd
    obtain ⟨e1, e2⟩ := inr he
    obtain ⟨f1, f2⟩ := inr hf
    rw [hk, a1, a2, b1, b2, c1, c2, d1, d2, e1, e2, f1, f2, ee s.a, ee s.b, ee s.c, ee s.d, ee s.e, ee s.f]; rfl
  · rw [hk, ha, hb, hc, hd, he, hf]; rfl
theorem f23' {s : St} (h : V s) : F23_0 s.k s.a s.b s.c s.d s.e s.f = true := by unfold F23_0; rw [f23 h]; rfl
theorem vk {s : St} (h : V s) : s.k = 1 ∨ s.k = 2 ∨ s.k = 3 ∨ s.k = 4 := by
  rcases h with ⟨h, _⟩ | ⟨h, _⟩ | ⟨h, _⟩
  · rcases h with h | h
    · exact .inl h
    · exact .inr (.inl h)
  · exact .inr (.inr (.inl h))
  · exact .inr (.inr (.inr h))
/-- what may follow -/
def fol (l k : Int) : Prop := (l = 0 ∧ k = 1) ∨ (l = 1 ∧ k ≠ 1) ∨ l = 2 ∨ l = 3 ∨ (l = 4 ∧ k = 1)
def chain : Int → List St → Prop
  | _, [] => True
  | l, s :: P => V s ∧ fol l s.k ∧ chain s.k P
def lastK : Int → List St → Int
  | l, [] => l
  | _, s :: P => lastK s.k P
theorem chain_app : ∀ (P : List St) (l : Int) (Q : List St), chain l P → chain (lastK l P) Q → chain l (P ++ Q)
  | [], l, Q, _, h => h
  | s :: P, l, Q, h, hq => ⟨h.1, h.2.1, chain_app P s.k Q h.2.2 hq⟩
theorem chain_pre : ∀ (P : List St) (l : Int) (Q : List St), chain l (P ++ Q) → chain l P ∧ chain (lastK l P) Q
  | [], l, Q, h => ⟨trivial, h⟩
  | s :: P, l, Q, h => by
    obtain ⟨h1, h2, h3⟩ := h
    obtain ⟨q1, q2⟩ := chain_pre P s.k Q h3
    exact ⟨⟨h1, h2, q1⟩, q2⟩
theorem lastK_app : ∀ (P : List St) (l : Int) (s : St), lastK l (P ++ [s]) = s.k
  | [], _, _ => rfl
  | t :: P, _, s => lastK_app P t.k s
/-- the bits of what may follow -/
def bit (m k : Int) : Bool := eqI (IntKind.wrap .i64 (↑(BitVec.toNat (BitVec.ofInt 64 (Int.fdiv m (Int.ofNat (2 ^ Nat.min (Int.toNat k) 64))) &&& BitVec.ofInt 64 1)) : Int)) 0
theorem bit2 : bit 2 1 = false := by kernel_rfl
theorem bit28 {k : Int} (h : k = 2 ∨ k = 3 ∨ k = 4) : bit 28 k = false := by rcases h with rfl | rfl | rfl <;> kernel_rfl
theorem bit30 {k : Int} (h : k = 1 ∨ k = 2 ∨ k = 3 ∨ k = 4) : bit 30 k = false := by rcases h with rfl | rfl | rfl | rfl <;> kernel_rfl
/-- the start of the last subpath and the current point -/
def walkP : Int × Int × Int × Int → List St → Int × Int × Int × Int
  | z, [] => z
  | z, s :: P => walkP (if s.k = 1 then (s.a, s.b, s.a, s.b) else if s.k = 4 then (z.1, z.2.1, z.1, z.2.1) else if s.k = 2 then (z.1, z.2.1, s.a, s.b) else (z.1, z.2.1, s.e, s.f)) P
theorem walk_app : ∀ (P : List St) (z : Int × Int × Int × Int) (Q : List St), walkP z (P ++ Q) = walkP (walkP z P) Q
  | [], z, Q => rfl
  | s :: P, z, Q => by simp only [List.cons_append, walkP]; exact walk_app P _ Q
theorem dropg {P : List St} {i : Nat} (h : i < P.length) : ∃ s, P[i]? = some s ∧ P.drop i = s :: P.drop (i + 1) := ⟨P[i], by simp [h], List.drop_eq_getElem_cons h⟩
theorem i64s {i : Nat} (h : i ≤ 1000) : wrapA .i64 (Int.add (i : Int) 1) = ((i + 1 : Nat) : Int) := by rw [add_int, wrap64 (by omega) (by omega)]; omega

theorem b8u_15 (x0 : List AV) (i : Int) : c8u_15 x0 i = bit 2 (intC x0 (atI 0 i 7)) := rfl
theorem b8u_16 (x0 : List AV) (i : Int) : c8u_16 x0 i = bit 28 (intC x0 (atI 0 i 7)) := rfl
theorem b8u_17 (x0 : List AV) (i : Int) : c8u_17 x0 i = bit 30 (intC x0 (atI 0 i 7)) := rfl
theorem l8u (P : List St) (cc : Nat) (hP : P.length ≤ 300) : ∀ (n i : Nat) (last : Int), i ≤ P.length → P.length - i < n → chain last (P.drop i) → L8u_0 (stc P) P.length cc n last i = some 0 := by
  intro n
  induction n with
  | zero => intro i last _ h; omega
  | succ n ih =>
    intro i last h1 h2 hc
    rw [L8u_0_succ]
    by_cases q : i < P.length
    · obtain ⟨s, hs, hd⟩ := dropg q
      rw [hd] at hc
      obtain ⟨hv, hf, hc⟩ := hc
      have c14 : c8u_14 (stc P) i = false := by
        unfold c8u_14 t8u_8 t8u_9 t8u_10 t8u_11 t8u_12 t8u_13
        rw [at7, stc_k hs, stc_a hs, stc_b hs, stc_c hs, stc_d hs, stc_e hs, stc_f hs, f23' hv]; rfl
      have go := ih (i + 1) s.k (by omega) (by omega) hc
      have hk := vk hv
      rw [ltT (by omega), inT (by omega) (by omega), c14, b8u_15, b8u_16, b8u_17, at7, stc_cells hs, stc_k hs, i64s (by omega), go, nltT (by omega)]
      rcases hf with ⟨rfl, hk1⟩ | ⟨rfl, hk1⟩ | rfl | rfl | ⟨rfl, hk1⟩
      · rw [hk1, bit2]; rfl
      · rw [bit28 (by omega)]; rfl
      · rw [bit30 hk]; rfl
      · rw [bit30 hk]; rfl
      · rw [hk1, bit2]; rfl
    · rw [ltF (by omega)]; rfl
theorem f8u (P : List St) (cc : Nat) (hP : P.length ≤ 300) (h : chain 0 P) {n : Nat} (hn : 301 ≤ n) : F8u n (stc P) P.length cc = some 0 := by
  unfold F8u
  rw [ltF (by omega)]
  exact l8u P cc hP n 0 0 (by omega) (by omega) (by simpa using h)
theorem f8u_0 (P : List St) (cc : Nat) (hP : P.length ≤ 300) (h : chain 0 P) {n : Nat} (hn : 301 ≤ n) : F8u_0 n (stc P) P.length cc = 0 := by unfold F8u_0; rw [f8u P cc hP h hn]; rfl

theorem b8x_15 (x0 : List AV) (i : Int) : c8x_15 x0 i = bit 2 (intC x0 (atI 0 i 7)) := rfl
theorem b8x_16 (x0 : List AV) (i : Int) : c8x_16 x0 i = bit 28 (intC x0 (atI 0 i 7)) := rfl
theorem b8x_17 (x0 : List AV) (i : Int) : c8x_17 x0 i = bit 30 (intC x0 (atI 0 i 7)) := rfl
theorem l8x (P : List St) (cc : Nat) (hP : P.length ≤ 300) : ∀ (n i : Nat) (last : Int), i ≤ P.length → P.length - i < n → chain last (P.drop i) → L8x_0 (stc P) P.length cc n last i = some 0 := by
  intro n
  induction n with
  | zero => intro i last _ h; omega
  | succ n ih =>
    intro i last h1 h2 hc
    rw [L8x_0_succ]
    by_cases q : i < P.length
    · obtain ⟨s, hs, hd⟩ := dropg q
      rw [hd] at hc
      obtain ⟨hv, hf, hc⟩ := hc
      have c14 : c8x_14 (stc P) i = false := by
        unfold c8x_14 t8x_8 t8x_9 t8x_10 t8x_11 t8x_12 t8x_13
        rw [at7, stc_k hs, stc_a hs, stc_b hs, stc_c hs, stc_d hs, stc_e hs, stc_f hs, f23' hv]; rfl
      have go := ih (i + 1) s.k (by omega) (by omega) hc
      have hk := vk hv
      rw [ltT (by omega), inT (by omega) (by omega), c14, b8x_15, b8x_16, b8x_17, at7, stc_cells hs, stc_k hs, i64s (by omega), go, nltT (by omega)]
      rcases hf with ⟨rfl, hk1⟩ | ⟨rfl, hk1⟩ | rfl | rfl | ⟨rfl, hk1⟩
      · rw [hk1, bit2]; rfl
      · rw [bit28 (by omega)]; rfl
      · rw [bit30 hk]; rfl
      · rw [bit30 hk]; rfl
      · rw [hk1, bit2]; rfl
    · rw [ltF (by omega)]; rfl
theorem f8x (P : List St) (cc : Nat) (hP : P.length ≤ 300) (h : chain 0 P) {n : Nat} (hn : 301 ≤ n) : F8x n (stc P) P.length cc = some 0 := by
  unfold F8x
  rw [ltF (by omega)]
  exact l8x P cc hP n 0 0 (by omega) (by omega) (by simpa using h)
theorem f8x_0 (P : List St) (cc : Nat) (hP : P.length ≤ 300) (h : chain 0 P) {n : Nat} (hn : 301 ≤ n) : F8x_0 n (stc P) P.length cc = 0 := by unfold F8x_0; rw [f8x P cc hP h hn]; rfl

theorem l24u (P : List St) (cc : Nat) (hP : P.length ≤ 300) : ∀ (n i : Nat) (z : Int × Int × Int × Int), i ≤ P.length → P.length - i < n → (∃ l, chain l (P.drop i)) → L24u_0 (stc P) P.length cc n i z.1 z.2.1 z.2.2.1 z.2.2.2 = some ((walkP z (P.drop i)).2.2.1, (walkP z (P.drop i)).2.2.2) := by
  intro n
  induction n with
  | zero => intro i z _ h; omega
  | succ n ih =>
    intro i z h1 h2 hc
    rw [L24u_0_succ]
    by_cases q : i < P.length
    · obtain ⟨s, hs, hd⟩ := dropg q
      obtain ⟨l, hc⟩ := hc
      rw [hd] at hc ⊢
      obtain ⟨hv, _, hc⟩ := hc
      have t0 : t24u_0 (stc P) i = s.a := by unfold t24u_0; rw [at7, stc_a hs]
      have t1 : t24u_1 (stc P) i = s.b := by unfold t24u_1; rw [at7, stc_b hs]
      have t4 : t24u_4 (stc P) i = s.e := by unfold t24u_4; rw [at7, stc_e hs]
      have t5 : t24u_5 (stc P) i = s.f := by unfold t24u_5; rw [at7, stc_f hs]
      have go := fun z => ih (i + 1) z (by omega) (by omega) ⟨_, hc⟩
      rw [ltT (by omega), inT (by omega) (by omega), at7, stc_cells hs, stc_k hs, i64s (by omega), t0, t1, t4, t5]
      simp only [walkP]
      rcases vk hv with hk | hk | hk | hk
      · rw [hk]; exact go (s.a, s.b, s.a, s.b)
      · rw [hk]; exact go (z.1, z.2.1, s.a, s.b)
      · rw [hk]; exact go (z.1, z.2.1, s.e, s.f)
      · rw [hk]; exact go (z.1, z.2.1, z.1, z.2.1)
    · rw [ltF (by omega), List.drop_eq_nil_of_le (by omega)]; rfl
theorem f24u (P : List St) (cc : Nat) (hP : P.length ≤ 300) (h : chain 0 P) {n : Nat} (hn : 301 ≤ n) : F24u n (stc P) P.length cc = some ((walkP (0, 0, 0, 0) P).2.2.1, (walkP (0, 0, 0, 0) P).2.2.2) := by
  unfold F24u
  exact l24u P cc hP n 0 (0, 0, 0, 0) (by omega) (by omega) ⟨0, by simpa using h⟩

theorem l24x (P : List St) (cc : Nat) (hP : P.length ≤ 300) : ∀ (n i : Nat) (z : Int × Int × Int × Int), i ≤ P.length → P.length - i < n → (∃ l, chain l (P.drop i)) → L24x_0 (stc P) P.length cc n i z.1 z.2.1 z.2.2.1 z.2.2.2 = some ((walkP z (P.drop i)).2.2.1, (walkP z (P.drop i)).2.2.2) := by
  intro n
  induction n with
  | zero => intro i z _ h; omega
  | succ n ih =>
    intro i z h1 h2 hc
    rw [L24x_0_succ]
    by_cases q : i < P.length
    · obtain ⟨s, hs, hd⟩ := dropg q
      obtain ⟨l, hc⟩ := hc
      rw [hd] at hc ⊢
      obtain ⟨hv, _, hc⟩ := hc
      have t0 : t24x_0 (stc P) i = s.a := by unfold t24x_0; rw [at7, stc_a hs]
      have t1 : t24x_1 (stc P) i = s.b := by unfold t24x_1; rw [at7, stc_b hs]
      have t4 : t24x_4 (stc P) i = s.e := by unfold t24x_4; rw [at7, stc_e hs]
      have t5 : t24x_5 (stc P) i = s.f := by unfold t24x_5; rw [at7, stc_f hs]
      have go := fun z => ih (i + 1) z (by omega) (by omega) ⟨_, hc⟩
      rw [ltT (by omega), inT (by omega) (by omega), at7, stc_cells hs, stc_k hs, i64s (by omega), t0, t1, t4, t5]
      simp only [walkP]
      rcases vk hv with hk | hk | hk | hk
      · rw [hk]; exact go (s.a, s.b, s.a, s.b)
      · rw [hk]; exact go (z.1, z.2.1, s.a, s.b)
      · rw [hk]; exact go (z.1, z.2.1, s.e, s.f)
      · rw [hk]; exact go (z.1, z.2.1, z.1, z.2.1)
    · rw [ltF (by omega), List.drop_eq_nil_of_le (by omega)]; rfl
theorem f24x (P : List St) (cc : Nat) (hP : P.length ≤ 300) (h : chain 0 P) {n : Nat} (hn : 301 ≤ n) : F24x n (stc P) P.length cc = some ((walkP (0, 0, 0, 0) P).2.2.1, (walkP (0, 0, 0, 0) P).2.2.2) := by
  unfold F24x
  exact l24x P cc hP n 0 (0, 0, 0, 0) (by omega) (by omega) ⟨0, by simpa using h⟩

theorem condT {α : Type} (x y : α) : (bif true then x else y) = x := Eq.trans (by rfl) (Eq.refl x)
theorem condF {α : Type} (x y : α) : (bif false then x else y) = y := Eq.trans (by rfl) (Eq.refl y)
theorem notT : (!true) = false := Eq.trans (by rfl) (Eq.refl false)
theorem notF : (!false) = true := Eq.trans (by rfl) (Eq.refl true)
theorem isS {α : Type} (x : α) : Option.isSome (some x) = true := Eq.trans (by rfl) (Eq.refl true)
theorem wf_i16 {n : Int} (h : (Lit.int .i16 n).wf = true) : -32768 ≤ n ∧ n ≤ 32767 := wf_bounds h
/-- the cells of stroke i -/
theorem k7 : ∀ {m : Nat} {x : List AV}, KOk (kRep m [.int .u8, .int .i16, .int .i16, .int .i16, .int .i16, .int .i16, .int .i16]) x → ∀ i, i < m → ∃ q a b c d e f : Int, nth x (7 * i) = some (.int .u8 q) ∧ nth x (7 * i + 1) = some (.int .i16 a) ∧ nth x (7 * i + 2) = some (.int .i16 b) ∧ nth x (7 * i + 3) = some (.int .i16 c) ∧ nth x (7 * i + 4) = some (.int .i16 d) ∧ nth x (7 * i + 5) = some (.int .i16 e) ∧ nth x (7 * i + 6) = some (.int .i16 f) ∧
    (0 ≤ q ∧ q ≤ 255) ∧ (-32768 ≤ a ∧ a ≤ 32767) ∧ (-32768 ≤ b ∧ b ≤ 32767) ∧ (-32768 ≤ c ∧ c ≤ 32767) ∧ (-32768 ≤ d ∧ d ≤ 32767) ∧ (-32768 ≤ e ∧ e ≤ 32767) ∧ (-32768 ≤ f ∧ f ≤ 32767)
  | 0, _, _, i, hi => by omega
  | m + 1, x, h, i, hi => by
    obtain ⟨q, r0, rfl, w0, h⟩ := h
    obtain ⟨a, r1, rfl, w1, h⟩ := h
    obtain ⟨b, r2, rfl, w2, h⟩ := h
    obtain ⟨c, r3, rfl, w3, h⟩ := h
    obtain ⟨d, r4, rfl, w4, h⟩ := h
    obtain ⟨e, r5, rfl, w5, h⟩ := h
    obtain ⟨f, r6, rfl, w6, h⟩ := h
    cases i with
    | zero => exact ⟨q, a, b, c, d, e, f, rfl, rfl, rfl, rfl, rfl, rfl, rfl, wf_u8 w0, wf_i16 w1, wf_i16 w2, wf_i16 w3, wf_i16 w4, wf_i16 w5, wf_i16 w6⟩
    | succ i =>
      obtain ⟨q', a', b', c', d', e', f', g0, g1, g2, g3, g4, g5, g6, gw⟩ := k7 h i (by omega)
      refine ⟨q', a', b', c', d', e', f', ?_, ?_, ?_, ?_, ?_, ?_, ?_, gw⟩
      · rw [show 7 * (i + 1) = 7 * i + 1 + 1 + 1 + 1 + 1 + 1 + 1 by omega]; exact g0
      · rw [show 7 * (i + 1) + 1 = 7 * i + 1 + 1 + 1 + 1 + 1 + 1 + 1 + 1 by omega]; exact g1
      · rw [show 7 * (i + 1) + 2 = 7 * i + 2 + 1 + 1 + 1 + 1 + 1 + 1 + 1 by omega]; exact g2
      · rw [show 7 * (i + 1) + 3 = 7 * i + 3 + 1 + 1 + 1 + 1 + 1 + 1 + 1 by omega]; exact g3
      · rw [show 7 * (i + 1) + 4 = 7 * i + 4 + 1 + 1 + 1 + 1 + 1 + 1 + 1 by omega]; exact g4
      · rw [show 7 * (i + 1) + 5 = 7 * i + 5 + 1 + 1 + 1 + 1 + 1 + 1 + 1 by omega]; exact g5
      · rw [show 7 * (i + 1) + 6 = 7 * i + 6 + 1 + 1 + 1 + 1 + 1 + 1 + 1 by omega]; exact g6
def kind (q : Int) : Int := if q % 8 = 1 then 1 else if q % 8 = 3 ∨ q % 8 = 6 then 3 else if q % 8 = 5 then 4 else 2
theorem t60 {q : Int} (h : 0 ≤ q) : t6_0 q = kind q ∧ cellB [AV.int .i64 (2), AV.int .i64 (1), AV.int .i64 (2), AV.int .i64 (3), AV.int .i64 (2), AV.int .i64 (4), AV.int .i64 (3), AV.int .i64 (2)] (atI 0 (Int.tmod q 8) 1) (CK.int .i64) = true := by
  have e : Int.tmod q 8 = q % 8 := Int.tmod_eq_emod_of_nonneg h
  unfold t6_0 kind
  rw [e]
  have : q % 8 = 0 ∨ q % 8 = 1 ∨ q % 8 = 2 ∨ q % 8 = 3 ∨ q % 8 = 4 ∨ q % 8 = 5 ∨ q % 8 = 6 ∨ q % 8 = 7 := by omega
  rcases this with h | h | h | h | h | h | h | h <;> rw [h] <;> exact ⟨by kernel_rfl, by kernel_rfl⟩
theorem c61 (q : Int) : c6_1 q = eqI (t6_0 q) 1 := rfl
theorem md {a : Int} (h : -32768 ≤ a ∧ a ≤ 32767) : inR (Int.tmod (wrapA .i64 a) 16385) := by
  rw [wrap64 (by omega) (by omega)]
  have h1 := Int.tmod_lt_of_pos a (b := 16385) (by omega)
  have h2 := Int.lt_tmod_of_pos a (b := 16385) (by omega)
  exact ⟨by omega, by omega⟩
def strk (q a b c d e f : Int) : St := if kind q = 4 then ⟨4, 0, 0, 0, 0, 0, 0⟩ else if kind q = 3 then ⟨3, Int.tmod (wrapA .i64 a) 16385, Int.tmod (wrapA .i64 b) 16385, Int.tmod (wrapA .i64 c) 16385, Int.tmod (wrapA .i64 d) 16385, Int.tmod (wrapA .i64 e) 16385, Int.tmod (wrapA .i64 f) 16385⟩ else ⟨kind q, Int.tmod (wrapA .i64 a) 16385, Int.tmod (wrapA .i64 b) 16385, 0, 0, 0, 0⟩
theorem kinds (q : Int) : kind q = 1 ∨ kind q = 2 ∨ kind q = 3 ∨ kind q = 4 := by unfold kind; split <;> (try split) <;> (try split) <;> simp
theorem f6 {q a b c d e f : Int} (hq : 0 ≤ q ∧ q ≤ 255) : F6 q a b c d e f = some ((strk q a b c d e f).k, (strk q a b c d e f).a, (strk q a b c d e f).b, (strk q a b c d e f).c, (strk q a b c d e f).d, (strk q a b c d e f).e, (strk q a b c d e f).f) := by
  obtain ⟨h1, h2⟩ := t60 hq.1
  have hm : Int.tmod q 8 = q % 8 := Int.tmod_eq_emod_of_nonneg hq.1
  unfold F6
  rw [h2, c61, h1, inT (by omega) (by omega)]
  unfold strk
  rcases kinds q with h | h | h | h <;> rw [h] <;> rfl
theorem strkV {q a b c d e f : Int} (ha : -32768 ≤ a ∧ a ≤ 32767) (hb : -32768 ≤ b ∧ b ≤ 32767) (hc : -32768 ≤ c ∧ c ≤ 32767) (hd : -32768 ≤ d ∧ d ≤ 32767) (he : -32768 ≤ e ∧ e ≤ 32767) (hf : -32768 ≤ f ∧ f ≤ 32767) : V (strk q a b c d e f) := by
  unfold strk
  by_cases h4 : kind q = 4
  · rw [if_pos h4]; exact .inr (.inr ⟨rfl, rfl, rfl, rfl, rfl, rfl, rfl⟩)
  rw [if_neg h4]
  by_cases h3 : kind q = 3
  · rw [if_pos h3]; exact .inr (.inl ⟨rfl, md ha, md hb, md hc, md hd, md he, md hf⟩)
  rw [if_neg h3]
  exact .inl ⟨by have := kinds q; show kind q = 1 ∨ kind q = 2; omega, md ha, md hb, rfl, rfl, rfl, rfl⟩
/-- what the program reads of stroke i is a valid step -/
theorem stroke {c0 : Nat} {x0 : List AV} (hx : KOk (kRep c0 [.int .u8, .int .i16, .int .i16, .int .i16, .int .i16, .int .i16, .int .i16]) x0) {i : Nat} (hi : i < c0) :
    ∃ s : St, V s ∧ cellsB x0 (7 * i) ([] ++ [CK.int .u8] ++ ckRep 3 (ckRep 2 [CK.int .i16])) = true ∧ F6 (intC x0 (7 * i)) (intC x0 (7 * i + 1)) (intC x0 (7 * i + 1 + 1)) (intC x0 (7 * i + 1 + 1 + 1)) (intC x0 (7 * i + 1 + 1 + 1 + 1)) (intC x0 (7 * i + 1 + 1 + 1 + 1 + 1)) (intC x0 (7 * i + 1 + 1 + 1 + 1 + 1 + 1)) = some (s.k, s.a, s.b, s.c, s.d, s.e, s.f) := by
  obtain ⟨q, a, b, c, d, e, f, g0, g1, g2, g3, g4, g5, g6, hq, ha, hb, hc, hd, he, hf⟩ := k7 hx i hi
  refine ⟨strk q a b c d e f, strkV ha hb hc hd he hf, ?_, ?_⟩
  · show cellsB x0 (7 * i) [.int .u8, .int .i16, .int .i16, .int .i16, .int .i16, .int .i16, .int .i16] = true
    simp only [cellsB, andB_eq, cellB, isIntC, Nat.add_assoc, g0, g1, g2, g3, g4, g5, g6]
    exact ⟨rfl, rfl, rfl, rfl, rfl, rfl, rfl⟩
  · have e0 : intC x0 (7 * i) = q := by simp only [intC, g0]
    have e1 : intC x0 (7 * i + 1) = a := by simp only [intC, g1]
    have e2 : intC x0 (7 * i + 1 + 1) = b := by simp only [intC, Nat.add_assoc, g2]
    have e3 : intC x0 (7 * i + 1 + 1 + 1) = c := by simp only [intC, Nat.add_assoc, g3]
    have e4 : intC x0 (7 * i + 1 + 1 + 1 + 1) = d := by simp only [intC, Nat.add_assoc, g4]
    have e5 : intC x0 (7 * i + 1 + 1 + 1 + 1 + 1) = e := by simp only [intC, Nat.add_assoc, g5]
    have e6 : intC x0 (7 * i + 1 + 1 + 1 + 1 + 1 + 1) = f := by simp only [intC, Nat.add_assoc, g6]
    rw [e0, e1, e2, e3, e4, e5, e6]
    exact f6 hq
theorem f6x {q a b c d e f : Int} {s : St} (h : F6 q a b c d e f = some (s.k, s.a, s.b, s.c, s.d, s.e, s.f)) : F6_0 q a b c d e f = s.k ∧ F6_1 q a b c d e f = s.a ∧ F6_2 q a b c d e f = s.b ∧ F6_3 q a b c d e f = s.c ∧ F6_4 q a b c d e f = s.d ∧ F6_5 q a b c d e f = s.e ∧ F6_6 q a b c d e f = s.f := by
  unfold F6_0 F6_1 F6_2 F6_3 F6_4 F6_5 F6_6; rw [h]; exact ⟨rfl, rfl, rfl, rfl, rfl, rfl, rfl⟩
/-- the points stay within the limits -/
def inW (z : Int × Int × Int × Int) : Prop := inR z.1 ∧ inR z.2.1 ∧ inR z.2.2.1 ∧ inR z.2.2.2
theorem walk_in : ∀ (P : List St) (l : Int) (z : Int × Int × Int × Int), chain l P → inW z → inW (walkP z P)
  | [], _, z, _, h => h
  | s :: P, l, z, hc, h => by
    obtain ⟨hv, _, hc⟩ := hc
    refine walk_in P s.k _ hc ?_
    rcases hv with ⟨hk, ha, hb, _⟩ | ⟨hk, ha, hb, hcc, hd, he, hf⟩ | ⟨hk, _⟩
    · rcases hk with hk | hk
      · rw [if_pos hk]; exact ⟨ha, hb, ha, hb⟩
      · rw [if_neg (by omega), if_neg (by omega), if_pos hk]; exact ⟨h.1, h.2.1, ha, hb⟩
    · rw [if_neg (by omega), if_neg (by omega), if_neg (by omega)]; exact ⟨h.1, h.2.1, he, hf⟩
    · rw [if_neg (by omega), if_pos hk]; exact ⟨h.1, h.2.1, h.1, h.2.1⟩
theorem inR0 : inR 0 := ⟨by omega, by omega⟩
theorem z0in : inW (0, 0, 0, 0) := ⟨inR0, inR0, inR0, inR0⟩
abbrev wk (P : List St) : Int × Int × Int × Int := walkP (0, 0, 0, 0) P
theorem wk_snoc (P : List St) (s : St) : wk (P ++ [s]) = if s.k = 1 then (s.a, s.b, s.a, s.b) else if s.k = 4 then ((wk P).1, (wk P).2.1, (wk P).1, (wk P).2.1) else if s.k = 2 then ((wk P).1, (wk P).2.1, s.a, s.b) else ((wk P).1, (wk P).2.1, s.e, s.f) := by
  unfold wk; rw [walk_app]; rfl
theorem chain_snoc {P : List St} {s : St} (h : chain 0 P) (hv : V s) (hf : fol (lastK 0 P) s.k) : chain 0 (P ++ [s]) := chain_app P 0 [s] h ⟨hv, hf, trivial⟩
theorem stc_one (s : St) : stc [s] = s.cells := by simp [stc]
theorem stc_snoc (P : List St) (s : St) : stc (P ++ [s]) = stc P ++ [AV.int .i64 s.k, AV.int .i64 s.a, AV.int .i64 s.b, AV.int .i64 s.c, AV.int .i64 s.d, AV.int .i64 s.e, AV.int .i64 s.f] := by rw [stc_app, stc_one]; rfl
theorem f24x_ {P : List St} {cc n : Nat} (h : F24u n (stc P) P.length cc = some ((wk P).2.2.1, (wk P).2.2.2)) : F24u_0 n (stc P) P.length cc = (wk P).2.2.1 ∧ F24u_1 n (stc P) P.length cc = (wk P).2.2.2 := by
  unfold F24u_0 F24u_1; rw [h]; exact ⟨rfl, rfl⟩
theorem f24y_ {P : List St} {cc n : Nat} (h : F24x n (stc P) P.length cc = some ((wk P).2.2.1, (wk P).2.2.2)) : F24x_0 n (stc P) P.length cc = (wk P).2.2.1 ∧ F24x_1 n (stc P) P.length cc = (wk P).2.2.2 := by
  unfold F24x_0 F24x_1; rw [h]; exact ⟨rfl, rfl⟩
theorem same2 {a b c d : Int} (h1 : a = c) (h2 : b = d) : (!andB (eqI a c) (andB (eqI b d) true)) = false := by rw [eqT h1, eqT h2]; rfl

theorem concat_of {P : List St} (h : P ≠ []) : ∃ Q t, P = Q ++ [t] := ⟨P.dropLast, P.getLast h, (List.dropLast_concat_getLast h).symm⟩
/-- the facts of stroke i, under the names that the second loop gives them -/
theorem names2 {c0 : Nat} {x0 : List AV} (hx : KOk (kRep c0 [.int .u8, .int .i16, .int .i16, .int .i16, .int .i16, .int .i16, .int .i16]) x0) {i : Nat} (hi : i < c0) :
    ∃ s : St, V s ∧ cellsB x0 (atI 0 (i : Int) 7) ([] ++ [CK.int .u8] ++ ckRep 3 (ckRep 2 [CK.int .i16])) = true ∧ (F6 (intC x0 (atI 0 (i : Int) 7)) (t3s_286 x0 i) (t3s_287 x0 i) (t3s_288 x0 i) (t3s_289 x0 i) (t3s_290 x0 i) (t3s_291 x0 i)).isSome = true ∧
      t3s_292 x0 i = s.k ∧ t3s_293 x0 i = s.a ∧ t3s_294 x0 i = s.b ∧ t3s_295 x0 i = s.c ∧ t3s_296 x0 i = s.d ∧ t3s_297 x0 i = s.e ∧ t3s_298 x0 i = s.f ∧ c3s_299 x0 i = false := by
  obtain ⟨s, hv, h1, h2⟩ := stroke hx hi
  refine ⟨s, hv, by rw [at7]; exact h1, ?_⟩
  unfold c3s_299 t3s_292 t3s_293 t3s_294 t3s_295 t3s_296 t3s_297 t3s_298 t3s_286 t3s_287 t3s_288 t3s_289 t3s_290 t3s_291
  rw [at7, h2]
  obtain ⟨e0, e1, e2, e3, e4, e5, e6⟩ := f6x h2
  rw [e0, e1, e2, e3, e4, e5, e6, f23' hv]
  exact ⟨rfl, rfl, rfl, rfl, rfl, rfl, rfl, rfl, rfl⟩
theorem names1 {c0 : Nat} {x0 : List AV} (hx : KOk (kRep c0 [.int .u8, .int .i16, .int .i16, .int .i16, .int .i16, .int .i16, .int .i16]) x0) {i : Nat} (hi : i < c0) :
    ∃ s : St, V s ∧ cellsB x0 (atI 0 (i : Int) 7) ([] ++ [CK.int .u8] ++ ckRep 3 (ckRep 2 [CK.int .i16])) = true ∧ (F6 (intC x0 (atI 0 (i : Int) 7)) (t3s_242 x0 i) (t3s_243 x0 i) (t3s_244 x0 i) (t3s_245 x0 i) (t3s_246 x0 i) (t3s_247 x0 i)).isSome = true ∧
      t3s_250 x0 i = s.k ∧ t3s_251 x0 i = s.a ∧ t3s_252 x0 i = s.b ∧ t3s_253 x0 i = s.c ∧ t3s_254 x0 i = s.d ∧ t3s_255 x0 i = s.e ∧ t3s_256 x0 i = s.f ∧ c3s_258 x0 i = false := by
  obtain ⟨s, hv, h1, h2⟩ := stroke hx hi
  refine ⟨s, hv, by rw [at7]; exact h1, ?_⟩
  unfold c3s_258 t3s_250 t3s_251 t3s_252 t3s_253 t3s_254 t3s_255 t3s_256 t3s_242 t3s_243 t3s_244 t3s_245 t3s_246 t3s_247
  rw [at7, h2]
  obtain ⟨e0, e1, e2, e3, e4, e5, e6⟩ := f6x h2
  rw [e0, e1, e2, e3, e4, e5, e6, f23' hv]
  exact ⟨rfl, rfl, rfl, rfl, rfl, rfl, rfl, rfl, rfl⟩
theorem names0 {c0 : Nat} {x0 : List AV} (hx : KOk (kRep c0 [.int .u8, .int .i16, .int .i16, .int .i16, .int .i16, .int .i16, .int .i16]) x0) {i : Nat} (hi : i < c0) :
    ∃ s : St, V s ∧ cellsB x0 (atI 0 (i : Int) 7) ([] ++ [CK.int .u8] ++ ckRep 3 (ckRep 2 [CK.int .i16])) = true ∧ (F6 (intC x0 (atI 0 (i : Int) 7)) (t3s_223 x0 i) (t3s_224 x0 i) (t3s_225 x0 i) (t3s_226 x0 i) (t3s_227 x0 i) (t3s_228 x0 i)).isSome = true ∧
      t3s_229 x0 i = s.k ∧ t3s_230 x0 i = s.a ∧ t3s_231 x0 i = s.b ∧ t3s_232 x0 i = s.c ∧ t3s_233 x0 i = s.d ∧ t3s_234 x0 i = s.e ∧ t3s_235 x0 i = s.f ∧ c3s_236 x0 i = false := by
  obtain ⟨s, hv, h1, h2⟩ := stroke hx hi
  refine ⟨s, hv, by rw [at7]; exact h1, ?_⟩
  unfold c3s_236 t3s_229 t3s_230 t3s_231 t3s_232 t3s_233 t3s_234 t3s_235 t3s_223 t3s_224 t3s_225 t3s_226 t3s_227 t3s_228
  rw [at7, h2]
  obtain ⟨e0, e1, e2, e3, e4, e5, e6⟩ := f6x h2
  rw [e0, e1, e2, e3, e4, e5, e6, f23' hv]
  exact ⟨rfl, rfl, rfl, rfl, rfl, rfl, rfl, rfl, rfl⟩
theorem k305 (n : Nat) : k3s_305 n = n := by unfold k3s_305; omega
theorem sub1 {n : Nat} (h : 1 ≤ n) (h2 : n ≤ 1000) : wrapA .i64 (Int.sub (n : Int) 1) = ((n - 1 : Nat) : Int) := by
  rw [show Int.sub (n : Int) 1 = (n : Int) - 1 from rfl, wrap64 (by omega) (by omega)]; omega
theorem k306 {n : Nat} (h : 1 ≤ n) (h2 : n ≤ 1000) : k3s_306 n = 7 * (n - 1) := by unfold k3s_306; rw [sub1 h h2, at7, Nat.add_zero]
theorem sel0 (a : Nat) : selN a 0 0 0 = 0 := by unfold selN; split <;> rfl
theorem k311 (n : Nat) : k3s_311 n = 0 := by unfold k3s_311; exact sel0 _
theorem k312 {n : Nat} (h : 1 ≤ n) (h2 : n ≤ 1000) : k3s_312 n = n - 1 := by unfold k3s_312; rw [sub1 h h2]; omega
theorem add2 {n : Nat} (h2 : n ≤ 1000) : wrapA .i64 (Int.add (n : Int) 2) = ((n + 2 : Nat) : Int) := by rw [add_int, wrap64 (by omega) (by omega)]; omega
theorem take_all (P : List St) : List.take (P.length * 7) (List.drop 0 (stc P)) = stc P := by
  rw [List.drop_zero, List.take_of_length_le (by rw [stc_len]; omega)]
theorem take_pre (Q : List St) (t : St) : List.take (Q.length * 7) (List.drop 0 (stc (Q ++ [t]))) = stc Q := by
  rw [List.drop_zero, Nat.mul_comm, stc_take, List.take_left']
  rfl
/-- a grown path, checked, and its current point -/
theorem grown {N : List St} (h : chain 0 N) (hl : N.length ≤ 300) {n : Nat} (hn : 301 ≤ n) : (F8u n (stc N) N.length N.length).isSome = true ∧ F8u_0 n (stc N) N.length N.length = 0 ∧ (F24u n (stc N) N.length N.length).isSome = true ∧ F24u_0 n (stc N) N.length N.length = (wk N).2.2.1 ∧ F24u_1 n (stc N) N.length N.length = (wk N).2.2.2 := by
  have h1 := f8u N N.length hl h hn
  have h2 := f24u N N.length hl h hn
  obtain ⟨h3, h4⟩ := f24x_ h2
  exact ⟨by rw [h1]; rfl, f8u_0 N N.length hl h hn, by rw [h2]; rfl, h3, h4⟩
theorem grown1 {N : List St} (h : chain 0 N) (hl : N.length ≤ 300) {n : Nat} (hn : 301 ≤ n) : (F8x n (stc N) N.length N.length).isSome = true ∧ F8x_0 n (stc N) N.length N.length = 0 ∧ (F24x n (stc N) N.length N.length).isSome = true ∧ F24x_0 n (stc N) N.length N.length = (wk N).2.2.1 ∧ F24x_1 n (stc N) N.length N.length = (wk N).2.2.2 := by
  have h1 := f8x N N.length hl h hn
  have h2 := f24x N N.length hl h hn
  obtain ⟨h3, h4⟩ := f24y_ h2
  exact ⟨by rw [h1]; rfl, f8x_0 N N.length hl h hn, by rw [h2]; rfl, h3, h4⟩
theorem capU (n : Nat) : (match Cap.upto 7 n with | Cap.exact c => c | Cap.upto _ _ => n) = n := rfl
theorem blt1 (n : Nat) : Nat.blt n (n + 1) = true := nbltT (by omega)
theorem leBs (n : Nat) : leB n n = true := leB_le.2 (Nat.le_refl _)
theorem z00 : eqI 0 0 = true := by kernel_rfl

theorem g2 (x0 : List AV) (c0 k0 : Nat) (hx : KOk (kRep c0 [.int .u8, .int .i16, .int .i16, .int .i16, .int .i16, .int .i16, .int .i16]) x0) : ∀ (n i : Nat) (P : List St), i ≤ 200 → 502 - i ≤ n → chain 0 P → P ≠ [] → P.length ≤ 300 → L3s_2 x0 c0 k0 n P.length i (stc P) (wk P).1 (wk P).2.1 = some true := by
  intro n
  induction n with
  | zero => intro i P h1 h2; omega
  | succ n ih =>
    intro i P h1 h2 hc hne hl
    obtain ⟨p1, p2, p3, p4, p5⟩ := grown hc hl (n := n) (by omega)
    have pp := stc_pure P
    rw [L3s_2_succ]
    by_cases q0 : i < c0
    · by_cases q1 : i < 200
      · obtain ⟨s, hv, a1, a2, eK, eA, eB, eC, eD, eE, eF, a3⟩ := names2 hx q0
        obtain ⟨Q, t, rfl⟩ := concat_of hne
        have hlen : (Q ++ [t]).length = Q.length + 1 := by simp
        obtain ⟨cQ, ct⟩ := chain_pre Q 0 [t] hc
        obtain ⟨vt, ft, _⟩ := ct
        have b1 : ltI (i : Int) (c0 : Int) = true := ltT (by omega)
        have b2 : ltI (i : Int) 200 = true := ltT (by omega)
        have b3 : inB (i : Int) c0 = true := inT (by omega) (by omega)
        have ei := i64s (i := i) (by omega)
        have b4 : eqI (((Q ++ [t]).length : Nat) : Int) 0 = false := eqF (by omega)
        have b5 := leBs (Q ++ [t]).length
        have b6 : inB (wrapA .i64 (Int.sub (((Q ++ [t]).length : Nat) : Int) 1)) (Q ++ [t]).length = true := by rw [sub1 (by omega) (by omega)]; exact inT (by omega) (by omega)
        have hg : (Q ++ [t])[Q.length]? = some t := by simp
        have k6 : k3s_306 (Q ++ [t]).length = 7 * Q.length := by rw [k306 (by omega) (by omega), hlen, Nat.add_sub_cancel]
        have b7 : cellB (stc (Q ++ [t])) (7 * Q.length) (CK.int .i64) = true := stc_cell hg 0 _ rfl
        have b8 : intC (stc (Q ++ [t])) (7 * Q.length) = t.k := stc_k hg
        have k2 : k3s_312 (Q ++ [t]).length = Q.length := by rw [k312 (by omega) (by omega), hlen, Nat.add_sub_cancel]
        have b9 : (!ltI (wrapA .i64 (Int.sub (((Q ++ [t]).length : Nat) : Int) 1)) 0) = true := by rw [sub1 (by omega) (by omega)]; exact nltT (by omega)
        have b10 : Int.toNat (wrapA .i64 (Int.sub (((Q ++ [t]).length : Nat) : Int) 1)) = Q.length := by rw [sub1 (by omega) (by omega)]; omega
        have b11 := leBs Q.length
        have b12 : leB Q.length (Q ++ [t]).length = true := leB_le.2 (by omega)
        have k5 := k305 (Q ++ [t]).length
        have again := ih (i + 1) (Q ++ [t]) (by omega) (by omega) hc hne hl
        have lt := lastK_app Q 0 t
        -- the path with one more step
        have grow1 : fol t.k s.k → (Q ++ [t]).length + 1 ≤ 300 → ∃ N, N = (Q ++ [t]) ++ [s] ∧ N.length = (Q ++ [t]).length + 1 ∧ chain 0 N ∧ stc N = stc (Q ++ [t]) ++ [AV.int .i64 s.k, AV.int .i64 s.a, AV.int .i64 s.b, AV.int .i64 s.c, AV.int .i64 s.d, AV.int .i64 s.e, AV.int .i64 s.f] := fun hf _ =>
          ⟨_, rfl, by simp, chain_snoc hc hv (by rw [lt]; exact hf), stc_snoc _ _⟩
        have e25 : l3s_325 x0 (Q ++ [t]).length i (stc (Q ++ [t])) = stc (Q ++ [t]) ++ [AV.int .i64 s.k, AV.int .i64 s.a, AV.int .i64 s.b, AV.int .i64 s.c, AV.int .i64 s.d, AV.int .i64 s.e, AV.int .i64 s.f] := by
          unfold l3s_325; rw [k5, sel0, take_all, eK, eA, eB, eC, eD, eE, eF]
        have e15 : l3s_315 x0 (Q ++ [t]).length i (stc (Q ++ [t])) = stc Q ++ [AV.int .i64 s.k, AV.int .i64 s.a, AV.int .i64 s.b, AV.int .i64 s.c, AV.int .i64 s.d, AV.int .i64 s.e, AV.int .i64 s.f] := by
          unfold l3s_315; rw [k311, k2, take_pre, eK, eA, eB, eC, eD, eE, eF]
        have b13 := blt1 (Q ++ [t]).length
        have b14 := blt1 ((Q ++ [t]).length + 1)
        have b15 : Nat.ble (Q ++ [t]).length 10000000 = true := nbleT (by omega)
        have b16 : Nat.ble ((Q ++ [t]).length + 1) 10000000 = true := nbleT (by omega)
        have b17 : Nat.ble (selN (Q ++ [t]).length 0 0 0 + (Q ++ [t]).length * 7) (List.length (stc (Q ++ [t]))) = true := by rw [sel0, stc_len]; exact nbleT (by omega)
        have b18 := blt1 Q.length
        have b19 : Nat.ble Q.length 10000000 = true := nbleT (by omega)
        have b20 : Nat.ble (0 + Q.length * 7) (List.length (stc (Q ++ [t]))) = true := by rw [stc_len]; exact nbleT (by omega)
        have k1 := k311 (Q ++ [t]).length
        have ltx : ltI (((Q ++ [t]).length : Nat) : Int) (((Q ++ [t]).length : Nat) : Int) = false := ltF (by omega)
        have c307 : c3s_307 (Q ++ [t]).length = false := by unfold c3s_307; rw [add2 (by omega)]; exact ltF (by omega)
        have c327 : c3s_327 (Q ++ [t]).length = false := by unfold c3s_327; rw [k5]; exact ltF (by omega)
        have c328 : c3s_328 (Q ++ [t]).length = false := by unfold c3s_328; rw [k5, add2 (by omega)]; exact ltF (by omega)
        have z0 := z00
        have bK := vk hv
        have bT := vk vt
        -- one more step: what follows from the limit
        have D : ∀ (w : Prop), fol t.k s.k → (300 < (Q ++ [t]).length + 1 → c3s_323 (Q ++ [t]).length = true ∧ ltI (((Q ++ [t]).length : Nat) : Int) 299 = false → w) → ((Q ++ [t]).length + 1 ≤ 300 → c3s_323 (Q ++ [t]).length = false →
            pureAVs (l3s_325 x0 (Q ++ [t]).length i (stc (Q ++ [t]))) = true → (F8u n (l3s_325 x0 (Q ++ [t]).length i (stc (Q ++ [t]))) ((Q ++ [t]).length + 1) ((Q ++ [t]).length + 1)).isSome = true → c3s_326 n x0 (Q ++ [t]).length i (stc (Q ++ [t])) = false → (F24u n (l3s_325 x0 (Q ++ [t]).length i (stc (Q ++ [t]))) ((Q ++ [t]).length + 1) ((Q ++ [t]).length + 1)).isSome = true →
            t3s_330 n x0 (Q ++ [t]).length i (stc (Q ++ [t])) = (wk ((Q ++ [t]) ++ [s])).2.2.1 → t3s_331 n x0 (Q ++ [t]).length i (stc (Q ++ [t])) = (wk ((Q ++ [t]) ++ [s])).2.2.2 →
            L3s_2 x0 c0 k0 n ((Q ++ [t]).length + 1) ((i + 1 : Nat) : Int) (l3s_325 x0 (Q ++ [t]).length i (stc (Q ++ [t]))) (wk ((Q ++ [t]) ++ [s])).1 (wk ((Q ++ [t]) ++ [s])).2.1 = some true → w) → w := by
          intro w hf k1 k2
          by_cases u : 300 < (Q ++ [t]).length + 1
          · exact k1 u ⟨by unfold c3s_323; rw [k5]; exact ltT (by omega), ltF (by omega)⟩
          · obtain ⟨N, hN, hNl, hNc, hNs⟩ := grow1 hf (by omega)
            obtain ⟨g1, g2, g3, g4, g5⟩ := grown hNc (by omega) (n := n) (by omega)
            have st := ih (i + 1) N (by omega) (by omega) hNc (by rw [hN]; simp) (by omega)
            have hs : l3s_325 x0 (Q ++ [t]).length i (stc (Q ++ [t])) = stc N := by rw [e25, hNs]
            rw [hNl] at g1 g2 g3 g4 g5 st
            refine k2 (by omega) (by unfold c3s_323; rw [k5]; exact ltF (by omega)) (by rw [hs]; exact stc_pure N) (by rw [hs]; exact g1) (by unfold c3s_326; rw [hs, k5, g2, z00]; rfl) (by rw [hs]; exact g3) (by unfold t3s_330; rw [hs, k5, g4, hN]) (by unfold t3s_331; rw [hs, k5, g5, hN]) (by rw [hs, ← hN]; exact st)
        rcases bK with hK | hK | hK | hK
        · -- a Move
          have n4 : eqI s.k 4 = false := eqF (by omega)
          have n1 : eqI s.k 1 = true := eqT (by omega)
          by_cases hT : t.k = 1
          · -- in the place of the last Move
            have m1 : eqI t.k 1 = true := eqT hT
            have cN : chain 0 (Q ++ [s]) := chain_snoc cQ hv (by rw [hK, ← hT]; exact ft)
            have hNl : (Q ++ [s]).length = Q.length + 1 := by simp
            obtain ⟨g1, g2, g3, g4, g5⟩ := grown cN (by omega) (n := n) (by omega)
            have st := ih (i + 1) (Q ++ [s]) (by omega) (by omega) cN (by simp) (by omega)
            have hs : l3s_315 x0 (Q ++ [t]).length i (stc (Q ++ [t])) = stc (Q ++ [s]) := by rw [e15, stc_snoc]
            have wN := wk_snoc Q s
            rw [if_pos hK] at wN
            rw [hNl] at g1 g2 g3 g4 g5 st
            have r0 : c3s_313 (Q ++ [t]).length = false := by unfold c3s_313; rw [k2]; exact ltF (by omega)
            have r1 : pureAVs (stc (Q ++ [s])) = true := stc_pure _
            have r2 : c3s_316 n x0 (Q ++ [t]).length i (stc (Q ++ [t])) = false := by unfold c3s_316; rw [hs, k2, g2, z00]; rfl
            have r3 : c3s_317 (Q ++ [t]).length = false := by unfold c3s_317; rw [k2]; exact ltF (by omega)
            have r4 : c3s_318 (Q ++ [t]).length = false := by unfold c3s_318; rw [k2, add2 (by omega)]; exact ltF (by omega)
            have r5 : c3s_322 n x0 (Q ++ [t]).length i (stc (Q ++ [t])) = false := by
              unfold c3s_322 t3s_320 t3s_321; rw [hs, k2, g4, g5, wN, eA, eB]; exact same2 rfl rfl
            rw [wN] at st
            simp only [b1, b2, b3, a1, a2, a3, pp, p1, p2, z0, b4, Int.toNat_natCast, b5, capU, b6, k6, b7, b8, eK, n4, n1, m1, condT, condF, notT, notF, b9, b10, b11, b12, k2, b18, b19, k1, b20, r0, hs, r1, g1, r2, r3, r4, g3, r5, ei, eA, eB, st]
          · have m1 : eqI t.k 1 = false := eqF hT
            have wN := wk_snoc (Q ++ [t]) s
            rw [if_pos hK] at wN
            refine D _ (by rw [hK]; unfold fol; omega) (fun u k => ?_) (fun u r0 r1 r2 r3 r4 r5 r6 st => ?_)
            · simp only [b1, b2, b3, a1, a2, a3, pp, p1, p2, z0, b4, Int.toNat_natCast, b5, capU, b6, k6, b7, b8, eK, n4, n1, m1, condT, condF, notT, notF, k5, b13, b15, b17, k.1, k.2, ei, again]
            · have r7 : c3s_332 n x0 (Q ++ [t]).length i (stc (Q ++ [t])) = false := by unfold c3s_332; rw [r5, r6, wN, eA, eB]; exact same2 rfl rfl
              rw [wN] at st
              simp only [b1, b2, b3, a1, a2, a3, pp, p1, p2, z0, b4, Int.toNat_natCast, b5, capU, b6, k6, b7, b8, eK, n4, n1, m1, condT, condF, notT, notF, k5, b13, b15, b17, r0, r1, r2, r3, c327, c328, r4, r7, ei, eA, eB, st]
        · have n4 : eqI s.k 4 = false := eqF (by omega)
          have n1 : eqI s.k 1 = false := eqF (by omega)
          have n3 : eqI s.k 3 = false := eqF (by omega)
          by_cases hT : t.k = 4
          · -- behind a Close: a Move comes in between
            have m4 : eqI t.k 4 = true := eqT hT
            have wP := wk_snoc Q t
            rw [if_neg (by omega), if_pos hT] at wP
            have wI := walk_in (Q ++ [t]) 0 (0, 0, 0, 0) hc z0in
            have cM : chain 0 ((Q ++ [t]) ++ [⟨1, (wk (Q ++ [t])).2.2.1, (wk (Q ++ [t])).2.2.2, 0, 0, 0, 0⟩]) := chain_snoc hc (.inl ⟨.inl rfl, wI.2.2.1, wI.2.2.2, rfl, rfl, rfl, rfl⟩) (by rw [lt]; show fol t.k 1; unfold fol; omega)
            have wM := wk_snoc (Q ++ [t]) ⟨1, (wk (Q ++ [t])).2.2.1, (wk (Q ++ [t])).2.2.2, 0, 0, 0, 0⟩
            rw [if_pos rfl] at wM
            have wN := wk_snoc ((Q ++ [t]) ++ [⟨1, (wk (Q ++ [t])).2.2.1, (wk (Q ++ [t])).2.2.2, 0, 0, 0, 0⟩]) s
            rw [if_neg (by omega), if_neg (by omega), if_pos hK] at wN
            rw [wM] at wN
            have sM := stc_snoc (Q ++ [t]) ⟨1, (wk (Q ++ [t])).2.2.1, (wk (Q ++ [t])).2.2.2, 0, 0, 0, 0⟩
            have sN := stc_snoc ((Q ++ [t]) ++ [⟨1, (wk (Q ++ [t])).2.2.1, (wk (Q ++ [t])).2.2.2, 0, 0, 0, 0⟩]) s
            have lM := lastK_app (Q ++ [t]) 0 ⟨1, (wk (Q ++ [t])).2.2.1, (wk (Q ++ [t])).2.2.2, 0, 0, 0, 0⟩
            have k36 : k3s_336 (Q ++ [t]).length = (Q ++ [t]).length + 1 + 1 := by unfold k3s_336; rw [k5]
            have e35 : l3s_335 n (Q ++ [t]).length (stc (Q ++ [t])) = stc ((Q ++ [t]) ++ [⟨1, (wk (Q ++ [t])).2.2.1, (wk (Q ++ [t])).2.2.2, 0, 0, 0, 0⟩]) := by
              unfold l3s_335; rw [k5, sel0, take_all, p4, p5, sM]
            have e38 : l3s_338 n x0 (Q ++ [t]).length i (stc (Q ++ [t])) = stc (((Q ++ [t]) ++ [⟨1, (wk (Q ++ [t])).2.2.1, (wk (Q ++ [t])).2.2.2, 0, 0, 0, 0⟩]) ++ [s]) := by
              unfold l3s_338; rw [k5, sel0, take_all, p4, p5, eK, eA, eB, eC, eD, eE, eF, sN, sM]
            have b21 : Nat.beq (List.length (l3s_335 n (Q ++ [t]).length (stc (Q ++ [t])))) (0 + ((Q ++ [t]).length + 1) * 7) = true := by
              rw [e35, stc_len]; exact nbeqT (by simp; omega)
            by_cases u : 300 < (Q ++ [t]).length + 2
            · have r0 : c3s_337 (Q ++ [t]).length = true := by unfold c3s_337; rw [k5]; exact ltT (by omega)
              have r1 : ltI (((Q ++ [t]).length : Nat) : Int) 299 = false := ltF (by omega)
              simp only [b1, b2, b3, a1, a2, a3, pp, p1, p2, z0, b4, Int.toNat_natCast, b5, capU, b6, k6, b7, b8, eK, n4, n1, condT, condF, notT, notF, ei, eA, eB, eE, eF, m4, p3, k5, b13, b14, b15, b16, b17, b21, r0, r1, again]
            · have cN := chain_snoc cM hv (by rw [lM]; unfold fol; simp; omega)
              generalize hN : ((Q ++ [t]) ++ [(⟨1, (wk (Q ++ [t])).2.2.1, (wk (Q ++ [t])).2.2.2, 0, 0, 0, 0⟩ : St)]) ++ [s] = N at *
              rw [wP] at wN
              have hNl : N.length = (Q ++ [t]).length + 1 + 1 := by rw [← hN]; simp
              obtain ⟨g1, g2, g3, g4, g5⟩ := grown cN (by omega) (n := n) (by omega)
              have st := ih (i + 1) N (by omega) (by omega) cN (by rw [← hN]; simp) (by omega)
              rw [hNl] at g1 g2 g3 g4 g5 st
              rw [wN] at g4 g5 st
              have r0 : c3s_337 (Q ++ [t]).length = false := by unfold c3s_337; rw [k5]; exact ltF (by omega)
              have r1 : pureAVs (stc N) = true := stc_pure _
              have r2 : c3s_339 n x0 (Q ++ [t]).length i (stc (Q ++ [t])) = false := by unfold c3s_339; rw [e38, k36, g2, z00]; rfl
              have r3 : ltI ((((Q ++ [t]).length + 1 + 1 : Nat)) : Int) (((Q ++ [t]).length : Nat) : Int) = false := ltF (by omega)
              have r4 : c3s_340 (Q ++ [t]).length = false := by unfold c3s_340; rw [k36, add2 (by omega)]; exact ltF (by omega)
              have r5 : c3s_342 n x0 (Q ++ [t]).length i (stc (Q ++ [t])) = false := by
                unfold c3s_342; rw [e38, k36, g4, g5, eA, eB]; exact same2 rfl rfl
              rw [wP]
              simp only [b1, b2, b3, a1, a2, a3, pp, p1, p2, z0, b4, Int.toNat_natCast, b5, capU, b6, k6, b7, b8, eK, n4, n1, condT, condF, notT, notF, ei, eA, eB, eE, eF, n3, m4, p3, k5, b13, b14, b15, b16, b17, b21, r0, e38, r1, k36, g1, r2, r3, r4, g3, r5, st]
          · have m4 : eqI t.k 4 = false := eqF hT
            have wN := wk_snoc (Q ++ [t]) s
            rw [if_neg (by omega), if_neg (by omega), if_pos hK] at wN
            refine D _ (by rw [hK]; unfold fol; omega) (fun u k => ?_) (fun u r0 r1 r2 r3 r4 r5 r6 st => ?_)
            · simp only [b1, b2, b3, a1, a2, a3, pp, p1, p2, z0, b4, Int.toNat_natCast, b5, capU, b6, k6, b7, b8, eK, n4, n1, condT, condF, notT, notF, ei, eA, eB, eE, eF, n3, m4, k5, b13, b15, b17, k.1, k.2, again]
            · have r7 : c3s_332 n x0 (Q ++ [t]).length i (stc (Q ++ [t])) = false := by unfold c3s_332; rw [r5, r6, wN, eA, eB]; exact same2 rfl rfl
              rw [wN] at st
              simp only [b1, b2, b3, a1, a2, a3, pp, p1, p2, z0, b4, Int.toNat_natCast, b5, capU, b6, k6, b7, b8, eK, n4, n1, condT, condF, notT, notF, ei, eA, eB, eE, eF, n3, m4, k5, b13, b15, b17, r0, r1, r2, r3, c327, c328, r4, r7, st]
        · have n4 : eqI s.k 4 = false := eqF (by omega)
          have n1 : eqI s.k 1 = false := eqF (by omega)
          have n3 : eqI s.k 3 = true := eqT (by omega)
          by_cases hT : t.k = 4
          · -- behind a Close: a Move comes in between
            have m4 : eqI t.k 4 = true := eqT hT
            have wP := wk_snoc Q t
            rw [if_neg (by omega), if_pos hT] at wP
            have wI := walk_in (Q ++ [t]) 0 (0, 0, 0, 0) hc z0in
            have cM : chain 0 ((Q ++ [t]) ++ [⟨1, (wk (Q ++ [t])).2.2.1, (wk (Q ++ [t])).2.2.2, 0, 0, 0, 0⟩]) := chain_snoc hc (.inl ⟨.inl rfl, wI.2.2.1, wI.2.2.2, rfl, rfl, rfl, rfl⟩) (by rw [lt]; show fol t.k 1; unfold fol; omega)
            have wM := wk_snoc (Q ++ [t]) ⟨1, (wk (Q ++ [t])).2.2.1, (wk (Q ++ [t])).2.2.2, 0, 0, 0, 0⟩
            rw [if_pos rfl] at wM
            have wN := wk_snoc ((Q ++ [t]) ++ [⟨1, (wk (Q ++ [t])).2.2.1, (wk (Q ++ [t])).2.2.2, 0, 0, 0, 0⟩]) s
            rw [if_neg (by omega), if_neg (by omega), if_neg (by omega)] at wN
            rw [wM] at wN
            have sM := stc_snoc (Q ++ [t]) ⟨1, (wk (Q ++ [t])).2.2.1, (wk (Q ++ [t])).2.2.2, 0, 0, 0, 0⟩
            have sN := stc_snoc ((Q ++ [t]) ++ [⟨1, (wk (Q ++ [t])).2.2.1, (wk (Q ++ [t])).2.2.2, 0, 0, 0, 0⟩]) s
            have lM := lastK_app (Q ++ [t]) 0 ⟨1, (wk (Q ++ [t])).2.2.1, (wk (Q ++ [t])).2.2.2, 0, 0, 0, 0⟩
            have k36 : k3s_336 (Q ++ [t]).length = (Q ++ [t]).length + 1 + 1 := by unfold k3s_336; rw [k5]
            have e35 : l3s_335 n (Q ++ [t]).length (stc (Q ++ [t])) = stc ((Q ++ [t]) ++ [⟨1, (wk (Q ++ [t])).2.2.1, (wk (Q ++ [t])).2.2.2, 0, 0, 0, 0⟩]) := by
              unfold l3s_335; rw [k5, sel0, take_all, p4, p5, sM]
            have e38 : l3s_338 n x0 (Q ++ [t]).length i (stc (Q ++ [t])) = stc (((Q ++ [t]) ++ [⟨1, (wk (Q ++ [t])).2.2.1, (wk (Q ++ [t])).2.2.2, 0, 0, 0, 0⟩]) ++ [s]) := by
              unfold l3s_338; rw [k5, sel0, take_all, p4, p5, eK, eA, eB, eC, eD, eE, eF, sN, sM]
            have b21 : Nat.beq (List.length (l3s_335 n (Q ++ [t]).length (stc (Q ++ [t])))) (0 + ((Q ++ [t]).length + 1) * 7) = true := by
              rw [e35, stc_len]; exact nbeqT (by simp; omega)
            by_cases u : 300 < (Q ++ [t]).length + 2
            · have r0 : c3s_337 (Q ++ [t]).length = true := by unfold c3s_337; rw [k5]; exact ltT (by omega)
              have r1 : ltI (((Q ++ [t]).length : Nat) : Int) 299 = false := ltF (by omega)
              simp only [b1, b2, b3, a1, a2, a3, pp, p1, p2, z0, b4, Int.toNat_natCast, b5, capU, b6, k6, b7, b8, eK, n4, n1, condT, condF, notT, notF, ei, eA, eB, eE, eF, m4, p3, k5, b13, b14, b15, b16, b17, b21, r0, r1, again]
            · have cN := chain_snoc cM hv (by rw [lM]; unfold fol; simp; omega)
              generalize hN : ((Q ++ [t]) ++ [(⟨1, (wk (Q ++ [t])).2.2.1, (wk (Q ++ [t])).2.2.2, 0, 0, 0, 0⟩ : St)]) ++ [s] = N at *
              rw [wP] at wN
              have hNl : N.length = (Q ++ [t]).length + 1 + 1 := by rw [← hN]; simp
              obtain ⟨g1, g2, g3, g4, g5⟩ := grown cN (by omega) (n := n) (by omega)
              have st := ih (i + 1) N (by omega) (by omega) cN (by rw [← hN]; simp) (by omega)
              rw [hNl] at g1 g2 g3 g4 g5 st
              rw [wN] at g4 g5 st
              have r0 : c3s_337 (Q ++ [t]).length = false := by unfold c3s_337; rw [k5]; exact ltF (by omega)
              have r1 : pureAVs (stc N) = true := stc_pure _
              have r2 : c3s_339 n x0 (Q ++ [t]).length i (stc (Q ++ [t])) = false := by unfold c3s_339; rw [e38, k36, g2, z00]; rfl
              have r3 : ltI ((((Q ++ [t]).length + 1 + 1 : Nat)) : Int) (((Q ++ [t]).length : Nat) : Int) = false := ltF (by omega)
              have r4 : c3s_340 (Q ++ [t]).length = false := by unfold c3s_340; rw [k36, add2 (by omega)]; exact ltF (by omega)
              have r5 : c3s_341 n x0 (Q ++ [t]).length i (stc (Q ++ [t])) = false := by
                unfold c3s_341; rw [e38, k36, g4, g5, eE, eF]; exact same2 rfl rfl
              rw [wP]
              simp only [b1, b2, b3, a1, a2, a3, pp, p1, p2, z0, b4, Int.toNat_natCast, b5, capU, b6, k6, b7, b8, eK, n4, n1, condT, condF, notT, notF, ei, eA, eB, eE, eF, n3, m4, p3, k5, b13, b14, b15, b16, b17, b21, r0, e38, r1, k36, g1, r2, r3, r4, g3, r5, st]
          · have m4 : eqI t.k 4 = false := eqF hT
            have wN := wk_snoc (Q ++ [t]) s
            rw [if_neg (by omega), if_neg (by omega), if_neg (by omega)] at wN
            refine D _ (by rw [hK]; unfold fol; omega) (fun u k => ?_) (fun u r0 r1 r2 r3 r4 r5 r6 st => ?_)
            · simp only [b1, b2, b3, a1, a2, a3, pp, p1, p2, z0, b4, Int.toNat_natCast, b5, capU, b6, k6, b7, b8, eK, n4, n1, condT, condF, notT, notF, ei, eA, eB, eE, eF, n3, m4, k5, b13, b15, b17, k.1, k.2, again]
            · have r7 : c3s_333 n x0 (Q ++ [t]).length i (stc (Q ++ [t])) = false := by unfold c3s_333; rw [r5, r6, wN, eE, eF]; exact same2 rfl rfl
              rw [wN] at st
              simp only [b1, b2, b3, a1, a2, a3, pp, p1, p2, z0, b4, Int.toNat_natCast, b5, capU, b6, k6, b7, b8, eK, n4, n1, condT, condF, notT, notF, ei, eA, eB, eE, eF, n3, m4, k5, b13, b15, b17, r0, r1, r2, r3, c327, c328, r4, r7, st]
        · have n4 : eqI s.k 4 = true := eqT (by omega)
          have n1 : eqI s.k 1 = false := eqF (by omega)
          have n3 : eqI s.k 3 = false := eqF (by omega)
          by_cases hT : t.k = 4
          · have m4 : eqI t.k 4 = true := eqT hT
            have wP := wk_snoc Q t
            rw [if_neg (by omega), if_pos hT] at wP
            have r0 : c3s_310 n (Q ++ [t]).length (stc (Q ++ [t])) (wk (Q ++ [t])).1 (wk (Q ++ [t])).2.1 = false := by unfold c3s_310; rw [p4, p5, wP]; exact same2 rfl rfl
            simp only [b1, b2, b3, a1, a2, a3, pp, p1, p2, z0, b4, Int.toNat_natCast, b5, capU, b6, k6, b7, b8, eK, n4, n1, condT, condF, notT, notF, ei, eA, eB, eE, eF, n3, m4, ltx, c307, p3, r0, again]
          · have m4 : eqI t.k 4 = false := eqF hT
            have wN := wk_snoc (Q ++ [t]) s
            rw [if_neg (by omega), if_pos hK] at wN
            refine D _ (by rw [hK]; unfold fol; omega) (fun u k => ?_) (fun u r0 r1 r2 r3 r4 r5 r6 st => ?_)
            · simp only [b1, b2, b3, a1, a2, a3, pp, p1, p2, z0, b4, Int.toNat_natCast, b5, capU, b6, k6, b7, b8, eK, n4, n1, condT, condF, notT, notF, ei, eA, eB, eE, eF, n3, m4, k5, b13, b15, b17, k.1, k.2, again]
            · have r7 : c3s_334 n x0 (Q ++ [t]).length i (stc (Q ++ [t])) (wk (Q ++ [t])).1 (wk (Q ++ [t])).2.1 = false := by unfold c3s_334; rw [r5, r6, wN]; exact same2 rfl rfl
              rw [wN] at st
              simp only [b1, b2, b3, a1, a2, a3, pp, p1, p2, z0, b4, Int.toNat_natCast, b5, capU, b6, k6, b7, b8, eK, n4, n1, condT, condF, notT, notF, ei, eA, eB, eE, eF, n3, m4, k5, b13, b15, b17, r0, r1, r2, r3, c327, c328, r4, r7, st]
      · have b1 : ltI (i : Int) (c0 : Int) = true := ltT (by omega)
        have b2 : ltI (i : Int) 200 = false := ltF (by omega)
        simp only [b1, b2, pp, p1, p2, condT, condF, z00]
    · have b1 : ltI (i : Int) (c0 : Int) = false := ltF (by omega)
      simp only [b1, pp, p1, p2, condT, condF, z00]
theorem wk_one (s : St) : wk [s] = if s.k = 1 then (s.a, s.b, s.a, s.b) else if s.k = 4 then (0, 0, 0, 0) else if s.k = 2 then (0, 0, s.a, s.b) else (0, 0, s.e, s.f) := rfl
theorem cells_one (s : St) : stc [s] = [AV.int .i64 s.k, AV.int .i64 s.a, AV.int .i64 s.b, AV.int .i64 s.c, AV.int .i64 s.d, AV.int .i64 s.e, AV.int .i64 s.f] := by rw [stc_one]; rfl
theorem cells_two (s t : St) : stc [s, t] = [AV.int .i64 s.k, AV.int .i64 s.a, AV.int .i64 s.b, AV.int .i64 s.c, AV.int .i64 s.d, AV.int .i64 s.e, AV.int .i64 s.f, AV.int .i64 t.k, AV.int .i64 t.a, AV.int .i64 t.b, AV.int .i64 t.c, AV.int .i64 t.d, AV.int .i64 t.e, AV.int .i64 t.f] := rfl
theorem g1 (x0 : List AV) (c0 k0 : Nat) (hx : KOk (kRep c0 [.int .u8, .int .i16, .int .i16, .int .i16, .int .i16, .int .i16, .int .i16]) x0) (n i : Nat) (w : St) (h1 : i ≤ 200) (h2 : 502 - i ≤ n + 1) (hw : V w) (hk : w.k = 1) : L3s_1 x0 c0 k0 (n + 1) i w.k w.a w.b w.c w.d w.e w.f w.a w.b = some true := by
  have cw : chain 0 [w] := ⟨hw, .inl ⟨rfl, hk⟩, trivial⟩
  have nx : 301 ≤ n := by omega
  obtain ⟨p1, p2, p3, p4, p5⟩ := grown1 cw (by simp) (n := n) nx
  have wW := wk_one w
  rw [if_pos hk] at wW
  rw [cells_one] at p1 p2 p3 p4 p5
  rw [L3s_1_succ]
  have p1 : (F8x n [AV.int .i64 w.k, AV.int .i64 w.a, AV.int .i64 w.b, AV.int .i64 w.c, AV.int .i64 w.d, AV.int .i64 w.e, AV.int .i64 w.f] 1 1).isSome = true := p1
  have r249 : c3s_249 n w.k w.a w.b w.c w.d w.e w.f = false := by unfold c3s_249; rw [show F8x_0 n [AV.int .i64 w.k, AV.int .i64 w.a, AV.int .i64 w.b, AV.int .i64 w.c, AV.int .i64 w.d, AV.int .i64 w.e, AV.int .i64 w.f] 1 1 = 0 from p2, z00]; rfl
  have r285 : c3s_285 n w.k w.a w.b w.c w.d w.e w.f = true := by unfold c3s_285; rw [show F8x_0 n [AV.int .i64 w.k, AV.int .i64 w.a, AV.int .i64 w.b, AV.int .i64 w.c, AV.int .i64 w.d, AV.int .i64 w.e, AV.int .i64 w.f] 1 1 = 0 from p2]; exact z00
  by_cases q0 : i < c0
  · by_cases q1 : i < 200
    · obtain ⟨s, hv, a1, a2, eK, eA, eB, eC, eD, eE, eF, a3⟩ := names1 hx q0
      have b1 : ltI (i : Int) (c0 : Int) = true := ltT (by omega)
      have b2 : ltI (i : Int) 200 = true := ltT (by omega)
      have b3 : inB (i : Int) c0 = true := inT (by omega) (by omega)
      have ei := i64s (i := i) (by omega)
      have m4 : eqI w.k 4 = false := eqF (by omega)
      have m1 : eqI w.k 1 = true := eqT hk
      have bK := vk hv
      rcases Classical.em (s.k = 1) with hK | hK
      · have n4 : eqI s.k 4 = false := eqF (by omega)
        have n1 : eqI s.k 1 = true := eqT (by omega)
        have cN : chain 0 [s] := ⟨hv, .inl ⟨rfl, hK⟩, trivial⟩
        obtain ⟨g1, g2', g3, g4, g5⟩ := grown cN (by simp) (n := n) nx
        have wN := wk_one s
        rw [if_pos hK] at wN
        have st := g2 x0 c0 k0 hx n (i + 1) [s] (by omega) (by omega) cN (by simp) (by simp)
        rw [wN] at g4 g5 st
        rw [cells_one] at g1 g2' g3 g4 g5 st
        have h64 : l3s_264 x0 i = [AV.int .i64 s.k, AV.int .i64 s.a, AV.int .i64 s.b, AV.int .i64 s.c, AV.int .i64 s.d, AV.int .i64 s.e, AV.int .i64 s.f] := by unfold l3s_264; rw [eK, eA, eB, eC, eD, eE, eF]
        have r1 : (F8u n [AV.int .i64 s.k, AV.int .i64 s.a, AV.int .i64 s.b, AV.int .i64 s.c, AV.int .i64 s.d, AV.int .i64 s.e, AV.int .i64 s.f] 1 1).isSome = true := g1
        have r2 : c3s_265 n x0 i = false := by unfold c3s_265; rw [eK, eA, eB, eC, eD, eE, eF, show F8u_0 n [AV.int .i64 s.k, AV.int .i64 s.a, AV.int .i64 s.b, AV.int .i64 s.c, AV.int .i64 s.d, AV.int .i64 s.e, AV.int .i64 s.f] 1 1 = 0 from g2', z00]; rfl
        have r3 : (F24u n [AV.int .i64 s.k, AV.int .i64 s.a, AV.int .i64 s.b, AV.int .i64 s.c, AV.int .i64 s.d, AV.int .i64 s.e, AV.int .i64 s.f] 1 1).isSome = true := g3
        have r4 : c3s_269 n x0 i = false := by
          unfold c3s_269 t3s_267 t3s_268; rw [eK, eA, eB, eC, eD, eE, eF]; exact same2 g4 g5
        have st : L3s_2 x0 c0 k0 n 1 ((i + 1 : Nat) : Int) [AV.int .i64 s.k, AV.int .i64 s.a, AV.int .i64 s.b, AV.int .i64 s.c, AV.int .i64 s.d, AV.int .i64 s.e, AV.int .i64 s.f] s.a s.b = some true := st
        simp only [b1, b2, b3, a1, a2, a3, p1, r249, eK, eA, eB, eC, eD, eE, eF, n4, n1, m4, m1, condT, condF, r1, r2, r3, r4, h64, ei, st]
      · have n1 : eqI s.k 1 = false := eqF hK
        have cN : chain 0 [w, s] := ⟨hw, .inl ⟨rfl, hk⟩, hv, .inr (.inl ⟨hk, hK⟩), trivial⟩
        obtain ⟨g1, g2', g3, g4, g5⟩ := grown cN (by simp) (n := n) nx
        have st := g2 x0 c0 k0 hx n (i + 1) [w, s] (by omega) (by omega) cN (by simp) (by simp)
        have wN := wk_snoc [w] s
        rw [wW] at wN
        have wN : wk [w, s] = _ := wN
        rw [if_neg hK] at wN
        rw [wN] at g4 g5 st
        rw [cells_two] at g1 g2' g3 g4 g5 st
        have h70 : l3s_270 x0 i w.k w.a w.b w.c w.d w.e w.f = [AV.int .i64 w.k, AV.int .i64 w.a, AV.int .i64 w.b, AV.int .i64 w.c, AV.int .i64 w.d, AV.int .i64 w.e, AV.int .i64 w.f, AV.int .i64 s.k, AV.int .i64 s.a, AV.int .i64 s.b, AV.int .i64 s.c, AV.int .i64 s.d, AV.int .i64 s.e, AV.int .i64 s.f] := by unfold l3s_270; rw [eK, eA, eB, eC, eD, eE, eF]
        have r1 : (F8u n [AV.int .i64 w.k, AV.int .i64 w.a, AV.int .i64 w.b, AV.int .i64 w.c, AV.int .i64 w.d, AV.int .i64 w.e, AV.int .i64 w.f, AV.int .i64 s.k, AV.int .i64 s.a, AV.int .i64 s.b, AV.int .i64 s.c, AV.int .i64 s.d, AV.int .i64 s.e, AV.int .i64 s.f] 2 2).isSome = true := g1
        have r2 : c3s_271 n x0 i w.k w.a w.b w.c w.d w.e w.f = false := by unfold c3s_271; rw [eK, eA, eB, eC, eD, eE, eF, show F8u_0 n [AV.int .i64 w.k, AV.int .i64 w.a, AV.int .i64 w.b, AV.int .i64 w.c, AV.int .i64 w.d, AV.int .i64 w.e, AV.int .i64 w.f, AV.int .i64 s.k, AV.int .i64 s.a, AV.int .i64 s.b, AV.int .i64 s.c, AV.int .i64 s.d, AV.int .i64 s.e, AV.int .i64 s.f] 2 2 = 0 from g2', z00]; rfl
        have r3 : (F24u n [AV.int .i64 w.k, AV.int .i64 w.a, AV.int .i64 w.b, AV.int .i64 w.c, AV.int .i64 w.d, AV.int .i64 w.e, AV.int .i64 w.f, AV.int .i64 s.k, AV.int .i64 s.a, AV.int .i64 s.b, AV.int .i64 s.c, AV.int .i64 s.d, AV.int .i64 s.e, AV.int .i64 s.f] 2 2).isSome = true := g3
        have e73' : ∀ z : Int, F24u_0 n [AV.int .i64 w.k, AV.int .i64 w.a, AV.int .i64 w.b, AV.int .i64 w.c, AV.int .i64 w.d, AV.int .i64 w.e, AV.int .i64 w.f, AV.int .i64 s.k, AV.int .i64 s.a, AV.int .i64 s.b, AV.int .i64 s.c, AV.int .i64 s.d, AV.int .i64 s.e, AV.int .i64 s.f] 2 2 = z → t3s_273 n x0 i w.k w.a w.b w.c w.d w.e w.f = z := fun z h => by rw [← h]; unfold t3s_273; rw [eK, eA, eB, eC, eD, eE, eF]
        have e73 := e73' _ g4
        have e74' : ∀ z : Int, F24u_1 n [AV.int .i64 w.k, AV.int .i64 w.a, AV.int .i64 w.b, AV.int .i64 w.c, AV.int .i64 w.d, AV.int .i64 w.e, AV.int .i64 w.f, AV.int .i64 s.k, AV.int .i64 s.a, AV.int .i64 s.b, AV.int .i64 s.c, AV.int .i64 s.d, AV.int .i64 s.e, AV.int .i64 s.f] 2 2 = z → t3s_274 n x0 i w.k w.a w.b w.c w.d w.e w.f = z := fun z h => by rw [← h]; unfold t3s_274; rw [eK, eA, eB, eC, eD, eE, eF]
        have e74 := e74' _ g5
        have st : L3s_2 x0 c0 k0 n 2 ((i + 1 : Nat) : Int) [AV.int .i64 w.k, AV.int .i64 w.a, AV.int .i64 w.b, AV.int .i64 w.c, AV.int .i64 w.d, AV.int .i64 w.e, AV.int .i64 w.f, AV.int .i64 s.k, AV.int .i64 s.a, AV.int .i64 s.b, AV.int .i64 s.c, AV.int .i64 s.d, AV.int .i64 s.e, AV.int .i64 s.f] _ _ = some true := st
        rcases bK with hK1 | hK2 | hK3 | hK4
        · exact absurd hK1 hK
        · have n4 : eqI s.k 4 = false := eqF (by omega)
          have n3 : eqI s.k 3 = false := eqF (by omega)
          rw [if_neg (by omega), if_pos hK2] at e73 e74 st
          have r4 : c3s_275 n x0 i w.k w.a w.b w.c w.d w.e w.f = false := by unfold c3s_275; rw [e73, e74, eA, eB]; exact same2 rfl rfl
          simp only [b1, b2, b3, a1, a2, a3, p1, r249, eK, eA, eB, eC, eD, eE, eF, n4, n3, n1, m4, m1, condT, condF, r1, r2, r3, r4, h70, ei, st]
        · have n4 : eqI s.k 4 = false := eqF (by omega)
          have n3 : eqI s.k 3 = true := eqT (by omega)
          rw [if_neg (by omega), if_neg (by omega)] at e73 e74 st
          have r4 : c3s_276 n x0 i w.k w.a w.b w.c w.d w.e w.f = false := by unfold c3s_276; rw [e73, e74, eE, eF]; exact same2 rfl rfl
          simp only [b1, b2, b3, a1, a2, a3, p1, r249, eK, eA, eB, eC, eD, eE, eF, n4, n3, n1, m4, m1, condT, condF, r1, r2, r3, r4, h70, ei, st]
        · have n4 : eqI s.k 4 = true := eqT (by omega)
          have n3 : eqI s.k 3 = false := eqF (by omega)
          rw [if_pos hK4] at e73 e74 st
          have r4 : c3s_277 n x0 i w.k w.a w.b w.c w.d w.e w.f w.a w.b = false := by unfold c3s_277; rw [e73, e74]; exact same2 rfl rfl
          simp only [b1, b2, b3, a1, a2, a3, p1, r249, eK, eA, eB, eC, eD, eE, eF, n4, n3, n1, m4, m1, condT, condF, r1, r2, r3, r4, h70, ei, st]
    · have b1 : ltI (i : Int) (c0 : Int) = true := ltT (by omega)
      have b2 : ltI (i : Int) 200 = false := ltF (by omega)
      simp only [b1, b2, p1, r285, condT, condF]
  · have b1 : ltI (i : Int) (c0 : Int) = false := ltF (by omega)
    simp only [b1, p1, r285, condT, condF]
theorem g0 (x0 : List AV) (c0 k0 : Nat) (hx : KOk (kRep c0 [.int .u8, .int .i16, .int .i16, .int .i16, .int .i16, .int .i16, .int .i16]) x0) : ∀ (n i : Nat), i ≤ 200 → 503 - i ≤ n → L3s_0 x0 c0 k0 n i = some true := by
  intro n
  induction n with
  | zero => intro i h1 h2; omega
  | succ n ih =>
    intro i h1 h2
    rw [L3s_0_succ]
    by_cases q0 : i < c0
    · by_cases q1 : i < 200
      · obtain ⟨s, hv, a1, a2, eK, eA, eB, eC, eD, eE, eF, a3⟩ := names0 hx q0
        have b1 : ltI (i : Int) (c0 : Int) = true := ltT (by omega)
        have b2 : ltI (i : Int) 200 = true := ltT (by omega)
        have b3 : inB (i : Int) c0 = true := inT (by omega) (by omega)
        have ei := i64s (i := i) (by omega)
        have again := ih (i + 1) (by omega) (by omega)
        by_cases hK : s.k = 1
        · have n1 : eqI s.k 1 = true := eqT (by omega)
          have cN : chain 0 [s] := ⟨hv, .inl ⟨rfl, hK⟩, trivial⟩
          obtain ⟨g1', g2', g3, g4, g5⟩ := grown1 cN (by simp) (n := n) (by omega)
          have wN := wk_one s
          rw [if_pos hK] at wN
          rw [wN] at g4 g5
          rw [cells_one] at g1' g2' g3 g4 g5
          have r1 : (F8x n [AV.int .i64 s.k, AV.int .i64 s.a, AV.int .i64 s.b, AV.int .i64 s.c, AV.int .i64 s.d, AV.int .i64 s.e, AV.int .i64 s.f] 1 1).isSome = true := g1'
          have r2 : c3s_237 n x0 i = false := by unfold c3s_237; rw [eK, eA, eB, eC, eD, eE, eF, show F8x_0 n [AV.int .i64 s.k, AV.int .i64 s.a, AV.int .i64 s.b, AV.int .i64 s.c, AV.int .i64 s.d, AV.int .i64 s.e, AV.int .i64 s.f] 1 1 = 0 from g2', z00]; rfl
          have r3 : (F24x n [AV.int .i64 s.k, AV.int .i64 s.a, AV.int .i64 s.b, AV.int .i64 s.c, AV.int .i64 s.d, AV.int .i64 s.e, AV.int .i64 s.f] 1 1).isSome = true := g3
          have r4 : c3s_241 n x0 i = false := by
            unfold c3s_241 t3s_239 t3s_240; rw [eK, eA, eB, eC, eD, eE, eF]; exact same2 g4 g5
          obtain ⟨m, rfl⟩ : ∃ m, n = m + 1 := ⟨n - 1, by omega⟩
          have st := g1 x0 c0 k0 hx m (i + 1) s (by omega) (by omega) hv hK
          simp only [b1, b2, b3, a1, a2, a3, eK, eA, eB, eC, eD, eE, eF, n1, condT, condF, notT, r1, r2, r3, r4, ei, st]
        · have n1 : eqI s.k 1 = false := eqF hK
          simp only [b1, b2, b3, a1, a2, a3, eK, n1, condT, condF, notF, ei, again]
      · have b1 : ltI (i : Int) (c0 : Int) = true := ltT (by omega)
        have b2 : ltI (i : Int) 200 = false := ltF (by omega)
        simp only [b1, b2, condT, condF]
    · have b1 : ltI (i : Int) (c0 : Int) = false := ltF (by omega)
      simp only [b1, condF]
theorem law_ok_s (x0 : List AV) (c0 k0 : Nat) (wx : 0 < c0 ∧ c0 ≤ k0 ∧ k0 ≤ maxLen ∧ KOk (kRep c0 [.int .u8, .int .i16, .int .i16, .int .i16, .int .i16, .int .i16, .int .i16]) x0) : ∃ n, F3s n x0 c0 k0 = some true := by
  obtain ⟨N, hN⟩ : ∃ N : Nat, 600 ≤ N := ⟨600, Nat.le_refl _⟩
  exact ⟨N, g0 x0 c0 k0 wx.2.2.2 N 0 (by omega) (by omega)⟩
theorem law_ok_e : ∃ n : Nat, F3e = some true := ⟨0, rfl⟩

end

theorem walke {w : World} {E : Nat → Go.Sx.Ent} (hE : Go.Sx.GlobE E)   (hL : Go.Sx.LaidAt E w []) {ARGS : List Value} (ha : Go.Sx.RelL (Go.Sx.laidE E) [.emp] ARGS) :
    Calls Try.prog 3 ARGS.toArray w fun e w' => e = .returned (.bool true) ∧ Below w.heap.size w w' := by
  obtain ⟨n, hn⟩ := law_ok_e  
  exact Go.Sx.call_args_at okayed hE ha Try.func3 body3e_eq (run3e n   true hn) hL

theorem walks {w : World} {E : Nat → Go.Sx.Ent} (hE : Go.Sx.GlobE E) (x0 : List Go.Sx.AV) (c0 : Nat) (k0 : Nat) (wx0 : 0 < c0 ∧ c0 ≤ k0 ∧ k0 ≤ maxLen ∧ Go.Sx.KOk (Go.Sx.kRep c0 [.int .u8, .int .i16, .int .i16, .int .i16, .int .i16, .int .i16, .int .i16]) x0) (hL : Go.Sx.LaidAt E w [(0, x0)]) {ARGS : List Value} (ha : Go.Sx.RelL (Go.Sx.laidE E) [.slc 1048576 0 c0 (.exact k0)] ARGS) :
    Calls Try.prog 3 ARGS.toArray w fun e w' => e = .returned (.bool true) ∧ Below w.heap.size w w' := by
  obtain ⟨n, hn⟩ := law_ok_s x0 c0 k0 wx0
  exact Go.Sx.call_args_at okayed hE ha Try.func3 body3s_eq (run3s n x0 c0 k0 (wx0.2.2.2.pure) true hn) hL

set_option maxRecDepth 100000 in
theorem lifted (os : Os) (started : os.Started) (H : Type) (enc : TypeId × Value → H) :
    ReturnsInHanded {} Try.checked os 3 .any (Rows.pathGrowsSpec.pre6 enc Try.prog Try.f3 Rows.pathGrowsRow.domain false) (Rows.pathGrowsSpec.post enc Try.prog Try.f3 false true false false) := by
  refine returnsInHanded_of_change (C := Try.checked) own started (by kernel_rfl) Try.func3
    (ChangeSpec.witness6 (enc := enc) (C := Try.checked) false ⟨#[], #[.slice none 0 0], []⟩ 8 (by kernel_rfl) (by kernel_rfl) (by kernel_rfl) (by kernel_rfl)) ?_
  intro W base args ds gs before hval0 hW hcnd _
  have hval : ∀ (j : Nat) t v, Try.f3.params[j]? = some t → args[j]? = some v → Value.okWide Try.prog W .any base t v := hval0
  have hW' := hW
  obtain ⟨p, q, hA0, hV, rfl, hfz, hnd⟩ := hW
  have hA : DataW.TrodAll enc Try.prog W 0 (fun _ => true) true Try.f3.params.toList args.toList ds p := hA0
  rw [Try.params3] at hA hval
  obtain ⟨v0, vs0, d0, ds0, p0, q0, hargs, rfl, rfl, h0, r0⟩ := trodAll_cons hA
  obtain ⟨rfl, rfl, rfl⟩ := trodAll_nil r0
  obtain rfl : args = #[v0] := by cases args; simp_all
  obtain ⟨rfl, rfl⟩ := trodVars_none hV
  obtain ⟨cs0, k0⟩ := Go.Sx.open_cs (ks := [.sl [.int .u8, .int .i16, .int .i16, .int .i16, .int .i16, .int .i16, .int .i16]]) (by kernel_rfl) h0
  have g0 := k0
  clear hA0
  have done : Calls Try.prog 3 #[v0] W (fun e w' => e = .returned (.bool true) ∧ Below W.heap.size W w') := by
    obtain ⟨_, _, _, _, rfl, _, hS0, k0⟩ := k0
    obtain ⟨rfl, _⟩ := k0
    rcases hS0 with ⟨rfl, _⟩ | ⟨b0, s0, c0, k0', x0, rfl, p0, q0', m0, z0, u0, _⟩
    · skip
      exact walke (Go.Sx.argE_glob _)   (Go.Sx.laid_nil _ _) (ARGS := [v0]) ⟨_, _, Go.Sx.rel_one_cs (E := (Go.Sx.argE [])) (n := 0) (t := 22) (Go.Sx.one_slice Try.underlying22 (hval 0 22 v0 rfl rfl)) g0 trivial rfl, rfl, rfl⟩
    · skip
      exact walks (Go.Sx.argE_glob _) x0 c0 k0' ⟨p0, q0', m0, z0⟩ (Go.Sx.laid_more (E := (Go.Sx.argE [(b0, s0)])) (g := 0) u0 (Go.Sx.laid_nil _ _)) (ARGS := [v0]) ⟨_, _, Go.Sx.rel_one_cs (E := (Go.Sx.argE [(b0, s0)])) (n := 0) (t := 22) (Go.Sx.one_slice Try.underlying22 (hval 0 22 v0 rfl rfl)) g0 ⟨rfl, trivial⟩ rfl, rfl, rfl⟩
  refine done.mono fun e W' ⟨he, hg⟩ => ?_
  subst he
  exact ⟨_, rfl, Go.Sx.post_of_below (pv := []) hW' (fun _ _ _ => (trodAll_cons_mk (shut_bool Try.underlying4 _) trodAll_mk0)) (fun sp hsp => (trodAll_cons_mk (Go.Sx.stays_below laidOut (by kernel_rfl) (Nat.le_of_ble_eq_true (by kernel_rfl)) h0 hg (fun p hp => hsp p (by simp [hp]))) trodAll_mk0)) (fun _ _ => rfl) (by simp)
    hg (ok_one (by kernel_rfl) rfl (okWide_bool_mk Try.underlying4 _))⟩

theorem over : Rows.pathGrowsRow.holds Try.pinned (OpenSpec.ofChange Rows.pathGrowsSpec) :=
  OpenClaim.holds_of_wide 3 Try.f3 rfl rfl rfl rfl rfl rfl rfl ⟨rfl, rfl, rfl, rfl, rfl⟩ rfl rfl rfl rfl rfl (by kernel_rfl) Try.func3 (by kernel_rfl)
    (of_decide_eq_true (by kernel_rfl)) (by unfold Func.isWrapper; first | (rw [if_pos (by decide +kernel)]; kernel_rfl) | (rw [if_neg (by decide +kernel)]; exact ⟨rfl, rfl⟩))
    (fun os started H enc _ => lifted os started H enc)

theorem proved : Rows.PathGrowsSaid := over
#print axioms proved
end Go.Proofs.Ytacoljohbfiodaa.pathGrows
