/- 'chase/chaselaw27.ToneBits' returns true for every argument, and nothing that was there is changed. The first parts are the texts before: each function of the run as a term. Here: the numbers, and the rest. -/
import Derived.Test.YtmmgoglgphnapaaToneBitsA
namespace Go.Proofs.Ytmmgoglgphnapaa.toneBits
open Go.ChangeShapes Go.WideShapes Go.ChangeAt Go.WideMaps Go.WideElems Go.RowKit
set_option linter.unusedVariables false
section
open Go.Sx
set_option maxRecDepth 1000000

set_option maxRecDepth 100000
theorem cS {α : Type} (b : Bool) (x y : α) : (bif b then some x else some y) = some (bif b then x else y) := by cases b <;> rfl
theorem condP (b x y : Bool) : ((bif b then x else y) = true) = ((b = true ∧ x = true) ∨ (b = false ∧ y = true)) := by cases b <;> simp
theorem condF (b x y : Bool) : ((bif b then x else y) = false) = ((b = true ∧ x = false) ∨ (b = false ∧ y = false)) := by cases b <;> simp
theorem nneg_f (b : Bool) : ((!b) = false) = (b = true) := by cases b <;> simp
theorem andB_t (a b : Bool) : (andB a b = true) = (a = true ∧ b = true) := by cases a <;> simp [andB]
theorem andB_f (a b : Bool) : (andB a b = false) = (a = false ∨ b = false) := by cases a <;> simp [andB]
theorem strNil_t (s : List Nat) : (strEq s [] = true) = (s.length = 0) := by cases s <;> simp [strEq]
theorem strNil_f (s : List Nat) : (strEq s [] = false) = (s.length ≠ 0) := by cases s <;> simp [strEq]
theorem strEq_same (s : List Nat) : strEq s s = true := by simp [strEq]
theorem eqI_same (n : Int) : eqI n n = true := by rw [eqI_t]
theorem cT {α : Type} {b : Bool} {x y : α} (h : b = true) : (bif b then x else y) = x := by rw [h]; rfl
theorem cF {α : Type} {b : Bool} {x y : α} (h : b = false) : (bif b then x else y) = y := by rw [h]; rfl
theorem ltT {x y : Int} (h : x < y) : ltI x y = true := by rw [ltI_t]; exact h
theorem ltF {x y : Int} (h : y ≤ x) : ltI x y = false := by rw [ltI_f]; exact h
theorem eqT {x y : Int} (h : x = y) : eqI x y = true := by rw [eqI_t]; exact h
theorem eqF {x y : Int} (h : x ≠ y) : eqI x y = false := by rw [eqI_f]; exact h
theorem inT {i : Int} {n : Nat} (h1 : 0 ≤ i) (h2 : i.toNat < n) : inB i n = true := by rw [inB_t]; exact ⟨h1, h2⟩
theorem w8 {n : Int} (h1 : 0 ≤ n) (h2 : n ≤ 255) : wrapA .u8 n = n := wrap_in (by simpa [IntKind.min, IntKind.signed] using h1) (by simpa [IntKind.max, IntKind.signed, IntKind.bits] using h2)
theorem wh_bd {w h : Int} (w1 : 1 ≤ w) (w2 : w ≤ 16) (h1 : 1 ≤ h) (h2 : h ≤ 16) : 1 ≤ w * h ∧ w * h ≤ 256 := by
  have a : w * h ≤ 16 * 16 := Int.mul_le_mul w2 h2 (by omega) (by omega)
  have b : 1 * 1 ≤ w * h := Int.mul_le_mul w1 h1 (by omega) (by omega)
  omega
structure GT (w h : Int) (t : List Nat) : Prop where
  w1 : 1 ≤ w
  w2 : w ≤ 16
  h1 : 1 ≤ h
  h2 : h ≤ 16
  len : (t.length : Int) = w * h
  lt : ∀ b, b ∈ t → b < 255
theorem getD_lt {t : List Nat} (h : ∀ b, b ∈ t → b < 255) (i : Nat) : t.getD i 0 < 255 := by
  by_cases q : i < t.length
  · rw [List.getD_eq_getElem?_getD, List.getElem?_eq_getElem q]; exact h _ (List.getElem_mem q)
  · rw [List.getD_eq_getElem?_getD, List.getElem?_eq_none (by omega)]; simp
theorem byte_lt {t : List Nat} (h : ∀ b, b ∈ t → b < 255) (i : Int) : 0 ≤ byteI t i ∧ byteI t i < 255 := by
  have := getD_lt h i.toNat
  simp only [byteI, Int.ofNat_eq_natCast]; omega
/-- octets less than 255 as cells -/
def AllB (l : List AV) (m : Nat) : Prop := l.length = m ∧ ∀ c, c ∈ l → ∃ b : Int, c = .int .u8 b ∧ 0 ≤ b ∧ b < 255
theorem allB_pure : ∀ {l : List AV}, (∀ c, c ∈ l → ∃ b : Int, c = .int .u8 b ∧ 0 ≤ b ∧ b < 255) → pureAVs l = true
  | [], _ => rfl
  | c :: l, h => by
    obtain ⟨b, rfl, _⟩ := h c (by simp)
    simp only [pureAVs, pureAV, Bool.true_and]
    exact allB_pure (fun c hc => h c (by simp [hc]))
theorem allB_u8 {l : List AV} (h : ∀ c, c ∈ l → ∃ b : Int, c = .int .u8 b ∧ 0 ≤ b ∧ b < 255) : l.all isU8 = true := by
  rw [List.all_eq_true]; intro c hc
  obtain ⟨b, rfl, _⟩ := h c hc; rfl
theorem str_ok {l : List AV} {m : Nat} (h : AllB l m) : strOk l 0 m = true ∧ (strOf l 0 m).length = m ∧ ∀ b, b ∈ strOf l 0 m → b < 255 := by
  obtain ⟨h1, h2⟩ := h
  have ht : (l.drop 0).take m = l := by rw [List.drop_zero, List.take_of_length_le (by omega)]
  refine ⟨?_, ?_, ?_⟩
  · simp only [strOk, ht, Bool.and_eq_true]
    exact ⟨Nat.ble_eq_true_of_le (by omega), allB_u8 h2⟩
  · simp only [Go.Sx.strOf, ht, List.length_map]; exact h1
  · intro b hb
    simp only [Go.Sx.strOf, ht, List.mem_map] at hb
    obtain ⟨c, hc, rfl⟩ := hb
    obtain ⟨x, rfl, hx1, hx2⟩ := h2 c hc
    simp only; omega
theorem allB_rep : ∀ (m : Nat), AllB (repeatL m [.int .u8 0]) m
  | 0 => ⟨rfl, fun c hc => by cases hc⟩
  | m + 1 => by
    obtain ⟨h1, h2⟩ := allB_rep m
    refine ⟨by simp [repeatL, h1], fun c hc => ?_⟩
    simp only [repeatL, List.cons_append, List.nil_append, List.mem_cons] at hc
    rcases hc with rfl | hc
    · exact ⟨0, rfl, by omega, by omega⟩
    · exact h2 c hc
theorem allB_put {l : List AV} {m i : Nat} {b : Int} (h : AllB l m) (hi : i < m) (h1 : 0 ≤ b) (h2 : b < 255) : putOk l i 1 = true ∧ AllB (putL l i [.int .u8 b]) m := by
  obtain ⟨k1, k2⟩ := h
  refine ⟨Nat.ble_eq_true_of_le (by omega), ?_, fun c hc => ?_⟩
  · simp only [putL, List.length_append, List.length_take, List.length_drop, List.length_cons, List.length_nil]; omega
  · simp only [putL, List.mem_append, List.mem_cons, List.not_mem_nil, or_false] at hc
    rcases hc with (hc | rfl) | hc
    · exact k2 c (List.mem_of_mem_take hc)
    · exact ⟨b, rfl, h1, h2⟩
    · exact k2 c (List.mem_of_mem_drop hc)
theorem allB_snoc {l : List AV} {m : Nat} {b : Int} (h : AllB l m) (h1 : 0 ≤ b) (h2 : b < 255) : AllB (l ++ [.int .u8 b]) (m + 1) := by
  obtain ⟨k1, k2⟩ := h
  refine ⟨by simp [k1], fun c hc => ?_⟩
  rcases List.mem_append.1 hc with hc | hc
  · exact k2 c hc
  · simp only [List.mem_cons, List.not_mem_nil, or_false] at hc; subst hc; exact ⟨b, rfl, h1, h2⟩
theorem u8_at : ∀ {m : Nat} {x : List AV}, KOk (kRep m [.int .u8]) x → ∀ i, i < m → ∃ b : Int, nth x i = some (.int .u8 b) ∧ 0 ≤ b ∧ b ≤ 255
  | 0, _, _, i, hi => by omega
  | m + 1, _, h, i, hi => by
    obtain ⟨b, r, rfl, hb, h⟩ := h
    cases i with
    | zero => exact ⟨b, rfl, wf_u8 hb⟩
    | succ i => exact u8_at h i (by omega)
theorem u8_cell {m : Nat} {x : List AV} (h : KOk (kRep m [.int .u8]) x) {i : Nat} (hi : i < m) : cellB x i (.int .u8) = true ∧ 0 ≤ intC x i ∧ intC x i ≤ 255 := by
  obtain ⟨b, h1, h2, h3⟩ := u8_at h i hi
  refine ⟨?_, ?_, ?_⟩ <;> simp only [cellB, isIntC, intC, h1]
  · simp
  · exact h2
  · exact h3
theorem at1 (i : Int) : atI 0 i 1 = i.toNat := by simp [atI]
theorem f31 {w h : Int} {t : List Nat} (g : GT w h t) : F31_0 w h = true := by
  have h1 := g.w1; have h2 := g.w2; have h3 := g.h1; have h4 := g.h2
  unfold F31_0 F31
  rw [ltF h1, ltF h2, ltF h3, ltF h4]; rfl
theorem L21_ok {w h : Int} {t : List Nat} (g : GT w h t) : ∀ (n : Nat) (v : Int), 0 ≤ v → v ≤ t.length → (t.length : Int) - v < n → L21_0 w h t n v = some 0
  | 0, v, h0, h1, hn => by omega
  | n + 1, v, h0, h1, hn => by
    have hl : t.length ≤ 256 := by have := g.len; have := wh_bd g.w1 g.w2 g.h1 g.h2; omega
    rw [L21_0_succ]
    by_cases q : v < t.length
    · rw [cT (ltT q), cT (inT h0 (by omega)), cF (ltF (by have := byte_lt g.lt v; omega))]
      have e : wrapA .i64 (Int.add v 1) = v + 1 := by rw [add_int]; exact wrap64 (by omega) (by omega)
      rw [e]
      exact L21_ok g n (v + 1) (by omega) (by omega) (by omega)
    · rw [cF (ltF (by omega))]
theorem f21 {w h : Int} {t : List Nat} (g : GT w h t) {n : Nat} (hn : 300 ≤ n) : F21 n w h t = some 0 := by
  have hl := wh_bd g.w1 g.w2 g.h1 g.h2
  have he := g.len
  unfold F21
  rw [f31 g, mul_int, wrap64 (by omega) (by omega), eqT he]
  exact L21_ok g n 0 (by omega) (by omega) (by omega)
theorem f37 {x s : Int} (s1 : 1 ≤ s) (s2 : s ≤ 16) : F37 x s = some (x % s) := by
  have hb := tmod_bd x (show 0 < s by omega)
  have e := Int.mul_tdiv_add_tmod x s
  have k : Int.tmod (x.tmod s + s) s = x % s := by
    rw [tmod_pos (by omega), Int.add_emod_right]
    conv => rhs; rw [← e, Int.add_comm, Int.add_mul_emod_self_left]
  unfold F37
  rw [eqF (by omega), add_int, wrap64 (by omega) (by omega), k]; rfl
/-- the threshold of a pixel -/
def Th (w h : Int) (t : List Nat) (x y : Int) : Int := byteI t (y % h * w + x % w)
/-- what is read of a tile -/
theorem thr {w h : Int} {t : List Nat} (g : GT w h t) (x y : Int) :
    0 ≤ Th w h t x y ∧ Th w h t x y < 255 ∧ (F37 y h).isSome = true ∧ (F37 x w).isSome = true ∧ inB (wrapA .i64 (Int.add (wrapA .i64 (Int.mul (F37_0 y h) w)) (F37_0 x w))) t.length = true ∧ t16_0 w h t x y = Th w h t x y ∧ (∀ p, c16_1 w h t p x y = ltI (Th w h t x y) p) ∧ ∀ m, c11_0 w h t m x y = ltI (Th w h t x y) m := by
  have ha := f37 (x := y) g.h1 g.h2
  have hb := f37 (x := x) g.w1 g.w2
  have a1 := Int.emod_nonneg y (show h ≠ 0 by have := g.h1; omega)
  have a2 := Int.emod_lt_of_pos y (show 0 < h by have := g.h1; omega)
  have b1 := Int.emod_nonneg x (show w ≠ 0 by have := g.w1; omega)
  have b2 := Int.emod_lt_of_pos x (show 0 < w by have := g.w1; omega)
  have ea : F37_0 y h = y % h := by unfold F37_0; rw [ha]; rfl
  have eb : F37_0 x w = x % w := by unfold F37_0; rw [hb]; rfl
  unfold Th
  generalize y % h = a at *
  generalize x % w = b at *
  have hw := g.w1; have hw2 := g.w2
  have hm : a * w ≤ (h - 1) * w := Int.mul_le_mul_of_nonneg_right (by omega) (by omega)
  have hm0 : 0 ≤ a * w := Int.mul_nonneg a1 (by omega)
  have hx : (h - 1) * w = w * h - w := by rw [Int.sub_mul, Int.one_mul, Int.mul_comm]
  have hl := g.len
  have hwh := wh_bd g.w1 g.w2 g.h1 g.h2
  have e1 : wrapA .i64 (Int.mul (F37_0 y h) w) = a * w := by rw [ea, mul_int]; exact wrap64 (by omega) (by omega)
  have e2 : wrapA .i64 (Int.add (wrapA .i64 (Int.mul (F37_0 y h) w)) (F37_0 x w)) = a * w + b := by rw [e1, eb, add_int]; exact wrap64 (by omega) (by omega)
  have hT := byte_lt g.lt (a * w + b)
  have e3 : wrapA .i64 (byteI t (wrapA .i64 (Int.add (wrapA .i64 (Int.mul (F37_0 y h) w)) (F37_0 x w)))) = byteI t (a * w + b) := by rw [e2]; exact wrap64 (by omega) (by omega)
  refine ⟨hT.1, hT.2, by rw [ha]; rfl, by rw [hb]; rfl, by rw [e2]; exact inT (by omega) (by omega), ?_, fun p => ?_, fun m => ?_⟩
  · unfold t16_0; exact e3
  · unfold c16_1; rw [e3]
  · unfold c11_0; rw [e3]
def B4 (a b c d : Bool) : Int := (bif a then 1 else 0) + (bif b then 2 else 0) + (bif c then 4 else 0) + (bif d then 8 else 0)
theorem ink_ok {p : Int} (h1 : 0 ≤ p) (h2 : p ≤ 255) : (if 255 < (if 0 > p then 0 else p) then (255 : Int) else if 0 > p then 0 else p) = p := by
  rw [if_neg (show ¬ (0 : Int) > p by omega), if_neg (by omega)]
theorem f27 {p q r s : Int} (p1 : 0 ≤ p) (p2 : p ≤ 255) (q1 : 0 ≤ q) (q2 : q ≤ 255) (r1 : 0 ≤ r) (r2 : r ≤ 255) (s1 : 0 ≤ s) (s2 : s ≤ 255) : F27_0 p q r s = 0 := by
  have hc : c27_4 p q r s = false := by
    unfold c27_4 t27_0 t27_1 t27_2 t27_3
    rw [ink_ok p1 p2, ink_ok q1 q2, ink_ok r1 r2, ink_ok s1 s2]
    simp only [eqI_same, andB, Bool.not_true]
  unfold F27_0 F27
  rw [hc]; rfl
structure Inks (p q r s : Int) : Prop where
  p1 : 0 ≤ p
  p2 : p ≤ 255
  q1 : 0 ≤ q
  q2 : q ≤ 255
  r1 : 0 ≤ r
  r2 : r ≤ 255
  s1 : 0 ≤ s
  s2 : s ≤ 255
theorem f16 {w h : Int} {t : List Nat} (g : GT w h t) (x y : Int) :
    (∀ (n : Nat) (p q r s : Int), 300 ≤ n → Inks p q r s → F16 n w h t p q r s x y = some (B4 (ltI (Th w h t x y) p) (ltI (Th w h t x y) q) (ltI (Th w h t x y) r) (ltI (Th w h t x y) s), 0)) ∧
      ∀ (n : Nat) (m : Int), 300 ≤ n → 0 ≤ m → m ≤ 255 → F11 n w h t m x y = some (ltI (Th w h t x y) m, 0) ∧ F7 n w h t m x y = some (ltI (Th w h t x y) m) ∧ F8 n w h t m x y = some (!ltI (Th w h t x y) m) := by
  obtain ⟨t0, t1, k1, k2, k3, k4, k5, k6⟩ := thr g x y
  generalize Th w h t x y = T at *
  refine ⟨fun n p q r s hn I => ?_, fun n m hn m1 m2 => ?_⟩
  · have e99 := f21 g hn
    have e0 : F21_0 n w h t = 0 := by unfold F21_0; rw [e99]; rfl
    unfold F16
    rw [e99, e0, f27 I.p1 I.p2 I.q1 I.q2 I.r1 I.r2 I.s1 I.s2, k1, k2, k3, k4, k5]
    generalize ltI T p = a
    generalize ltI T q = b
    generalize ltI T r = c
    generalize ltI T s = d
    cases a <;> cases b <;> cases c <;> cases d <;> rfl
  · have e99 := f21 g hn
    have e0 : F21_0 n w h t = 0 := by unfold F21_0; rw [e99]; rfl
    have e98 : F11 n w h t m x y = some (ltI T m, 0) := by
      unfold F11
      rw [e99, e0, ltF m1, ltF m2, k1, k2, k3, k6]; rfl
    have a0 : F11_0 n w h t m x y = ltI T m := by unfold F11_0; rw [e98]; rfl
    have a1 : F11_1 n w h t m x y = 0 := by unfold F11_1; rw [e98]; rfl
    refine ⟨e98, ?_, ?_⟩
    · unfold F7
      rw [e98, a0, a1]
      cases ltI T m <;> rfl
    · unfold F8
      rw [e98, a0, a1]
      cases ltI T m <;> rfl
/-! a spot tile -/
theorem spot_byte {N r : Int} (h1 : 1 ≤ N) (h2 : N ≤ 256) (r1 : 0 ≤ r) (r2 : r ≤ N - 1) :
    ∃ b : Int, wrapA .u8 (wrapA .i64 (Int.tdiv (wrapA .i64 (Int.mul 255 r)) N)) = b ∧ 0 ≤ b ∧ b < 255 := by
  have hd : 255 * r / N < 255 := Int.ediv_lt_of_lt_mul (by omega) (by omega)
  have h0 : 0 ≤ 255 * r / N := Int.ediv_nonneg (by omega) (by omega)
  refine ⟨255 * r / N, ?_, h0, hd⟩
  rw [mul_int, wrap64 (n := 255 * r) (by omega) (by omega), tdiv_pos (by omega), wrap64 (by omega) (by omega), w8 h0 (by omega)]
section
variable {k w h : Int} (w1 : 1 ≤ w) (w2 : w ≤ 16) (h1 : 1 ≤ h) (h2 : h ≤ 16)
include w1 w2 h1 h2
theorem L22_1_ok : ∀ (n : Nat) (v0 : Nat) (v1 v2 v3 v4 : Int) (v5 : List AV), v1 = v0 → 1 ≤ v1 → v1 < w * h → 0 ≤ v2 → v2 ≤ v4 → v4 ≤ w * h → (v1 < v4 → v2 ≤ v4 - 1) →
    v3 = F36_0 k w h (Int.tmod v1 w) (wrapA .i64 (Int.tdiv v1 w)) → AllB v5 v0 → 300 * (w * h - v1) - v4 < n → ∃ t, L22_1 k w h n v0 v1 v2 v3 v4 v5 = some (w, h, t, 0) ∧ GT w h t
  | 0, v0, v1, v2, v3, v4, v5, a1, a2, a3, a4, a5, a6, a7, a8, a9, hn => by have := wh_bd w1 w2 h1 h2; omega
  | n + 1, v0, v1, v2, v3, v4, v5, a1, a2, a3, a4, a5, a6, a7, a8, a9, hn => by
    have hN := wh_bd w1 w2 h1 h2
    have eN : wrapA .i64 (Int.mul w h) = w * h := by rw [mul_int]; exact wrap64 (by omega) (by omega)
    have ew : eqI w 0 = false := eqF (by omega)
    have e4 : ∀ z : Int, 0 ≤ z → z ≤ 1000 → wrapA .i64 (Int.add z 1) = z + 1 := fun z z1 z2 => by rw [add_int]; exact wrap64 (by omega) (by omega)
    have pu : pureAVs v5 = true := allB_pure a9.2
    rw [L22_1_succ]
    simp only [eN, ew, pu, Bool.not_false, cond_true]
    by_cases q : v4 < w * h
    · rw [cT (ltT q)]
      have step : ∀ r : Int, 0 ≤ r → r ≤ v4 + 1 → (v1 < v4 + 1 → r ≤ v4) → ∃ t, L22_1 k w h n v0 v1 r v3 (wrapA .i64 (Int.add v4 1)) v5 = some (w, h, t, 0) ∧ GT w h t := by
        intro r r1 r2 r3
        rw [e4 v4 (by omega) (by omega)]
        exact L22_1_ok n v0 v1 r v3 (v4 + 1) v5 a1 a2 a3 r1 (by omega) (by omega) (fun z => by have := r3 z; omega) a8 a9 (by omega)
      rw [e4 v2 (by omega) (by omega)] at *
      by_cases c1 : F36_0 k w h (Int.tmod v4 w) (wrapA .i64 (Int.tdiv v4 w)) < v3
      · rw [cT (ltT c1)]
        refine step (v2 + 1) (by omega) (by omega) (fun z => ?_)
        by_cases e : v4 = v1
        · subst e; rw [← a8] at c1; omega
        · have := a7 (by omega); omega
      · rw [cF (ltF (by omega))]
        by_cases c2 : F36_0 k w h (Int.tmod v4 w) (wrapA .i64 (Int.tdiv v4 w)) = v3
        · rw [cT (eqT c2)]
          by_cases c3 : v4 < v1
          · rw [cT (ltT c3)]
            exact step (v2 + 1) (by omega) (by omega) (fun z => by omega)
          · rw [cF (ltF (by omega))]
            exact step v2 a4 (by omega) (fun z => by omega)
        · rw [cF (eqF c2)]
          exact step v2 a4 (by omega) (fun z => by omega)
    · rw [cF (ltF (by omega))]
      have hv4 : v4 = w * h := by omega
      have hr := a7 (by omega)
      obtain ⟨b, hb, b1, b2⟩ := spot_byte (N := w * h) hN.1 hN.2 a4 (by omega)
      have et : t22_18 w h v2 = b := by unfold t22_18; rw [eN]; exact hb
      have hl : AllB (l22_19 w h v2 v5) (v0 + 1) := by
        unfold l22_19; rw [et]; exact allB_snoc a9 b1 b2
      have pl : pureAVs (l22_19 w h v2 v5) = true := allB_pure hl.2
      have g1 : eqI (w * h) 0 = false := eqF (by omega)
      have g2 : Nat.blt v0 (v0 + 1) = true := Nat.ble_eq_true_of_le (Nat.le_refl _)
      have g3 : Nat.ble v0 1000000 = true := Nat.ble_eq_true_of_le (by omega)
      have g4 : Nat.beq (List.length v5) (0 + v0 * 1) = true := by rw [a9.1, Nat.zero_add, Nat.mul_one]; exact Nat.beq_refl _
      simp only [g1, g2, g3, g4, pl, Bool.not_false, cond_true, e4 v1 (by omega) (by omega)]
      by_cases c : v1 + 1 < w * h
      · rw [cT (ltT c)]
        refine L22_1_ok n (v0 + 1) (v1 + 1) 0 _ 0 _ (by omega) (by omega) c (by omega) (by omega) (by omega) (fun z => by omega) ?_ hl (by omega)
        unfold t22_20; rw [e4 v1 (by omega) (by omega)]
      · rw [cF (ltF (by omega))]
        obtain ⟨s1, s2, s3⟩ := str_ok hl
        rw [cT s1]
        refine ⟨_, rfl, w1, w2, h1, h2, ?_, ?_⟩
        · unfold u22_21; rw [s2]; omega
        · unfold u22_21; exact s3
theorem L22_0_ok : ∀ (n : Nat) (v0 v1 : Int), 0 ≤ v0 → 0 ≤ v1 → v1 ≤ w * h → (v0 ≤ v1) → (0 < v1 → v0 ≤ v1 - 1) → 80000 - v1 < n → ∃ t, L22_0 k w h n v0 v1 = some (w, h, t, 0) ∧ GT w h t
  | 0, v0, v1, a1, a2, a3, a4, a5, hn => by have := wh_bd w1 w2 h1 h2; omega
  | n + 1, v0, v1, a1, a2, a3, a4, a5, hn => by
    have hN := wh_bd w1 w2 h1 h2
    have eN : wrapA .i64 (Int.mul w h) = w * h := by rw [mul_int]; exact wrap64 (by omega) (by omega)
    have ew : eqI w 0 = false := eqF (by omega)
    have e4 : ∀ z : Int, 0 ≤ z → z ≤ 1000 → wrapA .i64 (Int.add z 1) = z + 1 := fun z z1 z2 => by rw [add_int]; exact wrap64 (by omega) (by omega)
    rw [L22_0_succ]
    simp only [eN, ew, Bool.not_false, cond_true]
    by_cases q : v1 < w * h
    · rw [cT (ltT q), e4 v1 (by omega) (by omega), e4 v0 (by omega) (by omega)]
      have st : ∀ r : Int, 0 ≤ r → r ≤ v1 → ∃ t, L22_0 k w h n r (v1 + 1) = some (w, h, t, 0) ∧ GT w h t := fun r r1 r2 =>
        L22_0_ok n r (v1 + 1) r1 (by omega) (by omega) (by omega) (fun _ => by omega) (by omega)
      by_cases z : v1 = 0
      · subst z
        have c1 : c22_14 k w h 0 = false := by unfold c22_14; exact ltF (Int.le_refl _)
        have c2 : c22_15 k w h 0 = true := by unfold c22_15; exact eqT rfl
        rw [c1, c2, show ltI 0 0 = false from rfl]
        exact st v0 a1 (by omega)
      · have a5 := a5 (by omega)
        cases c22_14 k w h v1 with
        | true => exact st (v0 + 1) (by omega) (by omega)
        | false =>
          cases c22_15 k w h v1 with
          | true =>
            show ∃ t, (bif ltI v1 0 then _ else _) = _ ∧ _
            rw [ltF (by omega : (0 : Int) ≤ v1)]
            exact st v0 a1 (by omega)
          | false => exact st v0 a1 (by omega)
    · rw [cF (ltF (by omega))]
      have a5 := a5 (by omega)
      have hv : v1 = w * h := by omega
      obtain ⟨b, hb, b1, b2⟩ := spot_byte (N := w * h) hN.1 hN.2 a1 (by omega)
      have g1 : eqI (w * h) 0 = false := eqF (by omega)
      simp only [g1, Bool.not_false, cond_true]
      by_cases c : 1 < w * h
      · rw [cT (ltT c)]
        have hl : AllB (l22_16 w h v0) 1 := by
          refine ⟨rfl, fun c hc => ?_⟩
          unfold l22_16 at hc
          rw [eN, hb] at hc
          simp only [List.mem_cons, List.not_mem_nil, or_false] at hc; subst hc
          exact ⟨b, rfl, b1, b2⟩
        exact L22_1_ok w1 w2 h1 h2 n 1 1 0 _ 0 _ rfl (by omega) c (by omega) (by omega) (by omega) (fun z => by omega) rfl hl (by omega)
      · rw [cF (ltF (by omega))]
        refine ⟨_, rfl, w1, w2, h1, h2, ?_, ?_⟩
        · unfold u22_17; simp; omega
        · intro x hx
          unfold u22_17 at hx
          rw [eN, hb] at hx
          simp only [List.mem_cons, List.not_mem_nil, or_false] at hx; subst hx
          omega
end
theorem f22 {n : Nat} (hn : 90000 ≤ n) {k w h : Int} (k1 : 0 ≤ k) (k2 : k ≤ 2) (w1 : 1 ≤ w) (w2 : w ≤ 16) (h1 : 1 ≤ h) (h2 : h ≤ 16) : ∃ t, F22 n k w h = some (w, h, t, 0) ∧ GT w h t := by
  have hN := wh_bd w1 w2 h1 h2
  have eN : wrapA .i64 (Int.mul w h) = w * h := by rw [mul_int]; exact wrap64 (by omega) (by omega)
  unfold F22
  rw [ltF k1, ltF k2, ltF w1, ltF w2, ltF h1, ltF h2, eN, ltT (by omega : (0 : Int) < w * h), eqF (by omega : w ≠ 0)]
  exact L22_0_ok w1 w2 h1 h2 n 0 0 (by omega) (by omega) (by omega) (by omega) (fun _ => by omega) (by omega)

theorem w64 {n : Int} (h1 : 0 ≤ n) (h2 : n ≤ 1000000) : wrapA .i64 n = n := wrap64 (by omega) (by omega)
theorem side {a : Int} (h1 : 0 ≤ a) (h2 : a ≤ 255) : ∃ W, wrapA .i64 (Int.add 1 (wrapA .i64 (Int.tmod a 16))) = W ∧ 1 ≤ W ∧ W ≤ 16 := by
  have e : Int.tmod a 16 = a % 16 := Int.tmod_eq_emod_of_nonneg h1
  have := Int.emod_nonneg a (show (16 : Int) ≠ 0 by omega)
  have := Int.emod_lt_of_pos a (show (0 : Int) < 16 by omega)
  refine ⟨_, rfl, ?_⟩
  rw [e, w64 (n := a % 16) (by omega) (by omega), add_int, w64 (by omega) (by omega)]
  omega
theorem kind {a : Int} (h1 : 0 ≤ a) (h2 : a ≤ 255) : 0 ≤ Int.tmod a 4 ∧ wrapA .i64 (Int.tmod a 4) = Int.tmod a 4 := by
  have e : Int.tmod a 4 = a % 4 := Int.tmod_eq_emod_of_nonneg h1
  have := Int.emod_nonneg a (show (4 : Int) ≠ 0 by omega)
  have := Int.emod_lt_of_pos a (show (0 : Int) < 4 by omega)
  rw [e]; exact ⟨by omega, w64 (by omega) (by omega)⟩
theorem allB_str {w h : Int} (w1 : 1 ≤ w) (w2 : w ≤ 16) (h1 : 1 ≤ h) (h2 : h ≤ 16) {l : List AV} {N : Nat} (hN : (N : Int) = w * h) (a : AllB l N) : strOk l 0 N = true ∧ GT w h (strOf l 0 N) := by
  obtain ⟨k1, k2, k3⟩ := str_ok a
  exact ⟨k1, w1, w2, h1, h2, by rw [k2]; exact hN, k3⟩
theorem fill (a0_0 a0_1 a0_2 : Int) (x0 : List AV) (c0 k0 : Nat) (hc : 0 < c0) (hx : KOk (kRep c0 [.int .u8]) x0)
    {w h : Int} (w1 : 1 ≤ w) (w2 : w ≤ 16) (h1 : 1 ≤ h) (h2 : h ≤ 16) {N : Nat} (hN : (N : Int) = w * h) : ∀ (n : Nat) (v : Int) (l : List AV), 0 ≤ v → v ≤ N → AllB l N → (N : Int) - v < n → ∃ t, L6s_0 a0_0 a0_1 a0_2 x0 c0 k0 n w h N v l = some (w, h, t) ∧ GT w h t := by
  have hb := wh_bd w1 w2 h1 h2
  intro n
  induction n with
  | zero => intro v l v0 vN a hn; omega
  | succ n ih =>
    intro v l v0 vN a hn
    rw [L6s_0_succ]
    by_cases q : v < N
    · have e : Int.tmod v (↑c0 : Int) = v % c0 := Int.tmod_eq_emod_of_nonneg v0
      have m0 := Int.emod_nonneg v (show (c0 : Int) ≠ 0 by omega)
      have m1 := Int.emod_lt_of_pos v (show (0 : Int) < c0 by omega)
      obtain ⟨u1, u2, u3⟩ := u8_cell hx (i := (v % (c0 : Int)).toNat) (by omega)
      have et : t6s_21 x0 c0 v = Int.tmod (intC x0 (v % (c0 : Int)).toNat) 255 := by unfold t6s_21; rw [e, at1]
      have et2 : Int.tmod (intC x0 (v % (c0 : Int)).toNat) 255 = intC x0 (v % (c0 : Int)).toNat % 255 := Int.tmod_eq_emod_of_nonneg u2
      have s0 := Int.emod_nonneg (intC x0 (v % (c0 : Int)).toNat) (show (255 : Int) ≠ 0 by omega)
      have s1 := Int.emod_lt_of_pos (intC x0 (v % (c0 : Int)).toNat) (show (0 : Int) < 255 by omega)
      obtain ⟨r1, r2⟩ := allB_put (b := t6s_21 x0 c0 v) a (i := v.toNat) (by omega) (by rw [et, et2]; omega) (by rw [et, et2]; omega)
      have el : l6s_22 x0 c0 v l = putL l v.toNat [.int .u8 (t6s_21 x0 c0 v)] := by unfold l6s_22; rw [at1]
      rw [el, e, at1, at1, ltT q, ltT (by omega : (0 : Int) < c0), eqF (by omega : (c0 : Int) ≠ 0), inT m0 (by omega), u1, inT v0 (by omega), r1, allB_pure r2.2, add_int, w64 (by omega) (by omega)]
      exact ih (v + 1) _ (by omega) (by omega) r2 (by omega)
    · obtain ⟨k1, g⟩ := allB_str w1 w2 h1 h2 hN a
      rw [ltF (by omega : (N : Int) ≤ v), k1]
      exact ⟨_, rfl, g⟩

theorem tile_s {a0_0 a0_1 a0_2 : Int} (x0 : List AV) (c0 k0 : Nat) (hc : 0 < c0) (hx : KOk (kRep c0 [.int .u8]) x0) (h0 : 0 ≤ a0_0 ∧ a0_0 ≤ 255) (h1 : 0 ≤ a0_1 ∧ a0_1 ≤ 255) (h2 : 0 ≤ a0_2 ∧ a0_2 ≤ 255) : ∃ w h t, F6s 100000 a0_0 a0_1 a0_2 x0 c0 k0 = some (w, h, t) ∧ GT w h t := by
  obtain ⟨w, eW, W1, W2⟩ := side h1.1 h1.2
  obtain ⟨h, eH, H1, H2⟩ := side h2.1 h2.2
  have hN := wh_bd W1 W2 H1 H2
  have em : wrapA .i64 (Int.mul w h) = w * h := by rw [mul_int]; exact w64 (by omega) (by omega)
  obtain ⟨ka, kw⟩ := kind h0.1 h0.2
  have t0 : t6s_18 a0_1 = w := eW
  have t1 : t6s_19 a0_2 = h := eH
  have hT : ((w * h).toNat : Int) = w * h := by omega
  have el : l6s_20 a0_1 a0_2 = repeatL (w * h).toNat [.int .u8 0] := by unfold l6s_20; rw [t0, t1, em]
  unfold F6s
  by_cases q : Int.tmod a0_0 4 < 3
  · obtain ⟨t, e100, g⟩ := f22 (n := 100000) (by omega) ka (show Int.tmod a0_0 4 ≤ 2 by omega) W1 W2 H1 H2
    have p0 : F22_0 100000 (Int.tmod a0_0 4) w h = w := by unfold F22_0; rw [e100]; rfl
    have p1 : F22_1 100000 (Int.tmod a0_0 4) w h = h := by unfold F22_1; rw [e100]; rfl
    have p2 : F22_2 100000 (Int.tmod a0_0 4) w h = t := by unfold F22_2; rw [e100]; rfl
    rw [ltT q, kw, t0, t1, e100, p0, p1, p2]
    exact ⟨w, h, t, rfl, g⟩
  · rw [ltF (by omega : (3 : Int) ≤ Int.tmod a0_0 4), el, t0, t1, em, ltF (by omega : (0 : Int) ≤ w * h), ltF (by omega : w * h ≤ w * h), ltF (by omega : w * h ≤ 1000000), allB_pure (allB_rep _).2]
    obtain ⟨t, e, g⟩ := fill a0_0 a0_1 a0_2 x0 c0 k0 hc hx W1 W2 H1 H2 hT 100000 0 _ (by omega) (by omega) (allB_rep _) (by omega)
    exact ⟨w, h, t, e, g⟩

theorem tile_e {a0_0 a0_1 a0_2 : Int} (h0 : 0 ≤ a0_0 ∧ a0_0 ≤ 255) (h1 : 0 ≤ a0_1 ∧ a0_1 ≤ 255) (h2 : 0 ≤ a0_2 ∧ a0_2 ≤ 255) : ∃ w h t, F6e 100000 a0_0 a0_1 a0_2 = some (w, h, t) ∧ GT w h t := by
  obtain ⟨w, eW, W1, W2⟩ := side h1.1 h1.2
  obtain ⟨h, eH, H1, H2⟩ := side h2.1 h2.2
  have hN := wh_bd W1 W2 H1 H2
  have em : wrapA .i64 (Int.mul w h) = w * h := by rw [mul_int]; exact w64 (by omega) (by omega)
  obtain ⟨ka, kw⟩ := kind h0.1 h0.2
  have t0 : t6e_0 a0_1 = w := eW
  have t1 : t6e_1 a0_2 = h := eH
  have hT : ((w * h).toNat : Int) = w * h := by omega
  have el : l6e_3 a0_1 a0_2 = repeatL (w * h).toNat [.int .u8 0] := by unfold l6e_3; rw [t0, t1, em]
  unfold F6e
  by_cases q : Int.tmod a0_0 4 < 3
  · obtain ⟨t, e100, g⟩ := f22 (n := 100000) (by omega) ka (show Int.tmod a0_0 4 ≤ 2 by omega) W1 W2 H1 H2
    have p0 : F22_0 100000 (Int.tmod a0_0 4) w h = w := by unfold F22_0; rw [e100]; rfl
    have p1 : F22_1 100000 (Int.tmod a0_0 4) w h = h := by unfold F22_1; rw [e100]; rfl
    have p2 : F22_2 100000 (Int.tmod a0_0 4) w h = t := by unfold F22_2; rw [e100]; rfl
    rw [ltT q, kw, t0, t1, e100, p0, p1, p2]
    exact ⟨w, h, t, rfl, g⟩
  · obtain ⟨k1, g⟩ := allB_str W1 W2 H1 H2 hT (allB_rep (w * h).toNat)
    rw [ltF (by omega : (3 : Int) ≤ Int.tmod a0_0 4), el, t0, t1, em, ltF (by omega : (0 : Int) ≤ w * h), ltF (by omega : w * h ≤ w * h), ltF (by omega : w * h ≤ 1000000), k1]
    cases c6e_2 a0_1 a0_2
    · exact ⟨w, h, _, rfl, g⟩
    · exact ⟨w, h, _, rfl, g⟩

/-! sums -/
def S : Nat → (Int → Int) → Int
  | 0, _ => 0
  | n + 1, f => S n f + f n
theorem S_congr {f g : Int → Int} : ∀ (n : Nat), (∀ i : Int, 0 ≤ i → i < n → f i = g i) → S n f = S n g
  | 0, _ => rfl
  | n + 1, h => by simp only [S]; rw [S_congr n (fun i h0 h1 => h i h0 (by omega)), h n (by omega) (by omega)]
theorem S_shift (f : Int → Int) : ∀ n : Nat, S n (fun i => f (i + 1)) + f 0 = S n f + f n
  | 0 => by simp [S]
  | n + 1 => by
    have := S_shift f n
    simp only [S]
    have e : ((n + 1 : Nat) : Int) = (n : Int) + 1 := by omega
    rw [e]; omega
theorem S_add (f : Int → Int) (m : Nat) : ∀ n : Nat, S (m + n) f = S m f + S n (fun i => f (m + i))
  | 0 => by simp [S]
  | n + 1 => by
    have := S_add f m n
    have e : ((m + n : Nat) : Int) = (m : Int) + n := by omega
    show S (m + n) f + f ((m + n : Nat) : Int) = S m f + (S n (fun i => f (m + i)) + f (m + n))
    rw [e]; omega
theorem rot_up {w : Nat} (f : Int → Int) (x : Int) : S w (fun i => f ((x + 1 + i) % w)) = S w (fun i => f ((x + i) % w)) := by
  have k := S_shift (fun i => f ((x + i) % w)) w
  have e : (fun i : Int => f ((x + 1 + i) % w)) = fun i => f ((x + (i + 1)) % w) := by funext i; congr 2; omega
  rw [e]
  have e1 : (x + (w : Int)) % w = (x + 0) % w := by rw [Int.add_emod_right, Int.add_zero]
  simp only [e1] at k
  omega
theorem rot {w : Nat} (f : Int → Int) (x : Int) : S w (fun i => f ((x + i) % w)) = S w f := by
  have z : S w (fun i => f ((0 + i) % w)) = S w f := S_congr w (fun i h0 h1 => by rw [Int.zero_add, Int.emod_eq_of_lt h0 h1])
  have up : ∀ n : Nat, S w (fun i => f (((n : Int) + i) % w)) = S w f := by
    intro n
    induction n with
    | zero => exact z
    | succ n ih =>
      have := rot_up (w := w) f n
      have e : ((n + 1 : Nat) : Int) = (n : Int) + 1 := by omega
      rw [e, this, ih]
  have dn : ∀ n : Nat, S w (fun i => f ((-(n : Int) + i) % w)) = S w f := by
    intro n
    induction n with
    | zero => exact z
    | succ n ih =>
      have := rot_up (w := w) f (-(n : Int) - 1)
      have e : -((n + 1 : Nat) : Int) = -(n : Int) - 1 := by omega
      have e2 : -(n : Int) - 1 + 1 = -(n : Int) := by omega
      rw [e2] at this
      rw [e, ← this, ih]
  by_cases h : 0 ≤ x
  · obtain ⟨n, rfl⟩ := Int.eq_ofNat_of_zero_le h; exact up n
  · obtain ⟨n, hn⟩ := Int.eq_ofNat_of_zero_le (show 0 ≤ -x by omega)
    have e : x = -(n : Int) := by omega
    rw [e]; exact dn n
theorem S_rows (f : Int → Int) (w : Nat) : ∀ h : Nat, S h (fun j => S w (fun i => f (j * w + i))) = S (h * w) f
  | 0 => by simp [S]
  | h + 1 => by
    have e : ((h * w : Nat) : Int) = (h : Int) * w := Int.natCast_mul h w
    rw [Nat.add_mul, Nat.one_mul, S_add f (h * w) w, ← S_rows f w h, e]
    rfl
/-- a pixel counts where its bit is set -/
def cel (b : Bool) : Int := bif b then 1 else 0
theorem count_all {w h : Nat} (t : List Nat) (a x y : Int) : S h (fun j => S w (fun i => cel (ltI (Th w h t (x + i) (y + j)) a))) = S (h * w) (fun k => cel (ltI (byteI t k) a)) := by
  have e1 : ∀ j : Int, S w (fun i => cel (ltI (Th w h t (x + i) (y + j)) a)) = (fun r => S w (fun i => cel (ltI (byteI t (r * w + i)) a))) ((y + j) % h) := fun j =>
    rot (w := w) (fun i => cel (ltI (byteI t ((y + j) % h * w + i)) a)) x
  rw [S_congr h (fun j _ _ => e1 j), rot (w := h) (fun r => S w (fun i => cel (ltI (byteI t (r * w + i)) a))) y]
  exact S_rows (fun k => cel (ltI (byteI t k) a)) w h
theorem cel_bd (b : Bool) : 0 ≤ cel b ∧ cel b ≤ 1 := by cases b <;> simp [cel]
theorem L13_ok {w h : Int} {t : List Nat} (g : GT w h t) (a : Int) : ∀ (n : Nat) (v0 v1 : Int), 0 ≤ v0 → v0 ≤ v1 → 0 ≤ v1 → v1 ≤ t.length → (t.length : Int) - v1 < n → v0 = S v1.toNat (fun k => cel (ltI (byteI t k) a)) → L13_0 w h t a n v0 v1 = some (S t.length (fun k => cel (ltI (byteI t k) a)), 0) := by
  have hb := wh_bd g.w1 g.w2 g.h1 g.h2
  have hl := g.len
  intro n
  induction n with
  | zero => intro v0 v1 _ _ _ _ hn; omega
  | succ n ih =>
    intro v0 v1 h0 h01 h1 h2 hn e
    rw [L13_0_succ]
    by_cases q : v1 < t.length
    · have bb := byte_lt g.lt v1
      rw [ltT q, inT h1 (by omega), w64 (n := byteI t v1) (by omega) (by omega), add_int, add_int, w64 (n := v0 + 1) (by omega) (by omega), w64 (n := v1 + 1) (by omega) (by omega)]
      have e2 : S (v1 + 1).toNat (fun k => cel (ltI (byteI t k) a)) = v0 + cel (ltI (byteI t v1) a) := by
        rw [show (v1 + 1).toNat = v1.toNat + 1 by omega, e]; simp only [S]
        rw [show ((v1.toNat : Nat) : Int) = v1 by omega]
      cases hc : ltI (byteI t v1) a with
      | true => exact ih (v0 + 1) (v1 + 1) (by omega) (by omega) (by omega) (by omega) (by omega) (by rw [e2, hc]; rfl)
      | false => exact ih v0 (v1 + 1) (by omega) (by omega) (by omega) (by omega) (by omega) (by rw [e2, hc]; simp [cel])
    · rw [ltF (by omega : (t.length : Int) ≤ v1)]
      obtain rfl : v1 = t.length := by omega
      rw [e, Int.toNat_natCast]; rfl
theorem f9 {w h : Int} {t : List Nat} (g : GT w h t) {a : Int} (a1 : 0 ≤ a) (a2 : a ≤ 255) {n : Nat} (hn : 300 ≤ n) : F9 n w h t a = some (S t.length (fun k => cel (ltI (byteI t k) a))) := by
  have hb := wh_bd g.w1 g.w2 g.h1 g.h2
  have hl := g.len
  have e21 := f21 g hn
  have e0 : F21_0 n w h t = 0 := by unfold F21_0; rw [e21]; rfl
  have e13 : F13 n w h t a = some (S t.length (fun k => cel (ltI (byteI t k) a)), 0) := by
    unfold F13
    rw [e21, e0, ltF a1, ltF a2]
    exact L13_ok g a n 0 0 (by omega) (by omega) (by omega) (by omega) (by omega) rfl
  have k0 : F13_0 n w h t a = S t.length (fun k => cel (ltI (byteI t k) a)) := by unfold F13_0; rw [e13]; rfl
  have k1 : F13_1 n w h t a = 0 := by unfold F13_1; rw [e13]; rfl
  unfold F9
  rw [e13, k0, k1]; rfl
theorem th_per {w h : Int} (t : List Nat) (x y : Int) : Th w h t (x + w) (y - h) = Th w h t x y := by
  unfold Th
  rw [Int.add_emod_right, Int.sub_emod_right]
theorem tmod_mod {x s : Int} (s1 : 1 ≤ s) : x.tmod s % s = x % s := by
  have e := Int.mul_tdiv_add_tmod x s
  conv => rhs; rw [← e, Int.add_comm, Int.add_mul_emod_self_left]
theorem f39 {x s : Int} (s1 : 1 ≤ s) (s2 : s ≤ 16) : F39 x s = some (x % s) := by
  have hb := tmod_bd x (show 0 < s by omega)
  have e := tmod_mod (x := x) s1
  unfold F39
  rw [eqF (by omega), add_int, wrap64 (by omega) (by omega), ← e]
  by_cases q : x.tmod s < 0
  · rw [ltT q, ← Int.add_emod_right, Int.emod_eq_of_lt (by omega) (by omega)]; rfl
  · rw [ltF (by omega), Int.emod_eq_of_lt (by omega) (by omega)]; rfl
theorem f26 {w h : Int} {t : List Nat} (g : GT w h t) (m x y : Int) : F26 w h t m x y = some (ltI (Th w h t x y) m) := by
  have ha := f39 (x := y) g.h1 g.h2
  have hb := f39 (x := x) g.w1 g.w2
  have a1 := Int.emod_nonneg y (show h ≠ 0 by have := g.h1; omega)
  have a2 := Int.emod_lt_of_pos y (show 0 < h by have := g.h1; omega)
  have b1 := Int.emod_nonneg x (show w ≠ 0 by have := g.w1; omega)
  have b2 := Int.emod_lt_of_pos x (show 0 < w by have := g.w1; omega)
  have ea : F39_0 y h = y % h := by unfold F39_0; rw [ha]; rfl
  have eb : F39_0 x w = x % w := by unfold F39_0; rw [hb]; rfl
  unfold Th F26 c26_0
  rw [ha, hb, ea, eb]
  generalize y % h = a at *
  generalize x % w = b at *
  have hw := g.w1; have hw2 := g.w2
  have hm : a * w ≤ (h - 1) * w := Int.mul_le_mul_of_nonneg_right (by omega) (by omega)
  have hm0 : 0 ≤ a * w := Int.mul_nonneg a1 (by omega)
  have hx : (h - 1) * w = w * h - w := by rw [Int.sub_mul, Int.one_mul, Int.mul_comm]
  have hl := g.len
  have hwh := wh_bd g.w1 g.w2 g.h1 g.h2
  have e1 : wrapA .i64 (Int.mul a w) = a * w := by rw [mul_int]; exact wrap64 (by omega) (by omega)
  have e2 : wrapA .i64 (Int.add (a * w) b) = a * w + b := by rw [add_int]; exact wrap64 (by omega) (by omega)
  have hT := byte_lt g.lt (a * w + b)
  have e3 : wrapA .i64 (byteI t (a * w + b)) = byteI t (a * w + b) := wrap64 (by omega) (by omega)
  rw [e1, e2, e3, inT (by omega) (by omega)]; rfl
/-- octets -/
def BT (t : List Nat) : Prop := t.length ≤ 300 ∧ ∀ b, b ∈ t → b < 256
theorem byte_bt {t : List Nat} (h : BT t) (i : Int) : 0 ≤ byteI t i ∧ byteI t i < 256 := by
  have : t.getD i.toNat 0 < 256 := by
    by_cases q : i.toNat < t.length
    · rw [List.getD_eq_getElem?_getD, List.getElem?_eq_getElem q]; exact h.2 _ (List.getElem_mem q)
    · rw [List.getD_eq_getElem?_getD, List.getElem?_eq_none (by omega)]; simp
  simp only [byteI, Int.ofNat_eq_natCast]; omega
theorem chk_loop {w h : Int} {t : List Nat} (B : BT t) : ∀ (n : Nat) (v : Int), 0 ≤ v → v ≤ t.length → (t.length : Int) - v < n → (∀ k : Int, 0 ≤ k → k < v → byteI t k < 255) →
    ((∀ k : Int, 0 ≤ k → k < t.length → byteI t k < 255) ∧ L21_0 w h t n v = some 0 ∧ L25_0 w h t n v = some true) ∨ (L21_0 w h t n v = some 370 ∧ L25_0 w h t n v = some false) := by
  have hb := B.1
  intro n
  induction n with
  | zero => intro v _ _ hn; omega
  | succ n ih =>
    intro v v0 v1 hn hk
    rw [L21_0_succ, L25_0_succ]
    by_cases q : v < t.length
    · have bb := byte_bt B v
      rw [ltT q, inT v0 (by omega), add_int, wrap64 (n := v + 1) (by omega) (by omega)]
      by_cases z : byteI t v = 255
      · rw [ltT (by omega : 254 < byteI t v), eqT z]; exact .inr ⟨rfl, rfl⟩
      · rw [ltF (by omega : byteI t v ≤ 254), eqF z]
        refine ih (v + 1) (by omega) (by omega) (by omega) (fun k k0 k1 => ?_)
        by_cases y : k = v
        · subst y; omega
        · exact hk k k0 (by omega)
    · rw [ltF (by omega : (t.length : Int) ≤ v)]
      exact .inl ⟨fun k k0 k1 => hk k k0 (by omega), rfl, rfl⟩
theorem chk {w h : Int} {t : List Nat} (B : BT t) {n : Nat} (hn : 400 ≤ n) : (GT w h t ∧ F21 n w h t = some 0 ∧ F25 n w h t = some true) ∨ (F21 n w h t = some 370 ∧ F25 n w h t = some false) := by
  have hb := B.1
  unfold F21 F25 F31_0 F31
  by_cases a1 : 1 ≤ w
  · by_cases a2 : w ≤ 16
    · by_cases a3 : 1 ≤ h
      · by_cases a4 : h ≤ 16
        · have hw := wh_bd a1 a2 a3 a4
          have e1 : wrapA .i64 (Int.mul w h) = w * h := by rw [mul_int]; exact wrap64 (by omega) (by omega)
          rw [ltF a1, ltF a2, ltF a3, ltF a4, e1]
          by_cases l : (t.length : Int) = w * h
          · rw [eqT l]
            rcases chk_loop (w := w) (h := h) B n 0 (by omega) (by omega) (by omega) (fun k _ _ => by omega) with ⟨k1, k2, k3⟩ | ⟨k2, k3⟩
            · refine .inl ⟨⟨a1, a2, a3, a4, l, fun b hb => ?_⟩, k2, k3⟩
              obtain ⟨i, hi, rfl⟩ := List.getElem_of_mem hb
              have h256 := B.2 _ (List.getElem_mem hi)
              have := k1 i (by omega) (by omega)
              simp only [byteI, Int.ofNat_eq_natCast, Int.toNat_natCast, List.getD_eq_getElem?_getD, List.getElem?_eq_getElem hi, Option.getD_some] at this
              omega
            · exact .inr ⟨k2, k3⟩
          · rw [eqF l]; exact .inr ⟨rfl, rfl⟩
        · rw [ltF a1, ltF a2, ltF a3, ltT (by omega : 16 < h)]; exact .inr ⟨rfl, rfl⟩
      · rw [ltF a1, ltF a2, ltT (by omega : h < 1)]; exact .inr ⟨rfl, rfl⟩
    · rw [ltF a1, ltT (by omega : 16 < w)]; exact .inr ⟨rfl, rfl⟩
  · rw [ltT (by omega : w < 1)]; exact .inr ⟨rfl, rfl⟩
theorem bit_eq {w h : Int} {t : List Nat} (B : BT t) {n : Nat} (hn : 400 ≤ n) (m x y : Int) : F11 n w h t m x y = F12 n w h t m x y ∧ (F12 n w h t m x y).isSome = true := by
  rcases chk (w := w) (h := h) B hn with ⟨g, k1, k2⟩ | ⟨k1, k2⟩
  · have e0 : F21_0 n w h t = 0 := by unfold F21_0; rw [k1]; rfl
    have e1 : F25_0 n w h t = true := by unfold F25_0; rw [k2]; rfl
    have e2 := f26 g m x y
    have e3 : F26_0 w h t m x y = ltI (Th w h t x y) m := by unfold F26_0; rw [e2]; rfl
    by_cases a : 0 ≤ m
    · by_cases b : m ≤ 255
      · rw [((f16 g x y).2 n m (by omega) a b).1]
        unfold F12
        rw [k2, e1, ltF a, ltF b, e2, e3]; exact ⟨rfl, rfl⟩
      · unfold F11 F12
        rw [k1, k2, e0, e1, ltF a, ltT (by omega : 255 < m)]; exact ⟨rfl, rfl⟩
    · unfold F11 F12
      rw [k1, k2, e0, e1, ltT (by omega : m < 0)]; exact ⟨rfl, rfl⟩
  · have e0 : F21_0 n w h t = 370 := by unfold F21_0; rw [k1]; rfl
    have e1 : F25_0 n w h t = false := by unfold F25_0; rw [k2]; rfl
    unfold F11 F12
    rw [k1, k2, e0, e1]; exact ⟨rfl, rfl⟩
theorem L14_ok {w h : Int} {t : List Nat} (g : GT w h t) {W H : Nat} (hW : (W : Int) = w) (hH : (H : Int) = h) (a : Int) : ∀ n : Nat,
    (∀ many j : Int, 0 ≤ j → j ≤ h → 0 ≤ many → many ≤ 16 * j → (h - j) * 18 < n → many = S j.toNat (fun j => S W (fun i => cel (ltI (Th w h t (0 + i) (0 + j)) a))) → L14_0 w h t a n many j = some (S t.length (fun k => cel (ltI (byteI t k) a)), 0)) ∧
    (∀ many j i : Int, 0 ≤ j → j < h → 0 ≤ i → i ≤ w → 0 ≤ many → many ≤ 16 * j + i → (h - j - 1) * 18 + (w - i) + 1 < n → many = S j.toNat (fun j => S W (fun i => cel (ltI (Th w h t (0 + i) (0 + j)) a))) + S i.toNat (fun i => cel (ltI (Th w h t (0 + i) (0 + j)) a)) → L14_1 w h t a n many j i = some (S t.length (fun k => cel (ltI (byteI t k) a)), 0)) := by
  obtain ⟨w1, w2⟩ := And.intro g.w1 g.w2
  obtain ⟨h1, h2⟩ := And.intro g.h1 g.h2
  intro n
  induction n with
  | zero => exact ⟨fun _ _ _ _ _ _ hn => by omega, fun _ _ _ _ _ _ _ _ _ hn => by omega⟩
  | succ n ih =>
    obtain ⟨ih0, ih1⟩ := ih
    refine ⟨fun many j j0 j1 m0 m1 hn e => ?_, fun many j i j0 j1 i0 i1 m0 m1 hn e => ?_⟩
    · rw [L14_0_succ]
      by_cases q : j < h
      · rw [ltT q]
        exact ih1 many j 0 j0 q (by omega) (by omega) m0 (by omega) (by omega) (by rw [e]; simp [S])
      · obtain rfl : j = h := by omega
        have hl : H * W = t.length := by
          have := g.len
          have c : ((H * W : Nat) : Int) = (H : Int) * W := Int.natCast_mul H W
          rw [hW, hH, Int.mul_comm] at c
          omega
        have hc := count_all (w := W) (h := H) t a 0 0
        rw [hW, hH, hl] at hc
        have hj : j.toNat = H := by omega
        rw [hj, hc] at e
        rw [ltF (Int.le_refl _), e]; rfl
    · rw [L14_1_succ]
      by_cases q : i < w
      · have s9 : wrapA .i64 (Int.add i 1) = i + 1 := by rw [add_int]; exact wrap64 (by omega) (by omega)
        have s10 : wrapA .i64 (Int.add many 1) = many + 1 := by rw [add_int]; exact wrap64 (by omega) (by omega)
        have e2 : S (i + 1).toNat (fun i => cel (ltI (Th w h t (0 + i) (0 + j)) a)) = S i.toNat (fun i => cel (ltI (Th w h t (0 + i) (0 + j)) a)) + cel (ltI (Th w h t i j) a) := by
          rw [show (i + 1).toNat = i.toNat + 1 by omega]; simp only [S]
          rw [show ((i.toNat : Nat) : Int) = i by omega, Int.zero_add, Int.zero_add]
        have r1 := f26 g a i j
        have z1 : F26_0 w h t a i j = ltI (Th w h t i j) a := by unfold F26_0; rw [r1]; rfl
        rw [ltT q, r1, z1, s9, s10]
        cases v : ltI (Th w h t i j) a with
        | true => exact ih1 (many + 1) j (i + 1) j0 j1 (by omega) (by omega) (by omega) (by omega) (by omega) (by rw [e2, v, show cel true = 1 from rfl]; omega)
        | false => exact ih1 many j (i + 1) j0 j1 (by omega) (by omega) m0 (by omega) (by omega) (by rw [e2, v, show cel false = 0 from rfl]; omega)
      · obtain rfl : i = w := by omega
        have s9 : wrapA .i64 (Int.add j 1) = j + 1 := by rw [add_int]; exact wrap64 (by omega) (by omega)
        rw [ltF (Int.le_refl _), s9]
        refine ih0 many (j + 1) (by omega) (by omega) m0 (by omega) (by omega) ?_
        rw [show (j + 1).toNat = j.toNat + 1 by omega]; simp only [S]
        rw [show ((j.toNat : Nat) : Int) = j by omega, e, show i.toNat = W by omega]
theorem count_eq {w h : Int} {t : List Nat} (B : BT t) {n : Nat} (hn : 400 ≤ n) (m : Int) : F13 n w h t m = F14 n w h t m ∧ (F14 n w h t m).isSome = true := by
  rcases chk (w := w) (h := h) B hn with ⟨g, k1, k2⟩ | ⟨k1, k2⟩
  · have e0 : F21_0 n w h t = 0 := by unfold F21_0; rw [k1]; rfl
    have e1 : F25_0 n w h t = true := by unfold F25_0; rw [k2]; rfl
    have hb := wh_bd g.w1 g.w2 g.h1 g.h2
    have hl := g.len
    obtain ⟨w1, w2⟩ := And.intro g.w1 g.w2
    obtain ⟨h1, h2⟩ := And.intro g.h1 g.h2
    unfold F13 F14
    rw [k1, k2, e0, e1]
    by_cases a : 0 ≤ m
    · by_cases b : m ≤ 255
      · have l1 := L13_ok g m n 0 0 (by omega) (by omega) (by omega) (by omega) (by omega) rfl
        have l2 := (L14_ok g (W := w.toNat) (H := h.toNat) (by omega) (by omega) m n).1 0 0 (by omega) (by omega) (by omega) (by omega) (by omega) rfl
        rw [ltF a, ltF b, l1, l2]; exact ⟨rfl, rfl⟩
      · rw [ltF a, ltT (by omega : 255 < m)]; exact ⟨rfl, rfl⟩
    · rw [ltT (by omega : m < 0)]; exact ⟨rfl, rfl⟩
  · have e0 : F21_0 n w h t = 370 := by unfold F21_0; rw [k1]; rfl
    have e1 : F25_0 n w h t = false := by unfold F25_0; rw [k2]; rfl
    unfold F13 F14
    rw [k1, k2, e0, e1]; exact ⟨rfl, rfl⟩
theorem ink_chk (p q r s : Int) : (Inks p q r s ∧ F28_0 p q r s = true) ∨ (F27_0 p q r s = 360 ∧ F28_0 p q r s = false) := by
  have key : ∀ x : Int, ¬ (0 ≤ x ∧ x ≤ 255) → eqI (if 255 < (if 0 > x then 0 else x) then (255 : Int) else if 0 > x then 0 else x) x = false := fun x h => by
    apply eqF
    intro e
    split at e <;> (split at e <;> omega)
  have f28 : ∀ p q r s : Int, 0 ≤ p → p ≤ 255 → 0 ≤ q → q ≤ 255 → 0 ≤ r → r ≤ 255 → 0 ≤ s → s ≤ 255 → F28_0 p q r s = true := fun p q r s a b c d e f g h => by
    unfold F28_0 F28; rw [ltF a, ltF b, ltF c, ltF d, ltF e, ltF f, ltF g, ltF h]; rfl
  by_cases a : 0 ≤ p ∧ p ≤ 255
  · by_cases b : 0 ≤ q ∧ q ≤ 255
    · by_cases c : 0 ≤ r ∧ r ≤ 255
      · by_cases d : 0 ≤ s ∧ s ≤ 255
        · exact .inl ⟨⟨a.1, a.2, b.1, b.2, c.1, c.2, d.1, d.2⟩, f28 _ _ _ _ a.1 a.2 b.1 b.2 c.1 c.2 d.1 d.2⟩
        · refine .inr ⟨?_, ?_⟩
          · have k := key s d
            unfold F27_0 F27 c27_4 t27_0 t27_1 t27_2 t27_3
            rw [k, ink_ok a.1 a.2, ink_ok b.1 b.2, ink_ok c.1 c.2, eqI_same, eqI_same, eqI_same]; rfl
          · unfold F28_0 F28
            rw [ltF a.1, ltF a.2, ltF b.1, ltF b.2, ltF c.1, ltF c.2]
            by_cases z : 0 ≤ s
            · rw [ltF z, ltT (by omega : 255 < s)]; rfl
            · rw [ltT (by omega : s < 0)]; rfl
      · refine .inr ⟨?_, ?_⟩
        · have k := key r c
          unfold F27_0 F27 c27_4 t27_0 t27_1 t27_2 t27_3
          rw [k, ink_ok a.1 a.2, ink_ok b.1 b.2, eqI_same, eqI_same]; rfl
        · unfold F28_0 F28
          rw [ltF a.1, ltF a.2, ltF b.1, ltF b.2]
          by_cases z : 0 ≤ r
          · rw [ltF z, ltT (by omega : 255 < r)]; rfl
          · rw [ltT (by omega : r < 0)]; rfl
    · refine .inr ⟨?_, ?_⟩
      · have k := key q b
        unfold F27_0 F27 c27_4 t27_0 t27_1 t27_2 t27_3
        rw [k, ink_ok a.1 a.2, eqI_same]; rfl
      · unfold F28_0 F28
        rw [ltF a.1, ltF a.2]
        by_cases z : 0 ≤ q
        · rw [ltF z, ltT (by omega : 255 < q)]; rfl
        · rw [ltT (by omega : q < 0)]; rfl
  · refine .inr ⟨?_, ?_⟩
    · have k := key p a
      unfold F27_0 F27 c27_4 t27_0 t27_1 t27_2 t27_3
      rw [k]; rfl
    · unfold F28_0 F28
      by_cases z : 0 ≤ p
      · rw [ltF z, ltT (by omega : 255 < p)]; rfl
      · rw [ltT (by omega : p < 0)]; rfl
theorem bits_eq {w h : Int} {t : List Nat} (B : BT t) {n : Nat} (hn : 400 ≤ n) (p q r s x y : Int) : F16 n w h t p q r s x y = F17 n w h t p q r s x y ∧ (F17 n w h t p q r s x y).isSome = true := by
  rcases chk (w := w) (h := h) B hn with ⟨g, k1, k2⟩ | ⟨k1, k2⟩
  · have e0 : F21_0 n w h t = 0 := by unfold F21_0; rw [k1]; rfl
    have e1 : F25_0 n w h t = true := by unfold F25_0; rw [k2]; rfl
    rcases ink_chk p q r s with ⟨I, i2⟩ | ⟨i1, i2⟩
    · have f : ∀ m, F26_0 w h t m x y = ltI (Th w h t x y) m := fun m => by unfold F26_0; rw [f26 g]; rfl
      have e29 : F29 w h t p q r s x y = some (B4 (ltI (Th w h t x y) p) (ltI (Th w h t x y) q) (ltI (Th w h t x y) r) (ltI (Th w h t x y) s)) := by
        unfold F29
        rw [f26 g, f26 g, f26 g, f26 g, f, f, f, f]
        generalize ltI (Th w h t x y) p = a
        generalize ltI (Th w h t x y) q = b
        generalize ltI (Th w h t x y) r = c
        generalize ltI (Th w h t x y) s = d
        cases a <;> cases b <;> cases c <;> cases d <;> rfl
      have e290 : F29_0 w h t p q r s x y = B4 (ltI (Th w h t x y) p) (ltI (Th w h t x y) q) (ltI (Th w h t x y) r) (ltI (Th w h t x y) s) := by unfold F29_0; rw [e29]; rfl
      rw [(f16 g x y).1 n p q r s (by omega) I]
      unfold F17
      rw [k2, e1, i2, e29, e290]; exact ⟨rfl, rfl⟩
    · unfold F16 F17
      rw [k1, k2, e0, e1, i1, i2]; exact ⟨rfl, rfl⟩
  · have e0 : F21_0 n w h t = 370 := by unfold F21_0; rw [k1]; rfl
    have e1 : F25_0 n w h t = false := by unfold F25_0; rw [k2]; rfl
    unfold F16 F17
    rw [k1, k2, e0, e1]; exact ⟨rfl, rfl⟩
theorem GT.bt {w h : Int} {t : List Nat} (g : GT w h t) : BT t := by
  have := wh_bd g.w1 g.w2 g.h1 g.h2
  have := g.len
  exact ⟨by omega, fun b hb => by have := g.lt b hb; omega⟩
theorem f10 {w h : Int} {t : List Nat} (ht : IsBytes t) : ∃ u, F10 w h t = some (w, h, u) ∧ BT u := by
  have k : ∃ k : Nat, t10_0 t = k ∧ k ≤ t.length ∧ k ≤ 300 := by
    unfold t10_0
    split
    · exact ⟨300, rfl, by omega, by omega⟩
    · exact ⟨t.length, rfl, by omega, by omega⟩
  obtain ⟨k, e, k1, k2⟩ := k
  have l1 : leB k t.length = true := Nat.ble_eq_true_of_le k1
  refine ⟨subS t 0 k, ?_, ?_, fun b hb => ?_⟩
  · unfold F10
    rw [e, ltF (by omega : (0 : Int) ≤ k), Int.toNat_natCast, l1]; rfl
  · simp only [subS, List.length_drop, List.length_take]; omega
  · simp only [subS] at hb
    exact ht.1 b (List.mem_of_mem_drop (List.mem_of_mem_take hb))

theorem nbeq (x : Bool) : (!x == x) = false := by cases x <;> rfl

theorem amt_s (a0_0 a0_1 a0_2 : Int) (x0 : List AV) (c0 k0 : Nat) (a1_0 a1_1 : Int) (a1_2 : List Nat) (a2 a3 a4 a5_0 a5_1 a5_2 a5_3 a6_0 a6_1 a6_2 a6_3 : Int) {n : Nat} (hn : 400 ≤ n) (v0 v1 : Int) (v2 : List Nat) (v3 v4 : Int) {w h : Int} {t : List Nat} (T : BT t) (k1 : ltI v4 4 = true) (k2 : inB v4 4 = true) (k3 : ∀ a b c d : Int, cellB [AV.int .i64 a, AV.int .i64 b, AV.int .i64 c, AV.int .i64 d] (Int.toNat v4 * 1) (CK.int .i64) = true) :
    L4s_0 a0_0 a0_1 a0_2 x0 c0 k0 a1_0 a1_1 a1_2 a2 a3 a4 a5_0 a5_1 a5_2 a5_3 a6_0 a6_1 a6_2 a6_3 (n + 1) v0 v1 v2 v3 v4 w h t = L4s_0 a0_0 a0_1 a0_2 x0 c0 k0 a1_0 a1_1 a1_2 a2 a3 a4 a5_0 a5_1 a5_2 a5_3 a6_0 a6_1 a6_2 a6_3 n v0 v1 v2 v3 (wrapA .i64 (Int.add v4 1)) w h t := by
  obtain ⟨e1, e2⟩ := bit_eq (w := w) (h := h) T hn (t4s_65 a2 a6_0 v4) a3 a4
  obtain ⟨e3, e4⟩ := count_eq (w := w) (h := h) T hn (t4s_65 a2 a6_0 v4)
  have c1 : c4s_66 n a2 a3 a4 a6_0 v4 w h t = false := by unfold c4s_66 F11_0 F12_0; rw [e1]; exact nbeq _
  have c2 : c4s_67 n a2 a3 a4 a6_0 v4 w h t = false := by unfold c4s_67 F11_1 F12_1; rw [e1, eqI_same]; rfl
  have c3 : c4s_68 n a2 a6_0 v4 w h t = false := by unfold c4s_68 F13_0 F14_0; rw [e3, eqI_same]; rfl
  have c4 : c4s_69 n a2 a6_0 v4 w h t = false := by unfold c4s_69 F13_1 F14_1; rw [e3, eqI_same]; rfl
  rw [L4s_0_succ, cT k1, cT k2, cT (k3 _ _ _ _), e1, cT e2, cT e2, e3, cT e4, cT e4, cF c1, cF c2, cF c3, cF c4]
theorem ink_s (a0_0 a0_1 a0_2 : Int) (x0 : List AV) (c0 k0 : Nat) (a1_0 a1_1 : Int) (a1_2 : List Nat) (a2 a3 a4 a5_0 a5_1 a5_2 a5_3 a6_0 a6_1 a6_2 a6_3 : Int) {n : Nat} (hn : 400 ≤ n) (v0 v1 : Int) (v2 : List Nat) (v3 v4 : Int) {w h : Int} {t : List Nat} (T : BT t) (k1 : ltI v4 2 = true) (k2 : inB v4 2 = true) (k3 : ∀ a b c d e f g h : Int, cellsB [AV.int .i64 a, AV.int .i64 b, AV.int .i64 c, AV.int .i64 d, AV.int .i64 e, AV.int .i64 f, AV.int .i64 g, AV.int .i64 h] (Int.toNat v4 * 4) (ckRep 4 [CK.int .i64]) = true) :
    L4s_1 a0_0 a0_1 a0_2 x0 c0 k0 a1_0 a1_1 a1_2 a2 a3 a4 a5_0 a5_1 a5_2 a5_3 a6_0 a6_1 a6_2 a6_3 (n + 1) v0 v1 v2 v3 v4 w h t = L4s_1 a0_0 a0_1 a0_2 x0 c0 k0 a1_0 a1_1 a1_2 a2 a3 a4 a5_0 a5_1 a5_2 a5_3 a6_0 a6_1 a6_2 a6_3 n v0 v1 v2 v3 (wrapA .i64 (Int.add v4 1)) w h t := by
  obtain ⟨e1, e2⟩ := bits_eq (w := w) (h := h) T hn (t4s_70 a5_0 a5_1 a5_2 a5_3 a6_0 a6_1 a6_2 a6_3 v4) (t4s_71 a5_0 a5_1 a5_2 a5_3 a6_0 a6_1 a6_2 a6_3 v4) (t4s_72 a5_0 a5_1 a5_2 a5_3 a6_0 a6_1 a6_2 a6_3 v4) (t4s_73 a5_0 a5_1 a5_2 a5_3 a6_0 a6_1 a6_2 a6_3 v4) a3 a4
  have c1 : c4s_76 n a3 a4 a5_0 a5_1 a5_2 a5_3 a6_0 a6_1 a6_2 a6_3 v4 w h t = false := by unfold c4s_76 F16_0 F17_0; rw [e1, eqI_same]; rfl
  have c2 : c4s_77 n a3 a4 a5_0 a5_1 a5_2 a5_3 a6_0 a6_1 a6_2 a6_3 v4 w h t = false := by unfold c4s_77 t4s_74 t4s_75 F16_1 F17_1; rw [e1, eqI_same]; rfl
  rw [L4s_1_succ, cT k1, cT k2, cT (k3 _ _ _ _ _ _ _ _), e1, cT e2, cT e2, cF c1, cF c2]
theorem tile1_s (a0_0 a0_1 a0_2 : Int) (x0 : List AV) (c0 k0 : Nat) (a1_0 a1_1 : Int) (a1_2 : List Nat) (a2 a3 a4 a5_0 a5_1 a5_2 a5_3 a6_0 a6_1 a6_2 a6_3 : Int) {n : Nat} (hn : 400 ≤ n) (v0 v1 : Int) (v2 : List Nat) (v3 : Int) {w h : Int} {t : List Nat} (T : BT t) :
    L4s_0 a0_0 a0_1 a0_2 x0 c0 k0 a1_0 a1_1 a1_2 a2 a3 a4 a5_0 a5_1 a5_2 a5_3 a6_0 a6_1 a6_2 a6_3 (n + 7) v0 v1 v2 v3 0 w h t = L4s_1 a0_0 a0_1 a0_2 x0 c0 k0 a1_0 a1_1 a1_2 a2 a3 a4 a5_0 a5_1 a5_2 a5_3 a6_0 a6_1 a6_2 a6_3 n v0 v1 v2 v3 2 w h t := by
  have y1 : wrapA .i64 (Int.add 0 1) = 1 := rfl
  have y2 : wrapA .i64 (Int.add 1 1) = 2 := rfl
  have y3 : wrapA .i64 (Int.add 2 1) = 3 := rfl
  have y4 : wrapA .i64 (Int.add 3 1) = 4 := rfl
  rw [amt_s a0_0 a0_1 a0_2 x0 c0 k0 a1_0 a1_1 a1_2 a2 a3 a4 a5_0 a5_1 a5_2 a5_3 a6_0 a6_1 a6_2 a6_3 (n := n + 6) (by omega) v0 v1 v2 v3 0 T rfl rfl (fun _ _ _ _ => rfl), y1,
    amt_s a0_0 a0_1 a0_2 x0 c0 k0 a1_0 a1_1 a1_2 a2 a3 a4 a5_0 a5_1 a5_2 a5_3 a6_0 a6_1 a6_2 a6_3 (n := n + 5) (by omega) v0 v1 v2 v3 1 T rfl rfl (fun _ _ _ _ => rfl), y2,
    amt_s a0_0 a0_1 a0_2 x0 c0 k0 a1_0 a1_1 a1_2 a2 a3 a4 a5_0 a5_1 a5_2 a5_3 a6_0 a6_1 a6_2 a6_3 (n := n + 4) (by omega) v0 v1 v2 v3 2 T rfl rfl (fun _ _ _ _ => rfl), y3,
    amt_s a0_0 a0_1 a0_2 x0 c0 k0 a1_0 a1_1 a1_2 a2 a3 a4 a5_0 a5_1 a5_2 a5_3 a6_0 a6_1 a6_2 a6_3 (n := n + 3) (by omega) v0 v1 v2 v3 3 T rfl rfl (fun _ _ _ _ => rfl), y4,
    L4s_0_succ, cF (ltF (by omega : (4 : Int) ≤ 4)),
    ink_s a0_0 a0_1 a0_2 x0 c0 k0 a1_0 a1_1 a1_2 a2 a3 a4 a5_0 a5_1 a5_2 a5_3 a6_0 a6_1 a6_2 a6_3 (n := n + 1) (by omega) v0 v1 v2 v3 0 T rfl rfl (fun _ _ _ _ _ _ _ _ => rfl), y1,
    ink_s a0_0 a0_1 a0_2 x0 c0 k0 a1_0 a1_1 a1_2 a2 a3 a4 a5_0 a5_1 a5_2 a5_3 a6_0 a6_1 a6_2 a6_3 (n := n) (by omega) v0 v1 v2 v3 1 T rfl rfl (fun _ _ _ _ _ _ _ _ => rfl), y2]

theorem law_ok_s (a0_0 a0_1 a0_2 : Int) (x0 : List AV) (c0 k0 : Nat) (a1_0 a1_1 : Int) (a1_2 : List Nat) (a2 a3 a4 a5_0 a5_1 a5_2 a5_3 a6_0 a6_1 a6_2 a6_3 : Int) (wa0_0 : (Lit.int .u8 a0_0).wf = true) (wa0_1 : (Lit.int .u8 a0_1).wf = true) (wa0_2 : (Lit.int .u8 a0_2).wf = true) (wx : 0 < c0 ∧ c0 ≤ k0 ∧ k0 ≤ maxLen ∧ KOk (kRep c0 [.int .u8]) x0) (wa1_0 : (Lit.int .i64 a1_0).wf = true) (wa1_1 : (Lit.int .i64 a1_1).wf = true) (wa1_2 : IsBytes a1_2) (wa2 : (Lit.int .i64 a2).wf = true) (wa3 : (Lit.int .i64 a3).wf = true) (wa4 : (Lit.int .i64 a4).wf = true) (wa5_0 : (Lit.int .i64 a5_0).wf = true) (wa5_1 : (Lit.int .i64 a5_1).wf = true) (wa5_2 : (Lit.int .i64 a5_2).wf = true) (wa5_3 : (Lit.int .i64 a5_3).wf = true) (wa6_0 : (Lit.int .u8 a6_0).wf = true) (wa6_1 : (Lit.int .u8 a6_1).wf = true) (wa6_2 : (Lit.int .u8 a6_2).wf = true) (wa6_3 : (Lit.int .u8 a6_3).wf = true) : ∃ n : Nat, F4s n a0_0 a0_1 a0_2 x0 c0 k0 a1_0 a1_1 a1_2 a2 a3 a4 a5_0 a5_1 a5_2 a5_3 a6_0 a6_1 a6_2 a6_3 = some true := by
  obtain ⟨w, h, t, e6, g⟩ := tile_s x0 c0 k0 wx.1 wx.2.2.2 (wf_u8 wa0_0) (wf_u8 wa0_1) (wf_u8 wa0_2)
  have p0 : F6s_0 100000 a0_0 a0_1 a0_2 x0 c0 k0 = w := by unfold F6s_0; rw [e6]; rfl
  have p1 : F6s_1 100000 a0_0 a0_1 a0_2 x0 c0 k0 = h := by unfold F6s_1; rw [e6]; rfl
  have p2 : F6s_2 100000 a0_0 a0_1 a0_2 x0 c0 k0 = t := by unfold F6s_2; rw [e6]; rfl
  obtain ⟨u, e10, U⟩ := f10 (w := a1_0) (h := a1_1) wa1_2
  have q0 : F10_0 a1_0 a1_1 a1_2 = a1_0 := by unfold F10_0; rw [e10]; rfl
  have q1 : F10_1 a1_0 a1_1 a1_2 = a1_1 := by unfold F10_1; rw [e10]; rfl
  have q2 : F10_2 a1_0 a1_1 a1_2 = u := by unfold F10_2; rw [e10]; rfl
  refine ⟨100000, ?_⟩
  unfold F4s
  rw [cT wx.2.2.2.pure, e6, p0, p1, p2, e10]
  obtain ⟨N, hN, h9⟩ : ∃ N, 100000 = N + 1 + 7 + 1 + 7 ∧ 400 ≤ N := ⟨99984, rfl, by omega⟩
  have y1 : wrapA .i64 (Int.add 0 1) = 1 := rfl
  have y2 : wrapA .i64 (Int.add 1 1) = 2 := rfl
  have t0 : t4s_78 a1_0 a1_1 a1_2 w h t 0 = F10_0 a1_0 a1_1 a1_2 := rfl
  have t1 : t4s_79 a1_0 a1_1 a1_2 w h t 0 = F10_1 a1_0 a1_1 a1_2 := rfl
  have t2 : u4s_80 a1_0 a1_1 a1_2 w h t 0 = F10_2 a1_0 a1_1 a1_2 := rfl
  have k : ∀ (a b : Int) (c : List Nat), cellsB [AV.int .i64 w, AV.int .i64 h, AV.str t, AV.int .i64 a, AV.int .i64 b, AV.str c] (Int.toNat 1 * 3) ([] ++ [CK.int .i64] ++ [CK.int .i64] ++ [CK.str]) = true := fun _ _ _ => rfl
  rw [cT (show (some (w, h, t)).isSome = true from rfl), cT (show (some (a1_0, a1_1, u)).isSome = true from rfl), hN,
    tile1_s a0_0 a0_1 a0_2 x0 c0 k0 a1_0 a1_1 a1_2 a2 a3 a4 a5_0 a5_1 a5_2 a5_3 a6_0 a6_1 a6_2 a6_3 (n := N + 1 + 7 + 1) (by omega) w h t 0 g.bt, L4s_1_succ, cF (ltF (by omega : (2 : Int) ≤ 2)), y1, cT (ltT (by omega : (1 : Int) < 2)), cT (show inB 1 2 = true from rfl), cT (k _ _ _), t0, t1, t2, q0, q1, q2,
    tile1_s a0_0 a0_1 a0_2 x0 c0 k0 a1_0 a1_1 a1_2 a2 a3 a4 a5_0 a5_1 a5_2 a5_3 a6_0 a6_1 a6_2 a6_3 (n := N + 1) (by omega) w h t 1 U, L4s_1_succ, cF (ltF (by omega : (2 : Int) ≤ 2)), y2, cF (ltF (by omega : (2 : Int) ≤ 2))]

theorem amt_e (a0_0 a0_1 a0_2 : Int) (a1_0 a1_1 : Int) (a1_2 : List Nat) (a2 a3 a4 a5_0 a5_1 a5_2 a5_3 a6_0 a6_1 a6_2 a6_3 : Int) {n : Nat} (hn : 400 ≤ n) (v0 v1 : Int) (v2 : List Nat) (v3 v4 : Int) {w h : Int} {t : List Nat} (T : BT t) (k1 : ltI v4 4 = true) (k2 : inB v4 4 = true) (k3 : ∀ a b c d : Int, cellB [AV.int .i64 a, AV.int .i64 b, AV.int .i64 c, AV.int .i64 d] (Int.toNat v4 * 1) (CK.int .i64) = true) :
    L4e_0 a0_0 a0_1 a0_2 a1_0 a1_1 a1_2 a2 a3 a4 a5_0 a5_1 a5_2 a5_3 a6_0 a6_1 a6_2 a6_3 (n + 1) v0 v1 v2 v3 v4 w h t = L4e_0 a0_0 a0_1 a0_2 a1_0 a1_1 a1_2 a2 a3 a4 a5_0 a5_1 a5_2 a5_3 a6_0 a6_1 a6_2 a6_3 n v0 v1 v2 v3 (wrapA .i64 (Int.add v4 1)) w h t := by
  obtain ⟨e1, e2⟩ := bit_eq (w := w) (h := h) T hn (t4e_63 a2 a6_0 v4) a3 a4
  obtain ⟨e3, e4⟩ := count_eq (w := w) (h := h) T hn (t4e_63 a2 a6_0 v4)
  have c1 : c4e_64 n a2 a3 a4 a6_0 v4 w h t = false := by unfold c4e_64 F11_0 F12_0; rw [e1]; exact nbeq _
  have c2 : c4e_65 n a2 a3 a4 a6_0 v4 w h t = false := by unfold c4e_65 F11_1 F12_1; rw [e1, eqI_same]; rfl
  have c3 : c4e_66 n a2 a6_0 v4 w h t = false := by unfold c4e_66 F13_0 F14_0; rw [e3, eqI_same]; rfl
  have c4 : c4e_67 n a2 a6_0 v4 w h t = false := by unfold c4e_67 F13_1 F14_1; rw [e3, eqI_same]; rfl
  rw [L4e_0_succ, cT k1, cT k2, cT (k3 _ _ _ _), e1, cT e2, cT e2, e3, cT e4, cT e4, cF c1, cF c2, cF c3, cF c4]
theorem ink_e (a0_0 a0_1 a0_2 : Int) (a1_0 a1_1 : Int) (a1_2 : List Nat) (a2 a3 a4 a5_0 a5_1 a5_2 a5_3 a6_0 a6_1 a6_2 a6_3 : Int) {n : Nat} (hn : 400 ≤ n) (v0 v1 : Int) (v2 : List Nat) (v3 v4 : Int) {w h : Int} {t : List Nat} (T : BT t) (k1 : ltI v4 2 = true) (k2 : inB v4 2 = true) (k3 : ∀ a b c d e f g h : Int, cellsB [AV.int .i64 a, AV.int .i64 b, AV.int .i64 c, AV.int .i64 d, AV.int .i64 e, AV.int .i64 f, AV.int .i64 g, AV.int .i64 h] (Int.toNat v4 * 4) (ckRep 4 [CK.int .i64]) = true) :
    L4e_1 a0_0 a0_1 a0_2 a1_0 a1_1 a1_2 a2 a3 a4 a5_0 a5_1 a5_2 a5_3 a6_0 a6_1 a6_2 a6_3 (n + 1) v0 v1 v2 v3 v4 w h t = L4e_1 a0_0 a0_1 a0_2 a1_0 a1_1 a1_2 a2 a3 a4 a5_0 a5_1 a5_2 a5_3 a6_0 a6_1 a6_2 a6_3 n v0 v1 v2 v3 (wrapA .i64 (Int.add v4 1)) w h t := by
  obtain ⟨e1, e2⟩ := bits_eq (w := w) (h := h) T hn (t4e_68 a5_0 a5_1 a5_2 a5_3 a6_0 a6_1 a6_2 a6_3 v4) (t4e_69 a5_0 a5_1 a5_2 a5_3 a6_0 a6_1 a6_2 a6_3 v4) (t4e_70 a5_0 a5_1 a5_2 a5_3 a6_0 a6_1 a6_2 a6_3 v4) (t4e_71 a5_0 a5_1 a5_2 a5_3 a6_0 a6_1 a6_2 a6_3 v4) a3 a4
  have c1 : c4e_74 n a3 a4 a5_0 a5_1 a5_2 a5_3 a6_0 a6_1 a6_2 a6_3 v4 w h t = false := by unfold c4e_74 F16_0 F17_0; rw [e1, eqI_same]; rfl
  have c2 : c4e_75 n a3 a4 a5_0 a5_1 a5_2 a5_3 a6_0 a6_1 a6_2 a6_3 v4 w h t = false := by unfold c4e_75 t4e_72 t4e_73 F16_1 F17_1; rw [e1, eqI_same]; rfl
  rw [L4e_1_succ, cT k1, cT k2, cT (k3 _ _ _ _ _ _ _ _), e1, cT e2, cT e2, cF c1, cF c2]
theorem tile1_e (a0_0 a0_1 a0_2 : Int) (a1_0 a1_1 : Int) (a1_2 : List Nat) (a2 a3 a4 a5_0 a5_1 a5_2 a5_3 a6_0 a6_1 a6_2 a6_3 : Int) {n : Nat} (hn : 400 ≤ n) (v0 v1 : Int) (v2 : List Nat) (v3 : Int) {w h : Int} {t : List Nat} (T : BT t) :
    L4e_0 a0_0 a0_1 a0_2 a1_0 a1_1 a1_2 a2 a3 a4 a5_0 a5_1 a5_2 a5_3 a6_0 a6_1 a6_2 a6_3 (n + 7) v0 v1 v2 v3 0 w h t = L4e_1 a0_0 a0_1 a0_2 a1_0 a1_1 a1_2 a2 a3 a4 a5_0 a5_1 a5_2 a5_3 a6_0 a6_1 a6_2 a6_3 n v0 v1 v2 v3 2 w h t := by
  have y1 : wrapA .i64 (Int.add 0 1) = 1 := rfl
  have y2 : wrapA .i64 (Int.add 1 1) = 2 := rfl
  have y3 : wrapA .i64 (Int.add 2 1) = 3 := rfl
  have y4 : wrapA .i64 (Int.add 3 1) = 4 := rfl
  rw [amt_e a0_0 a0_1 a0_2 a1_0 a1_1 a1_2 a2 a3 a4 a5_0 a5_1 a5_2 a5_3 a6_0 a6_1 a6_2 a6_3 (n := n + 6) (by omega) v0 v1 v2 v3 0 T rfl rfl (fun _ _ _ _ => rfl), y1,
    amt_e a0_0 a0_1 a0_2 a1_0 a1_1 a1_2 a2 a3 a4 a5_0 a5_1 a5_2 a5_3 a6_0 a6_1 a6_2 a6_3 (n := n + 5) (by omega) v0 v1 v2 v3 1 T rfl rfl (fun _ _ _ _ => rfl), y2,
    amt_e a0_0 a0_1 a0_2 a1_0 a1_1 a1_2 a2 a3 a4 a5_0 a5_1 a5_2 a5_3 a6_0 a6_1 a6_2 a6_3 (n := n + 4) (by omega) v0 v1 v2 v3 2 T rfl rfl (fun _ _ _ _ => rfl), y3,
    amt_e a0_0 a0_1 a0_2 a1_0 a1_1 a1_2 a2 a3 a4 a5_0 a5_1 a5_2 a5_3 a6_0 a6_1 a6_2 a6_3 (n := n + 3) (by omega) v0 v1 v2 v3 3 T rfl rfl (fun _ _ _ _ => rfl), y4,
    L4e_0_succ, cF (ltF (by omega : (4 : Int) ≤ 4)),
    ink_e a0_0 a0_1 a0_2 a1_0 a1_1 a1_2 a2 a3 a4 a5_0 a5_1 a5_2 a5_3 a6_0 a6_1 a6_2 a6_3 (n := n + 1) (by omega) v0 v1 v2 v3 0 T rfl rfl (fun _ _ _ _ _ _ _ _ => rfl), y1,
    ink_e a0_0 a0_1 a0_2 a1_0 a1_1 a1_2 a2 a3 a4 a5_0 a5_1 a5_2 a5_3 a6_0 a6_1 a6_2 a6_3 (n := n) (by omega) v0 v1 v2 v3 1 T rfl rfl (fun _ _ _ _ _ _ _ _ => rfl), y2]

theorem law_ok_e (a0_0 a0_1 a0_2 : Int) (a1_0 a1_1 : Int) (a1_2 : List Nat) (a2 a3 a4 a5_0 a5_1 a5_2 a5_3 a6_0 a6_1 a6_2 a6_3 : Int) (wa0_0 : (Lit.int .u8 a0_0).wf = true) (wa0_1 : (Lit.int .u8 a0_1).wf = true) (wa0_2 : (Lit.int .u8 a0_2).wf = true) (wa1_0 : (Lit.int .i64 a1_0).wf = true) (wa1_1 : (Lit.int .i64 a1_1).wf = true) (wa1_2 : IsBytes a1_2) (wa2 : (Lit.int .i64 a2).wf = true) (wa3 : (Lit.int .i64 a3).wf = true) (wa4 : (Lit.int .i64 a4).wf = true) (wa5_0 : (Lit.int .i64 a5_0).wf = true) (wa5_1 : (Lit.int .i64 a5_1).wf = true) (wa5_2 : (Lit.int .i64 a5_2).wf = true) (wa5_3 : (Lit.int .i64 a5_3).wf = true) (wa6_0 : (Lit.int .u8 a6_0).wf = true) (wa6_1 : (Lit.int .u8 a6_1).wf = true) (wa6_2 : (Lit.int .u8 a6_2).wf = true) (wa6_3 : (Lit.int .u8 a6_3).wf = true) : ∃ n : Nat, F4e n a0_0 a0_1 a0_2 a1_0 a1_1 a1_2 a2 a3 a4 a5_0 a5_1 a5_2 a5_3 a6_0 a6_1 a6_2 a6_3 = some true := by
  obtain ⟨w, h, t, e6, g⟩ := tile_e (wf_u8 wa0_0) (wf_u8 wa0_1) (wf_u8 wa0_2)
  have p0 : F6e_0 100000 a0_0 a0_1 a0_2 = w := by unfold F6e_0; rw [e6]; rfl
  have p1 : F6e_1 100000 a0_0 a0_1 a0_2 = h := by unfold F6e_1; rw [e6]; rfl
  have p2 : F6e_2 100000 a0_0 a0_1 a0_2 = t := by unfold F6e_2; rw [e6]; rfl
  obtain ⟨u, e10, U⟩ := f10 (w := a1_0) (h := a1_1) wa1_2
  have q0 : F10_0 a1_0 a1_1 a1_2 = a1_0 := by unfold F10_0; rw [e10]; rfl
  have q1 : F10_1 a1_0 a1_1 a1_2 = a1_1 := by unfold F10_1; rw [e10]; rfl
  have q2 : F10_2 a1_0 a1_1 a1_2 = u := by unfold F10_2; rw [e10]; rfl
  refine ⟨100000, ?_⟩
  unfold F4e
  rw [e6, p0, p1, p2, e10]
  obtain ⟨N, hN, h9⟩ : ∃ N, 100000 = N + 1 + 7 + 1 + 7 ∧ 400 ≤ N := ⟨99984, rfl, by omega⟩
  have y1 : wrapA .i64 (Int.add 0 1) = 1 := rfl
  have y2 : wrapA .i64 (Int.add 1 1) = 2 := rfl
  have t0 : t4e_76 a1_0 a1_1 a1_2 w h t 0 = F10_0 a1_0 a1_1 a1_2 := rfl
  have t1 : t4e_77 a1_0 a1_1 a1_2 w h t 0 = F10_1 a1_0 a1_1 a1_2 := rfl
  have t2 : u4e_78 a1_0 a1_1 a1_2 w h t 0 = F10_2 a1_0 a1_1 a1_2 := rfl
  have k : ∀ (a b : Int) (c : List Nat), cellsB [AV.int .i64 w, AV.int .i64 h, AV.str t, AV.int .i64 a, AV.int .i64 b, AV.str c] (Int.toNat 1 * 3) ([] ++ [CK.int .i64] ++ [CK.int .i64] ++ [CK.str]) = true := fun _ _ _ => rfl
  rw [cT (show (some (w, h, t)).isSome = true from rfl), cT (show (some (a1_0, a1_1, u)).isSome = true from rfl), hN,
    tile1_e a0_0 a0_1 a0_2 a1_0 a1_1 a1_2 a2 a3 a4 a5_0 a5_1 a5_2 a5_3 a6_0 a6_1 a6_2 a6_3 (n := N + 1 + 7 + 1) (by omega) w h t 0 g.bt, L4e_1_succ, cF (ltF (by omega : (2 : Int) ≤ 2)), y1, cT (ltT (by omega : (1 : Int) < 2)), cT (show inB 1 2 = true from rfl), cT (k _ _ _), t0, t1, t2, q0, q1, q2,
    tile1_e a0_0 a0_1 a0_2 a1_0 a1_1 a1_2 a2 a3 a4 a5_0 a5_1 a5_2 a5_3 a6_0 a6_1 a6_2 a6_3 (n := N + 1) (by omega) w h t 1 U, L4e_1_succ, cF (ltF (by omega : (2 : Int) ≤ 2)), y2, cF (ltF (by omega : (2 : Int) ≤ 2))]

end

theorem walke {w : World} {E : Nat → Go.Sx.Ent} (hE : Go.Sx.GlobE E) (a0_0 : Int) (a0_1 : Int) (a0_2 : Int) (a1_0 : Int) (a1_1 : Int) (a1_2 : List Nat) (a2 : Int) (a3 : Int) (a4 : Int) (a5_0 : Int) (a5_1 : Int) (a5_2 : Int) (a5_3 : Int) (a6_0 : Int) (a6_1 : Int) (a6_2 : Int) (a6_3 : Int) (wa0_0 : (Lit.int .u8 a0_0).wf = true) (wa0_1 : (Lit.int .u8 a0_1).wf = true) (wa0_2 : (Lit.int .u8 a0_2).wf = true) (wa1_0 : (Lit.int .i64 a1_0).wf = true) (wa1_1 : (Lit.int .i64 a1_1).wf = true) (wa1_2 : Go.Sx.IsBytes a1_2) (wa2 : (Lit.int .i64 a2).wf = true) (wa3 : (Lit.int .i64 a3).wf = true) (wa4 : (Lit.int .i64 a4).wf = true) (wa5_0 : (Lit.int .i64 a5_0).wf = true) (wa5_1 : (Lit.int .i64 a5_1).wf = true) (wa5_2 : (Lit.int .i64 a5_2).wf = true) (wa5_3 : (Lit.int .i64 a5_3).wf = true) (wa6_0 : (Lit.int .u8 a6_0).wf = true) (wa6_1 : (Lit.int .u8 a6_1).wf = true) (wa6_2 : (Lit.int .u8 a6_2).wf = true) (wa6_3 : (Lit.int .u8 a6_3).wf = true) (hL : Go.Sx.LaidAt E w []) {ARGS : List Value} (ha : Go.Sx.RelL (Go.Sx.laidE E) [.agg [.int .u8 a0_0, .int .u8 a0_1, .int .u8 a0_2, .emp], .agg [.int .i64 a1_0, .int .i64 a1_1, .str a1_2], .int .i64 a2, .int .i64 a3, .int .i64 a4, .agg [.int .i64 a5_0, .int .i64 a5_1, .int .i64 a5_2, .int .i64 a5_3], .agg [.int .u8 a6_0, .int .u8 a6_1, .int .u8 a6_2, .int .u8 a6_3]] ARGS) :
    Calls Try.prog 4 ARGS.toArray w fun e w' => e = .returned (.bool true) ∧ Below w.heap.size w w' := by
  obtain ⟨n, hn⟩ := law_ok_e a0_0 a0_1 a0_2 a1_0 a1_1 a1_2 a2 a3 a4 a5_0 a5_1 a5_2 a5_3 a6_0 a6_1 a6_2 a6_3 wa0_0 wa0_1 wa0_2 wa1_0 wa1_1 wa1_2 wa2 wa3 wa4 wa5_0 wa5_1 wa5_2 wa5_3 wa6_0 wa6_1 wa6_2 wa6_3
  exact Go.Sx.call_args_at okayed hE ha Try.func4 body4e_eq (run4e n a0_0 a0_1 a0_2 a1_0 a1_1 a1_2 a2 a3 a4 a5_0 a5_1 a5_2 a5_3 a6_0 a6_1 a6_2 a6_3  true hn) hL

theorem walks {w : World} {E : Nat → Go.Sx.Ent} (hE : Go.Sx.GlobE E) (a0_0 : Int) (a0_1 : Int) (a0_2 : Int) (x0 : List Go.Sx.AV) (c0 : Nat) (k0 : Nat) (a1_0 : Int) (a1_1 : Int) (a1_2 : List Nat) (a2 : Int) (a3 : Int) (a4 : Int) (a5_0 : Int) (a5_1 : Int) (a5_2 : Int) (a5_3 : Int) (a6_0 : Int) (a6_1 : Int) (a6_2 : Int) (a6_3 : Int) (wa0_0 : (Lit.int .u8 a0_0).wf = true) (wa0_1 : (Lit.int .u8 a0_1).wf = true) (wa0_2 : (Lit.int .u8 a0_2).wf = true) (wx0 : 0 < c0 ∧ c0 ≤ k0 ∧ k0 ≤ maxLen ∧ Go.Sx.KOk (Go.Sx.kRep c0 [.int .u8]) x0) (wa1_0 : (Lit.int .i64 a1_0).wf = true) (wa1_1 : (Lit.int .i64 a1_1).wf = true) (wa1_2 : Go.Sx.IsBytes a1_2) (wa2 : (Lit.int .i64 a2).wf = true) (wa3 : (Lit.int .i64 a3).wf = true) (wa4 : (Lit.int .i64 a4).wf = true) (wa5_0 : (Lit.int .i64 a5_0).wf = true) (wa5_1 : (Lit.int .i64 a5_1).wf = true) (wa5_2 : (Lit.int .i64 a5_2).wf = true) (wa5_3 : (Lit.int .i64 a5_3).wf = true) (wa6_0 : (Lit.int .u8 a6_0).wf = true) (wa6_1 : (Lit.int .u8 a6_1).wf = true) (wa6_2 : (Lit.int .u8 a6_2).wf = true) (wa6_3 : (Lit.int .u8 a6_3).wf = true) (hL : Go.Sx.LaidAt E w [(0, x0)]) {ARGS : List Value} (ha : Go.Sx.RelL (Go.Sx.laidE E) [.agg [.int .u8 a0_0, .int .u8 a0_1, .int .u8 a0_2, .slc 1048576 0 c0 (.exact k0)], .agg [.int .i64 a1_0, .int .i64 a1_1, .str a1_2], .int .i64 a2, .int .i64 a3, .int .i64 a4, .agg [.int .i64 a5_0, .int .i64 a5_1, .int .i64 a5_2, .int .i64 a5_3], .agg [.int .u8 a6_0, .int .u8 a6_1, .int .u8 a6_2, .int .u8 a6_3]] ARGS) :
    Calls Try.prog 4 ARGS.toArray w fun e w' => e = .returned (.bool true) ∧ Below w.heap.size w w' := by
  obtain ⟨n, hn⟩ := law_ok_s a0_0 a0_1 a0_2 x0 c0 k0 a1_0 a1_1 a1_2 a2 a3 a4 a5_0 a5_1 a5_2 a5_3 a6_0 a6_1 a6_2 a6_3 wa0_0 wa0_1 wa0_2 wx0 wa1_0 wa1_1 wa1_2 wa2 wa3 wa4 wa5_0 wa5_1 wa5_2 wa5_3 wa6_0 wa6_1 wa6_2 wa6_3
  exact Go.Sx.call_args_at okayed hE ha Try.func4 body4s_eq (run4s n a0_0 a0_1 a0_2 x0 c0 k0 a1_0 a1_1 a1_2 a2 a3 a4 a5_0 a5_1 a5_2 a5_3 a6_0 a6_1 a6_2 a6_3 (wx0.2.2.2.pure) true hn) hL

set_option maxRecDepth 100000 in
theorem lifted (os : Os) (started : os.Started) (H : Type) (enc : TypeId × Value → H) :
    ReturnsInHanded {} Try.checked os 4 .any (Rows.toneBitsSpec.pre6 enc Try.prog Try.f4 Rows.toneBitsRow.domain false) (Rows.toneBitsSpec.post enc Try.prog Try.f4 false true false false) := by
  refine returnsInHanded_of_change (C := Try.checked) own started (by kernel_rfl) Try.func4
    (ChangeSpec.witness6 (enc := enc) (C := Try.checked) false ⟨#[], #[.agg #[.int .u8 0, .int .u8 0, .int .u8 0, .slice none 0 0], .agg #[.int .i64 0, .int .i64 0, .string ⟨#[]⟩], .int .i64 0, .int .i64 0, .int .i64 0, .agg #[.int .i64 0, .int .i64 0, .int .i64 0, .int .i64 0], .agg #[.int .u8 0, .int .u8 0, .int .u8 0, .int .u8 0]], []⟩ 8 (by kernel_rfl) (by kernel_rfl) (by kernel_rfl) (by kernel_rfl)) ?_
  intro W base args ds gs before hval0 hW hcnd _
  have hval : ∀ (j : Nat) t v, Try.f4.params[j]? = some t → args[j]? = some v → Value.okWide Try.prog W .any base t v := hval0
  have hW' := hW
  obtain ⟨p, q, hA0, hV, rfl, hfz, hnd⟩ := hW
  have hA : DataW.TrodAll enc Try.prog W 0 (fun _ => true) true Try.f4.params.toList args.toList ds p := hA0
  rw [Try.params4] at hA hval
  obtain ⟨v0, vs0, d0, ds0, p0, q0, hargs, rfl, rfl, h0, r0⟩ := trodAll_cons hA
  obtain ⟨v1, vs1, d1, ds1, p1, q1, rfl, rfl, rfl, h1, r1⟩ := trodAll_cons r0
  obtain ⟨v2, vs2, d2, ds2, p2, q2, rfl, rfl, rfl, h2, r2⟩ := trodAll_cons r1
  obtain ⟨v3, vs3, d3, ds3, p3, q3, rfl, rfl, rfl, h3, r3⟩ := trodAll_cons r2
  obtain ⟨v4, vs4, d4, ds4, p4, q4, rfl, rfl, rfl, h4, r4⟩ := trodAll_cons r3
  obtain ⟨v5, vs5, d5, ds5, p5, q5, rfl, rfl, rfl, h5, r5⟩ := trodAll_cons r4
  obtain ⟨v6, vs6, d6, ds6, p6, q6, rfl, rfl, rfl, h6, r6⟩ := trodAll_cons r5
  obtain ⟨rfl, rfl, rfl⟩ := trodAll_nil r6
  obtain rfl : args = #[v0, v1, v2, v3, v4, v5, v6] := by cases args; simp_all
  obtain ⟨rfl, rfl⟩ := trodVars_none hV
  obtain ⟨cs0, k0⟩ := Go.Sx.open_cs (ks := [.int .u8, .int .u8, .int .u8, .sl [.int .u8]]) (by kernel_rfl) h0
  have g0 := k0
  obtain ⟨cs1, k1⟩ := Go.Sx.open_cs (ks := [.int .i64, .int .i64, .str]) (by kernel_rfl) h1
  have g1 := k1
  obtain ⟨cs2, k2⟩ := Go.Sx.open_cs (ks := [.int .i64]) (by kernel_rfl) h2
  have g2 := k2
  obtain ⟨cs3, k3⟩ := Go.Sx.open_cs (ks := [.int .i64]) (by kernel_rfl) h3
  have g3 := k3
  obtain ⟨cs4, k4⟩ := Go.Sx.open_cs (ks := [.int .i64]) (by kernel_rfl) h4
  have g4 := k4
  obtain ⟨cs5, k5⟩ := Go.Sx.open_cs (ks := [.int .i64, .int .i64, .int .i64, .int .i64]) (by kernel_rfl) h5
  have g5 := k5
  obtain ⟨cs6, k6⟩ := Go.Sx.open_cs (ks := [.int .u8, .int .u8, .int .u8, .int .u8]) (by kernel_rfl) h6
  have g6 := k6
  clear hA0
  have done : Calls Try.prog 4 #[v0, v1, v2, v3, v4, v5, v6] W (fun e w' => e = .returned (.bool true) ∧ Below W.heap.size W w') := by
    obtain ⟨_, _, _, _, rfl, _, ⟨a0_0, rfl, wa0_0, rfl⟩, k0⟩ := k0
    obtain ⟨_, _, _, _, rfl, _, ⟨a0_1, rfl, wa0_1, rfl⟩, k0⟩ := k0
    obtain ⟨_, _, _, _, rfl, _, ⟨a0_2, rfl, wa0_2, rfl⟩, k0⟩ := k0
    obtain ⟨_, _, _, _, rfl, _, hS0, k0⟩ := k0
    obtain ⟨rfl, _⟩ := k0
    obtain ⟨_, _, _, _, rfl, _, ⟨a1_0, rfl, wa1_0, rfl⟩, k1⟩ := k1
    obtain ⟨_, _, _, _, rfl, _, ⟨a1_1, rfl, wa1_1, rfl⟩, k1⟩ := k1
    obtain ⟨_, _, _, _, rfl, _, ⟨a1_2, rfl, wa1_2, rfl⟩, k1⟩ := k1
    obtain ⟨rfl, _⟩ := k1
    obtain ⟨_, _, _, _, rfl, _, ⟨a2, rfl, wa2, rfl⟩, k2⟩ := k2
    obtain ⟨rfl, _⟩ := k2
    obtain ⟨_, _, _, _, rfl, _, ⟨a3, rfl, wa3, rfl⟩, k3⟩ := k3
    obtain ⟨rfl, _⟩ := k3
    obtain ⟨_, _, _, _, rfl, _, ⟨a4, rfl, wa4, rfl⟩, k4⟩ := k4
    obtain ⟨rfl, _⟩ := k4
    obtain ⟨_, _, _, _, rfl, _, ⟨a5_0, rfl, wa5_0, rfl⟩, k5⟩ := k5
    obtain ⟨_, _, _, _, rfl, _, ⟨a5_1, rfl, wa5_1, rfl⟩, k5⟩ := k5
    obtain ⟨_, _, _, _, rfl, _, ⟨a5_2, rfl, wa5_2, rfl⟩, k5⟩ := k5
    obtain ⟨_, _, _, _, rfl, _, ⟨a5_3, rfl, wa5_3, rfl⟩, k5⟩ := k5
    obtain ⟨rfl, _⟩ := k5
    obtain ⟨_, _, _, _, rfl, _, ⟨a6_0, rfl, wa6_0, rfl⟩, k6⟩ := k6
    obtain ⟨_, _, _, _, rfl, _, ⟨a6_1, rfl, wa6_1, rfl⟩, k6⟩ := k6
    obtain ⟨_, _, _, _, rfl, _, ⟨a6_2, rfl, wa6_2, rfl⟩, k6⟩ := k6
    obtain ⟨_, _, _, _, rfl, _, ⟨a6_3, rfl, wa6_3, rfl⟩, k6⟩ := k6
    obtain ⟨rfl, _⟩ := k6
    rcases hS0 with ⟨rfl, _⟩ | ⟨b0, s0, c0, k0', x0, rfl, p0, q0', m0, z0, u0, _⟩
    · skip
      exact walke (Go.Sx.argE_glob _) a0_0 a0_1 a0_2 a1_0 a1_1 (Go.Sx.bytesOf a1_2) a2 a3 a4 a5_0 a5_1 a5_2 a5_3 a6_0 a6_1 a6_2 a6_3 wa0_0 wa0_1 wa0_2 wa1_0 wa1_1 (Go.Sx.bytes_ok wa1_2) wa2 wa3 wa4 wa5_0 wa5_1 wa5_2 wa5_3 wa6_0 wa6_1 wa6_2 wa6_3 (Go.Sx.laid_nil _ _) (ARGS := [v0, v1, v2, v3, v4, v5, v6]) ⟨_, _, Go.Sx.rel_agg_cs (E := (Go.Sx.argE [])) (n := 0) (.inl ⟨_, Try.underlying24⟩) (hval 0 24 v0 rfl rfl) g0 trivial, ⟨_, _, Go.Sx.rel_agg_cs (E := (Go.Sx.argE [])) (n := 0) (.inl ⟨_, Try.underlying27⟩) (hval 1 27 v1 rfl rfl) g1 trivial, ⟨_, _, Go.Sx.rel_one_cs (E := (Go.Sx.argE [])) (n := 0) (t := 3) (Go.Sx.one_int Try.underlying3 (hval 2 3 v2 rfl rfl)) g2 trivial rfl, ⟨_, _, Go.Sx.rel_one_cs (E := (Go.Sx.argE [])) (n := 0) (t := 3) (Go.Sx.one_int Try.underlying3 (hval 3 3 v3 rfl rfl)) g3 trivial rfl, ⟨_, _, Go.Sx.rel_one_cs (E := (Go.Sx.argE [])) (n := 0) (t := 3) (Go.Sx.one_int Try.underlying3 (hval 4 3 v4 rfl rfl)) g4 trivial rfl, ⟨_, _, Go.Sx.rel_agg_cs (E := (Go.Sx.argE [])) (n := 0) (.inr ⟨_, _, Try.underlying33⟩) (hval 5 33 v5 rfl rfl) g5 trivial, ⟨_, _, Go.Sx.rel_agg_cs (E := (Go.Sx.argE [])) (n := 0) (.inr ⟨_, _, Try.underlying34⟩) (hval 6 34 v6 rfl rfl) g6 trivial, rfl, rfl⟩, rfl⟩, rfl⟩, rfl⟩, rfl⟩, rfl⟩, rfl⟩
    · skip
      exact walks (Go.Sx.argE_glob _) a0_0 a0_1 a0_2 x0 c0 k0' a1_0 a1_1 (Go.Sx.bytesOf a1_2) a2 a3 a4 a5_0 a5_1 a5_2 a5_3 a6_0 a6_1 a6_2 a6_3 wa0_0 wa0_1 wa0_2 ⟨p0, q0', m0, z0⟩ wa1_0 wa1_1 (Go.Sx.bytes_ok wa1_2) wa2 wa3 wa4 wa5_0 wa5_1 wa5_2 wa5_3 wa6_0 wa6_1 wa6_2 wa6_3 (Go.Sx.laid_more (E := (Go.Sx.argE [(b0, s0)])) (g := 0) u0 (Go.Sx.laid_nil _ _)) (ARGS := [v0, v1, v2, v3, v4, v5, v6]) ⟨_, _, Go.Sx.rel_agg_cs (E := (Go.Sx.argE [(b0, s0)])) (n := 0) (.inl ⟨_, Try.underlying24⟩) (hval 0 24 v0 rfl rfl) g0 ⟨rfl, trivial⟩, ⟨_, _, Go.Sx.rel_agg_cs (E := (Go.Sx.argE [(b0, s0)])) (n := 1) (.inl ⟨_, Try.underlying27⟩) (hval 1 27 v1 rfl rfl) g1 trivial, ⟨_, _, Go.Sx.rel_one_cs (E := (Go.Sx.argE [(b0, s0)])) (n := 1) (t := 3) (Go.Sx.one_int Try.underlying3 (hval 2 3 v2 rfl rfl)) g2 trivial rfl, ⟨_, _, Go.Sx.rel_one_cs (E := (Go.Sx.argE [(b0, s0)])) (n := 1) (t := 3) (Go.Sx.one_int Try.underlying3 (hval 3 3 v3 rfl rfl)) g3 trivial rfl, ⟨_, _, Go.Sx.rel_one_cs (E := (Go.Sx.argE [(b0, s0)])) (n := 1) (t := 3) (Go.Sx.one_int Try.underlying3 (hval 4 3 v4 rfl rfl)) g4 trivial rfl, ⟨_, _, Go.Sx.rel_agg_cs (E := (Go.Sx.argE [(b0, s0)])) (n := 1) (.inr ⟨_, _, Try.underlying33⟩) (hval 5 33 v5 rfl rfl) g5 trivial, ⟨_, _, Go.Sx.rel_agg_cs (E := (Go.Sx.argE [(b0, s0)])) (n := 1) (.inr ⟨_, _, Try.underlying34⟩) (hval 6 34 v6 rfl rfl) g6 trivial, rfl, rfl⟩, rfl⟩, rfl⟩, rfl⟩, rfl⟩, rfl⟩, rfl⟩
  refine done.mono fun e W' ⟨he, hg⟩ => ?_
  subst he
  exact ⟨_, rfl, Go.Sx.post_of_below (pv := []) hW' (fun _ _ _ => (trodAll_cons_mk (shut_bool Try.underlying4 _) trodAll_mk0)) (fun sp hsp => (trodAll_cons_mk (Go.Sx.stays_below laidOut (by kernel_rfl) (Nat.le_of_ble_eq_true (by kernel_rfl)) h0 hg (fun p hp => hsp p (by simp [hp]))) (trodAll_cons_mk (Go.Sx.stays_below laidOut (by kernel_rfl) (Nat.le_of_ble_eq_true (by kernel_rfl)) h1 hg (fun p hp => hsp p (by simp [hp]))) (trodAll_cons_mk (Go.Sx.stays_below laidOut (by kernel_rfl) (Nat.le_of_ble_eq_true (by kernel_rfl)) h2 hg (fun p hp => hsp p (by simp [hp]))) (trodAll_cons_mk (Go.Sx.stays_below laidOut (by kernel_rfl) (Nat.le_of_ble_eq_true (by kernel_rfl)) h3 hg (fun p hp => hsp p (by simp [hp]))) (trodAll_cons_mk (Go.Sx.stays_below laidOut (by kernel_rfl) (Nat.le_of_ble_eq_true (by kernel_rfl)) h4 hg (fun p hp => hsp p (by simp [hp]))) (trodAll_cons_mk (Go.Sx.stays_below laidOut (by kernel_rfl) (Nat.le_of_ble_eq_true (by kernel_rfl)) h5 hg (fun p hp => hsp p (by simp [hp]))) (trodAll_cons_mk (Go.Sx.stays_below laidOut (by kernel_rfl) (Nat.le_of_ble_eq_true (by kernel_rfl)) h6 hg (fun p hp => hsp p (by simp [hp]))) trodAll_mk0)))))))) (fun _ _ => rfl) (by simp)
    hg (ok_one (by kernel_rfl) rfl (okWide_bool_mk Try.underlying4 _))⟩

theorem over : Rows.toneBitsRow.holds Try.pinned (OpenSpec.ofChange Rows.toneBitsSpec) :=
  OpenClaim.holds_of_wide 4 Try.f4 rfl rfl rfl rfl rfl rfl rfl ⟨rfl, rfl, rfl, rfl, rfl⟩ rfl rfl rfl rfl rfl (by kernel_rfl) Try.func4 (by kernel_rfl)
    (of_decide_eq_true (by kernel_rfl)) (by unfold Func.isWrapper; first | (rw [if_pos (by decide +kernel)]; kernel_rfl) | (rw [if_neg (by decide +kernel)]; exact ⟨rfl, rfl⟩))
    (fun os started H enc _ => lifted os started H enc)

theorem proved : Rows.ToneBitsSaid := over
#print axioms proved
end Go.Proofs.Ytmmgoglgphnapaa.toneBits
