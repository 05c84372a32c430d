/- 'chase/chaselaw28.SamplePlaces' returns true for every argument, and nothing that was there is changed. The first parts are the texts before: each function of the run as a term. Here: the numbers, and the rest. -/
import Derived.Test.YtifjpmhgknlhmaaSamplePlacesB
namespace Go.Proofs.Ytifjpmhgknlhmaa.samplePlaces
open Go.ChangeShapes Go.WideShapes Go.ChangeAt Go.WideMaps Go.WideElems Go.RowKit
set_option linter.unusedVariables false
section
open Go.Sx
set_option maxRecDepth 1000000

set_option maxRecDepth 100000
theorem cS {α : Type} (b : Bool) (x y : α) : (bif b then some x else some y) = some (bif b then x else y) := by cases b <;> rfl
theorem condP (b x y : Bool) : ((bif b then x else y) = true) = ((b = true ∧ x = true) ∨ (b = false ∧ y = true)) := by cases b <;> simp
theorem condF (b x y : Bool) : ((bif b then x else y) = false) = ((b = true ∧ x = false) ∨ (b = false ∧ y = false)) := by cases b <;> simp
theorem nneg_f (b : Bool) : ((!b) = false) = (b = true) := by cases b <;> simp
theorem andB_t (a b : Bool) : (andB a b = true) = (a = true ∧ b = true) := by cases a <;> simp [andB]
theorem andB_f (a b : Bool) : (andB a b = false) = (a = false ∨ b = false) := by cases a <;> simp [andB]
theorem strNil_t (s : List Nat) : (strEq s [] = true) = (s.length = 0) := by cases s <;> simp [strEq]
theorem strNil_f (s : List Nat) : (strEq s [] = false) = (s.length ≠ 0) := by cases s <;> simp [strEq]
theorem strEq_same (s : List Nat) : strEq s s = true := by simp [strEq]
theorem eqI_same (n : Int) : eqI n n = true := by rw [eqI_t]
theorem cT {α : Type} {b : Bool} {x y : α} (h : b = true) : (bif b then x else y) = x := by rw [h]; rfl
theorem cF {α : Type} {b : Bool} {x y : α} (h : b = false) : (bif b then x else y) = y := by rw [h]; rfl
theorem ltT {x y : Int} (h : x < y) : ltI x y = true := by rw [ltI_t]; exact h
theorem ltF {x y : Int} (h : y ≤ x) : ltI x y = false := by rw [ltI_f]; exact h
theorem eqT {x y : Int} (h : x = y) : eqI x y = true := by rw [eqI_t]; exact h
theorem eqF {x y : Int} (h : x ≠ y) : eqI x y = false := by rw [eqI_f]; exact h
theorem inT {i : Int} {n : Nat} (h1 : 0 ≤ i) (h2 : i.toNat < n) : inB i n = true := by rw [inB_t]; exact ⟨h1, h2⟩
theorem at1 (i : Int) : atI 0 i 1 = i.toNat := by simp [atI]
/-- q is n / d, rounded down -/
def Fl (x y q : Int) : Prop := (0 < y → y * q ≤ x ∧ x < y * q + y) ∧ (y < 0 → x ≤ y * q ∧ y * q + y < x)
theorem f19 {x y : Int} (hx : -1152921504606846976 ≤ x ∧ x ≤ 1152921504606846976) (hy : y ≠ 0) : ∃ q, F19 x y = some q ∧ Fl x y q ∧ (F18 x y = some q) := by
  have e := Int.mul_tdiv_add_tmod x y
  have b : (Int.tdiv x y).natAbs ≤ x.natAbs := by rw [Int.natAbs_tdiv]; exact Nat.div_le_self _ _
  have w0 : wrapA .i64 (Int.tdiv x y) = Int.tdiv x y := wrap64 (by omega) (by omega)
  have w1 : wrapA .i64 (Int.sub (Int.tdiv x y) 1) = Int.tdiv x y - 1 := by rw [sub_int]; exact wrap64 (by omega) (by omega)
  have f18 : ∀ q, F19 x y = some q → F18 x y = some q := fun q h => by unfold F18 F19_0; rw [h]; rfl
  have hr : (0 ≤ x → 0 ≤ Int.tmod x y ∧ Int.tmod x y < y.natAbs) ∧ (x < 0 → Int.tmod x y ≤ 0 ∧ -(y.natAbs : Int) < Int.tmod x y) := by
    refine ⟨fun h => ?_, fun h => ?_⟩
    · rw [Int.tmod_eq_emod_of_nonneg h]
      exact ⟨Int.emod_nonneg _ hy, Int.emod_lt _ hy⟩
    · have k : Int.tmod x y = -(Int.tmod (-x) y) := by rw [Int.neg_tmod]; omega
      rw [k, Int.tmod_eq_emod_of_nonneg (by omega)]
      have h1 := Int.emod_nonneg (-x) hy
      have h2 := Int.emod_lt (-x) hy
      omega
  unfold F19 c19_0 at f18 ⊢
  rw [eqF hy] at f18 ⊢
  by_cases z : Int.tmod x y = 0
  · rw [eqT z, w0] at f18 ⊢
    refine ⟨_, rfl, ⟨fun h => ?_, fun h => ?_⟩, f18 _ rfl⟩ <;> omega
  · rw [eqF z, w0, w1] at f18 ⊢
    by_cases s : x < 0
    · rw [ltT s] at f18 ⊢
      by_cases t : y < 0
      · rw [ltT t] at f18 ⊢
        refine ⟨_, rfl, ⟨fun h => ?_, fun h => ?_⟩, f18 _ rfl⟩
        · omega
        · have := hr.2 s; omega
      · rw [ltF (by omega : (0 : Int) ≤ y)] at f18 ⊢
        have := hr.2 s
        refine ⟨_, rfl, ⟨fun h => ?_, fun h => ?_⟩, f18 _ rfl⟩ <;> (rw [Int.mul_sub]; omega)
    · rw [ltF (by omega : (0 : Int) ≤ x)] at f18 ⊢
      by_cases t : y < 0
      · rw [ltT t] at f18 ⊢
        have := hr.1 (by omega)
        refine ⟨_, rfl, ⟨fun h => ?_, fun h => ?_⟩, f18 _ rfl⟩ <;> (rw [Int.mul_sub]; omega)
      · rw [ltF (by omega : (0 : Int) ≤ y)] at f18 ⊢
        have := hr.1 (by omega)
        refine ⟨_, rfl, ⟨fun h => ?_, fun h => ?_⟩, f18 _ rfl⟩ <;> omega
theorem mul_bd {x y a b : Int} (hx : -a ≤ x ∧ x ≤ a) (hy : -b ≤ y ∧ y ≤ b) : -(a * b) ≤ x * y ∧ x * y ≤ a * b := by
  have h : (x * y).natAbs ≤ a.natAbs * b.natAbs := by rw [Int.natAbs_mul]; exact Nat.mul_le_mul (by omega) (by omega)
  have e : ((a.natAbs * b.natAbs : Nat) : Int) = a * b := by rw [Int.natCast_mul, Int.natAbs_of_nonneg (by omega), Int.natAbs_of_nonneg (by omega)]
  omega
/-- a matrix -/
structure Mx (a b c d e f : Int) : Prop where
  a1 : -16777216 ≤ a ∧ a ≤ 16777216
  b1 : -16777216 ≤ b ∧ b ≤ 16777216
  c1 : -16777216 ≤ c ∧ c ≤ 16777216
  d1 : -16777216 ≤ d ∧ d ≤ 16777216
  e1 : -536870912 ≤ e ∧ e ≤ 536870912
  f1 : -536870912 ≤ f ∧ f ≤ 536870912
structure Pic (w h n : Int) (s : List Nat) : Prop where
  w1 : 1 ≤ w ∧ w ≤ 64
  h1 : 1 ≤ h ∧ h ≤ 64
  n1 : n = 1 ∨ n = 3 ∨ n = 4
  len : (s.length : Int) = w * h * n
theorem f15 {a b c d e f : Int} (M : Mx a b c d e f) : F15_0 a b c d e f = 0 := by
  obtain ⟨⟨a1, a2⟩, ⟨b1, b2⟩, ⟨c1, c2⟩, ⟨d1, d2⟩, ⟨e1, e2⟩, ⟨f1, f2⟩⟩ := M
  unfold F15_0 F15
  rw [ltF a1, ltF a2, ltF b1, ltF b2, ltF c1, ltF c2, ltF d1, ltF d2, ltF e1, ltF e2, ltF f1, ltF f2]; rfl
theorem wh_bd {w h n : Int} (hw : 1 ≤ w ∧ w ≤ 64) (hh : 1 ≤ h ∧ h ≤ 64) (hn : n = 1 ∨ n = 3 ∨ n = 4) : 1 ≤ w * h ∧ w * h ≤ 4096 ∧ 1 ≤ w * h * n ∧ w * h * n ≤ 16384 := by
  have a : w * h ≤ 64 * 64 := Int.mul_le_mul hw.2 hh.2 (by omega) (by omega)
  have b : 1 * 1 ≤ w * h := Int.mul_le_mul hw.1 hh.1 (by omega) (by omega)
  rcases hn with rfl | rfl | rfl <;> omega
theorem f6 {w h n a b c d e f : Int} {s : List Nat} (P : Pic w h n s) (M : Mx a b c d e f) : F6_0 w h n s a b c d e f = 0 := by
  obtain ⟨⟨w1, w2⟩, ⟨h1, h2⟩, hn, hl⟩ := P
  have hb := wh_bd ⟨w1, w2⟩ ⟨h1, h2⟩ hn
  have e1 : wrapA .i64 (Int.mul w h) = w * h := by rw [mul_int]; exact wrap64 (by omega) (by omega)
  have e2 : wrapA .i64 (Int.mul (w * h) n) = w * h * n := by rw [mul_int]; exact wrap64 (by omega) (by omega)
  have k1 : c6_1 w h n s = false := by unfold c6_1; rw [e1, e2, eqT hl]; rfl
  have k0 : c6_0 w h = false := by
    unfold c6_0 F14a_0 F14a
    rw [ltF w1, ltF (by omega : w ≤ 64), ltF h1, ltF (by omega : h ≤ 64)]; rfl
  have k2 : n = 4 → c6_2 w h n = false := fun q => by
    unfold c6_2 F14a_0 F14a
    rw [ltF w1, ltF (by omega : w ≤ 64), ltF h1, ltF (by omega : h ≤ 64), eqT q]; rfl
  unfold F6_0 F6
  rw [k0, k1, f15 M]
  rcases hn with rfl | rfl | rfl
  · rfl
  · rfl
  · rw [k2 rfl]; rfl
/-- the sample under a pixel -/
structure At (w h a b c d e f x y : Int) (i j : Int) (z : Bool) : Prop where
  none : z = false → i = 0 ∧ j = 0
  flat : a * d - b * c = 0 → z = false
  some : a * d - b * c ≠ 0 → ∃ p q, Fl (d * (65536 * x + 32768 - e) - c * (65536 * y + 32768 - f)) (a * d - b * c) p ∧ Fl (a * (65536 * y + 32768 - f) - b * (65536 * x + 32768 - e)) (a * d - b * c) q ∧
    (z = true ↔ 0 ≤ p ∧ p < w ∧ 0 ≤ q ∧ q < h) ∧ (z = true → i = p ∧ j = q)
/-- the numbers of a sample -/
theorem nums {a b c d e f x y : Int} (M : Mx a b c d e f) (x1 : -1024 ≤ x) (x2 : x < 1024) (y1 : -1024 ≤ y) (y2 : y < 1024) :
    t8_5 c d e f x y = d * (65536 * x + 32768 - e) - c * (65536 * y + 32768 - f) ∧ t8_6 a b e f x y = a * (65536 * y + 32768 - f) - b * (65536 * x + 32768 - e) ∧
    wrapA .i64 (Int.sub (wrapA .i64 (Int.mul a d)) (wrapA .i64 (Int.mul b c))) = a * d - b * c ∧
    (-36028797018963968 ≤ d * (65536 * x + 32768 - e) - c * (65536 * y + 32768 - f) ∧ d * (65536 * x + 32768 - e) - c * (65536 * y + 32768 - f) ≤ 36028797018963968) ∧
    (-36028797018963968 ≤ a * (65536 * y + 32768 - f) - b * (65536 * x + 32768 - e) ∧ a * (65536 * y + 32768 - f) - b * (65536 * x + 32768 - e) ≤ 36028797018963968) ∧
    (-562949953421312 ≤ a * d - b * c ∧ a * d - b * c ≤ 562949953421312) := by
  have m1 := mul_bd M.a1 M.d1
  have m2 := mul_bd M.b1 M.c1
  obtain ⟨e1, e2⟩ := M.e1
  obtain ⟨f1, f2⟩ := M.f1
  have tx : t8_3 e x = 65536 * x + 32768 - e := by
    unfold t8_3
    rw [mul_int, wrap64 (n := 65536 * x) (by omega) (by omega), add_int, wrap64 (n := 65536 * x + 32768) (by omega) (by omega), sub_int]; exact wrap64 (by omega) (by omega)
  have ty : t8_4 f y = 65536 * y + 32768 - f := by
    unfold t8_4
    rw [mul_int, wrap64 (n := 65536 * y) (by omega) (by omega), add_int, wrap64 (n := 65536 * y + 32768) (by omega) (by omega), sub_int]; exact wrap64 (by omega) (by omega)
  have ux : -1073741824 ≤ 65536 * x + 32768 - e ∧ 65536 * x + 32768 - e ≤ 1073741824 := by omega
  have uy : -1073741824 ≤ 65536 * y + 32768 - f ∧ 65536 * y + 32768 - f ≤ 1073741824 := by omega
  have n1 := mul_bd M.d1 ux
  have n2 := mul_bd M.c1 uy
  have n3 := mul_bd M.a1 uy
  have n4 := mul_bd M.b1 ux
  refine ⟨?_, ?_, ?_, by omega, by omega, by omega⟩
  · unfold t8_5
    rw [tx, ty, mul_int, mul_int, wrap64 (n := d * (65536 * x + 32768 - e)) (by omega) (by omega), wrap64 (n := c * (65536 * y + 32768 - f)) (by omega) (by omega), sub_int]; exact wrap64 (by omega) (by omega)
  · unfold t8_6
    rw [tx, ty, mul_int, mul_int, wrap64 (n := a * (65536 * y + 32768 - f)) (by omega) (by omega), wrap64 (n := b * (65536 * x + 32768 - e)) (by omega) (by omega), sub_int]; exact wrap64 (by omega) (by omega)
  · rw [mul_int, mul_int, wrap64 (n := a * d) (by omega) (by omega), wrap64 (n := b * c) (by omega) (by omega), sub_int]; exact wrap64 (by omega) (by omega)
/-- rounded down, and where it lies -/
theorem fl_in {X D p w : Int} (hD : 0 < D) (h1 : D * p ≤ X) (h2 : X < D * p + D) : (0 ≤ p ↔ 0 ≤ X) ∧ (p < w ↔ X < w * D) := by
  refine ⟨⟨fun h => ?_, fun h => ?_⟩, ⟨fun h => ?_, fun h => ?_⟩⟩
  · have := Int.mul_nonneg (by omega : 0 ≤ D) h; omega
  · by_cases q : 0 ≤ p
    · exact q
    · have k : D * (p + 1) ≤ D * 0 := Int.mul_le_mul_of_nonneg_left (by omega) (by omega)
      rw [Int.mul_add] at k; omega
  · have k : D * (p + 1) ≤ D * w := Int.mul_le_mul_of_nonneg_left (by omega) (by omega)
    rw [Int.mul_add] at k; rw [Int.mul_comm w D]; omega
  · by_cases q : p < w
    · exact q
    · have k : D * w ≤ D * p := Int.mul_le_mul_of_nonneg_left (by omega) (by omega)
      rw [Int.mul_comm w D] at h; omega
theorem f8 {w h n a b c d e f x y : Int} {s : List Nat} (P : Pic w h n s) (M : Mx a b c d e f) (x1 : -1024 ≤ x) (x2 : x < 1024) (y1 : -1024 ≤ y) (y2 : y < 1024) :
    ∃ i j z, F8 w h n s a b c d e f x y = some (i, j, z, 0) ∧ At w h a b c d e f x y i j z := by
  have m1 := mul_bd M.a1 M.d1
  have m2 := mul_bd M.b1 M.c1
  obtain ⟨e1, e2⟩ := M.e1
  obtain ⟨f1, f2⟩ := M.f1
  have tx : t8_3 e x = 65536 * x + 32768 - e := by
    unfold t8_3
    rw [mul_int, wrap64 (n := 65536 * x) (by omega) (by omega), add_int, wrap64 (n := 65536 * x + 32768) (by omega) (by omega), sub_int]; exact wrap64 (by omega) (by omega)
  have ty : t8_4 f y = 65536 * y + 32768 - f := by
    unfold t8_4
    rw [mul_int, wrap64 (n := 65536 * y) (by omega) (by omega), add_int, wrap64 (n := 65536 * y + 32768) (by omega) (by omega), sub_int]; exact wrap64 (by omega) (by omega)
  have ux : -1073741824 ≤ 65536 * x + 32768 - e ∧ 65536 * x + 32768 - e ≤ 1073741824 := by omega
  have uy : -1073741824 ≤ 65536 * y + 32768 - f ∧ 65536 * y + 32768 - f ≤ 1073741824 := by omega
  have ed : wrapA .i64 (Int.sub (wrapA .i64 (Int.mul a d)) (wrapA .i64 (Int.mul b c))) = a * d - b * c := by
    rw [mul_int, mul_int, wrap64 (n := a * d) (by omega) (by omega), wrap64 (n := b * c) (by omega) (by omega), sub_int]; exact wrap64 (by omega) (by omega)
  have n1 := mul_bd M.d1 ux
  have n2 := mul_bd M.c1 uy
  have n3 := mul_bd M.a1 uy
  have n4 := mul_bd M.b1 ux
  have e5 : t8_5 c d e f x y = d * (65536 * x + 32768 - e) - c * (65536 * y + 32768 - f) := by
    unfold t8_5
    rw [tx, ty, mul_int, mul_int, wrap64 (n := d * (65536 * x + 32768 - e)) (by omega) (by omega), wrap64 (n := c * (65536 * y + 32768 - f)) (by omega) (by omega), sub_int]; exact wrap64 (by omega) (by omega)
  have e6 : t8_6 a b e f x y = a * (65536 * y + 32768 - f) - b * (65536 * x + 32768 - e) := by
    unfold t8_6
    rw [tx, ty, mul_int, mul_int, wrap64 (n := a * (65536 * y + 32768 - f)) (by omega) (by omega), wrap64 (n := b * (65536 * x + 32768 - e)) (by omega) (by omega), sub_int]; exact wrap64 (by omega) (by omega)
  have k0 : c8_0 w h n s a b c d e f = false := by unfold c8_0; rw [f6 P M]; rfl
  have k1 : c8_1 x y = false := by
    unfold c8_1 F14b_0 F14b
    rw [ltF x1, ltT x2, ltF y1, ltT y2]; rfl
  unfold F8
  rw [k0, k1, ed, e5, e6]
  generalize hX : d * (65536 * x + 32768 - e) - c * (65536 * y + 32768 - f) = X at *
  generalize hY : a * (65536 * y + 32768 - f) - b * (65536 * x + 32768 - e) = Y at *
  by_cases z : a * d - b * c = 0
  · have k2 : c8_2 a b c d = true := by unfold c8_2; rw [ed]; exact eqT z
    rw [k2]
    exact ⟨0, 0, false, rfl, fun _ => ⟨rfl, rfl⟩, fun _ => rfl, fun q => absurd z q⟩
  · have k2 : c8_2 a b c d = false := by unfold c8_2; rw [ed]; exact eqF z
    obtain ⟨p, p1, p2, p3⟩ := f19 (x := X) (by omega) z
    obtain ⟨q, q1, q2, q3⟩ := f19 (x := Y) (by omega) z
    have p4 : F18_0 X (a * d - b * c) = p := by unfold F18_0; rw [p3]; rfl
    have q4 : F18_0 Y (a * d - b * c) = q := by unfold F18_0; rw [q3]; rfl
    have g7 : c8_7 a b c d e f x y = !ltI p 0 := by unfold c8_7; rw [ed, e5, p4]
    have g8 : c8_8 w a b c d e f x y = ltI p w := by unfold c8_8; rw [ed, e5, p4]
    have g9 : c8_9 a b c d e f x y = !ltI q 0 := by unfold c8_9; rw [ed, e6, q4]
    have g10 : c8_10 h a b c d e f x y = ltI q h := by unfold c8_10; rw [ed, e6, q4]
    have g11 : t8_11 a b c d e f x y = p := by unfold t8_11; rw [ed, e5, p4]
    have g12 : t8_12 a b c d e f x y = q := by unfold t8_12; rw [ed, e6, q4]
    rw [k2, p3, q3, g11, g12]
    by_cases v : 0 ≤ p ∧ p < w ∧ 0 ≤ q ∧ q < h
    · obtain ⟨v1, v2, v3, v4⟩ := v
      have k13 : c8_13 w h a b c d e f x y = false := by unfold c8_13 F14b_0 F14b; rw [g7, g8, g9, g10, ltF v1, ltT v2, ltF v3, ltT v4]; rfl
      rw [k13]
      exact ⟨p, q, true, rfl, (fun q => by cases q), fun q => absurd q z, fun _ => ⟨p, q, by rw [hX]; exact p2, by rw [hY]; exact q2, ⟨fun _ => ⟨v1, v2, v3, v4⟩, fun _ => rfl⟩, fun _ => ⟨rfl, rfl⟩⟩⟩
    · have k13 : c8_13 w h a b c d e f x y = true := by
        unfold c8_13 F14b_0 F14b; rw [g7, g8, g9, g10]
        by_cases v1 : 0 ≤ p
        · rw [ltF v1]
          by_cases v2 : p < w
          · rw [ltT v2]
            by_cases v3 : 0 ≤ q
            · rw [ltF v3, ltF (by omega : h ≤ q)]; rfl
            · rw [ltT (by omega : q < 0)]; rfl
          · rw [ltF (by omega : w ≤ p)]; rfl
        · rw [ltT (by omega : p < 0)]; rfl
      rw [k13]
      exact ⟨0, 0, false, rfl, fun _ => ⟨rfl, rfl⟩, fun _ => rfl, fun _ => ⟨p, q, by rw [hX]; exact p2, by rw [hY]; exact q2, ⟨(fun q => by cases q), fun u => absurd u v⟩, (fun q => by cases q)⟩⟩
theorem wf_i8 {n : Int} (h : (Lit.int .i8 n).wf = true) : -128 ≤ n ∧ n ≤ 127 := wf_bounds h
theorem s22_1 (m x : Nat) : (F22 (m + 10) [x]).isSome = true ∧ F22_4 (m + 10) [x] = 0 := ⟨by kernel_rfl, by kernel_rfl⟩
theorem s22_3 (m x y z : Nat) : (F22 (m + 10) [x, y, z]).isSome = true ∧ F22_4 (m + 10) [x, y, z] = 0 := ⟨by kernel_rfl, by kernel_rfl⟩
theorem s22_4 (m x y z u : Nat) : (F22 (m + 10) [x, y, z, u]).isSome = true ∧ F22_4 (m + 10) [x, y, z, u] = 0 := ⟨by kernel_rfl, by kernel_rfl⟩
theorem s22 {n : Nat} (hn : 10 ≤ n) {s : List Nat} {m : Int} (hm : m = 1 ∨ m = 3 ∨ m = 4) (hl : (s.length : Int) = m) : (F22 n s).isSome = true ∧ F22_4 n s = 0 := by
  obtain ⟨k, rfl⟩ : ∃ k, n = k + 10 := ⟨n - 10, by omega⟩
  match s, hl with
  | [], hl => simp at hl; omega
  | [x], _ => exact s22_1 k x
  | [x, y], hl => simp at hl; omega
  | [x, y, z], _ => exact s22_3 k x y z
  | [x, y, z, u], _ => exact s22_4 k x y z u
  | x :: y :: z :: u :: v :: r, hl => simp only [List.length_cons] at hl; omega
theorem sub_len {s : List Nat} {i j : Nat} (h1 : i ≤ j) (h2 : j ≤ s.length) : (subS s i j).length = j - i := by
  simp only [subS, List.length_drop, List.length_take]; omega
theorem f10 {w h m a b c d e f x y : Int} {s : List Nat} (P : Pic w h m s) {i j : Int} {z : Bool} (e42 : F8 w h m s a b c d e f x y = some (i, j, z, 0)) (AT : At w h a b c d e f x y i j z) {n : Nat} (hn : 10 ≤ n) :
    (z = false → F10 n w h m s a b c d e f x y = some (0, 0, 0, 0, false, 0)) ∧
    (z = true → ∃ k : Nat, (k : Int) = (j * w + i) * m ∧ k + m.toNat ≤ s.length ∧ F10 n w h m s a b c d e f x y = some (F22_0 n (subS s k (k + m.toNat)), F22_1 n (subS s k (k + m.toNat)), F22_2 n (subS s k (k + m.toNat)), F22_3 n (subS s k (k + m.toNat)), true, 0) ∧
      (F22 n (subS s k (k + m.toNat))).isSome = true ∧ F22_4 n (subS s k (k + m.toNat)) = 0) := by
  have q0 : F8_0 w h m s a b c d e f x y = i := by unfold F8_0; rw [e42]; rfl
  have q1 : F8_1 w h m s a b c d e f x y = j := by unfold F8_1; rw [e42]; rfl
  have q2 : F8_2 w h m s a b c d e f x y = z := by unfold F8_2; rw [e42]; rfl
  have q3 : F8_3 w h m s a b c d e f x y = 0 := by unfold F8_3; rw [e42]; rfl
  have k0 : c10_0 w h m s a b c d e f x y = false := by unfold c10_0; rw [q3]; rfl
  obtain ⟨⟨w1, w2⟩, ⟨h1, h2⟩, m1, hl⟩ := P
  refine ⟨fun hz => ?_, fun hz => ?_⟩
  · subst hz
    unfold F10
    rw [e42, k0, q2, q3]; rfl
  · subst hz
    obtain ⟨u1, u2, u3, u4⟩ : 0 ≤ i ∧ i < w ∧ 0 ≤ j ∧ j < h := by
      obtain ⟨_, A1, A2⟩ := AT
      have zD : a * d - b * c ≠ 0 := fun q => by cases A1 q
      obtain ⟨p, q, _, _, k3, k4⟩ := A2 zD
      obtain ⟨rfl, rfl⟩ := k4 rfl
      exact k3.1 rfl
    clear AT
    have b1 := mul_bd (x := j) (y := w) (a := 64) (b := 64) (by omega) (by omega)
    have b2 : 0 ≤ j * w := Int.mul_nonneg u3 (by omega)
    have b3 : (j + 1) * w ≤ h * w := Int.mul_le_mul_of_nonneg_right (by omega) (by omega)
    rw [Int.add_mul] at b3
    rw [Int.mul_comm w h] at hl
    generalize hJ : j * w = J at *
    generalize hH : h * w = G at *
    have e1 : wrapA .i64 (Int.mul j w) = J := by rw [mul_int, hJ]; exact wrap64 (by omega) (by omega)
    have e2 : wrapA .i64 (Int.add J i) = J + i := by rw [add_int]; exact wrap64 (by omega) (by omega)
    have e3 : wrapA .i64 (Int.mul (J + i) m) = (J + i) * m := by
      rw [mul_int]; rcases m1 with rfl | rfl | rfl <;> exact wrap64 (by omega) (by omega)
    have e4 : wrapA .i64 (Int.add ((J + i) * m) m) = (J + i) * m + m := by
      rw [add_int]; rcases m1 with rfl | rfl | rfl <;> exact wrap64 (by omega) (by omega)
    have t1 : t10_1 w h m s a b c d e f x y = (J + i) * m := by unfold t10_1; rw [q0, q1, e1, e2, e3]
    have t2 : t10_2 w h m s a b c d e f x y = (J + i) * m + m := by unfold t10_2; rw [q0, q1, e1, e2, e3, e4]
    have g1 : 0 ≤ (J + i) * m := Int.mul_nonneg (by omega) (by omega)
    have g2 : (J + i) * m + m ≤ G * m := by
      have : (J + i + 1) * m ≤ G * m := Int.mul_le_mul_of_nonneg_right (by omega) (by omega)
      rw [Int.add_mul (J + i)] at this; omega
    have n1 : ((J + i) * m + m).toNat = ((J + i) * m).toNat + m.toNat := by omega
    have hs := s22 hn m1 (s := subS s ((J + i) * m).toNat (((J + i) * m).toNat + m.toNat)) (by rw [sub_len (by omega) (by omega)]; omega)
    have u3 : u10_3 w h m s a b c d e f x y = subS s ((J + i) * m).toNat (((J + i) * m).toNat + m.toNat) := by unfold u10_3; rw [t1, t2, n1]
    have c4 : c10_4 n w h m s a b c d e f x y = true := by unfold c10_4; rw [u3, hs.2]; rfl
    refine ⟨((J + i) * m).toNat, by omega, by omega, ?_, hs⟩
    unfold F10
    rw [e42, k0, q2, t1, t2, u3, c4, n1, hs.1, hs.2, ltF g1, ltF (by omega : 0 ≤ (J + i) * m + m)]
    have l1 : leB ((J + i) * m).toNat (((J + i) * m).toNat + m.toNat) = true := Nat.ble_eq_true_of_le (by omega)
    have l2 : leB (((J + i) * m).toNat + m.toNat) s.length = true := Nat.ble_eq_true_of_le (by omega)
    rw [l1, l2]; rfl
theorem fl_uniq {X D p q : Int} (hD : D ≠ 0) (h : Fl X D p) (k : Fl X D q) : p = q := by
  have key : ∀ p q : Int, Fl X D p → Fl X D q → ¬ p < q := by
    intro p q h k z
    by_cases d : 0 < D
    · have := h.1 d; have := k.1 d
      have m : D * (p + 1) ≤ D * q := Int.mul_le_mul_of_nonneg_left (by omega) (by omega)
      rw [Int.mul_add] at m; omega
    · have := h.2 (by omega); have := k.2 (by omega)
      have m : D * q ≤ D * (p + 1) := Int.mul_le_mul_of_nonpos_left (by omega) (by omega)
      rw [Int.mul_add] at m; omega
  have := key p q h k
  have := key q p k h
  omega
theorem fl_neg {X D p : Int} (h : Fl X D p) : Fl (-X) (-D) p := by
  refine ⟨fun d => ?_, fun d => ?_⟩
  · have := h.2 (by omega); rw [Int.neg_mul]; omega
  · have := h.1 (by omega); rw [Int.neg_mul]; omega
theorem fl_neg' {X D p : Int} (h : Fl (-X) (-D) p) : Fl X D p := by
  have := fl_neg h; rwa [Int.neg_neg, Int.neg_neg] at this
/-- the sample under a pixel, by its numbers -/
structure Al (w h D X Y : Int) (i j : Int) (z : Bool) : Prop where
  none : z = false → i = 0 ∧ j = 0
  flat : D = 0 → z = false
  some : D ≠ 0 → ∃ p q, Fl X D p ∧ Fl Y D q ∧ (z = true ↔ 0 ≤ p ∧ p < w ∧ 0 ≤ q ∧ q < h) ∧ (z = true → i = p ∧ j = q)
theorem Al.neg {w h D X Y i j : Int} {z : Bool} (A : Al w h (-D) (-X) (-Y) i j z) : Al w h D X Y i j z := by
  refine ⟨A.none, fun q => A.flat (by omega), fun q => ?_⟩
  obtain ⟨p, q, h1, h2, h3⟩ := A.some (by omega)
  exact ⟨p, q, fl_neg' h1, fl_neg' h2, h3⟩
theorem Al.uniq {w h D X Y i j i' j' : Int} {z z' : Bool} (A : Al w h D X Y i j z) (B : Al w h D X Y i' j' z') : i' = i ∧ j' = j ∧ z' = z := by
  by_cases hD : D = 0
  · have a := A.flat hD; have b := B.flat hD
    have := A.none a; have := B.none b
    exact ⟨by omega, by omega, by rw [a, b]⟩
  · obtain ⟨p, q, h1, h2, h3, h4⟩ := A.some hD
    obtain ⟨p', q', k1, k2, k3, k4⟩ := B.some hD
    obtain rfl := fl_uniq hD k1 h1
    obtain rfl := fl_uniq hD k2 h2
    have e : z' = z := by
      cases z with
      | true => exact k3.2 (h3.1 rfl)
      | false =>
        cases z' with
        | false => rfl
        | true => have := h3.2 (k3.1 rfl); cases this
    refine ⟨?_, ?_, e⟩
    · cases z with
      | true => have := h4 rfl; have := k4 e; omega
      | false => have := A.none rfl; have := B.none e; omega
    · cases z with
      | true => have := h4 rfl; have := k4 e; omega
      | false => have := A.none rfl; have := B.none e; omega
theorem At.al {w h a b c d e f x y i j D X Y : Int} {z : Bool} (A : At w h a b c d e f x y i j z) (h1 : a * d - b * c = D) (h2 : d * (65536 * x + 32768 - e) - c * (65536 * y + 32768 - f) = X) (h3 : a * (65536 * y + 32768 - f) - b * (65536 * x + 32768 - e) = Y) : Al w h D X Y i j z := by
  obtain ⟨k1, k2, k3⟩ := A
  rw [h1] at k2
  rw [h1, h2, h3] at k3
  exact ⟨k1, k2, k3⟩

theorem f34 {x y : Int} (hx : -1152921504606846976 ≤ x ∧ x ≤ 1152921504606846976) (hy : 0 < y) : ∃ q, F34 x y = some q ∧ y * q ≤ x ∧ x < y * q + y := by
  have e := Int.mul_tdiv_add_tmod x y
  have b : (Int.tdiv x y).natAbs ≤ x.natAbs := by rw [Int.natAbs_tdiv]; exact Nat.div_le_self _ _
  have w0 : wrapA .i64 (Int.tdiv x y) = Int.tdiv x y := wrap64 (by omega) (by omega)
  have w1 : wrapA .i64 (Int.sub (Int.tdiv x y) 1) = Int.tdiv x y - 1 := by rw [sub_int]; exact wrap64 (by omega) (by omega)
  have hb := tmod_bd x hy
  unfold F34
  rw [eqF (by omega : y ≠ 0), w0, w1]
  by_cases z : Int.tmod x y < 0
  · rw [ltT z]
    refine ⟨_, rfl, ?_⟩
    rw [Int.mul_sub]; omega
  · rw [ltF (by omega : 0 ≤ Int.tmod x y)]
    exact ⟨_, rfl, by omega, by omega⟩
theorem f30 {x y : Int} (hx : -1152921504606846976 ≤ x ∧ x ≤ 1152921504606846976) (hb : -1152921504606846976 ≤ y ∧ y ≤ 1152921504606846976) (hy : y ≠ 0) : ∃ q, F30 x y = some q ∧ F30_0 x y = q ∧ Fl x y q := by
  have nx : IntKind.wrap .i64 (0 - x) = -x := by rw [← wrapA_eq, wrap64 (by omega) (by omega)]; omega
  have ny : IntKind.wrap .i64 (0 - y) = -y := by rw [← wrapA_eq, wrap64 (by omega) (by omega)]; omega
  by_cases s : y < 0
  · obtain ⟨q, e, h1, h2⟩ := f34 (x := -x) (y := -y) (by omega) (by omega)
    have e0 : F34_0 (-x) (-y) = q := by unfold F34_0; rw [e]; rfl
    have k : F30 x y = some q := by unfold F30 t30_0; rw [ltT s, nx, ny, e, e0]; rfl
    rw [Int.neg_mul] at h1 h2
    exact ⟨q, k, by unfold F30_0; rw [k]; rfl, fun h => by omega, fun h => by omega⟩
  · obtain ⟨q, e, h1, h2⟩ := f34 (x := x) (y := y) hx (by omega)
    have e0 : F34_0 x y = q := by unfold F34_0; rw [e]; rfl
    have k : F30 x y = some q := by unfold F30; rw [ltF (by omega : 0 ≤ y), e, e0]; rfl
    exact ⟨q, k, by unfold F30_0; rw [k]; rfl, fun h => ⟨h1, h2⟩, fun h => by omega⟩
theorem f21 {w h n a b c d e f x y : Int} {s : List Nat} (M : Mx a b c d e f) (x1 : -1024 ≤ x) (x2 : x < 1024) (y1 : -1024 ≤ y) (y2 : y < 1024) :
    ∃ i j z, F21 w h n s a b c d e f x y = some (i, j, z) ∧ At w h a b c d e f x y i j z := by
  obtain ⟨e5, e6, ed, b5, b6, bd⟩ := nums M x1 x2 y1 y2
  have e2 : t21_2 c d e f x y = d * (65536 * x + 32768 - e) - c * (65536 * y + 32768 - f) := e5
  have e3 : t21_3 a b e f x y = a * (65536 * y + 32768 - f) - b * (65536 * x + 32768 - e) := e6
  have e29 : F29_0 a b c d e f = a * d - b * c := ed
  unfold F21
  rw [e2, e3, e29]
  generalize hX : d * (65536 * x + 32768 - e) - c * (65536 * y + 32768 - f) = X at *
  generalize hY : a * (65536 * y + 32768 - f) - b * (65536 * x + 32768 - e) = Y at *
  by_cases z : a * d - b * c = 0
  · rw [eqT z]
    exact ⟨0, 0, false, rfl, fun _ => ⟨rfl, rfl⟩, fun _ => rfl, fun q => absurd z q⟩
  · obtain ⟨p, p1, p3, p2⟩ := f30 (x := X) (by omega) (by omega) z
    obtain ⟨q, q1, q3, q2⟩ := f30 (x := Y) (by omega) (by omega) z
    have g4 : c21_4 a b c d e f x y = ltI p 0 := by unfold c21_4; rw [e2, e29, p3]
    have g5 : c21_5 w a b c d e f x y = !ltI p w := by unfold c21_5; rw [e2, e29, p3]
    have g6 : c21_6 a b c d e f x y = ltI q 0 := by unfold c21_6; rw [e3, e29, q3]
    have g7 : c21_7 h a b c d e f x y = !ltI q h := by unfold c21_7; rw [e3, e29, q3]
    rw [eqF z, p1, q1, p3, q3, g4, g5, g6, g7]
    have no : ∀ (k : ¬ (0 ≤ p ∧ p < w ∧ 0 ≤ q ∧ q < h)), ∃ i j z, (some (0, 0, false) : Option (Int × Int × Bool)) = some (i, j, z) ∧ At w h a b c d e f x y i j z := fun k =>
      ⟨0, 0, false, rfl, fun _ => ⟨rfl, rfl⟩, fun _ => rfl, fun _ => ⟨p, q, by rw [hX]; exact p2, by rw [hY]; exact q2, ⟨(fun q => by cases q), fun u => absurd u k⟩, (fun q => by cases q)⟩⟩
    by_cases v1 : 0 ≤ p
    · rw [ltF v1]
      by_cases v2 : p < w
      · rw [ltT v2]
        by_cases v3 : 0 ≤ q
        · rw [ltF v3]
          by_cases v4 : q < h
          · rw [ltT v4]
            exact ⟨p, q, true, rfl, (fun q => by cases q), fun q => absurd q z, fun _ => ⟨p, q, by rw [hX]; exact p2, by rw [hY]; exact q2, ⟨fun _ => ⟨v1, v2, v3, v4⟩, fun _ => rfl⟩, fun _ => ⟨rfl, rfl⟩⟩⟩
          · rw [ltF (by omega : h ≤ q)]; exact no (by omega)
        · rw [ltT (by omega : q < 0)]; exact no (by omega)
      · rw [ltF (by omega : w ≤ p)]; exact no (by omega)
    · rw [ltT (by omega : p < 0)]; exact no (by omega)
theorem mx_of {a b c d e f : Int} (h : F28_0 a b c d e f = true) : Mx a b c d e f := by
  unfold F28_0 F28 at h
  by_cases a1 : -16777216 ≤ a
  · rw [ltF a1] at h
    by_cases a2 : a ≤ 16777216
    · rw [ltF a2] at h
      by_cases b1 : -16777216 ≤ b
      · rw [ltF b1] at h
        by_cases b2 : b ≤ 16777216
        · rw [ltF b2] at h
          by_cases c1 : -16777216 ≤ c
          · rw [ltF c1] at h
            by_cases c2 : c ≤ 16777216
            · rw [ltF c2] at h
              by_cases d1 : -16777216 ≤ d
              · rw [ltF d1] at h
                by_cases d2 : d ≤ 16777216
                · rw [ltF d2] at h
                  by_cases e1 : -536870912 ≤ e
                  · rw [ltF e1] at h
                    by_cases e2 : e ≤ 536870912
                    · rw [ltF e2] at h
                      by_cases f1 : -536870912 ≤ f
                      · rw [ltF f1] at h
                        by_cases f2 : f ≤ 536870912
                        · rw [ltF f2] at h
                          exact ⟨⟨a1, a2⟩, ⟨b1, b2⟩, ⟨c1, c2⟩, ⟨d1, d2⟩, ⟨e1, e2⟩, ⟨f1, f2⟩⟩
                        · rw [ltT (by omega : 536870912 < f)] at h; cases h
                      · rw [ltT (by omega : f < -536870912)] at h; cases h
                    · rw [ltT (by omega : 536870912 < e)] at h; cases h
                  · rw [ltT (by omega : e < -536870912)] at h; cases h
                · rw [ltT (by omega : 16777216 < d)] at h; cases h
              · rw [ltT (by omega : d < -16777216)] at h; cases h
            · rw [ltT (by omega : 16777216 < c)] at h; cases h
          · rw [ltT (by omega : c < -16777216)] at h; cases h
        · rw [ltT (by omega : 16777216 < b)] at h; cases h
      · rw [ltT (by omega : b < -16777216)] at h; cases h
    · rw [ltT (by omega : 16777216 < a)] at h; cases h
  · rw [ltT (by omega : a < -16777216)] at h; cases h

theorem f28_15 (a b c d e f : Int) : F28_0 a b c d e f = eqI (F15_0 a b c d e f) 0 := by
  unfold F28_0 F28 F15_0 F15
  cases ltI a (-16777216) with
  | true => rfl
  | false =>
    cases ltI 16777216 a with
    | true => rfl
    | false =>
      cases ltI b (-16777216) with
      | true => rfl
      | false =>
        cases ltI 16777216 b with
        | true => rfl
        | false =>
          cases ltI c (-16777216) with
          | true => rfl
          | false =>
            cases ltI 16777216 c with
            | true => rfl
            | false =>
              cases ltI d (-16777216) with
              | true => rfl
              | false =>
                cases ltI 16777216 d with
                | true => rfl
                | false =>
                  cases ltI e (-536870912) with
                  | true => rfl
                  | false =>
                    cases ltI 536870912 e with
                    | true => rfl
                    | false =>
                      cases ltI f (-536870912) with
                      | true => rfl
                      | false =>
                        cases ltI 536870912 f <;> rfl
theorem chk (w h m : Int) (s : List Nat) (a b c d e f : Int) : F6 w h m s a b c d e f = some (bif F16_0 w h m s a b c d e f then 0 else 380) ∧ (F16 w h m s a b c d e f).isSome = true := by
  have k := f28_15 a b c d e f
  have k1 : c16_0 w h m s = !c6_1 w h m s := by unfold c16_0 c6_1; rw [Bool.not_not]
  unfold F6 F16_0 F16 c6_0 c6_2 F14a_0 F14a
  rw [k, k1]
  generalize eqI (F15_0 a b c d e f) 0 = x
  generalize c6_1 w h m s = y
  cases eqI m 1 <;> cases eqI m 3 <;> cases eqI m 4 <;> cases ltI w 1 <;> cases ltI 64 w <;> cases ltI h 1 <;> cases ltI 64 h <;> cases y <;> cases x <;> exact ⟨rfl, rfl⟩
theorem right_of {w h m : Int} {s : List Nat} {a b c d e f : Int} (k : F16_0 w h m s a b c d e f = true) : Pic w h m s ∧ Mx a b c d e f := by
  unfold F16_0 F16 at k
  by_cases w1 : 1 ≤ w
  · rw [ltF w1] at k
    by_cases w2 : w ≤ 64
    · rw [ltF w2] at k
      by_cases h1 : 1 ≤ h
      · rw [ltF h1] at k
        by_cases h2 : h ≤ 64
        · rw [ltF h2] at k
          have fin : (m = 1 ∨ m = 3 ∨ m = 4) → c16_0 w h m s = true → F28_0 a b c d e f = true → Pic w h m s ∧ Mx a b c d e f := fun hm hc hM => by
            have hb := wh_bd ⟨w1, w2⟩ ⟨h1, h2⟩ hm
            have e1 : wrapA .i64 (Int.mul w h) = w * h := by rw [mul_int]; exact wrap64 (by omega) (by omega)
            have e2 : wrapA .i64 (Int.mul (w * h) m) = w * h * m := by rw [mul_int]; exact wrap64 (by omega) (by omega)
            unfold c16_0 at hc
            rw [e1, e2, eqI_t] at hc
            exact ⟨⟨⟨w1, w2⟩, ⟨h1, h2⟩, hm, hc⟩, mx_of hM⟩
          have two : (m = 1 ∨ m = 3 ∨ m = 4) → ((bif c16_0 w h m s then some (F28_0 a b c d e f) else some false).getD default) = true → Pic w h m s ∧ Mx a b c d e f := fun hm q => by
            cases hc : c16_0 w h m s with
            | true => rw [hc] at q; exact fin hm hc q
            | false => rw [hc] at q; cases q
          by_cases m1 : m = 1
          · rw [eqT m1] at k; exact two (.inl m1) k
          · rw [eqF m1] at k
            by_cases m3 : m = 3
            · rw [eqT m3] at k; exact two (.inr (.inl m3)) k
            · rw [eqF m3] at k
              by_cases m4 : m = 4
              · rw [eqT m4] at k; exact two (.inr (.inr m4)) k
              · rw [eqF m4] at k; cases k
        · rw [ltT (by omega : 64 < h)] at k; cases k
      · rw [ltT (by omega : h < 1)] at k; cases k
    · rw [ltT (by omega : 64 < w)] at k; cases k
  · rw [ltT (by omega : w < 1)] at k; cases k
theorem pix (x y : Int) : F20_0 x y = F14b_0 (!ltI x (-1024)) (ltI x 1024) (!ltI y (-1024)) (ltI y 1024) := by
  unfold F20_0 F20 F14b_0 F14b
  cases ltI x (-1024) <;> cases ltI x 1024 <;> cases ltI y (-1024) <;> cases ltI y 1024 <;> rfl
theorem pix_of {x y : Int} (h : F20_0 x y = true) : -1024 ≤ x ∧ x < 1024 ∧ -1024 ≤ y ∧ y < 1024 := by
  unfold F20_0 F20 at h
  by_cases x1 : -1024 ≤ x
  · rw [ltF x1] at h
    by_cases x2 : x < 1024
    · rw [ltT x2] at h
      by_cases y1 : -1024 ≤ y
      · rw [ltF y1] at h
        by_cases y2 : y < 1024
        · exact ⟨x1, x2, y1, y2⟩
        · rw [ltF (by omega : 1024 ≤ y)] at h; cases h
      · rw [ltT (by omega : y < -1024)] at h; cases h
    · rw [ltF (by omega : 1024 ≤ x)] at h; cases h
  · rw [ltT (by omega : x < -1024)] at h; cases h
theorem c8_1_eq (x y : Int) : c8_1 x y = !F20_0 x y := by unfold c8_1; rw [pix]
/-- the program and the reference say the same of a pixel's place -/
theorem place (w h m : Int) (s : List Nat) (a b c d e f x y : Int) : F8 w h m s a b c d e f x y = F9 w h m s a b c d e f x y ∧ (F9 w h m s a b c d e f x y).isSome = true ∧
    ((∃ i j, F9 w h m s a b c d e f x y = some (i, j, true, 0) ∧ Pic w h m s ∧ At w h a b c d e f x y i j true) ∨ F9_2 w h m s a b c d e f x y = false) := by
  obtain ⟨k1, k2⟩ := chk w h m s a b c d e f
  cases hv : F16_0 w h m s a b c d e f with
  | false =>
    have e6 : F6_0 w h m s a b c d e f = 380 := by unfold F6_0; rw [k1, hv]; rfl
    have c0 : c8_0 w h m s a b c d e f = true := by unfold c8_0; rw [e6]; rfl
    have e9 : F9 w h m s a b c d e f x y = some (0, 0, false, 380) := by unfold F9; rw [hv]; rfl
    refine ⟨?_, by rw [e9]; rfl, .inr (by unfold F9_2; rw [e9]; rfl)⟩
    rw [e9]; unfold F8; rw [c0, e6]; rfl
  | true =>
    obtain ⟨P, M⟩ := right_of hv
    have e6 : F6_0 w h m s a b c d e f = 0 := by unfold F6_0; rw [k1, hv]; rfl
    have c0 : c8_0 w h m s a b c d e f = false := by unfold c8_0; rw [e6]; rfl
    cases hp : F20_0 x y with
    | false =>
      have e9 : F9 w h m s a b c d e f x y = some (0, 0, false, 2) := by unfold F9; rw [hv, hp]; rfl
      refine ⟨?_, by rw [e9]; rfl, .inr (by unfold F9_2; rw [e9]; rfl)⟩
      rw [e9]; unfold F8; rw [c0, c8_1_eq, hp]; rfl
    | true =>
      obtain ⟨x1, x2, y1, y2⟩ := pix_of hp
      obtain ⟨i, j, z, q1, A⟩ := f8 P M x1 x2 y1 y2
      obtain ⟨i', j', z', q2, B⟩ := f21 (w := w) (h := h) (n := m) (s := s) M x1 x2 y1 y2
      obtain ⟨rfl, rfl, rfl⟩ := (A.al rfl rfl rfl).uniq (B.al rfl rfl rfl)
      have t0 : F21_0 w h m s a b c d e f x y = i' := by unfold F21_0; rw [q2]; rfl
      have t1 : F21_1 w h m s a b c d e f x y = j' := by unfold F21_1; rw [q2]; rfl
      have t2 : F21_2 w h m s a b c d e f x y = z' := by unfold F21_2; rw [q2]; rfl
      have e9 : F9 w h m s a b c d e f x y = some (i', j', z', 0) := by unfold F9; rw [hv, hp, q2, t0, t1, t2]; rfl
      refine ⟨by rw [q1, e9], by rw [e9]; rfl, ?_⟩
      cases hz : z' with
      | false => exact .inr (by unfold F9_2; rw [e9, hz]; rfl)
      | true => rw [hz] at A e9; exact .inl ⟨i', j', e9, P, A⟩
theorem wh_bd9 {w h n : Int} (hw : 1 ≤ w ∧ w ≤ 9) (hh : 1 ≤ h ∧ h ≤ 9) (hn : n = 1 ∨ n = 3 ∨ n = 4) : 1 ≤ w * h ∧ w * h ≤ 81 ∧ 1 ≤ w * h * n ∧ w * h * n ≤ 324 := by
  have a : w * h ≤ 9 * 9 := Int.mul_le_mul hw.2 hh.2 (by omega) (by omega)
  have b : 1 * 1 ≤ w * h := Int.mul_le_mul hw.1 hh.1 (by omega) (by omega)
  rcases hn with rfl | rfl | rfl <;> omega

theorem w64 {n : Int} (h1 : 0 ≤ n) (h2 : n ≤ 1000000) : wrapA .i64 n = n := wrap64 (by omega) (by omega)
theorem side {a : Int} (h1 : 0 ≤ a) (h2 : a ≤ 255) : ∃ W, wrapA .i64 (Int.add 1 (wrapA .i64 (Int.tmod a 9))) = W ∧ 1 ≤ W ∧ W ≤ 9 := by
  have e : Int.tmod a 9 = a % 9 := Int.tmod_eq_emod_of_nonneg h1
  have := Int.emod_nonneg a (show (9 : Int) ≠ 0 by omega)
  have := Int.emod_lt_of_pos a (show (0 : Int) < 9 by omega)
  refine ⟨_, rfl, ?_⟩
  rw [e, w64 (n := a % 9) (by omega) (by omega), add_int, w64 (by omega) (by omega)]
  omega
theorem comp {a : Int} (h1 : 0 ≤ a) (h2 : a ≤ 255) : ∃ m, inB (Int.tmod a 3) 3 = true ∧ cellB [AV.int .i64 1, AV.int .i64 3, AV.int .i64 4] (atI 0 (Int.tmod a 3) 1) (CK.int .i64) = true ∧ intC [AV.int .i64 1, AV.int .i64 3, AV.int .i64 4] (atI 0 (Int.tmod a 3) 1) = m ∧ (m = 1 ∨ m = 3 ∨ m = 4) := by
  have e : Int.tmod a 3 = a % 3 := Int.tmod_eq_emod_of_nonneg h1
  have k : a % 3 = 0 ∨ a % 3 = 1 ∨ a % 3 = 2 := by omega
  rw [e]
  rcases k with k | k | k <;> rw [k]
  · exact ⟨1, by kernel_rfl, by kernel_rfl, by kernel_rfl, .inl rfl⟩
  · exact ⟨3, by kernel_rfl, by kernel_rfl, by kernel_rfl, .inr (.inl rfl)⟩
  · exact ⟨4, by kernel_rfl, by kernel_rfl, by kernel_rfl, .inr (.inr rfl)⟩
theorem tb1 (x : Int) : -16777216 ≤ Int.tmod x 16777217 ∧ Int.tmod x 16777217 ≤ 16777216 := by have := tmod_bd x (c := 16777217) (by omega); omega
theorem tb2 (x : Int) : -16777216 ≤ Int.tmod x 300000 ∧ Int.tmod x 300000 ≤ 16777216 := by have := tmod_bd x (c := 300000) (by omega); omega
theorem tb3 (x : Int) : -536870912 ≤ Int.tmod x 536870913 ∧ Int.tmod x 536870913 ≤ 536870912 := by have := tmod_bd x (c := 536870913) (by omega); omega
theorem tb4 (x : Int) : -536870912 ≤ Int.tmod x 9000000 ∧ Int.tmod x 9000000 ≤ 536870912 := by have := tmod_bd x (c := 9000000) (by omega); omega
theorem tb5 (x : Int) : -16777216 ≤ Int.tmod x 400000 ∧ Int.tmod x 400000 ≤ 16777216 := by have := tmod_bd x (c := 400000) (by omega); omega
theorem tb6 (x : Int) : -536870912 ≤ Int.tmod x 3000000 ∧ Int.tmod x 3000000 ≤ 536870912 := by have := tmod_bd x (c := 3000000) (by omega); omega
theorem mx62 (k a b c d e f : Int) : Mx (F13_0 k a b c d e f) (F13_1 k a b c d e f) (F13_2 k a b c d e f) (F13_3 k a b c d e f) (F13_4 k a b c d e f) (F13_5 k a b c d e f) := by
  have z1 : (-16777216 : Int) ≤ 0 ∧ (0 : Int) ≤ 16777216 := by omega
  unfold F13_0 F13_1 F13_2 F13_3 F13_4 F13_5 F13
  cases eqI (Int.tmod k 4) 0
  · cases eqI (Int.tmod k 4) 1
    · cases eqI (Int.tmod k 4) 2
      · exact ⟨z1, tb2 _, tb2 _, z1, tb4 _, tb4 _⟩
      · exact ⟨tb2 _, z1, z1, tb2 _, tb4 _, tb4 _⟩
    · exact ⟨tb2 _, tb2 _, tb2 _, tb2 _, tb4 _, tb4 _⟩
  · exact ⟨tb1 _, tb1 _, tb1 _, tb1 _, tb3 _, tb3 _⟩
theorem mxN (a b c d e f : Int) : Mx (Int.tmod a 400000) (Int.tmod b 400000) (Int.tmod c 400000) (Int.tmod d 400000) (Int.tmod e 3000000) (Int.tmod f 3000000) := ⟨tb5 _, tb5 _, tb5 _, tb5 _, tb6 _, tb6 _⟩
/-- octets as cells -/
def AllU (l : List AV) (m : Nat) : Prop := l.length = m ∧ ∀ c, c ∈ l → ∃ b : Int, c = .int .u8 b
theorem allU_pure : ∀ {l : List AV}, (∀ c, c ∈ l → ∃ b : Int, c = .int .u8 b) → pureAVs l = true
  | [], _ => rfl
  | c :: l, h => by
    obtain ⟨b, rfl⟩ := h c (by simp)
    simp only [pureAVs, pureAV, Bool.true_and]
    exact allU_pure (fun c hc => h c (by simp [hc]))
theorem allU_str {l : List AV} {m : Nat} (h : AllU l m) : strOk l 0 m = true ∧ (Go.Sx.strOf l 0 m).length = m := by
  obtain ⟨h1, h2⟩ := h
  have ht : (l.drop 0).take m = l := by rw [List.drop_zero, List.take_of_length_le (by omega)]
  refine ⟨?_, ?_⟩
  · simp only [strOk, ht, Bool.and_eq_true]
    refine ⟨Nat.ble_eq_true_of_le (by omega), ?_⟩
    rw [List.all_eq_true]; intro c hc
    obtain ⟨b, rfl⟩ := h2 c hc; rfl
  · simp only [Go.Sx.strOf, ht, List.length_map]; exact h1
theorem allU_rep : ∀ (m : Nat), AllU (repeatL m [.int .u8 0]) m
  | 0 => ⟨rfl, fun c hc => by cases hc⟩
  | m + 1 => by
    obtain ⟨h1, h2⟩ := allU_rep m
    refine ⟨by simp [repeatL, h1], fun c hc => ?_⟩
    simp only [repeatL, List.cons_append, List.nil_append, List.mem_cons] at hc
    rcases hc with rfl | hc
    · exact ⟨0, rfl⟩
    · exact h2 c hc
theorem allU_put {l : List AV} {m i : Nat} {b : Int} (h : AllU l m) (hi : i < m) : putOk l i 1 = true ∧ AllU (putL l i [.int .u8 b]) m := by
  obtain ⟨k1, k2⟩ := h
  refine ⟨Nat.ble_eq_true_of_le (by omega), ?_, fun c hc => ?_⟩
  · simp only [putL, List.length_append, List.length_take, List.length_drop, List.length_cons, List.length_nil]; omega
  · simp only [putL, List.mem_append, List.mem_cons, List.not_mem_nil, or_false] at hc
    rcases hc with (hc | rfl) | hc
    · exact k2 c (List.mem_of_mem_take hc)
    · exact ⟨b, rfl⟩
    · exact k2 c (List.mem_of_mem_drop hc)
theorem u8_at : ∀ {m : Nat} {x : List AV}, KOk (kRep m [.int .u8]) x → ∀ i, i < m → ∃ b : Int, nth x i = some (.int .u8 b) ∧ 0 ≤ b ∧ b ≤ 255
  | 0, _, _, i, hi => by omega
  | m + 1, _, h, i, hi => by
    obtain ⟨b, r, rfl, hb, h⟩ := h
    cases i with
    | zero => exact ⟨b, rfl, wf_u8 hb⟩
    | succ i => exact u8_at h i (by omega)
theorem u8_cell {m : Nat} {x : List AV} (h : KOk (kRep m [.int .u8]) x) {i : Nat} (hi : i < m) : cellB x i (.int .u8) = true := by
  obtain ⟨b, h1, h2, h3⟩ := u8_at h i hi
  simp only [cellB, isIntC, h1]
  simp
theorem fill (a0_0 a0_1 a0_2 : Int) (x0 : List AV) (c0 k0 : Nat) (a0_4 a0_5 a0_6 a0_7 a0_8 a0_9 a0_10 : Int) (a0_11 : Bool) (hc : 0 < c0) (hx : KOk (kRep c0 [.int .u8]) x0) {N : Nat} (hN : N ≤ 324) (w h m a b c d e f : Int) : ∀ (n : Nat) (v : Int) (l : List AV), 0 ≤ v → v ≤ N → AllU l N → (N : Int) - v < n →
    ∃ s, L4s_0 a0_0 a0_1 a0_2 x0 c0 k0 a0_4 a0_5 a0_6 a0_7 a0_8 a0_9 a0_10 a0_11 n N v w h m a b c d e f l = some (w, h, m, s, a, b, c, d, e, f) ∧ s.length = N := by
  intro n
  induction n with
  | zero => intro v l v0 vN q hn; omega
  | succ n ih =>
    intro v l v0 vN q hn
    rw [L4s_0_succ]
    by_cases z : v < N
    · have e1 : Int.tmod v (↑c0 : Int) = v % c0 := Int.tmod_eq_emod_of_nonneg v0
      have m0 := Int.emod_nonneg v (show (c0 : Int) ≠ 0 by omega)
      have m1 := Int.emod_lt_of_pos v (show (0 : Int) < c0 by omega)
      obtain ⟨r1, r2⟩ := allU_put (b := t4s_30 x0 c0 v) q (i := v.toNat) (by omega)
      have el : l4s_31 x0 c0 v l = putL l v.toNat [.int .u8 (t4s_30 x0 c0 v)] := by unfold l4s_31; rw [at1]
      rw [el, e1, at1, at1, ltT z, ltT (by omega : (0 : Int) < c0), eqF (by omega : (c0 : Int) ≠ 0), inT m0 (by omega), u8_cell hx (by omega), inT v0 (by omega), r1, allU_pure r2.2, add_int, w64 (by omega) (by omega)]
      exact ih (v + 1) _ (by omega) (by omega) r2 (by omega)
    · obtain ⟨k1, k2⟩ := allU_str q
      rw [ltF (by omega : (N : Int) ≤ v), k1]
      exact ⟨_, rfl, k2⟩

theorem pic_s {a0_0 a0_1 a0_2 : Int} (x0 : List AV) (c0 k0 : Nat) (a0_4 a0_5 a0_6 a0_7 a0_8 a0_9 a0_10 : Int) (a0_11 : Bool) (hc : 0 < c0) (hx : KOk (kRep c0 [.int .u8]) x0) (h0 : 0 ≤ a0_0 ∧ a0_0 ≤ 255) (h1 : 0 ≤ a0_1 ∧ a0_1 ≤ 255) (h2 : 0 ≤ a0_2 ∧ a0_2 ≤ 255) : ∃ w h m s a b c d e f, F4s 1000 a0_0 a0_1 a0_2 x0 c0 k0 a0_4 a0_5 a0_6 a0_7 a0_8 a0_9 a0_10 a0_11 = some (w, h, m, s, a, b, c, d, e, f) ∧ Pic w h m s ∧ Mx a b c d e f := by
  obtain ⟨w, ew, w1, w2⟩ := side h0.1 h0.2
  obtain ⟨h, eh, g1, g2⟩ := side h1.1 h1.2
  obtain ⟨m, em1, em2, em, m1⟩ := comp h2.1 h2.2
  have hb := wh_bd9 ⟨w1, w2⟩ ⟨g1, g2⟩ m1
  have t0 : t4s_26 a0_0 = w := ew
  have t1 : t4s_27 a0_1 = h := eh
  have t2 : t4s_28 a0_2 = m := em
  have e1 : wrapA .i64 (Int.mul w h) = w * h := by rw [mul_int]; exact w64 (by omega) (by omega)
  have e2 : wrapA .i64 (Int.mul (w * h) m) = w * h * m := by rw [mul_int]; exact w64 (by omega) (by omega)
  have hT : ((w * h * m).toNat : Int) = w * h * m := by omega
  have el : l4s_29 a0_0 a0_1 a0_2 = repeatL (w * h * m).toNat [.int .u8 0] := by unfold l4s_29; rw [t0, t1, t2, e1, e2]
  have M := mx62 a0_4 a0_5 a0_6 a0_7 a0_8 a0_9 a0_10
  have key : ∀ a b c d e f, ∃ s, L4s_0 a0_0 a0_1 a0_2 x0 c0 k0 a0_4 a0_5 a0_6 a0_7 a0_8 a0_9 a0_10 a0_11 1000 (w * h * m).toNat 0 w h m a b c d e f (repeatL (w * h * m).toNat [.int .u8 0]) = some (w, h, m, s, a, b, c, d, e, f) ∧ s.length = (w * h * m).toNat := fun a b c d e f =>
    fill a0_0 a0_1 a0_2 x0 c0 k0 a0_4 a0_5 a0_6 a0_7 a0_8 a0_9 a0_10 a0_11 hc hx (by omega) w h m a b c d e f 1000 0 _ (by omega) (by omega) (allU_rep _) (by omega)
  unfold F4s
  rw [em1, em2, t0, t1, t2, e1, e2, el, ltF (by omega : (0 : Int) ≤ w * h * m), ltF (by omega : w * h * m ≤ w * h * m), ltF (by omega : w * h * m ≤ 1000000), allU_pure (allU_rep _).2]
  cases a0_11
  · obtain ⟨s, k1, k2⟩ := key _ _ _ _ _ _
    exact ⟨_, _, _, _, _, _, _, _, _, _, k1, ⟨⟨w1, by omega⟩, ⟨g1, by omega⟩, m1, by omega⟩, M⟩
  · obtain ⟨s, k1, k2⟩ := key _ _ _ _ _ _
    exact ⟨_, _, _, _, _, _, _, _, _, _, k1, ⟨⟨w1, by omega⟩, ⟨g1, by omega⟩, m1, by omega⟩, mxN _ _ _ _ _ _⟩

theorem pic_e {a0_0 a0_1 a0_2 : Int} (a0_4 a0_5 a0_6 a0_7 a0_8 a0_9 a0_10 : Int) (a0_11 : Bool) (h0 : 0 ≤ a0_0 ∧ a0_0 ≤ 255) (h1 : 0 ≤ a0_1 ∧ a0_1 ≤ 255) (h2 : 0 ≤ a0_2 ∧ a0_2 ≤ 255) : ∃ w h m s a b c d e f, F4e a0_0 a0_1 a0_2 a0_4 a0_5 a0_6 a0_7 a0_8 a0_9 a0_10 a0_11 = some (w, h, m, s, a, b, c, d, e, f) ∧ Pic w h m s ∧ Mx a b c d e f := by
  obtain ⟨w, ew, w1, w2⟩ := side h0.1 h0.2
  obtain ⟨h, eh, g1, g2⟩ := side h1.1 h1.2
  obtain ⟨m, em1, em2, em, m1⟩ := comp h2.1 h2.2
  have hb := wh_bd9 ⟨w1, w2⟩ ⟨g1, g2⟩ m1
  have t0 : t4e_0 a0_0 = w := ew
  have t1 : t4e_1 a0_1 = h := eh
  have t2 : t4e_2 a0_2 = m := em
  have e1 : wrapA .i64 (Int.mul w h) = w * h := by rw [mul_int]; exact w64 (by omega) (by omega)
  have e2 : wrapA .i64 (Int.mul (w * h) m) = w * h * m := by rw [mul_int]; exact w64 (by omega) (by omega)
  have hT : ((w * h * m).toNat : Int) = w * h * m := by omega
  have el : l4e_4 a0_0 a0_1 a0_2 = repeatL (w * h * m).toNat [.int .u8 0] := by unfold l4e_4; rw [t0, t1, t2, e1, e2]
  have M := mx62 a0_4 a0_5 a0_6 a0_7 a0_8 a0_9 a0_10
  obtain ⟨k1, k2⟩ := allU_str (allU_rep (w * h * m).toNat)
  have eu : u4e_5 a0_0 a0_1 a0_2 = strOf (repeatL (w * h * m).toNat [.int .u8 0]) 0 (w * h * m).toNat := by unfold u4e_5; rw [el, t0, t1, t2, e1, e2]
  unfold F4e
  rw [em1, em2, t0, t1, t2, e1, e2, el, eu, ltF (by omega : (0 : Int) ≤ w * h * m), ltF (by omega : w * h * m ≤ w * h * m), ltF (by omega : w * h * m ≤ 1000000), k1]
  cases a0_11 <;> cases c4e_3 a0_0 a0_1 a0_2
  · exact ⟨_, _, _, _, _, _, _, _, _, _, rfl, ⟨⟨w1, by omega⟩, ⟨g1, by omega⟩, m1, by rw [k2]; omega⟩, M⟩
  · exact ⟨_, _, _, _, _, _, _, _, _, _, rfl, ⟨⟨w1, by omega⟩, ⟨g1, by omega⟩, m1, by rw [k2]; omega⟩, M⟩
  · exact ⟨_, _, _, _, _, _, _, _, _, _, rfl, ⟨⟨w1, by omega⟩, ⟨g1, by omega⟩, m1, by rw [k2]; omega⟩, mxN _ _ _ _ _ _⟩
  · exact ⟨_, _, _, _, _, _, _, _, _, _, rfl, ⟨⟨w1, by omega⟩, ⟨g1, by omega⟩, m1, by rw [k2]; omega⟩, mxN _ _ _ _ _ _⟩
theorem q1 (m x : Nat) : F22 (m + 10) [x] = F32 [x] := by kernel_rfl
theorem q3 (m x y z : Nat) : F22 (m + 10) [x, y, z] = F32 [x, y, z] := by kernel_rfl
theorem q4 (m x y z u : Nat) : F22 (m + 10) [x, y, z, u] = F32 [x, y, z, u] := by kernel_rfl
theorem smp {n : Nat} (hn : 10 ≤ n) {s : List Nat} {m : Int} (hm : m = 1 ∨ m = 3 ∨ m = 4) (hl : (s.length : Int) = m) : F22 n s = F32 s := by
  obtain ⟨k, rfl⟩ : ∃ k, n = k + 10 := ⟨n - 10, by omega⟩
  match s, hl with
  | [], hl => simp at hl; omega
  | [x], _ => exact q1 k x
  | [x, y], hl => simp at hl; omega
  | [x, y, z], _ => exact q3 k x y z
  | [x, y, z, u], _ => exact q4 k x y z u
  | x :: y :: z :: u :: v :: r, hl => simp only [List.length_cons] at hl; omega
theorem at_eq (w h m : Int) (s : List Nat) (a b c d e f x y : Int) {n : Nat} (hn : 10 ≤ n) : F10 n w h m s a b c d e f x y = F11 w h m s a b c d e f x y ∧ (F11 w h m s a b c d e f x y).isSome = true := by
  obtain ⟨k1, k2, k3⟩ := place w h m s a b c d e f x y
  rcases k3 with ⟨i, j, e9, P, A⟩ | k3
  · have e8 : F8 w h m s a b c d e f x y = some (i, j, true, 0) := k1.trans e9
    obtain ⟨k, o1, o2, e10, o3, o4⟩ := (f10 P e8 A hn).2 rfl
    have t0 : F9_0 w h m s a b c d e f x y = i := by unfold F9_0; rw [e9]; rfl
    have t1 : F9_1 w h m s a b c d e f x y = j := by unfold F9_1; rw [e9]; rfl
    have t2 : F9_2 w h m s a b c d e f x y = true := by unfold F9_2; rw [e9]; rfl
    have t3 : F9_3 w h m s a b c d e f x y = 0 := by unfold F9_3; rw [e9]; rfl
    have c0 : c11_0 w h m s a b c d e f x y = false := by unfold c11_0; rw [t3]; rfl
    obtain ⟨⟨w1, w2⟩, ⟨h1, h2⟩, m1, hl⟩ := P
    obtain ⟨u1, u2, u3, u4⟩ : 0 ≤ i ∧ i < w ∧ 0 ≤ j ∧ j < h := by
      obtain ⟨_, A1, A2⟩ := A
      have zD : a * d - b * c ≠ 0 := fun q => by cases A1 q
      obtain ⟨p, q, _, _, k3, k4⟩ := A2 zD
      obtain ⟨rfl, rfl⟩ := k4 rfl
      exact k3.1 rfl
    clear A
    have bj := mul_bd (x := j) (y := w) (a := 64) (b := 64) (by omega) (by omega)
    have d5 : wrapA .i64 (Int.mul j w) = j * w := by rw [mul_int]; exact wrap64 (by omega) (by omega)
    have d6 : wrapA .i64 (Int.add (j * w) i) = j * w + i := by rw [add_int]; exact wrap64 (by omega) (by omega)
    have hk : (k : Int) ≤ 100000 := by
      rw [o1]; generalize j * w = J at *
      rcases m1 with rfl | rfl | rfl <;> omega
    have d7 : wrapA .i64 (Int.mul (j * w + i) m) = k := by
      rw [mul_int, ← o1]; exact wrap64 (by omega) (by omega)
    have d8 : wrapA .i64 (Int.add (k : Int) m) = (k : Int) + m := by rw [add_int]; exact wrap64 (by omega) (by omega)
    have d9 : Int.toNat ((k : Int) + m) = k + m.toNat := by omega
    have d10 : Int.toNat (k : Int) = k := by omega
    have l1 : leB k (k + m.toNat) = true := Nat.ble_eq_true_of_le (by omega)
    have l2 : leB (k + m.toNat) s.length = true := Nat.ble_eq_true_of_le o2
    have v0 : t23_0 w m i j = (k : Int) + m := by unfold t23_0; rw [d5, d6, d7, d8]
    have v1 : u23_1 w m s i j = subS s k (k + m.toNat) := by unfold u23_1; rw [v0, d5, d6, d7, d9, d10]
    have hu := smp hn (s := subS s k (k + m.toNat)) m1 (by rw [sub_len (by omega) o2]; omega)
    have r0 : F22_0 n (subS s k (k + m.toNat)) = F32_0 (subS s k (k + m.toNat)) := by unfold F22_0 F32_0; rw [hu]
    have r1 : F22_1 n (subS s k (k + m.toNat)) = F32_1 (subS s k (k + m.toNat)) := by unfold F22_1 F32_1; rw [hu]
    have r2 : F22_2 n (subS s k (k + m.toNat)) = F32_2 (subS s k (k + m.toNat)) := by unfold F22_2 F32_2; rw [hu]
    have r3 : F22_3 n (subS s k (k + m.toNat)) = F32_3 (subS s k (k + m.toNat)) := by unfold F22_3 F32_3; rw [hu]
    have e23 : F23 w h m s a b c d e f i j = some (F32_0 (subS s k (k + m.toNat)), F32_1 (subS s k (k + m.toNat)), F32_2 (subS s k (k + m.toNat)), F32_3 (subS s k (k + m.toNat))) := by
      unfold F23
      rw [v0, v1, d5, d6, d7, d9, d10, l1, l2, ← hu, o3, ltF (by omega : (0 : Int) ≤ k), ltF (by omega : (0 : Int) ≤ (k : Int) + m)]; rfl
    have g0 : t11_1 w h m s a b c d e f x y = F32_0 (subS s k (k + m.toNat)) := by unfold t11_1 F23_0; rw [t0, t1, e23]; rfl
    have g1 : t11_2 w h m s a b c d e f x y = F32_1 (subS s k (k + m.toNat)) := by unfold t11_2 F23_1; rw [t0, t1, e23]; rfl
    have g2 : t11_3 w h m s a b c d e f x y = F32_2 (subS s k (k + m.toNat)) := by unfold t11_3 F23_2; rw [t0, t1, e23]; rfl
    have g3 : t11_4 w h m s a b c d e f x y = F32_3 (subS s k (k + m.toNat)) := by unfold t11_4 F23_3; rw [t0, t1, e23]; rfl
    have e11 : F11 w h m s a b c d e f x y = some (F32_0 (subS s k (k + m.toNat)), F32_1 (subS s k (k + m.toNat)), F32_2 (subS s k (k + m.toNat)), F32_3 (subS s k (k + m.toNat)), true, 0) := by
      unfold F11
      rw [e9, c0, t2, t0, t1, e23, g0, g1, g2, g3]; rfl
    rw [e11, e10, r0, r1, r2, r3]; exact ⟨rfl, rfl⟩
  · have a2 : F8_2 w h m s a b c d e f x y = false := by unfold F8_2; rw [k1]; exact k3
    have a3 : F8_3 w h m s a b c d e f x y = F9_3 w h m s a b c d e f x y := by unfold F8_3 F9_3; rw [k1]
    unfold F10 F11 c10_0 c11_0
    rw [k1, k2, a2, a3, k3]
    cases eqI (F9_3 w h m s a b c d e f x y) 0 <;> exact ⟨rfl, rfl⟩

theorem nbeq (x : Bool) : (!x == x) = false := by cases x <;> rfl
theorem f67 (w h m : Int) (s : List Nat) (a b c d e f : Int) : F6_0 w h m s a b c d e f = F7_0 w h m s a b c d e f := by
  obtain ⟨k1, _⟩ := chk w h m s a b c d e f
  unfold F6_0 F7_0 F7
  rw [k1]
  cases F16_0 w h m s a b c d e f <;> rfl
theorem f5 {w h m : Int} {s : List Nat} {a b c d e f : Int} : (F5 w h m s a b c d e f).isSome = true := by
  have k : ∃ k : Nat, t5_0 s = k ∧ k ≤ s.length := by
    unfold t5_0
    split
    · exact ⟨1000, rfl, by omega⟩
    · exact ⟨s.length, rfl, by omega⟩
  obtain ⟨k, e, k1⟩ := k
  have l1 : leB k s.length = true := Nat.ble_eq_true_of_le k1
  unfold F5
  rw [e, ltF (by omega : (0 : Int) ≤ k), Int.toNat_natCast, l1]; rfl

theorem step_s (a0_0 a0_1 a0_2 : Int) (x0 : List AV) (c0 k0 : Nat) (a0_4 a0_5 a0_6 a0_7 a0_8 a0_9 a0_10 : Int) (a0_11 : Bool) (a1_0 a1_1 a1_2 : Int) (a1_3 : List Nat) (a1_4 a1_5 a1_6 a1_7 a1_8 a1_9 : Int) (a2 a3 : Int) {n : Nat} (hn : 10 ≤ n) (v0 v1 v2 : Int) (v3 : List Nat) (v4 v5 v6 v7 v8 v9 : Int) (v10 v11 w h m : Int) (s : List Nat) (a b c d e f : Int) (k1 : ltI v11 4 = true) (k2 : inB v11 4 = true)
    (k3 : ∀ a b c d e f g h : Int, cellsB [AV.int .i64 a, AV.int .i64 b, AV.int .i64 c, AV.int .i64 d, AV.int .i64 e, AV.int .i64 f, AV.int .i64 g, AV.int .i64 h] (Int.toNat v11 * 2) (ckRep 2 [CK.int .i64]) = true) :
    L3s_0 a0_0 a0_1 a0_2 x0 c0 k0 a0_4 a0_5 a0_6 a0_7 a0_8 a0_9 a0_10 a0_11 a1_0 a1_1 a1_2 a1_3 a1_4 a1_5 a1_6 a1_7 a1_8 a1_9 a2 a3 (n + 1) v0 v1 v2 v3 v4 v5 v6 v7 v8 v9 v10 v11 w h m s a b c d e f = L3s_0 a0_0 a0_1 a0_2 x0 c0 k0 a0_4 a0_5 a0_6 a0_7 a0_8 a0_9 a0_10 a0_11 a1_0 a1_1 a1_2 a1_3 a1_4 a1_5 a1_6 a1_7 a1_8 a1_9 a2 a3 n v0 v1 v2 v3 v4 v5 v6 v7 v8 v9 v10 (wrapA .i64 (Int.add v11 1)) w h m s a b c d e f := by
  obtain ⟨p1, p2, _⟩ := place w h m s a b c d e f (t3s_349 a2 a3 v11) (t3s_350 a2 a3 v11)
  obtain ⟨q1, q2⟩ := at_eq w h m s a b c d e f (t3s_349 a2 a3 v11) (t3s_350 a2 a3 v11) hn
  have e0 : F8_0 w h m s a b c d e f (t3s_349 a2 a3 v11) (t3s_350 a2 a3 v11) = F9_0 w h m s a b c d e f (t3s_349 a2 a3 v11) (t3s_350 a2 a3 v11) := by unfold F8_0 F9_0; rw [p1]
  have e1 : F8_1 w h m s a b c d e f (t3s_349 a2 a3 v11) (t3s_350 a2 a3 v11) = F9_1 w h m s a b c d e f (t3s_349 a2 a3 v11) (t3s_350 a2 a3 v11) := by unfold F8_1 F9_1; rw [p1]
  have e2 : F8_2 w h m s a b c d e f (t3s_349 a2 a3 v11) (t3s_350 a2 a3 v11) = F9_2 w h m s a b c d e f (t3s_349 a2 a3 v11) (t3s_350 a2 a3 v11) := by unfold F8_2 F9_2; rw [p1]
  have e3 : F8_3 w h m s a b c d e f (t3s_349 a2 a3 v11) (t3s_350 a2 a3 v11) = F9_3 w h m s a b c d e f (t3s_349 a2 a3 v11) (t3s_350 a2 a3 v11) := by unfold F8_3 F9_3; rw [p1]
  have g0 : F10_0 n w h m s a b c d e f (t3s_349 a2 a3 v11) (t3s_350 a2 a3 v11) = F11_0 w h m s a b c d e f (t3s_349 a2 a3 v11) (t3s_350 a2 a3 v11) := by unfold F10_0 F11_0; rw [q1]
  have g1 : F10_1 n w h m s a b c d e f (t3s_349 a2 a3 v11) (t3s_350 a2 a3 v11) = F11_1 w h m s a b c d e f (t3s_349 a2 a3 v11) (t3s_350 a2 a3 v11) := by unfold F10_1 F11_1; rw [q1]
  have g2 : F10_2 n w h m s a b c d e f (t3s_349 a2 a3 v11) (t3s_350 a2 a3 v11) = F11_2 w h m s a b c d e f (t3s_349 a2 a3 v11) (t3s_350 a2 a3 v11) := by unfold F10_2 F11_2; rw [q1]
  have g3 : F10_3 n w h m s a b c d e f (t3s_349 a2 a3 v11) (t3s_350 a2 a3 v11) = F11_3 w h m s a b c d e f (t3s_349 a2 a3 v11) (t3s_350 a2 a3 v11) := by unfold F10_3 F11_3; rw [q1]
  have g4 : F10_4 n w h m s a b c d e f (t3s_349 a2 a3 v11) (t3s_350 a2 a3 v11) = F11_4 w h m s a b c d e f (t3s_349 a2 a3 v11) (t3s_350 a2 a3 v11) := by unfold F10_4 F11_4; rw [q1]
  have g5 : F10_5 n w h m s a b c d e f (t3s_349 a2 a3 v11) (t3s_350 a2 a3 v11) = F11_5 w h m s a b c d e f (t3s_349 a2 a3 v11) (t3s_350 a2 a3 v11) := by unfold F10_5 F11_5; rw [q1]
  have z0 : c3s_361 a2 a3 v11 w h m s a b c d e f = !eqI (F8_0 w h m s a b c d e f (t3s_349 a2 a3 v11) (t3s_350 a2 a3 v11)) (F9_0 w h m s a b c d e f (t3s_349 a2 a3 v11) (t3s_350 a2 a3 v11)) := rfl
  have z1 : c3s_370 a2 a3 v11 w h m s a b c d e f = !eqI (F8_1 w h m s a b c d e f (t3s_349 a2 a3 v11) (t3s_350 a2 a3 v11)) (F9_1 w h m s a b c d e f (t3s_349 a2 a3 v11) (t3s_350 a2 a3 v11)) := rfl
  have z2 : c3s_371 a2 a3 v11 w h m s a b c d e f = (!F8_2 w h m s a b c d e f (t3s_349 a2 a3 v11) (t3s_350 a2 a3 v11) == F9_2 w h m s a b c d e f (t3s_349 a2 a3 v11) (t3s_350 a2 a3 v11)) := rfl
  have z3 : c3s_372 a2 a3 v11 w h m s a b c d e f = !eqI (F8_3 w h m s a b c d e f (t3s_349 a2 a3 v11) (t3s_350 a2 a3 v11)) (F9_3 w h m s a b c d e f (t3s_349 a2 a3 v11) (t3s_350 a2 a3 v11)) := rfl
  have z4 : c3s_373 n a2 a3 v11 w h m s a b c d e f = !andB (eqI (F10_0 n w h m s a b c d e f (t3s_349 a2 a3 v11) (t3s_350 a2 a3 v11)) (F11_0 w h m s a b c d e f (t3s_349 a2 a3 v11) (t3s_350 a2 a3 v11))) (andB (eqI (F10_1 n w h m s a b c d e f (t3s_349 a2 a3 v11) (t3s_350 a2 a3 v11)) (F11_1 w h m s a b c d e f (t3s_349 a2 a3 v11) (t3s_350 a2 a3 v11))) (andB (eqI (F10_2 n w h m s a b c d e f (t3s_349 a2 a3 v11) (t3s_350 a2 a3 v11)) (F11_2 w h m s a b c d e f (t3s_349 a2 a3 v11) (t3s_350 a2 a3 v11))) (andB (eqI (F10_3 n w h m s a b c d e f (t3s_349 a2 a3 v11) (t3s_350 a2 a3 v11)) (F11_3 w h m s a b c d e f (t3s_349 a2 a3 v11) (t3s_350 a2 a3 v11))) true))) := rfl
  have z5 : c3s_374 n a2 a3 v11 w h m s a b c d e f = (!F10_4 n w h m s a b c d e f (t3s_349 a2 a3 v11) (t3s_350 a2 a3 v11) == F11_4 w h m s a b c d e f (t3s_349 a2 a3 v11) (t3s_350 a2 a3 v11)) := rfl
  have z6 : c3s_375 n a2 a3 v11 w h m s a b c d e f = !eqI (F10_5 n w h m s a b c d e f (t3s_349 a2 a3 v11) (t3s_350 a2 a3 v11)) (F11_5 w h m s a b c d e f (t3s_349 a2 a3 v11) (t3s_350 a2 a3 v11)) := rfl
  rw [e0, eqI_same] at z0
  rw [e1, eqI_same] at z1
  rw [e2, nbeq] at z2
  rw [e3, eqI_same] at z3
  rw [g0, g1, g2, g3, eqI_same, eqI_same, eqI_same, eqI_same] at z4
  rw [g4, nbeq] at z5
  rw [g5, eqI_same] at z6
  rw [L3s_0_succ, cT k1, cT k2, cT (k3 _ _ _ _ _ _ _ _), p1, cT p2, cT p2, q1, cT q2, cT q2, cF z0, cF z1, cF z2, cF z3, cF z4, cF z5, cF z6]
theorem four_s (a0_0 a0_1 a0_2 : Int) (x0 : List AV) (c0 k0 : Nat) (a0_4 a0_5 a0_6 a0_7 a0_8 a0_9 a0_10 : Int) (a0_11 : Bool) (a1_0 a1_1 a1_2 : Int) (a1_3 : List Nat) (a1_4 a1_5 a1_6 a1_7 a1_8 a1_9 : Int) (a2 a3 : Int) {n : Nat} (hn : 10 ≤ n) (v0 v1 v2 : Int) (v3 : List Nat) (v4 v5 v6 v7 v8 v9 : Int) (v10 w h m : Int) (s : List Nat) (a b c d e f : Int) :
    L3s_0 a0_0 a0_1 a0_2 x0 c0 k0 a0_4 a0_5 a0_6 a0_7 a0_8 a0_9 a0_10 a0_11 a1_0 a1_1 a1_2 a1_3 a1_4 a1_5 a1_6 a1_7 a1_8 a1_9 a2 a3 (n + 4) v0 v1 v2 v3 v4 v5 v6 v7 v8 v9 v10 0 w h m s a b c d e f = L3s_0 a0_0 a0_1 a0_2 x0 c0 k0 a0_4 a0_5 a0_6 a0_7 a0_8 a0_9 a0_10 a0_11 a1_0 a1_1 a1_2 a1_3 a1_4 a1_5 a1_6 a1_7 a1_8 a1_9 a2 a3 n v0 v1 v2 v3 v4 v5 v6 v7 v8 v9 v10 4 w h m s a b c d e f := by
  have y1 : wrapA .i64 (Int.add 0 1) = 1 := rfl
  have y2 : wrapA .i64 (Int.add 1 1) = 2 := rfl
  have y3 : wrapA .i64 (Int.add 2 1) = 3 := rfl
  have y4 : wrapA .i64 (Int.add 3 1) = 4 := rfl
  rw [step_s a0_0 a0_1 a0_2 x0 c0 k0 a0_4 a0_5 a0_6 a0_7 a0_8 a0_9 a0_10 a0_11 a1_0 a1_1 a1_2 a1_3 a1_4 a1_5 a1_6 a1_7 a1_8 a1_9 a2 a3 (n := n + 3) (by omega) v0 v1 v2 v3 v4 v5 v6 v7 v8 v9 v10 0 w h m s a b c d e f rfl rfl (fun _ _ _ _ _ _ _ _ => rfl), y1,
    step_s a0_0 a0_1 a0_2 x0 c0 k0 a0_4 a0_5 a0_6 a0_7 a0_8 a0_9 a0_10 a0_11 a1_0 a1_1 a1_2 a1_3 a1_4 a1_5 a1_6 a1_7 a1_8 a1_9 a2 a3 (n := n + 2) (by omega) v0 v1 v2 v3 v4 v5 v6 v7 v8 v9 v10 1 w h m s a b c d e f rfl rfl (fun _ _ _ _ _ _ _ _ => rfl), y2,
    step_s a0_0 a0_1 a0_2 x0 c0 k0 a0_4 a0_5 a0_6 a0_7 a0_8 a0_9 a0_10 a0_11 a1_0 a1_1 a1_2 a1_3 a1_4 a1_5 a1_6 a1_7 a1_8 a1_9 a2 a3 (n := n + 1) (by omega) v0 v1 v2 v3 v4 v5 v6 v7 v8 v9 v10 2 w h m s a b c d e f rfl rfl (fun _ _ _ _ _ _ _ _ => rfl), y3,
    step_s a0_0 a0_1 a0_2 x0 c0 k0 a0_4 a0_5 a0_6 a0_7 a0_8 a0_9 a0_10 a0_11 a1_0 a1_1 a1_2 a1_3 a1_4 a1_5 a1_6 a1_7 a1_8 a1_9 a2 a3 (n := n) hn v0 v1 v2 v3 v4 v5 v6 v7 v8 v9 v10 3 w h m s a b c d e f rfl rfl (fun _ _ _ _ _ _ _ _ => rfl), y4]
theorem all_s (a0_0 a0_1 a0_2 : Int) (x0 : List AV) (c0 k0 : Nat) (a0_4 a0_5 a0_6 a0_7 a0_8 a0_9 a0_10 : Int) (a0_11 : Bool) (a1_0 a1_1 a1_2 : Int) (a1_3 : List Nat) (a1_4 a1_5 a1_6 a1_7 a1_8 a1_9 : Int) (a2 a3 : Int) {n : Nat} (hn : 10 ≤ n) (v0 v1 v2 : Int) (v3 : List Nat) (v4 v5 v6 v7 v8 v9 : Int) (w h m : Int) (s : List Nat) (a b c d e f : Int) :
    L3s_0 a0_0 a0_1 a0_2 x0 c0 k0 a0_4 a0_5 a0_6 a0_7 a0_8 a0_9 a0_10 a0_11 a1_0 a1_1 a1_2 a1_3 a1_4 a1_5 a1_6 a1_7 a1_8 a1_9 a2 a3 (n + 1 + 4 + 1 + 4) v0 v1 v2 v3 v4 v5 v6 v7 v8 v9 0 0 w h m s a b c d e f = some true := by
  have y1 : wrapA .i64 (Int.add 0 1) = 1 := rfl
  have y2 : wrapA .i64 (Int.add 1 1) = 2 := rfl
  have k : ∀ (u0 u1 u2 : Int) (u3 : List Nat) (u4 u5 u6 u7 u8 u9 : Int), cellsB [AV.int .i64 v0, AV.int .i64 v1, AV.int .i64 v2, AV.str v3, AV.int .i64 v4, AV.int .i64 v5, AV.int .i64 v6, AV.int .i64 v7, AV.int .i64 v8, AV.int .i64 v9, AV.int .i64 u0, AV.int .i64 u1, AV.int .i64 u2, AV.str u3, AV.int .i64 u4, AV.int .i64 u5, AV.int .i64 u6, AV.int .i64 u7, AV.int .i64 u8, AV.int .i64 u9] (Int.toNat 1 * 10) ([] ++ [CK.int .i64] ++ [CK.int .i64] ++ [CK.int .i64] ++ [CK.str] ++ ([] ++ [CK.int .i64] ++ [CK.int .i64] ++ [CK.int .i64] ++ [CK.int .i64] ++ [CK.int .i64] ++ [CK.int .i64])) = true := fun _ _ _ _ _ _ _ _ _ _ => rfl
  have z : c3s_396 a1_0 a1_1 a1_2 a1_3 a1_4 a1_5 a1_6 a1_7 a1_8 a1_9 v0 v1 v2 v3 v4 v5 v6 v7 v8 v9 0 = false := by unfold c3s_396; rw [f67, eqI_same]; rfl
  rw [four_s a0_0 a0_1 a0_2 x0 c0 k0 a0_4 a0_5 a0_6 a0_7 a0_8 a0_9 a0_10 a0_11 a1_0 a1_1 a1_2 a1_3 a1_4 a1_5 a1_6 a1_7 a1_8 a1_9 a2 a3 (by omega), L3s_0_succ, cF (ltF (by omega : (4 : Int) ≤ 4)), y1, cT (ltT (by omega : (1 : Int) < 2)), cT (show inB 1 2 = true from rfl), cT (k _ _ _ _ _ _ _ _ _ _), cF z,
    four_s a0_0 a0_1 a0_2 x0 c0 k0 a0_4 a0_5 a0_6 a0_7 a0_8 a0_9 a0_10 a0_11 a1_0 a1_1 a1_2 a1_3 a1_4 a1_5 a1_6 a1_7 a1_8 a1_9 a2 a3 (by omega), L3s_0_succ, cF (ltF (by omega : (4 : Int) ≤ 4)), y2, cF (ltF (by omega : (2 : Int) ≤ 2))]

theorem law_ok_s (a0_0 a0_1 a0_2 : Int) (x0 : List AV) (c0 k0 : Nat) (a0_4 a0_5 a0_6 a0_7 a0_8 a0_9 a0_10 : Int) (a0_11 : Bool) (a1_0 a1_1 a1_2 : Int) (a1_3 : List Nat) (a1_4 a1_5 a1_6 a1_7 a1_8 a1_9 : Int) (a2 a3 : Int) (wa0_0 : (Lit.int .u8 a0_0).wf = true) (wa0_1 : (Lit.int .u8 a0_1).wf = true) (wa0_2 : (Lit.int .u8 a0_2).wf = true) (wx : 0 < c0 ∧ c0 ≤ k0 ∧ k0 ≤ maxLen ∧ KOk (kRep c0 [.int .u8]) x0) (wa0_4 : (Lit.int .u8 a0_4).wf = true) (wa0_5 : (Lit.int .i32 a0_5).wf = true) (wa0_6 : (Lit.int .i32 a0_6).wf = true) (wa0_7 : (Lit.int .i32 a0_7).wf = true) (wa0_8 : (Lit.int .i32 a0_8).wf = true) (wa0_9 : (Lit.int .i32 a0_9).wf = true) (wa0_10 : (Lit.int .i32 a0_10).wf = true) (wa1_0 : (Lit.int .i64 a1_0).wf = true) (wa1_1 : (Lit.int .i64 a1_1).wf = true) (wa1_2 : (Lit.int .i64 a1_2).wf = true) (wa1_3 : IsBytes a1_3) (wa1_4 : (Lit.int .i64 a1_4).wf = true) (wa1_5 : (Lit.int .i64 a1_5).wf = true) (wa1_6 : (Lit.int .i64 a1_6).wf = true) (wa1_7 : (Lit.int .i64 a1_7).wf = true) (wa1_8 : (Lit.int .i64 a1_8).wf = true) (wa1_9 : (Lit.int .i64 a1_9).wf = true) (wa2 : (Lit.int .i64 a2).wf = true) (wa3 : (Lit.int .i64 a3).wf = true) : ∃ n : Nat, F3s n a0_0 a0_1 a0_2 x0 c0 k0 a0_4 a0_5 a0_6 a0_7 a0_8 a0_9 a0_10 a0_11 a1_0 a1_1 a1_2 a1_3 a1_4 a1_5 a1_6 a1_7 a1_8 a1_9 a2 a3 = some true := by
  obtain ⟨w, h, m, s, a, b, c, d, e, f, e4, _, _⟩ := pic_s x0 c0 k0 a0_4 a0_5 a0_6 a0_7 a0_8 a0_9 a0_10 a0_11 wx.1 wx.2.2.2 (wf_u8 wa0_0) (wf_u8 wa0_1) (wf_u8 wa0_2)
  refine ⟨1000, ?_⟩
  have z : c3s_338 1000 a0_0 a0_1 a0_2 x0 c0 k0 a0_4 a0_5 a0_6 a0_7 a0_8 a0_9 a0_10 a0_11 = false := by unfold c3s_338; rw [f67, eqI_same]; rfl
  obtain ⟨N, hN, h9⟩ : ∃ N, 1000 = N + 1 + 4 + 1 + 4 ∧ 10 ≤ N := ⟨990, rfl, by omega⟩
  have i4 : (F4s 1000 a0_0 a0_1 a0_2 x0 c0 k0 a0_4 a0_5 a0_6 a0_7 a0_8 a0_9 a0_10 a0_11).isSome = true := by rw [e4]; rfl
  unfold F3s
  rw [cT wx.2.2.2.pure, cT i4, cT f5, cF z]
  generalize hM : (1000 : Nat) = M at *
  subst hN
  exact all_s a0_0 a0_1 a0_2 x0 c0 k0 a0_4 a0_5 a0_6 a0_7 a0_8 a0_9 a0_10 a0_11 a1_0 a1_1 a1_2 a1_3 a1_4 a1_5 a1_6 a1_7 a1_8 a1_9 a2 a3 h9 _ _ _ _ _ _ _ _ _ _ _ _ _ _ _ _ _ _ _ _

theorem step_e (a0_0 a0_1 a0_2 : Int) (a0_4 a0_5 a0_6 a0_7 a0_8 a0_9 a0_10 : Int) (a0_11 : Bool) (a1_0 a1_1 a1_2 : Int) (a1_3 : List Nat) (a1_4 a1_5 a1_6 a1_7 a1_8 a1_9 : Int) (a2 a3 : Int) {n : Nat} (hn : 10 ≤ n) (v10 v11 w h m : Int) (s : List Nat) (a b c d e f : Int) (k1 : ltI v11 4 = true) (k2 : inB v11 4 = true)
    (k3 : ∀ a b c d e f g h : Int, cellsB [AV.int .i64 a, AV.int .i64 b, AV.int .i64 c, AV.int .i64 d, AV.int .i64 e, AV.int .i64 f, AV.int .i64 g, AV.int .i64 h] (Int.toNat v11 * 2) (ckRep 2 [CK.int .i64]) = true) :
    L3e_0 a0_0 a0_1 a0_2 a0_4 a0_5 a0_6 a0_7 a0_8 a0_9 a0_10 a0_11 a1_0 a1_1 a1_2 a1_3 a1_4 a1_5 a1_6 a1_7 a1_8 a1_9 a2 a3 (n + 1) v10 v11 w h m s a b c d e f = L3e_0 a0_0 a0_1 a0_2 a0_4 a0_5 a0_6 a0_7 a0_8 a0_9 a0_10 a0_11 a1_0 a1_1 a1_2 a1_3 a1_4 a1_5 a1_6 a1_7 a1_8 a1_9 a2 a3 n v10 (wrapA .i64 (Int.add v11 1)) w h m s a b c d e f := by
  obtain ⟨p1, p2, _⟩ := place w h m s a b c d e f (t3e_134 a2 a3 v11) (t3e_135 a2 a3 v11)
  obtain ⟨q1, q2⟩ := at_eq w h m s a b c d e f (t3e_134 a2 a3 v11) (t3e_135 a2 a3 v11) hn
  have e0 : F8_0 w h m s a b c d e f (t3e_134 a2 a3 v11) (t3e_135 a2 a3 v11) = F9_0 w h m s a b c d e f (t3e_134 a2 a3 v11) (t3e_135 a2 a3 v11) := by unfold F8_0 F9_0; rw [p1]
  have e1 : F8_1 w h m s a b c d e f (t3e_134 a2 a3 v11) (t3e_135 a2 a3 v11) = F9_1 w h m s a b c d e f (t3e_134 a2 a3 v11) (t3e_135 a2 a3 v11) := by unfold F8_1 F9_1; rw [p1]
  have e2 : F8_2 w h m s a b c d e f (t3e_134 a2 a3 v11) (t3e_135 a2 a3 v11) = F9_2 w h m s a b c d e f (t3e_134 a2 a3 v11) (t3e_135 a2 a3 v11) := by unfold F8_2 F9_2; rw [p1]
  have e3 : F8_3 w h m s a b c d e f (t3e_134 a2 a3 v11) (t3e_135 a2 a3 v11) = F9_3 w h m s a b c d e f (t3e_134 a2 a3 v11) (t3e_135 a2 a3 v11) := by unfold F8_3 F9_3; rw [p1]
  have g0 : F10_0 n w h m s a b c d e f (t3e_134 a2 a3 v11) (t3e_135 a2 a3 v11) = F11_0 w h m s a b c d e f (t3e_134 a2 a3 v11) (t3e_135 a2 a3 v11) := by unfold F10_0 F11_0; rw [q1]
  have g1 : F10_1 n w h m s a b c d e f (t3e_134 a2 a3 v11) (t3e_135 a2 a3 v11) = F11_1 w h m s a b c d e f (t3e_134 a2 a3 v11) (t3e_135 a2 a3 v11) := by unfold F10_1 F11_1; rw [q1]
  have g2 : F10_2 n w h m s a b c d e f (t3e_134 a2 a3 v11) (t3e_135 a2 a3 v11) = F11_2 w h m s a b c d e f (t3e_134 a2 a3 v11) (t3e_135 a2 a3 v11) := by unfold F10_2 F11_2; rw [q1]
  have g3 : F10_3 n w h m s a b c d e f (t3e_134 a2 a3 v11) (t3e_135 a2 a3 v11) = F11_3 w h m s a b c d e f (t3e_134 a2 a3 v11) (t3e_135 a2 a3 v11) := by unfold F10_3 F11_3; rw [q1]
  have g4 : F10_4 n w h m s a b c d e f (t3e_134 a2 a3 v11) (t3e_135 a2 a3 v11) = F11_4 w h m s a b c d e f (t3e_134 a2 a3 v11) (t3e_135 a2 a3 v11) := by unfold F10_4 F11_4; rw [q1]
  have g5 : F10_5 n w h m s a b c d e f (t3e_134 a2 a3 v11) (t3e_135 a2 a3 v11) = F11_5 w h m s a b c d e f (t3e_134 a2 a3 v11) (t3e_135 a2 a3 v11) := by unfold F10_5 F11_5; rw [q1]
  have z0 : c3e_146 a2 a3 v11 w h m s a b c d e f = !eqI (F8_0 w h m s a b c d e f (t3e_134 a2 a3 v11) (t3e_135 a2 a3 v11)) (F9_0 w h m s a b c d e f (t3e_134 a2 a3 v11) (t3e_135 a2 a3 v11)) := rfl
  have z1 : c3e_155 a2 a3 v11 w h m s a b c d e f = !eqI (F8_1 w h m s a b c d e f (t3e_134 a2 a3 v11) (t3e_135 a2 a3 v11)) (F9_1 w h m s a b c d e f (t3e_134 a2 a3 v11) (t3e_135 a2 a3 v11)) := rfl
  have z2 : c3e_156 a2 a3 v11 w h m s a b c d e f = (!F8_2 w h m s a b c d e f (t3e_134 a2 a3 v11) (t3e_135 a2 a3 v11) == F9_2 w h m s a b c d e f (t3e_134 a2 a3 v11) (t3e_135 a2 a3 v11)) := rfl
  have z3 : c3e_157 a2 a3 v11 w h m s a b c d e f = !eqI (F8_3 w h m s a b c d e f (t3e_134 a2 a3 v11) (t3e_135 a2 a3 v11)) (F9_3 w h m s a b c d e f (t3e_134 a2 a3 v11) (t3e_135 a2 a3 v11)) := rfl
  have z4 : c3e_158 n a2 a3 v11 w h m s a b c d e f = !andB (eqI (F10_0 n w h m s a b c d e f (t3e_134 a2 a3 v11) (t3e_135 a2 a3 v11)) (F11_0 w h m s a b c d e f (t3e_134 a2 a3 v11) (t3e_135 a2 a3 v11))) (andB (eqI (F10_1 n w h m s a b c d e f (t3e_134 a2 a3 v11) (t3e_135 a2 a3 v11)) (F11_1 w h m s a b c d e f (t3e_134 a2 a3 v11) (t3e_135 a2 a3 v11))) (andB (eqI (F10_2 n w h m s a b c d e f (t3e_134 a2 a3 v11) (t3e_135 a2 a3 v11)) (F11_2 w h m s a b c d e f (t3e_134 a2 a3 v11) (t3e_135 a2 a3 v11))) (andB (eqI (F10_3 n w h m s a b c d e f (t3e_134 a2 a3 v11) (t3e_135 a2 a3 v11)) (F11_3 w h m s a b c d e f (t3e_134 a2 a3 v11) (t3e_135 a2 a3 v11))) true))) := rfl
  have z5 : c3e_159 n a2 a3 v11 w h m s a b c d e f = (!F10_4 n w h m s a b c d e f (t3e_134 a2 a3 v11) (t3e_135 a2 a3 v11) == F11_4 w h m s a b c d e f (t3e_134 a2 a3 v11) (t3e_135 a2 a3 v11)) := rfl
  have z6 : c3e_160 n a2 a3 v11 w h m s a b c d e f = !eqI (F10_5 n w h m s a b c d e f (t3e_134 a2 a3 v11) (t3e_135 a2 a3 v11)) (F11_5 w h m s a b c d e f (t3e_134 a2 a3 v11) (t3e_135 a2 a3 v11)) := rfl
  rw [e0, eqI_same] at z0
  rw [e1, eqI_same] at z1
  rw [e2, nbeq] at z2
  rw [e3, eqI_same] at z3
  rw [g0, g1, g2, g3, eqI_same, eqI_same, eqI_same, eqI_same] at z4
  rw [g4, nbeq] at z5
  rw [g5, eqI_same] at z6
  rw [L3e_0_succ, cT k1, cT k2, cT (k3 _ _ _ _ _ _ _ _), p1, cT p2, cT p2, q1, cT q2, cT q2, cF z0, cF z1, cF z2, cF z3, cF z4, cF z5, cF z6]
theorem four_e (a0_0 a0_1 a0_2 : Int) (a0_4 a0_5 a0_6 a0_7 a0_8 a0_9 a0_10 : Int) (a0_11 : Bool) (a1_0 a1_1 a1_2 : Int) (a1_3 : List Nat) (a1_4 a1_5 a1_6 a1_7 a1_8 a1_9 : Int) (a2 a3 : Int) {n : Nat} (hn : 10 ≤ n) (v10 w h m : Int) (s : List Nat) (a b c d e f : Int) :
    L3e_0 a0_0 a0_1 a0_2 a0_4 a0_5 a0_6 a0_7 a0_8 a0_9 a0_10 a0_11 a1_0 a1_1 a1_2 a1_3 a1_4 a1_5 a1_6 a1_7 a1_8 a1_9 a2 a3 (n + 4) v10 0 w h m s a b c d e f = L3e_0 a0_0 a0_1 a0_2 a0_4 a0_5 a0_6 a0_7 a0_8 a0_9 a0_10 a0_11 a1_0 a1_1 a1_2 a1_3 a1_4 a1_5 a1_6 a1_7 a1_8 a1_9 a2 a3 n v10 4 w h m s a b c d e f := by
  have y1 : wrapA .i64 (Int.add 0 1) = 1 := rfl
  have y2 : wrapA .i64 (Int.add 1 1) = 2 := rfl
  have y3 : wrapA .i64 (Int.add 2 1) = 3 := rfl
  have y4 : wrapA .i64 (Int.add 3 1) = 4 := rfl
  rw [step_e a0_0 a0_1 a0_2 a0_4 a0_5 a0_6 a0_7 a0_8 a0_9 a0_10 a0_11 a1_0 a1_1 a1_2 a1_3 a1_4 a1_5 a1_6 a1_7 a1_8 a1_9 a2 a3 (n := n + 3) (by omega) v10 0 w h m s a b c d e f rfl rfl (fun _ _ _ _ _ _ _ _ => rfl), y1,
    step_e a0_0 a0_1 a0_2 a0_4 a0_5 a0_6 a0_7 a0_8 a0_9 a0_10 a0_11 a1_0 a1_1 a1_2 a1_3 a1_4 a1_5 a1_6 a1_7 a1_8 a1_9 a2 a3 (n := n + 2) (by omega) v10 1 w h m s a b c d e f rfl rfl (fun _ _ _ _ _ _ _ _ => rfl), y2,
    step_e a0_0 a0_1 a0_2 a0_4 a0_5 a0_6 a0_7 a0_8 a0_9 a0_10 a0_11 a1_0 a1_1 a1_2 a1_3 a1_4 a1_5 a1_6 a1_7 a1_8 a1_9 a2 a3 (n := n + 1) (by omega) v10 2 w h m s a b c d e f rfl rfl (fun _ _ _ _ _ _ _ _ => rfl), y3,
    step_e a0_0 a0_1 a0_2 a0_4 a0_5 a0_6 a0_7 a0_8 a0_9 a0_10 a0_11 a1_0 a1_1 a1_2 a1_3 a1_4 a1_5 a1_6 a1_7 a1_8 a1_9 a2 a3 (n := n) hn v10 3 w h m s a b c d e f rfl rfl (fun _ _ _ _ _ _ _ _ => rfl), y4]
theorem all_e (a0_0 a0_1 a0_2 : Int) (a0_4 a0_5 a0_6 a0_7 a0_8 a0_9 a0_10 : Int) (a0_11 : Bool) (a1_0 a1_1 a1_2 : Int) (a1_3 : List Nat) (a1_4 a1_5 a1_6 a1_7 a1_8 a1_9 : Int) (a2 a3 : Int) {n : Nat} (hn : 10 ≤ n) (w h m : Int) (s : List Nat) (a b c d e f : Int) :
    L3e_0 a0_0 a0_1 a0_2 a0_4 a0_5 a0_6 a0_7 a0_8 a0_9 a0_10 a0_11 a1_0 a1_1 a1_2 a1_3 a1_4 a1_5 a1_6 a1_7 a1_8 a1_9 a2 a3 (n + 1 + 4 + 1 + 4)  0 0 w h m s a b c d e f = some true := by
  have y1 : wrapA .i64 (Int.add 0 1) = 1 := rfl
  have y2 : wrapA .i64 (Int.add 1 1) = 2 := rfl
  have k : ∀ (v0 v1 v2 : Int) (v3 : List Nat) (v4 v5 v6 v7 v8 v9 : Int) (u0 u1 u2 : Int) (u3 : List Nat) (u4 u5 u6 u7 u8 u9 : Int), cellsB [AV.int .i64 v0, AV.int .i64 v1, AV.int .i64 v2, AV.str v3, AV.int .i64 v4, AV.int .i64 v5, AV.int .i64 v6, AV.int .i64 v7, AV.int .i64 v8, AV.int .i64 v9, AV.int .i64 u0, AV.int .i64 u1, AV.int .i64 u2, AV.str u3, AV.int .i64 u4, AV.int .i64 u5, AV.int .i64 u6, AV.int .i64 u7, AV.int .i64 u8, AV.int .i64 u9] (Int.toNat 1 * 10) ([] ++ [CK.int .i64] ++ [CK.int .i64] ++ [CK.int .i64] ++ [CK.str] ++ ([] ++ [CK.int .i64] ++ [CK.int .i64] ++ [CK.int .i64] ++ [CK.int .i64] ++ [CK.int .i64] ++ [CK.int .i64])) = true := fun _ _ _ _ _ _ _ _ _ _ _ _ _ _ _ _ _ _ _ _ => rfl
  have z : c3e_181 a0_0 a0_1 a0_2 a0_4 a0_5 a0_6 a0_7 a0_8 a0_9 a0_10 a0_11 a1_0 a1_1 a1_2 a1_3 a1_4 a1_5 a1_6 a1_7 a1_8 a1_9 0 = false := by unfold c3e_181; rw [f67, eqI_same]; rfl
  rw [four_e a0_0 a0_1 a0_2 a0_4 a0_5 a0_6 a0_7 a0_8 a0_9 a0_10 a0_11 a1_0 a1_1 a1_2 a1_3 a1_4 a1_5 a1_6 a1_7 a1_8 a1_9 a2 a3 (by omega), L3e_0_succ, cF (ltF (by omega : (4 : Int) ≤ 4)), y1, cT (ltT (by omega : (1 : Int) < 2)), cT (show inB 1 2 = true from rfl), cT (k _ _ _ _ _ _ _ _ _ _ _ _ _ _ _ _ _ _ _ _), cF z,
    four_e a0_0 a0_1 a0_2 a0_4 a0_5 a0_6 a0_7 a0_8 a0_9 a0_10 a0_11 a1_0 a1_1 a1_2 a1_3 a1_4 a1_5 a1_6 a1_7 a1_8 a1_9 a2 a3 (by omega), L3e_0_succ, cF (ltF (by omega : (4 : Int) ≤ 4)), y2, cF (ltF (by omega : (2 : Int) ≤ 2))]

theorem law_ok_e (a0_0 a0_1 a0_2 : Int) (a0_4 a0_5 a0_6 a0_7 a0_8 a0_9 a0_10 : Int) (a0_11 : Bool) (a1_0 a1_1 a1_2 : Int) (a1_3 : List Nat) (a1_4 a1_5 a1_6 a1_7 a1_8 a1_9 : Int) (a2 a3 : Int) (wa0_0 : (Lit.int .u8 a0_0).wf = true) (wa0_1 : (Lit.int .u8 a0_1).wf = true) (wa0_2 : (Lit.int .u8 a0_2).wf = true) (wa0_4 : (Lit.int .u8 a0_4).wf = true) (wa0_5 : (Lit.int .i32 a0_5).wf = true) (wa0_6 : (Lit.int .i32 a0_6).wf = true) (wa0_7 : (Lit.int .i32 a0_7).wf = true) (wa0_8 : (Lit.int .i32 a0_8).wf = true) (wa0_9 : (Lit.int .i32 a0_9).wf = true) (wa0_10 : (Lit.int .i32 a0_10).wf = true) (wa1_0 : (Lit.int .i64 a1_0).wf = true) (wa1_1 : (Lit.int .i64 a1_1).wf = true) (wa1_2 : (Lit.int .i64 a1_2).wf = true) (wa1_3 : IsBytes a1_3) (wa1_4 : (Lit.int .i64 a1_4).wf = true) (wa1_5 : (Lit.int .i64 a1_5).wf = true) (wa1_6 : (Lit.int .i64 a1_6).wf = true) (wa1_7 : (Lit.int .i64 a1_7).wf = true) (wa1_8 : (Lit.int .i64 a1_8).wf = true) (wa1_9 : (Lit.int .i64 a1_9).wf = true) (wa2 : (Lit.int .i64 a2).wf = true) (wa3 : (Lit.int .i64 a3).wf = true) : ∃ n : Nat, F3e n a0_0 a0_1 a0_2 a0_4 a0_5 a0_6 a0_7 a0_8 a0_9 a0_10 a0_11 a1_0 a1_1 a1_2 a1_3 a1_4 a1_5 a1_6 a1_7 a1_8 a1_9 a2 a3 = some true := by
  obtain ⟨w, h, m, s, a, b, c, d, e, f, e4, _, _⟩ := pic_e a0_4 a0_5 a0_6 a0_7 a0_8 a0_9 a0_10 a0_11 (wf_u8 wa0_0) (wf_u8 wa0_1) (wf_u8 wa0_2)
  refine ⟨1000, ?_⟩
  have z : c3e_133 a0_0 a0_1 a0_2 a0_4 a0_5 a0_6 a0_7 a0_8 a0_9 a0_10 a0_11 = false := by unfold c3e_133; rw [f67, eqI_same]; rfl
  obtain ⟨N, hN, h9⟩ : ∃ N, 1000 = N + 1 + 4 + 1 + 4 ∧ 10 ≤ N := ⟨990, rfl, by omega⟩
  have i4 : (F4e a0_0 a0_1 a0_2 a0_4 a0_5 a0_6 a0_7 a0_8 a0_9 a0_10 a0_11).isSome = true := by rw [e4]; rfl
  unfold F3e
  rw [cT i4, cT f5, cF z]
  generalize hM : (1000 : Nat) = M at *
  subst hN
  exact all_e a0_0 a0_1 a0_2 a0_4 a0_5 a0_6 a0_7 a0_8 a0_9 a0_10 a0_11 a1_0 a1_1 a1_2 a1_3 a1_4 a1_5 a1_6 a1_7 a1_8 a1_9 a2 a3 h9 _ _ _ _ _ _ _ _ _ _

end

theorem walke {w : World} {E : Nat → Go.Sx.Ent} (hE : Go.Sx.GlobE E) (a0_0 : Int) (a0_1 : Int) (a0_2 : Int) (a0_4 : Int) (a0_5 : Int) (a0_6 : Int) (a0_7 : Int) (a0_8 : Int) (a0_9 : Int) (a0_10 : Int) (a0_11 : Bool) (a1_0 : Int) (a1_1 : Int) (a1_2 : Int) (a1_3 : List Nat) (a1_4 : Int) (a1_5 : Int) (a1_6 : Int) (a1_7 : Int) (a1_8 : Int) (a1_9 : Int) (a2 : Int) (a3 : Int) (wa0_0 : (Lit.int .u8 a0_0).wf = true) (wa0_1 : (Lit.int .u8 a0_1).wf = true) (wa0_2 : (Lit.int .u8 a0_2).wf = true) (wa0_4 : (Lit.int .u8 a0_4).wf = true) (wa0_5 : (Lit.int .i32 a0_5).wf = true) (wa0_6 : (Lit.int .i32 a0_6).wf = true) (wa0_7 : (Lit.int .i32 a0_7).wf = true) (wa0_8 : (Lit.int .i32 a0_8).wf = true) (wa0_9 : (Lit.int .i32 a0_9).wf = true) (wa0_10 : (Lit.int .i32 a0_10).wf = true) (wa1_0 : (Lit.int .i64 a1_0).wf = true) (wa1_1 : (Lit.int .i64 a1_1).wf = true) (wa1_2 : (Lit.int .i64 a1_2).wf = true) (wa1_3 : Go.Sx.IsBytes a1_3) (wa1_4 : (Lit.int .i64 a1_4).wf = true) (wa1_5 : (Lit.int .i64 a1_5).wf = true) (wa1_6 : (Lit.int .i64 a1_6).wf = true) (wa1_7 : (Lit.int .i64 a1_7).wf = true) (wa1_8 : (Lit.int .i64 a1_8).wf = true) (wa1_9 : (Lit.int .i64 a1_9).wf = true) (wa2 : (Lit.int .i64 a2).wf = true) (wa3 : (Lit.int .i64 a3).wf = true) (hL : Go.Sx.LaidAt E w []) {ARGS : List Value} (ha : Go.Sx.RelL (Go.Sx.laidE E) [.agg [.int .u8 a0_0, .int .u8 a0_1, .int .u8 a0_2, .emp, .int .u8 a0_4, .int .i32 a0_5, .int .i32 a0_6, .int .i32 a0_7, .int .i32 a0_8, .int .i32 a0_9, .int .i32 a0_10, .bool a0_11], .agg [.int .i64 a1_0, .int .i64 a1_1, .int .i64 a1_2, .str a1_3, .int .i64 a1_4, .int .i64 a1_5, .int .i64 a1_6, .int .i64 a1_7, .int .i64 a1_8, .int .i64 a1_9], .int .i64 a2, .int .i64 a3] ARGS) :
    Calls Try.prog 3 ARGS.toArray w fun e w' => e = .returned (.bool true) ∧ Below w.heap.size w w' := by
  obtain ⟨n, hn⟩ := law_ok_e a0_0 a0_1 a0_2 a0_4 a0_5 a0_6 a0_7 a0_8 a0_9 a0_10 a0_11 a1_0 a1_1 a1_2 a1_3 a1_4 a1_5 a1_6 a1_7 a1_8 a1_9 a2 a3 wa0_0 wa0_1 wa0_2 wa0_4 wa0_5 wa0_6 wa0_7 wa0_8 wa0_9 wa0_10 wa1_0 wa1_1 wa1_2 wa1_3 wa1_4 wa1_5 wa1_6 wa1_7 wa1_8 wa1_9 wa2 wa3
  exact Go.Sx.call_args_at okayed hE ha Try.func3 body3e_eq (run3e n a0_0 a0_1 a0_2 a0_4 a0_5 a0_6 a0_7 a0_8 a0_9 a0_10 a0_11 a1_0 a1_1 a1_2 a1_3 a1_4 a1_5 a1_6 a1_7 a1_8 a1_9 a2 a3  true hn) hL

theorem walks {w : World} {E : Nat → Go.Sx.Ent} (hE : Go.Sx.GlobE E) (a0_0 : Int) (a0_1 : Int) (a0_2 : Int) (x0 : List Go.Sx.AV) (c0 : Nat) (k0 : Nat) (a0_4 : Int) (a0_5 : Int) (a0_6 : Int) (a0_7 : Int) (a0_8 : Int) (a0_9 : Int) (a0_10 : Int) (a0_11 : Bool) (a1_0 : Int) (a1_1 : Int) (a1_2 : Int) (a1_3 : List Nat) (a1_4 : Int) (a1_5 : Int) (a1_6 : Int) (a1_7 : Int) (a1_8 : Int) (a1_9 : Int) (a2 : Int) (a3 : Int) (wa0_0 : (Lit.int .u8 a0_0).wf = true) (wa0_1 : (Lit.int .u8 a0_1).wf = true) (wa0_2 : (Lit.int .u8 a0_2).wf = true) (wx0 : 0 < c0 ∧ c0 ≤ k0 ∧ k0 ≤ maxLen ∧ Go.Sx.KOk (Go.Sx.kRep c0 [.int .u8]) x0) (wa0_4 : (Lit.int .u8 a0_4).wf = true) (wa0_5 : (Lit.int .i32 a0_5).wf = true) (wa0_6 : (Lit.int .i32 a0_6).wf = true) (wa0_7 : (Lit.int .i32 a0_7).wf = true) (wa0_8 : (Lit.int .i32 a0_8).wf = true) (wa0_9 : (Lit.int .i32 a0_9).wf = true) (wa0_10 : (Lit.int .i32 a0_10).wf = true) (wa1_0 : (Lit.int .i64 a1_0).wf = true) (wa1_1 : (Lit.int .i64 a1_1).wf = true) (wa1_2 : (Lit.int .i64 a1_2).wf = true) (wa1_3 : Go.Sx.IsBytes a1_3) (wa1_4 : (Lit.int .i64 a1_4).wf = true) (wa1_5 : (Lit.int .i64 a1_5).wf = true) (wa1_6 : (Lit.int .i64 a1_6).wf = true) (wa1_7 : (Lit.int .i64 a1_7).wf = true) (wa1_8 : (Lit.int .i64 a1_8).wf = true) (wa1_9 : (Lit.int .i64 a1_9).wf = true) (wa2 : (Lit.int .i64 a2).wf = true) (wa3 : (Lit.int .i64 a3).wf = true) (hL : Go.Sx.LaidAt E w [(0, x0)]) {ARGS : List Value} (ha : Go.Sx.RelL (Go.Sx.laidE E) [.agg [.int .u8 a0_0, .int .u8 a0_1, .int .u8 a0_2, .slc 1048576 0 c0 (.exact k0), .int .u8 a0_4, .int .i32 a0_5, .int .i32 a0_6, .int .i32 a0_7, .int .i32 a0_8, .int .i32 a0_9, .int .i32 a0_10, .bool a0_11], .agg [.int .i64 a1_0, .int .i64 a1_1, .int .i64 a1_2, .str a1_3, .int .i64 a1_4, .int .i64 a1_5, .int .i64 a1_6, .int .i64 a1_7, .int .i64 a1_8, .int .i64 a1_9], .int .i64 a2, .int .i64 a3] ARGS) :
    Calls Try.prog 3 ARGS.toArray w fun e w' => e = .returned (.bool true) ∧ Below w.heap.size w w' := by
  obtain ⟨n, hn⟩ := law_ok_s a0_0 a0_1 a0_2 x0 c0 k0 a0_4 a0_5 a0_6 a0_7 a0_8 a0_9 a0_10 a0_11 a1_0 a1_1 a1_2 a1_3 a1_4 a1_5 a1_6 a1_7 a1_8 a1_9 a2 a3 wa0_0 wa0_1 wa0_2 wx0 wa0_4 wa0_5 wa0_6 wa0_7 wa0_8 wa0_9 wa0_10 wa1_0 wa1_1 wa1_2 wa1_3 wa1_4 wa1_5 wa1_6 wa1_7 wa1_8 wa1_9 wa2 wa3
  exact Go.Sx.call_args_at okayed hE ha Try.func3 body3s_eq (run3s n a0_0 a0_1 a0_2 x0 c0 k0 a0_4 a0_5 a0_6 a0_7 a0_8 a0_9 a0_10 a0_11 a1_0 a1_1 a1_2 a1_3 a1_4 a1_5 a1_6 a1_7 a1_8 a1_9 a2 a3 (wx0.2.2.2.pure) true hn) hL

set_option maxRecDepth 100000 in
theorem lifted (os : Os) (started : os.Started) (H : Type) (enc : TypeId × Value → H) :
    ReturnsInHanded {} Try.checked os 3 .any (Rows.samplePlacesSpec.pre6 enc Try.prog Try.f3 Rows.samplePlacesRow.domain false) (Rows.samplePlacesSpec.post enc Try.prog Try.f3 false true false false) := by
  refine returnsInHanded_of_change (C := Try.checked) own started (by kernel_rfl) Try.func3
    (ChangeSpec.witness6 (enc := enc) (C := Try.checked) false ⟨#[], #[.agg #[.int .u8 0, .int .u8 0, .int .u8 0, .slice none 0 0, .int .u8 0, .int .i32 0, .int .i32 0, .int .i32 0, .int .i32 0, .int .i32 0, .int .i32 0, .bool false], .agg #[.int .i64 0, .int .i64 0, .int .i64 0, .string ⟨#[]⟩, .int .i64 0, .int .i64 0, .int .i64 0, .int .i64 0, .int .i64 0, .int .i64 0], .int .i64 0, .int .i64 0], []⟩ 8 (by kernel_rfl) (by kernel_rfl) (by kernel_rfl) (by kernel_rfl)) ?_
  intro W base args ds gs before hval0 hW hcnd _
  have hval : ∀ (j : Nat) t v, Try.f3.params[j]? = some t → args[j]? = some v → Value.okWide Try.prog W .any base t v := hval0
  have hW' := hW
  obtain ⟨p, q, hA0, hV, rfl, hfz, hnd⟩ := hW
  have hA : DataW.TrodAll enc Try.prog W 0 (fun _ => true) true Try.f3.params.toList args.toList ds p := hA0
  rw [Try.params3] at hA hval
  obtain ⟨v0, vs0, d0, ds0, p0, q0, hargs, rfl, rfl, h0, r0⟩ := trodAll_cons hA
  obtain ⟨v1, vs1, d1, ds1, p1, q1, rfl, rfl, rfl, h1, r1⟩ := trodAll_cons r0
  obtain ⟨v2, vs2, d2, ds2, p2, q2, rfl, rfl, rfl, h2, r2⟩ := trodAll_cons r1
  obtain ⟨v3, vs3, d3, ds3, p3, q3, rfl, rfl, rfl, h3, r3⟩ := trodAll_cons r2
  obtain ⟨rfl, rfl, rfl⟩ := trodAll_nil r3
  obtain rfl : args = #[v0, v1, v2, v3] := by cases args; simp_all
  obtain ⟨rfl, rfl⟩ := trodVars_none hV
  obtain ⟨cs0, k0⟩ := Go.Sx.open_cs (ks := [.int .u8, .int .u8, .int .u8, .sl [.int .u8], .int .u8, .int .i32, .int .i32, .int .i32, .int .i32, .int .i32, .int .i32, .bool]) (by kernel_rfl) h0
  have g0 := k0
  obtain ⟨cs1, k1⟩ := Go.Sx.open_cs (ks := [.int .i64, .int .i64, .int .i64, .str, .int .i64, .int .i64, .int .i64, .int .i64, .int .i64, .int .i64]) (by kernel_rfl) h1
  have g1 := k1
  obtain ⟨cs2, k2⟩ := Go.Sx.open_cs (ks := [.int .i64]) (by kernel_rfl) h2
  have g2 := k2
  obtain ⟨cs3, k3⟩ := Go.Sx.open_cs (ks := [.int .i64]) (by kernel_rfl) h3
  have g3 := k3
  clear hA0
  have done : Calls Try.prog 3 #[v0, v1, v2, v3] W (fun e w' => e = .returned (.bool true) ∧ Below W.heap.size W w') := by
    obtain ⟨_, _, _, _, rfl, _, ⟨a0_0, rfl, wa0_0, rfl⟩, k0⟩ := k0
    obtain ⟨_, _, _, _, rfl, _, ⟨a0_1, rfl, wa0_1, rfl⟩, k0⟩ := k0
    obtain ⟨_, _, _, _, rfl, _, ⟨a0_2, rfl, wa0_2, rfl⟩, k0⟩ := k0
    obtain ⟨_, _, _, _, rfl, _, hS0, k0⟩ := k0
    obtain ⟨_, _, _, _, rfl, _, ⟨a0_4, rfl, wa0_4, rfl⟩, k0⟩ := k0
    obtain ⟨_, _, _, _, rfl, _, ⟨a0_5, rfl, wa0_5, rfl⟩, k0⟩ := k0
    obtain ⟨_, _, _, _, rfl, _, ⟨a0_6, rfl, wa0_6, rfl⟩, k0⟩ := k0
    obtain ⟨_, _, _, _, rfl, _, ⟨a0_7, rfl, wa0_7, rfl⟩, k0⟩ := k0
    obtain ⟨_, _, _, _, rfl, _, ⟨a0_8, rfl, wa0_8, rfl⟩, k0⟩ := k0
    obtain ⟨_, _, _, _, rfl, _, ⟨a0_9, rfl, wa0_9, rfl⟩, k0⟩ := k0
    obtain ⟨_, _, _, _, rfl, _, ⟨a0_10, rfl, wa0_10, rfl⟩, k0⟩ := k0
    obtain ⟨_, _, _, _, rfl, _, ⟨a0_11, rfl, rfl⟩, k0⟩ := k0
    obtain ⟨rfl, _⟩ := k0
    obtain ⟨_, _, _, _, rfl, _, ⟨a1_0, rfl, wa1_0, rfl⟩, k1⟩ := k1
    obtain ⟨_, _, _, _, rfl, _, ⟨a1_1, rfl, wa1_1, rfl⟩, k1⟩ := k1
    obtain ⟨_, _, _, _, rfl, _, ⟨a1_2, rfl, wa1_2, rfl⟩, k1⟩ := k1
    obtain ⟨_, _, _, _, rfl, _, ⟨a1_3, rfl, wa1_3, rfl⟩, k1⟩ := k1
    obtain ⟨_, _, _, _, rfl, _, ⟨a1_4, rfl, wa1_4, rfl⟩, k1⟩ := k1
    obtain ⟨_, _, _, _, rfl, _, ⟨a1_5, rfl, wa1_5, rfl⟩, k1⟩ := k1
    obtain ⟨_, _, _, _, rfl, _, ⟨a1_6, rfl, wa1_6, rfl⟩, k1⟩ := k1
    obtain ⟨_, _, _, _, rfl, _, ⟨a1_7, rfl, wa1_7, rfl⟩, k1⟩ := k1
    obtain ⟨_, _, _, _, rfl, _, ⟨a1_8, rfl, wa1_8, rfl⟩, k1⟩ := k1
    obtain ⟨_, _, _, _, rfl, _, ⟨a1_9, rfl, wa1_9, rfl⟩, k1⟩ := k1
    obtain ⟨rfl, _⟩ := k1
    obtain ⟨_, _, _, _, rfl, _, ⟨a2, rfl, wa2, rfl⟩, k2⟩ := k2
    obtain ⟨rfl, _⟩ := k2
    obtain ⟨_, _, _, _, rfl, _, ⟨a3, rfl, wa3, rfl⟩, k3⟩ := k3
    obtain ⟨rfl, _⟩ := k3
    rcases hS0 with ⟨rfl, _⟩ | ⟨b0, s0, c0, k0', x0, rfl, p0, q0', m0, z0, u0, _⟩
    · skip
      exact walke (Go.Sx.argE_glob _) a0_0 a0_1 a0_2 a0_4 a0_5 a0_6 a0_7 a0_8 a0_9 a0_10 a0_11 a1_0 a1_1 a1_2 (Go.Sx.bytesOf a1_3) a1_4 a1_5 a1_6 a1_7 a1_8 a1_9 a2 a3 wa0_0 wa0_1 wa0_2 wa0_4 wa0_5 wa0_6 wa0_7 wa0_8 wa0_9 wa0_10 wa1_0 wa1_1 wa1_2 (Go.Sx.bytes_ok wa1_3) wa1_4 wa1_5 wa1_6 wa1_7 wa1_8 wa1_9 wa2 wa3 (Go.Sx.laid_nil _ _) (ARGS := [v0, v1, v2, v3]) ⟨_, _, Go.Sx.rel_agg_cs (E := (Go.Sx.argE [])) (n := 0) (.inl ⟨_, Try.underlying26⟩) (hval 0 26 v0 rfl rfl) g0 trivial, ⟨_, _, Go.Sx.rel_agg_cs (E := (Go.Sx.argE [])) (n := 0) (.inl ⟨_, Try.underlying30⟩) (hval 1 30 v1 rfl rfl) g1 trivial, ⟨_, _, Go.Sx.rel_one_cs (E := (Go.Sx.argE [])) (n := 0) (t := 3) (Go.Sx.one_int Try.underlying3 (hval 2 3 v2 rfl rfl)) g2 trivial rfl, ⟨_, _, Go.Sx.rel_one_cs (E := (Go.Sx.argE [])) (n := 0) (t := 3) (Go.Sx.one_int Try.underlying3 (hval 3 3 v3 rfl rfl)) g3 trivial rfl, rfl, rfl⟩, rfl⟩, rfl⟩, rfl⟩
    · skip
      exact walks (Go.Sx.argE_glob _) a0_0 a0_1 a0_2 x0 c0 k0' a0_4 a0_5 a0_6 a0_7 a0_8 a0_9 a0_10 a0_11 a1_0 a1_1 a1_2 (Go.Sx.bytesOf a1_3) a1_4 a1_5 a1_6 a1_7 a1_8 a1_9 a2 a3 wa0_0 wa0_1 wa0_2 ⟨p0, q0', m0, z0⟩ wa0_4 wa0_5 wa0_6 wa0_7 wa0_8 wa0_9 wa0_10 wa1_0 wa1_1 wa1_2 (Go.Sx.bytes_ok wa1_3) wa1_4 wa1_5 wa1_6 wa1_7 wa1_8 wa1_9 wa2 wa3 (Go.Sx.laid_more (E := (Go.Sx.argE [(b0, s0)])) (g := 0) u0 (Go.Sx.laid_nil _ _)) (ARGS := [v0, v1, v2, v3]) ⟨_, _, Go.Sx.rel_agg_cs (E := (Go.Sx.argE [(b0, s0)])) (n := 0) (.inl ⟨_, Try.underlying26⟩) (hval 0 26 v0 rfl rfl) g0 ⟨rfl, trivial⟩, ⟨_, _, Go.Sx.rel_agg_cs (E := (Go.Sx.argE [(b0, s0)])) (n := 1) (.inl ⟨_, Try.underlying30⟩) (hval 1 30 v1 rfl rfl) g1 trivial, ⟨_, _, Go.Sx.rel_one_cs (E := (Go.Sx.argE [(b0, s0)])) (n := 1) (t := 3) (Go.Sx.one_int Try.underlying3 (hval 2 3 v2 rfl rfl)) g2 trivial rfl, ⟨_, _, Go.Sx.rel_one_cs (E := (Go.Sx.argE [(b0, s0)])) (n := 1) (t := 3) (Go.Sx.one_int Try.underlying3 (hval 3 3 v3 rfl rfl)) g3 trivial rfl, rfl, rfl⟩, rfl⟩, rfl⟩, rfl⟩
  refine done.mono fun e W' ⟨he, hg⟩ => ?_
  subst he
  exact ⟨_, rfl, Go.Sx.post_of_below (pv := []) hW' (fun _ _ _ => (trodAll_cons_mk (shut_bool Try.underlying4 _) trodAll_mk0)) (fun sp hsp => (trodAll_cons_mk (Go.Sx.stays_below laidOut (by kernel_rfl) (Nat.le_of_ble_eq_true (by kernel_rfl)) h0 hg (fun p hp => hsp p (by simp [hp]))) (trodAll_cons_mk (Go.Sx.stays_below laidOut (by kernel_rfl) (Nat.le_of_ble_eq_true (by kernel_rfl)) h1 hg (fun p hp => hsp p (by simp [hp]))) (trodAll_cons_mk (Go.Sx.stays_below laidOut (by kernel_rfl) (Nat.le_of_ble_eq_true (by kernel_rfl)) h2 hg (fun p hp => hsp p (by simp [hp]))) (trodAll_cons_mk (Go.Sx.stays_below laidOut (by kernel_rfl) (Nat.le_of_ble_eq_true (by kernel_rfl)) h3 hg (fun p hp => hsp p (by simp [hp]))) trodAll_mk0))))) (fun _ _ => rfl) (by simp)
    hg (ok_one (by kernel_rfl) rfl (okWide_bool_mk Try.underlying4 _))⟩

theorem over : Rows.samplePlacesRow.holds Try.pinned (OpenSpec.ofChange Rows.samplePlacesSpec) :=
  OpenClaim.holds_of_wide 3 Try.f3 rfl rfl rfl rfl rfl rfl rfl ⟨rfl, rfl, rfl, rfl, rfl⟩ rfl rfl rfl rfl rfl (by kernel_rfl) Try.func3 (by kernel_rfl)
    (of_decide_eq_true (by kernel_rfl)) (by unfold Func.isWrapper; first | (rw [if_pos (by decide +kernel)]; kernel_rfl) | (rw [if_neg (by decide +kernel)]; exact ⟨rfl, rfl⟩))
    (fun os started H enc _ => lifted os started H enc)

theorem proved : Rows.SamplePlacesSaid := over
#print axioms proved
end Go.Proofs.Ytifjpmhgknlhmaa.samplePlaces
