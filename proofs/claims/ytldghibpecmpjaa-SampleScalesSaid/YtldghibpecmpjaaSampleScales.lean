/- 'chase/chaselaw28.SampleScales' returns true for every argument, and nothing that was there is changed. The first parts are the texts before: each function of the run as a term. Here: the numbers, and the rest. -/
import Derived.Test.YtldghibpecmpjaaSampleScalesB
namespace Go.Proofs.Ytldghibpecmpjaa.sampleScales
open Go.ChangeShapes Go.WideShapes Go.ChangeAt Go.WideMaps Go.WideElems Go.RowKit
set_option linter.unusedVariables false
section
open Go.Sx
set_option maxRecDepth 1000000

set_option maxRecDepth 100000
theorem cS {α : Type} (b : Bool) (x y : α) : (bif b then some x else some y) = some (bif b then x else y) := by cases b <;> rfl
theorem condP (b x y : Bool) : ((bif b then x else y) = true) = ((b = true ∧ x = true) ∨ (b = false ∧ y = true)) := by cases b <;> simp
theorem condF (b x y : Bool) : ((bif b then x else y) = false) = ((b = true ∧ x = false) ∨ (b = false ∧ y = false)) := by cases b <;> simp
theorem nneg_f (b : Bool) : ((!b) = false) = (b = true) := by cases b <;> simp
theorem andB_t (a b : Bool) : (andB a b = true) = (a = true ∧ b = true) := by cases a <;> simp [andB]
theorem andB_f (a b : Bool) : (andB a b = false) = (a = false ∨ b = false) := by cases a <;> simp [andB]
theorem strNil_t (s : List Nat) : (strEq s [] = true) = (s.length = 0) := by cases s <;> simp [strEq]
theorem strNil_f (s : List Nat) : (strEq s [] = false) = (s.length ≠ 0) := by cases s <;> simp [strEq]
theorem strEq_same (s : List Nat) : strEq s s = true := by simp [strEq]
theorem eqI_same (n : Int) : eqI n n = true := by rw [eqI_t]
theorem cT {α : Type} {b : Bool} {x y : α} (h : b = true) : (bif b then x else y) = x := by rw [h]; rfl
theorem cF {α : Type} {b : Bool} {x y : α} (h : b = false) : (bif b then x else y) = y := by rw [h]; rfl
theorem ltT {x y : Int} (h : x < y) : ltI x y = true := by rw [ltI_t]; exact h
theorem ltF {x y : Int} (h : y ≤ x) : ltI x y = false := by rw [ltI_f]; exact h
theorem eqT {x y : Int} (h : x = y) : eqI x y = true := by rw [eqI_t]; exact h
theorem eqF {x y : Int} (h : x ≠ y) : eqI x y = false := by rw [eqI_f]; exact h
theorem inT {i : Int} {n : Nat} (h1 : 0 ≤ i) (h2 : i.toNat < n) : inB i n = true := by rw [inB_t]; exact ⟨h1, h2⟩
theorem at1 (i : Int) : atI 0 i 1 = i.toNat := by simp [atI]
/-- q is n / d, rounded down -/
def Fl (x y q : Int) : Prop := (0 < y → y * q ≤ x ∧ x < y * q + y) ∧ (y < 0 → x ≤ y * q ∧ y * q + y < x)
theorem f90 {x y : Int} (hx : -1152921504606846976 ≤ x ∧ x ≤ 1152921504606846976) (hy : y ≠ 0) : ∃ q, F90 x y = some q ∧ Fl x y q ∧ (F89 x y = some q) := by
  have e := Int.mul_tdiv_add_tmod x y
  have b : (Int.tdiv x y).natAbs ≤ x.natAbs := by rw [Int.natAbs_tdiv]; exact Nat.div_le_self _ _
  have w0 : wrapA .i64 (Int.tdiv x y) = Int.tdiv x y := wrap64 (by omega) (by omega)
  have w1 : wrapA .i64 (Int.sub (Int.tdiv x y) 1) = Int.tdiv x y - 1 := by rw [sub_int]; exact wrap64 (by omega) (by omega)
  have f89 : ∀ q, F90 x y = some q → F89 x y = some q := fun q h => by unfold F89 F90_0; rw [h]; rfl
  have hr : (0 ≤ x → 0 ≤ Int.tmod x y ∧ Int.tmod x y < y.natAbs) ∧ (x < 0 → Int.tmod x y ≤ 0 ∧ -(y.natAbs : Int) < Int.tmod x y) := by
    refine ⟨fun h => ?_, fun h => ?_⟩
    · rw [Int.tmod_eq_emod_of_nonneg h]
      exact ⟨Int.emod_nonneg _ hy, Int.emod_lt _ hy⟩
    · have k : Int.tmod x y = -(Int.tmod (-x) y) := by rw [Int.neg_tmod]; omega
      rw [k, Int.tmod_eq_emod_of_nonneg (by omega)]
      have h1 := Int.emod_nonneg (-x) hy
      have h2 := Int.emod_lt (-x) hy
      omega
  unfold F90 c90_0 at f89 ⊢
  rw [eqF hy] at f89 ⊢
  by_cases z : Int.tmod x y = 0
  · rw [eqT z, w0] at f89 ⊢
    refine ⟨_, rfl, ⟨fun h => ?_, fun h => ?_⟩, f89 _ rfl⟩ <;> omega
  · rw [eqF z, w0, w1] at f89 ⊢
    by_cases s : x < 0
    · rw [ltT s] at f89 ⊢
      by_cases t : y < 0
      · rw [ltT t] at f89 ⊢
        refine ⟨_, rfl, ⟨fun h => ?_, fun h => ?_⟩, f89 _ rfl⟩
        · omega
        · have := hr.2 s; omega
      · rw [ltF (by omega : (0 : Int) ≤ y)] at f89 ⊢
        have := hr.2 s
        refine ⟨_, rfl, ⟨fun h => ?_, fun h => ?_⟩, f89 _ rfl⟩ <;> (rw [Int.mul_sub]; omega)
    · rw [ltF (by omega : (0 : Int) ≤ x)] at f89 ⊢
      by_cases t : y < 0
      · rw [ltT t] at f89 ⊢
        have := hr.1 (by omega)
        refine ⟨_, rfl, ⟨fun h => ?_, fun h => ?_⟩, f89 _ rfl⟩ <;> (rw [Int.mul_sub]; omega)
      · rw [ltF (by omega : (0 : Int) ≤ y)] at f89 ⊢
        have := hr.1 (by omega)
        refine ⟨_, rfl, ⟨fun h => ?_, fun h => ?_⟩, f89 _ rfl⟩ <;> omega
theorem mul_bd {x y a b : Int} (hx : -a ≤ x ∧ x ≤ a) (hy : -b ≤ y ∧ y ≤ b) : -(a * b) ≤ x * y ∧ x * y ≤ a * b := by
  have h : (x * y).natAbs ≤ a.natAbs * b.natAbs := by rw [Int.natAbs_mul]; exact Nat.mul_le_mul (by omega) (by omega)
  have e : ((a.natAbs * b.natAbs : Nat) : Int) = a * b := by rw [Int.natCast_mul, Int.natAbs_of_nonneg (by omega), Int.natAbs_of_nonneg (by omega)]
  omega
/-- a matrix -/
structure Mx (a b c d e f : Int) : Prop where
  a1 : -16777216 ≤ a ∧ a ≤ 16777216
  b1 : -16777216 ≤ b ∧ b ≤ 16777216
  c1 : -16777216 ≤ c ∧ c ≤ 16777216
  d1 : -16777216 ≤ d ∧ d ≤ 16777216
  e1 : -536870912 ≤ e ∧ e ≤ 536870912
  f1 : -536870912 ≤ f ∧ f ≤ 536870912
structure Pic (w h n : Int) (s : List Nat) : Prop where
  w1 : 1 ≤ w ∧ w ≤ 9
  h1 : 1 ≤ h ∧ h ≤ 9
  n1 : n = 1 ∨ n = 3 ∨ n = 4
  len : (s.length : Int) = w * h * n
theorem f20 {a b c d e f : Int} (M : Mx a b c d e f) : F20_0 a b c d e f = 0 := by
  obtain ⟨⟨a1, a2⟩, ⟨b1, b2⟩, ⟨c1, c2⟩, ⟨d1, d2⟩, ⟨e1, e2⟩, ⟨f1, f2⟩⟩ := M
  unfold F20_0 F20
  rw [ltF a1, ltF a2, ltF b1, ltF b2, ltF c1, ltF c2, ltF d1, ltF d2, ltF e1, ltF e2, ltF f1, ltF f2]; rfl
theorem wh_bd {w h n : Int} (hw : 1 ≤ w ∧ w ≤ 9) (hh : 1 ≤ h ∧ h ≤ 9) (hn : n = 1 ∨ n = 3 ∨ n = 4) : 1 ≤ w * h ∧ w * h ≤ 81 ∧ 1 ≤ w * h * n ∧ w * h * n ≤ 324 := by
  have a : w * h ≤ 9 * 9 := Int.mul_le_mul hw.2 hh.2 (by omega) (by omega)
  have b : 1 * 1 ≤ w * h := Int.mul_le_mul hw.1 hh.1 (by omega) (by omega)
  rcases hn with rfl | rfl | rfl <;> omega
theorem f121 {w h n a b c d e f : Int} {s : List Nat} (P : Pic w h n s) (M : Mx a b c d e f) : F121_0 w h n s a b c d e f = 0 := by
  obtain ⟨⟨w1, w2⟩, ⟨h1, h2⟩, hn, hl⟩ := P
  have hb := wh_bd ⟨w1, w2⟩ ⟨h1, h2⟩ hn
  have e1 : wrapA .i64 (Int.mul w h) = w * h := by rw [mul_int]; exact wrap64 (by omega) (by omega)
  have e2 : wrapA .i64 (Int.mul (w * h) n) = w * h * n := by rw [mul_int]; exact wrap64 (by omega) (by omega)
  have k1 : c121_1 w h n s = false := by unfold c121_1; rw [e1, e2, eqT hl]; rfl
  have k0 : c121_0 w h = false := by
    unfold c121_0 F91a_0 F91a
    rw [ltF w1, ltF (by omega : w ≤ 64), ltF h1, ltF (by omega : h ≤ 64)]; rfl
  have k2 : n = 4 → c121_2 w h n = false := fun q => by
    unfold c121_2 F91a_0 F91a
    rw [ltF w1, ltF (by omega : w ≤ 64), ltF h1, ltF (by omega : h ≤ 64), eqT q]; rfl
  unfold F121_0 F121
  rw [k0, k1, f20 M]
  rcases hn with rfl | rfl | rfl
  · rfl
  · rfl
  · rw [k2 rfl]; rfl
/-- the sample under a pixel -/
structure At (w h a b c d e f x y : Int) (i j : Int) (z : Bool) : Prop where
  none : z = false → i = 0 ∧ j = 0
  flat : a * d - b * c = 0 → z = false
  some : a * d - b * c ≠ 0 → ∃ p q, Fl (d * (65536 * x + 32768 - e) - c * (65536 * y + 32768 - f)) (a * d - b * c) p ∧ Fl (a * (65536 * y + 32768 - f) - b * (65536 * x + 32768 - e)) (a * d - b * c) q ∧
    (z = true ↔ 0 ≤ p ∧ p < w ∧ 0 ≤ q ∧ q < h) ∧ (z = true → i = p ∧ j = q)
/-- the numbers of a sample -/
theorem nums {a b c d e f x y : Int} (M : Mx a b c d e f) (x1 : -1024 ≤ x) (x2 : x < 1024) (y1 : -1024 ≤ y) (y2 : y < 1024) :
    t42_5 c d e f x y = d * (65536 * x + 32768 - e) - c * (65536 * y + 32768 - f) ∧ t42_6 a b e f x y = a * (65536 * y + 32768 - f) - b * (65536 * x + 32768 - e) ∧
    wrapA .i64 (Int.sub (wrapA .i64 (Int.mul a d)) (wrapA .i64 (Int.mul b c))) = a * d - b * c ∧
    (-36028797018963968 ≤ d * (65536 * x + 32768 - e) - c * (65536 * y + 32768 - f) ∧ d * (65536 * x + 32768 - e) - c * (65536 * y + 32768 - f) ≤ 36028797018963968) ∧
    (-36028797018963968 ≤ a * (65536 * y + 32768 - f) - b * (65536 * x + 32768 - e) ∧ a * (65536 * y + 32768 - f) - b * (65536 * x + 32768 - e) ≤ 36028797018963968) ∧
    (-562949953421312 ≤ a * d - b * c ∧ a * d - b * c ≤ 562949953421312) := by
  have m1 := mul_bd M.a1 M.d1
  have m2 := mul_bd M.b1 M.c1
  obtain ⟨e1, e2⟩ := M.e1
  obtain ⟨f1, f2⟩ := M.f1
  have tx : t42_3 e x = 65536 * x + 32768 - e := by
    unfold t42_3
    rw [mul_int, wrap64 (n := 65536 * x) (by omega) (by omega), add_int, wrap64 (n := 65536 * x + 32768) (by omega) (by omega), sub_int]; exact wrap64 (by omega) (by omega)
  have ty : t42_4 f y = 65536 * y + 32768 - f := by
    unfold t42_4
    rw [mul_int, wrap64 (n := 65536 * y) (by omega) (by omega), add_int, wrap64 (n := 65536 * y + 32768) (by omega) (by omega), sub_int]; exact wrap64 (by omega) (by omega)
  have ux : -1073741824 ≤ 65536 * x + 32768 - e ∧ 65536 * x + 32768 - e ≤ 1073741824 := by omega
  have uy : -1073741824 ≤ 65536 * y + 32768 - f ∧ 65536 * y + 32768 - f ≤ 1073741824 := by omega
  have n1 := mul_bd M.d1 ux
  have n2 := mul_bd M.c1 uy
  have n3 := mul_bd M.a1 uy
  have n4 := mul_bd M.b1 ux
  refine ⟨?_, ?_, ?_, by omega, by omega, by omega⟩
  · unfold t42_5
    rw [tx, ty, mul_int, mul_int, wrap64 (n := d * (65536 * x + 32768 - e)) (by omega) (by omega), wrap64 (n := c * (65536 * y + 32768 - f)) (by omega) (by omega), sub_int]; exact wrap64 (by omega) (by omega)
  · unfold t42_6
    rw [tx, ty, mul_int, mul_int, wrap64 (n := a * (65536 * y + 32768 - f)) (by omega) (by omega), wrap64 (n := b * (65536 * x + 32768 - e)) (by omega) (by omega), sub_int]; exact wrap64 (by omega) (by omega)
  · rw [mul_int, mul_int, wrap64 (n := a * d) (by omega) (by omega), wrap64 (n := b * c) (by omega) (by omega), sub_int]; exact wrap64 (by omega) (by omega)
/-- rounded down, and where it lies -/
theorem fl_in {X D p w : Int} (hD : 0 < D) (h1 : D * p ≤ X) (h2 : X < D * p + D) : (0 ≤ p ↔ 0 ≤ X) ∧ (p < w ↔ X < w * D) := by
  refine ⟨⟨fun h => ?_, fun h => ?_⟩, ⟨fun h => ?_, fun h => ?_⟩⟩
  · have := Int.mul_nonneg (by omega : 0 ≤ D) h; omega
  · by_cases q : 0 ≤ p
    · exact q
    · have k : D * (p + 1) ≤ D * 0 := Int.mul_le_mul_of_nonneg_left (by omega) (by omega)
      rw [Int.mul_add] at k; omega
  · have k : D * (p + 1) ≤ D * w := Int.mul_le_mul_of_nonneg_left (by omega) (by omega)
    rw [Int.mul_add] at k; rw [Int.mul_comm w D]; omega
  · by_cases q : p < w
    · exact q
    · have k : D * w ≤ D * p := Int.mul_le_mul_of_nonneg_left (by omega) (by omega)
      rw [Int.mul_comm w D] at h; omega
theorem f42 {w h n a b c d e f x y : Int} {s : List Nat} (P : Pic w h n s) (M : Mx a b c d e f) (x1 : -1024 ≤ x) (x2 : x < 1024) (y1 : -1024 ≤ y) (y2 : y < 1024) :
    ∃ i j z, F42 w h n s a b c d e f x y = some (i, j, z, 0) ∧ At w h a b c d e f x y i j z := by
  have m1 := mul_bd M.a1 M.d1
  have m2 := mul_bd M.b1 M.c1
  obtain ⟨e1, e2⟩ := M.e1
  obtain ⟨f1, f2⟩ := M.f1
  have tx : t42_3 e x = 65536 * x + 32768 - e := by
    unfold t42_3
    rw [mul_int, wrap64 (n := 65536 * x) (by omega) (by omega), add_int, wrap64 (n := 65536 * x + 32768) (by omega) (by omega), sub_int]; exact wrap64 (by omega) (by omega)
  have ty : t42_4 f y = 65536 * y + 32768 - f := by
    unfold t42_4
    rw [mul_int, wrap64 (n := 65536 * y) (by omega) (by omega), add_int, wrap64 (n := 65536 * y + 32768) (by omega) (by omega), sub_int]; exact wrap64 (by omega) (by omega)
  have ux : -1073741824 ≤ 65536 * x + 32768 - e ∧ 65536 * x + 32768 - e ≤ 1073741824 := by omega
  have uy : -1073741824 ≤ 65536 * y + 32768 - f ∧ 65536 * y + 32768 - f ≤ 1073741824 := by omega
  have ed : wrapA .i64 (Int.sub (wrapA .i64 (Int.mul a d)) (wrapA .i64 (Int.mul b c))) = a * d - b * c := by
    rw [mul_int, mul_int, wrap64 (n := a * d) (by omega) (by omega), wrap64 (n := b * c) (by omega) (by omega), sub_int]; exact wrap64 (by omega) (by omega)
  have n1 := mul_bd M.d1 ux
  have n2 := mul_bd M.c1 uy
  have n3 := mul_bd M.a1 uy
  have n4 := mul_bd M.b1 ux
  have e5 : t42_5 c d e f x y = d * (65536 * x + 32768 - e) - c * (65536 * y + 32768 - f) := by
    unfold t42_5
    rw [tx, ty, mul_int, mul_int, wrap64 (n := d * (65536 * x + 32768 - e)) (by omega) (by omega), wrap64 (n := c * (65536 * y + 32768 - f)) (by omega) (by omega), sub_int]; exact wrap64 (by omega) (by omega)
  have e6 : t42_6 a b e f x y = a * (65536 * y + 32768 - f) - b * (65536 * x + 32768 - e) := by
    unfold t42_6
    rw [tx, ty, mul_int, mul_int, wrap64 (n := a * (65536 * y + 32768 - f)) (by omega) (by omega), wrap64 (n := b * (65536 * x + 32768 - e)) (by omega) (by omega), sub_int]; exact wrap64 (by omega) (by omega)
  have k0 : c42_0 w h n s a b c d e f = false := by unfold c42_0; rw [f121 P M]; rfl
  have k1 : c42_1 x y = false := by
    unfold c42_1 F91b_0 F91b
    rw [ltF x1, ltT x2, ltF y1, ltT y2]; rfl
  unfold F42
  rw [k0, k1, ed, e5, e6]
  generalize hX : d * (65536 * x + 32768 - e) - c * (65536 * y + 32768 - f) = X at *
  generalize hY : a * (65536 * y + 32768 - f) - b * (65536 * x + 32768 - e) = Y at *
  by_cases z : a * d - b * c = 0
  · have k2 : c42_2 a b c d = true := by unfold c42_2; rw [ed]; exact eqT z
    rw [k2]
    exact ⟨0, 0, false, rfl, fun _ => ⟨rfl, rfl⟩, fun _ => rfl, fun q => absurd z q⟩
  · have k2 : c42_2 a b c d = false := by unfold c42_2; rw [ed]; exact eqF z
    obtain ⟨p, p1, p2, p3⟩ := f90 (x := X) (by omega) z
    obtain ⟨q, q1, q2, q3⟩ := f90 (x := Y) (by omega) z
    have p4 : F89_0 X (a * d - b * c) = p := by unfold F89_0; rw [p3]; rfl
    have q4 : F89_0 Y (a * d - b * c) = q := by unfold F89_0; rw [q3]; rfl
    have g7 : c42_7 a b c d e f x y = !ltI p 0 := by unfold c42_7; rw [ed, e5, p4]
    have g8 : c42_8 w a b c d e f x y = ltI p w := by unfold c42_8; rw [ed, e5, p4]
    have g9 : c42_9 a b c d e f x y = !ltI q 0 := by unfold c42_9; rw [ed, e6, q4]
    have g10 : c42_10 h a b c d e f x y = ltI q h := by unfold c42_10; rw [ed, e6, q4]
    have g11 : t42_11 a b c d e f x y = p := by unfold t42_11; rw [ed, e5, p4]
    have g12 : t42_12 a b c d e f x y = q := by unfold t42_12; rw [ed, e6, q4]
    rw [k2, p3, q3, g11, g12]
    by_cases v : 0 ≤ p ∧ p < w ∧ 0 ≤ q ∧ q < h
    · obtain ⟨v1, v2, v3, v4⟩ := v
      have k13 : c42_13 w h a b c d e f x y = false := by unfold c42_13 F91b_0 F91b; rw [g7, g8, g9, g10, ltF v1, ltT v2, ltF v3, ltT v4]; rfl
      rw [k13]
      exact ⟨p, q, true, rfl, (fun q => by cases q), fun q => absurd q z, fun _ => ⟨p, q, by rw [hX]; exact p2, by rw [hY]; exact q2, ⟨fun _ => ⟨v1, v2, v3, v4⟩, fun _ => rfl⟩, fun _ => ⟨rfl, rfl⟩⟩⟩
    · have k13 : c42_13 w h a b c d e f x y = true := by
        unfold c42_13 F91b_0 F91b; rw [g7, g8, g9, g10]
        by_cases v1 : 0 ≤ p
        · rw [ltF v1]
          by_cases v2 : p < w
          · rw [ltT v2]
            by_cases v3 : 0 ≤ q
            · rw [ltF v3, ltF (by omega : h ≤ q)]; rfl
            · rw [ltT (by omega : q < 0)]; rfl
          · rw [ltF (by omega : w ≤ p)]; rfl
        · rw [ltT (by omega : p < 0)]; rfl
      rw [k13]
      exact ⟨0, 0, false, rfl, fun _ => ⟨rfl, rfl⟩, fun _ => rfl, fun _ => ⟨p, q, by rw [hX]; exact p2, by rw [hY]; exact q2, ⟨(fun q => by cases q), fun u => absurd u v⟩, (fun q => by cases q)⟩⟩
theorem wf_i8 {n : Int} (h : (Lit.int .i8 n).wf = true) : -128 ≤ n ∧ n ≤ 127 := wf_bounds h

theorem w64 {n : Int} (h1 : 0 ≤ n) (h2 : n ≤ 1000000) : wrapA .i64 n = n := wrap64 (by omega) (by omega)
theorem side {a : Int} (h1 : 0 ≤ a) (h2 : a ≤ 255) : ∃ W, wrapA .i64 (Int.add 1 (wrapA .i64 (Int.tmod a 9))) = W ∧ 1 ≤ W ∧ W ≤ 9 := by
  have e : Int.tmod a 9 = a % 9 := Int.tmod_eq_emod_of_nonneg h1
  have := Int.emod_nonneg a (show (9 : Int) ≠ 0 by omega)
  have := Int.emod_lt_of_pos a (show (0 : Int) < 9 by omega)
  refine ⟨_, rfl, ?_⟩
  rw [e, w64 (n := a % 9) (by omega) (by omega), add_int, w64 (by omega) (by omega)]
  omega
theorem comp {a : Int} (h1 : 0 ≤ a) (h2 : a ≤ 255) : ∃ m, inB (Int.tmod a 3) 3 = true ∧ cellB [AV.int .i64 1, AV.int .i64 3, AV.int .i64 4] (atI 0 (Int.tmod a 3) 1) (CK.int .i64) = true ∧ intC [AV.int .i64 1, AV.int .i64 3, AV.int .i64 4] (atI 0 (Int.tmod a 3) 1) = m ∧ (m = 1 ∨ m = 3 ∨ m = 4) := by
  have e : Int.tmod a 3 = a % 3 := Int.tmod_eq_emod_of_nonneg h1
  have k : a % 3 = 0 ∨ a % 3 = 1 ∨ a % 3 = 2 := by omega
  rw [e]
  rcases k with k | k | k <;> rw [k]
  · exact ⟨1, by kernel_rfl, by kernel_rfl, by kernel_rfl, .inl rfl⟩
  · exact ⟨3, by kernel_rfl, by kernel_rfl, by kernel_rfl, .inr (.inl rfl)⟩
  · exact ⟨4, by kernel_rfl, by kernel_rfl, by kernel_rfl, .inr (.inr rfl)⟩
theorem tb1 (x : Int) : -16777216 ≤ Int.tmod x 16777217 ∧ Int.tmod x 16777217 ≤ 16777216 := by have := tmod_bd x (c := 16777217) (by omega); omega
theorem tb2 (x : Int) : -16777216 ≤ Int.tmod x 300000 ∧ Int.tmod x 300000 ≤ 16777216 := by have := tmod_bd x (c := 300000) (by omega); omega
theorem tb3 (x : Int) : -536870912 ≤ Int.tmod x 536870913 ∧ Int.tmod x 536870913 ≤ 536870912 := by have := tmod_bd x (c := 536870913) (by omega); omega
theorem tb4 (x : Int) : -536870912 ≤ Int.tmod x 9000000 ∧ Int.tmod x 9000000 ≤ 536870912 := by have := tmod_bd x (c := 9000000) (by omega); omega
theorem tb5 (x : Int) : -16777216 ≤ Int.tmod x 400000 ∧ Int.tmod x 400000 ≤ 16777216 := by have := tmod_bd x (c := 400000) (by omega); omega
theorem tb6 (x : Int) : -536870912 ≤ Int.tmod x 3000000 ∧ Int.tmod x 3000000 ≤ 536870912 := by have := tmod_bd x (c := 3000000) (by omega); omega
theorem mx62 (k a b c d e f : Int) : Mx (F62_0 k a b c d e f) (F62_1 k a b c d e f) (F62_2 k a b c d e f) (F62_3 k a b c d e f) (F62_4 k a b c d e f) (F62_5 k a b c d e f) := by
  have z1 : (-16777216 : Int) ≤ 0 ∧ (0 : Int) ≤ 16777216 := by omega
  unfold F62_0 F62_1 F62_2 F62_3 F62_4 F62_5 F62
  cases eqI (Int.tmod k 4) 0
  · cases eqI (Int.tmod k 4) 1
    · cases eqI (Int.tmod k 4) 2
      · exact ⟨z1, tb2 _, tb2 _, z1, tb4 _, tb4 _⟩
      · exact ⟨tb2 _, z1, z1, tb2 _, tb4 _, tb4 _⟩
    · exact ⟨tb2 _, tb2 _, tb2 _, tb2 _, tb4 _, tb4 _⟩
  · exact ⟨tb1 _, tb1 _, tb1 _, tb1 _, tb3 _, tb3 _⟩
theorem mxN (a b c d e f : Int) : Mx (Int.tmod a 400000) (Int.tmod b 400000) (Int.tmod c 400000) (Int.tmod d 400000) (Int.tmod e 3000000) (Int.tmod f 3000000) := ⟨tb5 _, tb5 _, tb5 _, tb5 _, tb6 _, tb6 _⟩
/-- octets as cells -/
def AllU (l : List AV) (m : Nat) : Prop := l.length = m ∧ ∀ c, c ∈ l → ∃ b : Int, c = .int .u8 b
theorem allU_pure : ∀ {l : List AV}, (∀ c, c ∈ l → ∃ b : Int, c = .int .u8 b) → pureAVs l = true
  | [], _ => rfl
  | c :: l, h => by
    obtain ⟨b, rfl⟩ := h c (by simp)
    simp only [pureAVs, pureAV, Bool.true_and]
    exact allU_pure (fun c hc => h c (by simp [hc]))
theorem allU_str {l : List AV} {m : Nat} (h : AllU l m) : strOk l 0 m = true ∧ (Go.Sx.strOf l 0 m).length = m := by
  obtain ⟨h1, h2⟩ := h
  have ht : (l.drop 0).take m = l := by rw [List.drop_zero, List.take_of_length_le (by omega)]
  refine ⟨?_, ?_⟩
  · simp only [strOk, ht, Bool.and_eq_true]
    refine ⟨Nat.ble_eq_true_of_le (by omega), ?_⟩
    rw [List.all_eq_true]; intro c hc
    obtain ⟨b, rfl⟩ := h2 c hc; rfl
  · simp only [Go.Sx.strOf, ht, List.length_map]; exact h1
theorem allU_rep : ∀ (m : Nat), AllU (repeatL m [.int .u8 0]) m
  | 0 => ⟨rfl, fun c hc => by cases hc⟩
  | m + 1 => by
    obtain ⟨h1, h2⟩ := allU_rep m
    refine ⟨by simp [repeatL, h1], fun c hc => ?_⟩
    simp only [repeatL, List.cons_append, List.nil_append, List.mem_cons] at hc
    rcases hc with rfl | hc
    · exact ⟨0, rfl⟩
    · exact h2 c hc
theorem allU_put {l : List AV} {m i : Nat} {b : Int} (h : AllU l m) (hi : i < m) : putOk l i 1 = true ∧ AllU (putL l i [.int .u8 b]) m := by
  obtain ⟨k1, k2⟩ := h
  refine ⟨Nat.ble_eq_true_of_le (by omega), ?_, fun c hc => ?_⟩
  · simp only [putL, List.length_append, List.length_take, List.length_drop, List.length_cons, List.length_nil]; omega
  · simp only [putL, List.mem_append, List.mem_cons, List.not_mem_nil, or_false] at hc
    rcases hc with (hc | rfl) | hc
    · exact k2 c (List.mem_of_mem_take hc)
    · exact ⟨b, rfl⟩
    · exact k2 c (List.mem_of_mem_drop hc)
theorem u8_at : ∀ {m : Nat} {x : List AV}, KOk (kRep m [.int .u8]) x → ∀ i, i < m → ∃ b : Int, nth x i = some (.int .u8 b) ∧ 0 ≤ b ∧ b ≤ 255
  | 0, _, _, i, hi => by omega
  | m + 1, _, h, i, hi => by
    obtain ⟨b, r, rfl, hb, h⟩ := h
    cases i with
    | zero => exact ⟨b, rfl, wf_u8 hb⟩
    | succ i => exact u8_at h i (by omega)
theorem u8_cell {m : Nat} {x : List AV} (h : KOk (kRep m [.int .u8]) x) {i : Nat} (hi : i < m) : cellB x i (.int .u8) = true := by
  obtain ⟨b, h1, h2, h3⟩ := u8_at h i hi
  simp only [cellB, isIntC, h1]
  simp
theorem fill (a0_0 a0_1 a0_2 : Int) (x0 : List AV) (c0 k0 : Nat) (a0_4 a0_5 a0_6 a0_7 a0_8 a0_9 a0_10 : Int) (a0_11 : Bool) (hc : 0 < c0) (hx : KOk (kRep c0 [.int .u8]) x0) {N : Nat} (hN : N ≤ 324) (w h m a b c d e f : Int) : ∀ (n : Nat) (v : Int) (l : List AV), 0 ≤ v → v ≤ N → AllU l N → (N : Int) - v < n →
    ∃ s, L41s_0 a0_0 a0_1 a0_2 x0 c0 k0 a0_4 a0_5 a0_6 a0_7 a0_8 a0_9 a0_10 a0_11 n N v w h m a b c d e f l = some (w, h, m, s, a, b, c, d, e, f) ∧ s.length = N := by
  intro n
  induction n with
  | zero => intro v l v0 vN q hn; omega
  | succ n ih =>
    intro v l v0 vN q hn
    rw [L41s_0_succ]
    by_cases z : v < N
    · have e1 : Int.tmod v (↑c0 : Int) = v % c0 := Int.tmod_eq_emod_of_nonneg v0
      have m0 := Int.emod_nonneg v (show (c0 : Int) ≠ 0 by omega)
      have m1 := Int.emod_lt_of_pos v (show (0 : Int) < c0 by omega)
      obtain ⟨r1, r2⟩ := allU_put (b := t41s_30 x0 c0 v) q (i := v.toNat) (by omega)
      have el : l41s_31 x0 c0 v l = putL l v.toNat [.int .u8 (t41s_30 x0 c0 v)] := by unfold l41s_31; rw [at1]
      rw [el, e1, at1, at1, ltT z, ltT (by omega : (0 : Int) < c0), eqF (by omega : (c0 : Int) ≠ 0), inT m0 (by omega), u8_cell hx (by omega), inT v0 (by omega), r1, allU_pure r2.2, add_int, w64 (by omega) (by omega)]
      exact ih (v + 1) _ (by omega) (by omega) r2 (by omega)
    · obtain ⟨k1, k2⟩ := allU_str q
      rw [ltF (by omega : (N : Int) ≤ v), k1]
      exact ⟨_, rfl, k2⟩

theorem pic_s {a0_0 a0_1 a0_2 : Int} (x0 : List AV) (c0 k0 : Nat) (a0_4 a0_5 a0_6 a0_7 a0_8 a0_9 a0_10 : Int) (a0_11 : Bool) (hc : 0 < c0) (hx : KOk (kRep c0 [.int .u8]) x0) (h0 : 0 ≤ a0_0 ∧ a0_0 ≤ 255) (h1 : 0 ≤ a0_1 ∧ a0_1 ≤ 255) (h2 : 0 ≤ a0_2 ∧ a0_2 ≤ 255) : ∃ w h m s a b c d e f, F41s 1000 a0_0 a0_1 a0_2 x0 c0 k0 a0_4 a0_5 a0_6 a0_7 a0_8 a0_9 a0_10 a0_11 = some (w, h, m, s, a, b, c, d, e, f) ∧ Pic w h m s ∧ Mx a b c d e f := by
  obtain ⟨w, ew, w1, w2⟩ := side h0.1 h0.2
  obtain ⟨h, eh, g1, g2⟩ := side h1.1 h1.2
  obtain ⟨m, em1, em2, em, m1⟩ := comp h2.1 h2.2
  have hb := wh_bd ⟨w1, w2⟩ ⟨g1, g2⟩ m1
  have t0 : t41s_26 a0_0 = w := ew
  have t1 : t41s_27 a0_1 = h := eh
  have t2 : t41s_28 a0_2 = m := em
  have e1 : wrapA .i64 (Int.mul w h) = w * h := by rw [mul_int]; exact w64 (by omega) (by omega)
  have e2 : wrapA .i64 (Int.mul (w * h) m) = w * h * m := by rw [mul_int]; exact w64 (by omega) (by omega)
  have hT : ((w * h * m).toNat : Int) = w * h * m := by omega
  have el : l41s_29 a0_0 a0_1 a0_2 = repeatL (w * h * m).toNat [.int .u8 0] := by unfold l41s_29; rw [t0, t1, t2, e1, e2]
  have M := mx62 a0_4 a0_5 a0_6 a0_7 a0_8 a0_9 a0_10
  have key : ∀ a b c d e f, ∃ s, L41s_0 a0_0 a0_1 a0_2 x0 c0 k0 a0_4 a0_5 a0_6 a0_7 a0_8 a0_9 a0_10 a0_11 1000 (w * h * m).toNat 0 w h m a b c d e f (repeatL (w * h * m).toNat [.int .u8 0]) = some (w, h, m, s, a, b, c, d, e, f) ∧ s.length = (w * h * m).toNat := fun a b c d e f =>
    fill a0_0 a0_1 a0_2 x0 c0 k0 a0_4 a0_5 a0_6 a0_7 a0_8 a0_9 a0_10 a0_11 hc hx (by omega) w h m a b c d e f 1000 0 _ (by omega) (by omega) (allU_rep _) (by omega)
  unfold F41s
  rw [em1, em2, t0, t1, t2, e1, e2, el, ltF (by omega : (0 : Int) ≤ w * h * m), ltF (by omega : w * h * m ≤ w * h * m), ltF (by omega : w * h * m ≤ 1000000), allU_pure (allU_rep _).2]
  cases a0_11
  · obtain ⟨s, k1, k2⟩ := key _ _ _ _ _ _
    exact ⟨_, _, _, _, _, _, _, _, _, _, k1, ⟨⟨w1, w2⟩, ⟨g1, g2⟩, m1, by omega⟩, M⟩
  · obtain ⟨s, k1, k2⟩ := key _ _ _ _ _ _
    exact ⟨_, _, _, _, _, _, _, _, _, _, k1, ⟨⟨w1, w2⟩, ⟨g1, g2⟩, m1, by omega⟩, mxN _ _ _ _ _ _⟩

theorem pic_e {a0_0 a0_1 a0_2 : Int} (a0_4 a0_5 a0_6 a0_7 a0_8 a0_9 a0_10 : Int) (a0_11 : Bool) (h0 : 0 ≤ a0_0 ∧ a0_0 ≤ 255) (h1 : 0 ≤ a0_1 ∧ a0_1 ≤ 255) (h2 : 0 ≤ a0_2 ∧ a0_2 ≤ 255) : ∃ w h m s a b c d e f, F41e a0_0 a0_1 a0_2 a0_4 a0_5 a0_6 a0_7 a0_8 a0_9 a0_10 a0_11 = some (w, h, m, s, a, b, c, d, e, f) ∧ Pic w h m s ∧ Mx a b c d e f := by
  obtain ⟨w, ew, w1, w2⟩ := side h0.1 h0.2
  obtain ⟨h, eh, g1, g2⟩ := side h1.1 h1.2
  obtain ⟨m, em1, em2, em, m1⟩ := comp h2.1 h2.2
  have hb := wh_bd ⟨w1, w2⟩ ⟨g1, g2⟩ m1
  have t0 : t41e_0 a0_0 = w := ew
  have t1 : t41e_1 a0_1 = h := eh
  have t2 : t41e_2 a0_2 = m := em
  have e1 : wrapA .i64 (Int.mul w h) = w * h := by rw [mul_int]; exact w64 (by omega) (by omega)
  have e2 : wrapA .i64 (Int.mul (w * h) m) = w * h * m := by rw [mul_int]; exact w64 (by omega) (by omega)
  have hT : ((w * h * m).toNat : Int) = w * h * m := by omega
  have el : l41e_4 a0_0 a0_1 a0_2 = repeatL (w * h * m).toNat [.int .u8 0] := by unfold l41e_4; rw [t0, t1, t2, e1, e2]
  have M := mx62 a0_4 a0_5 a0_6 a0_7 a0_8 a0_9 a0_10
  obtain ⟨k1, k2⟩ := allU_str (allU_rep (w * h * m).toNat)
  have eu : u41e_5 a0_0 a0_1 a0_2 = strOf (repeatL (w * h * m).toNat [.int .u8 0]) 0 (w * h * m).toNat := by unfold u41e_5; rw [el, t0, t1, t2, e1, e2]
  unfold F41e
  rw [em1, em2, t0, t1, t2, e1, e2, el, eu, ltF (by omega : (0 : Int) ≤ w * h * m), ltF (by omega : w * h * m ≤ w * h * m), ltF (by omega : w * h * m ≤ 1000000), k1]
  cases a0_11 <;> cases c41e_3 a0_0 a0_1 a0_2
  · exact ⟨_, _, _, _, _, _, _, _, _, _, rfl, ⟨⟨w1, w2⟩, ⟨g1, g2⟩, m1, by rw [k2]; omega⟩, M⟩
  · exact ⟨_, _, _, _, _, _, _, _, _, _, rfl, ⟨⟨w1, w2⟩, ⟨g1, g2⟩, m1, by rw [k2]; omega⟩, M⟩
  · exact ⟨_, _, _, _, _, _, _, _, _, _, rfl, ⟨⟨w1, w2⟩, ⟨g1, g2⟩, m1, by rw [k2]; omega⟩, mxN _ _ _ _ _ _⟩
  · exact ⟨_, _, _, _, _, _, _, _, _, _, rfl, ⟨⟨w1, w2⟩, ⟨g1, g2⟩, m1, by rw [k2]; omega⟩, mxN _ _ _ _ _ _⟩
theorem s44_1 (m x : Nat) : (F44 (m + 10) [x]).isSome = true ∧ F44_4 (m + 10) [x] = 0 := ⟨by kernel_rfl, by kernel_rfl⟩
theorem s44_3 (m x y z : Nat) : (F44 (m + 10) [x, y, z]).isSome = true ∧ F44_4 (m + 10) [x, y, z] = 0 := ⟨by kernel_rfl, by kernel_rfl⟩
theorem s44_4 (m x y z u : Nat) : (F44 (m + 10) [x, y, z, u]).isSome = true ∧ F44_4 (m + 10) [x, y, z, u] = 0 := ⟨by kernel_rfl, by kernel_rfl⟩
theorem s44 {n : Nat} (hn : 10 ≤ n) {s : List Nat} {m : Int} (hm : m = 1 ∨ m = 3 ∨ m = 4) (hl : (s.length : Int) = m) : (F44 n s).isSome = true ∧ F44_4 n s = 0 := by
  obtain ⟨k, rfl⟩ : ∃ k, n = k + 10 := ⟨n - 10, by omega⟩
  match s, hl with
  | [], hl => simp at hl; omega
  | [x], _ => exact s44_1 k x
  | [x, y], hl => simp at hl; omega
  | [x, y, z], _ => exact s44_3 k x y z
  | [x, y, z, u], _ => exact s44_4 k x y z u
  | x :: y :: z :: u :: v :: r, hl => simp only [List.length_cons] at hl; omega
theorem sub_len {s : List Nat} {i j : Nat} (h1 : i ≤ j) (h2 : j ≤ s.length) : (subS s i j).length = j - i := by
  simp only [subS, List.length_drop, List.length_take]; omega
theorem f43 {w h m a b c d e f x y : Int} {s : List Nat} (P : Pic w h m s) {i j : Int} {z : Bool} (e42 : F42 w h m s a b c d e f x y = some (i, j, z, 0)) (AT : At w h a b c d e f x y i j z) {n : Nat} (hn : 10 ≤ n) :
    (z = false → F43 n w h m s a b c d e f x y = some (0, 0, 0, 0, false, 0)) ∧
    (z = true → ∃ k : Nat, (k : Int) = (j * w + i) * m ∧ k + m.toNat ≤ s.length ∧ F43 n w h m s a b c d e f x y = some (F44_0 n (subS s k (k + m.toNat)), F44_1 n (subS s k (k + m.toNat)), F44_2 n (subS s k (k + m.toNat)), F44_3 n (subS s k (k + m.toNat)), true, 0) ∧
      (F44 n (subS s k (k + m.toNat))).isSome = true ∧ F44_4 n (subS s k (k + m.toNat)) = 0) := by
  have q0 : F42_0 w h m s a b c d e f x y = i := by unfold F42_0; rw [e42]; rfl
  have q1 : F42_1 w h m s a b c d e f x y = j := by unfold F42_1; rw [e42]; rfl
  have q2 : F42_2 w h m s a b c d e f x y = z := by unfold F42_2; rw [e42]; rfl
  have q3 : F42_3 w h m s a b c d e f x y = 0 := by unfold F42_3; rw [e42]; rfl
  have k0 : c43_0 w h m s a b c d e f x y = false := by unfold c43_0; rw [q3]; rfl
  obtain ⟨⟨w1, w2⟩, ⟨h1, h2⟩, m1, hl⟩ := P
  refine ⟨fun hz => ?_, fun hz => ?_⟩
  · subst hz
    unfold F43
    rw [e42, k0, q2, q3]; rfl
  · subst hz
    obtain ⟨u1, u2, u3, u4⟩ : 0 ≤ i ∧ i < w ∧ 0 ≤ j ∧ j < h := by
      obtain ⟨_, A1, A2⟩ := AT
      have zD : a * d - b * c ≠ 0 := fun q => by cases A1 q
      obtain ⟨p, q, _, _, k3, k4⟩ := A2 zD
      obtain ⟨rfl, rfl⟩ := k4 rfl
      exact k3.1 rfl
    clear AT
    have b1 := mul_bd (x := j) (y := w) (a := 9) (b := 9) (by omega) (by omega)
    have b2 : 0 ≤ j * w := Int.mul_nonneg u3 (by omega)
    have b3 : (j + 1) * w ≤ h * w := Int.mul_le_mul_of_nonneg_right (by omega) (by omega)
    rw [Int.add_mul] at b3
    rw [Int.mul_comm w h] at hl
    generalize hJ : j * w = J at *
    generalize hH : h * w = G at *
    have e1 : wrapA .i64 (Int.mul j w) = J := by rw [mul_int, hJ]; exact wrap64 (by omega) (by omega)
    have e2 : wrapA .i64 (Int.add J i) = J + i := by rw [add_int]; exact wrap64 (by omega) (by omega)
    have e3 : wrapA .i64 (Int.mul (J + i) m) = (J + i) * m := by
      rw [mul_int]; rcases m1 with rfl | rfl | rfl <;> exact wrap64 (by omega) (by omega)
    have e4 : wrapA .i64 (Int.add ((J + i) * m) m) = (J + i) * m + m := by
      rw [add_int]; rcases m1 with rfl | rfl | rfl <;> exact wrap64 (by omega) (by omega)
    have t1 : t43_1 w h m s a b c d e f x y = (J + i) * m := by unfold t43_1; rw [q0, q1, e1, e2, e3]
    have t2 : t43_2 w h m s a b c d e f x y = (J + i) * m + m := by unfold t43_2; rw [q0, q1, e1, e2, e3, e4]
    have g1 : 0 ≤ (J + i) * m := Int.mul_nonneg (by omega) (by omega)
    have g2 : (J + i) * m + m ≤ G * m := by
      have : (J + i + 1) * m ≤ G * m := Int.mul_le_mul_of_nonneg_right (by omega) (by omega)
      rw [Int.add_mul (J + i)] at this; omega
    have n1 : ((J + i) * m + m).toNat = ((J + i) * m).toNat + m.toNat := by omega
    have hs := s44 hn m1 (s := subS s ((J + i) * m).toNat (((J + i) * m).toNat + m.toNat)) (by rw [sub_len (by omega) (by omega)]; omega)
    have u3 : u43_3 w h m s a b c d e f x y = subS s ((J + i) * m).toNat (((J + i) * m).toNat + m.toNat) := by unfold u43_3; rw [t1, t2, n1]
    have c4 : c43_4 n w h m s a b c d e f x y = true := by unfold c43_4; rw [u3, hs.2]; rfl
    refine ⟨((J + i) * m).toNat, by omega, by omega, ?_, hs⟩
    unfold F43
    rw [e42, k0, q2, t1, t2, u3, c4, n1, hs.1, hs.2, ltF g1, ltF (by omega : 0 ≤ (J + i) * m + m)]
    have l1 : leB ((J + i) * m).toNat (((J + i) * m).toNat + m.toNat) = true := Nat.ble_eq_true_of_le (by omega)
    have l2 : leB (((J + i) * m).toNat + m.toNat) s.length = true := Nat.ble_eq_true_of_le (by omega)
    rw [l1, l2]; rfl
theorem scale {a : Int} (h1 : 0 ≤ a) (h2 : a ≤ 255) : ∃ k, wrapA .i64 (Int.add 1 (wrapA .i64 (Int.tmod a 12))) = k ∧ 1 ≤ k ∧ k ≤ 12 := by
  have e : Int.tmod a 12 = a % 12 := Int.tmod_eq_emod_of_nonneg h1
  have := Int.emod_nonneg a (show (12 : Int) ≠ 0 by omega)
  have := Int.emod_lt_of_pos a (show (0 : Int) < 12 by omega)
  refine ⟨_, rfl, ?_⟩
  rw [e, w64 (n := a % 12) (by omega) (by omega), add_int, w64 (by omega) (by omega)]
  omega
theorem sc {u v x e p t : Int} (u1 : 1 ≤ u) (v1 : 1 ≤ v) (k : Fl (v * 65536 * (65536 * x + 32768 - e * 65536) - 0 * t) (u * 65536 * (v * 65536) - 0 * 0) p) : u * p ≤ x - e ∧ x - e < u * p + u := by
  have hD : 0 < u * 65536 * (v * 65536) := Int.mul_pos (by omega) (by omega)
  obtain ⟨k1, k2⟩ := k.1 (by omega)
  have e1 : u * 65536 * (v * 65536) = v * 65536 * (u * 65536) := Int.mul_comm _ _
  have z : (u * 65536 * (v * 65536) - 0 * 0) * p = v * 65536 * (65536 * (u * p)) := by
    rw [Int.mul_zero, Int.sub_zero, e1, Int.mul_assoc (v * 65536), Int.mul_comm u 65536, Int.mul_assoc 65536 u p]
  rw [z, Int.zero_mul, Int.sub_zero] at k1 k2
  have z2 : v * 65536 * (65536 * (u * p)) + (u * 65536 * (v * 65536) - 0 * 0) = v * 65536 * (65536 * (u * p) + u * 65536) := by
    rw [Int.mul_add (v * 65536), Int.mul_zero, Int.sub_zero, e1]
  rw [z2] at k2
  have l1 := Int.le_of_mul_le_mul_left k1 (by omega : 0 < v * 65536)
  have l2 := Int.lt_of_mul_lt_mul_left k2 (by omega : 0 ≤ v * 65536)
  omega
theorem tq {u p x : Int} (u1 : 1 ≤ u) (h0 : 0 ≤ x) (h1 : u * p ≤ x) (h2 : x < u * p + u) : Int.tdiv x u = p := by
  rw [tdiv_pos h0]
  have a : p ≤ x / u := (Int.le_ediv_iff_mul_le (by omega)).2 (by rw [Int.mul_comm]; exact h1)
  have b : x / u < p + 1 := (Int.ediv_lt_iff_lt_mul (by omega)).2 (by rw [Int.mul_comm, Int.mul_add]; omega)
  omega

set_option maxHeartbeats 4000000 in
theorem law_ok_s (a0_0 a0_1 a0_2 : Int) (x0 : List AV) (c0 k0 : Nat) (a0_4 a0_5 a0_6 a0_7 a0_8 a0_9 a0_10 : Int) (a0_11 : Bool) (a1_0 a1_1 a2_0 a2_1 a3 a4 : Int) (wa0_0 : (Lit.int .u8 a0_0).wf = true) (wa0_1 : (Lit.int .u8 a0_1).wf = true) (wa0_2 : (Lit.int .u8 a0_2).wf = true) (wx : 0 < c0 ∧ c0 ≤ k0 ∧ k0 ≤ maxLen ∧ KOk (kRep c0 [.int .u8]) x0) (wa0_4 : (Lit.int .u8 a0_4).wf = true) (wa0_5 : (Lit.int .i32 a0_5).wf = true) (wa0_6 : (Lit.int .i32 a0_6).wf = true) (wa0_7 : (Lit.int .i32 a0_7).wf = true) (wa0_8 : (Lit.int .i32 a0_8).wf = true) (wa0_9 : (Lit.int .i32 a0_9).wf = true) (wa0_10 : (Lit.int .i32 a0_10).wf = true) (wa1_0 : (Lit.int .u8 a1_0).wf = true) (wa1_1 : (Lit.int .u8 a1_1).wf = true) (wa2_0 : (Lit.int .i8 a2_0).wf = true) (wa2_1 : (Lit.int .i8 a2_1).wf = true) (wa3 : (Lit.int .u8 a3).wf = true) (wa4 : (Lit.int .u8 a4).wf = true) : ∃ n : Nat, F9s n a0_0 a0_1 a0_2 x0 c0 k0 a0_4 a0_5 a0_6 a0_7 a0_8 a0_9 a0_10 a0_11 a1_0 a1_1 a2_0 a2_1 a3 a4 = some true := by
  obtain ⟨w, h, m, s, a, b, c, d, e, f, e41, P, M⟩ := pic_s x0 c0 k0 a0_4 a0_5 a0_6 a0_7 a0_8 a0_9 a0_10 a0_11 wx.1 wx.2.2.2 (wf_u8 wa0_0) (wf_u8 wa0_1) (wf_u8 wa0_2)
  have p0 : F41s_0 1000 a0_0 a0_1 a0_2 x0 c0 k0 a0_4 a0_5 a0_6 a0_7 a0_8 a0_9 a0_10 a0_11 = w := by unfold F41s_0; rw [e41]; rfl
  have p1 : F41s_1 1000 a0_0 a0_1 a0_2 x0 c0 k0 a0_4 a0_5 a0_6 a0_7 a0_8 a0_9 a0_10 a0_11 = h := by unfold F41s_1; rw [e41]; rfl
  have p2 : F41s_2 1000 a0_0 a0_1 a0_2 x0 c0 k0 a0_4 a0_5 a0_6 a0_7 a0_8 a0_9 a0_10 a0_11 = m := by unfold F41s_2; rw [e41]; rfl
  have p3 : F41s_3 1000 a0_0 a0_1 a0_2 x0 c0 k0 a0_4 a0_5 a0_6 a0_7 a0_8 a0_9 a0_10 a0_11 = s := by unfold F41s_3; rw [e41]; rfl
  have p4 : F41s_4 1000 a0_0 a0_1 a0_2 x0 c0 k0 a0_4 a0_5 a0_6 a0_7 a0_8 a0_9 a0_10 a0_11 = a := by unfold F41s_4; rw [e41]; rfl
  have p5 : F41s_5 1000 a0_0 a0_1 a0_2 x0 c0 k0 a0_4 a0_5 a0_6 a0_7 a0_8 a0_9 a0_10 a0_11 = b := by unfold F41s_5; rw [e41]; rfl
  have p6 : F41s_6 1000 a0_0 a0_1 a0_2 x0 c0 k0 a0_4 a0_5 a0_6 a0_7 a0_8 a0_9 a0_10 a0_11 = c := by unfold F41s_6; rw [e41]; rfl
  have p7 : F41s_7 1000 a0_0 a0_1 a0_2 x0 c0 k0 a0_4 a0_5 a0_6 a0_7 a0_8 a0_9 a0_10 a0_11 = d := by unfold F41s_7; rw [e41]; rfl
  have p8 : F41s_8 1000 a0_0 a0_1 a0_2 x0 c0 k0 a0_4 a0_5 a0_6 a0_7 a0_8 a0_9 a0_10 a0_11 = e := by unfold F41s_8; rw [e41]; rfl
  have p9 : F41s_9 1000 a0_0 a0_1 a0_2 x0 c0 k0 a0_4 a0_5 a0_6 a0_7 a0_8 a0_9 a0_10 a0_11 = f := by unfold F41s_9; rw [e41]; rfl
  have P0 := P
  obtain ⟨⟨w1, w2⟩, ⟨h1, h2⟩, m1, hl⟩ := P
  obtain ⟨u, eu, u1, u2⟩ := scale (wf_u8 wa1_0).1 (wf_u8 wa1_0).2
  obtain ⟨v, ev, v1, v2⟩ := scale (wf_u8 wa1_1).1 (wf_u8 wa1_1).2
  have x2 := wf_i8 wa2_0
  have y2 := wf_i8 wa2_1
  have x3 := wf_u8 wa3
  have y3 := wf_u8 wa4
  refine ⟨1000, ?_⟩
  simp only [F9s, t9s_0, t9s_1, t9s_2, t9s_3, t9s_4, u9s_5, t9s_6, t9s_7, t9s_8, t9s_9, t9s_10, u9s_11, t9s_12, t9s_13, t9s_14, t9s_15, c9s_16, t9s_17, c9s_18, t9s_19, t9s_20, t9s_21, c9s_22, t9s_23, t9s_24, t9s_25, t9s_26, t9s_27, t9s_28, c9s_29, t9s_30, c9s_31, t9s_32, t9s_33, t9s_34, c9s_35, t9s_36, t9s_37, t9s_38, u9s_39, t9s_40, t9s_41, t9s_42, t9s_43, t9s_44, t9s_45, c9s_46, t9s_47, c9s_48, t9s_49, t9s_50, t9s_51, c9s_52, t9s_53, t9s_54, t9s_55, u9s_56, t9s_57, t9s_58, t9s_59, t9s_60, t9s_61, t9s_62, c9s_63, c9s_64, t9s_65, t9s_66, t9s_67, c9s_68, c9s_69, t9s_70, t9s_72, u9s_73, t9s_74, t9s_75, t9s_76, t9s_77, t9s_78, t9s_79, c9s_80, c9s_81, t9s_82, t9s_83, c9s_84, c9s_85, t9s_86, t9s_88, u9s_89, t9s_90, t9s_91, t9s_92, t9s_93, t9s_94, t9s_95, c9s_96, t9s_97, t9s_98, c9s_99, c9s_100, t9s_101, t9s_103, u9s_104, t9s_105, t9s_106, t9s_107, t9s_108, t9s_109, t9s_110, t9s_111, t9s_112, c9s_113, c9s_114, t9s_115, t9s_117, u9s_118, t9s_119, t9s_120, t9s_121, t9s_122, t9s_123, t9s_124, t9s_125, t9s_126, c9s_127, t9s_128, t9s_130, u9s_131, t9s_132, t9s_133, t9s_134, t9s_135, t9s_136, c9s_137, t9s_138, t9s_139, t9s_140, t9s_141, c9s_142, t9s_143, t9s_144, t9s_145, t9s_146, t9s_147, t9s_148, t9s_149, t9s_150, c9s_151, t9s_152, t9s_153, t9s_154, t9s_155, t9s_157, u9s_158, t9s_159, t9s_160, t9s_161, t9s_162, u9s_163, t9s_164, t9s_165, u9s_166, t9s_167, t9s_168, t9s_169, t9s_170, c9s_171, t9s_172, t9s_173, t9s_174, t9s_175, t9s_176, t9s_177, t9s_178, t9s_179, t9s_180, t9s_181, t9s_182, t9s_183, t9s_184, t9s_185, t9s_186, t9s_187, t9s_188, t9s_189, c9s_190, t9s_191, t9s_192, t9s_193, t9s_194, t9s_195, t9s_196, t9s_197, t9s_198, t9s_199, t9s_200, t9s_201, t9s_202, t9s_203, t9s_204, t9s_205, t9s_206, t9s_207, t9s_208, c9s_209, t9s_210, t9s_211, t9s_212, t9s_213, t9s_214, t9s_215, t9s_216, t9s_217, t9s_218, t9s_219, t9s_220, t9s_221, t9s_222, t9s_223, t9s_224, t9s_225, c9s_226, c9s_227, c9s_228, c9s_229, c9s_230, c9s_231, c9s_232, c9s_233, c9s_234, c9s_235, c9s_236, c9s_237, c9s_238, c9s_239, c9s_240, c9s_241, c9s_242, c9s_243, c9s_244, c9s_245, p0, p1, p2, p3, e41, eu, ev, Option.isSome_some, wx.2.2.2.pure, cond]
  clear e41 eu ev p0 p1 p2 p3 p4 p5 p6 p7 p8 p9 M
  have wu : 1 ≤ w * u ∧ w * u ≤ 108 := by
    have a : w * u ≤ 9 * 12 := Int.mul_le_mul w2 u2 (by omega) (by omega)
    have b : 1 * 1 ≤ w * u := Int.mul_le_mul w1 u1 (by omega) (by omega)
    omega
  have hv : 1 ≤ h * v ∧ h * v ≤ 108 := by
    have a : h * v ≤ 9 * 12 := Int.mul_le_mul h2 v2 (by omega) (by omega)
    have b : 1 * 1 ≤ h * v := Int.mul_le_mul h1 v1 (by omega) (by omega)
    omega
  have s1 : wrapA .i64 a2_0 = a2_0 := wrap64 (by omega) (by omega)
  have s2 : wrapA .i64 a2_1 = a2_1 := wrap64 (by omega) (by omega)
  have s3 : wrapA .i64 a3 = a3 := wrap64 (by omega) (by omega)
  have s4 : wrapA .i64 a4 = a4 := wrap64 (by omega) (by omega)
  have s5 : wrapA .i64 (Int.mul w u) = w * u := by rw [mul_int]; exact wrap64 (by omega) (by omega)
  have s6 : wrapA .i64 (Int.mul h v) = h * v := by rw [mul_int]; exact wrap64 (by omega) (by omega)
  have s7 : wrapA .i64 (Int.add (w * u) 2) = w * u + 2 := by rw [add_int]; exact wrap64 (by omega) (by omega)
  have s8 : wrapA .i64 (Int.add (h * v) 2) = h * v + 2 := by rw [add_int]; exact wrap64 (by omega) (by omega)
  have s9 : wrapA .i64 (Int.mul u 65536) = u * 65536 := by rw [mul_int]; exact wrap64 (by omega) (by omega)
  have s10 : wrapA .i64 (Int.mul v 65536) = v * 65536 := by rw [mul_int]; exact wrap64 (by omega) (by omega)
  have s11 : wrapA .i64 (Int.mul a2_0 65536) = a2_0 * 65536 := by rw [mul_int]; exact wrap64 (by omega) (by omega)
  have s12 : wrapA .i64 (Int.mul a2_1 65536) = a2_1 * 65536 := by rw [mul_int]; exact wrap64 (by omega) (by omega)
  have s13 : Int.tmod a3 (w * u + 2) = a3 % (w * u + 2) := Int.tmod_eq_emod_of_nonneg x3.1
  have s14 : Int.tmod a4 (h * v + 2) = a4 % (h * v + 2) := Int.tmod_eq_emod_of_nonneg y3.1
  have g1 := Int.emod_nonneg a3 (show w * u + 2 ≠ 0 by omega)
  have g2 := Int.emod_lt_of_pos a3 (show 0 < w * u + 2 by omega)
  have g3 := Int.emod_nonneg a4 (show h * v + 2 ≠ 0 by omega)
  have g4 := Int.emod_lt_of_pos a4 (show 0 < h * v + 2 by omega)
  have s15 : wrapA .i64 (Int.sub a2_0 1) = a2_0 - 1 := by rw [sub_int]; exact wrap64 (by omega) (by omega)
  have s16 : wrapA .i64 (Int.sub a2_1 1) = a2_1 - 1 := by rw [sub_int]; exact wrap64 (by omega) (by omega)
  simp only [s1, s2, s3, s4, s5, s6, s7, s8, s9, s10, s11, s12, s13, s14, s15, s16]
  generalize a3 % (w * u + 2) = g at *
  generalize a4 % (h * v + 2) = r at *
  have s17 : wrapA .i64 (Int.add (a2_0 - 1) g) = a2_0 - 1 + g := by rw [add_int]; exact wrap64 (by omega) (by omega)
  have s18 : wrapA .i64 (Int.add (a2_1 - 1) r) = a2_1 - 1 + r := by rw [add_int]; exact wrap64 (by omega) (by omega)
  have s19 : wrapA .i64 (Int.sub (a2_0 - 1 + g) a2_0) = g - 1 := by rw [sub_int]; rw [wrap64 (by omega) (by omega)]; omega
  have s20 : wrapA .i64 (Int.sub (a2_1 - 1 + r) a2_1) = r - 1 := by rw [sub_int]; rw [wrap64 (by omega) (by omega)]; omega
  simp only [s17, s18, s19, s20]
  have M : Mx (u * 65536) 0 0 (v * 65536) (a2_0 * 65536) (a2_1 * 65536) := ⟨by omega, by omega, by omega, by omega, by omega, by omega⟩
  obtain ⟨i, j, z, e42, AT⟩ := f42 P0 M (x := a2_0 - 1 + g) (y := a2_1 - 1 + r) (by omega) (by omega) (by omega) (by omega)
  obtain ⟨F0, F1⟩ := f43 P0 e42 AT (n := 1000) (by omega)
  have q0 : F42_0 w h m s (u * 65536) 0 0 (v * 65536) (a2_0 * 65536) (a2_1 * 65536) (a2_0 - 1 + g) (a2_1 - 1 + r) = i := by unfold F42_0; rw [e42]; rfl
  have q1 : F42_1 w h m s (u * 65536) 0 0 (v * 65536) (a2_0 * 65536) (a2_1 * 65536) (a2_0 - 1 + g) (a2_1 - 1 + r) = j := by unfold F42_1; rw [e42]; rfl
  have q2 : F42_2 w h m s (u * 65536) 0 0 (v * 65536) (a2_0 * 65536) (a2_1 * 65536) (a2_0 - 1 + g) (a2_1 - 1 + r) = z := by unfold F42_2; rw [e42]; rfl
  have q3 : F42_3 w h m s (u * 65536) 0 0 (v * 65536) (a2_0 * 65536) (a2_1 * 65536) (a2_0 - 1 + g) (a2_1 - 1 + r) = 0 := by unfold F42_3; rw [e42]; rfl
  simp only [q0, q1, q2, q3, e42, Option.isSome_some]
  have hD : u * 65536 * (v * 65536) - 0 * 0 ≠ 0 := by
    have : 0 < u * 65536 * (v * 65536) := Int.mul_pos (by omega) (by omega)
    omega
  obtain ⟨p, q, kp, kq, k3, k4⟩ := AT.some hD
  have lp := sc u1 v1 kp
  rw [Int.mul_comm (u * 65536) (v * 65536)] at kq
  have lq := sc (u := v) (v := u) v1 u1 kq
  have ep : a2_0 - 1 + g - a2_0 = g - 1 := by omega
  have eq : a2_1 - 1 + r - a2_1 = r - 1 := by omega
  rw [ep] at lp
  rw [eq] at lq
  have fx := fl_in (X := g - 1) (D := u) (p := p) (w := w) (by omega) lp.1 lp.2
  have fy := fl_in (X := r - 1) (D := v) (p := q) (w := h) (by omega) lq.1 lq.2
  rw [eqF (by omega : w * u + 2 ≠ 0), eqF (by omega : h * v + 2 ≠ 0), eqF (by omega : v ≠ 0), eqF (by omega : u ≠ 0)]
  cases z with
  | false =>
    obtain ⟨rfl, rfl⟩ := AT.none rfl
    have e43 := F0 rfl
    have t0 : F43_0 1000 w h m s (u * 65536) 0 0 (v * 65536) (a2_0 * 65536) (a2_1 * 65536) (a2_0 - 1 + g) (a2_1 - 1 + r) = 0 := by unfold F43_0; rw [e43]; rfl
    have t1 : F43_1 1000 w h m s (u * 65536) 0 0 (v * 65536) (a2_0 * 65536) (a2_1 * 65536) (a2_0 - 1 + g) (a2_1 - 1 + r) = 0 := by unfold F43_1; rw [e43]; rfl
    have t2 : F43_2 1000 w h m s (u * 65536) 0 0 (v * 65536) (a2_0 * 65536) (a2_1 * 65536) (a2_0 - 1 + g) (a2_1 - 1 + r) = 0 := by unfold F43_2; rw [e43]; rfl
    have t3 : F43_3 1000 w h m s (u * 65536) 0 0 (v * 65536) (a2_0 * 65536) (a2_1 * 65536) (a2_0 - 1 + g) (a2_1 - 1 + r) = 0 := by unfold F43_3; rw [e43]; rfl
    have t4 : F43_4 1000 w h m s (u * 65536) 0 0 (v * 65536) (a2_0 * 65536) (a2_1 * 65536) (a2_0 - 1 + g) (a2_1 - 1 + r) = false := by unfold F43_4; rw [e43]; rfl
    have t5 : F43_5 1000 w h m s (u * 65536) 0 0 (v * 65536) (a2_0 * 65536) (a2_1 * 65536) (a2_0 - 1 + g) (a2_1 - 1 + r) = 0 := by unfold F43_5; rw [e43]; rfl
    have k : ¬ (0 ≤ g - 1 ∧ g - 1 < w * u ∧ 0 ≤ r - 1 ∧ r - 1 < h * v) := fun y => by
      have := k3.2 ⟨fx.1.2 y.1, fx.2.2 y.2.1, fy.1.2 y.2.2.1, fy.2.2 y.2.2.2⟩; cases this
    simp only [e43, t0, t1, t2, t3, t4, t5, Option.isSome_some]
    by_cases b1 : 0 ≤ g - 1
    · rw [ltF b1]
      by_cases b2 : g - 1 < w * u
      · rw [ltT b2]
        by_cases b3 : 0 ≤ r - 1
        · rw [ltF b3, ltF (by omega : h * v ≤ r - 1)]; rfl
        · rw [ltT (by omega : r - 1 < 0)]; rfl
      · rw [ltF (by omega : w * u ≤ g - 1)]; rfl
    · rw [ltT (by omega : g - 1 < 0)]; rfl
  | true =>
    obtain ⟨b1, b2, b3, b4⟩ := k3.1 rfl
    obtain ⟨rfl, rfl⟩ := k4 rfl
    obtain ⟨kk, o1, o2, e43, o3, o4⟩ := F1 rfl
    have t0 : F43_0 1000 w h m s (u * 65536) 0 0 (v * 65536) (a2_0 * 65536) (a2_1 * 65536) (a2_0 - 1 + g) (a2_1 - 1 + r) = F44_0 1000 (subS s kk (kk + m.toNat)) := by unfold F43_0; rw [e43]; rfl
    have t1 : F43_1 1000 w h m s (u * 65536) 0 0 (v * 65536) (a2_0 * 65536) (a2_1 * 65536) (a2_0 - 1 + g) (a2_1 - 1 + r) = F44_1 1000 (subS s kk (kk + m.toNat)) := by unfold F43_1; rw [e43]; rfl
    have t2 : F43_2 1000 w h m s (u * 65536) 0 0 (v * 65536) (a2_0 * 65536) (a2_1 * 65536) (a2_0 - 1 + g) (a2_1 - 1 + r) = F44_2 1000 (subS s kk (kk + m.toNat)) := by unfold F43_2; rw [e43]; rfl
    have t3 : F43_3 1000 w h m s (u * 65536) 0 0 (v * 65536) (a2_0 * 65536) (a2_1 * 65536) (a2_0 - 1 + g) (a2_1 - 1 + r) = F44_3 1000 (subS s kk (kk + m.toNat)) := by unfold F43_3; rw [e43]; rfl
    have t4 : F43_4 1000 w h m s (u * 65536) 0 0 (v * 65536) (a2_0 * 65536) (a2_1 * 65536) (a2_0 - 1 + g) (a2_1 - 1 + r) = true := by unfold F43_4; rw [e43]; rfl
    have t5 : F43_5 1000 w h m s (u * 65536) 0 0 (v * 65536) (a2_0 * 65536) (a2_1 * 65536) (a2_0 - 1 + g) (a2_1 - 1 + r) = 0 := by unfold F43_5; rw [e43]; rfl
    have c1 := fx.1.1 b1
    have c2 := fx.2.1 b2
    have c3 := fy.1.1 b3
    have c4 := fy.2.1 b4
    have d1 : Int.tdiv (g - 1) u = i := tq u1 c1 lp.1 lp.2
    have d2 : Int.tdiv (r - 1) v = j := tq v1 c3 lq.1 lq.2
    have d3 : wrapA .i64 i = i := wrap64 (by omega) (by omega)
    have d4 : wrapA .i64 j = j := wrap64 (by omega) (by omega)
    have bj := mul_bd (x := j) (y := w) (a := 9) (b := 9) (by omega) (by omega)
    have d5 : wrapA .i64 (Int.mul j w) = j * w := by rw [mul_int]; exact wrap64 (by omega) (by omega)
    have d6 : wrapA .i64 (Int.add (j * w) i) = j * w + i := by rw [add_int]; exact wrap64 (by omega) (by omega)
    have d7 : wrapA .i64 (Int.mul (j * w + i) m) = kk := by
      rw [mul_int, o1]; generalize j * w = J at *
      rcases m1 with rfl | rfl | rfl <;> exact wrap64 (by omega) (by omega)
    have hk : (kk : Int) ≤ 1000 := by
      rw [o1]; generalize j * w = J at *
      rcases m1 with rfl | rfl | rfl <;> omega
    have d8 : wrapA .i64 (Int.add (kk : Int) m) = (kk : Int) + m := by rw [add_int]; exact wrap64 (by omega) (by omega)
    have d9 : Int.toNat ((kk : Int) + m) = kk + m.toNat := by omega
    have d10 : Int.toNat (kk : Int) = kk := by omega
    have l1 : leB kk (kk + m.toNat) = true := Nat.ble_eq_true_of_le (by omega)
    have l2 : leB (kk + m.toNat) s.length = true := Nat.ble_eq_true_of_le o2
    simp only [e43, t0, t1, t2, t3, t4, t5, d1, d2, d3, d4, d5, d6, d7, d8, d9, d10, l1, l2, o3, o4, Option.isSome_some, eqI_same]
    rw [ltF c1, ltT c2, ltF c3, ltT c4, ltF (by omega : (0 : Int) ≤ kk), ltF (by omega : (0 : Int) ≤ (kk : Int) + m)]
    rfl

set_option maxHeartbeats 4000000 in
theorem law_ok_e (a0_0 a0_1 a0_2 : Int) (a0_4 a0_5 a0_6 a0_7 a0_8 a0_9 a0_10 : Int) (a0_11 : Bool) (a1_0 a1_1 a2_0 a2_1 a3 a4 : Int) (wa0_0 : (Lit.int .u8 a0_0).wf = true) (wa0_1 : (Lit.int .u8 a0_1).wf = true) (wa0_2 : (Lit.int .u8 a0_2).wf = true) (wa0_4 : (Lit.int .u8 a0_4).wf = true) (wa0_5 : (Lit.int .i32 a0_5).wf = true) (wa0_6 : (Lit.int .i32 a0_6).wf = true) (wa0_7 : (Lit.int .i32 a0_7).wf = true) (wa0_8 : (Lit.int .i32 a0_8).wf = true) (wa0_9 : (Lit.int .i32 a0_9).wf = true) (wa0_10 : (Lit.int .i32 a0_10).wf = true) (wa1_0 : (Lit.int .u8 a1_0).wf = true) (wa1_1 : (Lit.int .u8 a1_1).wf = true) (wa2_0 : (Lit.int .i8 a2_0).wf = true) (wa2_1 : (Lit.int .i8 a2_1).wf = true) (wa3 : (Lit.int .u8 a3).wf = true) (wa4 : (Lit.int .u8 a4).wf = true) : ∃ n : Nat, F9e n a0_0 a0_1 a0_2 a0_4 a0_5 a0_6 a0_7 a0_8 a0_9 a0_10 a0_11 a1_0 a1_1 a2_0 a2_1 a3 a4 = some true := by
  obtain ⟨w, h, m, s, a, b, c, d, e, f, e41, P, M⟩ := pic_e a0_4 a0_5 a0_6 a0_7 a0_8 a0_9 a0_10 a0_11 (wf_u8 wa0_0) (wf_u8 wa0_1) (wf_u8 wa0_2)
  have p0 : F41e_0 a0_0 a0_1 a0_2 a0_4 a0_5 a0_6 a0_7 a0_8 a0_9 a0_10 a0_11 = w := by unfold F41e_0; rw [e41]; rfl
  have p1 : F41e_1 a0_0 a0_1 a0_2 a0_4 a0_5 a0_6 a0_7 a0_8 a0_9 a0_10 a0_11 = h := by unfold F41e_1; rw [e41]; rfl
  have p2 : F41e_2 a0_0 a0_1 a0_2 a0_4 a0_5 a0_6 a0_7 a0_8 a0_9 a0_10 a0_11 = m := by unfold F41e_2; rw [e41]; rfl
  have p3 : F41e_3 a0_0 a0_1 a0_2 a0_4 a0_5 a0_6 a0_7 a0_8 a0_9 a0_10 a0_11 = s := by unfold F41e_3; rw [e41]; rfl
  have p4 : F41e_4 a0_0 a0_1 a0_2 a0_4 a0_5 a0_6 a0_7 a0_8 a0_9 a0_10 a0_11 = a := by unfold F41e_4; rw [e41]; rfl
  have p5 : F41e_5 a0_0 a0_1 a0_2 a0_4 a0_5 a0_6 a0_7 a0_8 a0_9 a0_10 a0_11 = b := by unfold F41e_5; rw [e41]; rfl
  have p6 : F41e_6 a0_0 a0_1 a0_2 a0_4 a0_5 a0_6 a0_7 a0_8 a0_9 a0_10 a0_11 = c := by unfold F41e_6; rw [e41]; rfl
  have p7 : F41e_7 a0_0 a0_1 a0_2 a0_4 a0_5 a0_6 a0_7 a0_8 a0_9 a0_10 a0_11 = d := by unfold F41e_7; rw [e41]; rfl
  have p8 : F41e_8 a0_0 a0_1 a0_2 a0_4 a0_5 a0_6 a0_7 a0_8 a0_9 a0_10 a0_11 = e := by unfold F41e_8; rw [e41]; rfl
  have p9 : F41e_9 a0_0 a0_1 a0_2 a0_4 a0_5 a0_6 a0_7 a0_8 a0_9 a0_10 a0_11 = f := by unfold F41e_9; rw [e41]; rfl
  have P0 := P
  obtain ⟨⟨w1, w2⟩, ⟨h1, h2⟩, m1, hl⟩ := P
  obtain ⟨u, eu, u1, u2⟩ := scale (wf_u8 wa1_0).1 (wf_u8 wa1_0).2
  obtain ⟨v, ev, v1, v2⟩ := scale (wf_u8 wa1_1).1 (wf_u8 wa1_1).2
  have x2 := wf_i8 wa2_0
  have y2 := wf_i8 wa2_1
  have x3 := wf_u8 wa3
  have y3 := wf_u8 wa4
  refine ⟨1000, ?_⟩
  simp only [F9e, t9e_0, t9e_1, t9e_2, t9e_3, t9e_4, t9e_5, t9e_6, t9e_7, c9e_8, t9e_9, c9e_10, t9e_11, t9e_12, t9e_13, c9e_14, t9e_15, t9e_16, t9e_17, t9e_18, t9e_19, t9e_20, c9e_21, t9e_22, c9e_23, t9e_24, c9e_25, t9e_26, t9e_27, t9e_28, t9e_29, t9e_30, t9e_31, c9e_32, t9e_33, c9e_34, t9e_35, c9e_36, t9e_37, t9e_38, t9e_39, t9e_40, t9e_41, t9e_42, c9e_43, c9e_44, t9e_45, c9e_46, c9e_47, t9e_48, t9e_49, t9e_50, t9e_51, t9e_52, t9e_53, c9e_54, c9e_55, c9e_56, t9e_57, t9e_58, t9e_59, t9e_60, t9e_61, t9e_62, c9e_63, c9e_64, t9e_65, t9e_66, t9e_67, t9e_68, t9e_69, t9e_70, c9e_71, t9e_72, t9e_73, t9e_74, t9e_75, t9e_76, t9e_77, c9e_78, t9e_79, t9e_80, t9e_81, t9e_82, t9e_83, c9e_84, t9e_85, t9e_86, t9e_87, t9e_88, c9e_89, t9e_90, t9e_91, t9e_92, t9e_93, t9e_94, t9e_95, t9e_96, t9e_97, c9e_98, t9e_99, t9e_100, t9e_101, t9e_102, t9e_103, u9e_104, t9e_105, t9e_106, c9e_107, t9e_108, t9e_109, t9e_110, t9e_111, t9e_112, t9e_113, t9e_114, t9e_115, t9e_116, t9e_117, t9e_118, t9e_119, t9e_120, t9e_121, t9e_122, c9e_123, t9e_124, t9e_125, t9e_126, t9e_127, t9e_128, t9e_129, t9e_130, t9e_131, t9e_132, t9e_133, t9e_134, t9e_135, t9e_136, t9e_137, t9e_138, t9e_139, t9e_140, c9e_141, t9e_142, t9e_143, t9e_144, t9e_145, t9e_146, t9e_147, t9e_148, t9e_149, t9e_150, t9e_151, t9e_152, t9e_153, t9e_154, t9e_155, t9e_156, t9e_157, c9e_158, c9e_159, c9e_160, c9e_161, c9e_162, c9e_163, c9e_164, c9e_165, c9e_166, c9e_167, c9e_168, c9e_169, c9e_170, c9e_171, c9e_172, c9e_173, c9e_174, c9e_175, c9e_176, c9e_177, p0, p1, p2, p3, e41, eu, ev, Option.isSome_some, cond]
  clear e41 eu ev p0 p1 p2 p3 p4 p5 p6 p7 p8 p9 M
  have wu : 1 ≤ w * u ∧ w * u ≤ 108 := by
    have a : w * u ≤ 9 * 12 := Int.mul_le_mul w2 u2 (by omega) (by omega)
    have b : 1 * 1 ≤ w * u := Int.mul_le_mul w1 u1 (by omega) (by omega)
    omega
  have hv : 1 ≤ h * v ∧ h * v ≤ 108 := by
    have a : h * v ≤ 9 * 12 := Int.mul_le_mul h2 v2 (by omega) (by omega)
    have b : 1 * 1 ≤ h * v := Int.mul_le_mul h1 v1 (by omega) (by omega)
    omega
  have s1 : wrapA .i64 a2_0 = a2_0 := wrap64 (by omega) (by omega)
  have s2 : wrapA .i64 a2_1 = a2_1 := wrap64 (by omega) (by omega)
  have s3 : wrapA .i64 a3 = a3 := wrap64 (by omega) (by omega)
  have s4 : wrapA .i64 a4 = a4 := wrap64 (by omega) (by omega)
  have s5 : wrapA .i64 (Int.mul w u) = w * u := by rw [mul_int]; exact wrap64 (by omega) (by omega)
  have s6 : wrapA .i64 (Int.mul h v) = h * v := by rw [mul_int]; exact wrap64 (by omega) (by omega)
  have s7 : wrapA .i64 (Int.add (w * u) 2) = w * u + 2 := by rw [add_int]; exact wrap64 (by omega) (by omega)
  have s8 : wrapA .i64 (Int.add (h * v) 2) = h * v + 2 := by rw [add_int]; exact wrap64 (by omega) (by omega)
  have s9 : wrapA .i64 (Int.mul u 65536) = u * 65536 := by rw [mul_int]; exact wrap64 (by omega) (by omega)
  have s10 : wrapA .i64 (Int.mul v 65536) = v * 65536 := by rw [mul_int]; exact wrap64 (by omega) (by omega)
  have s11 : wrapA .i64 (Int.mul a2_0 65536) = a2_0 * 65536 := by rw [mul_int]; exact wrap64 (by omega) (by omega)
  have s12 : wrapA .i64 (Int.mul a2_1 65536) = a2_1 * 65536 := by rw [mul_int]; exact wrap64 (by omega) (by omega)
  have s13 : Int.tmod a3 (w * u + 2) = a3 % (w * u + 2) := Int.tmod_eq_emod_of_nonneg x3.1
  have s14 : Int.tmod a4 (h * v + 2) = a4 % (h * v + 2) := Int.tmod_eq_emod_of_nonneg y3.1
  have g1 := Int.emod_nonneg a3 (show w * u + 2 ≠ 0 by omega)
  have g2 := Int.emod_lt_of_pos a3 (show 0 < w * u + 2 by omega)
  have g3 := Int.emod_nonneg a4 (show h * v + 2 ≠ 0 by omega)
  have g4 := Int.emod_lt_of_pos a4 (show 0 < h * v + 2 by omega)
  have s15 : wrapA .i64 (Int.sub a2_0 1) = a2_0 - 1 := by rw [sub_int]; exact wrap64 (by omega) (by omega)
  have s16 : wrapA .i64 (Int.sub a2_1 1) = a2_1 - 1 := by rw [sub_int]; exact wrap64 (by omega) (by omega)
  simp only [s1, s2, s3, s4, s5, s6, s7, s8, s9, s10, s11, s12, s13, s14, s15, s16]
  generalize a3 % (w * u + 2) = g at *
  generalize a4 % (h * v + 2) = r at *
  have s17 : wrapA .i64 (Int.add (a2_0 - 1) g) = a2_0 - 1 + g := by rw [add_int]; exact wrap64 (by omega) (by omega)
  have s18 : wrapA .i64 (Int.add (a2_1 - 1) r) = a2_1 - 1 + r := by rw [add_int]; exact wrap64 (by omega) (by omega)
  have s19 : wrapA .i64 (Int.sub (a2_0 - 1 + g) a2_0) = g - 1 := by rw [sub_int]; rw [wrap64 (by omega) (by omega)]; omega
  have s20 : wrapA .i64 (Int.sub (a2_1 - 1 + r) a2_1) = r - 1 := by rw [sub_int]; rw [wrap64 (by omega) (by omega)]; omega
  simp only [s17, s18, s19, s20]
  have M : Mx (u * 65536) 0 0 (v * 65536) (a2_0 * 65536) (a2_1 * 65536) := ⟨by omega, by omega, by omega, by omega, by omega, by omega⟩
  obtain ⟨i, j, z, e42, AT⟩ := f42 P0 M (x := a2_0 - 1 + g) (y := a2_1 - 1 + r) (by omega) (by omega) (by omega) (by omega)
  obtain ⟨F0, F1⟩ := f43 P0 e42 AT (n := 1000) (by omega)
  have q0 : F42_0 w h m s (u * 65536) 0 0 (v * 65536) (a2_0 * 65536) (a2_1 * 65536) (a2_0 - 1 + g) (a2_1 - 1 + r) = i := by unfold F42_0; rw [e42]; rfl
  have q1 : F42_1 w h m s (u * 65536) 0 0 (v * 65536) (a2_0 * 65536) (a2_1 * 65536) (a2_0 - 1 + g) (a2_1 - 1 + r) = j := by unfold F42_1; rw [e42]; rfl
  have q2 : F42_2 w h m s (u * 65536) 0 0 (v * 65536) (a2_0 * 65536) (a2_1 * 65536) (a2_0 - 1 + g) (a2_1 - 1 + r) = z := by unfold F42_2; rw [e42]; rfl
  have q3 : F42_3 w h m s (u * 65536) 0 0 (v * 65536) (a2_0 * 65536) (a2_1 * 65536) (a2_0 - 1 + g) (a2_1 - 1 + r) = 0 := by unfold F42_3; rw [e42]; rfl
  simp only [q0, q1, q2, q3, e42, Option.isSome_some]
  have hD : u * 65536 * (v * 65536) - 0 * 0 ≠ 0 := by
    have : 0 < u * 65536 * (v * 65536) := Int.mul_pos (by omega) (by omega)
    omega
  obtain ⟨p, q, kp, kq, k3, k4⟩ := AT.some hD
  have lp := sc u1 v1 kp
  rw [Int.mul_comm (u * 65536) (v * 65536)] at kq
  have lq := sc (u := v) (v := u) v1 u1 kq
  have ep : a2_0 - 1 + g - a2_0 = g - 1 := by omega
  have eq : a2_1 - 1 + r - a2_1 = r - 1 := by omega
  rw [ep] at lp
  rw [eq] at lq
  have fx := fl_in (X := g - 1) (D := u) (p := p) (w := w) (by omega) lp.1 lp.2
  have fy := fl_in (X := r - 1) (D := v) (p := q) (w := h) (by omega) lq.1 lq.2
  rw [eqF (by omega : w * u + 2 ≠ 0), eqF (by omega : h * v + 2 ≠ 0), eqF (by omega : v ≠ 0), eqF (by omega : u ≠ 0)]
  cases z with
  | false =>
    obtain ⟨rfl, rfl⟩ := AT.none rfl
    have e43 := F0 rfl
    have t0 : F43_0 1000 w h m s (u * 65536) 0 0 (v * 65536) (a2_0 * 65536) (a2_1 * 65536) (a2_0 - 1 + g) (a2_1 - 1 + r) = 0 := by unfold F43_0; rw [e43]; rfl
    have t1 : F43_1 1000 w h m s (u * 65536) 0 0 (v * 65536) (a2_0 * 65536) (a2_1 * 65536) (a2_0 - 1 + g) (a2_1 - 1 + r) = 0 := by unfold F43_1; rw [e43]; rfl
    have t2 : F43_2 1000 w h m s (u * 65536) 0 0 (v * 65536) (a2_0 * 65536) (a2_1 * 65536) (a2_0 - 1 + g) (a2_1 - 1 + r) = 0 := by unfold F43_2; rw [e43]; rfl
    have t3 : F43_3 1000 w h m s (u * 65536) 0 0 (v * 65536) (a2_0 * 65536) (a2_1 * 65536) (a2_0 - 1 + g) (a2_1 - 1 + r) = 0 := by unfold F43_3; rw [e43]; rfl
    have t4 : F43_4 1000 w h m s (u * 65536) 0 0 (v * 65536) (a2_0 * 65536) (a2_1 * 65536) (a2_0 - 1 + g) (a2_1 - 1 + r) = false := by unfold F43_4; rw [e43]; rfl
    have t5 : F43_5 1000 w h m s (u * 65536) 0 0 (v * 65536) (a2_0 * 65536) (a2_1 * 65536) (a2_0 - 1 + g) (a2_1 - 1 + r) = 0 := by unfold F43_5; rw [e43]; rfl
    have k : ¬ (0 ≤ g - 1 ∧ g - 1 < w * u ∧ 0 ≤ r - 1 ∧ r - 1 < h * v) := fun y => by
      have := k3.2 ⟨fx.1.2 y.1, fx.2.2 y.2.1, fy.1.2 y.2.2.1, fy.2.2 y.2.2.2⟩; cases this
    simp only [e43, t0, t1, t2, t3, t4, t5, Option.isSome_some]
    by_cases b1 : 0 ≤ g - 1
    · rw [ltF b1]
      by_cases b2 : g - 1 < w * u
      · rw [ltT b2]
        by_cases b3 : 0 ≤ r - 1
        · rw [ltF b3, ltF (by omega : h * v ≤ r - 1)]; rfl
        · rw [ltT (by omega : r - 1 < 0)]; rfl
      · rw [ltF (by omega : w * u ≤ g - 1)]; rfl
    · rw [ltT (by omega : g - 1 < 0)]; rfl
  | true =>
    obtain ⟨b1, b2, b3, b4⟩ := k3.1 rfl
    obtain ⟨rfl, rfl⟩ := k4 rfl
    obtain ⟨kk, o1, o2, e43, o3, o4⟩ := F1 rfl
    have t0 : F43_0 1000 w h m s (u * 65536) 0 0 (v * 65536) (a2_0 * 65536) (a2_1 * 65536) (a2_0 - 1 + g) (a2_1 - 1 + r) = F44_0 1000 (subS s kk (kk + m.toNat)) := by unfold F43_0; rw [e43]; rfl
    have t1 : F43_1 1000 w h m s (u * 65536) 0 0 (v * 65536) (a2_0 * 65536) (a2_1 * 65536) (a2_0 - 1 + g) (a2_1 - 1 + r) = F44_1 1000 (subS s kk (kk + m.toNat)) := by unfold F43_1; rw [e43]; rfl
    have t2 : F43_2 1000 w h m s (u * 65536) 0 0 (v * 65536) (a2_0 * 65536) (a2_1 * 65536) (a2_0 - 1 + g) (a2_1 - 1 + r) = F44_2 1000 (subS s kk (kk + m.toNat)) := by unfold F43_2; rw [e43]; rfl
    have t3 : F43_3 1000 w h m s (u * 65536) 0 0 (v * 65536) (a2_0 * 65536) (a2_1 * 65536) (a2_0 - 1 + g) (a2_1 - 1 + r) = F44_3 1000 (subS s kk (kk + m.toNat)) := by unfold F43_3; rw [e43]; rfl
    have t4 : F43_4 1000 w h m s (u * 65536) 0 0 (v * 65536) (a2_0 * 65536) (a2_1 * 65536) (a2_0 - 1 + g) (a2_1 - 1 + r) = true := by unfold F43_4; rw [e43]; rfl
    have t5 : F43_5 1000 w h m s (u * 65536) 0 0 (v * 65536) (a2_0 * 65536) (a2_1 * 65536) (a2_0 - 1 + g) (a2_1 - 1 + r) = 0 := by unfold F43_5; rw [e43]; rfl
    have c1 := fx.1.1 b1
    have c2 := fx.2.1 b2
    have c3 := fy.1.1 b3
    have c4 := fy.2.1 b4
    have d1 : Int.tdiv (g - 1) u = i := tq u1 c1 lp.1 lp.2
    have d2 : Int.tdiv (r - 1) v = j := tq v1 c3 lq.1 lq.2
    have d3 : wrapA .i64 i = i := wrap64 (by omega) (by omega)
    have d4 : wrapA .i64 j = j := wrap64 (by omega) (by omega)
    have bj := mul_bd (x := j) (y := w) (a := 9) (b := 9) (by omega) (by omega)
    have d5 : wrapA .i64 (Int.mul j w) = j * w := by rw [mul_int]; exact wrap64 (by omega) (by omega)
    have d6 : wrapA .i64 (Int.add (j * w) i) = j * w + i := by rw [add_int]; exact wrap64 (by omega) (by omega)
    have d7 : wrapA .i64 (Int.mul (j * w + i) m) = kk := by
      rw [mul_int, o1]; generalize j * w = J at *
      rcases m1 with rfl | rfl | rfl <;> exact wrap64 (by omega) (by omega)
    have hk : (kk : Int) ≤ 1000 := by
      rw [o1]; generalize j * w = J at *
      rcases m1 with rfl | rfl | rfl <;> omega
    have d8 : wrapA .i64 (Int.add (kk : Int) m) = (kk : Int) + m := by rw [add_int]; exact wrap64 (by omega) (by omega)
    have d9 : Int.toNat ((kk : Int) + m) = kk + m.toNat := by omega
    have d10 : Int.toNat (kk : Int) = kk := by omega
    have l1 : leB kk (kk + m.toNat) = true := Nat.ble_eq_true_of_le (by omega)
    have l2 : leB (kk + m.toNat) s.length = true := Nat.ble_eq_true_of_le o2
    simp only [e43, t0, t1, t2, t3, t4, t5, d1, d2, d3, d4, d5, d6, d7, d8, d9, d10, l1, l2, o3, o4, Option.isSome_some, eqI_same]
    rw [ltF c1, ltT c2, ltF c3, ltT c4, ltF (by omega : (0 : Int) ≤ kk), ltF (by omega : (0 : Int) ≤ (kk : Int) + m)]
    rfl

end

theorem walke {w : World} {E : Nat → Go.Sx.Ent} (hE : Go.Sx.GlobE E) (a0_0 : Int) (a0_1 : Int) (a0_2 : Int) (a0_4 : Int) (a0_5 : Int) (a0_6 : Int) (a0_7 : Int) (a0_8 : Int) (a0_9 : Int) (a0_10 : Int) (a0_11 : Bool) (a1_0 : Int) (a1_1 : Int) (a2_0 : Int) (a2_1 : Int) (a3 : Int) (a4 : Int) (wa0_0 : (Lit.int .u8 a0_0).wf = true) (wa0_1 : (Lit.int .u8 a0_1).wf = true) (wa0_2 : (Lit.int .u8 a0_2).wf = true) (wa0_4 : (Lit.int .u8 a0_4).wf = true) (wa0_5 : (Lit.int .i32 a0_5).wf = true) (wa0_6 : (Lit.int .i32 a0_6).wf = true) (wa0_7 : (Lit.int .i32 a0_7).wf = true) (wa0_8 : (Lit.int .i32 a0_8).wf = true) (wa0_9 : (Lit.int .i32 a0_9).wf = true) (wa0_10 : (Lit.int .i32 a0_10).wf = true) (wa1_0 : (Lit.int .u8 a1_0).wf = true) (wa1_1 : (Lit.int .u8 a1_1).wf = true) (wa2_0 : (Lit.int .i8 a2_0).wf = true) (wa2_1 : (Lit.int .i8 a2_1).wf = true) (wa3 : (Lit.int .u8 a3).wf = true) (wa4 : (Lit.int .u8 a4).wf = true) (hL : Go.Sx.LaidAt E w []) {ARGS : List Value} (ha : Go.Sx.RelL (Go.Sx.laidE E) [.agg [.int .u8 a0_0, .int .u8 a0_1, .int .u8 a0_2, .emp, .int .u8 a0_4, .int .i32 a0_5, .int .i32 a0_6, .int .i32 a0_7, .int .i32 a0_8, .int .i32 a0_9, .int .i32 a0_10, .bool a0_11], .agg [.int .u8 a1_0, .int .u8 a1_1], .agg [.int .i8 a2_0, .int .i8 a2_1], .int .u8 a3, .int .u8 a4] ARGS) :
    Calls Try.prog 9 ARGS.toArray w fun e w' => e = .returned (.bool true) ∧ Below w.heap.size w w' := by
  obtain ⟨n, hn⟩ := law_ok_e a0_0 a0_1 a0_2 a0_4 a0_5 a0_6 a0_7 a0_8 a0_9 a0_10 a0_11 a1_0 a1_1 a2_0 a2_1 a3 a4 wa0_0 wa0_1 wa0_2 wa0_4 wa0_5 wa0_6 wa0_7 wa0_8 wa0_9 wa0_10 wa1_0 wa1_1 wa2_0 wa2_1 wa3 wa4
  exact Go.Sx.call_args_at okayed hE ha Try.func9 body9e_eq (run9e n a0_0 a0_1 a0_2 a0_4 a0_5 a0_6 a0_7 a0_8 a0_9 a0_10 a0_11 a1_0 a1_1 a2_0 a2_1 a3 a4  true hn) hL

theorem walks {w : World} {E : Nat → Go.Sx.Ent} (hE : Go.Sx.GlobE E) (a0_0 : Int) (a0_1 : Int) (a0_2 : Int) (x0 : List Go.Sx.AV) (c0 : Nat) (k0 : Nat) (a0_4 : Int) (a0_5 : Int) (a0_6 : Int) (a0_7 : Int) (a0_8 : Int) (a0_9 : Int) (a0_10 : Int) (a0_11 : Bool) (a1_0 : Int) (a1_1 : Int) (a2_0 : Int) (a2_1 : Int) (a3 : Int) (a4 : Int) (wa0_0 : (Lit.int .u8 a0_0).wf = true) (wa0_1 : (Lit.int .u8 a0_1).wf = true) (wa0_2 : (Lit.int .u8 a0_2).wf = true) (wx0 : 0 < c0 ∧ c0 ≤ k0 ∧ k0 ≤ maxLen ∧ Go.Sx.KOk (Go.Sx.kRep c0 [.int .u8]) x0) (wa0_4 : (Lit.int .u8 a0_4).wf = true) (wa0_5 : (Lit.int .i32 a0_5).wf = true) (wa0_6 : (Lit.int .i32 a0_6).wf = true) (wa0_7 : (Lit.int .i32 a0_7).wf = true) (wa0_8 : (Lit.int .i32 a0_8).wf = true) (wa0_9 : (Lit.int .i32 a0_9).wf = true) (wa0_10 : (Lit.int .i32 a0_10).wf = true) (wa1_0 : (Lit.int .u8 a1_0).wf = true) (wa1_1 : (Lit.int .u8 a1_1).wf = true) (wa2_0 : (Lit.int .i8 a2_0).wf = true) (wa2_1 : (Lit.int .i8 a2_1).wf = true) (wa3 : (Lit.int .u8 a3).wf = true) (wa4 : (Lit.int .u8 a4).wf = true) (hL : Go.Sx.LaidAt E w [(0, x0)]) {ARGS : List Value} (ha : Go.Sx.RelL (Go.Sx.laidE E) [.agg [.int .u8 a0_0, .int .u8 a0_1, .int .u8 a0_2, .slc 1048576 0 c0 (.exact k0), .int .u8 a0_4, .int .i32 a0_5, .int .i32 a0_6, .int .i32 a0_7, .int .i32 a0_8, .int .i32 a0_9, .int .i32 a0_10, .bool a0_11], .agg [.int .u8 a1_0, .int .u8 a1_1], .agg [.int .i8 a2_0, .int .i8 a2_1], .int .u8 a3, .int .u8 a4] ARGS) :
    Calls Try.prog 9 ARGS.toArray w fun e w' => e = .returned (.bool true) ∧ Below w.heap.size w w' := by
  obtain ⟨n, hn⟩ := law_ok_s a0_0 a0_1 a0_2 x0 c0 k0 a0_4 a0_5 a0_6 a0_7 a0_8 a0_9 a0_10 a0_11 a1_0 a1_1 a2_0 a2_1 a3 a4 wa0_0 wa0_1 wa0_2 wx0 wa0_4 wa0_5 wa0_6 wa0_7 wa0_8 wa0_9 wa0_10 wa1_0 wa1_1 wa2_0 wa2_1 wa3 wa4
  exact Go.Sx.call_args_at okayed hE ha Try.func9 body9s_eq (run9s n a0_0 a0_1 a0_2 x0 c0 k0 a0_4 a0_5 a0_6 a0_7 a0_8 a0_9 a0_10 a0_11 a1_0 a1_1 a2_0 a2_1 a3 a4 (wx0.2.2.2.pure) true hn) hL

set_option maxRecDepth 100000 in
theorem lifted (os : Os) (started : os.Started) (H : Type) (enc : TypeId × Value → H) :
    ReturnsInHanded {} Try.checked os 9 .any (Rows.sampleScalesSpec.pre6 enc Try.prog Try.f9 Rows.sampleScalesRow.domain false) (Rows.sampleScalesSpec.post enc Try.prog Try.f9 false true false false) := by
  refine returnsInHanded_of_change (C := Try.checked) own started (by kernel_rfl) Try.func9
    (ChangeSpec.witness6 (enc := enc) (C := Try.checked) false ⟨#[], #[.agg #[.int .u8 0, .int .u8 0, .int .u8 0, .slice none 0 0, .int .u8 0, .int .i32 0, .int .i32 0, .int .i32 0, .int .i32 0, .int .i32 0, .int .i32 0, .bool false], .agg #[.int .u8 0, .int .u8 0], .agg #[.int .i8 0, .int .i8 0], .int .u8 0, .int .u8 0], []⟩ 8 (by kernel_rfl) (by kernel_rfl) (by kernel_rfl) (by kernel_rfl)) ?_
  intro W base args ds gs before hval0 hW hcnd _
  have hval : ∀ (j : Nat) t v, Try.f9.params[j]? = some t → args[j]? = some v → Value.okWide Try.prog W .any base t v := hval0
  have hW' := hW
  obtain ⟨p, q, hA0, hV, rfl, hfz, hnd⟩ := hW
  have hA : DataW.TrodAll enc Try.prog W 0 (fun _ => true) true Try.f9.params.toList args.toList ds p := hA0
  rw [Try.params9] at hA hval
  obtain ⟨v0, vs0, d0, ds0, p0, q0, hargs, rfl, rfl, h0, r0⟩ := trodAll_cons hA
  obtain ⟨v1, vs1, d1, ds1, p1, q1, rfl, rfl, rfl, h1, r1⟩ := trodAll_cons r0
  obtain ⟨v2, vs2, d2, ds2, p2, q2, rfl, rfl, rfl, h2, r2⟩ := trodAll_cons r1
  obtain ⟨v3, vs3, d3, ds3, p3, q3, rfl, rfl, rfl, h3, r3⟩ := trodAll_cons r2
  obtain ⟨v4, vs4, d4, ds4, p4, q4, rfl, rfl, rfl, h4, r4⟩ := trodAll_cons r3
  obtain ⟨rfl, rfl, rfl⟩ := trodAll_nil r4
  obtain rfl : args = #[v0, v1, v2, v3, v4] := by cases args; simp_all
  obtain ⟨rfl, rfl⟩ := trodVars_none hV
  obtain ⟨cs0, k0⟩ := Go.Sx.open_cs (ks := [.int .u8, .int .u8, .int .u8, .sl [.int .u8], .int .u8, .int .i32, .int .i32, .int .i32, .int .i32, .int .i32, .int .i32, .bool]) (by kernel_rfl) h0
  have g0 := k0
  obtain ⟨cs1, k1⟩ := Go.Sx.open_cs (ks := [.int .u8, .int .u8]) (by kernel_rfl) h1
  have g1 := k1
  obtain ⟨cs2, k2⟩ := Go.Sx.open_cs (ks := [.int .i8, .int .i8]) (by kernel_rfl) h2
  have g2 := k2
  obtain ⟨cs3, k3⟩ := Go.Sx.open_cs (ks := [.int .u8]) (by kernel_rfl) h3
  have g3 := k3
  obtain ⟨cs4, k4⟩ := Go.Sx.open_cs (ks := [.int .u8]) (by kernel_rfl) h4
  have g4 := k4
  clear hA0
  have done : Calls Try.prog 9 #[v0, v1, v2, v3, v4] W (fun e w' => e = .returned (.bool true) ∧ Below W.heap.size W w') := by
    obtain ⟨_, _, _, _, rfl, _, ⟨a0_0, rfl, wa0_0, rfl⟩, k0⟩ := k0
    obtain ⟨_, _, _, _, rfl, _, ⟨a0_1, rfl, wa0_1, rfl⟩, k0⟩ := k0
    obtain ⟨_, _, _, _, rfl, _, ⟨a0_2, rfl, wa0_2, rfl⟩, k0⟩ := k0
    obtain ⟨_, _, _, _, rfl, _, hS0, k0⟩ := k0
    obtain ⟨_, _, _, _, rfl, _, ⟨a0_4, rfl, wa0_4, rfl⟩, k0⟩ := k0
    obtain ⟨_, _, _, _, rfl, _, ⟨a0_5, rfl, wa0_5, rfl⟩, k0⟩ := k0
    obtain ⟨_, _, _, _, rfl, _, ⟨a0_6, rfl, wa0_6, rfl⟩, k0⟩ := k0
    obtain ⟨_, _, _, _, rfl, _, ⟨a0_7, rfl, wa0_7, rfl⟩, k0⟩ := k0
    obtain ⟨_, _, _, _, rfl, _, ⟨a0_8, rfl, wa0_8, rfl⟩, k0⟩ := k0
    obtain ⟨_, _, _, _, rfl, _, ⟨a0_9, rfl, wa0_9, rfl⟩, k0⟩ := k0
    obtain ⟨_, _, _, _, rfl, _, ⟨a0_10, rfl, wa0_10, rfl⟩, k0⟩ := k0
    obtain ⟨_, _, _, _, rfl, _, ⟨a0_11, rfl, rfl⟩, k0⟩ := k0
    obtain ⟨rfl, _⟩ := k0
    obtain ⟨_, _, _, _, rfl, _, ⟨a1_0, rfl, wa1_0, rfl⟩, k1⟩ := k1
    obtain ⟨_, _, _, _, rfl, _, ⟨a1_1, rfl, wa1_1, rfl⟩, k1⟩ := k1
    obtain ⟨rfl, _⟩ := k1
    obtain ⟨_, _, _, _, rfl, _, ⟨a2_0, rfl, wa2_0, rfl⟩, k2⟩ := k2
    obtain ⟨_, _, _, _, rfl, _, ⟨a2_1, rfl, wa2_1, rfl⟩, k2⟩ := k2
    obtain ⟨rfl, _⟩ := k2
    obtain ⟨_, _, _, _, rfl, _, ⟨a3, rfl, wa3, rfl⟩, k3⟩ := k3
    obtain ⟨rfl, _⟩ := k3
    obtain ⟨_, _, _, _, rfl, _, ⟨a4, rfl, wa4, rfl⟩, k4⟩ := k4
    obtain ⟨rfl, _⟩ := k4
    rcases hS0 with ⟨rfl, _⟩ | ⟨b0, s0, c0, k0', x0, rfl, p0, q0', m0, z0, u0, _⟩
    · skip
      exact walke (Go.Sx.argE_glob _) a0_0 a0_1 a0_2 a0_4 a0_5 a0_6 a0_7 a0_8 a0_9 a0_10 a0_11 a1_0 a1_1 a2_0 a2_1 a3 a4 wa0_0 wa0_1 wa0_2 wa0_4 wa0_5 wa0_6 wa0_7 wa0_8 wa0_9 wa0_10 wa1_0 wa1_1 wa2_0 wa2_1 wa3 wa4 (Go.Sx.laid_nil _ _) (ARGS := [v0, v1, v2, v3, v4]) ⟨_, _, Go.Sx.rel_agg_cs (E := (Go.Sx.argE [])) (n := 0) (.inl ⟨_, Try.underlying72⟩) (hval 0 72 v0 rfl rfl) g0 trivial, ⟨_, _, Go.Sx.rel_agg_cs (E := (Go.Sx.argE [])) (n := 0) (.inr ⟨_, _, Try.underlying66⟩) (hval 1 66 v1 rfl rfl) g1 trivial, ⟨_, _, Go.Sx.rel_agg_cs (E := (Go.Sx.argE [])) (n := 0) (.inr ⟨_, _, Try.underlying79⟩) (hval 2 79 v2 rfl rfl) g2 trivial, ⟨_, _, Go.Sx.rel_one_cs (E := (Go.Sx.argE [])) (n := 0) (t := 5) (Go.Sx.one_int Try.underlying5 (hval 3 5 v3 rfl rfl)) g3 trivial rfl, ⟨_, _, Go.Sx.rel_one_cs (E := (Go.Sx.argE [])) (n := 0) (t := 5) (Go.Sx.one_int Try.underlying5 (hval 4 5 v4 rfl rfl)) g4 trivial rfl, rfl, rfl⟩, rfl⟩, rfl⟩, rfl⟩, rfl⟩
    · skip
      exact walks (Go.Sx.argE_glob _) a0_0 a0_1 a0_2 x0 c0 k0' a0_4 a0_5 a0_6 a0_7 a0_8 a0_9 a0_10 a0_11 a1_0 a1_1 a2_0 a2_1 a3 a4 wa0_0 wa0_1 wa0_2 ⟨p0, q0', m0, z0⟩ wa0_4 wa0_5 wa0_6 wa0_7 wa0_8 wa0_9 wa0_10 wa1_0 wa1_1 wa2_0 wa2_1 wa3 wa4 (Go.Sx.laid_more (E := (Go.Sx.argE [(b0, s0)])) (g := 0) u0 (Go.Sx.laid_nil _ _)) (ARGS := [v0, v1, v2, v3, v4]) ⟨_, _, Go.Sx.rel_agg_cs (E := (Go.Sx.argE [(b0, s0)])) (n := 0) (.inl ⟨_, Try.underlying72⟩) (hval 0 72 v0 rfl rfl) g0 ⟨rfl, trivial⟩, ⟨_, _, Go.Sx.rel_agg_cs (E := (Go.Sx.argE [(b0, s0)])) (n := 1) (.inr ⟨_, _, Try.underlying66⟩) (hval 1 66 v1 rfl rfl) g1 trivial, ⟨_, _, Go.Sx.rel_agg_cs (E := (Go.Sx.argE [(b0, s0)])) (n := 1) (.inr ⟨_, _, Try.underlying79⟩) (hval 2 79 v2 rfl rfl) g2 trivial, ⟨_, _, Go.Sx.rel_one_cs (E := (Go.Sx.argE [(b0, s0)])) (n := 1) (t := 5) (Go.Sx.one_int Try.underlying5 (hval 3 5 v3 rfl rfl)) g3 trivial rfl, ⟨_, _, Go.Sx.rel_one_cs (E := (Go.Sx.argE [(b0, s0)])) (n := 1) (t := 5) (Go.Sx.one_int Try.underlying5 (hval 4 5 v4 rfl rfl)) g4 trivial rfl, rfl, rfl⟩, rfl⟩, rfl⟩, rfl⟩, rfl⟩
  refine done.mono fun e W' ⟨he, hg⟩ => ?_
  subst he
  exact ⟨_, rfl, Go.Sx.post_of_below (pv := []) hW' (fun _ _ _ => (trodAll_cons_mk (shut_bool Try.underlying4 _) trodAll_mk0)) (fun sp hsp => (trodAll_cons_mk (Go.Sx.stays_below laidOut (by kernel_rfl) (Nat.le_of_ble_eq_true (by kernel_rfl)) h0 hg (fun p hp => hsp p (by simp [hp]))) (trodAll_cons_mk (Go.Sx.stays_below laidOut (by kernel_rfl) (Nat.le_of_ble_eq_true (by kernel_rfl)) h1 hg (fun p hp => hsp p (by simp [hp]))) (trodAll_cons_mk (Go.Sx.stays_below laidOut (by kernel_rfl) (Nat.le_of_ble_eq_true (by kernel_rfl)) h2 hg (fun p hp => hsp p (by simp [hp]))) (trodAll_cons_mk (Go.Sx.stays_below laidOut (by kernel_rfl) (Nat.le_of_ble_eq_true (by kernel_rfl)) h3 hg (fun p hp => hsp p (by simp [hp]))) (trodAll_cons_mk (Go.Sx.stays_below laidOut (by kernel_rfl) (Nat.le_of_ble_eq_true (by kernel_rfl)) h4 hg (fun p hp => hsp p (by simp [hp]))) trodAll_mk0)))))) (fun _ _ => rfl) (by simp)
    hg (ok_one (by kernel_rfl) rfl (okWide_bool_mk Try.underlying4 _))⟩

theorem over : Rows.sampleScalesRow.holds Try.pinned (OpenSpec.ofChange Rows.sampleScalesSpec) :=
  OpenClaim.holds_of_wide 9 Try.f9 rfl rfl rfl rfl rfl rfl rfl ⟨rfl, rfl, rfl, rfl, rfl⟩ rfl rfl rfl rfl rfl (by kernel_rfl) Try.func9 (by kernel_rfl)
    (of_decide_eq_true (by kernel_rfl)) (by unfold Func.isWrapper; first | (rw [if_pos (by decide +kernel)]; kernel_rfl) | (rw [if_neg (by decide +kernel)]; exact ⟨rfl, rfl⟩))
    (fun os started H enc _ => lifted os started H enc)

theorem proved : Rows.SampleScalesSaid := over
#print axioms proved
end Go.Proofs.Ytldghibpecmpjaa.sampleScales
