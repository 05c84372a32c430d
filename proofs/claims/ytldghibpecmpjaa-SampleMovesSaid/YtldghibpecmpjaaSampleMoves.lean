/- 'chase/chaselaw28.SampleMoves' returns true for every argument, and nothing that was there is changed. The first parts are the texts before: each function of the run as a term. Here: the numbers, and the rest. -/
import Derived.Test.YtldghibpecmpjaaSampleMovesA
namespace Go.Proofs.Ytldghibpecmpjaa.sampleMoves
open Go.ChangeShapes Go.WideShapes Go.ChangeAt Go.WideMaps Go.WideElems Go.RowKit
set_option linter.unusedVariables false
section
open Go.Sx
set_option maxRecDepth 1000000

set_option maxRecDepth 100000
theorem cS {α : Type} (b : Bool) (x y : α) : (bif b then some x else some y) = some (bif b then x else y) := by cases b <;> rfl
theorem condP (b x y : Bool) : ((bif b then x else y) = true) = ((b = true ∧ x = true) ∨ (b = false ∧ y = true)) := by cases b <;> simp
theorem condF (b x y : Bool) : ((bif b then x else y) = false) = ((b = true ∧ x = false) ∨ (b = false ∧ y = false)) := by cases b <;> simp
theorem nneg_f (b : Bool) : ((!b) = false) = (b = true) := by cases b <;> simp
theorem andB_t (a b : Bool) : (andB a b = true) = (a = true ∧ b = true) := by cases a <;> simp [andB]
theorem andB_f (a b : Bool) : (andB a b = false) = (a = false ∨ b = false) := by cases a <;> simp [andB]
theorem strNil_t (s : List Nat) : (strEq s [] = true) = (s.length = 0) := by cases s <;> simp [strEq]
theorem strNil_f (s : List Nat) : (strEq s [] = false) = (s.length ≠ 0) := by cases s <;> simp [strEq]
theorem strEq_same (s : List Nat) : strEq s s = true := by simp [strEq]
theorem eqI_same (n : Int) : eqI n n = true := by rw [eqI_t]
theorem cT {α : Type} {b : Bool} {x y : α} (h : b = true) : (bif b then x else y) = x := by rw [h]; rfl
theorem cF {α : Type} {b : Bool} {x y : α} (h : b = false) : (bif b then x else y) = y := by rw [h]; rfl
theorem ltT {x y : Int} (h : x < y) : ltI x y = true := by rw [ltI_t]; exact h
theorem ltF {x y : Int} (h : y ≤ x) : ltI x y = false := by rw [ltI_f]; exact h
theorem eqT {x y : Int} (h : x = y) : eqI x y = true := by rw [eqI_t]; exact h
theorem eqF {x y : Int} (h : x ≠ y) : eqI x y = false := by rw [eqI_f]; exact h
theorem inT {i : Int} {n : Nat} (h1 : 0 ≤ i) (h2 : i.toNat < n) : inB i n = true := by rw [inB_t]; exact ⟨h1, h2⟩
theorem at1 (i : Int) : atI 0 i 1 = i.toNat := by simp [atI]
/-- q is n / d, rounded down -/
def Fl (x y q : Int) : Prop := (0 < y → y * q ≤ x ∧ x < y * q + y) ∧ (y < 0 → x ≤ y * q ∧ y * q + y < x)
theorem f90 {x y : Int} (hx : -1152921504606846976 ≤ x ∧ x ≤ 1152921504606846976) (hy : y ≠ 0) : ∃ q, F90 x y = some q ∧ Fl x y q ∧ (F89 x y = some q) := by
  have e := Int.mul_tdiv_add_tmod x y
  have b : (Int.tdiv x y).natAbs ≤ x.natAbs := by rw [Int.natAbs_tdiv]; exact Nat.div_le_self _ _
  have w0 : wrapA .i64 (Int.tdiv x y) = Int.tdiv x y := wrap64 (by omega) (by omega)
  have w1 : wrapA .i64 (Int.sub (Int.tdiv x y) 1) = Int.tdiv x y - 1 := by rw [sub_int]; exact wrap64 (by omega) (by omega)
  have f89 : ∀ q, F90 x y = some q → F89 x y = some q := fun q h => by unfold F89 F90_0; rw [h]; rfl
  have hr : (0 ≤ x → 0 ≤ Int.tmod x y ∧ Int.tmod x y < y.natAbs) ∧ (x < 0 → Int.tmod x y ≤ 0 ∧ -(y.natAbs : Int) < Int.tmod x y) := by
    refine ⟨fun h => ?_, fun h => ?_⟩
    · rw [Int.tmod_eq_emod_of_nonneg h]
      exact ⟨Int.emod_nonneg _ hy, Int.emod_lt _ hy⟩
    · have k : Int.tmod x y = -(Int.tmod (-x) y) := by rw [Int.neg_tmod]; omega
      rw [k, Int.tmod_eq_emod_of_nonneg (by omega)]
      have h1 := Int.emod_nonneg (-x) hy
      have h2 := Int.emod_lt (-x) hy
      omega
  unfold F90 c90_0 at f89 ⊢
  rw [eqF hy] at f89 ⊢
  by_cases z : Int.tmod x y = 0
  · rw [eqT z, w0] at f89 ⊢
    refine ⟨_, rfl, ⟨fun h => ?_, fun h => ?_⟩, f89 _ rfl⟩ <;> omega
  · rw [eqF z, w0, w1] at f89 ⊢
    by_cases s : x < 0
    · rw [ltT s] at f89 ⊢
      by_cases t : y < 0
      · rw [ltT t] at f89 ⊢
        refine ⟨_, rfl, ⟨fun h => ?_, fun h => ?_⟩, f89 _ rfl⟩
        · omega
        · have := hr.2 s; omega
      · rw [ltF (by omega : (0 : Int) ≤ y)] at f89 ⊢
        have := hr.2 s
        refine ⟨_, rfl, ⟨fun h => ?_, fun h => ?_⟩, f89 _ rfl⟩ <;> (rw [Int.mul_sub]; omega)
    · rw [ltF (by omega : (0 : Int) ≤ x)] at f89 ⊢
      by_cases t : y < 0
      · rw [ltT t] at f89 ⊢
        have := hr.1 (by omega)
        refine ⟨_, rfl, ⟨fun h => ?_, fun h => ?_⟩, f89 _ rfl⟩ <;> (rw [Int.mul_sub]; omega)
      · rw [ltF (by omega : (0 : Int) ≤ y)] at f89 ⊢
        have := hr.1 (by omega)
        refine ⟨_, rfl, ⟨fun h => ?_, fun h => ?_⟩, f89 _ rfl⟩ <;> omega
theorem mul_bd {x y a b : Int} (hx : -a ≤ x ∧ x ≤ a) (hy : -b ≤ y ∧ y ≤ b) : -(a * b) ≤ x * y ∧ x * y ≤ a * b := by
  have h : (x * y).natAbs ≤ a.natAbs * b.natAbs := by rw [Int.natAbs_mul]; exact Nat.mul_le_mul (by omega) (by omega)
  have e : ((a.natAbs * b.natAbs : Nat) : Int) = a * b := by rw [Int.natCast_mul, Int.natAbs_of_nonneg (by omega), Int.natAbs_of_nonneg (by omega)]
  omega
/-- a matrix -/
structure Mx (a b c d e f : Int) : Prop where
  a1 : -16777216 ≤ a ∧ a ≤ 16777216
  b1 : -16777216 ≤ b ∧ b ≤ 16777216
  c1 : -16777216 ≤ c ∧ c ≤ 16777216
  d1 : -16777216 ≤ d ∧ d ≤ 16777216
  e1 : -536870912 ≤ e ∧ e ≤ 536870912
  f1 : -536870912 ≤ f ∧ f ≤ 536870912
structure Pic (w h n : Int) (s : List Nat) : Prop where
  w1 : 1 ≤ w ∧ w ≤ 9
  h1 : 1 ≤ h ∧ h ≤ 9
  n1 : n = 1 ∨ n = 3 ∨ n = 4
  len : (s.length : Int) = w * h * n
theorem f20 {a b c d e f : Int} (M : Mx a b c d e f) : F20_0 a b c d e f = 0 := by
  obtain ⟨⟨a1, a2⟩, ⟨b1, b2⟩, ⟨c1, c2⟩, ⟨d1, d2⟩, ⟨e1, e2⟩, ⟨f1, f2⟩⟩ := M
  unfold F20_0 F20
  rw [ltF a1, ltF a2, ltF b1, ltF b2, ltF c1, ltF c2, ltF d1, ltF d2, ltF e1, ltF e2, ltF f1, ltF f2]; rfl
theorem wh_bd {w h n : Int} (hw : 1 ≤ w ∧ w ≤ 9) (hh : 1 ≤ h ∧ h ≤ 9) (hn : n = 1 ∨ n = 3 ∨ n = 4) : 1 ≤ w * h ∧ w * h ≤ 81 ∧ 1 ≤ w * h * n ∧ w * h * n ≤ 324 := by
  have a : w * h ≤ 9 * 9 := Int.mul_le_mul hw.2 hh.2 (by omega) (by omega)
  have b : 1 * 1 ≤ w * h := Int.mul_le_mul hw.1 hh.1 (by omega) (by omega)
  rcases hn with rfl | rfl | rfl <;> omega
theorem f121 {w h n a b c d e f : Int} {s : List Nat} (P : Pic w h n s) (M : Mx a b c d e f) : F121_0 w h n s a b c d e f = 0 := by
  obtain ⟨⟨w1, w2⟩, ⟨h1, h2⟩, hn, hl⟩ := P
  have hb := wh_bd ⟨w1, w2⟩ ⟨h1, h2⟩ hn
  have e1 : wrapA .i64 (Int.mul w h) = w * h := by rw [mul_int]; exact wrap64 (by omega) (by omega)
  have e2 : wrapA .i64 (Int.mul (w * h) n) = w * h * n := by rw [mul_int]; exact wrap64 (by omega) (by omega)
  have k1 : c121_1 w h n s = false := by unfold c121_1; rw [e1, e2, eqT hl]; rfl
  have k0 : c121_0 w h = false := by
    unfold c121_0 F91a_0 F91a
    rw [ltF w1, ltF (by omega : w ≤ 64), ltF h1, ltF (by omega : h ≤ 64)]; rfl
  have k2 : n = 4 → c121_2 w h n = false := fun q => by
    unfold c121_2 F91a_0 F91a
    rw [ltF w1, ltF (by omega : w ≤ 64), ltF h1, ltF (by omega : h ≤ 64), eqT q]; rfl
  unfold F121_0 F121
  rw [k0, k1, f20 M]
  rcases hn with rfl | rfl | rfl
  · rfl
  · rfl
  · rw [k2 rfl]; rfl
/-- the sample under a pixel -/
structure At (w h a b c d e f x y : Int) (i j : Int) (z : Bool) : Prop where
  none : z = false → i = 0 ∧ j = 0
  flat : a * d - b * c = 0 → z = false
  some : a * d - b * c ≠ 0 → ∃ p q, Fl (d * (65536 * x + 32768 - e) - c * (65536 * y + 32768 - f)) (a * d - b * c) p ∧ Fl (a * (65536 * y + 32768 - f) - b * (65536 * x + 32768 - e)) (a * d - b * c) q ∧
    (z = true ↔ 0 ≤ p ∧ p < w ∧ 0 ≤ q ∧ q < h) ∧ (z = true → i = p ∧ j = q)
/-- the numbers of a sample -/
theorem nums {a b c d e f x y : Int} (M : Mx a b c d e f) (x1 : -1024 ≤ x) (x2 : x < 1024) (y1 : -1024 ≤ y) (y2 : y < 1024) :
    t42_5 c d e f x y = d * (65536 * x + 32768 - e) - c * (65536 * y + 32768 - f) ∧ t42_6 a b e f x y = a * (65536 * y + 32768 - f) - b * (65536 * x + 32768 - e) ∧
    wrapA .i64 (Int.sub (wrapA .i64 (Int.mul a d)) (wrapA .i64 (Int.mul b c))) = a * d - b * c ∧
    (-36028797018963968 ≤ d * (65536 * x + 32768 - e) - c * (65536 * y + 32768 - f) ∧ d * (65536 * x + 32768 - e) - c * (65536 * y + 32768 - f) ≤ 36028797018963968) ∧
    (-36028797018963968 ≤ a * (65536 * y + 32768 - f) - b * (65536 * x + 32768 - e) ∧ a * (65536 * y + 32768 - f) - b * (65536 * x + 32768 - e) ≤ 36028797018963968) ∧
    (-562949953421312 ≤ a * d - b * c ∧ a * d - b * c ≤ 562949953421312) := by
  have m1 := mul_bd M.a1 M.d1
  have m2 := mul_bd M.b1 M.c1
  obtain ⟨e1, e2⟩ := M.e1
  obtain ⟨f1, f2⟩ := M.f1
  have tx : t42_3 e x = 65536 * x + 32768 - e := by
    unfold t42_3
    rw [mul_int, wrap64 (n := 65536 * x) (by omega) (by omega), add_int, wrap64 (n := 65536 * x + 32768) (by omega) (by omega), sub_int]; exact wrap64 (by omega) (by omega)
  have ty : t42_4 f y = 65536 * y + 32768 - f := by
    unfold t42_4
    rw [mul_int, wrap64 (n := 65536 * y) (by omega) (by omega), add_int, wrap64 (n := 65536 * y + 32768) (by omega) (by omega), sub_int]; exact wrap64 (by omega) (by omega)
  have ux : -1073741824 ≤ 65536 * x + 32768 - e ∧ 65536 * x + 32768 - e ≤ 1073741824 := by omega
  have uy : -1073741824 ≤ 65536 * y + 32768 - f ∧ 65536 * y + 32768 - f ≤ 1073741824 := by omega
  have n1 := mul_bd M.d1 ux
  have n2 := mul_bd M.c1 uy
  have n3 := mul_bd M.a1 uy
  have n4 := mul_bd M.b1 ux
  refine ⟨?_, ?_, ?_, by omega, by omega, by omega⟩
  · unfold t42_5
    rw [tx, ty, mul_int, mul_int, wrap64 (n := d * (65536 * x + 32768 - e)) (by omega) (by omega), wrap64 (n := c * (65536 * y + 32768 - f)) (by omega) (by omega), sub_int]; exact wrap64 (by omega) (by omega)
  · unfold t42_6
    rw [tx, ty, mul_int, mul_int, wrap64 (n := a * (65536 * y + 32768 - f)) (by omega) (by omega), wrap64 (n := b * (65536 * x + 32768 - e)) (by omega) (by omega), sub_int]; exact wrap64 (by omega) (by omega)
  · rw [mul_int, mul_int, wrap64 (n := a * d) (by omega) (by omega), wrap64 (n := b * c) (by omega) (by omega), sub_int]; exact wrap64 (by omega) (by omega)
/-- rounded down, and where it lies -/
theorem fl_in {X D p w : Int} (hD : 0 < D) (h1 : D * p ≤ X) (h2 : X < D * p + D) : (0 ≤ p ↔ 0 ≤ X) ∧ (p < w ↔ X < w * D) := by
  refine ⟨⟨fun h => ?_, fun h => ?_⟩, ⟨fun h => ?_, fun h => ?_⟩⟩
  · have := Int.mul_nonneg (by omega : 0 ≤ D) h; omega
  · by_cases q : 0 ≤ p
    · exact q
    · have k : D * (p + 1) ≤ D * 0 := Int.mul_le_mul_of_nonneg_left (by omega) (by omega)
      rw [Int.mul_add] at k; omega
  · have k : D * (p + 1) ≤ D * w := Int.mul_le_mul_of_nonneg_left (by omega) (by omega)
    rw [Int.mul_add] at k; rw [Int.mul_comm w D]; omega
  · by_cases q : p < w
    · exact q
    · have k : D * w ≤ D * p := Int.mul_le_mul_of_nonneg_left (by omega) (by omega)
      rw [Int.mul_comm w D] at h; omega
theorem f42 {w h n a b c d e f x y : Int} {s : List Nat} (P : Pic w h n s) (M : Mx a b c d e f) (x1 : -1024 ≤ x) (x2 : x < 1024) (y1 : -1024 ≤ y) (y2 : y < 1024) :
    ∃ i j z, F42 w h n s a b c d e f x y = some (i, j, z, 0) ∧ At w h a b c d e f x y i j z := by
  have m1 := mul_bd M.a1 M.d1
  have m2 := mul_bd M.b1 M.c1
  obtain ⟨e1, e2⟩ := M.e1
  obtain ⟨f1, f2⟩ := M.f1
  have tx : t42_3 e x = 65536 * x + 32768 - e := by
    unfold t42_3
    rw [mul_int, wrap64 (n := 65536 * x) (by omega) (by omega), add_int, wrap64 (n := 65536 * x + 32768) (by omega) (by omega), sub_int]; exact wrap64 (by omega) (by omega)
  have ty : t42_4 f y = 65536 * y + 32768 - f := by
    unfold t42_4
    rw [mul_int, wrap64 (n := 65536 * y) (by omega) (by omega), add_int, wrap64 (n := 65536 * y + 32768) (by omega) (by omega), sub_int]; exact wrap64 (by omega) (by omega)
  have ux : -1073741824 ≤ 65536 * x + 32768 - e ∧ 65536 * x + 32768 - e ≤ 1073741824 := by omega
  have uy : -1073741824 ≤ 65536 * y + 32768 - f ∧ 65536 * y + 32768 - f ≤ 1073741824 := by omega
  have ed : wrapA .i64 (Int.sub (wrapA .i64 (Int.mul a d)) (wrapA .i64 (Int.mul b c))) = a * d - b * c := by
    rw [mul_int, mul_int, wrap64 (n := a * d) (by omega) (by omega), wrap64 (n := b * c) (by omega) (by omega), sub_int]; exact wrap64 (by omega) (by omega)
  have n1 := mul_bd M.d1 ux
  have n2 := mul_bd M.c1 uy
  have n3 := mul_bd M.a1 uy
  have n4 := mul_bd M.b1 ux
  have e5 : t42_5 c d e f x y = d * (65536 * x + 32768 - e) - c * (65536 * y + 32768 - f) := by
    unfold t42_5
    rw [tx, ty, mul_int, mul_int, wrap64 (n := d * (65536 * x + 32768 - e)) (by omega) (by omega), wrap64 (n := c * (65536 * y + 32768 - f)) (by omega) (by omega), sub_int]; exact wrap64 (by omega) (by omega)
  have e6 : t42_6 a b e f x y = a * (65536 * y + 32768 - f) - b * (65536 * x + 32768 - e) := by
    unfold t42_6
    rw [tx, ty, mul_int, mul_int, wrap64 (n := a * (65536 * y + 32768 - f)) (by omega) (by omega), wrap64 (n := b * (65536 * x + 32768 - e)) (by omega) (by omega), sub_int]; exact wrap64 (by omega) (by omega)
  have k0 : c42_0 w h n s a b c d e f = false := by unfold c42_0; rw [f121 P M]; rfl
  have k1 : c42_1 x y = false := by
    unfold c42_1 F91b_0 F91b
    rw [ltF x1, ltT x2, ltF y1, ltT y2]; rfl
  unfold F42
  rw [k0, k1, ed, e5, e6]
  generalize hX : d * (65536 * x + 32768 - e) - c * (65536 * y + 32768 - f) = X at *
  generalize hY : a * (65536 * y + 32768 - f) - b * (65536 * x + 32768 - e) = Y at *
  by_cases z : a * d - b * c = 0
  · have k2 : c42_2 a b c d = true := by unfold c42_2; rw [ed]; exact eqT z
    rw [k2]
    exact ⟨0, 0, false, rfl, fun _ => ⟨rfl, rfl⟩, fun _ => rfl, fun q => absurd z q⟩
  · have k2 : c42_2 a b c d = false := by unfold c42_2; rw [ed]; exact eqF z
    obtain ⟨p, p1, p2, p3⟩ := f90 (x := X) (by omega) z
    obtain ⟨q, q1, q2, q3⟩ := f90 (x := Y) (by omega) z
    have p4 : F89_0 X (a * d - b * c) = p := by unfold F89_0; rw [p3]; rfl
    have q4 : F89_0 Y (a * d - b * c) = q := by unfold F89_0; rw [q3]; rfl
    have g7 : c42_7 a b c d e f x y = !ltI p 0 := by unfold c42_7; rw [ed, e5, p4]
    have g8 : c42_8 w a b c d e f x y = ltI p w := by unfold c42_8; rw [ed, e5, p4]
    have g9 : c42_9 a b c d e f x y = !ltI q 0 := by unfold c42_9; rw [ed, e6, q4]
    have g10 : c42_10 h a b c d e f x y = ltI q h := by unfold c42_10; rw [ed, e6, q4]
    have g11 : t42_11 a b c d e f x y = p := by unfold t42_11; rw [ed, e5, p4]
    have g12 : t42_12 a b c d e f x y = q := by unfold t42_12; rw [ed, e6, q4]
    rw [k2, p3, q3, g11, g12]
    by_cases v : 0 ≤ p ∧ p < w ∧ 0 ≤ q ∧ q < h
    · obtain ⟨v1, v2, v3, v4⟩ := v
      have k13 : c42_13 w h a b c d e f x y = false := by unfold c42_13 F91b_0 F91b; rw [g7, g8, g9, g10, ltF v1, ltT v2, ltF v3, ltT v4]; rfl
      rw [k13]
      exact ⟨p, q, true, rfl, (fun q => by cases q), fun q => absurd q z, fun _ => ⟨p, q, by rw [hX]; exact p2, by rw [hY]; exact q2, ⟨fun _ => ⟨v1, v2, v3, v4⟩, fun _ => rfl⟩, fun _ => ⟨rfl, rfl⟩⟩⟩
    · have k13 : c42_13 w h a b c d e f x y = true := by
        unfold c42_13 F91b_0 F91b; rw [g7, g8, g9, g10]
        by_cases v1 : 0 ≤ p
        · rw [ltF v1]
          by_cases v2 : p < w
          · rw [ltT v2]
            by_cases v3 : 0 ≤ q
            · rw [ltF v3, ltF (by omega : h ≤ q)]; rfl
            · rw [ltT (by omega : q < 0)]; rfl
          · rw [ltF (by omega : w ≤ p)]; rfl
        · rw [ltT (by omega : p < 0)]; rfl
      rw [k13]
      exact ⟨0, 0, false, rfl, fun _ => ⟨rfl, rfl⟩, fun _ => rfl, fun _ => ⟨p, q, by rw [hX]; exact p2, by rw [hY]; exact q2, ⟨(fun q => by cases q), fun u => absurd u v⟩, (fun q => by cases q)⟩⟩
theorem wf_i8 {n : Int} (h : (Lit.int .i8 n).wf = true) : -128 ≤ n ∧ n ≤ 127 := wf_bounds h

theorem w64 {n : Int} (h1 : 0 ≤ n) (h2 : n ≤ 1000000) : wrapA .i64 n = n := wrap64 (by omega) (by omega)
theorem side {a : Int} (h1 : 0 ≤ a) (h2 : a ≤ 255) : ∃ W, wrapA .i64 (Int.add 1 (wrapA .i64 (Int.tmod a 9))) = W ∧ 1 ≤ W ∧ W ≤ 9 := by
  have e : Int.tmod a 9 = a % 9 := Int.tmod_eq_emod_of_nonneg h1
  have := Int.emod_nonneg a (show (9 : Int) ≠ 0 by omega)
  have := Int.emod_lt_of_pos a (show (0 : Int) < 9 by omega)
  refine ⟨_, rfl, ?_⟩
  rw [e, w64 (n := a % 9) (by omega) (by omega), add_int, w64 (by omega) (by omega)]
  omega
theorem comp {a : Int} (h1 : 0 ≤ a) (h2 : a ≤ 255) : ∃ m, inB (Int.tmod a 3) 3 = true ∧ cellB [AV.int .i64 1, AV.int .i64 3, AV.int .i64 4] (atI 0 (Int.tmod a 3) 1) (CK.int .i64) = true ∧ intC [AV.int .i64 1, AV.int .i64 3, AV.int .i64 4] (atI 0 (Int.tmod a 3) 1) = m ∧ (m = 1 ∨ m = 3 ∨ m = 4) := by
  have e : Int.tmod a 3 = a % 3 := Int.tmod_eq_emod_of_nonneg h1
  have k : a % 3 = 0 ∨ a % 3 = 1 ∨ a % 3 = 2 := by omega
  rw [e]
  rcases k with k | k | k <;> rw [k]
  · exact ⟨1, by kernel_rfl, by kernel_rfl, by kernel_rfl, .inl rfl⟩
  · exact ⟨3, by kernel_rfl, by kernel_rfl, by kernel_rfl, .inr (.inl rfl)⟩
  · exact ⟨4, by kernel_rfl, by kernel_rfl, by kernel_rfl, .inr (.inr rfl)⟩
theorem tb1 (x : Int) : -16777216 ≤ Int.tmod x 16777217 ∧ Int.tmod x 16777217 ≤ 16777216 := by have := tmod_bd x (c := 16777217) (by omega); omega
theorem tb2 (x : Int) : -16777216 ≤ Int.tmod x 300000 ∧ Int.tmod x 300000 ≤ 16777216 := by have := tmod_bd x (c := 300000) (by omega); omega
theorem tb3 (x : Int) : -536870912 ≤ Int.tmod x 536870913 ∧ Int.tmod x 536870913 ≤ 536870912 := by have := tmod_bd x (c := 536870913) (by omega); omega
theorem tb4 (x : Int) : -536870912 ≤ Int.tmod x 9000000 ∧ Int.tmod x 9000000 ≤ 536870912 := by have := tmod_bd x (c := 9000000) (by omega); omega
theorem tb5 (x : Int) : -16777216 ≤ Int.tmod x 400000 ∧ Int.tmod x 400000 ≤ 16777216 := by have := tmod_bd x (c := 400000) (by omega); omega
theorem tb6 (x : Int) : -536870912 ≤ Int.tmod x 3000000 ∧ Int.tmod x 3000000 ≤ 536870912 := by have := tmod_bd x (c := 3000000) (by omega); omega
theorem mx62 (k a b c d e f : Int) : Mx (F62_0 k a b c d e f) (F62_1 k a b c d e f) (F62_2 k a b c d e f) (F62_3 k a b c d e f) (F62_4 k a b c d e f) (F62_5 k a b c d e f) := by
  have z1 : (-16777216 : Int) ≤ 0 ∧ (0 : Int) ≤ 16777216 := by omega
  unfold F62_0 F62_1 F62_2 F62_3 F62_4 F62_5 F62
  cases eqI (Int.tmod k 4) 0
  · cases eqI (Int.tmod k 4) 1
    · cases eqI (Int.tmod k 4) 2
      · exact ⟨z1, tb2 _, tb2 _, z1, tb4 _, tb4 _⟩
      · exact ⟨tb2 _, z1, z1, tb2 _, tb4 _, tb4 _⟩
    · exact ⟨tb2 _, tb2 _, tb2 _, tb2 _, tb4 _, tb4 _⟩
  · exact ⟨tb1 _, tb1 _, tb1 _, tb1 _, tb3 _, tb3 _⟩
theorem mxN (a b c d e f : Int) : Mx (Int.tmod a 400000) (Int.tmod b 400000) (Int.tmod c 400000) (Int.tmod d 400000) (Int.tmod e 3000000) (Int.tmod f 3000000) := ⟨tb5 _, tb5 _, tb5 _, tb5 _, tb6 _, tb6 _⟩
/-- octets as cells -/
def AllU (l : List AV) (m : Nat) : Prop := l.length = m ∧ ∀ c, c ∈ l → ∃ b : Int, c = .int .u8 b
theorem allU_pure : ∀ {l : List AV}, (∀ c, c ∈ l → ∃ b : Int, c = .int .u8 b) → pureAVs l = true
  | [], _ => rfl
  | c :: l, h => by
    obtain ⟨b, rfl⟩ := h c (by simp)
    simp only [pureAVs, pureAV, Bool.true_and]
    exact allU_pure (fun c hc => h c (by simp [hc]))
theorem allU_str {l : List AV} {m : Nat} (h : AllU l m) : strOk l 0 m = true ∧ (Go.Sx.strOf l 0 m).length = m := by
  obtain ⟨h1, h2⟩ := h
  have ht : (l.drop 0).take m = l := by rw [List.drop_zero, List.take_of_length_le (by omega)]
  refine ⟨?_, ?_⟩
  · simp only [strOk, ht, Bool.and_eq_true]
    refine ⟨Nat.ble_eq_true_of_le (by omega), ?_⟩
    rw [List.all_eq_true]; intro c hc
    obtain ⟨b, rfl⟩ := h2 c hc; rfl
  · simp only [Go.Sx.strOf, ht, List.length_map]; exact h1
theorem allU_rep : ∀ (m : Nat), AllU (repeatL m [.int .u8 0]) m
  | 0 => ⟨rfl, fun c hc => by cases hc⟩
  | m + 1 => by
    obtain ⟨h1, h2⟩ := allU_rep m
    refine ⟨by simp [repeatL, h1], fun c hc => ?_⟩
    simp only [repeatL, List.cons_append, List.nil_append, List.mem_cons] at hc
    rcases hc with rfl | hc
    · exact ⟨0, rfl⟩
    · exact h2 c hc
theorem allU_put {l : List AV} {m i : Nat} {b : Int} (h : AllU l m) (hi : i < m) : putOk l i 1 = true ∧ AllU (putL l i [.int .u8 b]) m := by
  obtain ⟨k1, k2⟩ := h
  refine ⟨Nat.ble_eq_true_of_le (by omega), ?_, fun c hc => ?_⟩
  · simp only [putL, List.length_append, List.length_take, List.length_drop, List.length_cons, List.length_nil]; omega
  · simp only [putL, List.mem_append, List.mem_cons, List.not_mem_nil, or_false] at hc
    rcases hc with (hc | rfl) | hc
    · exact k2 c (List.mem_of_mem_take hc)
    · exact ⟨b, rfl⟩
    · exact k2 c (List.mem_of_mem_drop hc)
theorem u8_at : ∀ {m : Nat} {x : List AV}, KOk (kRep m [.int .u8]) x → ∀ i, i < m → ∃ b : Int, nth x i = some (.int .u8 b) ∧ 0 ≤ b ∧ b ≤ 255
  | 0, _, _, i, hi => by omega
  | m + 1, _, h, i, hi => by
    obtain ⟨b, r, rfl, hb, h⟩ := h
    cases i with
    | zero => exact ⟨b, rfl, wf_u8 hb⟩
    | succ i => exact u8_at h i (by omega)
theorem u8_cell {m : Nat} {x : List AV} (h : KOk (kRep m [.int .u8]) x) {i : Nat} (hi : i < m) : cellB x i (.int .u8) = true := by
  obtain ⟨b, h1, h2, h3⟩ := u8_at h i hi
  simp only [cellB, isIntC, h1]
  simp
theorem fill (a0_0 a0_1 a0_2 : Int) (x0 : List AV) (c0 k0 : Nat) (a0_4 a0_5 a0_6 a0_7 a0_8 a0_9 a0_10 : Int) (a0_11 : Bool) (hc : 0 < c0) (hx : KOk (kRep c0 [.int .u8]) x0) {N : Nat} (hN : N ≤ 324) (w h m a b c d e f : Int) : ∀ (n : Nat) (v : Int) (l : List AV), 0 ≤ v → v ≤ N → AllU l N → (N : Int) - v < n →
    ∃ s, L41s_0 a0_0 a0_1 a0_2 x0 c0 k0 a0_4 a0_5 a0_6 a0_7 a0_8 a0_9 a0_10 a0_11 n N v w h m a b c d e f l = some (w, h, m, s, a, b, c, d, e, f) ∧ s.length = N := by
  intro n
  induction n with
  | zero => intro v l v0 vN q hn; omega
  | succ n ih =>
    intro v l v0 vN q hn
    rw [L41s_0_succ]
    by_cases z : v < N
    · have e1 : Int.tmod v (↑c0 : Int) = v % c0 := Int.tmod_eq_emod_of_nonneg v0
      have m0 := Int.emod_nonneg v (show (c0 : Int) ≠ 0 by omega)
      have m1 := Int.emod_lt_of_pos v (show (0 : Int) < c0 by omega)
      obtain ⟨r1, r2⟩ := allU_put (b := t41s_30 x0 c0 v) q (i := v.toNat) (by omega)
      have el : l41s_31 x0 c0 v l = putL l v.toNat [.int .u8 (t41s_30 x0 c0 v)] := by unfold l41s_31; rw [at1]
      rw [el, e1, at1, at1, ltT z, ltT (by omega : (0 : Int) < c0), eqF (by omega : (c0 : Int) ≠ 0), inT m0 (by omega), u8_cell hx (by omega), inT v0 (by omega), r1, allU_pure r2.2, add_int, w64 (by omega) (by omega)]
      exact ih (v + 1) _ (by omega) (by omega) r2 (by omega)
    · obtain ⟨k1, k2⟩ := allU_str q
      rw [ltF (by omega : (N : Int) ≤ v), k1]
      exact ⟨_, rfl, k2⟩

theorem pic_s {a0_0 a0_1 a0_2 : Int} (x0 : List AV) (c0 k0 : Nat) (a0_4 a0_5 a0_6 a0_7 a0_8 a0_9 a0_10 : Int) (a0_11 : Bool) (hc : 0 < c0) (hx : KOk (kRep c0 [.int .u8]) x0) (h0 : 0 ≤ a0_0 ∧ a0_0 ≤ 255) (h1 : 0 ≤ a0_1 ∧ a0_1 ≤ 255) (h2 : 0 ≤ a0_2 ∧ a0_2 ≤ 255) : ∃ w h m s a b c d e f, F41s 1000 a0_0 a0_1 a0_2 x0 c0 k0 a0_4 a0_5 a0_6 a0_7 a0_8 a0_9 a0_10 a0_11 = some (w, h, m, s, a, b, c, d, e, f) ∧ Pic w h m s ∧ Mx a b c d e f := by
  obtain ⟨w, ew, w1, w2⟩ := side h0.1 h0.2
  obtain ⟨h, eh, g1, g2⟩ := side h1.1 h1.2
  obtain ⟨m, em1, em2, em, m1⟩ := comp h2.1 h2.2
  have hb := wh_bd ⟨w1, w2⟩ ⟨g1, g2⟩ m1
  have t0 : t41s_26 a0_0 = w := ew
  have t1 : t41s_27 a0_1 = h := eh
  have t2 : t41s_28 a0_2 = m := em
  have e1 : wrapA .i64 (Int.mul w h) = w * h := by rw [mul_int]; exact w64 (by omega) (by omega)
  have e2 : wrapA .i64 (Int.mul (w * h) m) = w * h * m := by rw [mul_int]; exact w64 (by omega) (by omega)
  have hT : ((w * h * m).toNat : Int) = w * h * m := by omega
  have el : l41s_29 a0_0 a0_1 a0_2 = repeatL (w * h * m).toNat [.int .u8 0] := by unfold l41s_29; rw [t0, t1, t2, e1, e2]
  have M := mx62 a0_4 a0_5 a0_6 a0_7 a0_8 a0_9 a0_10
  have key : ∀ a b c d e f, ∃ s, L41s_0 a0_0 a0_1 a0_2 x0 c0 k0 a0_4 a0_5 a0_6 a0_7 a0_8 a0_9 a0_10 a0_11 1000 (w * h * m).toNat 0 w h m a b c d e f (repeatL (w * h * m).toNat [.int .u8 0]) = some (w, h, m, s, a, b, c, d, e, f) ∧ s.length = (w * h * m).toNat := fun a b c d e f =>
    fill a0_0 a0_1 a0_2 x0 c0 k0 a0_4 a0_5 a0_6 a0_7 a0_8 a0_9 a0_10 a0_11 hc hx (by omega) w h m a b c d e f 1000 0 _ (by omega) (by omega) (allU_rep _) (by omega)
  unfold F41s
  rw [em1, em2, t0, t1, t2, e1, e2, el, ltF (by omega : (0 : Int) ≤ w * h * m), ltF (by omega : w * h * m ≤ w * h * m), ltF (by omega : w * h * m ≤ 1000000), allU_pure (allU_rep _).2]
  cases a0_11
  · obtain ⟨s, k1, k2⟩ := key _ _ _ _ _ _
    exact ⟨_, _, _, _, _, _, _, _, _, _, k1, ⟨⟨w1, w2⟩, ⟨g1, g2⟩, m1, by omega⟩, M⟩
  · obtain ⟨s, k1, k2⟩ := key _ _ _ _ _ _
    exact ⟨_, _, _, _, _, _, _, _, _, _, k1, ⟨⟨w1, w2⟩, ⟨g1, g2⟩, m1, by omega⟩, mxN _ _ _ _ _ _⟩

theorem pic_e {a0_0 a0_1 a0_2 : Int} (a0_4 a0_5 a0_6 a0_7 a0_8 a0_9 a0_10 : Int) (a0_11 : Bool) (h0 : 0 ≤ a0_0 ∧ a0_0 ≤ 255) (h1 : 0 ≤ a0_1 ∧ a0_1 ≤ 255) (h2 : 0 ≤ a0_2 ∧ a0_2 ≤ 255) : ∃ w h m s a b c d e f, F41e a0_0 a0_1 a0_2 a0_4 a0_5 a0_6 a0_7 a0_8 a0_9 a0_10 a0_11 = some (w, h, m, s, a, b, c, d, e, f) ∧ Pic w h m s ∧ Mx a b c d e f := by
  obtain ⟨w, ew, w1, w2⟩ := side h0.1 h0.2
  obtain ⟨h, eh, g1, g2⟩ := side h1.1 h1.2
  obtain ⟨m, em1, em2, em, m1⟩ := comp h2.1 h2.2
  have hb := wh_bd ⟨w1, w2⟩ ⟨g1, g2⟩ m1
  have t0 : t41e_0 a0_0 = w := ew
  have t1 : t41e_1 a0_1 = h := eh
  have t2 : t41e_2 a0_2 = m := em
  have e1 : wrapA .i64 (Int.mul w h) = w * h := by rw [mul_int]; exact w64 (by omega) (by omega)
  have e2 : wrapA .i64 (Int.mul (w * h) m) = w * h * m := by rw [mul_int]; exact w64 (by omega) (by omega)
  have hT : ((w * h * m).toNat : Int) = w * h * m := by omega
  have el : l41e_4 a0_0 a0_1 a0_2 = repeatL (w * h * m).toNat [.int .u8 0] := by unfold l41e_4; rw [t0, t1, t2, e1, e2]
  have M := mx62 a0_4 a0_5 a0_6 a0_7 a0_8 a0_9 a0_10
  obtain ⟨k1, k2⟩ := allU_str (allU_rep (w * h * m).toNat)
  have eu : u41e_5 a0_0 a0_1 a0_2 = strOf (repeatL (w * h * m).toNat [.int .u8 0]) 0 (w * h * m).toNat := by unfold u41e_5; rw [el, t0, t1, t2, e1, e2]
  unfold F41e
  rw [em1, em2, t0, t1, t2, e1, e2, el, eu, ltF (by omega : (0 : Int) ≤ w * h * m), ltF (by omega : w * h * m ≤ w * h * m), ltF (by omega : w * h * m ≤ 1000000), k1]
  cases a0_11 <;> cases c41e_3 a0_0 a0_1 a0_2
  · exact ⟨_, _, _, _, _, _, _, _, _, _, rfl, ⟨⟨w1, w2⟩, ⟨g1, g2⟩, m1, by rw [k2]; omega⟩, M⟩
  · exact ⟨_, _, _, _, _, _, _, _, _, _, rfl, ⟨⟨w1, w2⟩, ⟨g1, g2⟩, m1, by rw [k2]; omega⟩, M⟩
  · exact ⟨_, _, _, _, _, _, _, _, _, _, rfl, ⟨⟨w1, w2⟩, ⟨g1, g2⟩, m1, by rw [k2]; omega⟩, mxN _ _ _ _ _ _⟩
  · exact ⟨_, _, _, _, _, _, _, _, _, _, rfl, ⟨⟨w1, w2⟩, ⟨g1, g2⟩, m1, by rw [k2]; omega⟩, mxN _ _ _ _ _ _⟩
theorem s44_1 (m x : Nat) : (F44 (m + 10) [x]).isSome = true ∧ F44_4 (m + 10) [x] = 0 := ⟨by kernel_rfl, by kernel_rfl⟩
theorem s44_3 (m x y z : Nat) : (F44 (m + 10) [x, y, z]).isSome = true ∧ F44_4 (m + 10) [x, y, z] = 0 := ⟨by kernel_rfl, by kernel_rfl⟩
theorem s44_4 (m x y z u : Nat) : (F44 (m + 10) [x, y, z, u]).isSome = true ∧ F44_4 (m + 10) [x, y, z, u] = 0 := ⟨by kernel_rfl, by kernel_rfl⟩
theorem s44 {n : Nat} (hn : 10 ≤ n) {s : List Nat} {m : Int} (hm : m = 1 ∨ m = 3 ∨ m = 4) (hl : (s.length : Int) = m) : (F44 n s).isSome = true ∧ F44_4 n s = 0 := by
  obtain ⟨k, rfl⟩ : ∃ k, n = k + 10 := ⟨n - 10, by omega⟩
  match s, hl with
  | [], hl => simp at hl; omega
  | [x], _ => exact s44_1 k x
  | [x, y], hl => simp at hl; omega
  | [x, y, z], _ => exact s44_3 k x y z
  | [x, y, z, u], _ => exact s44_4 k x y z u
  | x :: y :: z :: u :: v :: r, hl => simp only [List.length_cons] at hl; omega
theorem sub_len {s : List Nat} {i j : Nat} (h1 : i ≤ j) (h2 : j ≤ s.length) : (subS s i j).length = j - i := by
  simp only [subS, List.length_drop, List.length_take]; omega
theorem f43 {w h m a b c d e f x y : Int} {s : List Nat} (P : Pic w h m s) {i j : Int} {z : Bool} (e42 : F42 w h m s a b c d e f x y = some (i, j, z, 0)) (AT : At w h a b c d e f x y i j z) {n : Nat} (hn : 10 ≤ n) :
    (z = false → F43 n w h m s a b c d e f x y = some (0, 0, 0, 0, false, 0)) ∧
    (z = true → ∃ k : Nat, (k : Int) = (j * w + i) * m ∧ k + m.toNat ≤ s.length ∧ F43 n w h m s a b c d e f x y = some (F44_0 n (subS s k (k + m.toNat)), F44_1 n (subS s k (k + m.toNat)), F44_2 n (subS s k (k + m.toNat)), F44_3 n (subS s k (k + m.toNat)), true, 0) ∧
      (F44 n (subS s k (k + m.toNat))).isSome = true ∧ F44_4 n (subS s k (k + m.toNat)) = 0) := by
  have q0 : F42_0 w h m s a b c d e f x y = i := by unfold F42_0; rw [e42]; rfl
  have q1 : F42_1 w h m s a b c d e f x y = j := by unfold F42_1; rw [e42]; rfl
  have q2 : F42_2 w h m s a b c d e f x y = z := by unfold F42_2; rw [e42]; rfl
  have q3 : F42_3 w h m s a b c d e f x y = 0 := by unfold F42_3; rw [e42]; rfl
  have k0 : c43_0 w h m s a b c d e f x y = false := by unfold c43_0; rw [q3]; rfl
  obtain ⟨⟨w1, w2⟩, ⟨h1, h2⟩, m1, hl⟩ := P
  refine ⟨fun hz => ?_, fun hz => ?_⟩
  · subst hz
    unfold F43
    rw [e42, k0, q2, q3]; rfl
  · subst hz
    obtain ⟨u1, u2, u3, u4⟩ : 0 ≤ i ∧ i < w ∧ 0 ≤ j ∧ j < h := by
      obtain ⟨_, A1, A2⟩ := AT
      have zD : a * d - b * c ≠ 0 := fun q => by cases A1 q
      obtain ⟨p, q, _, _, k3, k4⟩ := A2 zD
      obtain ⟨rfl, rfl⟩ := k4 rfl
      exact k3.1 rfl
    clear AT
    have b1 := mul_bd (x := j) (y := w) (a := 9) (b := 9) (by omega) (by omega)
    have b2 : 0 ≤ j * w := Int.mul_nonneg u3 (by omega)
    have b3 : (j + 1) * w ≤ h * w := Int.mul_le_mul_of_nonneg_right (by omega) (by omega)
    rw [Int.add_mul] at b3
    rw [Int.mul_comm w h] at hl
    generalize hJ : j * w = J at *
    generalize hH : h * w = G at *
    have e1 : wrapA .i64 (Int.mul j w) = J := by rw [mul_int, hJ]; exact wrap64 (by omega) (by omega)
    have e2 : wrapA .i64 (Int.add J i) = J + i := by rw [add_int]; exact wrap64 (by omega) (by omega)
    have e3 : wrapA .i64 (Int.mul (J + i) m) = (J + i) * m := by
      rw [mul_int]; rcases m1 with rfl | rfl | rfl <;> exact wrap64 (by omega) (by omega)
    have e4 : wrapA .i64 (Int.add ((J + i) * m) m) = (J + i) * m + m := by
      rw [add_int]; rcases m1 with rfl | rfl | rfl <;> exact wrap64 (by omega) (by omega)
    have t1 : t43_1 w h m s a b c d e f x y = (J + i) * m := by unfold t43_1; rw [q0, q1, e1, e2, e3]
    have t2 : t43_2 w h m s a b c d e f x y = (J + i) * m + m := by unfold t43_2; rw [q0, q1, e1, e2, e3, e4]
    have g1 : 0 ≤ (J + i) * m := Int.mul_nonneg (by omega) (by omega)
    have g2 : (J + i) * m + m ≤ G * m := by
      have : (J + i + 1) * m ≤ G * m := Int.mul_le_mul_of_nonneg_right (by omega) (by omega)
      rw [Int.add_mul (J + i)] at this; omega
    have n1 : ((J + i) * m + m).toNat = ((J + i) * m).toNat + m.toNat := by omega
    have hs := s44 hn m1 (s := subS s ((J + i) * m).toNat (((J + i) * m).toNat + m.toNat)) (by rw [sub_len (by omega) (by omega)]; omega)
    have u3 : u43_3 w h m s a b c d e f x y = subS s ((J + i) * m).toNat (((J + i) * m).toNat + m.toNat) := by unfold u43_3; rw [t1, t2, n1]
    have c4 : c43_4 n w h m s a b c d e f x y = true := by unfold c43_4; rw [u3, hs.2]; rfl
    refine ⟨((J + i) * m).toNat, by omega, by omega, ?_, hs⟩
    unfold F43
    rw [e42, k0, q2, t1, t2, u3, c4, n1, hs.1, hs.2, ltF g1, ltF (by omega : 0 ≤ (J + i) * m + m)]
    have l1 : leB ((J + i) * m).toNat (((J + i) * m).toNat + m.toNat) = true := Nat.ble_eq_true_of_le (by omega)
    have l2 : leB (((J + i) * m).toNat + m.toNat) s.length = true := Nat.ble_eq_true_of_le (by omega)
    rw [l1, l2]; rfl
/-- a near matrix -/
structure Nx (a b c d e f : Int) : Prop where
  a1 : -400000 ≤ a ∧ a ≤ 400000
  b1 : -400000 ≤ b ∧ b ≤ 400000
  c1 : -400000 ≤ c ∧ c ≤ 400000
  d1 : -400000 ≤ d ∧ d ≤ 400000
  e1 : -3000000 ≤ e ∧ e ≤ 3000000
  f1 : -3000000 ≤ f ∧ f ≤ 3000000
theorem nb1 (x : Int) : -400000 ≤ Int.tmod x 400000 ∧ Int.tmod x 400000 ≤ 400000 := by have := tmod_bd x (c := 400000) (by omega); omega
theorem nb2 (x : Int) : -3000000 ≤ Int.tmod x 3000000 ∧ Int.tmod x 3000000 ≤ 3000000 := by have := tmod_bd x (c := 3000000) (by omega); omega
theorem nxN (a b c d e f : Int) : Nx (Int.tmod a 400000) (Int.tmod b 400000) (Int.tmod c 400000) (Int.tmod d 400000) (Int.tmod e 3000000) (Int.tmod f 3000000) := ⟨nb1 _, nb1 _, nb1 _, nb1 _, nb2 _, nb2 _⟩
theorem picn_s {a0_0 a0_1 a0_2 : Int} (x0 : List AV) (c0 k0 : Nat) (a0_4 a0_5 a0_6 a0_7 a0_8 a0_9 a0_10 : Int) (hc : 0 < c0) (hx : KOk (kRep c0 [.int .u8]) x0) (h0 : 0 ≤ a0_0 ∧ a0_0 ≤ 255) (h1 : 0 ≤ a0_1 ∧ a0_1 ≤ 255) (h2 : 0 ≤ a0_2 ∧ a0_2 ≤ 255) : ∃ w h m s a b c d e f, F41s 1000 a0_0 a0_1 a0_2 x0 c0 k0 a0_4 a0_5 a0_6 a0_7 a0_8 a0_9 a0_10 true = some (w, h, m, s, a, b, c, d, e, f) ∧ Pic w h m s ∧ Nx a b c d e f := by
  obtain ⟨w, ew, w1, w2⟩ := side h0.1 h0.2
  obtain ⟨h, eh, g1, g2⟩ := side h1.1 h1.2
  obtain ⟨m, em1, em2, em, m1⟩ := comp h2.1 h2.2
  have hb := wh_bd ⟨w1, w2⟩ ⟨g1, g2⟩ m1
  have t0 : t41s_26 a0_0 = w := ew
  have t1 : t41s_27 a0_1 = h := eh
  have t2 : t41s_28 a0_2 = m := em
  have e1 : wrapA .i64 (Int.mul w h) = w * h := by rw [mul_int]; exact w64 (by omega) (by omega)
  have e2 : wrapA .i64 (Int.mul (w * h) m) = w * h * m := by rw [mul_int]; exact w64 (by omega) (by omega)
  have hT : ((w * h * m).toNat : Int) = w * h * m := by omega
  have el : l41s_29 a0_0 a0_1 a0_2 = repeatL (w * h * m).toNat [.int .u8 0] := by unfold l41s_29; rw [t0, t1, t2, e1, e2]
  have key : ∀ a b c d e f, ∃ s, L41s_0 a0_0 a0_1 a0_2 x0 c0 k0 a0_4 a0_5 a0_6 a0_7 a0_8 a0_9 a0_10 true 1000 (w * h * m).toNat 0 w h m a b c d e f (repeatL (w * h * m).toNat [.int .u8 0]) = some (w, h, m, s, a, b, c, d, e, f) ∧ s.length = (w * h * m).toNat := fun a b c d e f =>
    fill a0_0 a0_1 a0_2 x0 c0 k0 a0_4 a0_5 a0_6 a0_7 a0_8 a0_9 a0_10 true hc hx (by omega) w h m a b c d e f 1000 0 _ (by omega) (by omega) (allU_rep _) (by omega)
  unfold F41s
  rw [em1, em2, t0, t1, t2, e1, e2, el, ltF (by omega : (0 : Int) ≤ w * h * m), ltF (by omega : w * h * m ≤ w * h * m), ltF (by omega : w * h * m ≤ 1000000), allU_pure (allU_rep _).2]
  obtain ⟨s, k1, k2⟩ := key _ _ _ _ _ _
  exact ⟨_, _, _, _, _, _, _, _, _, _, k1, ⟨⟨w1, w2⟩, ⟨g1, g2⟩, m1, by omega⟩, nxN _ _ _ _ _ _⟩

theorem picn_e {a0_0 a0_1 a0_2 : Int} (a0_4 a0_5 a0_6 a0_7 a0_8 a0_9 a0_10 : Int) (h0 : 0 ≤ a0_0 ∧ a0_0 ≤ 255) (h1 : 0 ≤ a0_1 ∧ a0_1 ≤ 255) (h2 : 0 ≤ a0_2 ∧ a0_2 ≤ 255) : ∃ w h m s a b c d e f, F41e a0_0 a0_1 a0_2 a0_4 a0_5 a0_6 a0_7 a0_8 a0_9 a0_10 true = some (w, h, m, s, a, b, c, d, e, f) ∧ Pic w h m s ∧ Nx a b c d e f := by
  obtain ⟨w, ew, w1, w2⟩ := side h0.1 h0.2
  obtain ⟨h, eh, g1, g2⟩ := side h1.1 h1.2
  obtain ⟨m, em1, em2, em, m1⟩ := comp h2.1 h2.2
  have hb := wh_bd ⟨w1, w2⟩ ⟨g1, g2⟩ m1
  have t0 : t41e_0 a0_0 = w := ew
  have t1 : t41e_1 a0_1 = h := eh
  have t2 : t41e_2 a0_2 = m := em
  have e1 : wrapA .i64 (Int.mul w h) = w * h := by rw [mul_int]; exact w64 (by omega) (by omega)
  have e2 : wrapA .i64 (Int.mul (w * h) m) = w * h * m := by rw [mul_int]; exact w64 (by omega) (by omega)
  have hT : ((w * h * m).toNat : Int) = w * h * m := by omega
  have el : l41e_4 a0_0 a0_1 a0_2 = repeatL (w * h * m).toNat [.int .u8 0] := by unfold l41e_4; rw [t0, t1, t2, e1, e2]
  obtain ⟨k1, k2⟩ := allU_str (allU_rep (w * h * m).toNat)
  have eu : u41e_5 a0_0 a0_1 a0_2 = strOf (repeatL (w * h * m).toNat [.int .u8 0]) 0 (w * h * m).toNat := by unfold u41e_5; rw [el, t0, t1, t2, e1, e2]
  unfold F41e
  rw [em1, em2, t0, t1, t2, e1, e2, el, eu, ltF (by omega : (0 : Int) ≤ w * h * m), ltF (by omega : w * h * m ≤ w * h * m), ltF (by omega : w * h * m ≤ 1000000), k1]
  cases c41e_3 a0_0 a0_1 a0_2
  · exact ⟨_, _, _, _, _, _, _, _, _, _, rfl, ⟨⟨w1, w2⟩, ⟨g1, g2⟩, m1, by rw [k2]; omega⟩, nxN _ _ _ _ _ _⟩
  · exact ⟨_, _, _, _, _, _, _, _, _, _, rfl, ⟨⟨w1, w2⟩, ⟨g1, g2⟩, m1, by rw [k2]; omega⟩, nxN _ _ _ _ _ _⟩

theorem fl_uniq {X D p q : Int} (hD : D ≠ 0) (h : Fl X D p) (k : Fl X D q) : p = q := by
  have key : ∀ p q : Int, Fl X D p → Fl X D q → ¬ p < q := by
    intro p q h k z
    by_cases d : 0 < D
    · have := h.1 d; have := k.1 d
      have m : D * (p + 1) ≤ D * q := Int.mul_le_mul_of_nonneg_left (by omega) (by omega)
      rw [Int.mul_add] at m; omega
    · have := h.2 (by omega); have := k.2 (by omega)
      have m : D * q ≤ D * (p + 1) := Int.mul_le_mul_of_nonpos_left (by omega) (by omega)
      rw [Int.mul_add] at m; omega
  have := key p q h k
  have := key q p k h
  omega
theorem fl_neg {X D p : Int} (h : Fl X D p) : Fl (-X) (-D) p := by
  refine ⟨fun d => ?_, fun d => ?_⟩
  · have := h.2 (by omega); rw [Int.neg_mul]; omega
  · have := h.1 (by omega); rw [Int.neg_mul]; omega
theorem fl_neg' {X D p : Int} (h : Fl (-X) (-D) p) : Fl X D p := by
  have := fl_neg h; rwa [Int.neg_neg, Int.neg_neg] at this
/-- the sample under a pixel, by its numbers -/
structure Al (w h D X Y : Int) (i j : Int) (z : Bool) : Prop where
  none : z = false → i = 0 ∧ j = 0
  flat : D = 0 → z = false
  some : D ≠ 0 → ∃ p q, Fl X D p ∧ Fl Y D q ∧ (z = true ↔ 0 ≤ p ∧ p < w ∧ 0 ≤ q ∧ q < h) ∧ (z = true → i = p ∧ j = q)
theorem Al.neg {w h D X Y i j : Int} {z : Bool} (A : Al w h (-D) (-X) (-Y) i j z) : Al w h D X Y i j z := by
  refine ⟨A.none, fun q => A.flat (by omega), fun q => ?_⟩
  obtain ⟨p, q, h1, h2, h3⟩ := A.some (by omega)
  exact ⟨p, q, fl_neg' h1, fl_neg' h2, h3⟩
theorem Al.uniq {w h D X Y i j i' j' : Int} {z z' : Bool} (A : Al w h D X Y i j z) (B : Al w h D X Y i' j' z') : i' = i ∧ j' = j ∧ z' = z := by
  by_cases hD : D = 0
  · have a := A.flat hD; have b := B.flat hD
    have := A.none a; have := B.none b
    exact ⟨by omega, by omega, by rw [a, b]⟩
  · obtain ⟨p, q, h1, h2, h3, h4⟩ := A.some hD
    obtain ⟨p', q', k1, k2, k3, k4⟩ := B.some hD
    obtain rfl := fl_uniq hD k1 h1
    obtain rfl := fl_uniq hD k2 h2
    have e : z' = z := by
      cases z with
      | true => exact k3.2 (h3.1 rfl)
      | false =>
        cases z' with
        | false => rfl
        | true => have := h3.2 (k3.1 rfl); cases this
    refine ⟨?_, ?_, e⟩
    · cases z with
      | true => have := h4 rfl; have := k4 e; omega
      | false => have := A.none rfl; have := B.none e; omega
    · cases z with
      | true => have := h4 rfl; have := k4 e; omega
      | false => have := A.none rfl; have := B.none e; omega
theorem At.al {w h a b c d e f x y i j D X Y : Int} {z : Bool} (A : At w h a b c d e f x y i j z) (h1 : a * d - b * c = D) (h2 : d * (65536 * x + 32768 - e) - c * (65536 * y + 32768 - f) = X) (h3 : a * (65536 * y + 32768 - f) - b * (65536 * x + 32768 - e) = Y) : Al w h D X Y i j z := by
  obtain ⟨k1, k2, k3⟩ := A
  rw [h1] at k2
  rw [h1, h2, h3] at k3
  exact ⟨k1, k2, k3⟩
/-- what is at two pixels with the same sample -/
theorem f43_same {w h m a b c d e f x y a' b' c' d' e' f' x' y' i j : Int} {z : Bool} {s : List Nat} (P : Pic w h m s) (h1 : F42 w h m s a b c d e f x y = some (i, j, z, 0)) (A : At w h a b c d e f x y i j z)
    (h2 : F42 w h m s a' b' c' d' e' f' x' y' = some (i, j, z, 0)) (B : At w h a' b' c' d' e' f' x' y' i j z) {n : Nat} (hn : 10 ≤ n) :
    ∃ r0 r1 r2 r3, F43 n w h m s a b c d e f x y = some (r0, r1, r2, r3, z, 0) ∧ F43 n w h m s a' b' c' d' e' f' x' y' = some (r0, r1, r2, r3, z, 0) := by
  obtain ⟨F0, F1⟩ := f43 P h1 A hn
  obtain ⟨G0, G1⟩ := f43 P h2 B hn
  cases z with
  | false => exact ⟨0, 0, 0, 0, F0 rfl, G0 rfl⟩
  | true =>
    obtain ⟨k, e1, _, e2, _, _⟩ := F1 rfl
    obtain ⟨k', e1', _, e2', _, _⟩ := G1 rfl
    obtain rfl : k' = k := by omega
    exact ⟨_, _, _, _, e2, e2'⟩
/-- columns turned around -/
theorem fl_mirror {X D p k w : Int} (hD : D ≠ 0) (h : Fl X D p) (g : Fl (X - w * D) (-D) k) : p + k = w - 1 ∨ p + k = w := by
  have key : ∀ X D p k : Int, 0 < D → D * p ≤ X → X < D * p + D → D * k ≤ w * D - X → w * D - X < D * k + D → p + k = w - 1 ∨ p + k = w := by
    intro X D p k d a b c e
    have u1 : ¬ w < p + k := fun z => by
      have m : D * (w + 1) ≤ D * (p + k) := Int.mul_le_mul_of_nonneg_left (by omega) (by omega)
      rw [Int.mul_add, Int.mul_add, Int.mul_comm D w] at m; omega
    have u2 : ¬ p + k < w - 1 := fun z => by
      have m : D * (p + k) ≤ D * (w - 2) := Int.mul_le_mul_of_nonneg_left (by omega) (by omega)
      rw [Int.mul_add, Int.mul_sub, Int.mul_comm D w] at m; omega
    omega
  by_cases d : 0 < D
  · have h1 := h.1 d
    have g1 := g.2 (by omega)
    rw [Int.neg_mul] at g1
    exact key X D p k d h1.1 h1.2 (by omega) (by omega)
  · have h1 := h.2 (by omega)
    have g1 := g.1 (by omega)
    rw [Int.neg_mul] at g1
    have e : w * (-D) = -(w * D) := Int.mul_neg _ _
    exact key (-X) (-D) p k (by omega) (by rw [Int.neg_mul]; omega) (by rw [Int.neg_mul]; omega) (by rw [Int.neg_mul, e]; omega) (by rw [Int.neg_mul, e]; omega)
theorem nbeq (x : Bool) : (!x == x) = false := by cases x <;> rfl

set_option maxHeartbeats 4000000 in
theorem law_ok_s (a0_0 a0_1 a0_2 : Int) (x0 : List AV) (c0 k0 : Nat) (a0_4 a0_5 a0_6 a0_7 a0_8 a0_9 a0_10 : Int) (a0_11 : Bool) (a1_0 a1_1 a2 a3 : Int) (wa0_0 : (Lit.int .u8 a0_0).wf = true) (wa0_1 : (Lit.int .u8 a0_1).wf = true) (wa0_2 : (Lit.int .u8 a0_2).wf = true) (wx : 0 < c0 ∧ c0 ≤ k0 ∧ k0 ≤ maxLen ∧ KOk (kRep c0 [.int .u8]) x0) (wa0_4 : (Lit.int .u8 a0_4).wf = true) (wa0_5 : (Lit.int .i32 a0_5).wf = true) (wa0_6 : (Lit.int .i32 a0_6).wf = true) (wa0_7 : (Lit.int .i32 a0_7).wf = true) (wa0_8 : (Lit.int .i32 a0_8).wf = true) (wa0_9 : (Lit.int .i32 a0_9).wf = true) (wa0_10 : (Lit.int .i32 a0_10).wf = true) (wa1_0 : (Lit.int .i8 a1_0).wf = true) (wa1_1 : (Lit.int .i8 a1_1).wf = true) (wa2 : (Lit.int .i8 a2).wf = true) (wa3 : (Lit.int .i8 a3).wf = true) : ∃ n : Nat, F8s n a0_0 a0_1 a0_2 x0 c0 k0 a0_4 a0_5 a0_6 a0_7 a0_8 a0_9 a0_10 a0_11 a1_0 a1_1 a2 a3 = some true := by
  obtain ⟨w, h, m, s, a, b, c, d, e, f, e41, P, M⟩ := picn_s x0 c0 k0 a0_4 a0_5 a0_6 a0_7 a0_8 a0_9 a0_10 wx.1 wx.2.2.2 (wf_u8 wa0_0) (wf_u8 wa0_1) (wf_u8 wa0_2)
  have p0 : F41s_0 1000 a0_0 a0_1 a0_2 x0 c0 k0 a0_4 a0_5 a0_6 a0_7 a0_8 a0_9 a0_10 true = w := by unfold F41s_0; rw [e41]; rfl
  have p1 : F41s_1 1000 a0_0 a0_1 a0_2 x0 c0 k0 a0_4 a0_5 a0_6 a0_7 a0_8 a0_9 a0_10 true = h := by unfold F41s_1; rw [e41]; rfl
  have p2 : F41s_2 1000 a0_0 a0_1 a0_2 x0 c0 k0 a0_4 a0_5 a0_6 a0_7 a0_8 a0_9 a0_10 true = m := by unfold F41s_2; rw [e41]; rfl
  have p3 : F41s_3 1000 a0_0 a0_1 a0_2 x0 c0 k0 a0_4 a0_5 a0_6 a0_7 a0_8 a0_9 a0_10 true = s := by unfold F41s_3; rw [e41]; rfl
  have p4 : F41s_4 1000 a0_0 a0_1 a0_2 x0 c0 k0 a0_4 a0_5 a0_6 a0_7 a0_8 a0_9 a0_10 true = a := by unfold F41s_4; rw [e41]; rfl
  have p5 : F41s_5 1000 a0_0 a0_1 a0_2 x0 c0 k0 a0_4 a0_5 a0_6 a0_7 a0_8 a0_9 a0_10 true = b := by unfold F41s_5; rw [e41]; rfl
  have p6 : F41s_6 1000 a0_0 a0_1 a0_2 x0 c0 k0 a0_4 a0_5 a0_6 a0_7 a0_8 a0_9 a0_10 true = c := by unfold F41s_6; rw [e41]; rfl
  have p7 : F41s_7 1000 a0_0 a0_1 a0_2 x0 c0 k0 a0_4 a0_5 a0_6 a0_7 a0_8 a0_9 a0_10 true = d := by unfold F41s_7; rw [e41]; rfl
  have p8 : F41s_8 1000 a0_0 a0_1 a0_2 x0 c0 k0 a0_4 a0_5 a0_6 a0_7 a0_8 a0_9 a0_10 true = e := by unfold F41s_8; rw [e41]; rfl
  have p9 : F41s_9 1000 a0_0 a0_1 a0_2 x0 c0 k0 a0_4 a0_5 a0_6 a0_7 a0_8 a0_9 a0_10 true = f := by unfold F41s_9; rw [e41]; rfl
  have P0 := P
  obtain ⟨⟨w1, w2⟩, ⟨h1, h2⟩, m1, hl⟩ := P
  obtain ⟨Na, Nb, Nc, Nd, Ne, Nf⟩ := M
  have x1 := wf_i8 wa1_0
  have x2 := wf_i8 wa1_1
  have x3 := wf_i8 wa2
  have x4 := wf_i8 wa3
  refine ⟨1000, ?_⟩
  simp only [F8s, t8s_0, t8s_1, t8s_2, u8s_3, t8s_4, t8s_5, t8s_6, t8s_7, t8s_8, t8s_9, t8s_10, t8s_11, c8s_12, c8s_13, t8s_14, c8s_15, t8s_16, t8s_17, t8s_18, t8s_19, t8s_20, t8s_21, t8s_22, t8s_23, c8s_24, c8s_25, c8s_26, t8s_27, t8s_28, t8s_29, t8s_30, t8s_31, t8s_32, t8s_33, t8s_34, c8s_35, c8s_36, t8s_37, t8s_38, t8s_39, t8s_40, t8s_41, t8s_42, t8s_43, t8s_44, c8s_45, c8s_46, c8s_47, t8s_48, t8s_49, t8s_50, t8s_51, c8s_52, c8s_53, t8s_54, t8s_55, t8s_56, t8s_57, c8s_58, c8s_59, c8s_60, t8s_61, t8s_62, t8s_63, t8s_64, t8s_65, t8s_66, t8s_67, t8s_68, c8s_69, c8s_70, t8s_71, t8s_72, t8s_73, t8s_74, t8s_75, t8s_76, t8s_77, t8s_78, c8s_79, c8s_80, c8s_81, c8s_82, t8s_83, t8s_84, t8s_85, t8s_86, t8s_87, t8s_88, c8s_89, t8s_90, t8s_91, c8s_92, t8s_93, c8s_94, t8s_95, t8s_96, c8s_97, t8s_98, t8s_99, c8s_100, c8s_101, t8s_102, t8s_103, t8s_104, t8s_105, c8s_106, c8s_107, t8s_108, t8s_109, t8s_110, t8s_111, c8s_112, t8s_113, t8s_114, c8s_115, t8s_116, t8s_117, c8s_118, c8s_119, p0, p1, p2, p3, p4, p5, p6, p7, p8, p9, e41, Option.isSome_some, wx.2.2.2.pure, cond]
  clear e41 p0 p1 p2 p3 p4 p5 p6 p7 p8 p9
  have s1 : wrapA .i64 a1_0 = a1_0 := wrap64 (by omega) (by omega)
  have s2 : wrapA .i64 a1_1 = a1_1 := wrap64 (by omega) (by omega)
  have s3 : wrapA .i64 a2 = a2 := wrap64 (by omega) (by omega)
  have s4 : wrapA .i64 a3 = a3 := wrap64 (by omega) (by omega)
  have s5 : wrapA .i64 (Int.mul a1_0 65536) = a1_0 * 65536 := by rw [mul_int]; exact wrap64 (by omega) (by omega)
  have s6 : wrapA .i64 (Int.mul a1_1 65536) = a1_1 * 65536 := by rw [mul_int]; exact wrap64 (by omega) (by omega)
  have s7 : wrapA .i64 (Int.add e (a1_0 * 65536)) = e + a1_0 * 65536 := by rw [add_int]; exact wrap64 (by omega) (by omega)
  have s8 : wrapA .i64 (Int.add f (a1_1 * 65536)) = f + a1_1 * 65536 := by rw [add_int]; exact wrap64 (by omega) (by omega)
  have s9 : wrapA .i64 (Int.add a2 a1_0) = a2 + a1_0 := by rw [add_int]; exact wrap64 (by omega) (by omega)
  have s10 : wrapA .i64 (Int.add a3 a1_1) = a3 + a1_1 := by rw [add_int]; exact wrap64 (by omega) (by omega)
  have wa := mul_bd (x := w) (y := a) (a := 9) (b := 400000) (by omega) Na
  have wb := mul_bd (x := w) (y := b) (a := 9) (b := 400000) (by omega) Nb
  have s11 : wrapA .i64 (Int.mul w a) = w * a := by rw [mul_int]; exact wrap64 (by omega) (by omega)
  have s12 : wrapA .i64 (Int.mul w b) = w * b := by rw [mul_int]; exact wrap64 (by omega) (by omega)
  have s13 : wrapA .i64 (Int.add e (w * a)) = e + w * a := by rw [add_int]; exact wrap64 (by omega) (by omega)
  have s14 : wrapA .i64 (Int.add f (w * b)) = f + w * b := by rw [add_int]; exact wrap64 (by omega) (by omega)
  have s15 : IntKind.wrap .i64 (0 - a) = -a := by rw [← wrapA_eq, wrap64 (by omega) (by omega)]; omega
  have s16 : IntKind.wrap .i64 (0 - b) = -b := by rw [← wrapA_eq, wrap64 (by omega) (by omega)]; omega
  simp only [s1, s2, s3, s4, s5, s6, s7, s8, s9, s10, s11, s12, s13, s14, s15, s16]
  have M1 : Mx a b c d e f := ⟨by omega, by omega, by omega, by omega, by omega, by omega⟩
  have M2 : Mx a b c d (e + a1_0 * 65536) (f + a1_1 * 65536) := ⟨by omega, by omega, by omega, by omega, by omega, by omega⟩
  have M3 : Mx b a d c f e := ⟨by omega, by omega, by omega, by omega, by omega, by omega⟩
  have M4 : Mx (-a) (-b) c d (e + w * a) (f + w * b) := ⟨by omega, by omega, by omega, by omega, by omega, by omega⟩
  obtain ⟨i, j, z, e1, A1⟩ := f42 P0 M1 (x := a2) (y := a3) (by omega) (by omega) (by omega) (by omega)
  obtain ⟨i2, j2, z2, e2, A2⟩ := f42 P0 M2 (x := a2 + a1_0) (y := a3 + a1_1) (by omega) (by omega) (by omega) (by omega)
  obtain ⟨i3, j3, z3, e3, A3⟩ := f42 P0 M3 (x := a3) (y := a2) (by omega) (by omega) (by omega) (by omega)
  obtain ⟨k, l, z4, e4, A4⟩ := f42 P0 M4 (x := a2) (y := a3) (by omega) (by omega) (by omega) (by omega)
  generalize hD : a * d - b * c = D at *
  generalize hX : d * (65536 * a2 + 32768 - e) - c * (65536 * a3 + 32768 - f) = X at *
  generalize hY : a * (65536 * a3 + 32768 - f) - b * (65536 * a2 + 32768 - e) = Y at *
  have B1 := A1.al hD hX hY
  have B2 : Al w h D X Y i2 j2 z2 := A2.al hD (by rw [← hX, show 65536 * (a2 + a1_0) + 32768 - (e + a1_0 * 65536) = 65536 * a2 + 32768 - e by omega, show 65536 * (a3 + a1_1) + 32768 - (f + a1_1 * 65536) = 65536 * a3 + 32768 - f by omega])
    (by rw [← hY, show 65536 * (a2 + a1_0) + 32768 - (e + a1_0 * 65536) = 65536 * a2 + 32768 - e by omega, show 65536 * (a3 + a1_1) + 32768 - (f + a1_1 * 65536) = 65536 * a3 + 32768 - f by omega])
  have B3 : Al w h D X Y i3 j3 z3 := (A3.al (D := -D) (X := -X) (Y := -Y) (by rw [← hD, Int.mul_comm b c, Int.mul_comm a d]; rw [Int.mul_comm d a, Int.mul_comm c b]; omega) (by rw [← hX]; omega) (by rw [← hY]; omega)).neg
  have B4' : Al w h (-D) (X - w * D) (-Y) k l z4 := A4.al (by rw [← hD, Int.neg_mul, Int.neg_mul]; omega)
    (by rw [← hX, ← hD, show 65536 * a2 + 32768 - (e + w * a) = 65536 * a2 + 32768 - e - w * a by omega, show 65536 * a3 + 32768 - (f + w * b) = 65536 * a3 + 32768 - f - w * b by omega, Int.mul_sub d, Int.mul_sub c, Int.mul_sub w, show d * (w * a) = w * (a * d) by rw [Int.mul_left_comm, Int.mul_comm d a], show c * (w * b) = w * (b * c) by rw [Int.mul_left_comm, Int.mul_comm c b]]; omega)
    (by rw [← hY, show 65536 * a2 + 32768 - (e + w * a) = 65536 * a2 + 32768 - e - w * a by omega, show 65536 * a3 + 32768 - (f + w * b) = 65536 * a3 + 32768 - f - w * b by omega, Int.neg_mul, Int.neg_mul, Int.mul_sub a, Int.mul_sub b, show b * (w * a) = a * (w * b) by rw [Int.mul_left_comm, Int.mul_comm b a, Int.mul_left_comm w a]]; omega)
  obtain ⟨rfl, rfl, rfl⟩ := B1.uniq B2
  obtain ⟨rfl, rfl, rfl⟩ := B1.uniq B3
  obtain ⟨r0, r1, r2, r3, t1, t2⟩ := f43_same P0 e1 A1 e2 A2 (n := 1000) (by omega)
  obtain ⟨u0, u1, u2, u3, t3, t4⟩ := f43_same P0 e1 A1 e3 A3 (n := 1000) (by omega)
  rw [t1] at t3
  simp only [Option.some.injEq, Prod.mk.injEq] at t3
  obtain ⟨rfl, rfl, rfl, rfl, _, _⟩ := t3
  have fin : z3 = true → z4 = true → j3 = l ∧ (i3 + k = w - 1 ∨ i3 + k = w) := fun q1 q4 => by
    have hD0 : D ≠ 0 := fun q => by have := B1.flat q; rw [this] at q1; cases q1
    obtain ⟨p, q, g1, g2, _, g4⟩ := B1.some hD0
    obtain ⟨p', q', v1, v2, _, v4⟩ := B4'.some (by omega)
    obtain ⟨rfl, rfl⟩ := g4 q1
    obtain ⟨rfl, rfl⟩ := v4 q4
    exact ⟨fl_uniq hD0 g2 (fl_neg' v2), fl_mirror hD0 g1 v1⟩
  have fP0 : F43_0 1000 w h m s a b c d e f a2 a3 = r0 := by unfold F43_0; rw [t1]; rfl
  have fP1 : F43_1 1000 w h m s a b c d e f a2 a3 = r1 := by unfold F43_1; rw [t1]; rfl
  have fP2 : F43_2 1000 w h m s a b c d e f a2 a3 = r2 := by unfold F43_2; rw [t1]; rfl
  have fP3 : F43_3 1000 w h m s a b c d e f a2 a3 = r3 := by unfold F43_3; rw [t1]; rfl
  have fP4 : F43_4 1000 w h m s a b c d e f a2 a3 = z3 := by unfold F43_4; rw [t1]; rfl
  have fP5 : F43_5 1000 w h m s a b c d e f a2 a3 = 0 := by unfold F43_5; rw [t1]; rfl
  have fQ0 : F43_0 1000 w h m s a b c d (e + a1_0 * 65536) (f + a1_1 * 65536) (a2 + a1_0) (a3 + a1_1) = r0 := by unfold F43_0; rw [t2]; rfl
  have fQ1 : F43_1 1000 w h m s a b c d (e + a1_0 * 65536) (f + a1_1 * 65536) (a2 + a1_0) (a3 + a1_1) = r1 := by unfold F43_1; rw [t2]; rfl
  have fQ2 : F43_2 1000 w h m s a b c d (e + a1_0 * 65536) (f + a1_1 * 65536) (a2 + a1_0) (a3 + a1_1) = r2 := by unfold F43_2; rw [t2]; rfl
  have fQ3 : F43_3 1000 w h m s a b c d (e + a1_0 * 65536) (f + a1_1 * 65536) (a2 + a1_0) (a3 + a1_1) = r3 := by unfold F43_3; rw [t2]; rfl
  have fQ4 : F43_4 1000 w h m s a b c d (e + a1_0 * 65536) (f + a1_1 * 65536) (a2 + a1_0) (a3 + a1_1) = z3 := by unfold F43_4; rw [t2]; rfl
  have fQ5 : F43_5 1000 w h m s a b c d (e + a1_0 * 65536) (f + a1_1 * 65536) (a2 + a1_0) (a3 + a1_1) = 0 := by unfold F43_5; rw [t2]; rfl
  have fR0 : F43_0 1000 w h m s b a d c f e a3 a2 = r0 := by unfold F43_0; rw [t4]; rfl
  have fR1 : F43_1 1000 w h m s b a d c f e a3 a2 = r1 := by unfold F43_1; rw [t4]; rfl
  have fR2 : F43_2 1000 w h m s b a d c f e a3 a2 = r2 := by unfold F43_2; rw [t4]; rfl
  have fR3 : F43_3 1000 w h m s b a d c f e a3 a2 = r3 := by unfold F43_3; rw [t4]; rfl
  have fR4 : F43_4 1000 w h m s b a d c f e a3 a2 = z3 := by unfold F43_4; rw [t4]; rfl
  have fR5 : F43_5 1000 w h m s b a d c f e a3 a2 = 0 := by unfold F43_5; rw [t4]; rfl
  have gP0 : F42_0 w h m s a b c d e f a2 a3 = i3 := by unfold F42_0; rw [e1]; rfl
  have gP1 : F42_1 w h m s a b c d e f a2 a3 = j3 := by unfold F42_1; rw [e1]; rfl
  have gP2 : F42_2 w h m s a b c d e f a2 a3 = z3 := by unfold F42_2; rw [e1]; rfl
  have gP3 : F42_3 w h m s a b c d e f a2 a3 = 0 := by unfold F42_3; rw [e1]; rfl
  have gM0 : F42_0 w h m s (-a) (-b) c d (e + w * a) (f + w * b) a2 a3 = k := by unfold F42_0; rw [e4]; rfl
  have gM1 : F42_1 w h m s (-a) (-b) c d (e + w * a) (f + w * b) a2 a3 = l := by unfold F42_1; rw [e4]; rfl
  have gM2 : F42_2 w h m s (-a) (-b) c d (e + w * a) (f + w * b) a2 a3 = z4 := by unfold F42_2; rw [e4]; rfl
  have gM3 : F42_3 w h m s (-a) (-b) c d (e + w * a) (f + w * b) a2 a3 = 0 := by unfold F42_3; rw [e4]; rfl
  simp only [t1, t2, t4, e1, e4, fP0, fP1, fP2, fP3, fP4, fP5, fQ0, fQ1, fQ2, fQ3, fQ4, fQ5, fR0, fR1, fR2, fR3, fR4, fR5, gP0, gP1, gP2, gP3, gM0, gM1, gM2, gM3, eqI_same, nbeq, andB, Option.isSome_some, Bool.not_true]
  cases hz : z3 with
  | false => rfl
  | true =>
    cases hz4 : z4 with
    | false => rfl
    | true =>
      obtain ⟨q1, q2⟩ := fin hz hz4
      have bi : 0 ≤ i3 ∧ i3 < w := by
        have hD0 : D ≠ 0 := fun q => by have := B1.flat q; rw [this] at hz; cases hz
        obtain ⟨p, q, _, _, g3, g4⟩ := B1.some hD0
        obtain ⟨rfl, rfl⟩ := g4 hz
        have := g3.1 hz; omega
      have y1 : wrapA .i64 (Int.add i3 k) = i3 + k := by rw [add_int]; exact wrap64 (by omega) (by omega)
      have y2 : wrapA .i64 (Int.sub w 1) = w - 1 := by rw [sub_int]; exact wrap64 (by omega) (by omega)
      rw [y1, y2, eqT q1]
      rcases q2 with q2 | q2
      · rw [eqT q2]
      · rw [eqF (by omega : i3 + k ≠ w - 1), eqT q2]

set_option maxHeartbeats 4000000 in
theorem law_ok_e (a0_0 a0_1 a0_2 : Int) (a0_4 a0_5 a0_6 a0_7 a0_8 a0_9 a0_10 : Int) (a0_11 : Bool) (a1_0 a1_1 a2 a3 : Int) (wa0_0 : (Lit.int .u8 a0_0).wf = true) (wa0_1 : (Lit.int .u8 a0_1).wf = true) (wa0_2 : (Lit.int .u8 a0_2).wf = true) (wa0_4 : (Lit.int .u8 a0_4).wf = true) (wa0_5 : (Lit.int .i32 a0_5).wf = true) (wa0_6 : (Lit.int .i32 a0_6).wf = true) (wa0_7 : (Lit.int .i32 a0_7).wf = true) (wa0_8 : (Lit.int .i32 a0_8).wf = true) (wa0_9 : (Lit.int .i32 a0_9).wf = true) (wa0_10 : (Lit.int .i32 a0_10).wf = true) (wa1_0 : (Lit.int .i8 a1_0).wf = true) (wa1_1 : (Lit.int .i8 a1_1).wf = true) (wa2 : (Lit.int .i8 a2).wf = true) (wa3 : (Lit.int .i8 a3).wf = true) : ∃ n : Nat, F8e n a0_0 a0_1 a0_2 a0_4 a0_5 a0_6 a0_7 a0_8 a0_9 a0_10 a0_11 a1_0 a1_1 a2 a3 = some true := by
  obtain ⟨w, h, m, s, a, b, c, d, e, f, e41, P, M⟩ := picn_e a0_4 a0_5 a0_6 a0_7 a0_8 a0_9 a0_10 (wf_u8 wa0_0) (wf_u8 wa0_1) (wf_u8 wa0_2)
  have p0 : F41e_0 a0_0 a0_1 a0_2 a0_4 a0_5 a0_6 a0_7 a0_8 a0_9 a0_10 true = w := by unfold F41e_0; rw [e41]; rfl
  have p1 : F41e_1 a0_0 a0_1 a0_2 a0_4 a0_5 a0_6 a0_7 a0_8 a0_9 a0_10 true = h := by unfold F41e_1; rw [e41]; rfl
  have p2 : F41e_2 a0_0 a0_1 a0_2 a0_4 a0_5 a0_6 a0_7 a0_8 a0_9 a0_10 true = m := by unfold F41e_2; rw [e41]; rfl
  have p3 : F41e_3 a0_0 a0_1 a0_2 a0_4 a0_5 a0_6 a0_7 a0_8 a0_9 a0_10 true = s := by unfold F41e_3; rw [e41]; rfl
  have p4 : F41e_4 a0_0 a0_1 a0_2 a0_4 a0_5 a0_6 a0_7 a0_8 a0_9 a0_10 true = a := by unfold F41e_4; rw [e41]; rfl
  have p5 : F41e_5 a0_0 a0_1 a0_2 a0_4 a0_5 a0_6 a0_7 a0_8 a0_9 a0_10 true = b := by unfold F41e_5; rw [e41]; rfl
  have p6 : F41e_6 a0_0 a0_1 a0_2 a0_4 a0_5 a0_6 a0_7 a0_8 a0_9 a0_10 true = c := by unfold F41e_6; rw [e41]; rfl
  have p7 : F41e_7 a0_0 a0_1 a0_2 a0_4 a0_5 a0_6 a0_7 a0_8 a0_9 a0_10 true = d := by unfold F41e_7; rw [e41]; rfl
  have p8 : F41e_8 a0_0 a0_1 a0_2 a0_4 a0_5 a0_6 a0_7 a0_8 a0_9 a0_10 true = e := by unfold F41e_8; rw [e41]; rfl
  have p9 : F41e_9 a0_0 a0_1 a0_2 a0_4 a0_5 a0_6 a0_7 a0_8 a0_9 a0_10 true = f := by unfold F41e_9; rw [e41]; rfl
  have P0 := P
  obtain ⟨⟨w1, w2⟩, ⟨h1, h2⟩, m1, hl⟩ := P
  obtain ⟨Na, Nb, Nc, Nd, Ne, Nf⟩ := M
  have x1 := wf_i8 wa1_0
  have x2 := wf_i8 wa1_1
  have x3 := wf_i8 wa2
  have x4 := wf_i8 wa3
  refine ⟨1000, ?_⟩
  simp only [F8e, t8e_0, t8e_1, c8e_2, c8e_3, t8e_4, c8e_5, t8e_6, t8e_7, t8e_8, t8e_9, t8e_10, t8e_11, t8e_12, t8e_13, c8e_14, c8e_15, t8e_16, t8e_17, t8e_18, t8e_19, c8e_20, t8e_21, t8e_22, t8e_23, t8e_24, c8e_25, c8e_26, c8e_27, c8e_28, c8e_29, t8e_30, t8e_31, t8e_32, t8e_33, c8e_34, c8e_35, t8e_36, t8e_37, t8e_38, t8e_39, t8e_40, t8e_41, c8e_42, t8e_43, t8e_44, c8e_45, t8e_46, c8e_47, c8e_48, c8e_49, c8e_50, c8e_51, p0, p1, p2, p3, p4, p5, p6, p7, p8, p9, e41, Option.isSome_some, cond]
  clear e41 p0 p1 p2 p3 p4 p5 p6 p7 p8 p9
  have s1 : wrapA .i64 a1_0 = a1_0 := wrap64 (by omega) (by omega)
  have s2 : wrapA .i64 a1_1 = a1_1 := wrap64 (by omega) (by omega)
  have s3 : wrapA .i64 a2 = a2 := wrap64 (by omega) (by omega)
  have s4 : wrapA .i64 a3 = a3 := wrap64 (by omega) (by omega)
  have s5 : wrapA .i64 (Int.mul a1_0 65536) = a1_0 * 65536 := by rw [mul_int]; exact wrap64 (by omega) (by omega)
  have s6 : wrapA .i64 (Int.mul a1_1 65536) = a1_1 * 65536 := by rw [mul_int]; exact wrap64 (by omega) (by omega)
  have s7 : wrapA .i64 (Int.add e (a1_0 * 65536)) = e + a1_0 * 65536 := by rw [add_int]; exact wrap64 (by omega) (by omega)
  have s8 : wrapA .i64 (Int.add f (a1_1 * 65536)) = f + a1_1 * 65536 := by rw [add_int]; exact wrap64 (by omega) (by omega)
  have s9 : wrapA .i64 (Int.add a2 a1_0) = a2 + a1_0 := by rw [add_int]; exact wrap64 (by omega) (by omega)
  have s10 : wrapA .i64 (Int.add a3 a1_1) = a3 + a1_1 := by rw [add_int]; exact wrap64 (by omega) (by omega)
  have wa := mul_bd (x := w) (y := a) (a := 9) (b := 400000) (by omega) Na
  have wb := mul_bd (x := w) (y := b) (a := 9) (b := 400000) (by omega) Nb
  have s11 : wrapA .i64 (Int.mul w a) = w * a := by rw [mul_int]; exact wrap64 (by omega) (by omega)
  have s12 : wrapA .i64 (Int.mul w b) = w * b := by rw [mul_int]; exact wrap64 (by omega) (by omega)
  have s13 : wrapA .i64 (Int.add e (w * a)) = e + w * a := by rw [add_int]; exact wrap64 (by omega) (by omega)
  have s14 : wrapA .i64 (Int.add f (w * b)) = f + w * b := by rw [add_int]; exact wrap64 (by omega) (by omega)
  have s15 : IntKind.wrap .i64 (0 - a) = -a := by rw [← wrapA_eq, wrap64 (by omega) (by omega)]; omega
  have s16 : IntKind.wrap .i64 (0 - b) = -b := by rw [← wrapA_eq, wrap64 (by omega) (by omega)]; omega
  simp only [s1, s2, s3, s4, s5, s6, s7, s8, s9, s10, s11, s12, s13, s14, s15, s16]
  have M1 : Mx a b c d e f := ⟨by omega, by omega, by omega, by omega, by omega, by omega⟩
  have M2 : Mx a b c d (e + a1_0 * 65536) (f + a1_1 * 65536) := ⟨by omega, by omega, by omega, by omega, by omega, by omega⟩
  have M3 : Mx b a d c f e := ⟨by omega, by omega, by omega, by omega, by omega, by omega⟩
  have M4 : Mx (-a) (-b) c d (e + w * a) (f + w * b) := ⟨by omega, by omega, by omega, by omega, by omega, by omega⟩
  obtain ⟨i, j, z, e1, A1⟩ := f42 P0 M1 (x := a2) (y := a3) (by omega) (by omega) (by omega) (by omega)
  obtain ⟨i2, j2, z2, e2, A2⟩ := f42 P0 M2 (x := a2 + a1_0) (y := a3 + a1_1) (by omega) (by omega) (by omega) (by omega)
  obtain ⟨i3, j3, z3, e3, A3⟩ := f42 P0 M3 (x := a3) (y := a2) (by omega) (by omega) (by omega) (by omega)
  obtain ⟨k, l, z4, e4, A4⟩ := f42 P0 M4 (x := a2) (y := a3) (by omega) (by omega) (by omega) (by omega)
  generalize hD : a * d - b * c = D at *
  generalize hX : d * (65536 * a2 + 32768 - e) - c * (65536 * a3 + 32768 - f) = X at *
  generalize hY : a * (65536 * a3 + 32768 - f) - b * (65536 * a2 + 32768 - e) = Y at *
  have B1 := A1.al hD hX hY
  have B2 : Al w h D X Y i2 j2 z2 := A2.al hD (by rw [← hX, show 65536 * (a2 + a1_0) + 32768 - (e + a1_0 * 65536) = 65536 * a2 + 32768 - e by omega, show 65536 * (a3 + a1_1) + 32768 - (f + a1_1 * 65536) = 65536 * a3 + 32768 - f by omega])
    (by rw [← hY, show 65536 * (a2 + a1_0) + 32768 - (e + a1_0 * 65536) = 65536 * a2 + 32768 - e by omega, show 65536 * (a3 + a1_1) + 32768 - (f + a1_1 * 65536) = 65536 * a3 + 32768 - f by omega])
  have B3 : Al w h D X Y i3 j3 z3 := (A3.al (D := -D) (X := -X) (Y := -Y) (by rw [← hD, Int.mul_comm b c, Int.mul_comm a d]; rw [Int.mul_comm d a, Int.mul_comm c b]; omega) (by rw [← hX]; omega) (by rw [← hY]; omega)).neg
  have B4' : Al w h (-D) (X - w * D) (-Y) k l z4 := A4.al (by rw [← hD, Int.neg_mul, Int.neg_mul]; omega)
    (by rw [← hX, ← hD, show 65536 * a2 + 32768 - (e + w * a) = 65536 * a2 + 32768 - e - w * a by omega, show 65536 * a3 + 32768 - (f + w * b) = 65536 * a3 + 32768 - f - w * b by omega, Int.mul_sub d, Int.mul_sub c, Int.mul_sub w, show d * (w * a) = w * (a * d) by rw [Int.mul_left_comm, Int.mul_comm d a], show c * (w * b) = w * (b * c) by rw [Int.mul_left_comm, Int.mul_comm c b]]; omega)
    (by rw [← hY, show 65536 * a2 + 32768 - (e + w * a) = 65536 * a2 + 32768 - e - w * a by omega, show 65536 * a3 + 32768 - (f + w * b) = 65536 * a3 + 32768 - f - w * b by omega, Int.neg_mul, Int.neg_mul, Int.mul_sub a, Int.mul_sub b, show b * (w * a) = a * (w * b) by rw [Int.mul_left_comm, Int.mul_comm b a, Int.mul_left_comm w a]]; omega)
  obtain ⟨rfl, rfl, rfl⟩ := B1.uniq B2
  obtain ⟨rfl, rfl, rfl⟩ := B1.uniq B3
  obtain ⟨r0, r1, r2, r3, t1, t2⟩ := f43_same P0 e1 A1 e2 A2 (n := 1000) (by omega)
  obtain ⟨u0, u1, u2, u3, t3, t4⟩ := f43_same P0 e1 A1 e3 A3 (n := 1000) (by omega)
  rw [t1] at t3
  simp only [Option.some.injEq, Prod.mk.injEq] at t3
  obtain ⟨rfl, rfl, rfl, rfl, _, _⟩ := t3
  have fin : z3 = true → z4 = true → j3 = l ∧ (i3 + k = w - 1 ∨ i3 + k = w) := fun q1 q4 => by
    have hD0 : D ≠ 0 := fun q => by have := B1.flat q; rw [this] at q1; cases q1
    obtain ⟨p, q, g1, g2, _, g4⟩ := B1.some hD0
    obtain ⟨p', q', v1, v2, _, v4⟩ := B4'.some (by omega)
    obtain ⟨rfl, rfl⟩ := g4 q1
    obtain ⟨rfl, rfl⟩ := v4 q4
    exact ⟨fl_uniq hD0 g2 (fl_neg' v2), fl_mirror hD0 g1 v1⟩
  have fP0 : F43_0 1000 w h m s a b c d e f a2 a3 = r0 := by unfold F43_0; rw [t1]; rfl
  have fP1 : F43_1 1000 w h m s a b c d e f a2 a3 = r1 := by unfold F43_1; rw [t1]; rfl
  have fP2 : F43_2 1000 w h m s a b c d e f a2 a3 = r2 := by unfold F43_2; rw [t1]; rfl
  have fP3 : F43_3 1000 w h m s a b c d e f a2 a3 = r3 := by unfold F43_3; rw [t1]; rfl
  have fP4 : F43_4 1000 w h m s a b c d e f a2 a3 = z3 := by unfold F43_4; rw [t1]; rfl
  have fP5 : F43_5 1000 w h m s a b c d e f a2 a3 = 0 := by unfold F43_5; rw [t1]; rfl
  have fQ0 : F43_0 1000 w h m s a b c d (e + a1_0 * 65536) (f + a1_1 * 65536) (a2 + a1_0) (a3 + a1_1) = r0 := by unfold F43_0; rw [t2]; rfl
  have fQ1 : F43_1 1000 w h m s a b c d (e + a1_0 * 65536) (f + a1_1 * 65536) (a2 + a1_0) (a3 + a1_1) = r1 := by unfold F43_1; rw [t2]; rfl
  have fQ2 : F43_2 1000 w h m s a b c d (e + a1_0 * 65536) (f + a1_1 * 65536) (a2 + a1_0) (a3 + a1_1) = r2 := by unfold F43_2; rw [t2]; rfl
  have fQ3 : F43_3 1000 w h m s a b c d (e + a1_0 * 65536) (f + a1_1 * 65536) (a2 + a1_0) (a3 + a1_1) = r3 := by unfold F43_3; rw [t2]; rfl
  have fQ4 : F43_4 1000 w h m s a b c d (e + a1_0 * 65536) (f + a1_1 * 65536) (a2 + a1_0) (a3 + a1_1) = z3 := by unfold F43_4; rw [t2]; rfl
  have fQ5 : F43_5 1000 w h m s a b c d (e + a1_0 * 65536) (f + a1_1 * 65536) (a2 + a1_0) (a3 + a1_1) = 0 := by unfold F43_5; rw [t2]; rfl
  have fR0 : F43_0 1000 w h m s b a d c f e a3 a2 = r0 := by unfold F43_0; rw [t4]; rfl
  have fR1 : F43_1 1000 w h m s b a d c f e a3 a2 = r1 := by unfold F43_1; rw [t4]; rfl
  have fR2 : F43_2 1000 w h m s b a d c f e a3 a2 = r2 := by unfold F43_2; rw [t4]; rfl
  have fR3 : F43_3 1000 w h m s b a d c f e a3 a2 = r3 := by unfold F43_3; rw [t4]; rfl
  have fR4 : F43_4 1000 w h m s b a d c f e a3 a2 = z3 := by unfold F43_4; rw [t4]; rfl
  have fR5 : F43_5 1000 w h m s b a d c f e a3 a2 = 0 := by unfold F43_5; rw [t4]; rfl
  have gP0 : F42_0 w h m s a b c d e f a2 a3 = i3 := by unfold F42_0; rw [e1]; rfl
  have gP1 : F42_1 w h m s a b c d e f a2 a3 = j3 := by unfold F42_1; rw [e1]; rfl
  have gP2 : F42_2 w h m s a b c d e f a2 a3 = z3 := by unfold F42_2; rw [e1]; rfl
  have gP3 : F42_3 w h m s a b c d e f a2 a3 = 0 := by unfold F42_3; rw [e1]; rfl
  have gM0 : F42_0 w h m s (-a) (-b) c d (e + w * a) (f + w * b) a2 a3 = k := by unfold F42_0; rw [e4]; rfl
  have gM1 : F42_1 w h m s (-a) (-b) c d (e + w * a) (f + w * b) a2 a3 = l := by unfold F42_1; rw [e4]; rfl
  have gM2 : F42_2 w h m s (-a) (-b) c d (e + w * a) (f + w * b) a2 a3 = z4 := by unfold F42_2; rw [e4]; rfl
  have gM3 : F42_3 w h m s (-a) (-b) c d (e + w * a) (f + w * b) a2 a3 = 0 := by unfold F42_3; rw [e4]; rfl
  simp only [t1, t2, t4, e1, e4, fP0, fP1, fP2, fP3, fP4, fP5, fQ0, fQ1, fQ2, fQ3, fQ4, fQ5, fR0, fR1, fR2, fR3, fR4, fR5, gP0, gP1, gP2, gP3, gM0, gM1, gM2, gM3, eqI_same, nbeq, andB, Option.isSome_some, Bool.not_true]
  cases hz : z3 with
  | false => rfl
  | true =>
    cases hz4 : z4 with
    | false => rfl
    | true =>
      obtain ⟨q1, q2⟩ := fin hz hz4
      have bi : 0 ≤ i3 ∧ i3 < w := by
        have hD0 : D ≠ 0 := fun q => by have := B1.flat q; rw [this] at hz; cases hz
        obtain ⟨p, q, _, _, g3, g4⟩ := B1.some hD0
        obtain ⟨rfl, rfl⟩ := g4 hz
        have := g3.1 hz; omega
      have y1 : wrapA .i64 (Int.add i3 k) = i3 + k := by rw [add_int]; exact wrap64 (by omega) (by omega)
      have y2 : wrapA .i64 (Int.sub w 1) = w - 1 := by rw [sub_int]; exact wrap64 (by omega) (by omega)
      rw [y1, y2, eqT q1]
      rcases q2 with q2 | q2
      · rw [eqT q2]
      · rw [eqF (by omega : i3 + k ≠ w - 1), eqT q2]

end

theorem walke {w : World} {E : Nat → Go.Sx.Ent} (hE : Go.Sx.GlobE E) (a0_0 : Int) (a0_1 : Int) (a0_2 : Int) (a0_4 : Int) (a0_5 : Int) (a0_6 : Int) (a0_7 : Int) (a0_8 : Int) (a0_9 : Int) (a0_10 : Int) (a0_11 : Bool) (a1_0 : Int) (a1_1 : Int) (a2 : Int) (a3 : Int) (wa0_0 : (Lit.int .u8 a0_0).wf = true) (wa0_1 : (Lit.int .u8 a0_1).wf = true) (wa0_2 : (Lit.int .u8 a0_2).wf = true) (wa0_4 : (Lit.int .u8 a0_4).wf = true) (wa0_5 : (Lit.int .i32 a0_5).wf = true) (wa0_6 : (Lit.int .i32 a0_6).wf = true) (wa0_7 : (Lit.int .i32 a0_7).wf = true) (wa0_8 : (Lit.int .i32 a0_8).wf = true) (wa0_9 : (Lit.int .i32 a0_9).wf = true) (wa0_10 : (Lit.int .i32 a0_10).wf = true) (wa1_0 : (Lit.int .i8 a1_0).wf = true) (wa1_1 : (Lit.int .i8 a1_1).wf = true) (wa2 : (Lit.int .i8 a2).wf = true) (wa3 : (Lit.int .i8 a3).wf = true) (hL : Go.Sx.LaidAt E w []) {ARGS : List Value} (ha : Go.Sx.RelL (Go.Sx.laidE E) [.agg [.int .u8 a0_0, .int .u8 a0_1, .int .u8 a0_2, .emp, .int .u8 a0_4, .int .i32 a0_5, .int .i32 a0_6, .int .i32 a0_7, .int .i32 a0_8, .int .i32 a0_9, .int .i32 a0_10, .bool a0_11], .agg [.int .i8 a1_0, .int .i8 a1_1], .int .i8 a2, .int .i8 a3] ARGS) :
    Calls Try.prog 8 ARGS.toArray w fun e w' => e = .returned (.bool true) ∧ Below w.heap.size w w' := by
  obtain ⟨n, hn⟩ := law_ok_e a0_0 a0_1 a0_2 a0_4 a0_5 a0_6 a0_7 a0_8 a0_9 a0_10 a0_11 a1_0 a1_1 a2 a3 wa0_0 wa0_1 wa0_2 wa0_4 wa0_5 wa0_6 wa0_7 wa0_8 wa0_9 wa0_10 wa1_0 wa1_1 wa2 wa3
  exact Go.Sx.call_args_at okayed hE ha Try.func8 body8e_eq (run8e n a0_0 a0_1 a0_2 a0_4 a0_5 a0_6 a0_7 a0_8 a0_9 a0_10 a0_11 a1_0 a1_1 a2 a3  true hn) hL

theorem walks {w : World} {E : Nat → Go.Sx.Ent} (hE : Go.Sx.GlobE E) (a0_0 : Int) (a0_1 : Int) (a0_2 : Int) (x0 : List Go.Sx.AV) (c0 : Nat) (k0 : Nat) (a0_4 : Int) (a0_5 : Int) (a0_6 : Int) (a0_7 : Int) (a0_8 : Int) (a0_9 : Int) (a0_10 : Int) (a0_11 : Bool) (a1_0 : Int) (a1_1 : Int) (a2 : Int) (a3 : Int) (wa0_0 : (Lit.int .u8 a0_0).wf = true) (wa0_1 : (Lit.int .u8 a0_1).wf = true) (wa0_2 : (Lit.int .u8 a0_2).wf = true) (wx0 : 0 < c0 ∧ c0 ≤ k0 ∧ k0 ≤ maxLen ∧ Go.Sx.KOk (Go.Sx.kRep c0 [.int .u8]) x0) (wa0_4 : (Lit.int .u8 a0_4).wf = true) (wa0_5 : (Lit.int .i32 a0_5).wf = true) (wa0_6 : (Lit.int .i32 a0_6).wf = true) (wa0_7 : (Lit.int .i32 a0_7).wf = true) (wa0_8 : (Lit.int .i32 a0_8).wf = true) (wa0_9 : (Lit.int .i32 a0_9).wf = true) (wa0_10 : (Lit.int .i32 a0_10).wf = true) (wa1_0 : (Lit.int .i8 a1_0).wf = true) (wa1_1 : (Lit.int .i8 a1_1).wf = true) (wa2 : (Lit.int .i8 a2).wf = true) (wa3 : (Lit.int .i8 a3).wf = true) (hL : Go.Sx.LaidAt E w [(0, x0)]) {ARGS : List Value} (ha : Go.Sx.RelL (Go.Sx.laidE E) [.agg [.int .u8 a0_0, .int .u8 a0_1, .int .u8 a0_2, .slc 1048576 0 c0 (.exact k0), .int .u8 a0_4, .int .i32 a0_5, .int .i32 a0_6, .int .i32 a0_7, .int .i32 a0_8, .int .i32 a0_9, .int .i32 a0_10, .bool a0_11], .agg [.int .i8 a1_0, .int .i8 a1_1], .int .i8 a2, .int .i8 a3] ARGS) :
    Calls Try.prog 8 ARGS.toArray w fun e w' => e = .returned (.bool true) ∧ Below w.heap.size w w' := by
  obtain ⟨n, hn⟩ := law_ok_s a0_0 a0_1 a0_2 x0 c0 k0 a0_4 a0_5 a0_6 a0_7 a0_8 a0_9 a0_10 a0_11 a1_0 a1_1 a2 a3 wa0_0 wa0_1 wa0_2 wx0 wa0_4 wa0_5 wa0_6 wa0_7 wa0_8 wa0_9 wa0_10 wa1_0 wa1_1 wa2 wa3
  exact Go.Sx.call_args_at okayed hE ha Try.func8 body8s_eq (run8s n a0_0 a0_1 a0_2 x0 c0 k0 a0_4 a0_5 a0_6 a0_7 a0_8 a0_9 a0_10 a0_11 a1_0 a1_1 a2 a3 (wx0.2.2.2.pure) true hn) hL

set_option maxRecDepth 100000 in
theorem lifted (os : Os) (started : os.Started) (H : Type) (enc : TypeId × Value → H) :
    ReturnsInHanded {} Try.checked os 8 .any (Rows.sampleMovesSpec.pre6 enc Try.prog Try.f8 Rows.sampleMovesRow.domain false) (Rows.sampleMovesSpec.post enc Try.prog Try.f8 false true false false) := by
  refine returnsInHanded_of_change (C := Try.checked) own started (by kernel_rfl) Try.func8
    (ChangeSpec.witness6 (enc := enc) (C := Try.checked) false ⟨#[], #[.agg #[.int .u8 0, .int .u8 0, .int .u8 0, .slice none 0 0, .int .u8 0, .int .i32 0, .int .i32 0, .int .i32 0, .int .i32 0, .int .i32 0, .int .i32 0, .bool false], .agg #[.int .i8 0, .int .i8 0], .int .i8 0, .int .i8 0], []⟩ 8 (by kernel_rfl) (by kernel_rfl) (by kernel_rfl) (by kernel_rfl)) ?_
  intro W base args ds gs before hval0 hW hcnd _
  have hval : ∀ (j : Nat) t v, Try.f8.params[j]? = some t → args[j]? = some v → Value.okWide Try.prog W .any base t v := hval0
  have hW' := hW
  obtain ⟨p, q, hA0, hV, rfl, hfz, hnd⟩ := hW
  have hA : DataW.TrodAll enc Try.prog W 0 (fun _ => true) true Try.f8.params.toList args.toList ds p := hA0
  rw [Try.params8] at hA hval
  obtain ⟨v0, vs0, d0, ds0, p0, q0, hargs, rfl, rfl, h0, r0⟩ := trodAll_cons hA
  obtain ⟨v1, vs1, d1, ds1, p1, q1, rfl, rfl, rfl, h1, r1⟩ := trodAll_cons r0
  obtain ⟨v2, vs2, d2, ds2, p2, q2, rfl, rfl, rfl, h2, r2⟩ := trodAll_cons r1
  obtain ⟨v3, vs3, d3, ds3, p3, q3, rfl, rfl, rfl, h3, r3⟩ := trodAll_cons r2
  obtain ⟨rfl, rfl, rfl⟩ := trodAll_nil r3
  obtain rfl : args = #[v0, v1, v2, v3] := by cases args; simp_all
  obtain ⟨rfl, rfl⟩ := trodVars_none hV
  obtain ⟨cs0, k0⟩ := Go.Sx.open_cs (ks := [.int .u8, .int .u8, .int .u8, .sl [.int .u8], .int .u8, .int .i32, .int .i32, .int .i32, .int .i32, .int .i32, .int .i32, .bool]) (by kernel_rfl) h0
  have g0 := k0
  obtain ⟨cs1, k1⟩ := Go.Sx.open_cs (ks := [.int .i8, .int .i8]) (by kernel_rfl) h1
  have g1 := k1
  obtain ⟨cs2, k2⟩ := Go.Sx.open_cs (ks := [.int .i8]) (by kernel_rfl) h2
  have g2 := k2
  obtain ⟨cs3, k3⟩ := Go.Sx.open_cs (ks := [.int .i8]) (by kernel_rfl) h3
  have g3 := k3
  clear hA0
  have done : Calls Try.prog 8 #[v0, v1, v2, v3] W (fun e w' => e = .returned (.bool true) ∧ Below W.heap.size W w') := by
    obtain ⟨_, _, _, _, rfl, _, ⟨a0_0, rfl, wa0_0, rfl⟩, k0⟩ := k0
    obtain ⟨_, _, _, _, rfl, _, ⟨a0_1, rfl, wa0_1, rfl⟩, k0⟩ := k0
    obtain ⟨_, _, _, _, rfl, _, ⟨a0_2, rfl, wa0_2, rfl⟩, k0⟩ := k0
    obtain ⟨_, _, _, _, rfl, _, hS0, k0⟩ := k0
    obtain ⟨_, _, _, _, rfl, _, ⟨a0_4, rfl, wa0_4, rfl⟩, k0⟩ := k0
    obtain ⟨_, _, _, _, rfl, _, ⟨a0_5, rfl, wa0_5, rfl⟩, k0⟩ := k0
    obtain ⟨_, _, _, _, rfl, _, ⟨a0_6, rfl, wa0_6, rfl⟩, k0⟩ := k0
    obtain ⟨_, _, _, _, rfl, _, ⟨a0_7, rfl, wa0_7, rfl⟩, k0⟩ := k0
    obtain ⟨_, _, _, _, rfl, _, ⟨a0_8, rfl, wa0_8, rfl⟩, k0⟩ := k0
    obtain ⟨_, _, _, _, rfl, _, ⟨a0_9, rfl, wa0_9, rfl⟩, k0⟩ := k0
    obtain ⟨_, _, _, _, rfl, _, ⟨a0_10, rfl, wa0_10, rfl⟩, k0⟩ := k0
    obtain ⟨_, _, _, _, rfl, _, ⟨a0_11, rfl, rfl⟩, k0⟩ := k0
    obtain ⟨rfl, _⟩ := k0
    obtain ⟨_, _, _, _, rfl, _, ⟨a1_0, rfl, wa1_0, rfl⟩, k1⟩ := k1
    obtain ⟨_, _, _, _, rfl, _, ⟨a1_1, rfl, wa1_1, rfl⟩, k1⟩ := k1
    obtain ⟨rfl, _⟩ := k1
    obtain ⟨_, _, _, _, rfl, _, ⟨a2, rfl, wa2, rfl⟩, k2⟩ := k2
    obtain ⟨rfl, _⟩ := k2
    obtain ⟨_, _, _, _, rfl, _, ⟨a3, rfl, wa3, rfl⟩, k3⟩ := k3
    obtain ⟨rfl, _⟩ := k3
    rcases hS0 with ⟨rfl, _⟩ | ⟨b0, s0, c0, k0', x0, rfl, p0, q0', m0, z0, u0, _⟩
    · skip
      exact walke (Go.Sx.argE_glob _) a0_0 a0_1 a0_2 a0_4 a0_5 a0_6 a0_7 a0_8 a0_9 a0_10 a0_11 a1_0 a1_1 a2 a3 wa0_0 wa0_1 wa0_2 wa0_4 wa0_5 wa0_6 wa0_7 wa0_8 wa0_9 wa0_10 wa1_0 wa1_1 wa2 wa3 (Go.Sx.laid_nil _ _) (ARGS := [v0, v1, v2, v3]) ⟨_, _, Go.Sx.rel_agg_cs (E := (Go.Sx.argE [])) (n := 0) (.inl ⟨_, Try.underlying72⟩) (hval 0 72 v0 rfl rfl) g0 trivial, ⟨_, _, Go.Sx.rel_agg_cs (E := (Go.Sx.argE [])) (n := 0) (.inr ⟨_, _, Try.underlying79⟩) (hval 1 79 v1 rfl rfl) g1 trivial, ⟨_, _, Go.Sx.rel_one_cs (E := (Go.Sx.argE [])) (n := 0) (t := 24) (Go.Sx.one_int Try.underlying24 (hval 2 24 v2 rfl rfl)) g2 trivial rfl, ⟨_, _, Go.Sx.rel_one_cs (E := (Go.Sx.argE [])) (n := 0) (t := 24) (Go.Sx.one_int Try.underlying24 (hval 3 24 v3 rfl rfl)) g3 trivial rfl, rfl, rfl⟩, rfl⟩, rfl⟩, rfl⟩
    · skip
      exact walks (Go.Sx.argE_glob _) a0_0 a0_1 a0_2 x0 c0 k0' a0_4 a0_5 a0_6 a0_7 a0_8 a0_9 a0_10 a0_11 a1_0 a1_1 a2 a3 wa0_0 wa0_1 wa0_2 ⟨p0, q0', m0, z0⟩ wa0_4 wa0_5 wa0_6 wa0_7 wa0_8 wa0_9 wa0_10 wa1_0 wa1_1 wa2 wa3 (Go.Sx.laid_more (E := (Go.Sx.argE [(b0, s0)])) (g := 0) u0 (Go.Sx.laid_nil _ _)) (ARGS := [v0, v1, v2, v3]) ⟨_, _, Go.Sx.rel_agg_cs (E := (Go.Sx.argE [(b0, s0)])) (n := 0) (.inl ⟨_, Try.underlying72⟩) (hval 0 72 v0 rfl rfl) g0 ⟨rfl, trivial⟩, ⟨_, _, Go.Sx.rel_agg_cs (E := (Go.Sx.argE [(b0, s0)])) (n := 1) (.inr ⟨_, _, Try.underlying79⟩) (hval 1 79 v1 rfl rfl) g1 trivial, ⟨_, _, Go.Sx.rel_one_cs (E := (Go.Sx.argE [(b0, s0)])) (n := 1) (t := 24) (Go.Sx.one_int Try.underlying24 (hval 2 24 v2 rfl rfl)) g2 trivial rfl, ⟨_, _, Go.Sx.rel_one_cs (E := (Go.Sx.argE [(b0, s0)])) (n := 1) (t := 24) (Go.Sx.one_int Try.underlying24 (hval 3 24 v3 rfl rfl)) g3 trivial rfl, rfl, rfl⟩, rfl⟩, rfl⟩, rfl⟩
  refine done.mono fun e W' ⟨he, hg⟩ => ?_
  subst he
  exact ⟨_, rfl, Go.Sx.post_of_below (pv := []) hW' (fun _ _ _ => (trodAll_cons_mk (shut_bool Try.underlying4 _) trodAll_mk0)) (fun sp hsp => (trodAll_cons_mk (Go.Sx.stays_below laidOut (by kernel_rfl) (Nat.le_of_ble_eq_true (by kernel_rfl)) h0 hg (fun p hp => hsp p (by simp [hp]))) (trodAll_cons_mk (Go.Sx.stays_below laidOut (by kernel_rfl) (Nat.le_of_ble_eq_true (by kernel_rfl)) h1 hg (fun p hp => hsp p (by simp [hp]))) (trodAll_cons_mk (Go.Sx.stays_below laidOut (by kernel_rfl) (Nat.le_of_ble_eq_true (by kernel_rfl)) h2 hg (fun p hp => hsp p (by simp [hp]))) (trodAll_cons_mk (Go.Sx.stays_below laidOut (by kernel_rfl) (Nat.le_of_ble_eq_true (by kernel_rfl)) h3 hg (fun p hp => hsp p (by simp [hp]))) trodAll_mk0))))) (fun _ _ => rfl) (by simp)
    hg (ok_one (by kernel_rfl) rfl (okWide_bool_mk Try.underlying4 _))⟩

theorem over : Rows.sampleMovesRow.holds Try.pinned (OpenSpec.ofChange Rows.sampleMovesSpec) :=
  OpenClaim.holds_of_wide 8 Try.f8 rfl rfl rfl rfl rfl rfl rfl ⟨rfl, rfl, rfl, rfl, rfl⟩ rfl rfl rfl rfl rfl (by kernel_rfl) Try.func8 (by kernel_rfl)
    (of_decide_eq_true (by kernel_rfl)) (by unfold Func.isWrapper; first | (rw [if_pos (by decide +kernel)]; kernel_rfl) | (rw [if_neg (by decide +kernel)]; exact ⟨rfl, rfl⟩))
    (fun os started H enc _ => lifted os started H enc)

theorem proved : Rows.SampleMovesSaid := over
#print axioms proved
end Go.Proofs.Ytldghibpecmpjaa.sampleMoves
