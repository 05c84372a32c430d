/- 'chase/chaselaw26.ColorInks' returns true for every argument, and nothing that was there is changed. The first parts are the texts before: each function of the run as a term. Here: the numbers, and the rest. -/
import Derived.Test.YtglddbgaonciaaaColorInksB
namespace Go.Proofs.Ytglddbgaonciaaa.colorInks
open Go.ChangeShapes Go.WideShapes Go.ChangeAt Go.WideMaps Go.WideElems Go.RowKit
set_option linter.unusedVariables false
section
open Go.Sx
set_option maxRecDepth 1000000

set_option maxRecDepth 100000
theorem cS {α : Type} (b : Bool) (x y : α) : (bif b then some x else some y) = some (bif b then x else y) := by cases b <;> rfl
theorem condP (b x y : Bool) : ((bif b then x else y) = true) = ((b = true ∧ x = true) ∨ (b = false ∧ y = true)) := by cases b <;> simp
theorem condF (b x y : Bool) : ((bif b then x else y) = false) = ((b = true ∧ x = false) ∨ (b = false ∧ y = false)) := by cases b <;> simp
theorem nneg_f (b : Bool) : ((!b) = false) = (b = true) := by cases b <;> simp
theorem andB_t (a b : Bool) : (andB a b = true) = (a = true ∧ b = true) := by cases a <;> simp [andB]
theorem andB_f (a b : Bool) : (andB a b = false) = (a = false ∨ b = false) := by cases a <;> simp [andB]
theorem strNil_t (s : List Nat) : (strEq s [] = true) = (s.length = 0) := by cases s <;> simp [strEq]
theorem strNil_f (s : List Nat) : (strEq s [] = false) = (s.length ≠ 0) := by cases s <;> simp [strEq]
theorem strEq_same (s : List Nat) : strEq s s = true := by simp [strEq]
theorem eqI_same (n : Int) : eqI n n = true := by rw [eqI_t]
theorem min3 (a b c : Int) : (if c < if b < a then b else a then c else if b < a then b else a) = min a (min b c) := by
  split <;> split at * <;> omega
theorem min3z {a b c k : Int} (h : k = min a (min b c)) : min (a - k) (min (b - k) (c - k)) = 0 := by omega
theorem maxb {b k : Int} (h : 0 ≤ b) : max 0 (255 - (255 - b - k) - k) = b := by omega
theorem maxc {b : Int} (h : 0 ≤ b) : max 0 (255 - 0 - (255 - b)) = b := by omega
theorem kbd {a b c k : Int} (h : k = min (255 - a) (min (255 - b) (255 - c))) (a1 : 0 ≤ a) (a2 : a ≤ 255) (b1 : 0 ≤ b) (b2 : b ≤ 255) (c1 : 0 ≤ c) (c2 : c ≤ 255) : (0 ≤ k ∧ k ≤ 255) ∧ (0 ≤ 255 - a - k ∧ 255 - a - k ≤ 255) ∧ (0 ≤ 255 - b - k ∧ 255 - b - k ≤ 255) ∧ (0 ≤ 255 - c - k ∧ 255 - c - k ≤ 255) := by omega
theorem subw {a k : Int} (h : 0 ≤ 255 - a - k ∧ 255 - a - k ≤ 255) : wrapA .i64 (255 - a - k) = 255 - a - k := by rw [w64]; omega
theorem max0 (a : Int) : (if a > 0 then a else 0) = max 0 a := by split <;> omega
theorem clamp_id {a : Int} (h : 0 ≤ a ∧ a ≤ 255) : (if 255 < if 0 > a then 0 else a then 255 else if 0 > a then 0 else a) = a := by
  split <;> split at * <;> omega
theorem F8_ok {x : Int} (h : -2147483648 ≤ x ∧ x ≤ 2147483648) : F8_1 x = 0 ∧ 0 ≤ F8_0 x ∧ F8_0 x ≤ 255 := by
  have e : F8 x = if x < 0 then some (0, 0) else if 65536 < x then some (255, 0) else some (t8_0 x, 0) := by
    simp only [F8, condI, ltI_t]
    rw [if_neg (by omega), if_neg (by omega)]
  by_cases h1 : x < 0
  · simp only [F8_0, F8_1, e, if_pos h1]; exact ⟨rfl, by decide, by decide⟩
  · by_cases h2 : 65536 < x
    · simp only [F8_0, F8_1, e, if_neg h1, if_pos h2]; exact ⟨rfl, by decide, by decide⟩
    · have t : t8_0 x = (255 * x + 32768) / 65536 := by
        simp only [t8_0, mul_int, add_int]
        rw [wrap64 (n := 255 * x) (by omega) (by omega), wrap64 (n := 255 * x + 32768) (by omega) (by omega), tdiv_pos (by omega), wrap64 (by omega) (by omega)]
      simp only [F8_0, F8_1, e, if_neg h1, if_neg h2, Option.getD_some, t]
      exact ⟨trivial, by omega, by omega⟩
theorem F30_ok {x : Int} (h : -2147483648 ≤ x ∧ x ≤ 2147483648) : F30_0 x = F8_0 x := by
  simp only [F30_0, F30, (F8_ok h).1, condI, nneg_n, eqI_f]; rfl
theorem F26_ok {i0 i1 i2 i3 : Int} (h0 : 0 ≤ i0 ∧ i0 ≤ 255) (h1 : 0 ≤ i1 ∧ i1 ≤ 255) (h2 : 0 ≤ i2 ∧ i2 ≤ 255) (h3 : 0 ≤ i3 ∧ i3 ≤ 255) : F26 i0 i1 i2 i3 = some 0 := by
  have e0 : t26_0 i0 = i0 := clamp_id h0
  have e1 : t26_1 i1 = i1 := clamp_id h1
  have e2 : t26_2 i2 = i2 := clamp_id h2
  have e3 : t26_3 i3 = i3 := clamp_id h3
  have r1 : ∀ z : Int, eqI z z = true := fun z => (eqI_t z z).mpr rfl
  simp only [F26, c26_4, e0, e1, e2, e3, r1]; rfl
theorem F26_0_ok {i0 i1 i2 i3 : Int} (h0 : 0 ≤ i0 ∧ i0 ≤ 255) (h1 : 0 ≤ i1 ∧ i1 ≤ 255) (h2 : 0 ≤ i2 ∧ i2 ≤ 255) (h3 : 0 ≤ i3 ∧ i3 ≤ 255) : F26_0 i0 i1 i2 i3 = 0 := by
  simp only [F26_0, F26_ok h0 h1 h2 h3]; rfl
theorem F24_ok {i0 i1 i2 i3 : Int} (h0 : 0 ≤ i0 ∧ i0 ≤ 255) (h1 : 0 ≤ i1 ∧ i1 ≤ 255) (h2 : 0 ≤ i2 ∧ i2 ≤ 255) (h3 : 0 ≤ i3 ∧ i3 ≤ 255) : F24 i0 i1 i2 i3 = some (max 0 (255 - i0 - i3), max 0 (255 - i1 - i3), max 0 (255 - i2 - i3), 0) := by
  have w : ∀ a : Int, 0 ≤ a ∧ a ≤ 255 → wrapA .i64 (Int.sub (wrapA .i64 (Int.sub 255 a)) i3) = 255 - a - i3 := fun a ha => by simp only [sub_int, w64]; omega
  have e0 : t24_0 i0 i3 = max 0 (255 - i0 - i3) := by simp only [t24_0, w i0 h0, max0]
  have e1 : t24_1 i1 i3 = max 0 (255 - i1 - i3) := by simp only [t24_1, w i1 h1, max0]
  have e2 : t24_2 i2 i3 = max 0 (255 - i2 - i3) := by simp only [t24_2, w i2 h2, max0]
  simp only [F24, F26_0_ok h0 h1 h2 h3, e0, e1, e2]; rfl
theorem w64r (n : Int) : -9223372036854775808 ≤ wrapA .i64 n ∧ wrapA .i64 n ≤ 9223372036854775807 := by rw [w64]; omega
theorem tdiv_in {a y : Int} (hy : 2 ≤ y) (h : -9223372036854775808 ≤ a ∧ a ≤ 9223372036854775807) : -4611686018427387904 ≤ Int.tdiv a y ∧ Int.tdiv a y ≤ 4611686018427387904 := by
  have h1 : (Int.tdiv a y).natAbs = a.natAbs / y.natAbs := Int.natAbs_tdiv a y
  have h2 : a.natAbs / y.natAbs ≤ a.natAbs / 2 := Nat.div_le_div_left (by omega) (by omega)
  omega
theorem floor_ok {a y : Int} (hy : 2 ≤ y) (h : -9223372036854775808 ≤ a ∧ a ≤ 9223372036854775807) :
    (if Int.tmod a y < 0 then some (wrapA .i64 (Int.tdiv a y - 1)) else some (wrapA .i64 (Int.tdiv a y))) = some (a / y) := by
  have hb := tdiv_in hy h
  have hd := tdiv_floor (a := a) (y := y) (by omega)
  split
  · rename_i q; rw [if_pos q] at hd; rw [wrap64 (by omega) (by omega), hd]
  · rename_i q; rw [if_neg q] at hd; rw [wrap64 (by omega) (by omega), hd]
theorem wrap_tdiv {a y : Int} (hy : 2 ≤ y) (h : -9223372036854775808 ≤ a ∧ a ≤ 9223372036854775807) : wrapA .i64 (Int.tdiv a y) = Int.tdiv a y := by
  have hb := tdiv_in hy h
  exact wrap64 (by omega) (by omega)
theorem F44_ok {a y : Int} (hy : 2 ≤ y) (h : -9223372036854775808 ≤ a ∧ a ≤ 9223372036854775807) : F44 a y = some (a / y) := by
  simp only [F44, condI, nneg_n, eqI_f, ltI_t, sub_int, wrap_tdiv hy h]
  rw [if_pos (by omega)]
  simpa only [wrap_tdiv hy h] using floor_ok hy h
theorem F31_t (x : Int) : (F31_0 x = true) = (-2147483648 ≤ x ∧ x ≤ 2147483648) := by
  simp only [F31_0, F31, condI, nneg_n, ltI_f]
  by_cases h : -2147483648 ≤ x
  · simp only [h, if_true, true_and, Option.getD_some, nneg_n, ltI_f]
  · simp [h]
theorem F8_val (x : Int) : F8 x = if F31_0 x = true then some (F8_0 x, 0) else some (0, 2) := by
  by_cases h : F31_0 x = true
  · rw [if_pos h]
    rw [F31_t] at h
    obtain ⟨h1, h2, h3⟩ := F8_ok h
    have : F8 x = some ((F8 x).getD default) := by
      simp only [F8, condI, ltI_t]
      rw [if_neg (by omega), if_neg (by omega)]
      split
      · rfl
      · split <;> rfl
    rw [this]
    show some (F8_0 x, F8_1 x) = _
    rw [h1]
  · rw [if_neg h]
    rw [F31_t] at h
    simp only [F8, condI, ltI_t]
    by_cases q : x < -2147483648
    · rw [if_pos q]
    · rw [if_neg q, if_pos (by omega)]
theorem F32_val {x : Int} (h : F31_0 x = true) : F32 x = some (F8_0 x) := by
  rw [F31_t] at h
  have e : F8_0 x = if x < 0 then 0 else if 65536 < x then 255 else (255 * x + 32768) / 65536 := by
    have e : F8 x = if x < 0 then some (0, 0) else if 65536 < x then some (255, 0) else some (t8_0 x, 0) := by
      simp only [F8, condI, ltI_t]
      rw [if_neg (by omega), if_neg (by omega)]
    by_cases h1 : x < 0
    · simp only [F8_0, e, if_pos h1]; rfl
    · by_cases h2 : 65536 < x
      · simp only [F8_0, e, if_neg h1, if_pos h2]; rfl
      · simp only [F8_0, e, if_neg h1, if_neg h2, Option.getD_some, t8_0, mul_int, add_int]
        rw [wrap64 (n := 255 * x) (by omega) (by omega), wrap64 (n := 255 * x + 32768) (by omega) (by omega), tdiv_pos (by omega), wrap64 (by omega) (by omega)]
  simp only [F32, condI, ltI_t, e]
  by_cases h1 : x < 0
  · simp only [if_pos h1]
  · by_cases h2 : 65536 < x
    · simp only [if_neg h1, if_pos h2]
    · have w1 : wrapA .i64 (Int.mul 255 x) = 255 * x := by simp only [mul_int, w64]; omega
      have w2 : wrapA .i64 (Int.add (wrapA .i64 (Int.mul 2 (255 * x))) 65536) = 510 * x + 65536 := by simp only [mul_int, add_int, w64]; omega
      have w3 : wrapA .i64 (Int.mul 2 65536) = 131072 := by decide
      have f := F44_ok (a := 510 * x + 65536) (y := 131072) (by omega) (by omega)
      have f0 : F44_0 (510 * x + 65536) 131072 = (510 * x + 65536) / 131072 := by simp only [F44_0, f]; rfl
      have g : F40 (255 * x) 65536 = some ((510 * x + 65536) / 131072) := by
        simp only [F40, t40_0, w2, w3, f, f0, Option.isSome_some, cond_true]
      have g0 : F40_0 (255 * x) 65536 = (510 * x + 65536) / 131072 := by simp only [F40_0, g]; rfl
      simp only [if_neg h1, if_neg h2, w1, g, g0, Option.isSome_some, if_true]
      congr 1; omega
theorem F8_01 {x : Int} (h : F31_0 x = true) : F8_1 x = 0 := by rw [F31_t] at h; exact (F8_ok h).1
theorem F8_n {x : Int} (h : F31_0 x = false) : F8_0 x = 0 ∧ F8_1 x = 2 := by
  have : ¬ F31_0 x = true := by rw [h]; simp
  have e : F8 x = some (0, 2) := by rw [F8_val, if_neg this]
  simp only [F8_0, F8_1, e]; exact ⟨rfl, rfl⟩
theorem F9_val (x : Int) : F9 x = F8 x := by
  rw [F8_val]
  cases h : F31_0 x with
  | true => simp only [F9, F32_0, F32_val h, h, if_true, Option.isSome_some, Bool.not_true, cond_false, cond_true, Option.getD_some]
  | false => simp only [F9, h]; rfl
theorem F11_val (x : Int) : F11 x = F10 x := by
  cases h : F31_0 x with
  | true => simp only [F11, F10, F8_01 h, F32_0, F32_val h, h, F34_0, F34_1, F34_2, F34_3, F34]; rfl
  | false => simp only [F11, F10, (F8_n h).2, h]; rfl
theorem F13_val (x y z : Int) : F13 x y z = F12 x y z := by
  cases h : F31_0 x with
  | false => simp only [F13, F12, (F8_n h).2, h]; rfl
  | true =>
    cases k : F31_0 y with
    | false => simp only [F13, F12, F8_01 h, (F8_n k).2, h, k]; rfl
    | true =>
      cases l : F31_0 z with
      | false => simp only [F13, F12, F8_01 h, F8_01 k, (F8_n l).2, h, k, l]; rfl
      | true => simp only [F13, F12, F8_01 h, F8_01 k, F8_01 l, F32_0, F32_val h, F32_val k, F32_val l, h, k, l, F35_0, F35_1, F35_2, F35_3, F35]; rfl
theorem F15_val (x y z u : Int) : F15 x y z u = F14 x y z u := by
  cases h : F31_0 x with
  | false => simp only [F15, F14, (F8_n h).2, h]; rfl
  | true =>
    cases k : F31_0 y with
    | false => simp only [F15, F14, F8_01 h, (F8_n k).2, h, k]; rfl
    | true =>
      cases l : F31_0 z with
      | false => simp only [F15, F14, F8_01 h, F8_01 k, (F8_n l).2, h, k, l]; rfl
      | true =>
        cases m : F31_0 u with
        | false => simp only [F15, F14, F8_01 h, F8_01 k, F8_01 l, (F8_n m).2, h, k, l, m]; rfl
        | true => simp only [F15, F14, F8_01 h, F8_01 k, F8_01 l, F8_01 m, F32_0, F32_val h, F32_val k, F32_val l, F32_val m, h, k, l, m]; rfl
theorem some10 (x : Int) : (F10 x).isSome = true := F10_some x
theorem mix_q {i j x y : Int} (hi : 0 ≤ i ∧ i ≤ 255) (hj : 0 ≤ j ∧ j ≤ 255) (hy : 1 ≤ y ∧ y ≤ 2147483648) (hx : 0 ≤ x ∧ x ≤ y) :
    wrapA .i64 (Int.tdiv (wrapA .i64 (Int.add (wrapA .i64 (Int.mul 2 (wrapA .i64 (Int.add (wrapA .i64 (Int.mul (wrapA .i64 (Int.sub y x)) i)) (wrapA .i64 (Int.mul x j)))))) y)) (wrapA .i64 (Int.mul 2 y))) = (2 * ((y - x) * i + x * j) + y) / (2 * y) ∧
    (0 ≤ (y - x) * i ∧ (y - x) * i ≤ 547608330240) ∧ (0 ≤ x * j ∧ x * j ≤ 547608330240) := by
  have p1 : 0 ≤ (y - x) * i := Int.mul_nonneg (by omega) hi.1
  have p2 : 0 ≤ x * j := Int.mul_nonneg hx.1 hj.1
  have p3 := (mul_bd (x := y - x) (y := i) (a := 2147483648) (b := 255) (by omega) (by omega) (by omega) (by omega)).2
  have p4 := (mul_bd (x := x) (y := j) (a := 2147483648) (b := 255) (by omega) (by omega) (by omega) (by omega)).2
  have w1 : wrapA .i64 (Int.sub y x) = y - x := by simp only [sub_int, w64]; omega
  refine ⟨?_, ⟨p1, by omega⟩, ⟨p2, by omega⟩⟩
  rw [w1]
  simp only [mul_int, add_int]
  generalize (y - x) * i = a at *
  generalize x * j = b at *
  rw [wrap64 (n := a) (by omega) (by omega), wrap64 (n := b) (by omega) (by omega), wrap64 (n := a + b) (by omega) (by omega), wrap64 (n := 2 * (a + b)) (by omega) (by omega), wrap64 (n := 2 * (a + b) + y) (by omega) (by omega), wrap64 (n := 2 * y) (by omega) (by omega), tdiv_pos (by omega)]
  refine wrap64 ?_ ?_
  · have := Int.ediv_nonneg (a := 2 * (a + b) + y) (b := 2 * y) (by omega) (by omega); omega
  · have := Int.ediv_le_self (2 * y) (a := 2 * (a + b) + y) (by omega); omega
/-- the quotient, by what it is -/
theorem mix_div {n y q : Int} (hy : 1 ≤ y) (hq : (2 * n + y) / (2 * y) = q) : -y ≤ 2 * (n - y * q) ∧ 2 * (n - y * q) < y := by
  have h1 := Int.emod_nonneg (2 * n + y) (show 2 * y ≠ 0 by omega)
  have h2 := Int.emod_lt_of_pos (2 * n + y) (show 0 < 2 * y by omega)
  have h3 := Int.mul_ediv_add_emod (2 * n + y) (2 * y)
  rw [hq, Int.mul_assoc] at h3
  omega
theorem le_of_mul {y a b : Int} (hy : 1 ≤ y) (h : 2 * (y * a) < 2 * (y * b) + 2 * y) : a ≤ b := by
  refine Int.le_of_lt_add_one ?_
  refine Int.lt_of_mul_lt_mul_left (a := y) ?_ (by omega)
  rw [Int.mul_add, Int.mul_one]; omega
theorem mix_between {i j x y q : Int} (hy : 1 ≤ y) (hx : 0 ≤ x ∧ x ≤ y) (hq : (2 * ((y - x) * i + x * j) + y) / (2 * y) = q) : min i j ≤ q ∧ q ≤ max i j := by
  obtain ⟨h1, h2⟩ := mix_div hy hq
  have e : (y - x) * i + x * j = y * i + x * (j - i) := by rw [Int.sub_mul, Int.mul_sub]; omega
  have e2 : (y - x) * i + x * j = y * j + (y - x) * (i - j) := by rw [Int.mul_sub, Int.sub_mul (c := j)]; omega
  by_cases hij : i ≤ j
  · have a1 : 0 ≤ x * (j - i) := Int.mul_nonneg hx.1 (by omega)
    have a2 : 0 ≤ (y - x) * (j - i) := Int.mul_nonneg (by omega) (by omega)
    have a3 : (y - x) * (i - j) = -((y - x) * (j - i)) := by rw [← Int.mul_neg]; congr 1; omega
    have b1 : i ≤ q := le_of_mul hy (by omega)
    have b2 : q ≤ j := le_of_mul hy (by omega)
    omega
  · have a1 : 0 ≤ x * (i - j) := Int.mul_nonneg hx.1 (by omega)
    have a2 : 0 ≤ (y - x) * (i - j) := Int.mul_nonneg (by omega) (by omega)
    have a3 : x * (j - i) = -(x * (i - j)) := by rw [← Int.mul_neg]; congr 1; omega
    have b1 : j ≤ q := le_of_mul hy (by omega)
    have b2 : q ≤ i := le_of_mul hy (by omega)
    omega
theorem mix_mono {i j x z y q r : Int} (hy : 1 ≤ y) (hx : 0 ≤ x ∧ x ≤ z) (hz : z ≤ y) (hq : (2 * ((y - x) * i + x * j) + y) / (2 * y) = q) (hr : (2 * ((y - z) * i + z * j) + y) / (2 * y) = r) :
    max (j - r) (r - j) ≤ max (j - q) (q - j) := by
  obtain ⟨bq1, bq2⟩ := mix_between hy (by omega) hq
  obtain ⟨br1, br2⟩ := mix_between hy (by omega) hr
  obtain ⟨h1, h2⟩ := mix_div hy hq
  obtain ⟨h3, h4⟩ := mix_div hy hr
  have e : (y - z) * i + z * j = (y - x) * i + x * j + (z - x) * (j - i) := by
    simp only [Int.sub_mul, Int.mul_sub]; omega
  by_cases hij : i ≤ j
  · have a1 : 0 ≤ (z - x) * (j - i) := Int.mul_nonneg (by omega) (by omega)
    have : q ≤ r := le_of_mul hy (by omega)
    omega
  · have a1 : 0 ≤ (z - x) * (i - j) := Int.mul_nonneg (by omega) (by omega)
    have a3 : (z - x) * (j - i) = -((z - x) * (i - j)) := by rw [← Int.mul_neg]; congr 1; omega
    have : r ≤ q := le_of_mul hy (by omega)
    omega
def Mq (i j x y : Int) : Int := (2 * ((y - x) * i + x * j) + y) / (2 * y)
theorem F28_ok {i0 i1 i2 i3 j0 j1 j2 j3 x y : Int} (h0 : 0 ≤ i0 ∧ i0 ≤ 255) (h1 : 0 ≤ i1 ∧ i1 ≤ 255) (h2 : 0 ≤ i2 ∧ i2 ≤ 255) (h3 : 0 ≤ i3 ∧ i3 ≤ 255) (k0 : 0 ≤ j0 ∧ j0 ≤ 255) (k1 : 0 ≤ j1 ∧ j1 ≤ 255) (k2 : 0 ≤ j2 ∧ j2 ≤ 255) (k3 : 0 ≤ j3 ∧ j3 ≤ 255)
    (hy : 1 ≤ y ∧ y ≤ 2147483648) (hx : 0 ≤ x ∧ x ≤ y) : F28 i0 i1 i2 i3 j0 j1 j2 j3 x y = some (Mq i0 j0 x y, Mq i1 j1 x y, Mq i2 j2 x y, Mq i3 j3 x y, 0) := by
  have q0 : t28_0 i0 j0 x y = Mq i0 j0 x y := (mix_q h0 k0 hy hx).1
  have q1 : t28_1 i1 j1 x y = Mq i1 j1 x y := (mix_q h1 k1 hy hx).1
  have q2 : t28_2 i2 j2 x y = Mq i2 j2 x y := (mix_q h2 k2 hy hx).1
  have q3 : t28_3 i3 j3 x y = Mq i3 j3 x y := (mix_q h3 k3 hy hx).1
  have u1 : eqI 0 0 = true := by decide
  have u2 : ltI y 1 = false := by rw [ltI_f]; omega
  have u3 : ltI 2147483648 y = false := by rw [ltI_f]; omega
  have u4 : ltI x 0 = false := by rw [ltI_f]; omega
  have u5 : ltI y x = false := by rw [ltI_f]; omega
  have u6 : eqI (wrapA .i64 (Int.mul 2 y)) 0 = false := by rw [eqI_f, mul_int, wrap64 (by omega) (by omega)]; omega
  simp only [F28, F26_0_ok h0 h1 h2 h3, F26_0_ok k0 k1 k2 k3, q0, q1, q2, q3, u1, u2, u3, u4, u5, u6, Bool.not_true, Bool.not_false, cond_true, cond_false]
theorem clampB (c : Int) : eqI (if 255 < if 0 > c then 0 else c then 255 else if 0 > c then 0 else c) c = (bif ltI c 0 then false else !ltI 255 c) := by
  rw [Bool.eq_iff_iff]
  simp only [condP, condF, nneg_n, nneg_f, ltI_t, ltI_f, eqI_t, Bool.false_eq_true, and_false, false_or]
  split <;> split <;> (try split) <;> omega
theorem F26v (a b c d : Int) : F26 a b c d = some (bif F38_0 a b c d then 0 else 360) := by
  have e0 : eqI (t26_0 a) a = (bif ltI a 0 then false else !ltI 255 a) := clampB a
  have e1 : eqI (t26_1 b) b = (bif ltI b 0 then false else !ltI 255 b) := clampB b
  have e2 : eqI (t26_2 c) c = (bif ltI c 0 then false else !ltI 255 c) := clampB c
  have e3 : eqI (t26_3 d) d = (bif ltI d 0 then false else !ltI 255 d) := clampB d
  unfold F26 c26_4 F38_0 F38
  rw [e0, e1, e2, e3]
  cases ltI a 0 <;> cases ltI 255 a <;> (try rfl) <;> cases ltI b 0 <;> cases ltI 255 b <;> (try rfl) <;> cases ltI c 0 <;> cases ltI 255 c <;> (try rfl) <;> cases ltI d 0 <;> cases ltI 255 d <;> rfl
theorem F27v (a b c d : Int) : F27 a b c d = F26 a b c d := by
  rw [F26v]; unfold F27; cases F38_0 a b c d <;> rfl
theorem F25v (a b c d : Int) : F25 a b c d = F24 a b c d := by
  unfold F25 F24 F26_0
  rw [F26v]
  cases F38_0 a b c d <;> rfl
theorem in38 {a b c d : Int} (h : F38_0 a b c d = true) : (0 ≤ a ∧ a ≤ 255) ∧ (0 ≤ b ∧ b ≤ 255) ∧ (0 ≤ c ∧ c ≤ 255) ∧ (0 ≤ d ∧ d ≤ 255) := by
  unfold F38_0 F38 at h
  simp only [cS, Option.getD_some, condP, condF, nneg_n, nneg_f, ltI_t, ltI_f, Bool.false_eq_true, Bool.true_eq_false, and_false, or_false, false_or, and_true] at h
  omega
theorem r40 {i j x y : Int} (hi : 0 ≤ i ∧ i ≤ 255) (hj : 0 ≤ j ∧ j ≤ 255) (hy : 1 ≤ y ∧ y ≤ 2147483648) (hx : 0 ≤ x ∧ x ≤ y) : F40 (wrapA .i64 (Int.add (wrapA .i64 (Int.mul (wrapA .i64 (Int.sub y x)) i)) (wrapA .i64 (Int.mul x j)))) y = some (Mq i j x y) := by
  obtain ⟨_, ⟨p1, p2⟩, ⟨p3, p4⟩⟩ := mix_q hi hj hy hx
  have w1 : wrapA .i64 (Int.sub y x) = y - x := by simp only [sub_int]; exact wrap64 (by omega) (by omega)
  unfold Mq
  rw [w1]
  simp only [mul_int, add_int]
  generalize (y - x) * i = a at *
  generalize x * j = b at *
  rw [wrap64 (n := a) (by omega) (by omega), wrap64 (n := b) (by omega) (by omega), wrap64 (n := a + b) (by omega) (by omega)]
  have w2 : wrapA .i64 (Int.add (wrapA .i64 (Int.mul 2 (a + b))) y) = 2 * (a + b) + y := by simp only [mul_int, add_int]; rw [wrap64 (n := 2 * (a + b)) (by omega) (by omega)]; exact wrap64 (by omega) (by omega)
  have w3 : wrapA .i64 (Int.mul 2 y) = 2 * y := by simp only [mul_int]; exact wrap64 (by omega) (by omega)
  have f := F44_ok (a := 2 * (a + b) + y) (y := 2 * y) (by omega) (by omega)
  unfold F40 t40_0 F44_0
  rw [w2, w3, f]; rfl
theorem F29v (i0 i1 i2 i3 j0 j1 j2 j3 x y : Int) : F29 i0 i1 i2 i3 j0 j1 j2 j3 x y = F28 i0 i1 i2 i3 j0 j1 j2 j3 x y := by
  have z : eqI 0 0 = true := rfl
  have z3 : eqI 360 0 = false := rfl
  cases h : F38_0 i0 i1 i2 i3 with
  | false => unfold F29 F28 F26_0; rw [F26v, h]; rfl
  | true =>
    cases k : F38_0 j0 j1 j2 j3 with
    | false => unfold F29 F28 F26_0; rw [F26v, F26v, h, k]; rfl
    | true =>
      by_cases hy : 1 ≤ y ∧ y ≤ 2147483648
      · by_cases hx : 0 ≤ x ∧ x ≤ y
        · obtain ⟨a0, a1, a2, a3⟩ := in38 h
          obtain ⟨b0, b1, b2, b3⟩ := in38 k
          rw [F28_ok a0 a1 a2 a3 b0 b1 b2 b3 hy hx]
          have u2 : ltI y 1 = false := by rw [ltI_f]; omega
          have u3 : ltI 2147483648 y = false := by rw [ltI_f]; omega
          have u4 : ltI x 0 = false := by rw [ltI_f]; omega
          have u5 : ltI y x = false := by rw [ltI_f]; omega
          have g0 : F40 (t29_0 i0 j0 x y) y = some (Mq i0 j0 x y) := r40 a0 b0 hy hx
          have g1 : F40 (t29_1 i1 j1 x y) y = some (Mq i1 j1 x y) := r40 a1 b1 hy hx
          have g2 : F40 (t29_2 i2 j2 x y) y = some (Mq i2 j2 x y) := r40 a2 b2 hy hx
          have g3 : F40 (t29_3 i3 j3 x y) y = some (Mq i3 j3 x y) := r40 a3 b3 hy hx
          unfold F29 F40_0
          rw [h, k, u2, u3, u4, u5, g0, g1, g2, g3]; rfl
        · unfold F29 F28 F26_0
          rw [F26v, F26v, h, k]
          have u : ltI x 0 = true ∨ ltI y x = true := by rw [ltI_t, ltI_t]; omega
          cases ltI y 1 <;> cases ltI 2147483648 y <;> (try rfl) <;> cases e1 : ltI x 0 <;> cases e2 : ltI y x <;> (try rfl)
          rw [e1, e2] at u; rcases u with u | u <;> cases u
      · unfold F29 F28 F26_0
        rw [F26v, F26v, h, k]
        have u : ltI y 1 = true ∨ ltI 2147483648 y = true := by rw [ltI_t, ltI_t]; omega
        cases e1 : ltI y 1 <;> cases e2 : ltI 2147483648 y <;> (try rfl)
        rw [e1, e2] at u; rcases u with u | u <;> cases u
theorem F28s (i0 i1 i2 i3 j0 j1 j2 j3 x y : Int) : (F28 i0 i1 i2 i3 j0 j1 j2 j3 x y).isSome = true := by
  unfold F28
  by_cases hy : 1 ≤ y ∧ y ≤ 2147483648
  · have u6 : eqI (wrapA .i64 (Int.mul 2 y)) 0 = false := by rw [eqI_f, mul_int, wrap64 (by omega) (by omega)]; omega
    rw [u6]
    cases eqI (F26_0 i0 i1 i2 i3) 0 <;> cases eqI (F26_0 j0 j1 j2 j3) 0 <;> cases ltI y 1 <;> cases ltI 2147483648 y <;> cases ltI x 0 <;> cases ltI y x <;> rfl
  · have u : ltI y 1 = true ∨ ltI 2147483648 y = true := by rw [ltI_t, ltI_t]; omega
    cases eqI (F26_0 i0 i1 i2 i3) 0 <;> cases eqI (F26_0 j0 j1 j2 j3) 0 <;> (try rfl) <;> cases e1 : ltI y 1 <;> cases e2 : ltI 2147483648 y <;> (try rfl)
    rw [e1, e2] at u; rcases u with u | u <;> cases u
theorem law_ok (a0_0 a0_1 a0_2 a0_3 a1_0 a1_1 a1_2 a1_3 a2_0 a2_1 a2_2 a2_3 a3 a4 : Int) (_ : (Lit.int .u8 a0_0).wf = true) (_ : (Lit.int .u8 a0_1).wf = true) (_ : (Lit.int .u8 a0_2).wf = true) (_ : (Lit.int .u8 a0_3).wf = true) (_ : (Lit.int .u8 a1_0).wf = true) (_ : (Lit.int .u8 a1_1).wf = true) (_ : (Lit.int .u8 a1_2).wf = true) (_ : (Lit.int .u8 a1_3).wf = true) (_ : (Lit.int .i64 a2_0).wf = true) (_ : (Lit.int .i64 a2_1).wf = true) (_ : (Lit.int .i64 a2_2).wf = true) (_ : (Lit.int .i64 a2_3).wf = true) (_ : (Lit.int .i64 a3).wf = true) (_ : (Lit.int .i64 a4).wf = true) : ∃ n : Nat, F5 a0_0 a0_1 a0_2 a0_3 a1_0 a1_1 a1_2 a1_3 a2_0 a2_1 a2_2 a2_3 a3 a4 = some true := by
  refine ⟨0, ?_⟩
  have e7 : ∀ a b c d, F27_0 a b c d = F26_0 a b c d := fun a b c d => by simp only [F27_0, F26_0, F27v]
  have e5 : ∀ a b c d, F25_0 a b c d = F24_0 a b c d ∧ F25_1 a b c d = F24_1 a b c d ∧ F25_2 a b c d = F24_2 a b c d ∧ F25_3 a b c d = F24_3 a b c d := fun a b c d => by simp only [F25_0, F25_1, F25_2, F25_3, F24_0, F24_1, F24_2, F24_3, F25v, and_self]
  have e9 : ∀ a b c d e f g h x y, F29_0 a b c d e f g h x y = F28_0 a b c d e f g h x y ∧ F29_1 a b c d e f g h x y = F28_1 a b c d e f g h x y ∧ F29_2 a b c d e f g h x y = F28_2 a b c d e f g h x y ∧ F29_3 a b c d e f g h x y = F28_3 a b c d e f g h x y ∧ F29_4 a b c d e f g h x y = F28_4 a b c d e f g h x y := fun a b c d e f g h x y => by simp only [F29_0, F29_1, F29_2, F29_3, F29_4, F28_0, F28_1, F28_2, F28_3, F28_4, F29v, and_self]
  have s9 : ∀ a b c d e f g h x y, (F29 a b c d e f g h x y).isSome = true := fun a b c d e f g h x y => by rw [F29v]; exact F28s a b c d e f g h x y
  unfold F5
  simp only [c5_0, c5_1, c5_2, c5_3, c5_4, t5_5, t5_6, t5_7, t5_8, t5_9, t5_10, t5_11, t5_12, t5_13, t5_14, c5_15, c5_16, t5_17, t5_18, t5_19, t5_20, t5_21, t5_22, t5_23, t5_24, t5_25, t5_26, c5_27, c5_28, t5_29, t5_30, t5_31, t5_32, t5_33, t5_34, t5_35, t5_36, t5_37, t5_38, c5_39, t5_40, t5_41, t5_42, t5_43, t5_44, t5_45, t5_46, t5_47, t5_48, t5_49, c5_50, c5_51, t5_52, t5_53, t5_54, t5_55, t5_56, t5_57, t5_58, t5_59, t5_60, t5_61, c5_62, c5_63, t5_64, t5_65, t5_66, t5_67, t5_68, t5_69, t5_70, t5_71, t5_72, t5_73, c5_74, c5_75, t5_76, t5_77, t5_78, t5_79, t5_80, t5_81, t5_82, t5_83, t5_84, t5_85, c5_86, c5_87, t5_88, t5_89, t5_90, t5_91, t5_92, t5_93, t5_94, t5_95, t5_96, t5_97, c5_98, c5_99, t5_100, t5_101, t5_102, t5_103, t5_104, t5_105, t5_106, t5_107, t5_108, t5_109, c5_110, c5_111, c5_112, c5_113, c5_114, c5_115, c5_116, t5_117, t5_118, t5_119, t5_120, t5_121, t5_122, t5_123, t5_124, t5_125, t5_126, c5_127, c5_128, t5_129, t5_130, t5_131, t5_132, t5_133, t5_134, t5_135, t5_136, t5_137, t5_138, c5_139, c5_140, t5_141, t5_142, t5_143, t5_144, t5_145, t5_146, t5_147, t5_148, t5_149, t5_150, c5_151, c5_152, t5_153, t5_154, t5_155, t5_156, t5_157, t5_158, t5_159, t5_160, t5_161, t5_162, c5_163, c5_164, t5_165, t5_166, t5_167, t5_168, t5_169, t5_170, t5_171, t5_172, t5_173, t5_174, c5_175, c5_176, t5_177, t5_178, t5_179, t5_180, t5_181, t5_182, t5_183, t5_184, t5_185, t5_186, c5_187, t5_188, t5_189, t5_190, t5_191, t5_192, t5_193, t5_194, t5_195, t5_196, t5_197, c5_198, c5_199, t5_200, t5_201, t5_202, t5_203, t5_204, t5_205, t5_206, t5_207, t5_208, t5_209, c5_210, c5_211, t5_212, t5_213, t5_214, t5_215, t5_216, t5_217, t5_218, t5_219, t5_220, t5_221, c5_222, c5_223, t5_224, t5_225, t5_226, t5_227, t5_228, t5_229, t5_230, t5_231, t5_232, t5_233, c5_234, c5_235, t5_236, t5_237, t5_238, t5_239, t5_240, t5_241, t5_242, t5_243, t5_244, t5_245, c5_246, c5_247, t5_248, t5_249, t5_250, t5_251, t5_252, t5_253, t5_254, t5_255, t5_256, t5_257, c5_258, c5_259, t5_260, t5_261, t5_262, t5_263, t5_264, t5_265, t5_266, t5_267, t5_268, t5_269, c5_270, c5_271, t5_272, t5_273, t5_274, t5_275, t5_276, t5_277, t5_278, t5_279, t5_280, t5_281, c5_282, c5_283, t5_284, t5_285, t5_286, t5_287, t5_288, t5_289, t5_290, t5_291, t5_292, t5_293, c5_294, c5_295, c5_296, c5_297, t5_298, t5_299, t5_300, t5_301, t5_302, t5_303, t5_304, t5_305, t5_306, t5_307, c5_308, c5_309, t5_310, t5_311, t5_312, t5_313, t5_314, t5_315, t5_316, t5_317, t5_318, t5_319, c5_320, e7, e5, e9, s9, F28s, eqI_same, andB, Bool.not_true, Bool.not_false, cond_true, cond_false]

end

theorem walk (a0_0 : Int) (a0_1 : Int) (a0_2 : Int) (a0_3 : Int) (a1_0 : Int) (a1_1 : Int) (a1_2 : Int) (a1_3 : Int) (a2_0 : Int) (a2_1 : Int) (a2_2 : Int) (a2_3 : Int) (a3 : Int) (a4 : Int) (wa0_0 : (Lit.int .u8 a0_0).wf = true) (wa0_1 : (Lit.int .u8 a0_1).wf = true) (wa0_2 : (Lit.int .u8 a0_2).wf = true) (wa0_3 : (Lit.int .u8 a0_3).wf = true) (wa1_0 : (Lit.int .u8 a1_0).wf = true) (wa1_1 : (Lit.int .u8 a1_1).wf = true) (wa1_2 : (Lit.int .u8 a1_2).wf = true) (wa1_3 : (Lit.int .u8 a1_3).wf = true) (wa2_0 : (Lit.int .i64 a2_0).wf = true) (wa2_1 : (Lit.int .i64 a2_1).wf = true) (wa2_2 : (Lit.int .i64 a2_2).wf = true) (wa2_3 : (Lit.int .i64 a2_3).wf = true) (wa3 : (Lit.int .i64 a3).wf = true) (wa4 : (Lit.int .i64 a4).wf = true) {w : World} {ARGS : List Value} (ha : Go.Sx.RelL (fun _ => none) [.agg [.int .u8 a0_0, .int .u8 a0_1, .int .u8 a0_2, .int .u8 a0_3], .agg [.int .u8 a1_0, .int .u8 a1_1, .int .u8 a1_2, .int .u8 a1_3], .agg [.int .i64 a2_0, .int .i64 a2_1, .int .i64 a2_2, .int .i64 a2_3], .int .i64 a3, .int .i64 a4] ARGS) :
    Calls Try.prog 5 ARGS.toArray w fun e w' => e = .returned (.bool true) ∧ Below w.heap.size w w' := by
  obtain ⟨n, hn⟩ := law_ok a0_0 a0_1 a0_2 a0_3 a1_0 a1_1 a1_2 a1_3 a2_0 a2_1 a2_2 a2_3 a3 a4 wa0_0 wa0_1 wa0_2 wa0_3 wa1_0 wa1_1 wa1_2 wa1_3 wa2_0 wa2_1 wa2_2 wa2_3 wa3 wa4
  exact Go.Sx.call_args okayed rfl ha Try.func5 body5_eq (run5 n a0_0 a0_1 a0_2 a0_3 a1_0 a1_1 a1_2 a1_3 a2_0 a2_1 a2_2 a2_3 a3 a4 true hn) (fun _ _ h => by cases h)

set_option maxRecDepth 100000 in
theorem lifted (os : Os) (started : os.Started) (H : Type) (enc : TypeId × Value → H) :
    ReturnsInHanded {} Try.checked os 5 .any (Rows.colorInksSpec.pre6 enc Try.prog Try.f5 Rows.colorInksRow.domain false) (Rows.colorInksSpec.post enc Try.prog Try.f5 false true false false) := by
  refine returnsInHanded_of_change (C := Try.checked) own started (by kernel_rfl) Try.func5
    (ChangeSpec.witness6 (enc := enc) (C := Try.checked) false ⟨#[], #[.agg #[.int .u8 0, .int .u8 0, .int .u8 0, .int .u8 0], .agg #[.int .u8 0, .int .u8 0, .int .u8 0, .int .u8 0], .agg #[.int .i64 0, .int .i64 0, .int .i64 0, .int .i64 0], .int .i64 0, .int .i64 0], []⟩ 8 (by kernel_rfl) (by kernel_rfl) (by kernel_rfl) (by kernel_rfl)) ?_
  intro W base args ds gs before hval0 hW hcnd _
  have hval : ∀ (j : Nat) t v, Try.f5.params[j]? = some t → args[j]? = some v → Value.okWide Try.prog W .any base t v := hval0
  have hW' := hW
  obtain ⟨p, q, hA0, hV, rfl, hfz, hnd⟩ := hW
  have hA : DataW.TrodAll enc Try.prog W 0 (fun _ => true) true Try.f5.params.toList args.toList ds p := hA0
  rw [Try.params5] at hA hval
  obtain ⟨v0, vs0, d0, ds0, p0, q0, hargs, rfl, rfl, h0, r0⟩ := trodAll_cons hA
  obtain ⟨v1, vs1, d1, ds1, p1, q1, rfl, rfl, rfl, h1, r1⟩ := trodAll_cons r0
  obtain ⟨v2, vs2, d2, ds2, p2, q2, rfl, rfl, rfl, h2, r2⟩ := trodAll_cons r1
  obtain ⟨v3, vs3, d3, ds3, p3, q3, rfl, rfl, rfl, h3, r3⟩ := trodAll_cons r2
  obtain ⟨v4, vs4, d4, ds4, p4, q4, rfl, rfl, rfl, h4, r4⟩ := trodAll_cons r3
  obtain ⟨rfl, rfl, rfl⟩ := trodAll_nil r4
  obtain rfl : args = #[v0, v1, v2, v3, v4] := by cases args; simp_all
  obtain ⟨rfl, rfl⟩ := trodVars_none hV
  obtain ⟨rfl, as0, k0, e0⟩ := Go.Sx.open_kinds (ks := [.int .u8, .int .u8, .int .u8, .int .u8]) (by kernel_rfl) h0
  obtain ⟨a0_0, r0, rfl, wa0_0, k0⟩ := k0
  obtain ⟨a0_1, r0, rfl, wa0_1, k0⟩ := k0
  obtain ⟨a0_2, r0, rfl, wa0_2, k0⟩ := k0
  obtain ⟨a0_3, r0, rfl, wa0_3, k0⟩ := k0
  obtain rfl := k0
  obtain ⟨rfl, as1, k1, e1⟩ := Go.Sx.open_kinds (ks := [.int .u8, .int .u8, .int .u8, .int .u8]) (by kernel_rfl) h1
  obtain ⟨a1_0, r1, rfl, wa1_0, k1⟩ := k1
  obtain ⟨a1_1, r1, rfl, wa1_1, k1⟩ := k1
  obtain ⟨a1_2, r1, rfl, wa1_2, k1⟩ := k1
  obtain ⟨a1_3, r1, rfl, wa1_3, k1⟩ := k1
  obtain rfl := k1
  obtain ⟨rfl, as2, k2, e2⟩ := Go.Sx.open_kinds (ks := [.int .i64, .int .i64, .int .i64, .int .i64]) (by kernel_rfl) h2
  obtain ⟨a2_0, r2, rfl, wa2_0, k2⟩ := k2
  obtain ⟨a2_1, r2, rfl, wa2_1, k2⟩ := k2
  obtain ⟨a2_2, r2, rfl, wa2_2, k2⟩ := k2
  obtain ⟨a2_3, r2, rfl, wa2_3, k2⟩ := k2
  obtain rfl := k2
  obtain ⟨rfl, as3, k3, e3⟩ := Go.Sx.open_kinds (ks := [.int .i64]) (by kernel_rfl) h3
  obtain ⟨a3, r3, rfl, wa3, k3⟩ := k3
  obtain rfl := k3
  obtain ⟨rfl, as4, k4, e4⟩ := Go.Sx.open_kinds (ks := [.int .i64]) (by kernel_rfl) h4
  obtain ⟨a4, r4, rfl, wa4, k4⟩ := k4
  obtain rfl := k4
  clear hA0
  simp only [List.append_nil] at hW'
  have hrel : Go.Sx.RelL (fun _ => none) [.agg [.int .u8 a0_0, .int .u8 a0_1, .int .u8 a0_2, .int .u8 a0_3], .agg [.int .u8 a1_0, .int .u8 a1_1, .int .u8 a1_2, .int .u8 a1_3], .agg [.int .i64 a2_0, .int .i64 a2_1, .int .i64 a2_2, .int .i64 a2_3], .int .i64 a3, .int .i64 a4] [v0, v1, v2, v3, v4] := ⟨_, _, Go.Sx.rel_agg (.inr ⟨_, _, Try.underlying34⟩) (hval 0 34 v0 rfl rfl) e0, ⟨_, _, Go.Sx.rel_agg (.inr ⟨_, _, Try.underlying34⟩) (hval 1 34 v1 rfl rfl) e1, ⟨_, _, Go.Sx.rel_agg (.inr ⟨_, _, Try.underlying27⟩) (hval 2 27 v2 rfl rfl) e2, ⟨_, _, Go.Sx.rel_int Try.underlying3 (hval 3 3 v3 rfl rfl) e3, ⟨_, _, Go.Sx.rel_int Try.underlying3 (hval 4 3 v4 rfl rfl) e4, rfl, rfl⟩, rfl⟩, rfl⟩, rfl⟩, rfl⟩
  refine (walk a0_0 a0_1 a0_2 a0_3 a1_0 a1_1 a1_2 a1_3 a2_0 a2_1 a2_2 a2_3 a3 a4 wa0_0 wa0_1 wa0_2 wa0_3 wa1_0 wa1_1 wa1_2 wa1_3 wa2_0 wa2_1 wa2_2 wa2_3 wa3 wa4  hrel).mono fun e W' ⟨he, hg⟩ => ?_
  subst he
  exact ⟨_, rfl, Go.Sx.post_of_below (pa := []) (pv := []) hW' (fun _ _ _ => (trodAll_cons_mk (shut_bool Try.underlying4 _) trodAll_mk0)) (fun sp _ => (trodAll_cons_mk (Go.Sx.stays laidOut (by kernel_rfl) (Nat.le_of_ble_eq_true (by kernel_rfl)) h0) (trodAll_cons_mk (Go.Sx.stays laidOut (by kernel_rfl) (Nat.le_of_ble_eq_true (by kernel_rfl)) h1) (trodAll_cons_mk (Go.Sx.stays laidOut (by kernel_rfl) (Nat.le_of_ble_eq_true (by kernel_rfl)) h2) (trodAll_cons_mk (Go.Sx.stays laidOut (by kernel_rfl) (Nat.le_of_ble_eq_true (by kernel_rfl)) h3) (trodAll_cons_mk (Go.Sx.stays laidOut (by kernel_rfl) (Nat.le_of_ble_eq_true (by kernel_rfl)) h4) trodAll_mk0)))))) (fun _ _ => rfl) rfl
    hg (ok_one (by kernel_rfl) rfl (okWide_bool_mk Try.underlying4 _))⟩

theorem over : Rows.colorInksRow.holds Try.pinned (OpenSpec.ofChange Rows.colorInksSpec) :=
  OpenClaim.holds_of_wide 5 Try.f5 rfl rfl rfl rfl rfl rfl rfl ⟨rfl, rfl, rfl, rfl, rfl⟩ rfl rfl rfl rfl rfl (by kernel_rfl) Try.func5 (by kernel_rfl)
    (of_decide_eq_true (by kernel_rfl)) (by unfold Func.isWrapper; first | (rw [if_pos (by decide +kernel)]; kernel_rfl) | (rw [if_neg (by decide +kernel)]; exact ⟨rfl, rfl⟩))
    (fun os started H enc _ => lifted os started H enc)

theorem proved : Rows.ColorInksSaid := over
#print axioms proved
end Go.Proofs.Ytglddbgaonciaaa.colorInks
