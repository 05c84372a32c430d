/- 'chase/chaselaw29.ShadeEnds' returns true for every argument, and nothing that was there is changed. The first parts are the texts before: each function of the run as a term. Here: the numbers, and the rest. -/
import Derived.Test.YtgfpkhhbpnnjjaaShadeEndsC
namespace Go.Proofs.Ytgfpkhhbpnnjjaa.shadeEnds
open Go.ChangeShapes Go.WideShapes Go.ChangeAt Go.WideMaps Go.WideElems Go.RowKit
set_option linter.unusedVariables false
section
open Go.Sx
set_option maxRecDepth 1000000

set_option maxRecDepth 100000
theorem cS {α : Type} (b : Bool) (x y : α) : (bif b then some x else some y) = some (bif b then x else y) := by cases b <;> rfl
theorem condP (b x y : Bool) : ((bif b then x else y) = true) = ((b = true ∧ x = true) ∨ (b = false ∧ y = true)) := by cases b <;> simp
theorem condF (b x y : Bool) : ((bif b then x else y) = false) = ((b = true ∧ x = false) ∨ (b = false ∧ y = false)) := by cases b <;> simp
theorem nneg_f (b : Bool) : ((!b) = false) = (b = true) := by cases b <;> simp
theorem andB_t (a b : Bool) : (andB a b = true) = (a = true ∧ b = true) := by cases a <;> simp [andB]
theorem andB_f (a b : Bool) : (andB a b = false) = (a = false ∨ b = false) := by cases a <;> simp [andB]
theorem strNil_t (s : List Nat) : (strEq s [] = true) = (s.length = 0) := by cases s <;> simp [strEq]
theorem strNil_f (s : List Nat) : (strEq s [] = false) = (s.length ≠ 0) := by cases s <;> simp [strEq]
theorem strEq_same (s : List Nat) : strEq s s = true := by simp [strEq]
theorem eqI_same (n : Int) : eqI n n = true := by rw [eqI_t]
def IsRoot (r s : Int) : Prop := 0 ≤ r ∧ r * r ≤ s ∧ s < (r + 1) * (r + 1)
theorem sq_le {a b : Int} (h0 : 0 ≤ a) (h : a ≤ b) : a * a ≤ b * b := Int.mul_le_mul h h h0 (by omega)
theorem root_uniq {r t s : Int} (h : IsRoot r s) (g : IsRoot t s) : r = t := by
  obtain ⟨h1, h2, h3⟩ := h
  obtain ⟨g1, g2, g3⟩ := g
  rcases Int.lt_trichotomy r t with q | q | q
  · have := sq_le (a := r + 1) (b := t) (by omega) (by omega); omega
  · exact q
  · have := sq_le (a := t + 1) (b := r) (by omega) (by omega); omega
theorem wu64 {n : Int} (h1 : 0 ≤ n) (h2 : n ≤ 18446744073709551615) : wrapA .u64 n = n := wrap_in (by simpa [IntKind.min, IntKind.signed] using h1) (by simpa [IntKind.max, IntKind.signed, IntKind.bits] using h2)
theorem half_ok {a b : Int} (h1 : 0 ≤ a) (h2 : a ≤ 1000000) (h3 : 0 ≤ b) (h4 : b ≤ 1000000) : wrapA .i64 (Int.fdiv (wrapA .u64 (wrapA .i64 (Int.add a b))) 2) = (a + b) / 2 := by
  simp only [add_int]
  rw [wrap64 (n := a + b) (by omega) (by omega), wu64 (by omega) (by omega), fdiv_pos _ (by decide), wrap64 (by omega) (by omega)]
theorem bs_ok (px py qx qy s : Int) (k n : Nat) : ∀ (v0 v1 : Int), 0 ≤ v0 → v0 ≤ v1 → v1 ≤ 65536 → v1 - v0 < 2 ^ k → v0 * v0 ≤ s → s < (v1 + 1) * (v1 + 1) → ∃ r, L41_0 px py qx qy (n + k + 1) v0 v1 s = some r ∧ IsRoot r s ∧ r ≤ 65536 := by
  induction k with
  | zero =>
    intro v0 v1 h0 h1 h2 h3 h4 h5
    have e : v0 = v1 := by have : (2 : Int) ^ 0 = 1 := rfl; omega
    subst e
    have l : ltI v0 v0 = false := by rw [ltI_f]; omega
    exact ⟨v0, by rw [L41_0_succ, l]; rfl, ⟨h0, h4, h5⟩, h2⟩
  | succ k ih =>
    intro v0 v1 h0 h1 h2 h3 h4 h5
    by_cases q : v0 < v1
    · have l : ltI v0 v1 = true := by rw [ltI_t]; exact q
      have hh := half_ok (a := v0) (b := v1) h0 (by omega) (by omega) (by omega)
      obtain ⟨h, hd⟩ : ∃ h, (v0 + v1) / 2 = h := ⟨_, rfl⟩
      rw [hd] at hh
      have hb : v0 ≤ h ∧ h < v1 := by omega
      have p2 : (2 : Int) ^ (k + 1) = 2 * 2 ^ k := by rw [Int.pow_succ]; omega
      have w1 : wrapA .i64 (Int.add h 1) = h + 1 := by simp only [add_int]; exact wrap64 (by omega) (by omega)
      have sq := sq_le (a := h + 1) (b := 65536) (by omega) (by omega)
      have nn : 0 ≤ (h + 1) * (h + 1) := Int.mul_nonneg (by omega) (by omega)
      have w2 : wrapA .i64 (Int.mul (h + 1) (h + 1)) = (h + 1) * (h + 1) := by simp only [mul_int]; exact wrap64 (by omega) (by omega)
      rw [show n + (k + 1) + 1 = (n + k + 1) + 1 by omega, L41_0_succ, l, cond_true]
      unfold c41_8 t41_9
      rw [hh, w1, w2]
      by_cases g : (h + 1) * (h + 1) ≤ s
      · rw [(ltI_f _ _).mpr g]
        exact ih (h + 1) v1 (by omega) (by omega) h2 (by omega) g h5
      · rw [(ltI_t _ _).mpr (by omega)]
        exact ih v0 h h0 (by omega) (by omega) (by omega) h4 (by omega)
    · have e : v0 = v1 := by omega
      subst e
      have l : ltI v0 v0 = false := by rw [ltI_f]; omega
      exact ⟨v0, by rw [L41_0_succ, l]; rfl, ⟨h0, h4, h5⟩, h2⟩
theorem rt_ok (x : Int) (j n : Nat) : ∀ (v0 : Int), 0 ≤ v0 → v0 + 2 ^ j ≤ 1073741824 → v0 * v0 ≤ x → x < (v0 + 2 ^ j) * (v0 + 2 ^ j) → ∃ r, L76_0 x (n + j + 1) v0 (2 ^ j) = some r ∧ IsRoot r x := by
  induction j with
  | zero =>
    intro v0 h0 h1 h2 h3
    have e : (2 : Int) ^ 0 = 1 := rfl
    rw [e] at h3 ⊢
    have d : ltI 0 (wrapA .i64 (Int.tdiv 1 2)) = false := rfl
    exact ⟨v0, by rw [L76_0_succ, d]; rfl, ⟨h0, h2, h3⟩⟩
  | succ j ih =>
    intro v0 h0 h1 h2 h3
    have p2 : (2 : Int) ^ (j + 1) = 2 * 2 ^ j := by rw [Int.pow_succ]; omega
    have pp : (0 : Int) < 2 ^ j := Int.pow_pos (by decide)
    obtain ⟨b, hb⟩ : ∃ b, (2 : Int) ^ j = b := ⟨_, rfl⟩
    rw [p2] at h1 h3 ⊢
    rw [hb] at h1 h3 pp ⊢
    rw [hb] at ih
    have d : wrapA .i64 (Int.tdiv (2 * b) 2) = b := by
      rw [tdiv_pos (by omega), show 2 * b / 2 = b by omega]; exact wrap64 (by omega) (by omega)
    have l : ltI 0 b = true := by rw [ltI_t]; exact pp
    have w1 : wrapA .i64 (Int.add v0 b) = v0 + b := by simp only [add_int]; exact wrap64 (by omega) (by omega)
    have sq := sq_le (a := v0 + b) (b := 1073741824) (by omega) (by omega)
    have nn : 0 ≤ (v0 + b) * (v0 + b) := Int.mul_nonneg (by omega) (by omega)
    have w2 : wrapA .i64 (Int.mul (v0 + b) (v0 + b)) = (v0 + b) * (v0 + b) := by simp only [mul_int]; exact wrap64 (by omega) (by omega)
    rw [show n + (j + 1) + 1 = (n + j + 1) + 1 by omega, L76_0_succ]
    unfold c76_2
    rw [d, l, w1, w2, cond_true]
    by_cases g : (v0 + b) * (v0 + b) ≤ x
    · rw [(ltI_f _ _).mpr g]
      exact ih (v0 + b) (by omega) (by omega) g (by rw [show v0 + b + b = v0 + 2 * b by omega]; exact h3)
    · rw [(ltI_t _ _).mpr (by omega)]
      exact ih v0 h0 (by omega) h2 (by omega)
theorem diff_sq {a b : Int} (h1 : -16384 ≤ a ∧ a ≤ 16384) (h2 : -16384 ≤ b ∧ b ≤ 16384) : wrapA .i64 (Int.mul (wrapA .i64 (Int.sub a b)) (wrapA .i64 (Int.sub a b))) = (a - b) * (a - b) ∧ 0 ≤ (a - b) * (a - b) ∧ (a - b) * (a - b) ≤ 1073741824 := by
  have m := mul_bd (x := a - b) (y := a - b) (a := 32768) (b := 32768) (by omega) (by omega) (by omega) (by omega)
  have nn : 0 ≤ (a - b) * (a - b) := by
    rcases Int.le_total 0 (a - b) with q | q
    · exact Int.mul_nonneg q q
    · have := Int.mul_nonneg (show 0 ≤ -(a - b) by omega) (show 0 ≤ -(a - b) by omega)
      rw [Int.neg_mul_neg] at this; exact this
  simp only [sub_int, mul_int]
  rw [wrap64 (n := a - b) (by omega) (by omega)]
  exact ⟨wrap64 (by omega) (by omega), nn, by omega⟩
theorem pt_t (x y : Int) : (F37_0 x y = true) = ((-16384 ≤ x ∧ x ≤ 16384) ∧ (-16384 ≤ y ∧ y ≤ 16384)) := by
  unfold F37_0 F37
  simp only [cS, Option.getD_some, condP, condF, nneg_n, nneg_f, ltI_t, ltI_f, Bool.false_eq_true, and_false, or_false]
  simp only [eq_iff_iff]; omega
theorem long_ok {px py qx qy : Int} (h1 : F37_0 px py = true) (h2 : F37_0 qx qy = true) (n : Nat) : ∃ r, F41 (n + 40) px py qx qy = some r ∧ F42 (n + 40) px py qx qy = some r ∧ IsRoot r ((qx - px) * (qx - px) + (qy - py) * (qy - py)) ∧ r ≤ 65536 := by
  rw [pt_t] at h1 h2
  obtain ⟨a1, a2, a3⟩ := diff_sq h2.1 h1.1
  obtain ⟨b1, b2, b3⟩ := diff_sq h2.2 h1.2
  obtain ⟨s, hs⟩ : ∃ s, (qx - px) * (qx - px) + (qy - py) * (qy - py) = s := ⟨_, rfl⟩
  have w : wrapA .i64 (Int.add ((qx - px) * (qx - px)) ((qy - py) * (qy - py))) = s := by simp only [add_int]; rw [hs]; exact wrap64 (by omega) (by omega)
  obtain ⟨r, e1, e2, e3⟩ := bs_ok px py qx qy s 17 (n + 22) 0 65536 (by decide) (by decide) (by decide) (by decide) (by omega) (by omega)
  obtain ⟨t, f1, f2⟩ := rt_ok s 30 (n + 9) 0 (by decide) (by decide) (by omega) (by
    have : (2 : Int) ^ 30 = 1073741824 := by decide
    rw [this]; omega)
  have : r = t := root_uniq e2 f2
  subst this
  have l : ltI s 1152921504606846976 = true := by rw [ltI_t]; omega
  rw [hs]
  refine ⟨r, ?_, ?_, e2, e3⟩
  · unfold F41 t41_7; rw [a1, b1, w, show n + 40 = n + 22 + 17 + 1 by omega]; exact e1
  · have f1 : L76_0 s (n + 40) 0 1073741824 = some r := by
      rw [show n + 40 = n + 9 + 30 + 1 by omega]; exact f1
    have e : F76 (n + 40) s = some r := by unfold F76; rw [l]; exact f1
    unfold F42 F76_0 t42_0; rw [a1, b1, w, e]; rfl
theorem ink_t (ca cb cc cd : Int) : (F69_0 ca cb cc cd = true) = ((0 ≤ ca ∧ ca ≤ 255) ∧ (0 ≤ cb ∧ cb ≤ 255) ∧ (0 ≤ cc ∧ cc ≤ 255) ∧ (0 ≤ cd ∧ cd ≤ 255)) := by
  unfold F69_0 F69
  simp only [cS, Option.getD_some, condP, condF, nneg_n, nneg_f, ltI_t, ltI_f, Bool.false_eq_true, Bool.true_eq_false, and_false, or_false, false_or, and_true]
  simp only [eq_iff_iff]; omega
theorem clamp (c : Int) : eqI (t32_0 c) c = (bif ltI c 0 then false else !ltI 255 c) := by
  rw [Bool.eq_iff_iff]
  simp only [condP, condF, nneg_n, nneg_f, ltI_t, ltI_f, eqI_t, Bool.false_eq_true, and_false, false_or]
  unfold t32_0
  split <;> split <;> (try split) <;> omega
theorem F32v (ca cb cc cd : Int) : F32 ca cb cc cd = some (bif F69_0 ca cb cc cd then 0 else 360) := by
  have e1 : eqI (t32_1 cb) cb = (bif ltI cb 0 then false else !ltI 255 cb) := clamp cb
  have e2 : eqI (t32_2 cc) cc = (bif ltI cc 0 then false else !ltI 255 cc) := clamp cc
  have e3 : eqI (t32_3 cd) cd = (bif ltI cd 0 then false else !ltI 255 cd) := clamp cd
  unfold F32 c32_4 F69_0 F69
  rw [clamp, e1, e2, e3]
  cases ltI ca 0 <;> cases ltI 255 ca <;> (try rfl) <;> cases ltI cb 0 <;> cases ltI 255 cb <;> (try rfl) <;> cases ltI cc 0 <;> cases ltI 255 cc <;> (try rfl) <;> cases ltI cd 0 <;> cases ltI 255 cd <;> rfl
theorem pt33 (x y : Int) : F33_0 x y = F37_0 x y := rfl
theorem F10v (kd fx fy tx ty ra rb ca cb cc cd da db dc dd : Int) (ea eb : Bool) : F10 kd fx fy tx ty ra rb ca cb cc cd da db dc dd ea eb = some (bif F34_0 kd fx fy tx ty ra rb ca cb cc cd da db dc dd ea eb then 0 else 390) := by
  unfold F10 F34_0 F34 F32_0
  simp only [F32v, Option.getD_some, pt33]
  cases F69_0 ca cb cc cd <;> (try rfl) <;> cases F69_0 da db dc dd <;> (try rfl) <;> cases F37_0 fx fy <;> (try rfl) <;> cases F37_0 tx ty <;> (try rfl) <;> cases eqI kd 1 <;> cases eqI kd 2 <;> cases eqI fx tx <;> cases eqI fy ty <;> cases eqI tx 0 <;> cases eqI ty 0 <;> (try rfl) <;> cases eqI ra 0 <;> cases eqI rb 0 <;> cases ltI ra 0 <;> cases ltI ra rb <;> cases ltI 65536 rb <;> rfl
theorem F11v (kd fx fy tx ty ra rb ca cb cc cd da db dc dd : Int) (ea eb : Bool) : F11 kd fx fy tx ty ra rb ca cb cc cd da db dc dd ea eb = some (bif F34_0 kd fx fy tx ty ra rb ca cb cc cd da db dc dd ea eb then 0 else 390) := by
  unfold F11 c11_0; cases F34_0 kd fx fy tx ty ra rb ca cb cc cd da db dc dd ea eb <;> rfl
noncomputable def mx (c d x y : Int) : Int := (2 * ((y - x) * c + x * d) + y) / (2 * y)
theorem mx_w {c d x y : Int} (hc : 0 ≤ c ∧ c ≤ 255) (hd : 0 ≤ d ∧ d ≤ 255) (hx : 0 ≤ x) (hxy : x ≤ y) (hy : 1 ≤ y) (hy2 : y ≤ 2147483648) :
    wrapA .i64 (Int.add (wrapA .i64 (Int.mul (wrapA .i64 (Int.sub y x)) c)) (wrapA .i64 (Int.mul x d))) = (y - x) * c + x * d ∧ 0 ≤ (y - x) * c + x * d ∧ (y - x) * c + x * d ≤ 1095216660480 ∧ wrapA .i64 (Int.tdiv (wrapA .i64 (Int.add (wrapA .i64 (Int.mul 2 ((y - x) * c + x * d))) y)) (wrapA .i64 (Int.mul 2 y))) = mx c d x y := by
  obtain ⟨m1, m2⟩ := mul_bd (x := y - x) (y := c) (a := 2147483648) (b := 255) (by omega) (by omega) (by omega) (by omega)
  obtain ⟨m3, m4⟩ := mul_bd (x := x) (y := d) (a := 2147483648) (b := 255) (by omega) (by omega) (by omega) (by omega)
  have p1 : 0 ≤ (y - x) * c := Int.mul_nonneg (by omega) hc.1
  have p2 : 0 ≤ x * d := Int.mul_nonneg hx hd.1
  have w0 : wrapA .i64 (Int.sub y x) = y - x := by simp only [sub_int]; exact wrap64 (by omega) (by omega)
  have w1 : wrapA .i64 (Int.mul (y - x) c) = (y - x) * c := by simp only [mul_int]; exact wrap64 (by omega) (by omega)
  have w2 : wrapA .i64 (Int.mul x d) = x * d := by simp only [mul_int]; exact wrap64 (by omega) (by omega)
  have w3 : wrapA .i64 (Int.add ((y - x) * c) (x * d)) = (y - x) * c + x * d := by simp only [add_int]; exact wrap64 (by omega) (by omega)
  have b : (y - x) * c + x * d ≤ 1095216660480 := by omega
  have b0 : 0 ≤ (y - x) * c + x * d := by omega
  refine ⟨by rw [w0, w1, w2, w3], by omega, b, ?_⟩
  unfold mx
  generalize (y - x) * c + x * d = s at *
  have w4 : wrapA .i64 (Int.mul 2 s) = 2 * s := by simp only [mul_int]; exact wrap64 (by omega) (by omega)
  have w5 : wrapA .i64 (Int.add (2 * s) y) = 2 * s + y := by simp only [add_int]; exact wrap64 (by omega) (by omega)
  have w6 : wrapA .i64 (Int.mul 2 y) = 2 * y := by simp only [mul_int]; exact wrap64 (by omega) (by omega)
  rw [w4, w5, w6, tdiv_pos (by omega)]
  have h0 : 0 ≤ (2 * s + y) / (2 * y) := Int.ediv_nonneg (by omega) (by omega)
  have h1 : (2 * s + y) / (2 * y) ≤ 2 * s + y := Int.ediv_le_self _ (by omega)
  exact wrap64 (by omega) (by omega)
theorem mix_ok {ca cb cc cd da db dc dd x y : Int} (h1 : F69_0 ca cb cc cd = true) (h2 : F69_0 da db dc dd = true) (hx : 0 ≤ x) (hxy : x ≤ y) (hy : 1 ≤ y) (hy2 : y ≤ 2147483648) : F16 ca cb cc cd da db dc dd x y = some (mx ca da x y, mx cb db x y, mx cc dc x y, mx cd dd x y, 0) := by
  have g1 := h1; have g2 := h2
  rw [ink_t] at g1 g2
  obtain ⟨a1, _, _, a2⟩ := mx_w g1.1 g2.1 hx hxy hy hy2
  obtain ⟨b1, _, _, b2⟩ := mx_w g1.2.1 g2.2.1 hx hxy hy hy2
  obtain ⟨c1, _, _, c2⟩ := mx_w g1.2.2.1 g2.2.2.1 hx hxy hy hy2
  obtain ⟨d1, _, _, d2⟩ := mx_w g1.2.2.2 g2.2.2.2 hx hxy hy hy2
  have l1 : ltI y 1 = false := by rw [ltI_f]; omega
  have l2 : ltI 2147483648 y = false := by rw [ltI_f]; omega
  have l3 : ltI x 0 = false := by rw [ltI_f]; omega
  have l4 : ltI y x = false := by rw [ltI_f]; omega
  have l5 : eqI (wrapA .i64 (Int.mul 2 y)) 0 = false := by rw [eqI_f]; simp only [mul_int]; rw [wrap64 (by omega) (by omega)]; omega
  have z : eqI 0 0 = true := rfl
  have k1 : t16_0 ca da x y = mx ca da x y := by unfold t16_0; rw [a1]; exact a2
  have k2 : t16_1 cb db x y = mx cb db x y := by unfold t16_1; rw [b1]; exact b2
  have k3 : t16_2 cc dc x y = mx cc dc x y := by unfold t16_2; rw [c1]; exact c2
  have k4 : t16_3 cd dd x y = mx cd dd x y := by unfold t16_3; rw [d1]; exact d2
  unfold F16 F32_0; simp only [F32v, h1, h2, z, l1, l2, l3, l4, l5, k1, k2, k3, k4, Option.getD_some, Bool.not_true, Bool.not_false, cond_true, cond_false]
theorem round_ok {n d : Int} (hn : 0 ≤ n) (hn2 : n ≤ 1095216660480) (hd : 1 ≤ d) (hd2 : d ≤ 2147483648) : F99 n d = some ((2 * n + d) / (2 * d)) := by
  have w1 : wrapA .i64 (Int.mul 2 n) = 2 * n := by simp only [mul_int]; exact wrap64 (by omega) (by omega)
  have w2 : wrapA .i64 (Int.add (2 * n) d) = 2 * n + d := by simp only [add_int]; exact wrap64 (by omega) (by omega)
  have w3 : wrapA .i64 (Int.mul 2 d) = 2 * d := by simp only [mul_int]; exact wrap64 (by omega) (by omega)
  have l1 : eqI (2 * d) 0 = false := by rw [eqI_f]; omega
  have h0 : 0 ≤ (2 * n + d) / (2 * d) := Int.ediv_nonneg (by omega) (by omega)
  have h1 : (2 * n + d) / (2 * d) ≤ 2 * n + d := Int.ediv_le_self _ (by omega)
  have w4 : wrapA .i64 ((2 * n + d) / (2 * d)) = (2 * n + d) / (2 * d) := wrap64 (by omega) (by omega)
  have l2 : ltI (Int.tmod (2 * n + d) (2 * d)) 0 = false := by
    rw [ltI_f, tmod_pos (by omega)]; exact Int.emod_nonneg _ (by omega)
  have e : F120 (2 * n + d) (2 * d) = some ((2 * n + d) / (2 * d)) := by
    unfold F120; rw [l1, l2, tdiv_pos (by omega), w4]; rfl
  unfold F99 t99_0 F120_0; rw [w1, w2, w3, e]; rfl
theorem mix_ref {ca cb cc cd da db dc dd x y : Int} (h1 : F69_0 ca cb cc cd = true) (h2 : F69_0 da db dc dd = true) (hx : 0 ≤ x) (hxy : x ≤ y) (hy : 1 ≤ y) (hy2 : y ≤ 2147483648) : F73 ca cb cc cd da db dc dd x y = some (mx ca da x y, mx cb db x y, mx cc dc x y, mx cd dd x y, 0) := by
  have g1 := h1; have g2 := h2
  rw [ink_t] at g1 g2
  obtain ⟨a1, a2, a3, _⟩ := mx_w g1.1 g2.1 hx hxy hy hy2
  obtain ⟨b1, b2, b3, _⟩ := mx_w g1.2.1 g2.2.1 hx hxy hy hy2
  obtain ⟨c1, c2, c3, _⟩ := mx_w g1.2.2.1 g2.2.2.1 hx hxy hy hy2
  obtain ⟨d1, d2, d3, _⟩ := mx_w g1.2.2.2 g2.2.2.2 hx hxy hy hy2
  have l1 : ltI y 1 = false := by rw [ltI_f]; omega
  have l2 : ltI 2147483648 y = false := by rw [ltI_f]; omega
  have l3 : ltI x 0 = false := by rw [ltI_f]; omega
  have l4 : ltI y x = false := by rw [ltI_f]; omega
  have k1 : F99 (t73_0 ca da x y) y = some (mx ca da x y) := by unfold t73_0; rw [a1]; exact round_ok a2 a3 hy hy2
  have k2 : F99 (t73_1 cb db x y) y = some (mx cb db x y) := by unfold t73_1; rw [b1]; exact round_ok b2 b3 hy hy2
  have k3 : F99 (t73_2 cc dc x y) y = some (mx cc dc x y) := by unfold t73_2; rw [c1]; exact round_ok c2 c3 hy hy2
  have k4 : F99 (t73_3 cd dd x y) y = some (mx cd dd x y) := by unfold t73_3; rw [d1]; exact round_ok d2 d3 hy hy2
  unfold F73 F99_0; simp only [h1, h2, l1, l2, l3, l4, k1, k2, k3, k4, Option.getD_some, Option.isSome_some, Bool.not_true, Bool.not_false, cond_true, cond_false]
abbrev T6 := Int × Int × Int × Int × Bool × Int
noncomputable def res (ca cb cc cd da db dc dd : Int) (ea eb : Bool) (N M : Int) : T6 := bif ltI N 0 then (bif ea then (ca, cb, cc, cd, true, 0) else (0, 0, 0, 0, false, 0)) else (bif ltI M N then (bif eb then (da, db, dc, dd, true, 0) else (0, 0, 0, 0, false, 0)) else (mx ca da N M, mx cb db N M, mx cc dc N M, mx cd dd N M, true, 0))
theorem ink_ok {kd fx fy tx ty ra rb ca cb cc cd da db dc dd : Int} {ea eb : Bool} {N M : Int} (h1 : F69_0 ca cb cc cd = true) (h2 : F69_0 da db dc dd = true) (hM : 1 ≤ M) (hM2 : M ≤ 2147483648) : F36 kd fx fy tx ty ra rb ca cb cc cd da db dc dd ea eb N M = some ((res ca cb cc cd da db dc dd ea eb N M).1, (res ca cb cc cd da db dc dd ea eb N M).2.1, (res ca cb cc cd da db dc dd ea eb N M).2.2.1, (res ca cb cc cd da db dc dd ea eb N M).2.2.2.1, (res ca cb cc cd da db dc dd ea eb N M).2.2.2.2.1) ∧ (res ca cb cc cd da db dc dd ea eb N M).2.2.2.2.2 = 0 := by
  unfold F36 res c36_0
  cases e1 : ltI N 0 with
  | true =>
    rw [ltI_t] at e1
    have e2 : ltI M N = false := by rw [ltI_f]; omega
    cases ea <;> simp only [e2, cond_true, cond_false, and_self]
  | false =>
    cases e2 : ltI M N with
    | true => cases eb <;> simp only [cond_true, cond_false, and_self]
    | false =>
      rw [ltI_f] at e1 e2
      have m := mix_ok (x := N) (y := M) h1 h2 e1 e2 hM hM2
      have z : eqI 0 0 = true := rfl
      simp only [F16_0, F16_1, F16_2, F16_3, F16_4, m, z, Option.getD_some, Option.isSome_some, cond_true, cond_false, and_self]
theorem ok_S {kd fx fy tx ty ra rb ca cb cc cd da db dc dd : Int} {ea eb : Bool} (h : F34_0 kd fx fy tx ty ra rb ca cb cc cd da db dc dd ea eb = true) : F69_0 ca cb cc cd = true ∧ F69_0 da db dc dd = true ∧ F37_0 fx fy = true ∧ F37_0 tx ty = true ∧ ((kd = 1 ∧ ¬ (fx = tx ∧ fy = ty) ∧ ra = 0 ∧ rb = 0) ∨ (kd = 2 ∧ tx = 0 ∧ ty = 0 ∧ 0 ≤ ra ∧ ra < rb ∧ rb ≤ 65536)) := by
  unfold F34_0 F34 at h
  simp only [cS, Option.getD_some, condP, condF, nneg_n, nneg_f, andB_t, andB_f, ltI_t, ltI_f, eqI_t, eqI_f, Bool.false_eq_true, Bool.true_eq_false, and_false, or_false, false_or, and_true] at h
  obtain ⟨h1, h2, h3, h4, h5⟩ := h
  refine ⟨h1, h2, h3, h4, ?_⟩
  omega
noncomputable def nA (fx fy tx ty qx qy : Int) : Int := (qx - fx) * (tx - fx) + (qy - fy) * (ty - fy)
noncomputable def mA (fx fy tx ty : Int) : Int := (tx - fx) * (tx - fx) + (ty - fy) * (ty - fy)
theorem ax_w {fx fy tx ty qx qy : Int} (h1 : F37_0 fx fy = true) (h2 : F37_0 tx ty = true) (h3 : F37_0 qx qy = true) (hne : ¬ (fx = tx ∧ fy = ty)) :
    wrapA .i64 (Int.add (wrapA .i64 (Int.mul (wrapA .i64 (Int.sub qx fx)) (wrapA .i64 (Int.sub tx fx)))) (wrapA .i64 (Int.mul (wrapA .i64 (Int.sub qy fy)) (wrapA .i64 (Int.sub ty fy))))) = nA fx fy tx ty qx qy ∧ wrapA .i64 (Int.add (wrapA .i64 (Int.mul (wrapA .i64 (Int.sub tx fx)) (wrapA .i64 (Int.sub tx fx)))) (wrapA .i64 (Int.mul (wrapA .i64 (Int.sub ty fy)) (wrapA .i64 (Int.sub ty fy))))) = mA fx fy tx ty ∧ 1 ≤ mA fx fy tx ty ∧ mA fx fy tx ty ≤ 2147483648 := by
  rw [pt_t] at h1 h2 h3
  have s : ∀ a b : Int, -16384 ≤ a → a ≤ 16384 → -16384 ≤ b → b ≤ 16384 → wrapA .i64 (Int.sub a b) = a - b := fun a b _ _ _ _ => by simp only [sub_int]; exact wrap64 (by omega) (by omega)
  rw [s qx fx (by omega) (by omega) (by omega) (by omega), s tx fx (by omega) (by omega) (by omega) (by omega), s qy fy (by omega) (by omega) (by omega) (by omega), s ty fy (by omega) (by omega) (by omega) (by omega)]
  obtain ⟨a1, a2⟩ := mul_bd (x := qx - fx) (y := tx - fx) (a := 32768) (b := 32768) (by omega) (by omega) (by omega) (by omega)
  obtain ⟨b1, b2⟩ := mul_bd (x := qy - fy) (y := ty - fy) (a := 32768) (b := 32768) (by omega) (by omega) (by omega) (by omega)
  obtain ⟨c1, c2⟩ := mul_bd (x := tx - fx) (y := tx - fx) (a := 32768) (b := 32768) (by omega) (by omega) (by omega) (by omega)
  obtain ⟨d1, d2⟩ := mul_bd (x := ty - fy) (y := ty - fy) (a := 32768) (b := 32768) (by omega) (by omega) (by omega) (by omega)
  have pos : ∀ u : Int, u ≠ 0 → 1 ≤ u * u := by
    intro u hu
    rcases Int.lt_or_gt_of_ne hu with q | q
    · have := Int.mul_le_mul (show 1 ≤ -u by omega) (show 1 ≤ -u by omega) (by decide) (by omega)
      rw [Int.neg_mul_neg] at this; omega
    · have := Int.mul_le_mul (show 1 ≤ u by omega) (show 1 ≤ u by omega) (by decide) (by omega)
      omega
  have nn : ∀ u : Int, 0 ≤ u * u := by
    intro u
    by_cases q : u = 0
    · subst q; decide
    · have := pos u q; omega
  have m1 : 1 ≤ (tx - fx) * (tx - fx) + (ty - fy) * (ty - fy) := by
    have n1 := nn (tx - fx); have n2 := nn (ty - fy)
    by_cases q : tx - fx = 0
    · have := pos (ty - fy) (by omega); omega
    · have := pos (tx - fx) q; omega
  unfold nA mA
  simp only [mul_int, add_int]
  generalize (qx - fx) * (tx - fx) = u at *
  generalize (qy - fy) * (ty - fy) = v at *
  generalize (tx - fx) * (tx - fx) = p at *
  generalize (ty - fy) * (ty - fy) = q at *
  rw [wrap64 (n := u) (by omega) (by omega), wrap64 (n := v) (by omega) (by omega), wrap64 (n := p) (by omega) (by omega), wrap64 (n := q) (by omega) (by omega), wrap64 (n := u + v) (by omega) (by omega), wrap64 (n := p + q) (by omega) (by omega)]
  exact ⟨rfl, rfl, m1, by omega⟩
theorem len_ok {px py qx qy : Int} (h1 : F37_0 px py = true) (h2 : F37_0 qx qy = true) (n : Nat) : ∃ r, F17 (n + 40) px py qx qy = some (r, 0) ∧ F42 (n + 40) px py qx qy = some r ∧ IsRoot r ((qx - px) * (qx - px) + (qy - py) * (qy - py)) ∧ r ≤ 65536 := by
  obtain ⟨r, e1, e2, e3, e4⟩ := long_ok h1 h2 n
  refine ⟨r, ?_, e2, e3, e4⟩
  rw [pt_t] at h1 h2
  have l1 : ltI px (-16384) = false := by rw [ltI_f]; omega
  have l2 : ltI 16384 px = false := by rw [ltI_f]; omega
  have l3 : ltI py (-16384) = false := by rw [ltI_f]; omega
  have l4 : ltI 16384 py = false := by rw [ltI_f]; omega
  have l5 : ltI qx (-16384) = false := by rw [ltI_f]; omega
  have l6 : ltI 16384 qx = false := by rw [ltI_f]; omega
  have l7 : ltI qy (-16384) = false := by rw [ltI_f]; omega
  have l8 : ltI 16384 qy = false := by rw [ltI_f]; omega
  unfold F17 F41_0; rw [l1, l2, l3, l4, l5, l6, l7, l8, e1]; rfl
theorem at_ax (n : Nat) {kd fx fy tx ty ra rb ca cb cc cd da db dc dd qx qy : Int} {ea eb : Bool} (h : F34_0 kd fx fy tx ty ra rb ca cb cc cd da db dc dd ea eb = true) (hk : kd = 1) (hq : F37_0 qx qy = true) : F12x (n + 40) kd fx fy tx ty ra rb ca cb cc cd da db dc dd ea eb qx qy = some (res ca cb cc cd da db dc dd ea eb (nA fx fy tx ty qx qy) (mA fx fy tx ty)) ∧ F13 (n + 40) kd fx fy tx ty ra rb ca cb cc cd da db dc dd ea eb qx qy = some (res ca cb cc cd da db dc dd ea eb (nA fx fy tx ty qx qy) (mA fx fy tx ty)) := by
  obtain ⟨i1, i2, p1, p2, hc⟩ := ok_S h
  have hne : ¬ (fx = tx ∧ fy = ty) := by omega
  obtain ⟨w1, w2, m1, m2⟩ := ax_w p1 p2 hq hne
  subst hk
  have z : eqI 0 0 = true := rfl
  have z1 : eqI 1 1 = true := rfl
  have z2 : eqI 1 2 = false := rfl
  obtain ⟨k1, k2⟩ := ink_ok (kd := 1) (fx := fx) (fy := fy) (tx := tx) (ty := ty) (ra := ra) (rb := rb) (ea := ea) (eb := eb) (N := nA fx fy tx ty qx qy) i1 i2 m1 m2
  have a0 : t70_0 fx fy tx ty qx qy = nA fx fy tx ty qx qy := w1
  have a1 : t70_1 fx fy tx ty = mA fx fy tx ty := w2
  constructor
  · unfold F12x; simp only [t12x_0, c12x_1, t12x_3, t12x_4, t12x_5, t12x_6, t12x_7, t12x_8, t12x_9, t12x_10, t12x_11, t12x_12, t12x_13, t12x_14, t12x_15, t12x_16, t12x_17, c12x_18, c12x_19, t12x_20, t12x_21, t12x_22, t12x_23, t12x_24, t12x_25, c12x_26, t12x_27, t12x_28, t12x_29, t12x_30, t12x_31, t12x_32, t12x_33, t12x_34, t12x_35, t12x_36, t12x_37, t12x_38, t12x_39, t12x_40, t12x_41, c12x_42, c12x_43, t12x_44, t12x_45, t12x_46, t12x_47, t12x_48, t12x_49, c12x_50, F10_0, F10v, h, pt33, hq, z, z1, F70_0, F70_1, F70_2, F70_3, F70_4, F70_5, F70_6, F70_7, F70_8, F70_9, F70_10, F70_11, F70_12, F70_13, F70_14, F70_15, F70_16, F70_17, F70_18, F70, a0, a1, k1, F36_0, F36_1, F36_2, F36_3, F36_4, Option.getD_some, Option.isSome_some, Bool.not_true, cond_true, cond_false]
    rw [← k2]
  · have f72 : F72 (n + 40) 1 fx fy tx ty ra rb ca cb cc cd da db dc dd ea eb qx qy = some (nA fx fy tx ty qx qy, mA fx fy tx ty) := by
      unfold F72; rw [z2]; unfold t72_0 t72_1; rw [w1, w2]; rfl
    have f38 : F38 (n + 40) 1 fx fy tx ty ra rb ca cb cc cd da db dc dd ea eb qx qy = some ((res ca cb cc cd da db dc dd ea eb (nA fx fy tx ty qx qy) (mA fx fy tx ty)).1, (res ca cb cc cd da db dc dd ea eb (nA fx fy tx ty qx qy) (mA fx fy tx ty)).2.1, (res ca cb cc cd da db dc dd ea eb (nA fx fy tx ty qx qy) (mA fx fy tx ty)).2.2.1, (res ca cb cc cd da db dc dd ea eb (nA fx fy tx ty qx qy) (mA fx fy tx ty)).2.2.2.1, (res ca cb cc cd da db dc dd ea eb (nA fx fy tx ty qx qy) (mA fx fy tx ty)).2.2.2.2.1) := by
      unfold F38 res
      simp only [t38_0, t38_1, c38_2, c38_5, t38_8, t38_9, t38_10, t38_11, F72_0, F72_1, f72, Option.getD_some, Option.isSome_some, cond_true]
      cases e1 : ltI (nA fx fy tx ty qx qy) 0 with
      | true => cases ea <;> rfl
      | false =>
        cases e2 : ltI (mA fx fy tx ty) (nA fx fy tx ty qx qy) with
        | true => cases eb <;> rfl
        | false =>
          rw [ltI_f] at e1 e2
          have m := mix_ref (x := nA fx fy tx ty qx qy) (y := mA fx fy tx ty) i1 i2 e1 e2 m1 m2
          simp only [F73_0, F73_1, F73_2, F73_3, m, Option.getD_some, Option.isSome_some, cond_true, cond_false]
    unfold F13; simp only [c13_0, t13_1, t13_2, t13_3, t13_4, c13_5, h, hq, f38, F38_0, F38_1, F38_2, F38_3, F38_4, Option.getD_some, Option.isSome_some, Bool.not_true, cond_true, cond_false]
    rw [← k2]
theorem at_rad (n : Nat) {kd fx fy tx ty ra rb ca cb cc cd da db dc dd qx qy : Int} {ea eb : Bool} (h : F34_0 kd fx fy tx ty ra rb ca cb cc cd da db dc dd ea eb = true) (hk : kd = 2) (hq : F37_0 qx qy = true) : ∃ r, IsRoot r ((qx - fx) * (qx - fx) + (qy - fy) * (qy - fy)) ∧ F12x (n + 40) kd fx fy tx ty ra rb ca cb cc cd da db dc dd ea eb qx qy = some (res ca cb cc cd da db dc dd ea eb (r - ra) (rb - ra)) ∧ F13 (n + 40) kd fx fy tx ty ra rb ca cb cc cd da db dc dd ea eb qx qy = some (res ca cb cc cd da db dc dd ea eb (r - ra) (rb - ra)) := by
  obtain ⟨i1, i2, p1, p2, hc⟩ := ok_S h
  obtain ⟨r, e1, e2, e3, e4⟩ := len_ok p1 hq n
  subst hk
  have hr : 0 ≤ ra ∧ ra < rb ∧ rb ≤ 65536 := by omega
  have hr0 := e3.1
  have w1 : wrapA .i64 (Int.sub r ra) = r - ra := by simp only [sub_int]; exact wrap64 (by omega) (by omega)
  have w2 : wrapA .i64 (Int.sub rb ra) = rb - ra := by simp only [sub_int]; exact wrap64 (by omega) (by omega)
  have m1 : 1 ≤ rb - ra := by omega
  have m2 : rb - ra ≤ 2147483648 := by omega
  have z : eqI 0 0 = true := rfl
  have z1 : eqI 2 1 = false := rfl
  have z2 : eqI 2 2 = true := rfl
  obtain ⟨k1, k2⟩ := ink_ok (kd := 2) (fx := fx) (fy := fy) (tx := tx) (ty := ty) (ra := ra) (rb := rb) (ea := ea) (eb := eb) (N := r - ra) i1 i2 m1 m2
  have f71 : F71 (n + 40) 2 fx fy tx ty ra rb ca cb cc cd da db dc dd ea eb 0 0 qx qy = some (2, fx, fy, tx, ty, ra, rb, ca, cb, cc, cd, da, db, dc, dd, ea, eb, r - ra, rb - ra) := by
    unfold F71 F17_0; rw [e1]; simp only [w1, w2, Option.getD_some, Option.isSome_some, cond_true]
  refine ⟨r, e3, ?_, ?_⟩
  · unfold F12x; simp only [t12x_0, c12x_1, t12x_3, t12x_4, t12x_5, t12x_6, t12x_7, t12x_8, t12x_9, t12x_10, t12x_11, t12x_12, t12x_13, t12x_14, t12x_15, t12x_16, t12x_17, c12x_18, c12x_19, t12x_20, t12x_21, t12x_22, t12x_23, t12x_24, t12x_25, c12x_26, t12x_27, t12x_28, t12x_29, t12x_30, t12x_31, t12x_32, t12x_33, t12x_34, t12x_35, t12x_36, t12x_37, t12x_38, t12x_39, t12x_40, t12x_41, c12x_42, c12x_43, t12x_44, t12x_45, t12x_46, t12x_47, t12x_48, t12x_49, c12x_50, F10_0, F10v, h, pt33, hq, z, z1, z2, F71_0, F71_1, F71_2, F71_3, F71_4, F71_5, F71_6, F71_7, F71_8, F71_9, F71_10, F71_11, F71_12, F71_13, F71_14, F71_15, F71_16, F71_17, F71_18, f71, k1, F36_0, F36_1, F36_2, F36_3, F36_4, Option.getD_some, Option.isSome_some, Bool.not_true, cond_true, cond_false]
    rw [← k2]
  · have f72 : F72 (n + 40) 2 fx fy tx ty ra rb ca cb cc cd da db dc dd ea eb qx qy = some (r - ra, rb - ra) := by
      unfold F72 F42_0; rw [z2, e2]; simp only [w1, w2, Option.getD_some, Option.isSome_some, cond_true]
    have f38 : F38 (n + 40) 2 fx fy tx ty ra rb ca cb cc cd da db dc dd ea eb qx qy = some ((res ca cb cc cd da db dc dd ea eb (r - ra) (rb - ra)).1, (res ca cb cc cd da db dc dd ea eb (r - ra) (rb - ra)).2.1, (res ca cb cc cd da db dc dd ea eb (r - ra) (rb - ra)).2.2.1, (res ca cb cc cd da db dc dd ea eb (r - ra) (rb - ra)).2.2.2.1, (res ca cb cc cd da db dc dd ea eb (r - ra) (rb - ra)).2.2.2.2.1) := by
      unfold F38 res
      simp only [t38_0, t38_1, c38_2, c38_5, t38_8, t38_9, t38_10, t38_11, F72_0, F72_1, f72, Option.getD_some, Option.isSome_some, cond_true]
      cases e1 : ltI (r - ra) 0 with
      | true => cases ea <;> rfl
      | false =>
        cases e2 : ltI (rb - ra) (r - ra) with
        | true => cases eb <;> rfl
        | false =>
          rw [ltI_f] at e1 e2
          have m := mix_ref (x := r - ra) (y := rb - ra) i1 i2 e1 e2 m1 m2
          simp only [F73_0, F73_1, F73_2, F73_3, m, Option.getD_some, Option.isSome_some, cond_true, cond_false]
    unfold F13; simp only [c13_0, t13_1, t13_2, t13_3, t13_4, c13_5, h, hq, f38, F38_0, F38_1, F38_2, F38_3, F38_4, Option.getD_some, Option.isSome_some, Bool.not_true, cond_true, cond_false]
    rw [← k2]
theorem at_eq (n : Nat) (kd fx fy tx ty ra rb ca cb cc cd da db dc dd qx qy : Int) (ea eb : Bool) : ∃ r, F12x (n + 40) kd fx fy tx ty ra rb ca cb cc cd da db dc dd ea eb qx qy = some r ∧ F13 (n + 40) kd fx fy tx ty ra rb ca cb cc cd da db dc dd ea eb qx qy = some r := by
  cases h : F34_0 kd fx fy tx ty ra rb ca cb cc cd da db dc dd ea eb with
  | false =>
    have z : eqI 390 0 = false := rfl
    refine ⟨(0, 0, 0, 0, false, 390), ?_, ?_⟩
    · unfold F12x; simp only [t12x_0, c12x_1, t12x_3, t12x_4, t12x_5, t12x_6, t12x_7, t12x_8, t12x_9, t12x_10, t12x_11, t12x_12, t12x_13, t12x_14, t12x_15, t12x_16, t12x_17, c12x_18, c12x_19, t12x_20, t12x_21, t12x_22, t12x_23, t12x_24, t12x_25, c12x_26, t12x_27, t12x_28, t12x_29, t12x_30, t12x_31, t12x_32, t12x_33, t12x_34, t12x_35, t12x_36, t12x_37, t12x_38, t12x_39, t12x_40, t12x_41, c12x_42, c12x_43, t12x_44, t12x_45, t12x_46, t12x_47, t12x_48, t12x_49, c12x_50, F10_0, F10v, h, z, Option.getD_some, Bool.not_false, cond_true, cond_false]
    · unfold F13; simp only [c13_0, t13_1, t13_2, t13_3, t13_4, c13_5, h, Bool.not_false, cond_true]
  | true =>
    cases hq : F37_0 qx qy with
    | false =>
      have z : eqI 0 0 = true := rfl
      refine ⟨(0, 0, 0, 0, false, 2), ?_, ?_⟩
      · unfold F12x; simp only [t12x_0, c12x_1, t12x_3, t12x_4, t12x_5, t12x_6, t12x_7, t12x_8, t12x_9, t12x_10, t12x_11, t12x_12, t12x_13, t12x_14, t12x_15, t12x_16, t12x_17, c12x_18, c12x_19, t12x_20, t12x_21, t12x_22, t12x_23, t12x_24, t12x_25, c12x_26, t12x_27, t12x_28, t12x_29, t12x_30, t12x_31, t12x_32, t12x_33, t12x_34, t12x_35, t12x_36, t12x_37, t12x_38, t12x_39, t12x_40, t12x_41, c12x_42, c12x_43, t12x_44, t12x_45, t12x_46, t12x_47, t12x_48, t12x_49, c12x_50, F10_0, F10v, h, pt33, hq, z, Option.getD_some, Bool.not_true, Bool.not_false, cond_true, cond_false]
      · unfold F13; simp only [c13_0, t13_1, t13_2, t13_3, t13_4, c13_5, h, hq, Bool.not_true, Bool.not_false, cond_true, cond_false]
    | true =>
      obtain ⟨_, _, _, _, hc⟩ := ok_S h
      rcases hc with hc | hc
      · obtain ⟨a, b⟩ := at_ax n h hc.1 hq; exact ⟨_, a, b⟩
      · obtain ⟨r, _, a, b⟩ := at_rad n h hc.1 hq; exact ⟨_, a, b⟩
theorem S_ok {kd fx fy tx ty ra rb ca cb cc cd da db dc dd : Int} {ea eb : Bool} (h1 : F69_0 ca cb cc cd = true) (h2 : F69_0 da db dc dd = true) (h3 : F37_0 fx fy = true) (h4 : F37_0 tx ty = true) (h5 : (kd = 1 ∧ ¬ (fx = tx ∧ fy = ty) ∧ ra = 0 ∧ rb = 0) ∨ (kd = 2 ∧ tx = 0 ∧ ty = 0 ∧ 0 ≤ ra ∧ ra < rb ∧ rb ≤ 65536)) : F34_0 kd fx fy tx ty ra rb ca cb cc cd da db dc dd ea eb = true := by
  unfold F34_0 F34
  simp only [cS, Option.getD_some, condP, condF, nneg_n, nneg_f, andB_t, andB_f, ltI_t, ltI_f, eqI_t, eqI_f, Bool.false_eq_true, Bool.true_eq_false, and_false, or_false, false_or, and_true]
  refine ⟨h1, h2, h3, h4, ?_⟩
  omega
theorem tmb {x : Int} (m : Int) (hm : 0 < m) : -m < Int.tmod x m ∧ Int.tmod x m < m := ⟨Int.lt_tmod_of_pos x hm, Int.tmod_lt_of_pos x hm⟩
theorem next_ne {x : Int} (h1 : -16384 ≤ x) (h2 : x ≤ 16384) : Int.tmod (x + 1) 16384 ≠ x := by
  by_cases h : 0 ≤ x + 1
  · rw [Int.tmod_eq_emod_of_nonneg h]; omega
  · have e : Int.tmod (x + 1) 16384 = - Int.tmod (-(x + 1)) 16384 := by rw [Int.neg_tmod, Int.neg_neg]
    rw [e, Int.tmod_eq_emod_of_nonneg (by omega)]; omega
theorem draft (rd : Bool) {fx fy tx ty ra rb ca cb cc cd da db dc dd : Int} (ex : Int) (w1 : (Lit.int .i16 fx).wf = true) (w2 : (Lit.int .i16 fy).wf = true) (w3 : (Lit.int .i16 tx).wf = true) (w4 : (Lit.int .i16 ty).wf = true) (w5 : (Lit.int .u16 ra).wf = true) (w6 : (Lit.int .u16 rb).wf = true) (w7 : (Lit.int .u8 ca).wf = true) (w8 : (Lit.int .u8 cb).wf = true) (w9 : (Lit.int .u8 cc).wf = true) (w10 : (Lit.int .u8 cd).wf = true) (w11 : (Lit.int .u8 da).wf = true) (w12 : (Lit.int .u8 db).wf = true) (w13 : (Lit.int .u8 dc).wf = true) (w14 : (Lit.int .u8 dd).wf = true) :
    ∃ (kd Fx Fy Tx Ty Ra Rb Ca Cb Cc Cd Da Db Dc Dd : Int) (Ea Eb : Bool), F9 rd fx fy tx ty ra rb ca cb cc cd da db dc dd ex = some (kd, Fx, Fy, Tx, Ty, Ra, Rb, Ca, Cb, Cc, Cd, Da, Db, Dc, Dd, Ea, Eb) ∧ F34_0 kd Fx Fy Tx Ty Ra Rb Ca Cb Cc Cd Da Db Dc Dd Ea Eb = true := by
  have b1 : (-32768 : Int) ≤ fx ∧ fx ≤ 32767 := wf_bounds w1
  have b2 : (-32768 : Int) ≤ fy ∧ fy ≤ 32767 := wf_bounds w2
  have b3 : (-32768 : Int) ≤ tx ∧ tx ≤ 32767 := wf_bounds w3
  have b4 : (-32768 : Int) ≤ ty ∧ ty ≤ 32767 := wf_bounds w4
  have b5 := wf_u16 w5
  have b6 := wf_u16 w6
  have b7 := wf_u8 w7
  have b8 := wf_u8 w8
  have b9 := wf_u8 w9
  have b10 := wf_u8 w10
  have b11 := wf_u8 w11
  have b12 := wf_u8 w12
  have b13 := wf_u8 w13
  have b14 := wf_u8 w14
  have e1 : wrapA .i64 fx = fx := wrap64 (by omega) (by omega)
  have e2 : wrapA .i64 fy = fy := wrap64 (by omega) (by omega)
  have e3 : wrapA .i64 tx = tx := wrap64 (by omega) (by omega)
  have e4 : wrapA .i64 ty = ty := wrap64 (by omega) (by omega)
  have e7 : wrapA .i64 ca = ca := wrap64 (by omega) (by omega)
  have e8 : wrapA .i64 cb = cb := wrap64 (by omega) (by omega)
  have e9 : wrapA .i64 cc = cc := wrap64 (by omega) (by omega)
  have e10 : wrapA .i64 cd = cd := wrap64 (by omega) (by omega)
  have e11 : wrapA .i64 da = da := wrap64 (by omega) (by omega)
  have e12 : wrapA .i64 db = db := wrap64 (by omega) (by omega)
  have e13 : wrapA .i64 dc = dc := wrap64 (by omega) (by omega)
  have e14 : wrapA .i64 dd = dd := wrap64 (by omega) (by omega)
  have i1 : F69_0 ca cb cc cd = true := by rw [ink_t]; omega
  have i2 : F69_0 da db dc dd = true := by rw [ink_t]; omega
  have t1 := tmb (x := fx) 16385 (by decide)
  have t2 := tmb (x := fy) 16385 (by decide)
  have t3 := tmb (x := tx) 16385 (by decide)
  have t4 := tmb (x := ty) 16385 (by decide)
  have p1 : F37_0 (Int.tmod fx 16385) (Int.tmod fy 16385) = true := by rw [pt_t]; omega
  have p2 : F37_0 (Int.tmod tx 16385) (Int.tmod ty 16385) = true := by rw [pt_t]; omega
  have p0 : F37_0 0 0 = true := rfl
  unfold F9 c9_2 t9_1 t9_3
  simp only [e1, e2, e3, e4, e7, e8, e9, e10, e11, e12, e13, e14]
  cases rd with
  | true =>
    have m1 : (if rb < ra then rb else ra) ≤ rb ∧ 0 ≤ (if rb < ra then rb else ra) := by split <;> omega
    have m2 : rb ≤ (if rb > ra then rb else ra) ∧ (if rb > ra then rb else ra) ≤ 65535 := by split <;> omega
    have v1 : wrapA .i64 (if rb < ra then rb else ra) = (if rb < ra then rb else ra) := wrap64 (by omega) (by omega)
    have v2 : wrapA .i64 (if rb > ra then rb else ra) = (if rb > ra then rb else ra) := wrap64 (by omega) (by omega)
    have v3 : wrapA .i64 (Int.add (if rb > ra then rb else ra) 1) = (if rb > ra then rb else ra) + 1 := by simp only [add_int]; exact wrap64 (by omega) (by omega)
    exact ⟨_, _, _, _, _, _, _, _, _, _, _, _, _, _, _, _, _, rfl, S_ok i1 i2 p1 p0 (.inr ⟨rfl, rfl, rfl, by rw [v1]; omega, by rw [v1, v2, v3]; omega, by rw [v2, v3]; omega⟩)⟩
  | false =>
    cases hc : andB (eqI (Int.tmod tx 16385) (Int.tmod fx 16385)) (andB (eqI (Int.tmod ty 16385) (Int.tmod fy 16385)) true) with
    | false =>
      simp only [andB_t, andB_f, eqI_f, Bool.true_eq_false, or_false] at hc
      exact ⟨_, _, _, _, _, _, _, _, _, _, _, _, _, _, _, _, _, rfl, S_ok i1 i2 p1 p2 (.inl ⟨rfl, by omega, rfl, rfl⟩)⟩
    | true =>
      simp only [andB_t, eqI_t, and_true] at hc
      have v : wrapA .i64 (Int.add (Int.tmod tx 16385) 1) = Int.tmod tx 16385 + 1 := by simp only [add_int]; exact wrap64 (by omega) (by omega)
      have ne := next_ne (x := Int.tmod tx 16385) (by omega) (by omega)
      have t5 := tmb (x := Int.tmod tx 16385 + 1) 16384 (by decide)
      refine ⟨_, _, _, _, _, _, _, _, _, _, _, _, _, _, _, _, _, rfl, S_ok i1 i2 p1 ?_ (.inl ⟨rfl, ?_, rfl, rfl⟩)⟩
      · rw [v, pt_t]; omega
      · rw [v]; omega
theorem in4 (x y : Int) : ltI 16384 (if -y > (if y > (if -x > x then -x else x) then y else (if -x > x then -x else x)) then -y else (if y > (if -x > x then -x else x) then y else (if -x > x then -x else x))) = !F37_0 x y := by
  have h := pt_t x y
  cases g : F37_0 x y with
  | true =>
    rw [g] at h; have h := h.mp rfl
    simp only [Bool.not_true, ltI_f]
    split <;> (try split) <;> (try split) <;> omega
  | false =>
    simp only [Bool.not_false, ltI_t]
    have h : ¬ ((-16384 ≤ x ∧ x ≤ 16384) ∧ (-16384 ≤ y ∧ y ≤ 16384)) := fun z => by have := (pt_t x y).mpr z; rw [g] at this; cases this
    split <;> (try split) <;> (try split) <;> omega
theorem ngw {x : Int} (h1 : -1000000000 ≤ x) (h2 : x ≤ 1000000000) : IntKind.i64.wrap (0 - x) = -x := by rw [← wrapA_eq, wrap64 (by omega) (by omega)]; omega
theorem ends_rad {rd : Bool} {fx fy tx ty ra rb ca cb cc cd da db dc dd ex : Int} {kd Fx Fy Tx Ty Ra Rb Ca Cb Cc Cd Da Db Dc Dd : Int} {Ea Eb : Bool} (n : Nat) (k q0 q1 : Int) (hF : F9 rd fx fy tx ty ra rb ca cb cc cd da db dc dd ex = some (kd, Fx, Fy, Tx, Ty, Ra, Rb, Ca, Cb, Cc, Cd, Da, Db, Dc, Dd, Ea, Eb)) (h : F34_0 kd Fx Fy Tx Ty Ra Rb Ca Cb Cc Cd Da Db Dc Dd Ea Eb = true) (hk2 : kd = 2) : F4 (n + 40) rd fx fy tx ty ra rb ca cb cc cd da db dc dd ex k q0 q1 = some true := by
  have f0 : F9_0 rd fx fy tx ty ra rb ca cb cc cd da db dc dd ex = kd := by unfold F9_0; rw [hF]; rfl
  have f1 : F9_1 rd fx fy tx ty ra rb ca cb cc cd da db dc dd ex = Fx := by unfold F9_1; rw [hF]; rfl
  have f2 : F9_2 rd fx fy tx ty ra rb ca cb cc cd da db dc dd ex = Fy := by unfold F9_2; rw [hF]; rfl
  have f3 : F9_3 rd fx fy tx ty ra rb ca cb cc cd da db dc dd ex = Tx := by unfold F9_3; rw [hF]; rfl
  have f4 : F9_4 rd fx fy tx ty ra rb ca cb cc cd da db dc dd ex = Ty := by unfold F9_4; rw [hF]; rfl
  have f5 : F9_5 rd fx fy tx ty ra rb ca cb cc cd da db dc dd ex = Ra := by unfold F9_5; rw [hF]; rfl
  have f6 : F9_6 rd fx fy tx ty ra rb ca cb cc cd da db dc dd ex = Rb := by unfold F9_6; rw [hF]; rfl
  have f7 : F9_7 rd fx fy tx ty ra rb ca cb cc cd da db dc dd ex = Ca := by unfold F9_7; rw [hF]; rfl
  have f8 : F9_8 rd fx fy tx ty ra rb ca cb cc cd da db dc dd ex = Cb := by unfold F9_8; rw [hF]; rfl
  have f9 : F9_9 rd fx fy tx ty ra rb ca cb cc cd da db dc dd ex = Cc := by unfold F9_9; rw [hF]; rfl
  have f10 : F9_10 rd fx fy tx ty ra rb ca cb cc cd da db dc dd ex = Cd := by unfold F9_10; rw [hF]; rfl
  have f11 : F9_11 rd fx fy tx ty ra rb ca cb cc cd da db dc dd ex = Da := by unfold F9_11; rw [hF]; rfl
  have f12 : F9_12 rd fx fy tx ty ra rb ca cb cc cd da db dc dd ex = Db := by unfold F9_12; rw [hF]; rfl
  have f13 : F9_13 rd fx fy tx ty ra rb ca cb cc cd da db dc dd ex = Dc := by unfold F9_13; rw [hF]; rfl
  have f14 : F9_14 rd fx fy tx ty ra rb ca cb cc cd da db dc dd ex = Dd := by unfold F9_14; rw [hF]; rfl
  have f15 : F9_15 rd fx fy tx ty ra rb ca cb cc cd da db dc dd ex = Ea := by unfold F9_15; rw [hF]; rfl
  have f16 : F9_16 rd fx fy tx ty ra rb ca cb cc cd da db dc dd ex = Eb := by unfold F9_16; rw [hF]; rfl
  subst hk2
  have z : eqI 2 2 = true := rfl
  have z0 : eqI 0 0 = true := rfl
  have bb : ∀ b : Bool, (b == b) = true := fun b => by cases b <;> rfl
  obtain ⟨i1, i2, s1, s2, hc⟩ := ok_S h
  have hc : 0 ≤ Ra ∧ Ra < Rb ∧ Rb ≤ 65536 := by omega
  have t1 := tmb (x := q0) 16385 (by decide)
  have t2 := tmb (x := q1) 16385 (by decide)
  have hq : F37_0 (Int.tmod q0 16385) (Int.tmod q1 16385) = true := by rw [pt_t]; omega
  unfold F4; simp only [t4_0, t4_1, t4_2, t4_3, t4_4, t4_5, t4_6, t4_7, t4_8, t4_9, t4_10, t4_11, t4_12, t4_13, t4_14, c4_15, c4_16, c4_17, c4_18, t4_19, t4_20, t4_21, t4_22, c4_24, t4_47, t4_48, t4_49, t4_50, t4_51, c4_52, c4_80, c4_108, c4_150, c4_154, t4_159, t4_160, t4_161, t4_162, c4_202, c4_230, c4_252, c4_253, t4_254, t4_255, t4_256, t4_257, c4_264, c4_265, c4_266, c4_287, c4_291, t4_296, t4_297, t4_298, t4_299, c4_339, c4_367, c4_389, c4_390, t4_391, t4_392, t4_393, t4_394, c4_401, c4_402, c4_403, c4_404, c4_405, t4_406, t4_407, t4_408, t4_409, c4_416, c4_417, c4_418, c4_439, c4_443, t4_448, t4_449, t4_450, t4_451, c4_491, c4_519, c4_541, c4_542, t4_543, c4_544, t4_545, t4_546, t4_547, t4_548, t4_549, t4_550, t4_551, t4_552, c4_555, c4_576, c4_589, c4_591, c4_592, t4_593, t4_594, c4_595, t4_596, t4_597, c4_607, c4_608, t4_609, t4_610, t4_611, t4_612, c4_623, c4_626, t4_627, t4_628, c4_629, c4_631, c4_653, c4_683, c4_686, c4_688, c4_689, c4_711, c4_714, t4_715, t4_716, t4_717, t4_718, c4_728, t4_729, t4_730, c4_731, c4_732, c4_733, c4_734, c4_737, c4_738, c4_739, c4_740, c4_743, t4_744, t4_745, t4_746, t4_747, c4_756, f0, f1, f2, f3, f4, f5, f6, f7, f8, f9, f10, f11, f12, f13, f14, f15, f16, z, cond_true]
  clear f0 f1 f2 f3 f4 f5 f6 f7 f8 f9 f10 f11 f12 f13 f14 f15 f16
  generalize Int.tmod q0 16385 = qx at *
  generalize Int.tmod q1 16385 = qy at *
  have s1' := s1
  rw [pt_t] at s1'
  obtain ⟨r, hr, eq, _⟩ := at_rad n h rfl hq
  have hR := (ink_ok (kd := 2) (fx := Fx) (fy := Fy) (tx := Tx) (ty := Ty) (ra := Ra) (rb := Rb) (ea := Ea) (eb := Eb) (N := r - Ra) (M := Rb - Ra) i1 i2 (by omega) (by omega)).2
  have pp : ∀ px py : Int, (px - Fx) * (px - Fx) + (py - Fy) * (py - Fy) = (qx - Fx) * (qx - Fx) + (qy - Fy) * (qy - Fy) → F37_0 px py = false ∨ (F37_0 px py = true ∧ F12x (n + 40) 2 Fx Fy Tx Ty Ra Rb Ca Cb Cc Cd Da Db Dc Dd Ea Eb px py = some (res Ca Cb Cc Cd Da Db Dc Dd Ea Eb (r - Ra) (Rb - Ra))) := by
    intro px py he
    cases g : F37_0 px py with
    | false => exact .inl rfl
    | true =>
      obtain ⟨r', hr', e', _⟩ := at_rad n h rfl g
      rw [he] at hr'
      rw [e', root_uniq hr' hr]
      exact .inr ⟨rfl, rfl⟩
  generalize (res Ca Cb Cc Cd Da Db Dc Dd Ea Eb (r - Ra) (Rb - Ra)) = R at *
  have wx : wrapA .i64 (Int.sub qx Fx) = qx - Fx := by simp only [sub_int]; exact wrap64 (by omega) (by omega)
  have wy : wrapA .i64 (Int.sub qy Fy) = qy - Fy := by simp only [sub_int]; exact wrap64 (by omega) (by omega)
  have u1 : wrapA .i64 (Int.sub Fx (qx - Fx)) = Fx - (qx - Fx) := by simp only [sub_int]; exact wrap64 (by omega) (by omega)
  have u2 : wrapA .i64 (Int.sub Fy (qy - Fy)) = Fy - (qy - Fy) := by simp only [sub_int]; exact wrap64 (by omega) (by omega)
  have u3 : wrapA .i64 (Int.sub Fx (qy - Fy)) = Fx - (qy - Fy) := by simp only [sub_int]; exact wrap64 (by omega) (by omega)
  have u4 : wrapA .i64 (Int.add Fy (qx - Fx)) = Fy + (qx - Fx) := by simp only [add_int]; exact wrap64 (by omega) (by omega)
  have u5 : wrapA .i64 (Int.add Fx (qy - Fy)) = Fx + (qy - Fy) := by simp only [add_int]; exact wrap64 (by omega) (by omega)
  have n1 := ngw (x := Fx - (qx - Fx)) (by omega) (by omega)
  have n2 := ngw (x := Fy - (qy - Fy)) (by omega) (by omega)
  have n3 := ngw (x := Fx - (qy - Fy)) (by omega) (by omega)
  have n4 := ngw (x := Fy + (qx - Fx)) (by omega) (by omega)
  have n5 := ngw (x := Fx + (qy - Fy)) (by omega) (by omega)
  have k1 := pp (Fx - (qx - Fx)) (Fy - (qy - Fy)) (by rw [show Fx - (qx - Fx) - Fx = -(qx - Fx) by omega, show Fy - (qy - Fy) - Fy = -(qy - Fy) by omega, Int.neg_mul_neg, Int.neg_mul_neg])
  have k2 := pp (Fx - (qy - Fy)) (Fy + (qx - Fx)) (by rw [show Fx - (qy - Fy) - Fx = -(qy - Fy) by omega, show Fy + (qx - Fx) - Fy = qx - Fx by omega, Int.neg_mul_neg, Int.add_comm])
  have k3 := pp (Fx + (qy - Fy)) (Fy + (qx - Fx)) (by rw [show Fx + (qy - Fy) - Fx = qy - Fy by omega, show Fy + (qx - Fx) - Fy = qx - Fx by omega, Int.add_comm])
  simp only [wx, wy, u1, u2, u3, u4, u5, n1, n2, n3, n4, n5, in4, F12x_0, F12x_1, F12x_2, F12x_3, F12x_4, F12x_5, eq, hR, z0, Option.getD_some, Option.isSome_some, Bool.not_true, cond_true, cond_false]
  clear wx wy u1 u2 u3 u4 u5 n1 n2 n3 n4 n5 pp eq
  rcases k1 with g1 | ⟨g1, e1⟩ <;> rcases k2 with g2 | ⟨g2, e2⟩ <;> rcases k3 with g3 | ⟨g3, e3⟩ <;> simp only [g1, g2, g3, Bool.not_true, Bool.not_false, cond_true, cond_false] <;> (try simp only [e1, hR, z0, bb, eqI_same, andB, Option.getD_some, Option.isSome_some, Bool.not_true, cond_true, cond_false]) <;> (try simp only [e2, hR, z0, bb, eqI_same, andB, Option.getD_some, Option.isSome_some, Bool.not_true, cond_true, cond_false]) <;> (try simp only [e3, hR, z0, bb, eqI_same, andB, Option.getD_some, Option.isSome_some, Bool.not_true, cond_true, cond_false])
theorem mx_0 {c d y : Int} (hy : 1 ≤ y) : mx c d 0 y = c := by
  unfold mx
  rw [show 2 * ((y - 0) * c + 0 * d) + y = y + c * (2 * y) by rw [Int.sub_zero, Int.zero_mul, Int.add_zero, ← Int.mul_assoc, Int.mul_comm (2 * y) c]; omega, Int.add_mul_ediv_right _ _ (by omega : 2 * y ≠ 0), Int.ediv_eq_zero_of_lt (by omega) (by omega), Int.zero_add]
theorem mx_1 {c d y : Int} (hy : 1 ≤ y) : mx c d y y = d := by
  unfold mx
  rw [show 2 * ((y - y) * c + y * d) + y = y + d * (2 * y) by rw [Int.sub_self, Int.zero_mul, Int.zero_add, ← Int.mul_assoc, Int.mul_comm (2 * y) d]; omega, Int.add_mul_ediv_right _ _ (by omega : 2 * y ≠ 0), Int.ediv_eq_zero_of_lt (by omega) (by omega), Int.zero_add]
theorem nA_from (fx fy tx ty : Int) : nA fx fy tx ty fx fy = 0 := by unfold nA; rw [Int.sub_self, Int.sub_self, Int.zero_mul, Int.zero_mul]; rfl
theorem nA_to (fx fy tx ty : Int) : nA fx fy tx ty tx ty = mA fx fy tx ty := rfl
theorem nA_across (fx fy tx ty qx qy k : Int) : nA fx fy tx ty (qx - k * (ty - fy)) (qy + k * (tx - fx)) = nA fx fy tx ty qx qy := by
  unfold nA
  rw [show qx - k * (ty - fy) - fx = (qx - fx) - k * (ty - fy) by omega, show qy + k * (tx - fx) - fy = (qy - fy) + k * (tx - fx) by omega, Int.sub_mul, Int.add_mul, Int.mul_right_comm k (tx - fx) (ty - fy)]
  omega
theorem ends_ax {rd : Bool} {fx fy tx ty ra rb ca cb cc cd da db dc dd ex : Int} {kd Fx Fy Tx Ty Ra Rb Ca Cb Cc Cd Da Db Dc Dd : Int} {Ea Eb : Bool} (n : Nat) (k q0 q1 : Int) (kb : -128 ≤ k ∧ k ≤ 127) (hF : F9 rd fx fy tx ty ra rb ca cb cc cd da db dc dd ex = some (kd, Fx, Fy, Tx, Ty, Ra, Rb, Ca, Cb, Cc, Cd, Da, Db, Dc, Dd, Ea, Eb)) (h : F34_0 kd Fx Fy Tx Ty Ra Rb Ca Cb Cc Cd Da Db Dc Dd Ea Eb = true) (hk2 : kd = 1) : F4 (n + 40) rd fx fy tx ty ra rb ca cb cc cd da db dc dd ex k q0 q1 = some true := by
  have f0 : F9_0 rd fx fy tx ty ra rb ca cb cc cd da db dc dd ex = kd := by unfold F9_0; rw [hF]; rfl
  have f1 : F9_1 rd fx fy tx ty ra rb ca cb cc cd da db dc dd ex = Fx := by unfold F9_1; rw [hF]; rfl
  have f2 : F9_2 rd fx fy tx ty ra rb ca cb cc cd da db dc dd ex = Fy := by unfold F9_2; rw [hF]; rfl
  have f3 : F9_3 rd fx fy tx ty ra rb ca cb cc cd da db dc dd ex = Tx := by unfold F9_3; rw [hF]; rfl
  have f4 : F9_4 rd fx fy tx ty ra rb ca cb cc cd da db dc dd ex = Ty := by unfold F9_4; rw [hF]; rfl
  have f5 : F9_5 rd fx fy tx ty ra rb ca cb cc cd da db dc dd ex = Ra := by unfold F9_5; rw [hF]; rfl
  have f6 : F9_6 rd fx fy tx ty ra rb ca cb cc cd da db dc dd ex = Rb := by unfold F9_6; rw [hF]; rfl
  have f7 : F9_7 rd fx fy tx ty ra rb ca cb cc cd da db dc dd ex = Ca := by unfold F9_7; rw [hF]; rfl
  have f8 : F9_8 rd fx fy tx ty ra rb ca cb cc cd da db dc dd ex = Cb := by unfold F9_8; rw [hF]; rfl
  have f9 : F9_9 rd fx fy tx ty ra rb ca cb cc cd da db dc dd ex = Cc := by unfold F9_9; rw [hF]; rfl
  have f10 : F9_10 rd fx fy tx ty ra rb ca cb cc cd da db dc dd ex = Cd := by unfold F9_10; rw [hF]; rfl
  have f11 : F9_11 rd fx fy tx ty ra rb ca cb cc cd da db dc dd ex = Da := by unfold F9_11; rw [hF]; rfl
  have f12 : F9_12 rd fx fy tx ty ra rb ca cb cc cd da db dc dd ex = Db := by unfold F9_12; rw [hF]; rfl
  have f13 : F9_13 rd fx fy tx ty ra rb ca cb cc cd da db dc dd ex = Dc := by unfold F9_13; rw [hF]; rfl
  have f14 : F9_14 rd fx fy tx ty ra rb ca cb cc cd da db dc dd ex = Dd := by unfold F9_14; rw [hF]; rfl
  have f15 : F9_15 rd fx fy tx ty ra rb ca cb cc cd da db dc dd ex = Ea := by unfold F9_15; rw [hF]; rfl
  have f16 : F9_16 rd fx fy tx ty ra rb ca cb cc cd da db dc dd ex = Eb := by unfold F9_16; rw [hF]; rfl
  subst hk2
  have z : eqI 1 2 = false := rfl
  have z0 : eqI 0 0 = true := rfl
  have l0 : ltI 0 0 = false := rfl
  have bb : ∀ b : Bool, (b == b) = true := fun b => by cases b <;> rfl
  obtain ⟨i1, i2, s1, s2, hc⟩ := ok_S h
  have hne : ¬ (Fx = Tx ∧ Fy = Ty) := by omega
  have t1 := tmb (x := q0) 16385 (by decide)
  have t2 := tmb (x := q1) 16385 (by decide)
  have hq : F37_0 (Int.tmod q0 16385) (Int.tmod q1 16385) = true := by rw [pt_t]; omega
  unfold F4; simp only [t4_0, t4_1, t4_2, t4_3, t4_4, t4_5, t4_6, t4_7, t4_8, t4_9, t4_10, t4_11, t4_12, t4_13, t4_14, c4_15, c4_16, c4_17, c4_18, t4_19, t4_20, t4_21, t4_22, c4_24, t4_47, t4_48, t4_49, t4_50, t4_51, c4_52, c4_80, c4_108, c4_150, c4_154, t4_159, t4_160, t4_161, t4_162, c4_202, c4_230, c4_252, c4_253, t4_254, t4_255, t4_256, t4_257, c4_264, c4_265, c4_266, c4_287, c4_291, t4_296, t4_297, t4_298, t4_299, c4_339, c4_367, c4_389, c4_390, t4_391, t4_392, t4_393, t4_394, c4_401, c4_402, c4_403, c4_404, c4_405, t4_406, t4_407, t4_408, t4_409, c4_416, c4_417, c4_418, c4_439, c4_443, t4_448, t4_449, t4_450, t4_451, c4_491, c4_519, c4_541, c4_542, t4_543, c4_544, t4_545, t4_546, t4_547, t4_548, t4_549, t4_550, t4_551, t4_552, c4_555, c4_576, c4_589, c4_591, c4_592, t4_593, t4_594, c4_595, t4_596, t4_597, c4_607, c4_608, t4_609, t4_610, t4_611, t4_612, c4_623, c4_626, t4_627, t4_628, c4_629, c4_631, c4_653, c4_683, c4_686, c4_688, c4_689, c4_711, c4_714, t4_715, t4_716, t4_717, t4_718, c4_728, t4_729, t4_730, c4_731, c4_732, c4_733, c4_734, c4_737, c4_738, c4_739, c4_740, c4_743, t4_744, t4_745, t4_746, t4_747, c4_756, f0, f1, f2, f3, f4, f5, f6, f7, f8, f9, f10, f11, f12, f13, f14, f15, f16, z, cond_false]
  clear f0 f1 f2 f3 f4 f5 f6 f7 f8 f9 f10 f11 f12 f13 f14 f15 f16
  generalize Int.tmod q0 16385 = qx at *
  generalize Int.tmod q1 16385 = qy at *
  obtain ⟨w1, w2, m1, m2⟩ := ax_w s1 s2 hq hne
  have eq := (at_ax n h rfl hq).1
  have eF := (at_ax n h rfl s1).1
  have eT := (at_ax n h rfl s2).1
  have lM : ltI (mA Fx Fy Tx Ty) 0 = false := by rw [ltI_f]; omega
  have lN : ltI (mA Fx Fy Tx Ty) (mA Fx Fy Tx Ty) = false := by rw [ltI_f]; omega
  rw [nA_from] at eF
  rw [nA_to] at eT
  have rF : res Ca Cb Cc Cd Da Db Dc Dd Ea Eb 0 (mA Fx Fy Tx Ty) = (Ca, Cb, Cc, Cd, true, 0) := by unfold res; rw [l0, lM, mx_0 m1, mx_0 m1, mx_0 m1, mx_0 m1]; rfl
  have rT : res Ca Cb Cc Cd Da Db Dc Dd Ea Eb (mA Fx Fy Tx Ty) (mA Fx Fy Tx Ty) = (Da, Db, Dc, Dd, true, 0) := by unfold res; rw [lM, lN, mx_1 m1, mx_1 m1, mx_1 m1, mx_1 m1]; rfl
  rw [rF] at eF
  rw [rT] at eT
  have hR := (ink_ok (kd := 1) (fx := Fx) (fy := Fy) (tx := Tx) (ty := Ty) (ra := Ra) (rb := Rb) (ea := Ea) (eb := Eb) (N := nA Fx Fy Tx Ty qx qy) (M := mA Fx Fy Tx Ty) i1 i2 m1 m2).2
  have k1 : F37_0 (qx - k * (Ty - Fy)) (qy + k * (Tx - Fx)) = false ∨ (F37_0 (qx - k * (Ty - Fy)) (qy + k * (Tx - Fx)) = true ∧ F12x (n + 40) 1 Fx Fy Tx Ty Ra Rb Ca Cb Cc Cd Da Db Dc Dd Ea Eb (qx - k * (Ty - Fy)) (qy + k * (Tx - Fx)) = some (res Ca Cb Cc Cd Da Db Dc Dd Ea Eb (nA Fx Fy Tx Ty qx qy) (mA Fx Fy Tx Ty))) := by
    cases g : F37_0 (qx - k * (Ty - Fy)) (qy + k * (Tx - Fx)) with
    | false => exact .inl rfl
    | true =>
      have e' := (at_ax n h rfl g).1
      rw [nA_across] at e'
      exact .inr ⟨rfl, e'⟩
  simp only [w1, w2]
  rw [pt_t] at s1 s2 hq
  have wx : wrapA .i64 (Int.sub Tx Fx) = Tx - Fx := by simp only [sub_int]; exact wrap64 (by omega) (by omega)
  have wy : wrapA .i64 (Int.sub Ty Fy) = Ty - Fy := by simp only [sub_int]; exact wrap64 (by omega) (by omega)
  have wk : wrapA .i64 k = k := wrap64 (by omega) (by omega)
  obtain ⟨a1, a2⟩ := mul_bd (x := k) (y := Tx - Fx) (a := 128) (b := 32768) (by omega) (by omega) (by omega) (by omega)
  obtain ⟨b1, b2⟩ := mul_bd (x := k) (y := Ty - Fy) (a := 128) (b := 32768) (by omega) (by omega) (by omega) (by omega)
  have v1 : wrapA .i64 (Int.mul k (Tx - Fx)) = k * (Tx - Fx) := by simp only [mul_int]; exact wrap64 (by omega) (by omega)
  have v2 : wrapA .i64 (Int.mul k (Ty - Fy)) = k * (Ty - Fy) := by simp only [mul_int]; exact wrap64 (by omega) (by omega)
  have u1 : wrapA .i64 (Int.sub qx (k * (Ty - Fy))) = qx - k * (Ty - Fy) := by simp only [sub_int]; exact wrap64 (by omega) (by omega)
  have u2 : wrapA .i64 (Int.add qy (k * (Tx - Fx))) = qy + k * (Tx - Fx) := by simp only [add_int]; exact wrap64 (by omega) (by omega)
  have n1 := ngw (x := qx - k * (Ty - Fy)) (by omega) (by omega)
  have n2 := ngw (x := qy + k * (Tx - Fx)) (by omega) (by omega)
  simp only [wx, wy, wk, v1, v2, u1, u2, n1, n2, in4]
  clear wx wy wk v1 v2 u1 u2 n1 n2 w1 w2 a1 a2 b1 b2
  generalize qx - k * (Ty - Fy) = px at *
  generalize qy + k * (Tx - Fx) = py at *
  generalize hN : nA Fx Fy Tx Ty qx qy = N at *
  generalize hM : mA Fx Fy Tx Ty = M at *
  have fin : (bif ltI N 0 then (bif ((res Ca Cb Cc Cd Da Db Dc Dd Ea Eb N M).2.2.2.2.1 == Ea) then (bif !(res Ca Cb Cc Cd Da Db Dc Dd Ea Eb N M).2.2.2.2.1 then some true else some (andB (eqI (res Ca Cb Cc Cd Da Db Dc Dd Ea Eb N M).1 Ca) (andB (eqI (res Ca Cb Cc Cd Da Db Dc Dd Ea Eb N M).2.1 Cb) (andB (eqI (res Ca Cb Cc Cd Da Db Dc Dd Ea Eb N M).2.2.1 Cc) (andB (eqI (res Ca Cb Cc Cd Da Db Dc Dd Ea Eb N M).2.2.2.1 Cd) true))))) else some false) else
      bif ltI M N then (bif ((res Ca Cb Cc Cd Da Db Dc Dd Ea Eb N M).2.2.2.2.1 == Eb) then (bif !(res Ca Cb Cc Cd Da Db Dc Dd Ea Eb N M).2.2.2.2.1 then some true else some (andB (eqI (res Ca Cb Cc Cd Da Db Dc Dd Ea Eb N M).1 Da) (andB (eqI (res Ca Cb Cc Cd Da Db Dc Dd Ea Eb N M).2.1 Db) (andB (eqI (res Ca Cb Cc Cd Da Db Dc Dd Ea Eb N M).2.2.1 Dc) (andB (eqI (res Ca Cb Cc Cd Da Db Dc Dd Ea Eb N M).2.2.2.1 Dd) true))))) else some false) else
      bif (F16 Ca Cb Cc Cd Da Db Dc Dd N M).isSome then (bif eqI (F16_4 Ca Cb Cc Cd Da Db Dc Dd N M) 0 then (bif (res Ca Cb Cc Cd Da Db Dc Dd Ea Eb N M).2.2.2.2.1 then some (andB (eqI (res Ca Cb Cc Cd Da Db Dc Dd Ea Eb N M).1 (F16_0 Ca Cb Cc Cd Da Db Dc Dd N M)) (andB (eqI (res Ca Cb Cc Cd Da Db Dc Dd Ea Eb N M).2.1 (F16_1 Ca Cb Cc Cd Da Db Dc Dd N M)) (andB (eqI (res Ca Cb Cc Cd Da Db Dc Dd Ea Eb N M).2.2.1 (F16_2 Ca Cb Cc Cd Da Db Dc Dd N M)) (andB (eqI (res Ca Cb Cc Cd Da Db Dc Dd Ea Eb N M).2.2.2.1 (F16_3 Ca Cb Cc Cd Da Db Dc Dd N M)) true)))) else some false) else some false) else none) = some true := by
    unfold res
    cases e1 : ltI N 0 with
    | true => cases Ea <;> simp only [cond_true, cond_false, bb, eqI_same, andB, Bool.not_true, Bool.not_false]
    | false =>
      cases e2 : ltI M N with
      | true => cases Eb <;> simp only [cond_true, cond_false, bb, eqI_same, andB, Bool.not_true, Bool.not_false]
      | false =>
        rw [ltI_f] at e1 e2
        have m := mix_ok (x := N) (y := M) i1 i2 e1 e2 m1 m2
        simp only [F16_0, F16_1, F16_2, F16_3, F16_4, m, z0, Option.getD_some, Option.isSome_some, cond_true, cond_false, eqI_same, andB]
  generalize res Ca Cb Cc Cd Da Db Dc Dd Ea Eb N M = R at *
  simp only [F12x_0, F12x_1, F12x_2, F12x_3, F12x_4, F12x_5, eq, eF, eT, hR, z0, eqI_same, bb, andB, Option.getD_some, Option.isSome_some, Bool.not_true, cond_true, cond_false]
  rcases k1 with g1 | ⟨g1, e1⟩ <;> simp only [g1, Bool.not_true, Bool.not_false, cond_true, cond_false] <;> (try simp only [e1, hR, z0, bb, eqI_same, andB, Option.getD_some, Option.isSome_some, Bool.not_true, cond_true, cond_false])
  · exact fin
  · exact fin
theorem law_ok (a0_0 : Bool) (a0_1 : Int) (a0_2 : Int) (a0_3 : Int) (a0_4 : Int) (a0_5 : Int) (a0_6 : Int) (a0_7 : Int) (a0_8 : Int) (a0_9 : Int) (a0_10 : Int) (a0_11 : Int) (a0_12 : Int) (a0_13 : Int) (a0_14 : Int) (a0_15 : Int) (a1 : Int) (a2_0 a2_1 : Int) (w1 : (Lit.int .i16 a0_1).wf = true) (w2 : (Lit.int .i16 a0_2).wf = true) (w3 : (Lit.int .i16 a0_3).wf = true) (w4 : (Lit.int .i16 a0_4).wf = true) (w5 : (Lit.int .u16 a0_5).wf = true) (w6 : (Lit.int .u16 a0_6).wf = true) (w7 : (Lit.int .u8 a0_7).wf = true) (w8 : (Lit.int .u8 a0_8).wf = true) (w9 : (Lit.int .u8 a0_9).wf = true) (w10 : (Lit.int .u8 a0_10).wf = true) (w11 : (Lit.int .u8 a0_11).wf = true) (w12 : (Lit.int .u8 a0_12).wf = true) (w13 : (Lit.int .u8 a0_13).wf = true) (w14 : (Lit.int .u8 a0_14).wf = true) (w15 : (Lit.int .u8 a0_15).wf = true) (wk : (Lit.int .i8 a1).wf = true) (_ : (Lit.int .i64 a2_0).wf = true) (_ : (Lit.int .i64 a2_1).wf = true) : ∃ n : Nat, F4 n a0_0 a0_1 a0_2 a0_3 a0_4 a0_5 a0_6 a0_7 a0_8 a0_9 a0_10 a0_11 a0_12 a0_13 a0_14 a0_15 a1 a2_0 a2_1 = some true := by
  refine ⟨0 + 40, ?_⟩
  have kb : (-128 : Int) ≤ a1 ∧ a1 ≤ 127 := wf_bounds wk
  obtain ⟨kd, Fx, Fy, Tx, Ty, Ra, Rb, Ca, Cb, Cc, Cd, Da, Db, Dc, Dd, Ea, Eb, hF, h⟩ := draft a0_0 a0_15 w1 w2 w3 w4 w5 w6 w7 w8 w9 w10 w11 w12 w13 w14
  obtain ⟨_, _, _, _, hc⟩ := ok_S h
  rcases hc with hc | hc
  · exact ends_ax 0 a1 a2_0 a2_1 kb hF h hc.1
  · exact ends_rad 0 a1 a2_0 a2_1 hF h hc.1

end

theorem walk (a0_0 : Bool) (a0_1 : Int) (a0_2 : Int) (a0_3 : Int) (a0_4 : Int) (a0_5 : Int) (a0_6 : Int) (a0_7 : Int) (a0_8 : Int) (a0_9 : Int) (a0_10 : Int) (a0_11 : Int) (a0_12 : Int) (a0_13 : Int) (a0_14 : Int) (a0_15 : Int) (a1 : Int) (a2_0 : Int) (a2_1 : Int) (wa0_1 : (Lit.int .i16 a0_1).wf = true) (wa0_2 : (Lit.int .i16 a0_2).wf = true) (wa0_3 : (Lit.int .i16 a0_3).wf = true) (wa0_4 : (Lit.int .i16 a0_4).wf = true) (wa0_5 : (Lit.int .u16 a0_5).wf = true) (wa0_6 : (Lit.int .u16 a0_6).wf = true) (wa0_7 : (Lit.int .u8 a0_7).wf = true) (wa0_8 : (Lit.int .u8 a0_8).wf = true) (wa0_9 : (Lit.int .u8 a0_9).wf = true) (wa0_10 : (Lit.int .u8 a0_10).wf = true) (wa0_11 : (Lit.int .u8 a0_11).wf = true) (wa0_12 : (Lit.int .u8 a0_12).wf = true) (wa0_13 : (Lit.int .u8 a0_13).wf = true) (wa0_14 : (Lit.int .u8 a0_14).wf = true) (wa0_15 : (Lit.int .u8 a0_15).wf = true) (wa1 : (Lit.int .i8 a1).wf = true) (wa2_0 : (Lit.int .i64 a2_0).wf = true) (wa2_1 : (Lit.int .i64 a2_1).wf = true) {w : World} {ARGS : List Value} (ha : Go.Sx.RelL (fun _ => none) [.agg [.bool a0_0, .int .i16 a0_1, .int .i16 a0_2, .int .i16 a0_3, .int .i16 a0_4, .int .u16 a0_5, .int .u16 a0_6, .int .u8 a0_7, .int .u8 a0_8, .int .u8 a0_9, .int .u8 a0_10, .int .u8 a0_11, .int .u8 a0_12, .int .u8 a0_13, .int .u8 a0_14, .int .u8 a0_15], .int .i8 a1, .agg [.int .i64 a2_0, .int .i64 a2_1]] ARGS) :
    Calls Try.prog 4 ARGS.toArray w fun e w' => e = .returned (.bool true) ∧ Below w.heap.size w w' := by
  obtain ⟨n, hn⟩ := law_ok a0_0 a0_1 a0_2 a0_3 a0_4 a0_5 a0_6 a0_7 a0_8 a0_9 a0_10 a0_11 a0_12 a0_13 a0_14 a0_15 a1 a2_0 a2_1 wa0_1 wa0_2 wa0_3 wa0_4 wa0_5 wa0_6 wa0_7 wa0_8 wa0_9 wa0_10 wa0_11 wa0_12 wa0_13 wa0_14 wa0_15 wa1 wa2_0 wa2_1
  exact Go.Sx.call_args okayed rfl ha Try.func4 body4_eq (run4 n a0_0 a0_1 a0_2 a0_3 a0_4 a0_5 a0_6 a0_7 a0_8 a0_9 a0_10 a0_11 a0_12 a0_13 a0_14 a0_15 a1 a2_0 a2_1 true hn) (fun _ _ h => by cases h)

set_option maxRecDepth 100000 in
theorem lifted (os : Os) (started : os.Started) (H : Type) (enc : TypeId × Value → H) :
    ReturnsInHanded {} Try.checked os 4 .any (Rows.shadeEndsSpec.pre6 enc Try.prog Try.f4 Rows.shadeEndsRow.domain false) (Rows.shadeEndsSpec.post enc Try.prog Try.f4 false true false false) := by
  refine returnsInHanded_of_change (C := Try.checked) own started (by kernel_rfl) Try.func4
    (ChangeSpec.witness6 (enc := enc) (C := Try.checked) false ⟨#[], #[.agg #[.bool false, .int .i16 0, .int .i16 0, .int .i16 0, .int .i16 0, .int .u16 0, .int .u16 0, .int .u8 0, .int .u8 0, .int .u8 0, .int .u8 0, .int .u8 0, .int .u8 0, .int .u8 0, .int .u8 0, .int .u8 0], .int .i8 0, .agg #[.int .i64 0, .int .i64 0]], []⟩ 8 (by kernel_rfl) (by kernel_rfl) (by kernel_rfl) (by kernel_rfl)) ?_
  intro W base args ds gs before hval0 hW hcnd _
  have hval : ∀ (j : Nat) t v, Try.f4.params[j]? = some t → args[j]? = some v → Value.okWide Try.prog W .any base t v := hval0
  have hW' := hW
  obtain ⟨p, q, hA0, hV, rfl, hfz, hnd⟩ := hW
  have hA : DataW.TrodAll enc Try.prog W 0 (fun _ => true) true Try.f4.params.toList args.toList ds p := hA0
  rw [Try.params4] at hA hval
  obtain ⟨v0, vs0, d0, ds0, p0, q0, hargs, rfl, rfl, h0, r0⟩ := trodAll_cons hA
  obtain ⟨v1, vs1, d1, ds1, p1, q1, rfl, rfl, rfl, h1, r1⟩ := trodAll_cons r0
  obtain ⟨v2, vs2, d2, ds2, p2, q2, rfl, rfl, rfl, h2, r2⟩ := trodAll_cons r1
  obtain ⟨rfl, rfl, rfl⟩ := trodAll_nil r2
  obtain rfl : args = #[v0, v1, v2] := by cases args; simp_all
  obtain ⟨rfl, rfl⟩ := trodVars_none hV
  obtain ⟨rfl, as0, k0, e0⟩ := Go.Sx.open_kinds (ks := [.bool, .int .i16, .int .i16, .int .i16, .int .i16, .int .u16, .int .u16, .int .u8, .int .u8, .int .u8, .int .u8, .int .u8, .int .u8, .int .u8, .int .u8, .int .u8]) (by kernel_rfl) h0
  obtain ⟨a0_0, r0, rfl, k0⟩ := k0
  obtain ⟨a0_1, r0, rfl, wa0_1, k0⟩ := k0
  obtain ⟨a0_2, r0, rfl, wa0_2, k0⟩ := k0
  obtain ⟨a0_3, r0, rfl, wa0_3, k0⟩ := k0
  obtain ⟨a0_4, r0, rfl, wa0_4, k0⟩ := k0
  obtain ⟨a0_5, r0, rfl, wa0_5, k0⟩ := k0
  obtain ⟨a0_6, r0, rfl, wa0_6, k0⟩ := k0
  obtain ⟨a0_7, r0, rfl, wa0_7, k0⟩ := k0
  obtain ⟨a0_8, r0, rfl, wa0_8, k0⟩ := k0
  obtain ⟨a0_9, r0, rfl, wa0_9, k0⟩ := k0
  obtain ⟨a0_10, r0, rfl, wa0_10, k0⟩ := k0
  obtain ⟨a0_11, r0, rfl, wa0_11, k0⟩ := k0
  obtain ⟨a0_12, r0, rfl, wa0_12, k0⟩ := k0
  obtain ⟨a0_13, r0, rfl, wa0_13, k0⟩ := k0
  obtain ⟨a0_14, r0, rfl, wa0_14, k0⟩ := k0
  obtain ⟨a0_15, r0, rfl, wa0_15, k0⟩ := k0
  obtain rfl := k0
  obtain ⟨rfl, as1, k1, e1⟩ := Go.Sx.open_kinds (ks := [.int .i8]) (by kernel_rfl) h1
  obtain ⟨a1, r1, rfl, wa1, k1⟩ := k1
  obtain rfl := k1
  obtain ⟨rfl, as2, k2, e2⟩ := Go.Sx.open_kinds (ks := [.int .i64, .int .i64]) (by kernel_rfl) h2
  obtain ⟨a2_0, r2, rfl, wa2_0, k2⟩ := k2
  obtain ⟨a2_1, r2, rfl, wa2_1, k2⟩ := k2
  obtain rfl := k2
  clear hA0
  simp only [List.append_nil] at hW'
  have hrel : Go.Sx.RelL (fun _ => none) [.agg [.bool a0_0, .int .i16 a0_1, .int .i16 a0_2, .int .i16 a0_3, .int .i16 a0_4, .int .u16 a0_5, .int .u16 a0_6, .int .u8 a0_7, .int .u8 a0_8, .int .u8 a0_9, .int .u8 a0_10, .int .u8 a0_11, .int .u8 a0_12, .int .u8 a0_13, .int .u8 a0_14, .int .u8 a0_15], .int .i8 a1, .agg [.int .i64 a2_0, .int .i64 a2_1]] [v0, v1, v2] := ⟨_, _, Go.Sx.rel_agg (.inl ⟨_, Try.underlying27⟩) (hval 0 27 v0 rfl rfl) e0, ⟨_, _, Go.Sx.rel_int Try.underlying43 (hval 1 43 v1 rfl rfl) e1, ⟨_, _, Go.Sx.rel_agg (.inl ⟨_, Try.underlying29⟩) (hval 2 29 v2 rfl rfl) e2, rfl, rfl⟩, rfl⟩, rfl⟩
  refine (walk a0_0 a0_1 a0_2 a0_3 a0_4 a0_5 a0_6 a0_7 a0_8 a0_9 a0_10 a0_11 a0_12 a0_13 a0_14 a0_15 a1 a2_0 a2_1 wa0_1 wa0_2 wa0_3 wa0_4 wa0_5 wa0_6 wa0_7 wa0_8 wa0_9 wa0_10 wa0_11 wa0_12 wa0_13 wa0_14 wa0_15 wa1 wa2_0 wa2_1  hrel).mono fun e W' ⟨he, hg⟩ => ?_
  subst he
  exact ⟨_, rfl, Go.Sx.post_of_below (pa := []) (pv := []) hW' (fun _ _ _ => (trodAll_cons_mk (shut_bool Try.underlying4 _) trodAll_mk0)) (fun sp _ => (trodAll_cons_mk (Go.Sx.stays laidOut (by kernel_rfl) (Nat.le_of_ble_eq_true (by kernel_rfl)) h0) (trodAll_cons_mk (Go.Sx.stays laidOut (by kernel_rfl) (Nat.le_of_ble_eq_true (by kernel_rfl)) h1) (trodAll_cons_mk (Go.Sx.stays laidOut (by kernel_rfl) (Nat.le_of_ble_eq_true (by kernel_rfl)) h2) trodAll_mk0)))) (fun _ _ => rfl) rfl
    hg (ok_one (by kernel_rfl) rfl (okWide_bool_mk Try.underlying4 _))⟩

theorem over : Rows.shadeEndsRow.holds Try.pinned (OpenSpec.ofChange Rows.shadeEndsSpec) :=
  OpenClaim.holds_of_wide 4 Try.f4 rfl rfl rfl rfl rfl rfl rfl ⟨rfl, rfl, rfl, rfl, rfl⟩ rfl rfl rfl rfl rfl (by kernel_rfl) Try.func4 (by kernel_rfl)
    (of_decide_eq_true (by kernel_rfl)) (by unfold Func.isWrapper; first | (rw [if_pos (by decide +kernel)]; kernel_rfl) | (rw [if_neg (by decide +kernel)]; exact ⟨rfl, rfl⟩))
    (fun os started H enc _ => lifted os started H enc)

theorem proved : Rows.ShadeEndsSaid := over
#print axioms proved
end Go.Proofs.Ytgfpkhhbpnnjjaa.shadeEnds
