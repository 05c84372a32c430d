/- 'chase/chaselaw29.ShadeTells' returns true for every argument, and nothing that was there is changed. The first parts are the texts before: each function of the run as a term. Here: the numbers, and the rest. -/
import Derived.Test.YtgfpkhhbpnnjjaaShadeTellsB
namespace Go.Proofs.Ytgfpkhhbpnnjjaa.shadeTells
open Go.ChangeShapes Go.WideShapes Go.ChangeAt Go.WideMaps Go.WideElems Go.RowKit
set_option linter.unusedVariables false
section
open Go.Sx
set_option maxRecDepth 1000000

set_option maxRecDepth 100000
theorem cS {α : Type} (b : Bool) (x y : α) : (bif b then some x else some y) = some (bif b then x else y) := by cases b <;> rfl
theorem condP (b x y : Bool) : ((bif b then x else y) = true) = ((b = true ∧ x = true) ∨ (b = false ∧ y = true)) := by cases b <;> simp
theorem condF (b x y : Bool) : ((bif b then x else y) = false) = ((b = true ∧ x = false) ∨ (b = false ∧ y = false)) := by cases b <;> simp
theorem nneg_f (b : Bool) : ((!b) = false) = (b = true) := by cases b <;> simp
theorem andB_t (a b : Bool) : (andB a b = true) = (a = true ∧ b = true) := by cases a <;> simp [andB]
theorem andB_f (a b : Bool) : (andB a b = false) = (a = false ∨ b = false) := by cases a <;> simp [andB]
theorem strNil_t (s : List Nat) : (strEq s [] = true) = (s.length = 0) := by cases s <;> simp [strEq]
theorem strNil_f (s : List Nat) : (strEq s [] = false) = (s.length ≠ 0) := by cases s <;> simp [strEq]
theorem strEq_same (s : List Nat) : strEq s s = true := by simp [strEq]
theorem eqI_same (n : Int) : eqI n n = true := by rw [eqI_t]
def IsRoot (r s : Int) : Prop := 0 ≤ r ∧ r * r ≤ s ∧ s < (r + 1) * (r + 1)
theorem sq_le {a b : Int} (h0 : 0 ≤ a) (h : a ≤ b) : a * a ≤ b * b := Int.mul_le_mul h h h0 (by omega)
theorem root_uniq {r t s : Int} (h : IsRoot r s) (g : IsRoot t s) : r = t := by
  obtain ⟨h1, h2, h3⟩ := h
  obtain ⟨g1, g2, g3⟩ := g
  rcases Int.lt_trichotomy r t with q | q | q
  · have := sq_le (a := r + 1) (b := t) (by omega) (by omega); omega
  · exact q
  · have := sq_le (a := t + 1) (b := r) (by omega) (by omega); omega
theorem wu64 {n : Int} (h1 : 0 ≤ n) (h2 : n ≤ 18446744073709551615) : wrapA .u64 n = n := wrap_in (by simpa [IntKind.min, IntKind.signed] using h1) (by simpa [IntKind.max, IntKind.signed, IntKind.bits] using h2)
theorem half_ok {a b : Int} (h1 : 0 ≤ a) (h2 : a ≤ 1000000) (h3 : 0 ≤ b) (h4 : b ≤ 1000000) : wrapA .i64 (Int.fdiv (wrapA .u64 (wrapA .i64 (Int.add a b))) 2) = (a + b) / 2 := by
  simp only [add_int]
  rw [wrap64 (n := a + b) (by omega) (by omega), wu64 (by omega) (by omega), fdiv_pos _ (by decide), wrap64 (by omega) (by omega)]
theorem bs_ok (px py qx qy s : Int) (k n : Nat) : ∀ (v0 v1 : Int), 0 ≤ v0 → v0 ≤ v1 → v1 ≤ 65536 → v1 - v0 < 2 ^ k → v0 * v0 ≤ s → s < (v1 + 1) * (v1 + 1) → ∃ r, L41_0 px py qx qy (n + k + 1) v0 v1 s = some r ∧ IsRoot r s ∧ r ≤ 65536 := by
  induction k with
  | zero =>
    intro v0 v1 h0 h1 h2 h3 h4 h5
    have e : v0 = v1 := by have : (2 : Int) ^ 0 = 1 := rfl; omega
    subst e
    have l : ltI v0 v0 = false := by rw [ltI_f]; omega
    exact ⟨v0, by rw [L41_0_succ, l]; rfl, ⟨h0, h4, h5⟩, h2⟩
  | succ k ih =>
    intro v0 v1 h0 h1 h2 h3 h4 h5
    by_cases q : v0 < v1
    · have l : ltI v0 v1 = true := by rw [ltI_t]; exact q
      have hh := half_ok (a := v0) (b := v1) h0 (by omega) (by omega) (by omega)
      obtain ⟨h, hd⟩ : ∃ h, (v0 + v1) / 2 = h := ⟨_, rfl⟩
      rw [hd] at hh
      have hb : v0 ≤ h ∧ h < v1 := by omega
      have p2 : (2 : Int) ^ (k + 1) = 2 * 2 ^ k := by rw [Int.pow_succ]; omega
      have w1 : wrapA .i64 (Int.add h 1) = h + 1 := by simp only [add_int]; exact wrap64 (by omega) (by omega)
      have sq := sq_le (a := h + 1) (b := 65536) (by omega) (by omega)
      have nn : 0 ≤ (h + 1) * (h + 1) := Int.mul_nonneg (by omega) (by omega)
      have w2 : wrapA .i64 (Int.mul (h + 1) (h + 1)) = (h + 1) * (h + 1) := by simp only [mul_int]; exact wrap64 (by omega) (by omega)
      rw [show n + (k + 1) + 1 = (n + k + 1) + 1 by omega, L41_0_succ, l, cond_true]
      unfold c41_8 t41_9
      rw [hh, w1, w2]
      by_cases g : (h + 1) * (h + 1) ≤ s
      · rw [(ltI_f _ _).mpr g]
        exact ih (h + 1) v1 (by omega) (by omega) h2 (by omega) g h5
      · rw [(ltI_t _ _).mpr (by omega)]
        exact ih v0 h h0 (by omega) (by omega) (by omega) h4 (by omega)
    · have e : v0 = v1 := by omega
      subst e
      have l : ltI v0 v0 = false := by rw [ltI_f]; omega
      exact ⟨v0, by rw [L41_0_succ, l]; rfl, ⟨h0, h4, h5⟩, h2⟩
theorem rt_ok (x : Int) (j n : Nat) : ∀ (v0 : Int), 0 ≤ v0 → v0 + 2 ^ j ≤ 1073741824 → v0 * v0 ≤ x → x < (v0 + 2 ^ j) * (v0 + 2 ^ j) → ∃ r, L76_0 x (n + j + 1) v0 (2 ^ j) = some r ∧ IsRoot r x := by
  induction j with
  | zero =>
    intro v0 h0 h1 h2 h3
    have e : (2 : Int) ^ 0 = 1 := rfl
    rw [e] at h3 ⊢
    have d : ltI 0 (wrapA .i64 (Int.tdiv 1 2)) = false := rfl
    exact ⟨v0, by rw [L76_0_succ, d]; rfl, ⟨h0, h2, h3⟩⟩
  | succ j ih =>
    intro v0 h0 h1 h2 h3
    have p2 : (2 : Int) ^ (j + 1) = 2 * 2 ^ j := by rw [Int.pow_succ]; omega
    have pp : (0 : Int) < 2 ^ j := Int.pow_pos (by decide)
    obtain ⟨b, hb⟩ : ∃ b, (2 : Int) ^ j = b := ⟨_, rfl⟩
    rw [p2] at h1 h3 ⊢
    rw [hb] at h1 h3 pp ⊢
    rw [hb] at ih
    have d : wrapA .i64 (Int.tdiv (2 * b) 2) = b := by
      rw [tdiv_pos (by omega), show 2 * b / 2 = b by omega]; exact wrap64 (by omega) (by omega)
    have l : ltI 0 b = true := by rw [ltI_t]; exact pp
    have w1 : wrapA .i64 (Int.add v0 b) = v0 + b := by simp only [add_int]; exact wrap64 (by omega) (by omega)
    have sq := sq_le (a := v0 + b) (b := 1073741824) (by omega) (by omega)
    have nn : 0 ≤ (v0 + b) * (v0 + b) := Int.mul_nonneg (by omega) (by omega)
    have w2 : wrapA .i64 (Int.mul (v0 + b) (v0 + b)) = (v0 + b) * (v0 + b) := by simp only [mul_int]; exact wrap64 (by omega) (by omega)
    rw [show n + (j + 1) + 1 = (n + j + 1) + 1 by omega, L76_0_succ]
    unfold c76_2
    rw [d, l, w1, w2, cond_true]
    by_cases g : (v0 + b) * (v0 + b) ≤ x
    · rw [(ltI_f _ _).mpr g]
      exact ih (v0 + b) (by omega) (by omega) g (by rw [show v0 + b + b = v0 + 2 * b by omega]; exact h3)
    · rw [(ltI_t _ _).mpr (by omega)]
      exact ih v0 h0 (by omega) h2 (by omega)
theorem diff_sq {a b : Int} (h1 : -16384 ≤ a ∧ a ≤ 16384) (h2 : -16384 ≤ b ∧ b ≤ 16384) : wrapA .i64 (Int.mul (wrapA .i64 (Int.sub a b)) (wrapA .i64 (Int.sub a b))) = (a - b) * (a - b) ∧ 0 ≤ (a - b) * (a - b) ∧ (a - b) * (a - b) ≤ 1073741824 := by
  have m := mul_bd (x := a - b) (y := a - b) (a := 32768) (b := 32768) (by omega) (by omega) (by omega) (by omega)
  have nn : 0 ≤ (a - b) * (a - b) := by
    rcases Int.le_total 0 (a - b) with q | q
    · exact Int.mul_nonneg q q
    · have := Int.mul_nonneg (show 0 ≤ -(a - b) by omega) (show 0 ≤ -(a - b) by omega)
      rw [Int.neg_mul_neg] at this; exact this
  simp only [sub_int, mul_int]
  rw [wrap64 (n := a - b) (by omega) (by omega)]
  exact ⟨wrap64 (by omega) (by omega), nn, by omega⟩
theorem pt_t (x y : Int) : (F37_0 x y = true) = ((-16384 ≤ x ∧ x ≤ 16384) ∧ (-16384 ≤ y ∧ y ≤ 16384)) := by
  unfold F37_0 F37
  simp only [cS, Option.getD_some, condP, condF, nneg_n, nneg_f, ltI_t, ltI_f, Bool.false_eq_true, and_false, or_false]
  simp only [eq_iff_iff]; omega
theorem long_ok {px py qx qy : Int} (h1 : F37_0 px py = true) (h2 : F37_0 qx qy = true) (n : Nat) : ∃ r, F41 (n + 40) px py qx qy = some r ∧ F42 (n + 40) px py qx qy = some r ∧ IsRoot r ((qx - px) * (qx - px) + (qy - py) * (qy - py)) ∧ r ≤ 65536 := by
  rw [pt_t] at h1 h2
  obtain ⟨a1, a2, a3⟩ := diff_sq h2.1 h1.1
  obtain ⟨b1, b2, b3⟩ := diff_sq h2.2 h1.2
  obtain ⟨s, hs⟩ : ∃ s, (qx - px) * (qx - px) + (qy - py) * (qy - py) = s := ⟨_, rfl⟩
  have w : wrapA .i64 (Int.add ((qx - px) * (qx - px)) ((qy - py) * (qy - py))) = s := by simp only [add_int]; rw [hs]; exact wrap64 (by omega) (by omega)
  obtain ⟨r, e1, e2, e3⟩ := bs_ok px py qx qy s 17 (n + 22) 0 65536 (by decide) (by decide) (by decide) (by decide) (by omega) (by omega)
  obtain ⟨t, f1, f2⟩ := rt_ok s 30 (n + 9) 0 (by decide) (by decide) (by omega) (by
    have : (2 : Int) ^ 30 = 1073741824 := by decide
    rw [this]; omega)
  have : r = t := root_uniq e2 f2
  subst this
  have l : ltI s 1152921504606846976 = true := by rw [ltI_t]; omega
  rw [hs]
  refine ⟨r, ?_, ?_, e2, e3⟩
  · unfold F41 t41_7; rw [a1, b1, w, show n + 40 = n + 22 + 17 + 1 by omega]; exact e1
  · have f1 : L76_0 s (n + 40) 0 1073741824 = some r := by
      rw [show n + 40 = n + 9 + 30 + 1 by omega]; exact f1
    have e : F76 (n + 40) s = some r := by unfold F76; rw [l]; exact f1
    unfold F42 F76_0 t42_0; rw [a1, b1, w, e]; rfl
theorem ink_t (ca cb cc cd : Int) : (F69_0 ca cb cc cd = true) = ((0 ≤ ca ∧ ca ≤ 255) ∧ (0 ≤ cb ∧ cb ≤ 255) ∧ (0 ≤ cc ∧ cc ≤ 255) ∧ (0 ≤ cd ∧ cd ≤ 255)) := by
  unfold F69_0 F69
  simp only [cS, Option.getD_some, condP, condF, nneg_n, nneg_f, ltI_t, ltI_f, Bool.false_eq_true, Bool.true_eq_false, and_false, or_false, false_or, and_true]
  simp only [eq_iff_iff]; omega
theorem clamp (c : Int) : eqI (t32_0 c) c = (bif ltI c 0 then false else !ltI 255 c) := by
  rw [Bool.eq_iff_iff]
  simp only [condP, condF, nneg_n, nneg_f, ltI_t, ltI_f, eqI_t, Bool.false_eq_true, and_false, false_or]
  unfold t32_0
  split <;> split <;> (try split) <;> omega
theorem F32v (ca cb cc cd : Int) : F32 ca cb cc cd = some (bif F69_0 ca cb cc cd then 0 else 360) := by
  have e1 : eqI (t32_1 cb) cb = (bif ltI cb 0 then false else !ltI 255 cb) := clamp cb
  have e2 : eqI (t32_2 cc) cc = (bif ltI cc 0 then false else !ltI 255 cc) := clamp cc
  have e3 : eqI (t32_3 cd) cd = (bif ltI cd 0 then false else !ltI 255 cd) := clamp cd
  unfold F32 c32_4 F69_0 F69
  rw [clamp, e1, e2, e3]
  cases ltI ca 0 <;> cases ltI 255 ca <;> (try rfl) <;> cases ltI cb 0 <;> cases ltI 255 cb <;> (try rfl) <;> cases ltI cc 0 <;> cases ltI 255 cc <;> (try rfl) <;> cases ltI cd 0 <;> cases ltI 255 cd <;> rfl
theorem pt33 (x y : Int) : F33_0 x y = F37_0 x y := rfl
theorem F10v (kd fx fy tx ty ra rb ca cb cc cd da db dc dd : Int) (ea eb : Bool) : F10 kd fx fy tx ty ra rb ca cb cc cd da db dc dd ea eb = some (bif F34_0 kd fx fy tx ty ra rb ca cb cc cd da db dc dd ea eb then 0 else 390) := by
  unfold F10 F34_0 F34 F32_0
  simp only [F32v, Option.getD_some, pt33]
  cases F69_0 ca cb cc cd <;> (try rfl) <;> cases F69_0 da db dc dd <;> (try rfl) <;> cases F37_0 fx fy <;> (try rfl) <;> cases F37_0 tx ty <;> (try rfl) <;> cases eqI kd 1 <;> cases eqI kd 2 <;> cases eqI fx tx <;> cases eqI fy ty <;> cases eqI tx 0 <;> cases eqI ty 0 <;> (try rfl) <;> cases eqI ra 0 <;> cases eqI rb 0 <;> cases ltI ra 0 <;> cases ltI ra rb <;> cases ltI 65536 rb <;> rfl
theorem F11v (kd fx fy tx ty ra rb ca cb cc cd da db dc dd : Int) (ea eb : Bool) : F11 kd fx fy tx ty ra rb ca cb cc cd da db dc dd ea eb = some (bif F34_0 kd fx fy tx ty ra rb ca cb cc cd da db dc dd ea eb then 0 else 390) := by
  unfold F11 c11_0; cases F34_0 kd fx fy tx ty ra rb ca cb cc cd da db dc dd ea eb <;> rfl
noncomputable def mx (c d x y : Int) : Int := (2 * ((y - x) * c + x * d) + y) / (2 * y)
theorem mx_w {c d x y : Int} (hc : 0 ≤ c ∧ c ≤ 255) (hd : 0 ≤ d ∧ d ≤ 255) (hx : 0 ≤ x) (hxy : x ≤ y) (hy : 1 ≤ y) (hy2 : y ≤ 2147483648) :
    wrapA .i64 (Int.add (wrapA .i64 (Int.mul (wrapA .i64 (Int.sub y x)) c)) (wrapA .i64 (Int.mul x d))) = (y - x) * c + x * d ∧ 0 ≤ (y - x) * c + x * d ∧ (y - x) * c + x * d ≤ 1095216660480 ∧ wrapA .i64 (Int.tdiv (wrapA .i64 (Int.add (wrapA .i64 (Int.mul 2 ((y - x) * c + x * d))) y)) (wrapA .i64 (Int.mul 2 y))) = mx c d x y := by
  obtain ⟨m1, m2⟩ := mul_bd (x := y - x) (y := c) (a := 2147483648) (b := 255) (by omega) (by omega) (by omega) (by omega)
  obtain ⟨m3, m4⟩ := mul_bd (x := x) (y := d) (a := 2147483648) (b := 255) (by omega) (by omega) (by omega) (by omega)
  have p1 : 0 ≤ (y - x) * c := Int.mul_nonneg (by omega) hc.1
  have p2 : 0 ≤ x * d := Int.mul_nonneg hx hd.1
  have w0 : wrapA .i64 (Int.sub y x) = y - x := by simp only [sub_int]; exact wrap64 (by omega) (by omega)
  have w1 : wrapA .i64 (Int.mul (y - x) c) = (y - x) * c := by simp only [mul_int]; exact wrap64 (by omega) (by omega)
  have w2 : wrapA .i64 (Int.mul x d) = x * d := by simp only [mul_int]; exact wrap64 (by omega) (by omega)
  have w3 : wrapA .i64 (Int.add ((y - x) * c) (x * d)) = (y - x) * c + x * d := by simp only [add_int]; exact wrap64 (by omega) (by omega)
  have b : (y - x) * c + x * d ≤ 1095216660480 := by omega
  have b0 : 0 ≤ (y - x) * c + x * d := by omega
  refine ⟨by rw [w0, w1, w2, w3], by omega, b, ?_⟩
  unfold mx
  generalize (y - x) * c + x * d = s at *
  have w4 : wrapA .i64 (Int.mul 2 s) = 2 * s := by simp only [mul_int]; exact wrap64 (by omega) (by omega)
  have w5 : wrapA .i64 (Int.add (2 * s) y) = 2 * s + y := by simp only [add_int]; exact wrap64 (by omega) (by omega)
  have w6 : wrapA .i64 (Int.mul 2 y) = 2 * y := by simp only [mul_int]; exact wrap64 (by omega) (by omega)
  rw [w4, w5, w6, tdiv_pos (by omega)]
  have h0 : 0 ≤ (2 * s + y) / (2 * y) := Int.ediv_nonneg (by omega) (by omega)
  have h1 : (2 * s + y) / (2 * y) ≤ 2 * s + y := Int.ediv_le_self _ (by omega)
  exact wrap64 (by omega) (by omega)
theorem mix_ok {ca cb cc cd da db dc dd x y : Int} (h1 : F69_0 ca cb cc cd = true) (h2 : F69_0 da db dc dd = true) (hx : 0 ≤ x) (hxy : x ≤ y) (hy : 1 ≤ y) (hy2 : y ≤ 2147483648) : F16 ca cb cc cd da db dc dd x y = some (mx ca da x y, mx cb db x y, mx cc dc x y, mx cd dd x y, 0) := by
  have g1 := h1; have g2 := h2
  rw [ink_t] at g1 g2
  obtain ⟨a1, _, _, a2⟩ := mx_w g1.1 g2.1 hx hxy hy hy2
  obtain ⟨b1, _, _, b2⟩ := mx_w g1.2.1 g2.2.1 hx hxy hy hy2
  obtain ⟨c1, _, _, c2⟩ := mx_w g1.2.2.1 g2.2.2.1 hx hxy hy hy2
  obtain ⟨d1, _, _, d2⟩ := mx_w g1.2.2.2 g2.2.2.2 hx hxy hy hy2
  have l1 : ltI y 1 = false := by rw [ltI_f]; omega
  have l2 : ltI 2147483648 y = false := by rw [ltI_f]; omega
  have l3 : ltI x 0 = false := by rw [ltI_f]; omega
  have l4 : ltI y x = false := by rw [ltI_f]; omega
  have l5 : eqI (wrapA .i64 (Int.mul 2 y)) 0 = false := by rw [eqI_f]; simp only [mul_int]; rw [wrap64 (by omega) (by omega)]; omega
  have z : eqI 0 0 = true := rfl
  have k1 : t16_0 ca da x y = mx ca da x y := by unfold t16_0; rw [a1]; exact a2
  have k2 : t16_1 cb db x y = mx cb db x y := by unfold t16_1; rw [b1]; exact b2
  have k3 : t16_2 cc dc x y = mx cc dc x y := by unfold t16_2; rw [c1]; exact c2
  have k4 : t16_3 cd dd x y = mx cd dd x y := by unfold t16_3; rw [d1]; exact d2
  unfold F16 F32_0; simp only [F32v, h1, h2, z, l1, l2, l3, l4, l5, k1, k2, k3, k4, Option.getD_some, Bool.not_true, Bool.not_false, cond_true, cond_false]
theorem round_ok {n d : Int} (hn : 0 ≤ n) (hn2 : n ≤ 1095216660480) (hd : 1 ≤ d) (hd2 : d ≤ 2147483648) : F99 n d = some ((2 * n + d) / (2 * d)) := by
  have w1 : wrapA .i64 (Int.mul 2 n) = 2 * n := by simp only [mul_int]; exact wrap64 (by omega) (by omega)
  have w2 : wrapA .i64 (Int.add (2 * n) d) = 2 * n + d := by simp only [add_int]; exact wrap64 (by omega) (by omega)
  have w3 : wrapA .i64 (Int.mul 2 d) = 2 * d := by simp only [mul_int]; exact wrap64 (by omega) (by omega)
  have l1 : eqI (2 * d) 0 = false := by rw [eqI_f]; omega
  have h0 : 0 ≤ (2 * n + d) / (2 * d) := Int.ediv_nonneg (by omega) (by omega)
  have h1 : (2 * n + d) / (2 * d) ≤ 2 * n + d := Int.ediv_le_self _ (by omega)
  have w4 : wrapA .i64 ((2 * n + d) / (2 * d)) = (2 * n + d) / (2 * d) := wrap64 (by omega) (by omega)
  have l2 : ltI (Int.tmod (2 * n + d) (2 * d)) 0 = false := by
    rw [ltI_f, tmod_pos (by omega)]; exact Int.emod_nonneg _ (by omega)
  have e : F120 (2 * n + d) (2 * d) = some ((2 * n + d) / (2 * d)) := by
    unfold F120; rw [l1, l2, tdiv_pos (by omega), w4]; rfl
  unfold F99 t99_0 F120_0; rw [w1, w2, w3, e]; rfl
theorem mix_ref {ca cb cc cd da db dc dd x y : Int} (h1 : F69_0 ca cb cc cd = true) (h2 : F69_0 da db dc dd = true) (hx : 0 ≤ x) (hxy : x ≤ y) (hy : 1 ≤ y) (hy2 : y ≤ 2147483648) : F73 ca cb cc cd da db dc dd x y = some (mx ca da x y, mx cb db x y, mx cc dc x y, mx cd dd x y, 0) := by
  have g1 := h1; have g2 := h2
  rw [ink_t] at g1 g2
  obtain ⟨a1, a2, a3, _⟩ := mx_w g1.1 g2.1 hx hxy hy hy2
  obtain ⟨b1, b2, b3, _⟩ := mx_w g1.2.1 g2.2.1 hx hxy hy hy2
  obtain ⟨c1, c2, c3, _⟩ := mx_w g1.2.2.1 g2.2.2.1 hx hxy hy hy2
  obtain ⟨d1, d2, d3, _⟩ := mx_w g1.2.2.2 g2.2.2.2 hx hxy hy hy2
  have l1 : ltI y 1 = false := by rw [ltI_f]; omega
  have l2 : ltI 2147483648 y = false := by rw [ltI_f]; omega
  have l3 : ltI x 0 = false := by rw [ltI_f]; omega
  have l4 : ltI y x = false := by rw [ltI_f]; omega
  have k1 : F99 (t73_0 ca da x y) y = some (mx ca da x y) := by unfold t73_0; rw [a1]; exact round_ok a2 a3 hy hy2
  have k2 : F99 (t73_1 cb db x y) y = some (mx cb db x y) := by unfold t73_1; rw [b1]; exact round_ok b2 b3 hy hy2
  have k3 : F99 (t73_2 cc dc x y) y = some (mx cc dc x y) := by unfold t73_2; rw [c1]; exact round_ok c2 c3 hy hy2
  have k4 : F99 (t73_3 cd dd x y) y = some (mx cd dd x y) := by unfold t73_3; rw [d1]; exact round_ok d2 d3 hy hy2
  unfold F73 F99_0; simp only [h1, h2, l1, l2, l3, l4, k1, k2, k3, k4, Option.getD_some, Option.isSome_some, Bool.not_true, Bool.not_false, cond_true, cond_false]
abbrev T6 := Int × Int × Int × Int × Bool × Int
noncomputable def res (ca cb cc cd da db dc dd : Int) (ea eb : Bool) (N M : Int) : T6 := bif ltI N 0 then (bif ea then (ca, cb, cc, cd, true, 0) else (0, 0, 0, 0, false, 0)) else (bif ltI M N then (bif eb then (da, db, dc, dd, true, 0) else (0, 0, 0, 0, false, 0)) else (mx ca da N M, mx cb db N M, mx cc dc N M, mx cd dd N M, true, 0))
theorem ink_ok {kd fx fy tx ty ra rb ca cb cc cd da db dc dd : Int} {ea eb : Bool} {N M : Int} (h1 : F69_0 ca cb cc cd = true) (h2 : F69_0 da db dc dd = true) (hM : 1 ≤ M) (hM2 : M ≤ 2147483648) : F36 kd fx fy tx ty ra rb ca cb cc cd da db dc dd ea eb N M = some ((res ca cb cc cd da db dc dd ea eb N M).1, (res ca cb cc cd da db dc dd ea eb N M).2.1, (res ca cb cc cd da db dc dd ea eb N M).2.2.1, (res ca cb cc cd da db dc dd ea eb N M).2.2.2.1, (res ca cb cc cd da db dc dd ea eb N M).2.2.2.2.1) ∧ (res ca cb cc cd da db dc dd ea eb N M).2.2.2.2.2 = 0 := by
  unfold F36 res c36_0
  cases e1 : ltI N 0 with
  | true =>
    rw [ltI_t] at e1
    have e2 : ltI M N = false := by rw [ltI_f]; omega
    cases ea <;> simp only [e2, cond_true, cond_false, and_self]
  | false =>
    cases e2 : ltI M N with
    | true => cases eb <;> simp only [cond_true, cond_false, and_self]
    | false =>
      rw [ltI_f] at e1 e2
      have m := mix_ok (x := N) (y := M) h1 h2 e1 e2 hM hM2
      have z : eqI 0 0 = true := rfl
      simp only [F16_0, F16_1, F16_2, F16_3, F16_4, m, z, Option.getD_some, Option.isSome_some, cond_true, cond_false, and_self]
theorem ok_S {kd fx fy tx ty ra rb ca cb cc cd da db dc dd : Int} {ea eb : Bool} (h : F34_0 kd fx fy tx ty ra rb ca cb cc cd da db dc dd ea eb = true) : F69_0 ca cb cc cd = true ∧ F69_0 da db dc dd = true ∧ F37_0 fx fy = true ∧ F37_0 tx ty = true ∧ ((kd = 1 ∧ ¬ (fx = tx ∧ fy = ty) ∧ ra = 0 ∧ rb = 0) ∨ (kd = 2 ∧ tx = 0 ∧ ty = 0 ∧ 0 ≤ ra ∧ ra < rb ∧ rb ≤ 65536)) := by
  unfold F34_0 F34 at h
  simp only [cS, Option.getD_some, condP, condF, nneg_n, nneg_f, andB_t, andB_f, ltI_t, ltI_f, eqI_t, eqI_f, Bool.false_eq_true, Bool.true_eq_false, and_false, or_false, false_or, and_true] at h
  obtain ⟨h1, h2, h3, h4, h5⟩ := h
  refine ⟨h1, h2, h3, h4, ?_⟩
  omega
noncomputable def nA (fx fy tx ty qx qy : Int) : Int := (qx - fx) * (tx - fx) + (qy - fy) * (ty - fy)
noncomputable def mA (fx fy tx ty : Int) : Int := (tx - fx) * (tx - fx) + (ty - fy) * (ty - fy)
theorem ax_w {fx fy tx ty qx qy : Int} (h1 : F37_0 fx fy = true) (h2 : F37_0 tx ty = true) (h3 : F37_0 qx qy = true) (hne : ¬ (fx = tx ∧ fy = ty)) :
    wrapA .i64 (Int.add (wrapA .i64 (Int.mul (wrapA .i64 (Int.sub qx fx)) (wrapA .i64 (Int.sub tx fx)))) (wrapA .i64 (Int.mul (wrapA .i64 (Int.sub qy fy)) (wrapA .i64 (Int.sub ty fy))))) = nA fx fy tx ty qx qy ∧ wrapA .i64 (Int.add (wrapA .i64 (Int.mul (wrapA .i64 (Int.sub tx fx)) (wrapA .i64 (Int.sub tx fx)))) (wrapA .i64 (Int.mul (wrapA .i64 (Int.sub ty fy)) (wrapA .i64 (Int.sub ty fy))))) = mA fx fy tx ty ∧ 1 ≤ mA fx fy tx ty ∧ mA fx fy tx ty ≤ 2147483648 := by
  rw [pt_t] at h1 h2 h3
  have s : ∀ a b : Int, -16384 ≤ a → a ≤ 16384 → -16384 ≤ b → b ≤ 16384 → wrapA .i64 (Int.sub a b) = a - b := fun a b _ _ _ _ => by simp only [sub_int]; exact wrap64 (by omega) (by omega)
  rw [s qx fx (by omega) (by omega) (by omega) (by omega), s tx fx (by omega) (by omega) (by omega) (by omega), s qy fy (by omega) (by omega) (by omega) (by omega), s ty fy (by omega) (by omega) (by omega) (by omega)]
  obtain ⟨a1, a2⟩ := mul_bd (x := qx - fx) (y := tx - fx) (a := 32768) (b := 32768) (by omega) (by omega) (by omega) (by omega)
  obtain ⟨b1, b2⟩ := mul_bd (x := qy - fy) (y := ty - fy) (a := 32768) (b := 32768) (by omega) (by omega) (by omega) (by omega)
  obtain ⟨c1, c2⟩ := mul_bd (x := tx - fx) (y := tx - fx) (a := 32768) (b := 32768) (by omega) (by omega) (by omega) (by omega)
  obtain ⟨d1, d2⟩ := mul_bd (x := ty - fy) (y := ty - fy) (a := 32768) (b := 32768) (by omega) (by omega) (by omega) (by omega)
  have pos : ∀ u : Int, u ≠ 0 → 1 ≤ u * u := by
    intro u hu
    rcases Int.lt_or_gt_of_ne hu with q | q
    · have := Int.mul_le_mul (show 1 ≤ -u by omega) (show 1 ≤ -u by omega) (by decide) (by omega)
      rw [Int.neg_mul_neg] at this; omega
    · have := Int.mul_le_mul (show 1 ≤ u by omega) (show 1 ≤ u by omega) (by decide) (by omega)
      omega
  have nn : ∀ u : Int, 0 ≤ u * u := by
    intro u
    by_cases q : u = 0
    · subst q; decide
    · have := pos u q; omega
  have m1 : 1 ≤ (tx - fx) * (tx - fx) + (ty - fy) * (ty - fy) := by
    have n1 := nn (tx - fx); have n2 := nn (ty - fy)
    by_cases q : tx - fx = 0
    · have := pos (ty - fy) (by omega); omega
    · have := pos (tx - fx) q; omega
  unfold nA mA
  simp only [mul_int, add_int]
  generalize (qx - fx) * (tx - fx) = u at *
  generalize (qy - fy) * (ty - fy) = v at *
  generalize (tx - fx) * (tx - fx) = p at *
  generalize (ty - fy) * (ty - fy) = q at *
  rw [wrap64 (n := u) (by omega) (by omega), wrap64 (n := v) (by omega) (by omega), wrap64 (n := p) (by omega) (by omega), wrap64 (n := q) (by omega) (by omega), wrap64 (n := u + v) (by omega) (by omega), wrap64 (n := p + q) (by omega) (by omega)]
  exact ⟨rfl, rfl, m1, by omega⟩
theorem len_ok {px py qx qy : Int} (h1 : F37_0 px py = true) (h2 : F37_0 qx qy = true) (n : Nat) : ∃ r, F17 (n + 40) px py qx qy = some (r, 0) ∧ F42 (n + 40) px py qx qy = some r ∧ IsRoot r ((qx - px) * (qx - px) + (qy - py) * (qy - py)) ∧ r ≤ 65536 := by
  obtain ⟨r, e1, e2, e3, e4⟩ := long_ok h1 h2 n
  refine ⟨r, ?_, e2, e3, e4⟩
  rw [pt_t] at h1 h2
  have l1 : ltI px (-16384) = false := by rw [ltI_f]; omega
  have l2 : ltI 16384 px = false := by rw [ltI_f]; omega
  have l3 : ltI py (-16384) = false := by rw [ltI_f]; omega
  have l4 : ltI 16384 py = false := by rw [ltI_f]; omega
  have l5 : ltI qx (-16384) = false := by rw [ltI_f]; omega
  have l6 : ltI 16384 qx = false := by rw [ltI_f]; omega
  have l7 : ltI qy (-16384) = false := by rw [ltI_f]; omega
  have l8 : ltI 16384 qy = false := by rw [ltI_f]; omega
  unfold F17 F41_0; rw [l1, l2, l3, l4, l5, l6, l7, l8, e1]; rfl
theorem at_ax (n : Nat) {kd fx fy tx ty ra rb ca cb cc cd da db dc dd qx qy : Int} {ea eb : Bool} (h : F34_0 kd fx fy tx ty ra rb ca cb cc cd da db dc dd ea eb = true) (hk : kd = 1) (hq : F37_0 qx qy = true) : F12x (n + 40) kd fx fy tx ty ra rb ca cb cc cd da db dc dd ea eb qx qy = some (res ca cb cc cd da db dc dd ea eb (nA fx fy tx ty qx qy) (mA fx fy tx ty)) ∧ F13 (n + 40) kd fx fy tx ty ra rb ca cb cc cd da db dc dd ea eb qx qy = some (res ca cb cc cd da db dc dd ea eb (nA fx fy tx ty qx qy) (mA fx fy tx ty)) := by
  obtain ⟨i1, i2, p1, p2, hc⟩ := ok_S h
  have hne : ¬ (fx = tx ∧ fy = ty) := by omega
  obtain ⟨w1, w2, m1, m2⟩ := ax_w p1 p2 hq hne
  subst hk
  have z : eqI 0 0 = true := rfl
  have z1 : eqI 1 1 = true := rfl
  have z2 : eqI 1 2 = false := rfl
  obtain ⟨k1, k2⟩ := ink_ok (kd := 1) (fx := fx) (fy := fy) (tx := tx) (ty := ty) (ra := ra) (rb := rb) (ea := ea) (eb := eb) (N := nA fx fy tx ty qx qy) i1 i2 m1 m2
  have a0 : t70_0 fx fy tx ty qx qy = nA fx fy tx ty qx qy := w1
  have a1 : t70_1 fx fy tx ty = mA fx fy tx ty := w2
  constructor
  · unfold F12x; simp only [t12x_0, c12x_1, t12x_2, t12x_3, t12x_4, t12x_5, t12x_6, t12x_7, t12x_8, t12x_9, t12x_10, t12x_11, t12x_12, t12x_13, t12x_14, t12x_15, t12x_16, t12x_17, c12x_18, c12x_19, t12x_20, t12x_21, t12x_22, t12x_23, t12x_24, t12x_25, c12x_26, t12x_27, t12x_28, t12x_29, t12x_30, t12x_31, t12x_32, t12x_33, t12x_34, t12x_35, t12x_36, t12x_37, t12x_38, t12x_39, t12x_40, t12x_41, c12x_42, c12x_43, t12x_44, t12x_45, t12x_46, t12x_47, t12x_48, t12x_49, c12x_50, F10_0, F10v, h, pt33, hq, z, z1, F70_0, F70_1, F70_2, F70_3, F70_4, F70_5, F70_6, F70_7, F70_8, F70_9, F70_10, F70_11, F70_12, F70_13, F70_14, F70_15, F70_16, F70_17, F70_18, F70, a0, a1, k1, F36_0, F36_1, F36_2, F36_3, F36_4, Option.getD_some, Option.isSome_some, Bool.not_true, cond_true, cond_false]
    rw [← k2]
  · have f72 : F72 (n + 40) 1 fx fy tx ty ra rb ca cb cc cd da db dc dd ea eb qx qy = some (nA fx fy tx ty qx qy, mA fx fy tx ty) := by
      unfold F72; rw [z2]; unfold t72_0 t72_1; rw [w1, w2]; rfl
    have f38 : F38 (n + 40) 1 fx fy tx ty ra rb ca cb cc cd da db dc dd ea eb qx qy = some ((res ca cb cc cd da db dc dd ea eb (nA fx fy tx ty qx qy) (mA fx fy tx ty)).1, (res ca cb cc cd da db dc dd ea eb (nA fx fy tx ty qx qy) (mA fx fy tx ty)).2.1, (res ca cb cc cd da db dc dd ea eb (nA fx fy tx ty qx qy) (mA fx fy tx ty)).2.2.1, (res ca cb cc cd da db dc dd ea eb (nA fx fy tx ty qx qy) (mA fx fy tx ty)).2.2.2.1, (res ca cb cc cd da db dc dd ea eb (nA fx fy tx ty qx qy) (mA fx fy tx ty)).2.2.2.2.1) := by
      unfold F38 res
      simp only [t38_0, t38_1, c38_2, t38_3, t38_4, c38_5, t38_6, t38_7, t38_8, t38_9, t38_10, t38_11, F72_0, F72_1, f72, Option.getD_some, Option.isSome_some, cond_true]
      cases e1 : ltI (nA fx fy tx ty qx qy) 0 with
      | true => cases ea <;> rfl
      | false =>
        cases e2 : ltI (mA fx fy tx ty) (nA fx fy tx ty qx qy) with
        | true => cases eb <;> rfl
        | false =>
          rw [ltI_f] at e1 e2
          have m := mix_ref (x := nA fx fy tx ty qx qy) (y := mA fx fy tx ty) i1 i2 e1 e2 m1 m2
          simp only [F73_0, F73_1, F73_2, F73_3, m, Option.getD_some, Option.isSome_some, cond_true, cond_false]
    unfold F13; simp only [c13_0, t13_1, t13_2, t13_3, t13_4, c13_5, h, hq, f38, F38_0, F38_1, F38_2, F38_3, F38_4, Option.getD_some, Option.isSome_some, Bool.not_true, cond_true, cond_false]
    rw [← k2]
theorem at_rad (n : Nat) {kd fx fy tx ty ra rb ca cb cc cd da db dc dd qx qy : Int} {ea eb : Bool} (h : F34_0 kd fx fy tx ty ra rb ca cb cc cd da db dc dd ea eb = true) (hk : kd = 2) (hq : F37_0 qx qy = true) : ∃ r, IsRoot r ((qx - fx) * (qx - fx) + (qy - fy) * (qy - fy)) ∧ F12x (n + 40) kd fx fy tx ty ra rb ca cb cc cd da db dc dd ea eb qx qy = some (res ca cb cc cd da db dc dd ea eb (r - ra) (rb - ra)) ∧ F13 (n + 40) kd fx fy tx ty ra rb ca cb cc cd da db dc dd ea eb qx qy = some (res ca cb cc cd da db dc dd ea eb (r - ra) (rb - ra)) := by
  obtain ⟨i1, i2, p1, p2, hc⟩ := ok_S h
  obtain ⟨r, e1, e2, e3, e4⟩ := len_ok p1 hq n
  subst hk
  have hr : 0 ≤ ra ∧ ra < rb ∧ rb ≤ 65536 := by omega
  have hr0 := e3.1
  have w1 : wrapA .i64 (Int.sub r ra) = r - ra := by simp only [sub_int]; exact wrap64 (by omega) (by omega)
  have w2 : wrapA .i64 (Int.sub rb ra) = rb - ra := by simp only [sub_int]; exact wrap64 (by omega) (by omega)
  have m1 : 1 ≤ rb - ra := by omega
  have m2 : rb - ra ≤ 2147483648 := by omega
  have z : eqI 0 0 = true := rfl
  have z1 : eqI 2 1 = false := rfl
  have z2 : eqI 2 2 = true := rfl
  obtain ⟨k1, k2⟩ := ink_ok (kd := 2) (fx := fx) (fy := fy) (tx := tx) (ty := ty) (ra := ra) (rb := rb) (ea := ea) (eb := eb) (N := r - ra) i1 i2 m1 m2
  have f71 : F71 (n + 40) 2 fx fy tx ty ra rb ca cb cc cd da db dc dd ea eb 0 0 qx qy = some (2, fx, fy, tx, ty, ra, rb, ca, cb, cc, cd, da, db, dc, dd, ea, eb, r - ra, rb - ra) := by
    unfold F71 F17_0; rw [e1]; simp only [w1, w2, Option.getD_some, Option.isSome_some, cond_true]
  refine ⟨r, e3, ?_, ?_⟩
  · unfold F12x; simp only [t12x_0, c12x_1, t12x_2, t12x_3, t12x_4, t12x_5, t12x_6, t12x_7, t12x_8, t12x_9, t12x_10, t12x_11, t12x_12, t12x_13, t12x_14, t12x_15, t12x_16, t12x_17, c12x_18, c12x_19, t12x_20, t12x_21, t12x_22, t12x_23, t12x_24, t12x_25, c12x_26, t12x_27, t12x_28, t12x_29, t12x_30, t12x_31, t12x_32, t12x_33, t12x_34, t12x_35, t12x_36, t12x_37, t12x_38, t12x_39, t12x_40, t12x_41, c12x_42, c12x_43, t12x_44, t12x_45, t12x_46, t12x_47, t12x_48, t12x_49, c12x_50, F10_0, F10v, h, pt33, hq, z, z1, z2, F71_0, F71_1, F71_2, F71_3, F71_4, F71_5, F71_6, F71_7, F71_8, F71_9, F71_10, F71_11, F71_12, F71_13, F71_14, F71_15, F71_16, F71_17, F71_18, f71, k1, F36_0, F36_1, F36_2, F36_3, F36_4, Option.getD_some, Option.isSome_some, Bool.not_true, cond_true, cond_false]
    rw [← k2]
  · have f72 : F72 (n + 40) 2 fx fy tx ty ra rb ca cb cc cd da db dc dd ea eb qx qy = some (r - ra, rb - ra) := by
      unfold F72 F42_0; rw [z2, e2]; simp only [w1, w2, Option.getD_some, Option.isSome_some, cond_true]
    have f38 : F38 (n + 40) 2 fx fy tx ty ra rb ca cb cc cd da db dc dd ea eb qx qy = some ((res ca cb cc cd da db dc dd ea eb (r - ra) (rb - ra)).1, (res ca cb cc cd da db dc dd ea eb (r - ra) (rb - ra)).2.1, (res ca cb cc cd da db dc dd ea eb (r - ra) (rb - ra)).2.2.1, (res ca cb cc cd da db dc dd ea eb (r - ra) (rb - ra)).2.2.2.1, (res ca cb cc cd da db dc dd ea eb (r - ra) (rb - ra)).2.2.2.2.1) := by
      unfold F38 res
      simp only [t38_0, t38_1, c38_2, t38_3, t38_4, c38_5, t38_6, t38_7, t38_8, t38_9, t38_10, t38_11, F72_0, F72_1, f72, Option.getD_some, Option.isSome_some, cond_true]
      cases e1 : ltI (r - ra) 0 with
      | true => cases ea <;> rfl
      | false =>
        cases e2 : ltI (rb - ra) (r - ra) with
        | true => cases eb <;> rfl
        | false =>
          rw [ltI_f] at e1 e2
          have m := mix_ref (x := r - ra) (y := rb - ra) i1 i2 e1 e2 m1 m2
          simp only [F73_0, F73_1, F73_2, F73_3, m, Option.getD_some, Option.isSome_some, cond_true, cond_false]
    unfold F13; simp only [c13_0, t13_1, t13_2, t13_3, t13_4, c13_5, h, hq, f38, F38_0, F38_1, F38_2, F38_3, F38_4, Option.getD_some, Option.isSome_some, Bool.not_true, cond_true, cond_false]
    rw [← k2]
theorem at_eq (n : Nat) (kd fx fy tx ty ra rb ca cb cc cd da db dc dd qx qy : Int) (ea eb : Bool) : ∃ r, F12x (n + 40) kd fx fy tx ty ra rb ca cb cc cd da db dc dd ea eb qx qy = some r ∧ F13 (n + 40) kd fx fy tx ty ra rb ca cb cc cd da db dc dd ea eb qx qy = some r := by
  cases h : F34_0 kd fx fy tx ty ra rb ca cb cc cd da db dc dd ea eb with
  | false =>
    have z : eqI 390 0 = false := rfl
    refine ⟨(0, 0, 0, 0, false, 390), ?_, ?_⟩
    · unfold F12x; simp only [t12x_0, c12x_1, t12x_2, t12x_3, t12x_4, t12x_5, t12x_6, t12x_7, t12x_8, t12x_9, t12x_10, t12x_11, t12x_12, t12x_13, t12x_14, t12x_15, t12x_16, t12x_17, c12x_18, c12x_19, t12x_20, t12x_21, t12x_22, t12x_23, t12x_24, t12x_25, c12x_26, t12x_27, t12x_28, t12x_29, t12x_30, t12x_31, t12x_32, t12x_33, t12x_34, t12x_35, t12x_36, t12x_37, t12x_38, t12x_39, t12x_40, t12x_41, c12x_42, c12x_43, t12x_44, t12x_45, t12x_46, t12x_47, t12x_48, t12x_49, c12x_50, F10_0, F10v, h, z, Option.getD_some, Bool.not_false, cond_true, cond_false]
    · unfold F13; simp only [c13_0, t13_1, t13_2, t13_3, t13_4, c13_5, h, Bool.not_false, cond_true]
  | true =>
    cases hq : F37_0 qx qy with
    | false =>
      have z : eqI 0 0 = true := rfl
      refine ⟨(0, 0, 0, 0, false, 2), ?_, ?_⟩
      · unfold F12x; simp only [t12x_0, c12x_1, t12x_2, t12x_3, t12x_4, t12x_5, t12x_6, t12x_7, t12x_8, t12x_9, t12x_10, t12x_11, t12x_12, t12x_13, t12x_14, t12x_15, t12x_16, t12x_17, c12x_18, c12x_19, t12x_20, t12x_21, t12x_22, t12x_23, t12x_24, t12x_25, c12x_26, t12x_27, t12x_28, t12x_29, t12x_30, t12x_31, t12x_32, t12x_33, t12x_34, t12x_35, t12x_36, t12x_37, t12x_38, t12x_39, t12x_40, t12x_41, c12x_42, c12x_43, t12x_44, t12x_45, t12x_46, t12x_47, t12x_48, t12x_49, c12x_50, F10_0, F10v, h, pt33, hq, z, Option.getD_some, Bool.not_true, Bool.not_false, cond_true, cond_false]
      · unfold F13; simp only [c13_0, t13_1, t13_2, t13_3, t13_4, c13_5, h, hq, Bool.not_true, Bool.not_false, cond_true, cond_false]
    | true =>
      obtain ⟨_, _, _, _, hc⟩ := ok_S h
      rcases hc with hc | hc
      · obtain ⟨a, b⟩ := at_ax n h hc.1 hq; exact ⟨_, a, b⟩
      · obtain ⟨r, _, a, b⟩ := at_rad n h hc.1 hq; exact ⟨_, a, b⟩
theorem cells_int2 (cs : List AV) (off : Nat) (h : cs.all (fun c => isIntC .i64 [c] 0) = true) (hl : off + 2 ≤ cs.length) : cellsB cs off ([] ++ [CK.int .i64] ++ [CK.int .i64]) = true := by
  have key : ∀ j, j < cs.length → isIntC .i64 cs j = true := by
    intro j hj
    have hm := List.all_eq_true.1 h (cs[j]) (List.getElem_mem hj)
    unfold isIntC at hm ⊢
    rw [nth_eq, List.getElem?_eq_getElem hj]
    exact hm
  simp only [List.nil_append, List.cons_append, cellsB, cellB, key off (by omega), key (off + 1) (by omega), andB]
theorem w_one {v : Int} (h1 : 0 ≤ v) (h2 : v ≤ 100) : wrapA .i64 (Int.add v 1) = v + 1 := by simp only [add_int]; exact wrap64 (by omega) (by omega)
theorem st (a0_0 : Bool) (a0_1 : Int) (a0_2 : Int) (a0_3 : Int) (a0_4 : Int) (a0_5 : Int) (a0_6 : Int) (a0_7 : Int) (a0_8 : Int) (a0_9 : Int) (a0_10 : Int) (a0_11 : Int) (a0_12 : Int) (a0_13 : Int) (a0_14 : Int) (a0_15 : Int) (a1_0 : Int) (a1_1 : Int) (a1_2 : Int) (a1_3 : Int) (a1_4 : Int) (a1_5 : Int) (a1_6 : Int) (a1_7 : Int) (a1_8 : Int) (a1_9 : Int) (a1_10 : Int) (a1_11 : Int) (a1_12 : Int) (a1_13 : Int) (a1_14 : Int) (a1_15 : Bool) (a1_16 : Bool) (a2_0 : Int) (a2_1 : Int) (n : Nat) (v0 : Int) (v1 : Int) (v2 : Int) (v3 : Int) (v4 : Int) (v5 : Int) (v6 : Int) (v7 : Int) (v8 : Int) (v9 : Int) (v10 : Int) (v11 : Int) (v12 : Int) (v13 : Int) (v14 : Int) (v15 : Bool) (v16 : Bool) (v17 : Int) (v18 : Int) (v19 : Int) (v20 : Int) (v21 : Int) (v22 : Int) (v23 : Int) (v24 : Int) (v25 : Int) (v26 : Int) (v27 : Int) (v28 : Int) (v29 : Int) (v30 : Int) (v31 : Int) (v32 : Int) (v33 : Int) (v34 : Bool) (v35 : Bool) (h1 : 0 ≤ v22) (h2 : v22 ≤ 4) : L3_0 a0_0 a0_1 a0_2 a0_3 a0_4 a0_5 a0_6 a0_7 a0_8 a0_9 a0_10 a0_11 a0_12 a0_13 a0_14 a0_15 a1_0 a1_1 a1_2 a1_3 a1_4 a1_5 a1_6 a1_7 a1_8 a1_9 a1_10 a1_11 a1_12 a1_13 a1_14 a1_15 a1_16 a2_0 a2_1 (n + 40 + 1) v0 v1 v2 v3 v4 v5 v6 v7 v8 v9 v10 v11 v12 v13 v14 v15 v16 v17 v18 v19 v20 v21 v22 v23 v24 v25 v26 v27 v28 v29 v30 v31 v32 v33 v34 v35 = L3_0 a0_0 a0_1 a0_2 a0_3 a0_4 a0_5 a0_6 a0_7 a0_8 a0_9 a0_10 a0_11 a0_12 a0_13 a0_14 a0_15 a1_0 a1_1 a1_2 a1_3 a1_4 a1_5 a1_6 a1_7 a1_8 a1_9 a1_10 a1_11 a1_12 a1_13 a1_14 a1_15 a1_16 a2_0 a2_1 (n + 40) v0 v1 v2 v3 v4 v5 v6 v7 v8 v9 v10 v11 v12 v13 v14 v15 v16 v17 v18 v19 v20 v21 (v22 + 1) v23 v24 v25 v26 v27 v28 v29 v30 v31 v32 v33 v34 v35 := by
  have l : ltI v22 5 = true := by rw [ltI_t]; omega
  have i : inB v22 5 = true := by rw [inB_t]; omega
  rw [L3_0_succ, l, i, cells_int2 _ _ rfl (by show v22.toNat * 2 + 2 ≤ 10; omega), w_one h1 (by omega)]
  obtain ⟨r, e1, e2⟩ := at_eq n v23 v18 v19 v20 v21 v24 v25 v26 v27 v28 v29 v30 v31 v32 v33 (t3_1102 a2_0 a2_1 v18 v19 v20 v21 v22) (t3_1103 a2_0 a2_1 v18 v19 v20 v21 v22) v34 v35
  have bb : ∀ b : Bool, (b == b) = true := fun b => by cases b <;> rfl
  simp only [t3_1050, t3_1051, t3_1052, t3_1053, t3_1054, t3_1055, t3_1056, t3_1057, t3_1058, t3_1059, t3_1060, t3_1061, t3_1062, t3_1063, t3_1064, c3_1065, c3_1066, t3_1067, t3_1068, t3_1069, t3_1070, t3_1071, t3_1072, t3_1073, t3_1074, t3_1075, t3_1076, t3_1077, t3_1078, t3_1079, t3_1080, t3_1081, c3_1082, c3_1083, c3_1084, t3_1085, t3_1086, t3_1087, t3_1088, t3_1089, t3_1090, t3_1091, t3_1092, t3_1093, t3_1094, t3_1095, t3_1096, t3_1097, t3_1098, t3_1099, c3_1100, c3_1101, c3_1104, t3_1105, c3_1106, t3_1107, t3_1108, t3_1109, t3_1110, t3_1111, t3_1112, t3_1113, t3_1114, t3_1115, c3_1116, t3_1117, c3_1118, t3_1119, c3_1120, t3_1121, t3_1122, c3_1123, c3_1124, t3_1125, t3_1126, t3_1127, t3_1128, t3_1129, t3_1130, t3_1131, t3_1132, t3_1133, t3_1134, t3_1135, t3_1136, t3_1137, t3_1138, t3_1139, c3_1140, c3_1141, t3_1142, t3_1143, t3_1144, t3_1145, t3_1146, t3_1147, t3_1148, t3_1149, t3_1150, t3_1151, t3_1152, t3_1153, t3_1154, t3_1155, t3_1156, c3_1157, c3_1158, c3_1159, t3_1160, t3_1161, t3_1162, t3_1163, t3_1164, t3_1165, t3_1166, t3_1167, t3_1168, t3_1169, t3_1170, t3_1171, t3_1172, t3_1173, t3_1174, c3_1175, c3_1176, e1, e2, F12x_0, F12x_1, F12x_2, F12x_3, F12x_4, F12x_5, F13_0, F13_1, F13_2, F13_3, F13_4, F13_5, Option.isSome_some, Option.getD_some, eqI_same, bb, andB, Bool.not_true, cond_true, cond_false]
theorem lk (kd fx fy tx ty ra rb ca cb cc cd da db dc dd : Int) (ea eb : Bool) : eqI (F10_0 kd fx fy tx ty ra rb ca cb cc cd da db dc dd ea eb) (F11_0 kd fx fy tx ty ra rb ca cb cc cd da db dc dd ea eb) = true := by unfold F10_0 F11_0; rw [F10v, F11v]; simp only [Option.getD_some, eqI_same]
theorem turn (a0_0 : Bool) (a0_1 : Int) (a0_2 : Int) (a0_3 : Int) (a0_4 : Int) (a0_5 : Int) (a0_6 : Int) (a0_7 : Int) (a0_8 : Int) (a0_9 : Int) (a0_10 : Int) (a0_11 : Int) (a0_12 : Int) (a0_13 : Int) (a0_14 : Int) (a0_15 : Int) (a1_0 : Int) (a1_1 : Int) (a1_2 : Int) (a1_3 : Int) (a1_4 : Int) (a1_5 : Int) (a1_6 : Int) (a1_7 : Int) (a1_8 : Int) (a1_9 : Int) (a1_10 : Int) (a1_11 : Int) (a1_12 : Int) (a1_13 : Int) (a1_14 : Int) (a1_15 : Bool) (a1_16 : Bool) (a2_0 : Int) (a2_1 : Int) (n : Nat) (v0 : Int) (v1 : Int) (v2 : Int) (v3 : Int) (v4 : Int) (v5 : Int) (v6 : Int) (v7 : Int) (v8 : Int) (v9 : Int) (v10 : Int) (v11 : Int) (v12 : Int) (v13 : Int) (v14 : Int) (v15 : Bool) (v16 : Bool) (v18 : Int) (v19 : Int) (v20 : Int) (v21 : Int) (v23 : Int) (v24 : Int) (v25 : Int) (v26 : Int) (v27 : Int) (v28 : Int) (v29 : Int) (v30 : Int) (v31 : Int) (v32 : Int) (v33 : Int) (v34 : Bool) (v35 : Bool) : ∃ (w18 : Int) (w19 : Int) (w20 : Int) (w21 : Int) (w23 : Int) (w24 : Int) (w25 : Int) (w26 : Int) (w27 : Int) (w28 : Int) (w29 : Int) (w30 : Int) (w31 : Int) (w32 : Int) (w33 : Int) (w34 : Bool) (w35 : Bool), L3_0 a0_0 a0_1 a0_2 a0_3 a0_4 a0_5 a0_6 a0_7 a0_8 a0_9 a0_10 a0_11 a0_12 a0_13 a0_14 a0_15 a1_0 a1_1 a1_2 a1_3 a1_4 a1_5 a1_6 a1_7 a1_8 a1_9 a1_10 a1_11 a1_12 a1_13 a1_14 a1_15 a1_16 a2_0 a2_1 (n + 40 + 1) v0 v1 v2 v3 v4 v5 v6 v7 v8 v9 v10 v11 v12 v13 v14 v15 v16 0 v18 v19 v20 v21 5 v23 v24 v25 v26 v27 v28 v29 v30 v31 v32 v33 v34 v35 = L3_0 a0_0 a0_1 a0_2 a0_3 a0_4 a0_5 a0_6 a0_7 a0_8 a0_9 a0_10 a0_11 a0_12 a0_13 a0_14 a0_15 a1_0 a1_1 a1_2 a1_3 a1_4 a1_5 a1_6 a1_7 a1_8 a1_9 a1_10 a1_11 a1_12 a1_13 a1_14 a1_15 a1_16 a2_0 a2_1 (n + 40) v0 v1 v2 v3 v4 v5 v6 v7 v8 v9 v10 v11 v12 v13 v14 v15 v16 1 w18 w19 w20 w21 0 w23 w24 w25 w26 w27 w28 w29 w30 w31 w32 w33 w34 w35 := by
  have e : c3_1159 a1_0 a1_1 a1_2 a1_3 a1_4 a1_5 a1_6 a1_7 a1_8 a1_9 a1_10 a1_11 a1_12 a1_13 a1_14 a1_15 a1_16 v0 v1 v2 v3 v4 v5 v6 v7 v8 v9 v10 v11 v12 v13 v14 v15 v16 0 = false := by unfold c3_1159; rw [lk]; rfl
  have h := L3_0_succ a0_0 a0_1 a0_2 a0_3 a0_4 a0_5 a0_6 a0_7 a0_8 a0_9 a0_10 a0_11 a0_12 a0_13 a0_14 a0_15 a1_0 a1_1 a1_2 a1_3 a1_4 a1_5 a1_6 a1_7 a1_8 a1_9 a1_10 a1_11 a1_12 a1_13 a1_14 a1_15 a1_16 a2_0 a2_1 (n + 40) v0 v1 v2 v3 v4 v5 v6 v7 v8 v9 v10 v11 v12 v13 v14 v15 v16 0 v18 v19 v20 v21 5 v23 v24 v25 v26 v27 v28 v29 v30 v31 v32 v33 v34 v35
  rw [e, show ltI 5 5 = false from rfl, show wrapA .i64 (Int.add 0 1) = 1 from rfl, show ltI 1 2 = true from rfl, show inB 1 2 = true from rfl, cond_false, cond_true, cond_true, cond_false] at h
  exact ⟨_, _, _, _, _, _, _, _, _, _, _, _, _, _, _, _, _, h⟩
theorem stop (a0_0 : Bool) (a0_1 : Int) (a0_2 : Int) (a0_3 : Int) (a0_4 : Int) (a0_5 : Int) (a0_6 : Int) (a0_7 : Int) (a0_8 : Int) (a0_9 : Int) (a0_10 : Int) (a0_11 : Int) (a0_12 : Int) (a0_13 : Int) (a0_14 : Int) (a0_15 : Int) (a1_0 : Int) (a1_1 : Int) (a1_2 : Int) (a1_3 : Int) (a1_4 : Int) (a1_5 : Int) (a1_6 : Int) (a1_7 : Int) (a1_8 : Int) (a1_9 : Int) (a1_10 : Int) (a1_11 : Int) (a1_12 : Int) (a1_13 : Int) (a1_14 : Int) (a1_15 : Bool) (a1_16 : Bool) (a2_0 : Int) (a2_1 : Int) (n : Nat) (v0 : Int) (v1 : Int) (v2 : Int) (v3 : Int) (v4 : Int) (v5 : Int) (v6 : Int) (v7 : Int) (v8 : Int) (v9 : Int) (v10 : Int) (v11 : Int) (v12 : Int) (v13 : Int) (v14 : Int) (v15 : Bool) (v16 : Bool) (v18 : Int) (v19 : Int) (v20 : Int) (v21 : Int) (v23 : Int) (v24 : Int) (v25 : Int) (v26 : Int) (v27 : Int) (v28 : Int) (v29 : Int) (v30 : Int) (v31 : Int) (v32 : Int) (v33 : Int) (v34 : Bool) (v35 : Bool) : L3_0 a0_0 a0_1 a0_2 a0_3 a0_4 a0_5 a0_6 a0_7 a0_8 a0_9 a0_10 a0_11 a0_12 a0_13 a0_14 a0_15 a1_0 a1_1 a1_2 a1_3 a1_4 a1_5 a1_6 a1_7 a1_8 a1_9 a1_10 a1_11 a1_12 a1_13 a1_14 a1_15 a1_16 a2_0 a2_1 (n + 40 + 1) v0 v1 v2 v3 v4 v5 v6 v7 v8 v9 v10 v11 v12 v13 v14 v15 v16 1 v18 v19 v20 v21 5 v23 v24 v25 v26 v27 v28 v29 v30 v31 v32 v33 v34 v35 = some true := by rw [L3_0_succ]; rfl
theorem row (a0_0 : Bool) (a0_1 : Int) (a0_2 : Int) (a0_3 : Int) (a0_4 : Int) (a0_5 : Int) (a0_6 : Int) (a0_7 : Int) (a0_8 : Int) (a0_9 : Int) (a0_10 : Int) (a0_11 : Int) (a0_12 : Int) (a0_13 : Int) (a0_14 : Int) (a0_15 : Int) (a1_0 : Int) (a1_1 : Int) (a1_2 : Int) (a1_3 : Int) (a1_4 : Int) (a1_5 : Int) (a1_6 : Int) (a1_7 : Int) (a1_8 : Int) (a1_9 : Int) (a1_10 : Int) (a1_11 : Int) (a1_12 : Int) (a1_13 : Int) (a1_14 : Int) (a1_15 : Bool) (a1_16 : Bool) (a2_0 : Int) (a2_1 : Int) (n : Nat) (v0 : Int) (v1 : Int) (v2 : Int) (v3 : Int) (v4 : Int) (v5 : Int) (v6 : Int) (v7 : Int) (v8 : Int) (v9 : Int) (v10 : Int) (v11 : Int) (v12 : Int) (v13 : Int) (v14 : Int) (v15 : Bool) (v16 : Bool) (v17 : Int) (v18 : Int) (v19 : Int) (v20 : Int) (v21 : Int) (v23 : Int) (v24 : Int) (v25 : Int) (v26 : Int) (v27 : Int) (v28 : Int) (v29 : Int) (v30 : Int) (v31 : Int) (v32 : Int) (v33 : Int) (v34 : Bool) (v35 : Bool) : L3_0 a0_0 a0_1 a0_2 a0_3 a0_4 a0_5 a0_6 a0_7 a0_8 a0_9 a0_10 a0_11 a0_12 a0_13 a0_14 a0_15 a1_0 a1_1 a1_2 a1_3 a1_4 a1_5 a1_6 a1_7 a1_8 a1_9 a1_10 a1_11 a1_12 a1_13 a1_14 a1_15 a1_16 a2_0 a2_1 (n + 40 + 5) v0 v1 v2 v3 v4 v5 v6 v7 v8 v9 v10 v11 v12 v13 v14 v15 v16 v17 v18 v19 v20 v21 0 v23 v24 v25 v26 v27 v28 v29 v30 v31 v32 v33 v34 v35 = L3_0 a0_0 a0_1 a0_2 a0_3 a0_4 a0_5 a0_6 a0_7 a0_8 a0_9 a0_10 a0_11 a0_12 a0_13 a0_14 a0_15 a1_0 a1_1 a1_2 a1_3 a1_4 a1_5 a1_6 a1_7 a1_8 a1_9 a1_10 a1_11 a1_12 a1_13 a1_14 a1_15 a1_16 a2_0 a2_1 (n + 40) v0 v1 v2 v3 v4 v5 v6 v7 v8 v9 v10 v11 v12 v13 v14 v15 v16 v17 v18 v19 v20 v21 5 v23 v24 v25 v26 v27 v28 v29 v30 v31 v32 v33 v34 v35 := by
  have s0 := st a0_0 a0_1 a0_2 a0_3 a0_4 a0_5 a0_6 a0_7 a0_8 a0_9 a0_10 a0_11 a0_12 a0_13 a0_14 a0_15 a1_0 a1_1 a1_2 a1_3 a1_4 a1_5 a1_6 a1_7 a1_8 a1_9 a1_10 a1_11 a1_12 a1_13 a1_14 a1_15 a1_16 a2_0 a2_1 (n + 4) v0 v1 v2 v3 v4 v5 v6 v7 v8 v9 v10 v11 v12 v13 v14 v15 v16 v17 v18 v19 v20 v21 0 v23 v24 v25 v26 v27 v28 v29 v30 v31 v32 v33 v34 v35 (by decide) (by decide)
  have s1 := st a0_0 a0_1 a0_2 a0_3 a0_4 a0_5 a0_6 a0_7 a0_8 a0_9 a0_10 a0_11 a0_12 a0_13 a0_14 a0_15 a1_0 a1_1 a1_2 a1_3 a1_4 a1_5 a1_6 a1_7 a1_8 a1_9 a1_10 a1_11 a1_12 a1_13 a1_14 a1_15 a1_16 a2_0 a2_1 (n + 3) v0 v1 v2 v3 v4 v5 v6 v7 v8 v9 v10 v11 v12 v13 v14 v15 v16 v17 v18 v19 v20 v21 1 v23 v24 v25 v26 v27 v28 v29 v30 v31 v32 v33 v34 v35 (by decide) (by decide)
  have s2 := st a0_0 a0_1 a0_2 a0_3 a0_4 a0_5 a0_6 a0_7 a0_8 a0_9 a0_10 a0_11 a0_12 a0_13 a0_14 a0_15 a1_0 a1_1 a1_2 a1_3 a1_4 a1_5 a1_6 a1_7 a1_8 a1_9 a1_10 a1_11 a1_12 a1_13 a1_14 a1_15 a1_16 a2_0 a2_1 (n + 2) v0 v1 v2 v3 v4 v5 v6 v7 v8 v9 v10 v11 v12 v13 v14 v15 v16 v17 v18 v19 v20 v21 2 v23 v24 v25 v26 v27 v28 v29 v30 v31 v32 v33 v34 v35 (by decide) (by decide)
  have s3 := st a0_0 a0_1 a0_2 a0_3 a0_4 a0_5 a0_6 a0_7 a0_8 a0_9 a0_10 a0_11 a0_12 a0_13 a0_14 a0_15 a1_0 a1_1 a1_2 a1_3 a1_4 a1_5 a1_6 a1_7 a1_8 a1_9 a1_10 a1_11 a1_12 a1_13 a1_14 a1_15 a1_16 a2_0 a2_1 (n + 1) v0 v1 v2 v3 v4 v5 v6 v7 v8 v9 v10 v11 v12 v13 v14 v15 v16 v17 v18 v19 v20 v21 3 v23 v24 v25 v26 v27 v28 v29 v30 v31 v32 v33 v34 v35 (by decide) (by decide)
  have s4 := st a0_0 a0_1 a0_2 a0_3 a0_4 a0_5 a0_6 a0_7 a0_8 a0_9 a0_10 a0_11 a0_12 a0_13 a0_14 a0_15 a1_0 a1_1 a1_2 a1_3 a1_4 a1_5 a1_6 a1_7 a1_8 a1_9 a1_10 a1_11 a1_12 a1_13 a1_14 a1_15 a1_16 a2_0 a2_1 (n + 0) v0 v1 v2 v3 v4 v5 v6 v7 v8 v9 v10 v11 v12 v13 v14 v15 v16 v17 v18 v19 v20 v21 4 v23 v24 v25 v26 v27 v28 v29 v30 v31 v32 v33 v34 v35 (by decide) (by decide)
  rw [show n + 40 + 5 = n + 4 + 40 + 1 by omega, s0, show (0 + 1 : Int) = 1 from rfl]
  rw [show n + 4 + 40 = n + 40 + 4 by omega]
  rw [show n + 40 + 4 = n + 3 + 40 + 1 by omega, s1, show (1 + 1 : Int) = 2 from rfl]
  rw [show n + 3 + 40 = n + 40 + 3 by omega]
  rw [show n + 40 + 3 = n + 2 + 40 + 1 by omega, s2, show (2 + 1 : Int) = 3 from rfl]
  rw [show n + 2 + 40 = n + 40 + 2 by omega]
  rw [show n + 40 + 2 = n + 1 + 40 + 1 by omega, s3, show (3 + 1 : Int) = 4 from rfl]
  rw [show n + 1 + 40 = n + 40 + 1 by omega]
  rw [show n + 40 + 1 = n + 0 + 40 + 1 by omega, s4, show (4 + 1 : Int) = 5 from rfl]
theorem all (a0_0 : Bool) (a0_1 : Int) (a0_2 : Int) (a0_3 : Int) (a0_4 : Int) (a0_5 : Int) (a0_6 : Int) (a0_7 : Int) (a0_8 : Int) (a0_9 : Int) (a0_10 : Int) (a0_11 : Int) (a0_12 : Int) (a0_13 : Int) (a0_14 : Int) (a0_15 : Int) (a1_0 : Int) (a1_1 : Int) (a1_2 : Int) (a1_3 : Int) (a1_4 : Int) (a1_5 : Int) (a1_6 : Int) (a1_7 : Int) (a1_8 : Int) (a1_9 : Int) (a1_10 : Int) (a1_11 : Int) (a1_12 : Int) (a1_13 : Int) (a1_14 : Int) (a1_15 : Bool) (a1_16 : Bool) (a2_0 : Int) (a2_1 : Int) (n : Nat) (v0 : Int) (v1 : Int) (v2 : Int) (v3 : Int) (v4 : Int) (v5 : Int) (v6 : Int) (v7 : Int) (v8 : Int) (v9 : Int) (v10 : Int) (v11 : Int) (v12 : Int) (v13 : Int) (v14 : Int) (v15 : Bool) (v16 : Bool) (v18 : Int) (v19 : Int) (v20 : Int) (v21 : Int) (v23 : Int) (v24 : Int) (v25 : Int) (v26 : Int) (v27 : Int) (v28 : Int) (v29 : Int) (v30 : Int) (v31 : Int) (v32 : Int) (v33 : Int) (v34 : Bool) (v35 : Bool) : L3_0 a0_0 a0_1 a0_2 a0_3 a0_4 a0_5 a0_6 a0_7 a0_8 a0_9 a0_10 a0_11 a0_12 a0_13 a0_14 a0_15 a1_0 a1_1 a1_2 a1_3 a1_4 a1_5 a1_6 a1_7 a1_8 a1_9 a1_10 a1_11 a1_12 a1_13 a1_14 a1_15 a1_16 a2_0 a2_1 (n + 40 + 12) v0 v1 v2 v3 v4 v5 v6 v7 v8 v9 v10 v11 v12 v13 v14 v15 v16 0 v18 v19 v20 v21 0 v23 v24 v25 v26 v27 v28 v29 v30 v31 v32 v33 v34 v35 = some true := by
  have r1 := row a0_0 a0_1 a0_2 a0_3 a0_4 a0_5 a0_6 a0_7 a0_8 a0_9 a0_10 a0_11 a0_12 a0_13 a0_14 a0_15 a1_0 a1_1 a1_2 a1_3 a1_4 a1_5 a1_6 a1_7 a1_8 a1_9 a1_10 a1_11 a1_12 a1_13 a1_14 a1_15 a1_16 a2_0 a2_1 (n + 7) v0 v1 v2 v3 v4 v5 v6 v7 v8 v9 v10 v11 v12 v13 v14 v15 v16 0 v18 v19 v20 v21 v23 v24 v25 v26 v27 v28 v29 v30 v31 v32 v33 v34 v35
  obtain ⟨w18, w19, w20, w21, w23, w24, w25, w26, w27, w28, w29, w30, w31, w32, w33, w34, w35, t⟩ := turn a0_0 a0_1 a0_2 a0_3 a0_4 a0_5 a0_6 a0_7 a0_8 a0_9 a0_10 a0_11 a0_12 a0_13 a0_14 a0_15 a1_0 a1_1 a1_2 a1_3 a1_4 a1_5 a1_6 a1_7 a1_8 a1_9 a1_10 a1_11 a1_12 a1_13 a1_14 a1_15 a1_16 a2_0 a2_1 (n + 6) v0 v1 v2 v3 v4 v5 v6 v7 v8 v9 v10 v11 v12 v13 v14 v15 v16 v18 v19 v20 v21 v23 v24 v25 v26 v27 v28 v29 v30 v31 v32 v33 v34 v35
  have r2 := row a0_0 a0_1 a0_2 a0_3 a0_4 a0_5 a0_6 a0_7 a0_8 a0_9 a0_10 a0_11 a0_12 a0_13 a0_14 a0_15 a1_0 a1_1 a1_2 a1_3 a1_4 a1_5 a1_6 a1_7 a1_8 a1_9 a1_10 a1_11 a1_12 a1_13 a1_14 a1_15 a1_16 a2_0 a2_1 (n + 1) v0 v1 v2 v3 v4 v5 v6 v7 v8 v9 v10 v11 v12 v13 v14 v15 v16 1 w18 w19 w20 w21 w23 w24 w25 w26 w27 w28 w29 w30 w31 w32 w33 w34 w35
  have z := stop a0_0 a0_1 a0_2 a0_3 a0_4 a0_5 a0_6 a0_7 a0_8 a0_9 a0_10 a0_11 a0_12 a0_13 a0_14 a0_15 a1_0 a1_1 a1_2 a1_3 a1_4 a1_5 a1_6 a1_7 a1_8 a1_9 a1_10 a1_11 a1_12 a1_13 a1_14 a1_15 a1_16 a2_0 a2_1 n v0 v1 v2 v3 v4 v5 v6 v7 v8 v9 v10 v11 v12 v13 v14 v15 v16 w18 w19 w20 w21 w23 w24 w25 w26 w27 w28 w29 w30 w31 w32 w33 w34 w35
  rw [show n + 40 + 12 = n + 7 + 40 + 5 by omega, r1, show n + 7 + 40 = n + 6 + 40 + 1 by omega, t, show n + 6 + 40 = n + 1 + 40 + 5 by omega, r2, show n + 1 + 40 = n + 40 + 1 by omega, z]
theorem law_ok (a0_0 : Bool) (a0_1 : Int) (a0_2 : Int) (a0_3 : Int) (a0_4 : Int) (a0_5 : Int) (a0_6 : Int) (a0_7 : Int) (a0_8 : Int) (a0_9 : Int) (a0_10 : Int) (a0_11 : Int) (a0_12 : Int) (a0_13 : Int) (a0_14 : Int) (a0_15 : Int) (a1_0 : Int) (a1_1 : Int) (a1_2 : Int) (a1_3 : Int) (a1_4 : Int) (a1_5 : Int) (a1_6 : Int) (a1_7 : Int) (a1_8 : Int) (a1_9 : Int) (a1_10 : Int) (a1_11 : Int) (a1_12 : Int) (a1_13 : Int) (a1_14 : Int) (a1_15 : Bool) (a1_16 : Bool) (a2_0 : Int) (a2_1 : Int) (_ : (Lit.int .i16 a0_1).wf = true) (_ : (Lit.int .i16 a0_2).wf = true) (_ : (Lit.int .i16 a0_3).wf = true) (_ : (Lit.int .i16 a0_4).wf = true) (_ : (Lit.int .u16 a0_5).wf = true) (_ : (Lit.int .u16 a0_6).wf = true) (_ : (Lit.int .u8 a0_7).wf = true) (_ : (Lit.int .u8 a0_8).wf = true) (_ : (Lit.int .u8 a0_9).wf = true) (_ : (Lit.int .u8 a0_10).wf = true) (_ : (Lit.int .u8 a0_11).wf = true) (_ : (Lit.int .u8 a0_12).wf = true) (_ : (Lit.int .u8 a0_13).wf = true) (_ : (Lit.int .u8 a0_14).wf = true) (_ : (Lit.int .u8 a0_15).wf = true) (_ : (Lit.int .i64 a1_0).wf = true) (_ : (Lit.int .i64 a1_1).wf = true) (_ : (Lit.int .i64 a1_2).wf = true) (_ : (Lit.int .i64 a1_3).wf = true) (_ : (Lit.int .i64 a1_4).wf = true) (_ : (Lit.int .i64 a1_5).wf = true) (_ : (Lit.int .i64 a1_6).wf = true) (_ : (Lit.int .i64 a1_7).wf = true) (_ : (Lit.int .i64 a1_8).wf = true) (_ : (Lit.int .i64 a1_9).wf = true) (_ : (Lit.int .i64 a1_10).wf = true) (_ : (Lit.int .i64 a1_11).wf = true) (_ : (Lit.int .i64 a1_12).wf = true) (_ : (Lit.int .i64 a1_13).wf = true) (_ : (Lit.int .i64 a1_14).wf = true) (_ : (Lit.int .i64 a2_0).wf = true) (_ : (Lit.int .i64 a2_1).wf = true) : ∃ n : Nat, F3 n a0_0 a0_1 a0_2 a0_3 a0_4 a0_5 a0_6 a0_7 a0_8 a0_9 a0_10 a0_11 a0_12 a0_13 a0_14 a0_15 a1_0 a1_1 a1_2 a1_3 a1_4 a1_5 a1_6 a1_7 a1_8 a1_9 a1_10 a1_11 a1_12 a1_13 a1_14 a1_15 a1_16 a2_0 a2_1 = some true := by
  refine ⟨0 + 40 + 12, ?_⟩
  have e : c3_1084 a0_0 a0_1 a0_2 a0_3 a0_4 a0_5 a0_6 a0_7 a0_8 a0_9 a0_10 a0_11 a0_12 a0_13 a0_14 a0_15 = false := by unfold c3_1084; rw [lk]; rfl
  unfold F3; rw [e]
  exact all a0_0 a0_1 a0_2 a0_3 a0_4 a0_5 a0_6 a0_7 a0_8 a0_9 a0_10 a0_11 a0_12 a0_13 a0_14 a0_15 a1_0 a1_1 a1_2 a1_3 a1_4 a1_5 a1_6 a1_7 a1_8 a1_9 a1_10 a1_11 a1_12 a1_13 a1_14 a1_15 a1_16 a2_0 a2_1 0 _ _ _ _ _ _ _ _ _ _ _ _ _ _ _ _ _ _ _ _ _ _ _ _ _ _ _ _ _ _ _ _ _ _

end

theorem walk (a0_0 : Bool) (a0_1 : Int) (a0_2 : Int) (a0_3 : Int) (a0_4 : Int) (a0_5 : Int) (a0_6 : Int) (a0_7 : Int) (a0_8 : Int) (a0_9 : Int) (a0_10 : Int) (a0_11 : Int) (a0_12 : Int) (a0_13 : Int) (a0_14 : Int) (a0_15 : Int) (a1_0 : Int) (a1_1 : Int) (a1_2 : Int) (a1_3 : Int) (a1_4 : Int) (a1_5 : Int) (a1_6 : Int) (a1_7 : Int) (a1_8 : Int) (a1_9 : Int) (a1_10 : Int) (a1_11 : Int) (a1_12 : Int) (a1_13 : Int) (a1_14 : Int) (a1_15 : Bool) (a1_16 : Bool) (a2_0 : Int) (a2_1 : Int) (wa0_1 : (Lit.int .i16 a0_1).wf = true) (wa0_2 : (Lit.int .i16 a0_2).wf = true) (wa0_3 : (Lit.int .i16 a0_3).wf = true) (wa0_4 : (Lit.int .i16 a0_4).wf = true) (wa0_5 : (Lit.int .u16 a0_5).wf = true) (wa0_6 : (Lit.int .u16 a0_6).wf = true) (wa0_7 : (Lit.int .u8 a0_7).wf = true) (wa0_8 : (Lit.int .u8 a0_8).wf = true) (wa0_9 : (Lit.int .u8 a0_9).wf = true) (wa0_10 : (Lit.int .u8 a0_10).wf = true) (wa0_11 : (Lit.int .u8 a0_11).wf = true) (wa0_12 : (Lit.int .u8 a0_12).wf = true) (wa0_13 : (Lit.int .u8 a0_13).wf = true) (wa0_14 : (Lit.int .u8 a0_14).wf = true) (wa0_15 : (Lit.int .u8 a0_15).wf = true) (wa1_0 : (Lit.int .i64 a1_0).wf = true) (wa1_1 : (Lit.int .i64 a1_1).wf = true) (wa1_2 : (Lit.int .i64 a1_2).wf = true) (wa1_3 : (Lit.int .i64 a1_3).wf = true) (wa1_4 : (Lit.int .i64 a1_4).wf = true) (wa1_5 : (Lit.int .i64 a1_5).wf = true) (wa1_6 : (Lit.int .i64 a1_6).wf = true) (wa1_7 : (Lit.int .i64 a1_7).wf = true) (wa1_8 : (Lit.int .i64 a1_8).wf = true) (wa1_9 : (Lit.int .i64 a1_9).wf = true) (wa1_10 : (Lit.int .i64 a1_10).wf = true) (wa1_11 : (Lit.int .i64 a1_11).wf = true) (wa1_12 : (Lit.int .i64 a1_12).wf = true) (wa1_13 : (Lit.int .i64 a1_13).wf = true) (wa1_14 : (Lit.int .i64 a1_14).wf = true) (wa2_0 : (Lit.int .i64 a2_0).wf = true) (wa2_1 : (Lit.int .i64 a2_1).wf = true) {w : World} {ARGS : List Value} (ha : Go.Sx.RelL (fun _ => none) [.agg [.bool a0_0, .int .i16 a0_1, .int .i16 a0_2, .int .i16 a0_3, .int .i16 a0_4, .int .u16 a0_5, .int .u16 a0_6, .int .u8 a0_7, .int .u8 a0_8, .int .u8 a0_9, .int .u8 a0_10, .int .u8 a0_11, .int .u8 a0_12, .int .u8 a0_13, .int .u8 a0_14, .int .u8 a0_15], .agg [.int .i64 a1_0, .int .i64 a1_1, .int .i64 a1_2, .int .i64 a1_3, .int .i64 a1_4, .int .i64 a1_5, .int .i64 a1_6, .int .i64 a1_7, .int .i64 a1_8, .int .i64 a1_9, .int .i64 a1_10, .int .i64 a1_11, .int .i64 a1_12, .int .i64 a1_13, .int .i64 a1_14, .bool a1_15, .bool a1_16], .agg [.int .i64 a2_0, .int .i64 a2_1]] ARGS) :
    Calls Try.prog 3 ARGS.toArray w fun e w' => e = .returned (.bool true) ∧ Below w.heap.size w w' := by
  obtain ⟨n, hn⟩ := law_ok a0_0 a0_1 a0_2 a0_3 a0_4 a0_5 a0_6 a0_7 a0_8 a0_9 a0_10 a0_11 a0_12 a0_13 a0_14 a0_15 a1_0 a1_1 a1_2 a1_3 a1_4 a1_5 a1_6 a1_7 a1_8 a1_9 a1_10 a1_11 a1_12 a1_13 a1_14 a1_15 a1_16 a2_0 a2_1 wa0_1 wa0_2 wa0_3 wa0_4 wa0_5 wa0_6 wa0_7 wa0_8 wa0_9 wa0_10 wa0_11 wa0_12 wa0_13 wa0_14 wa0_15 wa1_0 wa1_1 wa1_2 wa1_3 wa1_4 wa1_5 wa1_6 wa1_7 wa1_8 wa1_9 wa1_10 wa1_11 wa1_12 wa1_13 wa1_14 wa2_0 wa2_1
  exact Go.Sx.call_args okayed rfl ha Try.func3 body3_eq (run3 n a0_0 a0_1 a0_2 a0_3 a0_4 a0_5 a0_6 a0_7 a0_8 a0_9 a0_10 a0_11 a0_12 a0_13 a0_14 a0_15 a1_0 a1_1 a1_2 a1_3 a1_4 a1_5 a1_6 a1_7 a1_8 a1_9 a1_10 a1_11 a1_12 a1_13 a1_14 a1_15 a1_16 a2_0 a2_1 true hn) (fun _ _ h => by cases h)

set_option maxRecDepth 100000 in
theorem lifted (os : Os) (started : os.Started) (H : Type) (enc : TypeId × Value → H) :
    ReturnsInHanded {} Try.checked os 3 .any (Rows.shadeTellsSpec.pre6 enc Try.prog Try.f3 Rows.shadeTellsRow.domain false) (Rows.shadeTellsSpec.post enc Try.prog Try.f3 false true false false) := by
  refine returnsInHanded_of_change (C := Try.checked) own started (by kernel_rfl) Try.func3
    (ChangeSpec.witness6 (enc := enc) (C := Try.checked) false ⟨#[], #[.agg #[.bool false, .int .i16 0, .int .i16 0, .int .i16 0, .int .i16 0, .int .u16 0, .int .u16 0, .int .u8 0, .int .u8 0, .int .u8 0, .int .u8 0, .int .u8 0, .int .u8 0, .int .u8 0, .int .u8 0, .int .u8 0], .agg #[.int .i64 0, .int .i64 0, .int .i64 0, .int .i64 0, .int .i64 0, .int .i64 0, .int .i64 0, .int .i64 0, .int .i64 0, .int .i64 0, .int .i64 0, .int .i64 0, .int .i64 0, .int .i64 0, .int .i64 0, .bool false, .bool false], .agg #[.int .i64 0, .int .i64 0]], []⟩ 8 (by kernel_rfl) (by kernel_rfl) (by kernel_rfl) (by kernel_rfl)) ?_
  intro W base args ds gs before hval0 hW hcnd _
  have hval : ∀ (j : Nat) t v, Try.f3.params[j]? = some t → args[j]? = some v → Value.okWide Try.prog W .any base t v := hval0
  have hW' := hW
  obtain ⟨p, q, hA0, hV, rfl, hfz, hnd⟩ := hW
  have hA : DataW.TrodAll enc Try.prog W 0 (fun _ => true) true Try.f3.params.toList args.toList ds p := hA0
  rw [Try.params3] at hA hval
  obtain ⟨v0, vs0, d0, ds0, p0, q0, hargs, rfl, rfl, h0, r0⟩ := trodAll_cons hA
  obtain ⟨v1, vs1, d1, ds1, p1, q1, rfl, rfl, rfl, h1, r1⟩ := trodAll_cons r0
  obtain ⟨v2, vs2, d2, ds2, p2, q2, rfl, rfl, rfl, h2, r2⟩ := trodAll_cons r1
  obtain ⟨rfl, rfl, rfl⟩ := trodAll_nil r2
  obtain rfl : args = #[v0, v1, v2] := by cases args; simp_all
  obtain ⟨rfl, rfl⟩ := trodVars_none hV
  obtain ⟨rfl, as0, k0, e0⟩ := Go.Sx.open_kinds (ks := [.bool, .int .i16, .int .i16, .int .i16, .int .i16, .int .u16, .int .u16, .int .u8, .int .u8, .int .u8, .int .u8, .int .u8, .int .u8, .int .u8, .int .u8, .int .u8]) (by kernel_rfl) h0
  obtain ⟨a0_0, r0, rfl, k0⟩ := k0
  obtain ⟨a0_1, r0, rfl, wa0_1, k0⟩ := k0
  obtain ⟨a0_2, r0, rfl, wa0_2, k0⟩ := k0
  obtain ⟨a0_3, r0, rfl, wa0_3, k0⟩ := k0
  obtain ⟨a0_4, r0, rfl, wa0_4, k0⟩ := k0
  obtain ⟨a0_5, r0, rfl, wa0_5, k0⟩ := k0
  obtain ⟨a0_6, r0, rfl, wa0_6, k0⟩ := k0
  obtain ⟨a0_7, r0, rfl, wa0_7, k0⟩ := k0
  obtain ⟨a0_8, r0, rfl, wa0_8, k0⟩ := k0
  obtain ⟨a0_9, r0, rfl, wa0_9, k0⟩ := k0
  obtain ⟨a0_10, r0, rfl, wa0_10, k0⟩ := k0
  obtain ⟨a0_11, r0, rfl, wa0_11, k0⟩ := k0
  obtain ⟨a0_12, r0, rfl, wa0_12, k0⟩ := k0
  obtain ⟨a0_13, r0, rfl, wa0_13, k0⟩ := k0
  obtain ⟨a0_14, r0, rfl, wa0_14, k0⟩ := k0
  obtain ⟨a0_15, r0, rfl, wa0_15, k0⟩ := k0
  obtain rfl := k0
  obtain ⟨rfl, as1, k1, e1⟩ := Go.Sx.open_kinds (ks := [.int .i64, .int .i64, .int .i64, .int .i64, .int .i64, .int .i64, .int .i64, .int .i64, .int .i64, .int .i64, .int .i64, .int .i64, .int .i64, .int .i64, .int .i64, .bool, .bool]) (by kernel_rfl) h1
  obtain ⟨a1_0, r1, rfl, wa1_0, k1⟩ := k1
  obtain ⟨a1_1, r1, rfl, wa1_1, k1⟩ := k1
  obtain ⟨a1_2, r1, rfl, wa1_2, k1⟩ := k1
  obtain ⟨a1_3, r1, rfl, wa1_3, k1⟩ := k1
  obtain ⟨a1_4, r1, rfl, wa1_4, k1⟩ := k1
  obtain ⟨a1_5, r1, rfl, wa1_5, k1⟩ := k1
  obtain ⟨a1_6, r1, rfl, wa1_6, k1⟩ := k1
  obtain ⟨a1_7, r1, rfl, wa1_7, k1⟩ := k1
  obtain ⟨a1_8, r1, rfl, wa1_8, k1⟩ := k1
  obtain ⟨a1_9, r1, rfl, wa1_9, k1⟩ := k1
  obtain ⟨a1_10, r1, rfl, wa1_10, k1⟩ := k1
  obtain ⟨a1_11, r1, rfl, wa1_11, k1⟩ := k1
  obtain ⟨a1_12, r1, rfl, wa1_12, k1⟩ := k1
  obtain ⟨a1_13, r1, rfl, wa1_13, k1⟩ := k1
  obtain ⟨a1_14, r1, rfl, wa1_14, k1⟩ := k1
  obtain ⟨a1_15, r1, rfl, k1⟩ := k1
  obtain ⟨a1_16, r1, rfl, k1⟩ := k1
  obtain rfl := k1
  obtain ⟨rfl, as2, k2, e2⟩ := Go.Sx.open_kinds (ks := [.int .i64, .int .i64]) (by kernel_rfl) h2
  obtain ⟨a2_0, r2, rfl, wa2_0, k2⟩ := k2
  obtain ⟨a2_1, r2, rfl, wa2_1, k2⟩ := k2
  obtain rfl := k2
  clear hA0
  simp only [List.append_nil] at hW'
  have hrel : Go.Sx.RelL (fun _ => none) [.agg [.bool a0_0, .int .i16 a0_1, .int .i16 a0_2, .int .i16 a0_3, .int .i16 a0_4, .int .u16 a0_5, .int .u16 a0_6, .int .u8 a0_7, .int .u8 a0_8, .int .u8 a0_9, .int .u8 a0_10, .int .u8 a0_11, .int .u8 a0_12, .int .u8 a0_13, .int .u8 a0_14, .int .u8 a0_15], .agg [.int .i64 a1_0, .int .i64 a1_1, .int .i64 a1_2, .int .i64 a1_3, .int .i64 a1_4, .int .i64 a1_5, .int .i64 a1_6, .int .i64 a1_7, .int .i64 a1_8, .int .i64 a1_9, .int .i64 a1_10, .int .i64 a1_11, .int .i64 a1_12, .int .i64 a1_13, .int .i64 a1_14, .bool a1_15, .bool a1_16], .agg [.int .i64 a2_0, .int .i64 a2_1]] [v0, v1, v2] := ⟨_, _, Go.Sx.rel_agg (.inl ⟨_, Try.underlying27⟩) (hval 0 27 v0 rfl rfl) e0, ⟨_, _, Go.Sx.rel_agg (.inl ⟨_, Try.underlying33⟩) (hval 1 33 v1 rfl rfl) e1, ⟨_, _, Go.Sx.rel_agg (.inl ⟨_, Try.underlying29⟩) (hval 2 29 v2 rfl rfl) e2, rfl, rfl⟩, rfl⟩, rfl⟩
  refine (walk a0_0 a0_1 a0_2 a0_3 a0_4 a0_5 a0_6 a0_7 a0_8 a0_9 a0_10 a0_11 a0_12 a0_13 a0_14 a0_15 a1_0 a1_1 a1_2 a1_3 a1_4 a1_5 a1_6 a1_7 a1_8 a1_9 a1_10 a1_11 a1_12 a1_13 a1_14 a1_15 a1_16 a2_0 a2_1 wa0_1 wa0_2 wa0_3 wa0_4 wa0_5 wa0_6 wa0_7 wa0_8 wa0_9 wa0_10 wa0_11 wa0_12 wa0_13 wa0_14 wa0_15 wa1_0 wa1_1 wa1_2 wa1_3 wa1_4 wa1_5 wa1_6 wa1_7 wa1_8 wa1_9 wa1_10 wa1_11 wa1_12 wa1_13 wa1_14 wa2_0 wa2_1  hrel).mono fun e W' ⟨he, hg⟩ => ?_
  subst he
  exact ⟨_, rfl, Go.Sx.post_of_below (pa := []) (pv := []) hW' (fun _ _ _ => (trodAll_cons_mk (shut_bool Try.underlying4 _) trodAll_mk0)) (fun sp _ => (trodAll_cons_mk (Go.Sx.stays laidOut (by kernel_rfl) (Nat.le_of_ble_eq_true (by kernel_rfl)) h0) (trodAll_cons_mk (Go.Sx.stays laidOut (by kernel_rfl) (Nat.le_of_ble_eq_true (by kernel_rfl)) h1) (trodAll_cons_mk (Go.Sx.stays laidOut (by kernel_rfl) (Nat.le_of_ble_eq_true (by kernel_rfl)) h2) trodAll_mk0)))) (fun _ _ => rfl) rfl
    hg (ok_one (by kernel_rfl) rfl (okWide_bool_mk Try.underlying4 _))⟩

theorem over : Rows.shadeTellsRow.holds Try.pinned (OpenSpec.ofChange Rows.shadeTellsSpec) :=
  OpenClaim.holds_of_wide 3 Try.f3 rfl rfl rfl rfl rfl rfl rfl ⟨rfl, rfl, rfl, rfl, rfl⟩ rfl rfl rfl rfl rfl (by kernel_rfl) Try.func3 (by kernel_rfl)
    (of_decide_eq_true (by kernel_rfl)) (by unfold Func.isWrapper; first | (rw [if_pos (by decide +kernel)]; kernel_rfl) | (rw [if_neg (by decide +kernel)]; exact ⟨rfl, rfl⟩))
    (fun os started H enc _ => lifted os started H enc)

theorem proved : Rows.ShadeTellsSaid := over
#print axioms proved
end Go.Proofs.Ytgfpkhhbpnnjjaa.shadeTells
