/- 'chase/chaselaw20.MatrixUnits' returns true for every argument, and nothing that was there is changed. The first part is the text before: each function of the run as a term. Here: the numbers, and the rest. -/
import Derived.Test.YtlfmockpeajfkaaMatrixUnitsA
namespace Go.Proofs.Ytlfmockpeajfkaa.matrixUnits
open Go.ChangeShapes Go.WideShapes Go.ChangeAt Go.WideMaps Go.WideElems Go.RowKit
set_option linter.unusedVariables false
section
open Go.Sx
set_option maxRecDepth 1000000

set_option maxRecDepth 100000
theorem cS {α : Type} (b : Bool) (x y : α) : (bif b then some x else some y) = some (bif b then x else y) := by cases b <;> rfl
theorem condP (b x y : Bool) : ((bif b then x else y) = true) = ((b = true ∧ x = true) ∨ (b = false ∧ y = true)) := by cases b <;> simp
theorem condF (b x y : Bool) : ((bif b then x else y) = false) = ((b = true ∧ x = false) ∨ (b = false ∧ y = false)) := by cases b <;> simp
theorem nneg_f (b : Bool) : ((!b) = false) = (b = true) := by cases b <;> simp
theorem andB_t (a b : Bool) : (andB a b = true) = (a = true ∧ b = true) := by cases a <;> simp [andB]
theorem andB_f (a b : Bool) : (andB a b = false) = (a = false ∨ b = false) := by cases a <;> simp [andB]
theorem strNil_t (s : List Nat) : (strEq s [] = true) = (s.length = 0) := by cases s <;> simp [strEq]
theorem strNil_f (s : List Nat) : (strEq s [] = false) = (s.length ≠ 0) := by cases s <;> simp [strEq]
theorem strEq_same (s : List Nat) : strEq s s = true := by simp [strEq]
theorem eqI_same (n : Int) : eqI n n = true := by rw [eqI_t]
abbrev T7 := Int × Int × Int × Int × Int × Int × Int
theorem in_t (x y : Int) (h1 : 0 ≤ y) (h2 : y ≤ 9223372036854775807) : (F38_0 x y = true) = (-y ≤ x ∧ x ≤ y) := by
  unfold F38_0 F38 c38_0
  rw [kwrap_eq, wrap64 (by omega) (by omega)]
  cases e1 : ltI x (0 - y) <;> cases e2 : ltI y x <;> simp only [Bool.not_true, Bool.not_false, cond_true, cond_false, Option.getD_some, ltI_t, ltI_f] at * <;> simp <;> omega
theorem in46 (x y : Int) : F46_0 x y = F38_0 x y := rfl
theorem ok_t (a b c d e f : Int) : (F39_0 a b c d e f = true) = ((-16777216 ≤ a ∧ a ≤ 16777216) ∧ (-16777216 ≤ b ∧ b ≤ 16777216) ∧ (-16777216 ≤ c ∧ c ≤ 16777216) ∧ (-16777216 ≤ d ∧ d ≤ 16777216) ∧ (-536870912 ≤ e ∧ e ≤ 536870912) ∧ (-536870912 ≤ f ∧ f ≤ 536870912)) := by
  unfold F39_0 F39
  simp only [in46, cS, Option.getD_some, condP, in_t _ 16777216 (by decide) (by decide), in_t _ 536870912 (by decide) (by decide), Bool.false_eq_true, and_false, or_false]
theorem F39v (a b c d e f : Int) : F39 a b c d e f = some (F39_0 a b c d e f) := by
  unfold F39_0 F39; simp only [cS, Option.getD_some]
theorem F11v (a b c d e f : Int) : F11 a b c d e f = some (bif F39_0 a b c d e f then 0 else 300) := by
  unfold F11 F39_0 F39
  simp only [in46]
  cases F38_0 a 16777216 <;> cases F38_0 b 16777216 <;> cases F38_0 c 16777216 <;> cases F38_0 d 16777216 <;> cases F38_0 e 536870912 <;> cases F38_0 f 536870912 <;> rfl
theorem F12v (a b c d e f : Int) : F12 a b c d e f = some (bif F39_0 a b c d e f then 0 else 300) := by
  unfold F12; cases F39_0 a b c d e f <;> rfl
noncomputable def endN (a b c d e f : Int) : T7 := bif F39_0 a b c d e f then (a, b, c, d, e, f, 0) else (0, 0, 0, 0, 0, 0, 26)
theorem F51v (a b c d e f : Int) : F51 a b c d e f = some (endN a b c d e f) := by
  unfold F51 F11_0 endN; rw [F11v]; cases F39_0 a b c d e f <;> rfl
theorem F53v (a b c d e f : Int) : F53 a b c d e f = some (endN a b c d e f) := by
  unfold F53 endN; cases F39_0 a b c d e f <;> rfl
noncomputable def rnd (n : Int) : Int := (n + 32768) / 65536
theorem mul0 (x y : Int) {a b : Int} (hx1 : -a ≤ x) (hx2 : x ≤ a) (hy1 : -b ≤ y) (hy2 : y ≤ b) (hab : a * b ≤ 1152921504606846976) : wrapA .i64 (Int.mul x y) = x * y ∧ -1152921504606846976 ≤ x * y ∧ x * y ≤ 1152921504606846976 := by
  obtain ⟨h1, h2⟩ := mul_bd hx1 hx2 hy1 hy2
  refine ⟨?_, by omega, by omega⟩
  simp only [mul_int]; exact wrap64 (by omega) (by omega)
theorem pr1 {u : Int} (h1 : -4611686018427387904 ≤ u) (h2 : u ≤ 4611686018427387904) : Int.fdiv (wrapA .i64 (Int.add (wrapA .i64 (Int.add 0 u)) 32768)) 65536 = rnd u := by
  simp only [add_int, Int.zero_add]
  rw [wrap64 (n := u) (by omega) (by omega), wrap64 (by omega) (by omega), fdiv_pos _ (by decide)]; rfl
theorem pr2 {u v : Int} (h1 : -2305843009213693952 ≤ u) (h2 : u ≤ 2305843009213693952) (h3 : -2305843009213693952 ≤ v) (h4 : v ≤ 2305843009213693952) : Int.fdiv (wrapA .i64 (Int.add (wrapA .i64 (Int.add (wrapA .i64 (Int.add 0 u)) v)) 32768)) 65536 = rnd (u + v) := by
  simp only [add_int, Int.zero_add]
  rw [wrap64 (n := u) (by omega) (by omega), wrap64 (n := u + v) (by omega) (by omega), wrap64 (by omega) (by omega), fdiv_pos _ (by decide)]; rfl
theorem floor_ok {x y : Int} (hy : 0 < y) (h1 : -4611686018427387904 ≤ x) (h2 : x ≤ 4611686018427387904) : F58 x y = some (x / y) := by
  have t := tdiv_floor (a := x) hy
  have e : eqI y 0 = false := by rw [eqI_f]; omega
  obtain ⟨b1, b2⟩ := tdiv_bd (a := x) hy
  have w : wrapA .i64 (Int.tdiv x y) = Int.tdiv x y := wrap64 (by omega) (by omega)
  have w2 : wrapA .i64 (Int.sub (Int.tdiv x y) 1) = Int.tdiv x y - 1 := by simp only [sub_int]; exact wrap64 (by omega) (by omega)
  unfold F58
  rw [e, w, w2, ← t]
  by_cases q : Int.tmod x y < 0
  · rw [(ltI_t _ _).mpr q, if_pos q]; rfl
  · rw [(ltI_f _ _).mpr (by omega), if_neg q]; rfl
theorem round_ok {x y : Int} (hy : 0 < y) (hy2 : y ≤ 1073741824) (h1 : -1305843009213693952 ≤ x) (h2 : x ≤ 1305843009213693952) : F54 x y = some ((2 * x + y) / (2 * y)) := by
  have w1 : wrapA .i64 (Int.mul 2 x) = 2 * x := by simp only [mul_int]; exact wrap64 (by omega) (by omega)
  have w2 : wrapA .i64 (Int.add (2 * x) y) = 2 * x + y := by simp only [add_int]; exact wrap64 (by omega) (by omega)
  have w3 : wrapA .i64 (Int.mul 2 y) = 2 * y := by simp only [mul_int]; exact wrap64 (by omega) (by omega)
  have f := floor_ok (x := 2 * x + y) (y := 2 * y) (by omega) (by omega) (by omega)
  unfold F54 t54_0 F58_0; rw [w1, w2, w3, f]; rfl
theorem rnd_ok {x : Int} (h1 : -1305843009213693952 ≤ x) (h2 : x ≤ 1305843009213693952) : F54 x 65536 = some (rnd x) := by
  rw [round_ok (by decide) (by decide) h1 h2]
  refine congrArg some ?_
  unfold rnd; omega
noncomputable def catN (a b c d e f a1 b1 c1 d1 e1 f1 : Int) : T7 := bif F39_0 a b c d e f then (bif F39_0 a1 b1 c1 d1 e1 f1 then endN (rnd (a * a1 + b * c1)) (rnd (a * b1 + b * d1)) (rnd (c * a1 + d * c1)) (rnd (c * b1 + d * d1)) (rnd (e * a1 + f * c1) + e1) (rnd (e * b1 + f * d1) + f1) else (0, 0, 0, 0, 0, 0, 300)) else (0, 0, 0, 0, 0, 0, 300)
theorem rnd_bd {x : Int} (h1 : -2305843009213693952 ≤ x) (h2 : x ≤ 2305843009213693952) : -35184372088833 ≤ rnd x ∧ rnd x ≤ 35184372088833 := by unfold rnd; omega
theorem cat_ok (a b c d e f a1 b1 c1 d1 e1 f1 : Int) : F23 a b c d e f a1 b1 c1 d1 e1 f1 = some (catN a b c d e f a1 b1 c1 d1 e1 f1) := by
  unfold F23 catN F11_0; rw [F11v, F11v]
  cases h : F39_0 a b c d e f with
  | false => rfl
  | true =>
    cases g : F39_0 a1 b1 c1 d1 e1 f1 with
    | false => rfl
    | true =>
      rw [ok_t] at h g
      obtain ⟨⟨ha1, ha2⟩, ⟨hb1, hb2⟩, ⟨hc1, hc2⟩, ⟨hd1, hd2⟩, ⟨he1, he2⟩, ⟨hf1, hf2⟩⟩ := h
      obtain ⟨⟨ga1, ga2⟩, ⟨gb1, gb2⟩, ⟨gc1, gc2⟩, ⟨gd1, gd2⟩, ⟨ge1, ge2⟩, ⟨gf1, gf2⟩⟩ := g
      obtain ⟨p1, q1, r1⟩ := mul0 a a1 ha1 ha2 ga1 ga2 (by decide)
      obtain ⟨p2, q2, r2⟩ := mul0 b c1 hb1 hb2 gc1 gc2 (by decide)
      obtain ⟨p3, q3, r3⟩ := mul0 a b1 ha1 ha2 gb1 gb2 (by decide)
      obtain ⟨p4, q4, r4⟩ := mul0 b d1 hb1 hb2 gd1 gd2 (by decide)
      obtain ⟨p5, q5, r5⟩ := mul0 c a1 hc1 hc2 ga1 ga2 (by decide)
      obtain ⟨p6, q6, r6⟩ := mul0 d c1 hd1 hd2 gc1 gc2 (by decide)
      obtain ⟨p7, q7, r7⟩ := mul0 c b1 hc1 hc2 gb1 gb2 (by decide)
      obtain ⟨p8, q8, r8⟩ := mul0 d d1 hd1 hd2 gd1 gd2 (by decide)
      obtain ⟨p9, q9, r9⟩ := mul0 e a1 he1 he2 ga1 ga2 (by decide)
      obtain ⟨pa, qa, ra⟩ := mul0 f c1 hf1 hf2 gc1 gc2 (by decide)
      obtain ⟨pb, qb, rb⟩ := mul0 e b1 he1 he2 gb1 gb2 (by decide)
      obtain ⟨pc, qc, rc⟩ := mul0 f d1 hf1 hf2 gd1 gd2 (by decide)
      have x0 : t23_0 a b a1 c1 = rnd (a * a1 + b * c1) := by unfold t23_0; rw [p1, p2]; exact pr2 (by omega) (by omega) (by omega) (by omega)
      have x1 : t23_1 a b b1 d1 = rnd (a * b1 + b * d1) := by unfold t23_1; rw [p3, p4]; exact pr2 (by omega) (by omega) (by omega) (by omega)
      have x2 : t23_2 c d a1 c1 = rnd (c * a1 + d * c1) := by unfold t23_2; rw [p5, p6]; exact pr2 (by omega) (by omega) (by omega) (by omega)
      have x3 : t23_3 c d b1 d1 = rnd (c * b1 + d * d1) := by unfold t23_3; rw [p7, p8]; exact pr2 (by omega) (by omega) (by omega) (by omega)
      obtain ⟨k1, k2⟩ := rnd_bd (x := e * a1 + f * c1) (by omega) (by omega)
      obtain ⟨k3, k4⟩ := rnd_bd (x := e * b1 + f * d1) (by omega) (by omega)
      have x4 : t23_4 e f a1 c1 e1 = rnd (e * a1 + f * c1) + e1 := by unfold t23_4; rw [p9, pa, pr2 (by omega) (by omega) (by omega) (by omega)]; simp only [add_int]; exact wrap64 (by omega) (by omega)
      have x5 : t23_5 e f b1 d1 f1 = rnd (e * b1 + f * d1) + f1 := by unfold t23_5; rw [pb, pc, pr2 (by omega) (by omega) (by omega) (by omega)]; simp only [add_int]; exact wrap64 (by omega) (by omega)
      simp only [t23_6, t23_7, t23_8, t23_9, t23_10, t23_11, t23_12, x0, x1, x2, x3, x4, x5, F51_0, F51_1, F51_2, F51_3, F51_4, F51_5, F51_6, F51v, Option.getD_some]
      rfl
theorem cat_ref (a b c d e f a1 b1 c1 d1 e1 f1 : Int) : F24 a b c d e f a1 b1 c1 d1 e1 f1 = some (catN a b c d e f a1 b1 c1 d1 e1 f1) := by
  unfold F24 catN
  cases h : F39_0 a b c d e f with
  | false => rfl
  | true =>
    cases g : F39_0 a1 b1 c1 d1 e1 f1 with
    | false => rfl
    | true =>
      rw [ok_t] at h g
      obtain ⟨⟨ha1, ha2⟩, ⟨hb1, hb2⟩, ⟨hc1, hc2⟩, ⟨hd1, hd2⟩, ⟨he1, he2⟩, ⟨hf1, hf2⟩⟩ := h
      obtain ⟨⟨ga1, ga2⟩, ⟨gb1, gb2⟩, ⟨gc1, gc2⟩, ⟨gd1, gd2⟩, ⟨ge1, ge2⟩, ⟨gf1, gf2⟩⟩ := g
      obtain ⟨p1, q1, r1⟩ := mul0 a a1 ha1 ha2 ga1 ga2 (by decide)
      obtain ⟨p2, q2, r2⟩ := mul0 b c1 hb1 hb2 gc1 gc2 (by decide)
      obtain ⟨p3, q3, r3⟩ := mul0 a b1 ha1 ha2 gb1 gb2 (by decide)
      obtain ⟨p4, q4, r4⟩ := mul0 b d1 hb1 hb2 gd1 gd2 (by decide)
      obtain ⟨p5, q5, r5⟩ := mul0 c a1 hc1 hc2 ga1 ga2 (by decide)
      obtain ⟨p6, q6, r6⟩ := mul0 d c1 hd1 hd2 gc1 gc2 (by decide)
      obtain ⟨p7, q7, r7⟩ := mul0 c b1 hc1 hc2 gb1 gb2 (by decide)
      obtain ⟨p8, q8, r8⟩ := mul0 d d1 hd1 hd2 gd1 gd2 (by decide)
      obtain ⟨p9, q9, r9⟩ := mul0 e a1 he1 he2 ga1 ga2 (by decide)
      obtain ⟨pa, qa, ra⟩ := mul0 f c1 hf1 hf2 gc1 gc2 (by decide)
      obtain ⟨pb, qb, rb⟩ := mul0 e b1 he1 he2 gb1 gb2 (by decide)
      obtain ⟨pc, qc, rc⟩ := mul0 f d1 hf1 hf2 gd1 gd2 (by decide)
      obtain ⟨b1', b2'⟩ := mul_bd he1 he2 ga1 ga2
      obtain ⟨b3', b4'⟩ := mul_bd hf1 hf2 gc1 gc2
      obtain ⟨b5', b6'⟩ := mul_bd he1 he2 gb1 gb2
      obtain ⟨b7', b8'⟩ := mul_bd hf1 hf2 gd1 gd2
      obtain ⟨c1', c2'⟩ := mul_bd ha1 ha2 ga1 ga2
      obtain ⟨c3', c4'⟩ := mul_bd hb1 hb2 gc1 gc2
      obtain ⟨c5', c6'⟩ := mul_bd ha1 ha2 gb1 gb2
      obtain ⟨c7', c8'⟩ := mul_bd hb1 hb2 gd1 gd2
      obtain ⟨d1', d2'⟩ := mul_bd hc1 hc2 ga1 ga2
      obtain ⟨d3', d4'⟩ := mul_bd hd1 hd2 gc1 gc2
      obtain ⟨d5', d6'⟩ := mul_bd hc1 hc2 gb1 gb2
      obtain ⟨d7', d8'⟩ := mul_bd hd1 hd2 gd1 gd2
      have s : ∀ u v : Int, -11529215046068469 ≤ u → u ≤ 11529215046068469 → -11529215046068469 ≤ v → v ≤ 11529215046068469 → F54 (wrapA .i64 (Int.add u v)) 65536 = some (rnd (u + v)) := by
        intro u v h1 h2 h3 h4
        simp only [add_int]; rw [wrap64 (by omega) (by omega)]; exact rnd_ok (by omega) (by omega)
      obtain ⟨k1, k2⟩ := rnd_bd (x := e * a1 + f * c1) (by omega) (by omega)
      obtain ⟨k3, k4⟩ := rnd_bd (x := e * b1 + f * d1) (by omega) (by omega)
      have w4 : wrapA .i64 (Int.add (rnd (e * a1 + f * c1)) e1) = rnd (e * a1 + f * c1) + e1 := by simp only [add_int]; exact wrap64 (by omega) (by omega)
      have w5 : wrapA .i64 (Int.add (rnd (e * b1 + f * d1)) f1) = rnd (e * b1 + f * d1) + f1 := by simp only [add_int]; exact wrap64 (by omega) (by omega)
      have s0 := s (a * a1) (b * c1) (by omega) (by omega) (by omega) (by omega)
      have s1 := s (a * b1) (b * d1) (by omega) (by omega) (by omega) (by omega)
      have s2 := s (c * a1) (d * c1) (by omega) (by omega) (by omega) (by omega)
      have s3 := s (c * b1) (d * d1) (by omega) (by omega) (by omega) (by omega)
      have s4 := s (e * a1) (f * c1) (by omega) (by omega) (by omega) (by omega)
      have s5 := s (e * b1) (f * d1) (by omega) (by omega) (by omega) (by omega)
      simp only [t24_0, t24_1, t24_2, t24_3, t24_4, t24_5, t24_6, t24_7, t24_8, t24_9, t24_10, t24_11, t24_12, p1, p2, p3, p4, p5, p6, p7, p8, p9, pa, pb, pc, F54_0, s0, s1, s2, s3, s4, s5, w4, w5, F53_0, F53_1, F53_2, F53_3, F53_4, F53_5, F53_6, F53v, Option.getD_some, Option.isSome_some, Bool.not_true, cond_true, cond_false]
noncomputable def chk (a b c d e f x y : Int) : Int := bif F39_0 a b c d e f then (bif F38_0 x 2147483648 then (bif F38_0 y 2147483648 then 0 else 2) else 2) else 300
theorem F42v (a b c d e f x y : Int) : F42 a b c d e f x y = some (chk a b c d e f x y) := by
  unfold F42 chk; simp only [in46]
  cases F39_0 a b c d e f <;> cases F38_0 x 2147483648 <;> cases F38_0 y 2147483648 <;> rfl
theorem chk_0 {a b c d e f x y : Int} (h : chk a b c d e f x y = 0) : F39_0 a b c d e f = true ∧ F38_0 x 2147483648 = true ∧ F38_0 y 2147483648 = true := by
  unfold chk at h
  cases h1 : F39_0 a b c d e f <;> cases h2 : F38_0 x 2147483648 <;> cases h3 : F38_0 y 2147483648 <;> rw [h1, h2, h3] at h <;> first | exact ⟨rfl, rfl, rfl⟩ | (exfalso; revert h; decide)
noncomputable def trN (a b c d e f x y : Int) : T7 := bif eqI (chk a b c d e f x y) 0 then endN a b c d (rnd (a * x + c * y) + e) (rnd (b * x + d * y) + f) else (0, 0, 0, 0, 0, 0, chk a b c d e f x y)
noncomputable def scN (a b c d e f x y : Int) : T7 := bif eqI (chk a b c d e f x y) 0 then endN (rnd (a * x)) (rnd (b * x)) (rnd (c * y)) (rnd (d * y)) e f else (0, 0, 0, 0, 0, 0, chk a b c d e f x y)
theorem chk_cases (a b c d e f x y : Int) : (F39_0 a b c d e f = false ∧ chk a b c d e f x y = 300) ∨ (F39_0 a b c d e f = true ∧ F38_0 x 2147483648 = false ∧ chk a b c d e f x y = 2) ∨ (F39_0 a b c d e f = true ∧ F38_0 x 2147483648 = true ∧ F38_0 y 2147483648 = false ∧ chk a b c d e f x y = 2) ∨ (F39_0 a b c d e f = true ∧ F38_0 x 2147483648 = true ∧ F38_0 y 2147483648 = true ∧ chk a b c d e f x y = 0) := by
  unfold chk
  cases F39_0 a b c d e f <;> cases F38_0 x 2147483648 <;> cases F38_0 y 2147483648 <;> simp
theorem args_bd {a b c d e f x y : Int} (h : F39_0 a b c d e f = true) (hx : F38_0 x 2147483648 = true) (hy : F38_0 y 2147483648 = true) :
    (wrapA .i64 (Int.mul a x) = a * x ∧ -36028797018963968 ≤ a * x ∧ a * x ≤ 36028797018963968) ∧ (wrapA .i64 (Int.mul b x) = b * x ∧ -36028797018963968 ≤ b * x ∧ b * x ≤ 36028797018963968) ∧ (wrapA .i64 (Int.mul c y) = c * y ∧ -36028797018963968 ≤ c * y ∧ c * y ≤ 36028797018963968) ∧ (wrapA .i64 (Int.mul d y) = d * y ∧ -36028797018963968 ≤ d * y ∧ d * y ≤ 36028797018963968) ∧ (-536870912 ≤ e ∧ e ≤ 536870912) ∧ (-536870912 ≤ f ∧ f ≤ 536870912) := by
  rw [ok_t] at h
  rw [in_t _ _ (by decide) (by decide)] at hx hy
  obtain ⟨⟨ha1, ha2⟩, ⟨hb1, hb2⟩, ⟨hc1, hc2⟩, ⟨hd1, hd2⟩, he, hf⟩ := h
  obtain ⟨q1, r1⟩ := mul_bd ha1 ha2 hx.1 hx.2
  obtain ⟨q2, r2⟩ := mul_bd hb1 hb2 hx.1 hx.2
  obtain ⟨q3, r3⟩ := mul_bd hc1 hc2 hy.1 hy.2
  obtain ⟨q4, r4⟩ := mul_bd hd1 hd2 hy.1 hy.2
  refine ⟨⟨?_, by omega, by omega⟩, ⟨?_, by omega, by omega⟩, ⟨?_, by omega, by omega⟩, ⟨?_, by omega, by omega⟩, he, hf⟩ <;> (simp only [mul_int]; exact wrap64 (by omega) (by omega))
theorem tr_ok (a b c d e f x y : Int) : F25 a b c d e f x y = some (trN a b c d e f x y) := by
  have z : eqI 300 0 = false := rfl
  have z2 : eqI 2 0 = false := rfl
  have z0 : eqI 0 0 = true := rfl
  unfold F25 trN F11_0; rw [F11v]
  rcases chk_cases a b c d e f x y with ⟨h, g⟩ | ⟨h, hx, g⟩ | ⟨h, hx, hy, g⟩ | ⟨h, hx, hy, g⟩
  · simp only [h, g, z, Option.getD_some, Bool.not_false, cond_true, cond_false]
  · simp only [h, hx, g, z0, z2, Option.getD_some, Bool.not_false, Bool.not_true, cond_true, cond_false]
  · simp only [h, hx, hy, g, z0, z2, Option.getD_some, Bool.not_false, Bool.not_true, cond_true, cond_false]
  · obtain ⟨⟨p1, q1, r1⟩, ⟨p2, q2, r2⟩, ⟨p3, q3, r3⟩, ⟨p4, q4, r4⟩, ⟨e1, e2⟩, ⟨f1, f2⟩⟩ := args_bd h hx hy
    obtain ⟨k1, k2⟩ := rnd_bd (x := a * x + c * y) (by omega) (by omega)
    obtain ⟨k3, k4⟩ := rnd_bd (x := b * x + d * y) (by omega) (by omega)
    have x0 : t25_0 a c e x y = rnd (a * x + c * y) + e := by unfold t25_0; rw [p1, p3, pr2 (by omega) (by omega) (by omega) (by omega)]; simp only [add_int]; exact wrap64 (by omega) (by omega)
    have x1 : t25_1 b d f x y = rnd (b * x + d * y) + f := by unfold t25_1; rw [p2, p4, pr2 (by omega) (by omega) (by omega) (by omega)]; simp only [add_int]; exact wrap64 (by omega) (by omega)
    simp only [h, hx, hy, g, z0, t25_2, t25_3, t25_4, t25_5, t25_6, t25_7, t25_8, x0, x1, F51_0, F51_1, F51_2, F51_3, F51_4, F51_5, F51_6, F51v, Option.getD_some, Bool.not_true, cond_true, cond_false]
theorem tr_ref (a b c d e f x y : Int) : F26 a b c d e f x y = some (trN a b c d e f x y) := by
  have z : eqI 300 0 = false := rfl
  have z2 : eqI 2 0 = false := rfl
  have z0 : eqI 0 0 = true := rfl
  unfold F26 trN c26_0 F42_0; rw [F42v]
  rcases chk_cases a b c d e f x y with ⟨h, g⟩ | ⟨h, hx, g⟩ | ⟨h, hx, hy, g⟩ | ⟨h, hx, hy, g⟩
  · simp only [g, z, Option.getD_some, Bool.not_false, cond_true, cond_false]
  · simp only [g, z2, Option.getD_some, Bool.not_false, cond_true, cond_false]
  · simp only [g, z2, Option.getD_some, Bool.not_false, cond_true, cond_false]
  · obtain ⟨⟨p1, q1, r1⟩, ⟨p2, q2, r2⟩, ⟨p3, q3, r3⟩, ⟨p4, q4, r4⟩, ⟨e1, e2⟩, ⟨f1, f2⟩⟩ := args_bd h hx hy
    have s : ∀ u v : Int, -36028797018963968 ≤ u → u ≤ 36028797018963968 → -36028797018963968 ≤ v → v ≤ 36028797018963968 → F54 (wrapA .i64 (Int.add u v)) 65536 = some (rnd (u + v)) := by
      intro u v h1 h2 h3 h4
      simp only [add_int]; rw [wrap64 (by omega) (by omega)]; exact rnd_ok (by omega) (by omega)
    obtain ⟨k1, k2⟩ := rnd_bd (x := a * x + c * y) (by omega) (by omega)
    obtain ⟨k3, k4⟩ := rnd_bd (x := b * x + d * y) (by omega) (by omega)
    have w0 : wrapA .i64 (Int.add (rnd (a * x + c * y)) e) = rnd (a * x + c * y) + e := by simp only [add_int]; exact wrap64 (by omega) (by omega)
    have w1 : wrapA .i64 (Int.add (rnd (b * x + d * y)) f) = rnd (b * x + d * y) + f := by simp only [add_int]; exact wrap64 (by omega) (by omega)
    have s0 := s (a * x) (c * y) q1 r1 q3 r3
    have s1 := s (b * x) (d * y) q2 r2 q4 r4
    simp only [g, z0, t26_1, t26_2, t26_3, t26_4, t26_5, t26_6, t26_7, t26_8, t26_9, p1, p2, p3, p4, F54_0, s0, s1, w0, w1, F53_0, F53_1, F53_2, F53_3, F53_4, F53_5, F53_6, F53v, Option.getD_some, Option.isSome_some, Bool.not_true, cond_true, cond_false]
theorem sc_ok (a b c d e f x y : Int) : F27 a b c d e f x y = some (scN a b c d e f x y) := by
  have z : eqI 300 0 = false := rfl
  have z2 : eqI 2 0 = false := rfl
  have z0 : eqI 0 0 = true := rfl
  unfold F27 scN F11_0; rw [F11v]
  rcases chk_cases a b c d e f x y with ⟨h, g⟩ | ⟨h, hx, g⟩ | ⟨h, hx, hy, g⟩ | ⟨h, hx, hy, g⟩
  · simp only [h, g, z, Option.getD_some, Bool.not_false, cond_true, cond_false]
  · simp only [h, hx, g, z0, z2, Option.getD_some, Bool.not_false, Bool.not_true, cond_true, cond_false]
  · simp only [h, hx, hy, g, z0, z2, Option.getD_some, Bool.not_false, Bool.not_true, cond_true, cond_false]
  · obtain ⟨⟨p1, q1, r1⟩, ⟨p2, q2, r2⟩, ⟨p3, q3, r3⟩, ⟨p4, q4, r4⟩, ⟨e1, e2⟩, ⟨f1, f2⟩⟩ := args_bd h hx hy
    have x0 : t27_0 a x = rnd (a * x) := by unfold t27_0; rw [p1]; exact pr1 (by omega) (by omega)
    have x1 : t27_1 b x = rnd (b * x) := by unfold t27_1; rw [p2]; exact pr1 (by omega) (by omega)
    have x2 : t27_2 c y = rnd (c * y) := by unfold t27_2; rw [p3]; exact pr1 (by omega) (by omega)
    have x3 : t27_3 d y = rnd (d * y) := by unfold t27_3; rw [p4]; exact pr1 (by omega) (by omega)
    simp only [h, hx, hy, g, z0, x0, x1, x2, x3, F51_0, F51_1, F51_2, F51_3, F51_4, F51_5, F51_6, F51v, Option.getD_some, Bool.not_true, cond_true, cond_false]
theorem sc_ref (a b c d e f x y : Int) : F28 a b c d e f x y = some (scN a b c d e f x y) := by
  have z : eqI 300 0 = false := rfl
  have z2 : eqI 2 0 = false := rfl
  have z0 : eqI 0 0 = true := rfl
  unfold F28 scN c28_0 F42_0; rw [F42v]
  rcases chk_cases a b c d e f x y with ⟨h, g⟩ | ⟨h, hx, g⟩ | ⟨h, hx, hy, g⟩ | ⟨h, hx, hy, g⟩
  · simp only [g, z, Option.getD_some, Bool.not_false, cond_true, cond_false]
  · simp only [g, z2, Option.getD_some, Bool.not_false, cond_true, cond_false]
  · simp only [g, z2, Option.getD_some, Bool.not_false, cond_true, cond_false]
  · obtain ⟨⟨p1, q1, r1⟩, ⟨p2, q2, r2⟩, ⟨p3, q3, r3⟩, ⟨p4, q4, r4⟩, ⟨e1, e2⟩, ⟨f1, f2⟩⟩ := args_bd h hx hy
    have s0 := rnd_ok (x := a * x) (by omega) (by omega)
    have s1 := rnd_ok (x := b * x) (by omega) (by omega)
    have s2 := rnd_ok (x := c * y) (by omega) (by omega)
    have s3 := rnd_ok (x := d * y) (by omega) (by omega)
    simp only [g, z0, t28_1, t28_2, t28_3, t28_4, t28_5, t28_6, t28_7, p1, p2, p3, p4, F54_0, s0, s1, s2, s3, F53_0, F53_1, F53_2, F53_3, F53_4, F53_5, F53_6, F53v, Option.getD_some, Option.isSome_some, Bool.not_true, cond_true, cond_false]
noncomputable def sn (v : Int) : Int := (2 * (262144 * (v * (11796480 - v))) + (173946175488000 - v * (11796480 - v))) / (2 * (173946175488000 - v * (11796480 - v)))
noncomputable def gs (m : Int) : Int := if m < 11796480 then sn m else -sn (m - 11796480)
theorem p_bd {v : Int} (h1 : 0 ≤ v) (h2 : v ≤ 11796480) : 0 ≤ v * (11796480 - v) ∧ v * (11796480 - v) ≤ 34789235097600 := by
  refine ⟨Int.mul_nonneg h1 (by omega), ?_⟩
  obtain ⟨w, hw⟩ : ∃ w, v = w + 5898240 := ⟨v - 5898240, by omega⟩
  subst hw
  have e : (w + 5898240) * (11796480 - (w + 5898240)) = 34789235097600 - w * w := by
    rw [show 11796480 - (w + 5898240) = 5898240 - w by omega, Int.add_mul, Int.mul_sub, Int.mul_sub]; rw [Int.mul_comm w 5898240]; omega
  rw [e]
  have : 0 ≤ w * w := by
    rcases Int.le_total 0 w with q | q
    · exact Int.mul_nonneg q q
    · have := Int.mul_nonneg (show 0 ≤ -w by omega) (show 0 ≤ -w by omega)
      rw [Int.neg_mul_neg] at this; exact this
  omega
/-- rounding by the rest -/
theorem halfUp {a b : Int} (ha : 0 ≤ a) (hb : 0 < b) : (if 2 * (a % b) ≥ b then a / b + 1 else a / b) = (2 * a + b) / (2 * b) := by
  have h1 := Int.mul_ediv_add_emod a b
  have h2 := Int.emod_nonneg a (by omega : b ≠ 0)
  have h3 := Int.emod_lt_of_pos a hb
  generalize a / b = q at *
  generalize a % b = r at *
  symm
  have hm : b * (q + 1) = b * q + b := by rw [Int.mul_add, Int.mul_one]
  split
  · refine (Int.ediv_eq_iff_of_pos (by omega)).mpr ⟨?_, ?_⟩
    · rw [show (q + 1) * (2 * b) = 2 * (b * (q + 1)) by rw [Int.mul_comm (q + 1), Int.mul_assoc], hm]; omega
    · rw [show (q + 1) * (2 * b) = 2 * (b * (q + 1)) by rw [Int.mul_comm (q + 1), Int.mul_assoc], hm]; omega
  · refine (Int.ediv_eq_iff_of_pos (by omega)).mpr ⟨?_, ?_⟩
    · rw [show q * (2 * b) = 2 * (b * q) by rw [Int.mul_comm q, Int.mul_assoc]]; omega
    · rw [show q * (2 * b) = 2 * (b * q) by rw [Int.mul_comm q, Int.mul_assoc]]; omega
theorem sn_parts {v : Int} (h1 : 0 ≤ v) (h2 : v ≤ 11796480) : wrapA .i64 (Int.mul 262144 (wrapA .i64 (Int.mul v (wrapA .i64 (Int.sub 11796480 v))))) = 262144 * (v * (11796480 - v)) ∧ wrapA .i64 (Int.sub 173946175488000 (wrapA .i64 (Int.mul v (wrapA .i64 (Int.sub 11796480 v))))) = 173946175488000 - v * (11796480 - v) := by
  obtain ⟨p1, p2⟩ := p_bd h1 h2
  have w1 : wrapA .i64 (Int.sub 11796480 v) = 11796480 - v := by simp only [sub_int]; exact wrap64 (by omega) (by omega)
  rw [w1]
  simp only [mul_int, sub_int]
  generalize v * (11796480 - v) = p at *
  rw [wrap64 (n := p) (by omega) (by omega)]
  exact ⟨wrap64 (by omega) (by omega), wrap64 (by omega) (by omega)⟩
theorem sn_bd {v : Int} (h1 : 0 ≤ v) (h2 : v ≤ 11796480) : 0 ≤ sn v ∧ sn v ≤ 65536 := by
  obtain ⟨p1, p2⟩ := p_bd h1 h2
  unfold sn
  generalize v * (11796480 - v) = p at *
  constructor
  · exact Int.ediv_nonneg (by omega) (by omega)
  · have : (2 * (262144 * p) + (173946175488000 - p)) / (2 * (173946175488000 - p)) < 65537 := Int.ediv_lt_of_lt_mul (by omega) (by omega)
    omega
/-- the end of both -/
theorem sn_code {v num den : Int} (h1 : 0 ≤ v) (h2 : v ≤ 11796480) (hn : num = 262144 * (v * (11796480 - v))) (hd : den = 173946175488000 - v * (11796480 - v)) :
    (bif !eqI den 0 then (bif !ltI (wrapA .i64 (Int.mul 2 (Int.tmod num den))) den then some (wrapA .i64 (Int.add (wrapA .i64 (Int.tdiv num den)) 1)) else some (wrapA .i64 (Int.tdiv num den))) else none) = some (sn v) := by
  obtain ⟨p1, p2⟩ := p_bd h1 h2
  obtain ⟨s1, s2⟩ := sn_bd h1 h2
  unfold sn at *
  generalize v * (11796480 - v) = p at *
  subst hn hd
  have e0 : eqI (173946175488000 - p) 0 = false := by rw [eqI_f]; omega
  rw [e0, tdiv_pos (by omega), tmod_pos (by omega)]
  have hu := halfUp (a := 262144 * p) (b := 173946175488000 - p) (by omega) (by omega)
  have r1 := Int.emod_nonneg (262144 * p) (show 173946175488000 - p ≠ 0 by omega)
  have r2 := Int.emod_lt_of_pos (262144 * p) (show 0 < 173946175488000 - p by omega)
  have w1 : wrapA .i64 (Int.mul 2 (262144 * p % (173946175488000 - p))) = 2 * (262144 * p % (173946175488000 - p)) := by simp only [mul_int]; exact wrap64 (by omega) (by omega)
  rw [w1]
  rw [← hu] at s1 s2 ⊢
  by_cases q : 2 * (262144 * p % (173946175488000 - p)) ≥ 173946175488000 - p
  · rw [(ltI_f _ _).mpr q]
    rw [if_pos q] at s1 s2 ⊢
    have w2 : wrapA .i64 (262144 * p / (173946175488000 - p)) = 262144 * p / (173946175488000 - p) := wrap64 (by omega) (by omega)
    have w3 : wrapA .i64 (Int.add (262144 * p / (173946175488000 - p)) 1) = 262144 * p / (173946175488000 - p) + 1 := by simp only [add_int]; exact wrap64 (by omega) (by omega)
    rw [w2, w3]; rfl
  · rw [(ltI_t _ _).mpr (by omega)]
    rw [if_neg q] at s1 s2 ⊢
    have w2 : wrapA .i64 (262144 * p / (173946175488000 - p)) = 262144 * p / (173946175488000 - p) := wrap64 (by omega) (by omega)
    rw [w2]; rfl
theorem turn_mod {x : Int} (h1 : -4611686018427387904 ≤ x) (h2 : x ≤ 4611686018427387904) : Int.tmod (wrapA .i64 (Int.add (Int.tmod x 23592960) 23592960)) 23592960 = x % 23592960 := by
  obtain ⟨b1, b2⟩ := tmod_bd x (show (0 : Int) < 23592960 by decide)
  simp only [add_int]
  rw [wrap64 (by omega) (by omega), tmod_pos (by omega)]
  have := Int.tmod_eq_emod (a := x) (b := 23592960)
  split at this <;> omega
theorem sineb_ok {x : Int} (h1 : 0 ≤ x) (h2 : x < 11796480) : F55b x = some (sn x) := by
  have t := turn_mod (x := x) (by omega) (by omega)
  have e : x % 23592960 = x := by omega
  rw [e] at t
  have c : c55b_1 x = false := by unfold c55b_1; rw [t, (ltI_t _ _).mpr h2]; rfl
  have t0 : t55b_0 x = x := t
  obtain ⟨q1, q2⟩ := sn_parts h1 (by omega)
  unfold F55b c55b_4
  rw [c]
  exact sn_code h1 (by omega) (by unfold t55b_2; rw [t0, q1]) (by unfold t55b_3; rw [t0, q2])
theorem sine_ok {x : Int} (h1 : -4611686018427387904 ≤ x) (h2 : x ≤ 4611686018427387904) : F55 x = some (gs (x % 23592960)) := by
  have t := turn_mod h1 h2
  have b1 := Int.emod_nonneg x (show (23592960 : Int) ≠ 0 by decide)
  have b2 := Int.emod_lt_of_pos x (show (0 : Int) < 23592960 by decide)
  have t0 : t55_0 x = x % 23592960 := t
  unfold F55 c55_1 gs
  rw [t]
  by_cases q : x % 23592960 < 11796480
  · rw [(ltI_t _ _).mpr q, if_pos q]
    obtain ⟨q1, q2⟩ := sn_parts b1 (by omega)
    exact sn_code b1 (by omega) (by unfold t55_3; rw [t0, q1]) (by unfold t55_4; rw [t0, q2])
  · rw [(ltI_f _ _).mpr (by omega), if_neg q]
    have w : wrapA .i64 (Int.sub (t55_0 x) 11796480) = x % 23592960 - 11796480 := by rw [t0]; simp only [sub_int]; exact wrap64 (by omega) (by omega)
    have s := sineb_ok (x := x % 23592960 - 11796480) (by omega) (by omega)
    obtain ⟨s1, s2⟩ := sn_bd (v := x % 23592960 - 11796480) (by omega) (by omega)
    unfold t55_2 F55b_0
    rw [w, s]
    have w2 : wrapA .i64 (0 - sn (x % 23592960 - 11796480)) = -sn (x % 23592960 - 11796480) := by rw [Int.zero_sub]; exact wrap64 (by omega) (by omega)
    simp only [kwrap_eq, Option.getD_some, Option.isSome_some, w2, Bool.not_false, cond_true]
theorem refb_ok (n : Nat) {x : Int} (h1 : 0 ≤ x) (h2 : x < 11796480) : F56b (n + 2) x = some (sn x) := by
  have l0 : ltI x 0 = false := by rw [ltI_f]; omega
  have l1 : ltI x 23592960 = true := by rw [ltI_t]; omega
  have l2 : ltI x 11796480 = true := by rw [ltI_t]; omega
  obtain ⟨q1, q2⟩ := sn_parts h1 (by omega)
  unfold F56b
  rw [L56b_0_succ, l0, cond_false, L56b_1_succ, l1, l2]
  exact sn_code h1 (by omega) q1 q2
theorem ref1_base (x : Int) (n : Nat) {v : Int} (h1 : 0 ≤ v) (h2 : v < 23592960) : L56_1 x (n + 3) v = some (gs v) := by
  have l1 : ltI v 23592960 = true := by rw [ltI_t]; omega
  rw [L56_1_succ, l1]
  unfold gs
  by_cases q : v < 11796480
  · rw [(ltI_t _ _).mpr q, if_pos q]
    obtain ⟨q1, q2⟩ := sn_parts h1 (by omega)
    exact sn_code h1 (by omega) q1 q2
  · rw [(ltI_f _ _).mpr (by omega), if_neg q]
    have w : wrapA .i64 (Int.sub v 11796480) = v - 11796480 := by simp only [sub_int]; exact wrap64 (by omega) (by omega)
    have s := refb_ok n (x := v - 11796480) (by omega) (by omega)
    obtain ⟨s1, s2⟩ := sn_bd (v := v - 11796480) (by omega) (by omega)
    have w2 : wrapA .i64 (0 - sn (v - 11796480)) = -sn (v - 11796480) := by rw [Int.zero_sub]; exact wrap64 (by omega) (by omega)
    simp only [t56_13, F56b_0, w, s, w2, kwrap_eq, Option.getD_some, Option.isSome_some, Bool.not_false, Bool.not_true, cond_true, cond_false]
theorem ref1_ok (x : Int) (n k : Nat) : ∀ (v : Int), 0 ≤ v → v < (k : Int) * 23592960 + 23592960 → v ≤ 4611686018427387904 → L56_1 x (n + k + 3) v = some (gs (v % 23592960)) := by
  induction k with
  | zero =>
    intro v h1 h2 _
    have : v % 23592960 = v := by omega
    rw [this]; exact ref1_base x n h1 (by omega)
  | succ k ih =>
    intro v h1 h2 h3
    by_cases q : v < 23592960
    · have : v % 23592960 = v := by omega
      rw [this]; exact ref1_base x (n + (k + 1)) h1 q
    · have w : wrapA .i64 (Int.sub v 23592960) = v - 23592960 := by simp only [sub_int]; exact wrap64 (by omega) (by omega)
      rw [show n + (k + 1) + 3 = (n + k + 3) + 1 by omega, L56_1_succ, (ltI_f _ _).mpr (show 23592960 ≤ v by omega), w]
      have := ih (v - 23592960) (by omega) (by omega) (by omega)
      rw [Bool.not_false, cond_true, this]
      exact congrArg (fun t => some (gs t)) (by omega)
theorem ref0_ok (x : Int) (n j k : Nat) : ∀ (v : Int), -((k : Int) * 23592960) ≤ v → v < (j : Int) * 23592960 + 23592960 → v ≤ 4611686018427387904 → -4611686018427387904 ≤ v → L56_0 x (n + j + k + 4) v = some (gs (v % 23592960)) := by
  induction k with
  | zero =>
    intro v h1 h2 h3 _
    rw [show n + j + 0 + 4 = (n + j + 3) + 1 by omega, L56_0_succ, (ltI_f _ _).mpr (show 0 ≤ v by omega), cond_false]
    exact ref1_ok x n j v (by omega) h2 h3
  | succ k ih =>
    intro v h1 h2 h3 h4
    rw [show n + j + (k + 1) + 4 = (n + j + k + 4) + 1 by omega, L56_0_succ]
    by_cases q : v < 0
    · have w : wrapA .i64 (Int.add v 23592960) = v + 23592960 := by simp only [add_int]; exact wrap64 (by omega) (by omega)
      rw [(ltI_t _ _).mpr q, cond_true, w, ih (v + 23592960) (by omega) (by omega) (by omega) (by omega)]
      exact congrArg (fun t => some (gs t)) (by omega)
    · rw [(ltI_f _ _).mpr (by omega), cond_false, show n + j + k + 4 = (n + k + 1) + j + 3 by omega]
      exact ref1_ok x (n + k + 1) j v (by omega) h2 h3
theorem ref_ok (n : Nat) {x : Int} (h1 : -4718592000 ≤ x) (h2 : x ≤ 4718592000) : F56 (n + 404) x = some (gs (x % 23592960)) := by
  unfold F56
  have := ref0_ok x n 200 200 x (by omega) (by omega) (by omega) (by omega)
  rw [show n + 200 + 200 + 4 = n + 404 by omega] at this
  exact this
theorem draft_some (kd a b c d e f : Int) : ∃ A B C D E F : Int, F35 kd a b c d e f = some (A, B, C, D, E, F) ∧ F39_0 A B C D E F = true := by
  have m1 : ∀ x, -16777216 ≤ Int.tmod x 16777217 ∧ Int.tmod x 16777217 ≤ 16777216 := fun x => by
    have := tmod_bd x (show (0 : Int) < 16777217 by decide); omega
  have m2 : ∀ x, -536870912 ≤ Int.tmod x 536870913 ∧ Int.tmod x 536870913 ≤ 536870912 := fun x => by
    have := tmod_bd x (show (0 : Int) < 536870913 by decide); omega
  have m3 : ∀ x, -16777216 ≤ Int.tmod x 300000 ∧ Int.tmod x 300000 ≤ 16777216 := fun x => by
    have := tmod_bd x (show (0 : Int) < 300000 by decide); omega
  have m4 : ∀ x, -536870912 ≤ Int.tmod x 9000000 ∧ Int.tmod x 9000000 ≤ 536870912 := fun x => by
    have := tmod_bd x (show (0 : Int) < 9000000 by decide); omega
  unfold F35
  cases eqI (Int.tmod kd 4) 0 <;> cases eqI (Int.tmod kd 4) 1 <;> cases eqI (Int.tmod kd 4) 2 <;> refine ⟨_, _, _, _, _, _, rfl, ?_⟩ <;> rw [ok_t] <;> simp only [m1, m2, m3, m4, and_self, true_and, and_true] <;> decide
theorem draft_0 (kd a b c d e f : Int) : F39_0 (F35_0 kd a b c d e f) (F35_1 kd a b c d e f) (F35_2 kd a b c d e f) (F35_3 kd a b c d e f) (F35_4 kd a b c d e f) (F35_5 kd a b c d e f) = true := by
  obtain ⟨A, B, C, D, E, F, h, g⟩ := draft_some kd a b c d e f
  simp only [F35_0, F35_1, F35_2, F35_3, F35_4, F35_5, h, Option.getD_some]; exact g
theorem unit_ok : F39_0 65536 0 0 65536 0 0 = true := by rw [ok_t]; decide
theorem unit_l {A B C D E F : Int} (h : F39_0 A B C D E F = true) : catN 65536 0 0 65536 0 0 A B C D E F = (A, B, C, D, E, F, 0) := by
  have e1 : rnd (65536 * A + 0 * C) = A := by unfold rnd; omega
  have e2 : rnd (65536 * B + 0 * D) = B := by unfold rnd; omega
  have e3 : rnd (0 * A + 65536 * C) = C := by unfold rnd; omega
  have e4 : rnd (0 * B + 65536 * D) = D := by unfold rnd; omega
  have e5 : rnd (0 * A + 0 * C) + E = E := by unfold rnd; omega
  have e6 : rnd (0 * B + 0 * D) + F = F := by unfold rnd; omega
  unfold catN endN; rw [unit_ok, h, e1, e2, e3, e4, e5, e6, h]; rfl
theorem unit_r {A B C D E F : Int} (h : F39_0 A B C D E F = true) : catN A B C D E F 65536 0 0 65536 0 0 = (A, B, C, D, E, F, 0) := by
  have e1 : rnd (A * 65536 + B * 0) = A := by unfold rnd; omega
  have e2 : rnd (A * 0 + B * 65536) = B := by unfold rnd; omega
  have e3 : rnd (C * 65536 + D * 0) = C := by unfold rnd; omega
  have e4 : rnd (C * 0 + D * 65536) = D := by unfold rnd; omega
  have e5 : rnd (E * 65536 + F * 0) + 0 = E := by unfold rnd; omega
  have e6 : rnd (E * 0 + F * 65536) + 0 = F := by unfold rnd; omega
  unfold catN endN; rw [unit_ok, h, e1, e2, e3, e4, e5, e6, h]; rfl
theorem chk_ok {A B C D E F x y : Int} (h : F39_0 A B C D E F = true) (hx : -2147483648 ≤ x ∧ x ≤ 2147483648) (hy : -2147483648 ≤ y ∧ y ≤ 2147483648) : chk A B C D E F x y = 0 := by
  have h1 : F38_0 x 2147483648 = true := by rw [in_t _ _ (by decide) (by decide)]; exact hx
  have h2 : F38_0 y 2147483648 = true := by rw [in_t _ _ (by decide) (by decide)]; exact hy
  unfold chk; rw [h, h1, h2]; rfl
theorem tr_0 {A B C D E F : Int} (h : F39_0 A B C D E F = true) : trN A B C D E F 0 0 = (A, B, C, D, E, F, 0) := by
  have e5 : rnd (A * 0 + C * 0) + E = E := by unfold rnd; omega
  have e6 : rnd (B * 0 + D * 0) + F = F := by unfold rnd; omega
  unfold trN endN; rw [chk_ok h (by decide) (by decide), e5, e6, h]; rfl
theorem sc_1 {A B C D E F : Int} (h : F39_0 A B C D E F = true) : scN A B C D E F 65536 65536 = (A, B, C, D, E, F, 0) := by
  have e1 : rnd (A * 65536) = A := by unfold rnd; omega
  have e2 : rnd (B * 65536) = B := by unfold rnd; omega
  have e3 : rnd (C * 65536) = C := by unfold rnd; omega
  have e4 : rnd (D * 65536) = D := by unfold rnd; omega
  unfold scN endN; rw [chk_ok h (by decide) (by decide), e1, e2, e3, e4, h]; rfl
theorem tr_cat {A B C D E F x y : Int} (h : F39_0 A B C D E F = true) (hx : -16777216 ≤ x ∧ x ≤ 16777216) (hy : -16777216 ≤ y ∧ y ≤ 16777216) : trN A B C D E F x y = catN 65536 0 0 65536 x y A B C D E F := by
  have g : F39_0 65536 0 0 65536 x y = true := by rw [ok_t]; refine ⟨by decide, by decide, by decide, by decide, by omega, by omega⟩
  have e1 : rnd (65536 * A + 0 * C) = A := by unfold rnd; omega
  have e2 : rnd (65536 * B + 0 * D) = B := by unfold rnd; omega
  have e3 : rnd (0 * A + 65536 * C) = C := by unfold rnd; omega
  have e4 : rnd (0 * B + 65536 * D) = D := by unfold rnd; omega
  unfold trN catN; rw [chk_ok h (by omega) (by omega), g, h, e1, e2, e3, e4, Int.mul_comm A x, Int.mul_comm C y, Int.mul_comm B x, Int.mul_comm D y]; rfl
theorem sc_cat {A B C D E F x y : Int} (h : F39_0 A B C D E F = true) (hx : -16777216 ≤ x ∧ x ≤ 16777216) (hy : -16777216 ≤ y ∧ y ≤ 16777216) : scN A B C D E F x y = catN x 0 0 y 0 0 A B C D E F := by
  have g : F39_0 x 0 0 y 0 0 = true := by rw [ok_t]; refine ⟨hx, by decide, by decide, hy, by decide, by decide⟩
  have e1 : rnd (x * A + 0 * C) = rnd (A * x) := by rw [Int.zero_mul, Int.add_zero, Int.mul_comm]
  have e2 : rnd (x * B + 0 * D) = rnd (B * x) := by rw [Int.zero_mul, Int.add_zero, Int.mul_comm]
  have e3 : rnd (0 * A + y * C) = rnd (C * y) := by rw [Int.zero_mul, Int.zero_add, Int.mul_comm]
  have e4 : rnd (0 * B + y * D) = rnd (D * y) := by rw [Int.zero_mul, Int.zero_add, Int.mul_comm]
  have e5 : rnd (0 * A + 0 * C) + E = E := by unfold rnd; omega
  have e6 : rnd (0 * B + 0 * D) + F = F := by unfold rnd; omega
  unfold scN catN; rw [chk_ok h (by omega) (by omega), g, h, e1, e2, e3, e4, e5, e6]; rfl
theorem rot_ok {A B C D E F x : Int} (h : F39_0 A B C D E F = true) (h1 : -2147483648 ≤ x) (h2 : x ≤ 2147483648) (hx : x % 23592960 = 0) : F31 A B C D E F x = some (A, B, C, D, E, F, 0) := by
  have g : F38_0 x 2147483648 = true := by rw [in_t _ _ (by decide) (by decide)]; exact ⟨h1, h2⟩
  have s := sine_ok (x := x) (by omega) (by omega)
  have w : wrapA .i64 (Int.add x 5898240) = x + 5898240 := by simp only [add_int]; exact wrap64 (by omega) (by omega)
  have c := sine_ok (x := x + 5898240) (by omega) (by omega)
  have e : (x + 5898240) % 23592960 = 5898240 := by omega
  have g0 : gs 0 = 0 := by decide
  have g1 : gs 5898240 = 65536 := by decide
  rw [hx, g0] at s
  rw [e, g1] at c
  have z : eqI 0 0 = true := rfl
  have u := unit_l h
  have n0 : wrapA .i64 (0 - 0) = 0 := rfl
  unfold F31
  simp only [t31_0, t31_1, t31_2, t31_3, t31_4, t31_5, t31_6, t31_7, F11_0, F11v, h, z, g, s, w, c, n0, kwrap_eq, F55_0, cat_ok, u, F23_0, F23_1, F23_2, F23_3, F23_4, F23_5, F23_6, Option.getD_some, Option.isSome_some, Bool.not_true, cond_true, cond_false]
theorem law_ok (a0_0 a0_1 a0_2 a0_3 a0_4 a0_5 a0_6 a0_7 a0_8 a0_9 a0_10 a0_11 a0_12 a0_13 a0_14 a0_15 a0_16 a0_17 a0_18 a0_19 a0_20 a0_21 a0_22 a0_23 a0_24 a0_25 : Int) (a1 : Int) (_ : (Lit.int .u8 a0_0).wf = true) (_ : (Lit.int .i32 a0_1).wf = true) (_ : (Lit.int .i32 a0_2).wf = true) (_ : (Lit.int .i32 a0_3).wf = true) (_ : (Lit.int .i32 a0_4).wf = true) (_ : (Lit.int .i32 a0_5).wf = true) (_ : (Lit.int .i32 a0_6).wf = true) (_ : (Lit.int .u8 a0_7).wf = true) (_ : (Lit.int .i32 a0_8).wf = true) (_ : (Lit.int .i32 a0_9).wf = true) (_ : (Lit.int .i32 a0_10).wf = true) (_ : (Lit.int .i32 a0_11).wf = true) (_ : (Lit.int .i32 a0_12).wf = true) (_ : (Lit.int .i32 a0_13).wf = true) (_ : (Lit.int .i64 a0_14).wf = true) (_ : (Lit.int .i64 a0_15).wf = true) (_ : (Lit.int .i64 a0_16).wf = true) (_ : (Lit.int .i64 a0_17).wf = true) (_ : (Lit.int .i64 a0_18).wf = true) (_ : (Lit.int .i64 a0_19).wf = true) (_ : (Lit.int .i64 a0_20).wf = true) (_ : (Lit.int .i64 a0_21).wf = true) (_ : (Lit.int .i64 a0_22).wf = true) (_ : (Lit.int .i64 a0_23).wf = true) (_ : (Lit.int .i64 a0_24).wf = true) (_ : (Lit.int .i64 a0_25).wf = true) (_ : (Lit.int .i8 a1).wf = true) : ∃ n : Nat, F7 a0_0 a0_1 a0_2 a0_3 a0_4 a0_5 a0_6 a0_7 a0_8 a0_9 a0_10 a0_11 a0_12 a0_13 a0_14 a0_15 a0_16 a0_17 a0_18 a0_19 a0_20 a0_21 a0_22 a0_23 a0_24 a0_25 a1 = some true := by
  refine ⟨0, ?_⟩
  have h := draft_0 a0_0 a0_1 a0_2 a0_3 a0_4 a0_5 a0_6
  have m := tmod_bd a1 (show (0 : Int) < 90 by decide)
  have x := tmod_bd a0_20 (show (0 : Int) < 16777217 by decide)
  have y := tmod_bd a0_21 (show (0 : Int) < 16777217 by decide)
  have t : t7_7 a1 = Int.tmod a1 90 * 23592960 := by
    unfold t7_7
    simp only [mul_int]
    rw [wrap64 (n := Int.tmod a1 90) (by omega) (by omega), wrap64 (n := Int.tmod a1 90 * 360) (by omega) (by omega), wrap64 (by omega) (by omega)]; omega
  have r := rot_ok h (x := t7_7 a1) (by omega) (by omega) (by omega)
  have z : eqI 0 0 = true := rfl
  unfold F7
  simp only [t7_0, t7_1, t7_2, t7_3, t7_4, t7_5, t7_6, t7_8, t7_9, t7_10, t7_11, t7_12, t7_13, t7_14, t7_15, t7_16, t7_17, t7_18, t7_19, t7_20, t7_21, t7_22, t7_23, t7_24, t7_25, t7_26, t7_27, t7_28, t7_29, t7_30, t7_31, t7_32, t7_33, t7_34, t7_35, c7_36, c7_37, c7_38, c7_39, c7_40, c7_41, t7_42, t7_43, t7_44, t7_45, t7_46, t7_47, t7_48, t7_49, t7_50, t7_51, t7_52, t7_53, t7_54, t7_55, t7_56, t7_57, t7_58, t7_59, t7_60, t7_61, t7_62, t7_63, t7_64, t7_65, t7_66, t7_67, t7_68, t7_69, c7_70, c7_71, c7_72, c7_73, cat_ok, tr_ok, sc_ok, r, unit_l h, unit_r h, tr_0 h, sc_1 h, tr_cat h (x := Int.tmod a0_20 16777217) (y := Int.tmod a0_21 16777217) (by omega) (by omega), sc_cat h (x := Int.tmod a0_20 16777217) (y := Int.tmod a0_21 16777217) (by omega) (by omega), F23_0, F23_1, F23_2, F23_3, F23_4, F23_5, F23_6, F25_0, F25_1, F25_2, F25_3, F25_4, F25_5, F25_6, F27_0, F27_1, F27_2, F27_3, F27_4, F27_5, F27_6, F31_0, F31_1, F31_2, F31_3, F31_4, F31_5, F31_6, z, eqI_same, andB, Option.getD_some, Option.isSome_some, Bool.not_true, cond_true, cond_false]

end

theorem walk (a0_0 : Int) (a0_1 : Int) (a0_2 : Int) (a0_3 : Int) (a0_4 : Int) (a0_5 : Int) (a0_6 : Int) (a0_7 : Int) (a0_8 : Int) (a0_9 : Int) (a0_10 : Int) (a0_11 : Int) (a0_12 : Int) (a0_13 : Int) (a0_14 : Int) (a0_15 : Int) (a0_16 : Int) (a0_17 : Int) (a0_18 : Int) (a0_19 : Int) (a0_20 : Int) (a0_21 : Int) (a0_22 : Int) (a0_23 : Int) (a0_24 : Int) (a0_25 : Int) (a1 : Int) (wa0_0 : (Lit.int .u8 a0_0).wf = true) (wa0_1 : (Lit.int .i32 a0_1).wf = true) (wa0_2 : (Lit.int .i32 a0_2).wf = true) (wa0_3 : (Lit.int .i32 a0_3).wf = true) (wa0_4 : (Lit.int .i32 a0_4).wf = true) (wa0_5 : (Lit.int .i32 a0_5).wf = true) (wa0_6 : (Lit.int .i32 a0_6).wf = true) (wa0_7 : (Lit.int .u8 a0_7).wf = true) (wa0_8 : (Lit.int .i32 a0_8).wf = true) (wa0_9 : (Lit.int .i32 a0_9).wf = true) (wa0_10 : (Lit.int .i32 a0_10).wf = true) (wa0_11 : (Lit.int .i32 a0_11).wf = true) (wa0_12 : (Lit.int .i32 a0_12).wf = true) (wa0_13 : (Lit.int .i32 a0_13).wf = true) (wa0_14 : (Lit.int .i64 a0_14).wf = true) (wa0_15 : (Lit.int .i64 a0_15).wf = true) (wa0_16 : (Lit.int .i64 a0_16).wf = true) (wa0_17 : (Lit.int .i64 a0_17).wf = true) (wa0_18 : (Lit.int .i64 a0_18).wf = true) (wa0_19 : (Lit.int .i64 a0_19).wf = true) (wa0_20 : (Lit.int .i64 a0_20).wf = true) (wa0_21 : (Lit.int .i64 a0_21).wf = true) (wa0_22 : (Lit.int .i64 a0_22).wf = true) (wa0_23 : (Lit.int .i64 a0_23).wf = true) (wa0_24 : (Lit.int .i64 a0_24).wf = true) (wa0_25 : (Lit.int .i64 a0_25).wf = true) (wa1 : (Lit.int .i8 a1).wf = true) {w : World} {ARGS : List Value} (ha : Go.Sx.RelL (fun _ => none) [.agg [.int .u8 a0_0, .int .i32 a0_1, .int .i32 a0_2, .int .i32 a0_3, .int .i32 a0_4, .int .i32 a0_5, .int .i32 a0_6, .int .u8 a0_7, .int .i32 a0_8, .int .i32 a0_9, .int .i32 a0_10, .int .i32 a0_11, .int .i32 a0_12, .int .i32 a0_13, .int .i64 a0_14, .int .i64 a0_15, .int .i64 a0_16, .int .i64 a0_17, .int .i64 a0_18, .int .i64 a0_19, .int .i64 a0_20, .int .i64 a0_21, .int .i64 a0_22, .int .i64 a0_23, .int .i64 a0_24, .int .i64 a0_25], .int .i8 a1] ARGS) :
    Calls Try.prog 7 ARGS.toArray w fun e w' => e = .returned (.bool true) ∧ Below w.heap.size w w' := by
  obtain ⟨n, hn⟩ := law_ok a0_0 a0_1 a0_2 a0_3 a0_4 a0_5 a0_6 a0_7 a0_8 a0_9 a0_10 a0_11 a0_12 a0_13 a0_14 a0_15 a0_16 a0_17 a0_18 a0_19 a0_20 a0_21 a0_22 a0_23 a0_24 a0_25 a1 wa0_0 wa0_1 wa0_2 wa0_3 wa0_4 wa0_5 wa0_6 wa0_7 wa0_8 wa0_9 wa0_10 wa0_11 wa0_12 wa0_13 wa0_14 wa0_15 wa0_16 wa0_17 wa0_18 wa0_19 wa0_20 wa0_21 wa0_22 wa0_23 wa0_24 wa0_25 wa1
  exact Go.Sx.call_args okayed rfl ha Try.func7 body7_eq (run7 n a0_0 a0_1 a0_2 a0_3 a0_4 a0_5 a0_6 a0_7 a0_8 a0_9 a0_10 a0_11 a0_12 a0_13 a0_14 a0_15 a0_16 a0_17 a0_18 a0_19 a0_20 a0_21 a0_22 a0_23 a0_24 a0_25 a1 true hn) (fun _ _ h => by cases h)

set_option maxRecDepth 100000 in
theorem lifted (os : Os) (started : os.Started) (H : Type) (enc : TypeId × Value → H) :
    ReturnsInHanded {} Try.checked os 7 .any (Rows.matrixUnitsSpec.pre6 enc Try.prog Try.f7 Rows.matrixUnitsRow.domain false) (Rows.matrixUnitsSpec.post enc Try.prog Try.f7 false true false false) := by
  refine returnsInHanded_of_change (C := Try.checked) own started (by kernel_rfl) Try.func7
    (ChangeSpec.witness6 (enc := enc) (C := Try.checked) false ⟨#[], #[.agg #[.int .u8 0, .int .i32 0, .int .i32 0, .int .i32 0, .int .i32 0, .int .i32 0, .int .i32 0, .int .u8 0, .int .i32 0, .int .i32 0, .int .i32 0, .int .i32 0, .int .i32 0, .int .i32 0, .int .i64 0, .int .i64 0, .int .i64 0, .int .i64 0, .int .i64 0, .int .i64 0, .int .i64 0, .int .i64 0, .int .i64 0, .int .i64 0, .int .i64 0, .int .i64 0], .int .i8 0], []⟩ 8 (by kernel_rfl) (by kernel_rfl) (by kernel_rfl) (by kernel_rfl)) ?_
  intro W base args ds gs before hval0 hW hcnd _
  have hval : ∀ (j : Nat) t v, Try.f7.params[j]? = some t → args[j]? = some v → Value.okWide Try.prog W .any base t v := hval0
  have hW' := hW
  obtain ⟨p, q, hA0, hV, rfl, hfz, hnd⟩ := hW
  have hA : DataW.TrodAll enc Try.prog W 0 (fun _ => true) true Try.f7.params.toList args.toList ds p := hA0
  rw [Try.params7] at hA hval
  obtain ⟨v0, vs0, d0, ds0, p0, q0, hargs, rfl, rfl, h0, r0⟩ := trodAll_cons hA
  obtain ⟨v1, vs1, d1, ds1, p1, q1, rfl, rfl, rfl, h1, r1⟩ := trodAll_cons r0
  obtain ⟨rfl, rfl, rfl⟩ := trodAll_nil r1
  obtain rfl : args = #[v0, v1] := by cases args; simp_all
  obtain ⟨rfl, rfl⟩ := trodVars_none hV
  obtain ⟨rfl, as0, k0, e0⟩ := Go.Sx.open_kinds (ks := [.int .u8, .int .i32, .int .i32, .int .i32, .int .i32, .int .i32, .int .i32, .int .u8, .int .i32, .int .i32, .int .i32, .int .i32, .int .i32, .int .i32, .int .i64, .int .i64, .int .i64, .int .i64, .int .i64, .int .i64, .int .i64, .int .i64, .int .i64, .int .i64, .int .i64, .int .i64]) (by kernel_rfl) h0
  obtain ⟨a0_0, r0, rfl, wa0_0, k0⟩ := k0
  obtain ⟨a0_1, r0, rfl, wa0_1, k0⟩ := k0
  obtain ⟨a0_2, r0, rfl, wa0_2, k0⟩ := k0
  obtain ⟨a0_3, r0, rfl, wa0_3, k0⟩ := k0
  obtain ⟨a0_4, r0, rfl, wa0_4, k0⟩ := k0
  obtain ⟨a0_5, r0, rfl, wa0_5, k0⟩ := k0
  obtain ⟨a0_6, r0, rfl, wa0_6, k0⟩ := k0
  obtain ⟨a0_7, r0, rfl, wa0_7, k0⟩ := k0
  obtain ⟨a0_8, r0, rfl, wa0_8, k0⟩ := k0
  obtain ⟨a0_9, r0, rfl, wa0_9, k0⟩ := k0
  obtain ⟨a0_10, r0, rfl, wa0_10, k0⟩ := k0
  obtain ⟨a0_11, r0, rfl, wa0_11, k0⟩ := k0
  obtain ⟨a0_12, r0, rfl, wa0_12, k0⟩ := k0
  obtain ⟨a0_13, r0, rfl, wa0_13, k0⟩ := k0
  obtain ⟨a0_14, r0, rfl, wa0_14, k0⟩ := k0
  obtain ⟨a0_15, r0, rfl, wa0_15, k0⟩ := k0
  obtain ⟨a0_16, r0, rfl, wa0_16, k0⟩ := k0
  obtain ⟨a0_17, r0, rfl, wa0_17, k0⟩ := k0
  obtain ⟨a0_18, r0, rfl, wa0_18, k0⟩ := k0
  obtain ⟨a0_19, r0, rfl, wa0_19, k0⟩ := k0
  obtain ⟨a0_20, r0, rfl, wa0_20, k0⟩ := k0
  obtain ⟨a0_21, r0, rfl, wa0_21, k0⟩ := k0
  obtain ⟨a0_22, r0, rfl, wa0_22, k0⟩ := k0
  obtain ⟨a0_23, r0, rfl, wa0_23, k0⟩ := k0
  obtain ⟨a0_24, r0, rfl, wa0_24, k0⟩ := k0
  obtain ⟨a0_25, r0, rfl, wa0_25, k0⟩ := k0
  obtain rfl := k0
  obtain ⟨rfl, as1, k1, e1⟩ := Go.Sx.open_kinds (ks := [.int .i8]) (by kernel_rfl) h1
  obtain ⟨a1, r1, rfl, wa1, k1⟩ := k1
  obtain rfl := k1
  clear hA0
  simp only [List.append_nil] at hW'
  have hrel : Go.Sx.RelL (fun _ => none) [.agg [.int .u8 a0_0, .int .i32 a0_1, .int .i32 a0_2, .int .i32 a0_3, .int .i32 a0_4, .int .i32 a0_5, .int .i32 a0_6, .int .u8 a0_7, .int .i32 a0_8, .int .i32 a0_9, .int .i32 a0_10, .int .i32 a0_11, .int .i32 a0_12, .int .i32 a0_13, .int .i64 a0_14, .int .i64 a0_15, .int .i64 a0_16, .int .i64 a0_17, .int .i64 a0_18, .int .i64 a0_19, .int .i64 a0_20, .int .i64 a0_21, .int .i64 a0_22, .int .i64 a0_23, .int .i64 a0_24, .int .i64 a0_25], .int .i8 a1] [v0, v1] := ⟨_, _, Go.Sx.rel_agg (.inl ⟨_, Try.underlying30⟩) (hval 0 30 v0 rfl rfl) e0, ⟨_, _, Go.Sx.rel_int Try.underlying54 (hval 1 54 v1 rfl rfl) e1, rfl, rfl⟩, rfl⟩
  refine (walk a0_0 a0_1 a0_2 a0_3 a0_4 a0_5 a0_6 a0_7 a0_8 a0_9 a0_10 a0_11 a0_12 a0_13 a0_14 a0_15 a0_16 a0_17 a0_18 a0_19 a0_20 a0_21 a0_22 a0_23 a0_24 a0_25 a1 wa0_0 wa0_1 wa0_2 wa0_3 wa0_4 wa0_5 wa0_6 wa0_7 wa0_8 wa0_9 wa0_10 wa0_11 wa0_12 wa0_13 wa0_14 wa0_15 wa0_16 wa0_17 wa0_18 wa0_19 wa0_20 wa0_21 wa0_22 wa0_23 wa0_24 wa0_25 wa1  hrel).mono fun e W' ⟨he, hg⟩ => ?_
  subst he
  exact ⟨_, rfl, Go.Sx.post_of_below (pa := []) (pv := []) hW' (fun _ _ _ => (trodAll_cons_mk (shut_bool Try.underlying4 _) trodAll_mk0)) (fun sp _ => (trodAll_cons_mk (Go.Sx.stays laidOut (by kernel_rfl) (Nat.le_of_ble_eq_true (by kernel_rfl)) h0) (trodAll_cons_mk (Go.Sx.stays laidOut (by kernel_rfl) (Nat.le_of_ble_eq_true (by kernel_rfl)) h1) trodAll_mk0))) (fun _ _ => rfl) rfl
    hg (ok_one (by kernel_rfl) rfl (okWide_bool_mk Try.underlying4 _))⟩

theorem over : Rows.matrixUnitsRow.holds Try.pinned (OpenSpec.ofChange Rows.matrixUnitsSpec) :=
  OpenClaim.holds_of_wide 7 Try.f7 rfl rfl rfl rfl rfl rfl rfl ⟨rfl, rfl, rfl, rfl, rfl⟩ rfl rfl rfl rfl rfl (by kernel_rfl) Try.func7 (by kernel_rfl)
    (of_decide_eq_true (by kernel_rfl)) (by unfold Func.isWrapper; first | (rw [if_pos (by decide +kernel)]; kernel_rfl) | (rw [if_neg (by decide +kernel)]; exact ⟨rfl, rfl⟩))
    (fun os started H enc _ => lifted os started H enc)

theorem proved : Rows.MatrixUnitsSaid := over
#print axioms proved
end Go.Proofs.Ytlfmockpeajfkaa.matrixUnits
