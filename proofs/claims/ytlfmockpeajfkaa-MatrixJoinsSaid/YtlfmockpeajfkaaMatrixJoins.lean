/- 'chase/chaselaw20.MatrixJoins' returns true for every argument, and nothing that was there is changed. The first part is the text before: each function of the run as a term. Here: the numbers, and the rest. -/
import Derived.Test.YtlfmockpeajfkaaMatrixJoinsA
namespace Go.Proofs.Ytlfmockpeajfkaa.matrixJoins
open Go.ChangeShapes Go.WideShapes Go.ChangeAt Go.WideMaps Go.WideElems Go.RowKit
set_option linter.unusedVariables false
section
open Go.Sx
set_option maxRecDepth 1000000

set_option maxRecDepth 100000
theorem cS {α : Type} (b : Bool) (x y : α) : (bif b then some x else some y) = some (bif b then x else y) := by cases b <;> rfl
theorem condP (b x y : Bool) : ((bif b then x else y) = true) = ((b = true ∧ x = true) ∨ (b = false ∧ y = true)) := by cases b <;> simp
theorem condF (b x y : Bool) : ((bif b then x else y) = false) = ((b = true ∧ x = false) ∨ (b = false ∧ y = false)) := by cases b <;> simp
theorem nneg_f (b : Bool) : ((!b) = false) = (b = true) := by cases b <;> simp
theorem andB_t (a b : Bool) : (andB a b = true) = (a = true ∧ b = true) := by cases a <;> simp [andB]
theorem andB_f (a b : Bool) : (andB a b = false) = (a = false ∨ b = false) := by cases a <;> simp [andB]
theorem strNil_t (s : List Nat) : (strEq s [] = true) = (s.length = 0) := by cases s <;> simp [strEq]
theorem strNil_f (s : List Nat) : (strEq s [] = false) = (s.length ≠ 0) := by cases s <;> simp [strEq]
theorem strEq_same (s : List Nat) : strEq s s = true := by simp [strEq]
theorem eqI_same (n : Int) : eqI n n = true := by rw [eqI_t]
abbrev T7 := Int × Int × Int × Int × Int × Int × Int
theorem in_t (x y : Int) (h1 : 0 ≤ y) (h2 : y ≤ 9223372036854775807) : (F38_0 x y = true) = (-y ≤ x ∧ x ≤ y) := by
  unfold F38_0 F38 c38_0
  rw [kwrap_eq, wrap64 (by omega) (by omega)]
  cases e1 : ltI x (0 - y) <;> cases e2 : ltI y x <;> simp only [Bool.not_true, Bool.not_false, cond_true, cond_false, Option.getD_some, ltI_t, ltI_f] at * <;> simp <;> omega
theorem in46 (x y : Int) : F46_0 x y = F38_0 x y := rfl
theorem ok_t (a b c d e f : Int) : (F39_0 a b c d e f = true) = ((-16777216 ≤ a ∧ a ≤ 16777216) ∧ (-16777216 ≤ b ∧ b ≤ 16777216) ∧ (-16777216 ≤ c ∧ c ≤ 16777216) ∧ (-16777216 ≤ d ∧ d ≤ 16777216) ∧ (-536870912 ≤ e ∧ e ≤ 536870912) ∧ (-536870912 ≤ f ∧ f ≤ 536870912)) := by
  unfold F39_0 F39
  simp only [in46, cS, Option.getD_some, condP, in_t _ 16777216 (by decide) (by decide), in_t _ 536870912 (by decide) (by decide), Bool.false_eq_true, and_false, or_false]
theorem F39v (a b c d e f : Int) : F39 a b c d e f = some (F39_0 a b c d e f) := by
  unfold F39_0 F39; simp only [cS, Option.getD_some]
theorem F11v (a b c d e f : Int) : F11 a b c d e f = some (bif F39_0 a b c d e f then 0 else 300) := by
  unfold F11 F39_0 F39
  simp only [in46]
  cases F38_0 a 16777216 <;> cases F38_0 b 16777216 <;> cases F38_0 c 16777216 <;> cases F38_0 d 16777216 <;> cases F38_0 e 536870912 <;> cases F38_0 f 536870912 <;> rfl
theorem F12v (a b c d e f : Int) : F12 a b c d e f = some (bif F39_0 a b c d e f then 0 else 300) := by
  unfold F12; cases F39_0 a b c d e f <;> rfl
noncomputable def endN (a b c d e f : Int) : T7 := bif F39_0 a b c d e f then (a, b, c, d, e, f, 0) else (0, 0, 0, 0, 0, 0, 26)
theorem F51v (a b c d e f : Int) : F51 a b c d e f = some (endN a b c d e f) := by
  unfold F51 F11_0 endN; rw [F11v]; cases F39_0 a b c d e f <;> rfl
theorem F53v (a b c d e f : Int) : F53 a b c d e f = some (endN a b c d e f) := by
  unfold F53 endN; cases F39_0 a b c d e f <;> rfl
noncomputable def rnd (n : Int) : Int := (n + 32768) / 65536
theorem mul0 (x y : Int) {a b : Int} (hx1 : -a ≤ x) (hx2 : x ≤ a) (hy1 : -b ≤ y) (hy2 : y ≤ b) (hab : a * b ≤ 1152921504606846976) : wrapA .i64 (Int.mul x y) = x * y ∧ -1152921504606846976 ≤ x * y ∧ x * y ≤ 1152921504606846976 := by
  obtain ⟨h1, h2⟩ := mul_bd hx1 hx2 hy1 hy2
  refine ⟨?_, by omega, by omega⟩
  simp only [mul_int]; exact wrap64 (by omega) (by omega)
theorem pr1 {u : Int} (h1 : -4611686018427387904 ≤ u) (h2 : u ≤ 4611686018427387904) : Int.fdiv (wrapA .i64 (Int.add (wrapA .i64 (Int.add 0 u)) 32768)) 65536 = rnd u := by
  simp only [add_int, Int.zero_add]
  rw [wrap64 (n := u) (by omega) (by omega), wrap64 (by omega) (by omega), fdiv_pos _ (by decide)]; rfl
theorem pr2 {u v : Int} (h1 : -2305843009213693952 ≤ u) (h2 : u ≤ 2305843009213693952) (h3 : -2305843009213693952 ≤ v) (h4 : v ≤ 2305843009213693952) : Int.fdiv (wrapA .i64 (Int.add (wrapA .i64 (Int.add (wrapA .i64 (Int.add 0 u)) v)) 32768)) 65536 = rnd (u + v) := by
  simp only [add_int, Int.zero_add]
  rw [wrap64 (n := u) (by omega) (by omega), wrap64 (n := u + v) (by omega) (by omega), wrap64 (by omega) (by omega), fdiv_pos _ (by decide)]; rfl
theorem floor_ok {x y : Int} (hy : 0 < y) (h1 : -4611686018427387904 ≤ x) (h2 : x ≤ 4611686018427387904) : F58 x y = some (x / y) := by
  have t := tdiv_floor (a := x) hy
  have e : eqI y 0 = false := by rw [eqI_f]; omega
  obtain ⟨b1, b2⟩ := tdiv_bd (a := x) hy
  have w : wrapA .i64 (Int.tdiv x y) = Int.tdiv x y := wrap64 (by omega) (by omega)
  have w2 : wrapA .i64 (Int.sub (Int.tdiv x y) 1) = Int.tdiv x y - 1 := by simp only [sub_int]; exact wrap64 (by omega) (by omega)
  unfold F58
  rw [e, w, w2, ← t]
  by_cases q : Int.tmod x y < 0
  · rw [(ltI_t _ _).mpr q, if_pos q]; rfl
  · rw [(ltI_f _ _).mpr (by omega), if_neg q]; rfl
theorem round_ok {x y : Int} (hy : 0 < y) (hy2 : y ≤ 1073741824) (h1 : -1305843009213693952 ≤ x) (h2 : x ≤ 1305843009213693952) : F54 x y = some ((2 * x + y) / (2 * y)) := by
  have w1 : wrapA .i64 (Int.mul 2 x) = 2 * x := by simp only [mul_int]; exact wrap64 (by omega) (by omega)
  have w2 : wrapA .i64 (Int.add (2 * x) y) = 2 * x + y := by simp only [add_int]; exact wrap64 (by omega) (by omega)
  have w3 : wrapA .i64 (Int.mul 2 y) = 2 * y := by simp only [mul_int]; exact wrap64 (by omega) (by omega)
  have f := floor_ok (x := 2 * x + y) (y := 2 * y) (by omega) (by omega) (by omega)
  unfold F54 t54_0 F58_0; rw [w1, w2, w3, f]; rfl
theorem rnd_ok {x : Int} (h1 : -1305843009213693952 ≤ x) (h2 : x ≤ 1305843009213693952) : F54 x 65536 = some (rnd x) := by
  rw [round_ok (by decide) (by decide) h1 h2]
  refine congrArg some ?_
  unfold rnd; omega
noncomputable def catN (a b c d e f a1 b1 c1 d1 e1 f1 : Int) : T7 := bif F39_0 a b c d e f then (bif F39_0 a1 b1 c1 d1 e1 f1 then endN (rnd (a * a1 + b * c1)) (rnd (a * b1 + b * d1)) (rnd (c * a1 + d * c1)) (rnd (c * b1 + d * d1)) (rnd (e * a1 + f * c1) + e1) (rnd (e * b1 + f * d1) + f1) else (0, 0, 0, 0, 0, 0, 300)) else (0, 0, 0, 0, 0, 0, 300)
theorem rnd_bd {x : Int} (h1 : -2305843009213693952 ≤ x) (h2 : x ≤ 2305843009213693952) : -35184372088833 ≤ rnd x ∧ rnd x ≤ 35184372088833 := by unfold rnd; omega
theorem cat_ok (a b c d e f a1 b1 c1 d1 e1 f1 : Int) : F23 a b c d e f a1 b1 c1 d1 e1 f1 = some (catN a b c d e f a1 b1 c1 d1 e1 f1) := by
  unfold F23 catN F11_0; rw [F11v, F11v]
  cases h : F39_0 a b c d e f with
  | false => rfl
  | true =>
    cases g : F39_0 a1 b1 c1 d1 e1 f1 with
    | false => rfl
    | true =>
      rw [ok_t] at h g
      obtain ⟨⟨ha1, ha2⟩, ⟨hb1, hb2⟩, ⟨hc1, hc2⟩, ⟨hd1, hd2⟩, ⟨he1, he2⟩, ⟨hf1, hf2⟩⟩ := h
      obtain ⟨⟨ga1, ga2⟩, ⟨gb1, gb2⟩, ⟨gc1, gc2⟩, ⟨gd1, gd2⟩, ⟨ge1, ge2⟩, ⟨gf1, gf2⟩⟩ := g
      obtain ⟨p1, q1, r1⟩ := mul0 a a1 ha1 ha2 ga1 ga2 (by decide)
      obtain ⟨p2, q2, r2⟩ := mul0 b c1 hb1 hb2 gc1 gc2 (by decide)
      obtain ⟨p3, q3, r3⟩ := mul0 a b1 ha1 ha2 gb1 gb2 (by decide)
      obtain ⟨p4, q4, r4⟩ := mul0 b d1 hb1 hb2 gd1 gd2 (by decide)
      obtain ⟨p5, q5, r5⟩ := mul0 c a1 hc1 hc2 ga1 ga2 (by decide)
      obtain ⟨p6, q6, r6⟩ := mul0 d c1 hd1 hd2 gc1 gc2 (by decide)
      obtain ⟨p7, q7, r7⟩ := mul0 c b1 hc1 hc2 gb1 gb2 (by decide)
      obtain ⟨p8, q8, r8⟩ := mul0 d d1 hd1 hd2 gd1 gd2 (by decide)
      obtain ⟨p9, q9, r9⟩ := mul0 e a1 he1 he2 ga1 ga2 (by decide)
      obtain ⟨pa, qa, ra⟩ := mul0 f c1 hf1 hf2 gc1 gc2 (by decide)
      obtain ⟨pb, qb, rb⟩ := mul0 e b1 he1 he2 gb1 gb2 (by decide)
      obtain ⟨pc, qc, rc⟩ := mul0 f d1 hf1 hf2 gd1 gd2 (by decide)
      have x0 : t23_0 a b a1 c1 = rnd (a * a1 + b * c1) := by unfold t23_0; rw [p1, p2]; exact pr2 (by omega) (by omega) (by omega) (by omega)
      have x1 : t23_1 a b b1 d1 = rnd (a * b1 + b * d1) := by unfold t23_1; rw [p3, p4]; exact pr2 (by omega) (by omega) (by omega) (by omega)
      have x2 : t23_2 c d a1 c1 = rnd (c * a1 + d * c1) := by unfold t23_2; rw [p5, p6]; exact pr2 (by omega) (by omega) (by omega) (by omega)
      have x3 : t23_3 c d b1 d1 = rnd (c * b1 + d * d1) := by unfold t23_3; rw [p7, p8]; exact pr2 (by omega) (by omega) (by omega) (by omega)
      obtain ⟨k1, k2⟩ := rnd_bd (x := e * a1 + f * c1) (by omega) (by omega)
      obtain ⟨k3, k4⟩ := rnd_bd (x := e * b1 + f * d1) (by omega) (by omega)
      have x4 : t23_4 e f a1 c1 e1 = rnd (e * a1 + f * c1) + e1 := by unfold t23_4; rw [p9, pa, pr2 (by omega) (by omega) (by omega) (by omega)]; simp only [add_int]; exact wrap64 (by omega) (by omega)
      have x5 : t23_5 e f b1 d1 f1 = rnd (e * b1 + f * d1) + f1 := by unfold t23_5; rw [pb, pc, pr2 (by omega) (by omega) (by omega) (by omega)]; simp only [add_int]; exact wrap64 (by omega) (by omega)
      simp only [t23_6, t23_7, t23_8, t23_9, t23_10, t23_11, t23_12, x0, x1, x2, x3, x4, x5, F51_0, F51_1, F51_2, F51_3, F51_4, F51_5, F51_6, F51v, Option.getD_some]
      rfl
theorem cat_ref (a b c d e f a1 b1 c1 d1 e1 f1 : Int) : F24 a b c d e f a1 b1 c1 d1 e1 f1 = some (catN a b c d e f a1 b1 c1 d1 e1 f1) := by
  unfold F24 catN
  cases h : F39_0 a b c d e f with
  | false => rfl
  | true =>
    cases g : F39_0 a1 b1 c1 d1 e1 f1 with
    | false => rfl
    | true =>
      rw [ok_t] at h g
      obtain ⟨⟨ha1, ha2⟩, ⟨hb1, hb2⟩, ⟨hc1, hc2⟩, ⟨hd1, hd2⟩, ⟨he1, he2⟩, ⟨hf1, hf2⟩⟩ := h
      obtain ⟨⟨ga1, ga2⟩, ⟨gb1, gb2⟩, ⟨gc1, gc2⟩, ⟨gd1, gd2⟩, ⟨ge1, ge2⟩, ⟨gf1, gf2⟩⟩ := g
      obtain ⟨p1, q1, r1⟩ := mul0 a a1 ha1 ha2 ga1 ga2 (by decide)
      obtain ⟨p2, q2, r2⟩ := mul0 b c1 hb1 hb2 gc1 gc2 (by decide)
      obtain ⟨p3, q3, r3⟩ := mul0 a b1 ha1 ha2 gb1 gb2 (by decide)
      obtain ⟨p4, q4, r4⟩ := mul0 b d1 hb1 hb2 gd1 gd2 (by decide)
      obtain ⟨p5, q5, r5⟩ := mul0 c a1 hc1 hc2 ga1 ga2 (by decide)
      obtain ⟨p6, q6, r6⟩ := mul0 d c1 hd1 hd2 gc1 gc2 (by decide)
      obtain ⟨p7, q7, r7⟩ := mul0 c b1 hc1 hc2 gb1 gb2 (by decide)
      obtain ⟨p8, q8, r8⟩ := mul0 d d1 hd1 hd2 gd1 gd2 (by decide)
      obtain ⟨p9, q9, r9⟩ := mul0 e a1 he1 he2 ga1 ga2 (by decide)
      obtain ⟨pa, qa, ra⟩ := mul0 f c1 hf1 hf2 gc1 gc2 (by decide)
      obtain ⟨pb, qb, rb⟩ := mul0 e b1 he1 he2 gb1 gb2 (by decide)
      obtain ⟨pc, qc, rc⟩ := mul0 f d1 hf1 hf2 gd1 gd2 (by decide)
      obtain ⟨b1', b2'⟩ := mul_bd he1 he2 ga1 ga2
      obtain ⟨b3', b4'⟩ := mul_bd hf1 hf2 gc1 gc2
      obtain ⟨b5', b6'⟩ := mul_bd he1 he2 gb1 gb2
      obtain ⟨b7', b8'⟩ := mul_bd hf1 hf2 gd1 gd2
      obtain ⟨c1', c2'⟩ := mul_bd ha1 ha2 ga1 ga2
      obtain ⟨c3', c4'⟩ := mul_bd hb1 hb2 gc1 gc2
      obtain ⟨c5', c6'⟩ := mul_bd ha1 ha2 gb1 gb2
      obtain ⟨c7', c8'⟩ := mul_bd hb1 hb2 gd1 gd2
      obtain ⟨d1', d2'⟩ := mul_bd hc1 hc2 ga1 ga2
      obtain ⟨d3', d4'⟩ := mul_bd hd1 hd2 gc1 gc2
      obtain ⟨d5', d6'⟩ := mul_bd hc1 hc2 gb1 gb2
      obtain ⟨d7', d8'⟩ := mul_bd hd1 hd2 gd1 gd2
      have s : ∀ u v : Int, -11529215046068469 ≤ u → u ≤ 11529215046068469 → -11529215046068469 ≤ v → v ≤ 11529215046068469 → F54 (wrapA .i64 (Int.add u v)) 65536 = some (rnd (u + v)) := by
        intro u v h1 h2 h3 h4
        simp only [add_int]; rw [wrap64 (by omega) (by omega)]; exact rnd_ok (by omega) (by omega)
      obtain ⟨k1, k2⟩ := rnd_bd (x := e * a1 + f * c1) (by omega) (by omega)
      obtain ⟨k3, k4⟩ := rnd_bd (x := e * b1 + f * d1) (by omega) (by omega)
      have w4 : wrapA .i64 (Int.add (rnd (e * a1 + f * c1)) e1) = rnd (e * a1 + f * c1) + e1 := by simp only [add_int]; exact wrap64 (by omega) (by omega)
      have w5 : wrapA .i64 (Int.add (rnd (e * b1 + f * d1)) f1) = rnd (e * b1 + f * d1) + f1 := by simp only [add_int]; exact wrap64 (by omega) (by omega)
      have s0 := s (a * a1) (b * c1) (by omega) (by omega) (by omega) (by omega)
      have s1 := s (a * b1) (b * d1) (by omega) (by omega) (by omega) (by omega)
      have s2 := s (c * a1) (d * c1) (by omega) (by omega) (by omega) (by omega)
      have s3 := s (c * b1) (d * d1) (by omega) (by omega) (by omega) (by omega)
      have s4 := s (e * a1) (f * c1) (by omega) (by omega) (by omega) (by omega)
      have s5 := s (e * b1) (f * d1) (by omega) (by omega) (by omega) (by omega)
      simp only [t24_0, t24_1, t24_2, t24_3, t24_4, t24_5, t24_6, t24_7, t24_8, t24_9, t24_10, t24_11, t24_12, p1, p2, p3, p4, p5, p6, p7, p8, p9, pa, pb, pc, F54_0, s0, s1, s2, s3, s4, s5, w4, w5, F53_0, F53_1, F53_2, F53_3, F53_4, F53_5, F53_6, F53v, Option.getD_some, Option.isSome_some, Bool.not_true, cond_true, cond_false]
noncomputable def chk (a b c d e f x y : Int) : Int := bif F39_0 a b c d e f then (bif F38_0 x 2147483648 then (bif F38_0 y 2147483648 then 0 else 2) else 2) else 300
theorem F42v (a b c d e f x y : Int) : F42 a b c d e f x y = some (chk a b c d e f x y) := by
  unfold F42 chk; simp only [in46]
  cases F39_0 a b c d e f <;> cases F38_0 x 2147483648 <;> cases F38_0 y 2147483648 <;> rfl
theorem chk_0 {a b c d e f x y : Int} (h : chk a b c d e f x y = 0) : F39_0 a b c d e f = true ∧ F38_0 x 2147483648 = true ∧ F38_0 y 2147483648 = true := by
  unfold chk at h
  cases h1 : F39_0 a b c d e f <;> cases h2 : F38_0 x 2147483648 <;> cases h3 : F38_0 y 2147483648 <;> rw [h1, h2, h3] at h <;> first | exact ⟨rfl, rfl, rfl⟩ | (exfalso; revert h; decide)
noncomputable def trN (a b c d e f x y : Int) : T7 := bif eqI (chk a b c d e f x y) 0 then endN a b c d (rnd (a * x + c * y) + e) (rnd (b * x + d * y) + f) else (0, 0, 0, 0, 0, 0, chk a b c d e f x y)
noncomputable def scN (a b c d e f x y : Int) : T7 := bif eqI (chk a b c d e f x y) 0 then endN (rnd (a * x)) (rnd (b * x)) (rnd (c * y)) (rnd (d * y)) e f else (0, 0, 0, 0, 0, 0, chk a b c d e f x y)
theorem chk_cases (a b c d e f x y : Int) : (F39_0 a b c d e f = false ∧ chk a b c d e f x y = 300) ∨ (F39_0 a b c d e f = true ∧ F38_0 x 2147483648 = false ∧ chk a b c d e f x y = 2) ∨ (F39_0 a b c d e f = true ∧ F38_0 x 2147483648 = true ∧ F38_0 y 2147483648 = false ∧ chk a b c d e f x y = 2) ∨ (F39_0 a b c d e f = true ∧ F38_0 x 2147483648 = true ∧ F38_0 y 2147483648 = true ∧ chk a b c d e f x y = 0) := by
  unfold chk
  cases F39_0 a b c d e f <;> cases F38_0 x 2147483648 <;> cases F38_0 y 2147483648 <;> simp
theorem args_bd {a b c d e f x y : Int} (h : F39_0 a b c d e f = true) (hx : F38_0 x 2147483648 = true) (hy : F38_0 y 2147483648 = true) :
    (wrapA .i64 (Int.mul a x) = a * x ∧ -36028797018963968 ≤ a * x ∧ a * x ≤ 36028797018963968) ∧ (wrapA .i64 (Int.mul b x) = b * x ∧ -36028797018963968 ≤ b * x ∧ b * x ≤ 36028797018963968) ∧ (wrapA .i64 (Int.mul c y) = c * y ∧ -36028797018963968 ≤ c * y ∧ c * y ≤ 36028797018963968) ∧ (wrapA .i64 (Int.mul d y) = d * y ∧ -36028797018963968 ≤ d * y ∧ d * y ≤ 36028797018963968) ∧ (-536870912 ≤ e ∧ e ≤ 536870912) ∧ (-536870912 ≤ f ∧ f ≤ 536870912) := by
  rw [ok_t] at h
  rw [in_t _ _ (by decide) (by decide)] at hx hy
  obtain ⟨⟨ha1, ha2⟩, ⟨hb1, hb2⟩, ⟨hc1, hc2⟩, ⟨hd1, hd2⟩, he, hf⟩ := h
  obtain ⟨q1, r1⟩ := mul_bd ha1 ha2 hx.1 hx.2
  obtain ⟨q2, r2⟩ := mul_bd hb1 hb2 hx.1 hx.2
  obtain ⟨q3, r3⟩ := mul_bd hc1 hc2 hy.1 hy.2
  obtain ⟨q4, r4⟩ := mul_bd hd1 hd2 hy.1 hy.2
  refine ⟨⟨?_, by omega, by omega⟩, ⟨?_, by omega, by omega⟩, ⟨?_, by omega, by omega⟩, ⟨?_, by omega, by omega⟩, he, hf⟩ <;> (simp only [mul_int]; exact wrap64 (by omega) (by omega))
theorem tr_ok (a b c d e f x y : Int) : F25 a b c d e f x y = some (trN a b c d e f x y) := by
  have z : eqI 300 0 = false := rfl
  have z2 : eqI 2 0 = false := rfl
  have z0 : eqI 0 0 = true := rfl
  unfold F25 trN F11_0; rw [F11v]
  rcases chk_cases a b c d e f x y with ⟨h, g⟩ | ⟨h, hx, g⟩ | ⟨h, hx, hy, g⟩ | ⟨h, hx, hy, g⟩
  · simp only [h, g, z, Option.getD_some, Bool.not_false, cond_true, cond_false]
  · simp only [h, hx, g, z0, z2, Option.getD_some, Bool.not_false, Bool.not_true, cond_true, cond_false]
  · simp only [h, hx, hy, g, z0, z2, Option.getD_some, Bool.not_false, Bool.not_true, cond_true, cond_false]
  · obtain ⟨⟨p1, q1, r1⟩, ⟨p2, q2, r2⟩, ⟨p3, q3, r3⟩, ⟨p4, q4, r4⟩, ⟨e1, e2⟩, ⟨f1, f2⟩⟩ := args_bd h hx hy
    obtain ⟨k1, k2⟩ := rnd_bd (x := a * x + c * y) (by omega) (by omega)
    obtain ⟨k3, k4⟩ := rnd_bd (x := b * x + d * y) (by omega) (by omega)
    have x0 : t25_0 a c e x y = rnd (a * x + c * y) + e := by unfold t25_0; rw [p1, p3, pr2 (by omega) (by omega) (by omega) (by omega)]; simp only [add_int]; exact wrap64 (by omega) (by omega)
    have x1 : t25_1 b d f x y = rnd (b * x + d * y) + f := by unfold t25_1; rw [p2, p4, pr2 (by omega) (by omega) (by omega) (by omega)]; simp only [add_int]; exact wrap64 (by omega) (by omega)
    simp only [h, hx, hy, g, z0, t25_2, t25_3, t25_4, t25_5, t25_6, t25_7, t25_8, x0, x1, F51_0, F51_1, F51_2, F51_3, F51_4, F51_5, F51_6, F51v, Option.getD_some, Bool.not_true, cond_true, cond_false]
theorem tr_ref (a b c d e f x y : Int) : F26 a b c d e f x y = some (trN a b c d e f x y) := by
  have z : eqI 300 0 = false := rfl
  have z2 : eqI 2 0 = false := rfl
  have z0 : eqI 0 0 = true := rfl
  unfold F26 trN c26_0 F42_0; rw [F42v]
  rcases chk_cases a b c d e f x y with ⟨h, g⟩ | ⟨h, hx, g⟩ | ⟨h, hx, hy, g⟩ | ⟨h, hx, hy, g⟩
  · simp only [g, z, Option.getD_some, Bool.not_false, cond_true, cond_false]
  · simp only [g, z2, Option.getD_some, Bool.not_false, cond_true, cond_false]
  · simp only [g, z2, Option.getD_some, Bool.not_false, cond_true, cond_false]
  · obtain ⟨⟨p1, q1, r1⟩, ⟨p2, q2, r2⟩, ⟨p3, q3, r3⟩, ⟨p4, q4, r4⟩, ⟨e1, e2⟩, ⟨f1, f2⟩⟩ := args_bd h hx hy
    have s : ∀ u v : Int, -36028797018963968 ≤ u → u ≤ 36028797018963968 → -36028797018963968 ≤ v → v ≤ 36028797018963968 → F54 (wrapA .i64 (Int.add u v)) 65536 = some (rnd (u + v)) := by
      intro u v h1 h2 h3 h4
      simp only [add_int]; rw [wrap64 (by omega) (by omega)]; exact rnd_ok (by omega) (by omega)
    obtain ⟨k1, k2⟩ := rnd_bd (x := a * x + c * y) (by omega) (by omega)
    obtain ⟨k3, k4⟩ := rnd_bd (x := b * x + d * y) (by omega) (by omega)
    have w0 : wrapA .i64 (Int.add (rnd (a * x + c * y)) e) = rnd (a * x + c * y) + e := by simp only [add_int]; exact wrap64 (by omega) (by omega)
    have w1 : wrapA .i64 (Int.add (rnd (b * x + d * y)) f) = rnd (b * x + d * y) + f := by simp only [add_int]; exact wrap64 (by omega) (by omega)
    have s0 := s (a * x) (c * y) q1 r1 q3 r3
    have s1 := s (b * x) (d * y) q2 r2 q4 r4
    simp only [g, z0, t26_1, t26_2, t26_3, t26_4, t26_5, t26_6, t26_7, t26_8, t26_9, p1, p2, p3, p4, F54_0, s0, s1, w0, w1, F53_0, F53_1, F53_2, F53_3, F53_4, F53_5, F53_6, F53v, Option.getD_some, Option.isSome_some, Bool.not_true, cond_true, cond_false]
theorem sc_ok (a b c d e f x y : Int) : F27 a b c d e f x y = some (scN a b c d e f x y) := by
  have z : eqI 300 0 = false := rfl
  have z2 : eqI 2 0 = false := rfl
  have z0 : eqI 0 0 = true := rfl
  unfold F27 scN F11_0; rw [F11v]
  rcases chk_cases a b c d e f x y with ⟨h, g⟩ | ⟨h, hx, g⟩ | ⟨h, hx, hy, g⟩ | ⟨h, hx, hy, g⟩
  · simp only [h, g, z, Option.getD_some, Bool.not_false, cond_true, cond_false]
  · simp only [h, hx, g, z0, z2, Option.getD_some, Bool.not_false, Bool.not_true, cond_true, cond_false]
  · simp only [h, hx, hy, g, z0, z2, Option.getD_some, Bool.not_false, Bool.not_true, cond_true, cond_false]
  · obtain ⟨⟨p1, q1, r1⟩, ⟨p2, q2, r2⟩, ⟨p3, q3, r3⟩, ⟨p4, q4, r4⟩, ⟨e1, e2⟩, ⟨f1, f2⟩⟩ := args_bd h hx hy
    have x0 : t27_0 a x = rnd (a * x) := by unfold t27_0; rw [p1]; exact pr1 (by omega) (by omega)
    have x1 : t27_1 b x = rnd (b * x) := by unfold t27_1; rw [p2]; exact pr1 (by omega) (by omega)
    have x2 : t27_2 c y = rnd (c * y) := by unfold t27_2; rw [p3]; exact pr1 (by omega) (by omega)
    have x3 : t27_3 d y = rnd (d * y) := by unfold t27_3; rw [p4]; exact pr1 (by omega) (by omega)
    simp only [h, hx, hy, g, z0, x0, x1, x2, x3, F51_0, F51_1, F51_2, F51_3, F51_4, F51_5, F51_6, F51v, Option.getD_some, Bool.not_true, cond_true, cond_false]
theorem sc_ref (a b c d e f x y : Int) : F28 a b c d e f x y = some (scN a b c d e f x y) := by
  have z : eqI 300 0 = false := rfl
  have z2 : eqI 2 0 = false := rfl
  have z0 : eqI 0 0 = true := rfl
  unfold F28 scN c28_0 F42_0; rw [F42v]
  rcases chk_cases a b c d e f x y with ⟨h, g⟩ | ⟨h, hx, g⟩ | ⟨h, hx, hy, g⟩ | ⟨h, hx, hy, g⟩
  · simp only [g, z, Option.getD_some, Bool.not_false, cond_true, cond_false]
  · simp only [g, z2, Option.getD_some, Bool.not_false, cond_true, cond_false]
  · simp only [g, z2, Option.getD_some, Bool.not_false, cond_true, cond_false]
  · obtain ⟨⟨p1, q1, r1⟩, ⟨p2, q2, r2⟩, ⟨p3, q3, r3⟩, ⟨p4, q4, r4⟩, ⟨e1, e2⟩, ⟨f1, f2⟩⟩ := args_bd h hx hy
    have s0 := rnd_ok (x := a * x) (by omega) (by omega)
    have s1 := rnd_ok (x := b * x) (by omega) (by omega)
    have s2 := rnd_ok (x := c * y) (by omega) (by omega)
    have s3 := rnd_ok (x := d * y) (by omega) (by omega)
    simp only [g, z0, t28_1, t28_2, t28_3, t28_4, t28_5, t28_6, t28_7, p1, p2, p3, p4, F54_0, s0, s1, s2, s3, F53_0, F53_1, F53_2, F53_3, F53_4, F53_5, F53_6, F53v, Option.getD_some, Option.isSome_some, Bool.not_true, cond_true, cond_false]
theorem cells_int6 (cs : List AV) (off : Nat) (h : cs.all (fun c => isIntC .i64 [c] 0) = true) (hl : off + 6 ≤ cs.length) : cellsB cs off ([] ++ [CK.int .i64] ++ [CK.int .i64] ++ [CK.int .i64] ++ [CK.int .i64] ++ [CK.int .i64] ++ [CK.int .i64]) = true := by
  have key : ∀ j, j < cs.length → isIntC .i64 cs j = true := by
    intro j hj
    have hm := List.all_eq_true.1 h (cs[j]) (List.getElem_mem hj)
    unfold isIntC at hm ⊢
    rw [nth_eq, List.getElem?_eq_getElem hj]
    exact hm
  simp only [List.nil_append, List.cons_append, cellsB, cellB, key off (by omega), key (off + 1) (by omega), key (off + 1 + 1) (by omega), key (off + 1 + 1 + 1) (by omega), key (off + 1 + 1 + 1 + 1) (by omega), key (off + 1 + 1 + 1 + 1 + 1) (by omega), andB]
theorem w_one {v : Int} (h1 : 0 ≤ v) (h2 : v ≤ 100) : wrapA .i64 (Int.add v 1) = v + 1 := by simp only [add_int]; exact wrap64 (by omega) (by omega)
theorem st (a0_0 a0_1 a0_2 a0_3 a0_4 a0_5 a0_6 a0_7 a0_8 a0_9 a0_10 a0_11 a0_12 a0_13 a0_14 a0_15 a0_16 a0_17 a0_18 a0_19 a0_20 a0_21 a0_22 a0_23 a0_24 a0_25 : Int) (n : Nat) (v0 v1 v2 v3 v4 v5 v6 v7 : Int) (h1 : 0 ≤ v1) (h2 : v1 ≤ 2) : L4_0 a0_0 a0_1 a0_2 a0_3 a0_4 a0_5 a0_6 a0_7 a0_8 a0_9 a0_10 a0_11 a0_12 a0_13 a0_14 a0_15 a0_16 a0_17 a0_18 a0_19 a0_20 a0_21 a0_22 a0_23 a0_24 a0_25 (n + 1) v0 v1 v2 v3 v4 v5 v6 v7 = L4_0 a0_0 a0_1 a0_2 a0_3 a0_4 a0_5 a0_6 a0_7 a0_8 a0_9 a0_10 a0_11 a0_12 a0_13 a0_14 a0_15 a0_16 a0_17 a0_18 a0_19 a0_20 a0_21 a0_22 a0_23 a0_24 a0_25 n v0 (v1 + 1) v2 v3 v4 v5 v6 v7 := by
  have l : ltI v1 3 = true := by rw [ltI_t]; omega
  have i : inB v1 3 = true := by rw [inB_t]; omega
  rw [L4_0_succ, l, i, cells_int6 _ _ rfl (by show v1.toNat * 6 + 6 ≤ 18; omega), w_one h1 (by omega)]
  simp only [t4_430, t4_431, t4_432, t4_433, t4_434, t4_435, t4_436, t4_437, t4_438, t4_439, t4_440, t4_441, t4_442, t4_443, t4_444, t4_445, c4_446, c4_447, c4_448, c4_449, c4_450, c4_451, t4_452, t4_453, t4_454, t4_455, t4_456, t4_457, t4_458, t4_459, t4_460, t4_461, t4_462, t4_463, t4_464, t4_465, t4_466, t4_467, t4_468, t4_469, t4_470, t4_471, t4_472, t4_473, t4_474, t4_475, t4_476, t4_477, t4_478, t4_479, c4_480, c4_481, c4_482, c4_483, t4_484, t4_485, t4_486, t4_487, t4_488, t4_489, t4_490, t4_491, t4_492, t4_493, t4_494, t4_495, t4_496, t4_497, t4_498, t4_499, t4_500, t4_501, t4_502, t4_503, t4_504, t4_505, t4_506, t4_507, t4_508, t4_509, t4_510, t4_511, c4_512, c4_513, c4_514, c4_515, t4_516, t4_517, t4_518, t4_519, t4_520, t4_521, t4_522, t4_523, t4_524, t4_525, t4_526, t4_527, cat_ok, cat_ref, F23_0, F23_1, F23_2, F23_3, F23_4, F23_5, F23_6, F24_0, F24_1, F24_2, F24_3, F24_4, F24_5, F24_6, Option.isSome_some, Option.getD_some, eqI_same, andB, Bool.not_true, cond_true, cond_false]
theorem body3 (a0_0 a0_1 a0_2 a0_3 a0_4 a0_5 a0_6 a0_7 a0_8 a0_9 a0_10 a0_11 a0_12 a0_13 a0_14 a0_15 a0_16 a0_17 a0_18 a0_19 a0_20 a0_21 a0_22 a0_23 a0_24 a0_25 : Int) (n : Nat) (v0 v2 v3 v4 v5 v6 v7 : Int) (h1 : 0 ≤ v0) (h2 : v0 ≤ 2) : L4_0 a0_0 a0_1 a0_2 a0_3 a0_4 a0_5 a0_6 a0_7 a0_8 a0_9 a0_10 a0_11 a0_12 a0_13 a0_14 a0_15 a0_16 a0_17 a0_18 a0_19 a0_20 a0_21 a0_22 a0_23 a0_24 a0_25 (n + 1) v0 3 v2 v3 v4 v5 v6 v7 = (bif ltI (v0 + 1) 3 then L4_0 a0_0 a0_1 a0_2 a0_3 a0_4 a0_5 a0_6 a0_7 a0_8 a0_9 a0_10 a0_11 a0_12 a0_13 a0_14 a0_15 a0_16 a0_17 a0_18 a0_19 a0_20 a0_21 a0_22 a0_23 a0_24 a0_25 n (v0 + 1) 0 (t4_522 a0_0 a0_1 a0_2 a0_3 a0_4 a0_5 a0_6 a0_7 a0_8 a0_9 a0_10 a0_11 a0_12 a0_13 a0_14 a0_15 a0_16 a0_17 a0_18 a0_19 v0) (t4_523 a0_0 a0_1 a0_2 a0_3 a0_4 a0_5 a0_6 a0_7 a0_8 a0_9 a0_10 a0_11 a0_12 a0_13 a0_14 a0_15 a0_16 a0_17 a0_18 a0_19 v0) (t4_524 a0_0 a0_1 a0_2 a0_3 a0_4 a0_5 a0_6 a0_7 a0_8 a0_9 a0_10 a0_11 a0_12 a0_13 a0_14 a0_15 a0_16 a0_17 a0_18 a0_19 v0) (t4_525 a0_0 a0_1 a0_2 a0_3 a0_4 a0_5 a0_6 a0_7 a0_8 a0_9 a0_10 a0_11 a0_12 a0_13 a0_14 a0_15 a0_16 a0_17 a0_18 a0_19 v0) (t4_526 a0_0 a0_1 a0_2 a0_3 a0_4 a0_5 a0_6 a0_7 a0_8 a0_9 a0_10 a0_11 a0_12 a0_13 a0_14 a0_15 a0_16 a0_17 a0_18 a0_19 v0) (t4_527 a0_0 a0_1 a0_2 a0_3 a0_4 a0_5 a0_6 a0_7 a0_8 a0_9 a0_10 a0_11 a0_12 a0_13 a0_14 a0_15 a0_16 a0_17 a0_18 a0_19 v0) else some true) := by
  have l : ltI 3 3 = false := rfl
  rw [L4_0_succ, l, cond_false, w_one h1 (by omega)]
  cases e : ltI (v0 + 1) 3 with
  | false =>
    simp only [t4_430, t4_431, t4_432, t4_433, t4_434, t4_435, t4_436, t4_437, t4_438, t4_439, t4_440, t4_441, t4_442, t4_443, t4_444, t4_445, c4_446, c4_447, c4_448, c4_449, c4_450, c4_451, t4_452, t4_453, t4_454, t4_455, t4_456, t4_457, t4_458, t4_459, t4_460, t4_461, t4_462, t4_463, t4_464, t4_465, t4_466, t4_467, t4_468, t4_469, t4_470, t4_471, t4_472, t4_473, t4_474, t4_475, t4_476, t4_477, t4_478, t4_479, c4_480, c4_481, c4_482, c4_483, t4_484, t4_485, t4_486, t4_487, t4_488, t4_489, t4_490, t4_491, t4_492, t4_493, t4_494, t4_495, t4_496, t4_497, t4_498, t4_499, t4_500, t4_501, t4_502, t4_503, t4_504, t4_505, t4_506, t4_507, t4_508, t4_509, t4_510, t4_511, c4_512, c4_513, c4_514, c4_515, t4_516, t4_517, t4_518, t4_519, t4_520, t4_521, tr_ok, tr_ref, sc_ok, sc_ref, F25_0, F25_1, F25_2, F25_3, F25_4, F25_5, F25_6, F26_0, F26_1, F26_2, F26_3, F26_4, F26_5, F26_6, F27_0, F27_1, F27_2, F27_3, F27_4, F27_5, F27_6, F28_0, F28_1, F28_2, F28_3, F28_4, F28_5, F28_6, Option.isSome_some, Option.getD_some, eqI_same, andB, Bool.not_true, cond_true, cond_false]
  | true =>
    rw [ltI_t] at e
    have i : inB (v0 + 1) 3 = true := by rw [inB_t]; omega
    rw [i, cells_int6 _ _ rfl (by show (v0 + 1).toNat * 6 + 6 ≤ 18; omega)]
    simp only [t4_430, t4_431, t4_432, t4_433, t4_434, t4_435, t4_436, t4_437, t4_438, t4_439, t4_440, t4_441, t4_442, t4_443, t4_444, t4_445, c4_446, c4_447, c4_448, c4_449, c4_450, c4_451, t4_452, t4_453, t4_454, t4_455, t4_456, t4_457, t4_458, t4_459, t4_460, t4_461, t4_462, t4_463, t4_464, t4_465, t4_466, t4_467, t4_468, t4_469, t4_470, t4_471, t4_472, t4_473, t4_474, t4_475, t4_476, t4_477, t4_478, t4_479, c4_480, c4_481, c4_482, c4_483, t4_484, t4_485, t4_486, t4_487, t4_488, t4_489, t4_490, t4_491, t4_492, t4_493, t4_494, t4_495, t4_496, t4_497, t4_498, t4_499, t4_500, t4_501, t4_502, t4_503, t4_504, t4_505, t4_506, t4_507, t4_508, t4_509, t4_510, t4_511, c4_512, c4_513, c4_514, c4_515, t4_516, t4_517, t4_518, t4_519, t4_520, t4_521, tr_ok, tr_ref, sc_ok, sc_ref, F25_0, F25_1, F25_2, F25_3, F25_4, F25_5, F25_6, F26_0, F26_1, F26_2, F26_3, F26_4, F26_5, F26_6, F27_0, F27_1, F27_2, F27_3, F27_4, F27_5, F27_6, F28_0, F28_1, F28_2, F28_3, F28_4, F28_5, F28_6, Option.isSome_some, Option.getD_some, eqI_same, andB, Bool.not_true, cond_true, cond_false]
theorem row (a0_0 a0_1 a0_2 a0_3 a0_4 a0_5 a0_6 a0_7 a0_8 a0_9 a0_10 a0_11 a0_12 a0_13 a0_14 a0_15 a0_16 a0_17 a0_18 a0_19 a0_20 a0_21 a0_22 a0_23 a0_24 a0_25 : Int) (n : Nat) (v0 v2 v3 v4 v5 v6 v7 : Int) (h1 : 0 ≤ v0) (h2 : v0 ≤ 2) : L4_0 a0_0 a0_1 a0_2 a0_3 a0_4 a0_5 a0_6 a0_7 a0_8 a0_9 a0_10 a0_11 a0_12 a0_13 a0_14 a0_15 a0_16 a0_17 a0_18 a0_19 a0_20 a0_21 a0_22 a0_23 a0_24 a0_25 (n + 4) v0 0 v2 v3 v4 v5 v6 v7 = (bif ltI (v0 + 1) 3 then L4_0 a0_0 a0_1 a0_2 a0_3 a0_4 a0_5 a0_6 a0_7 a0_8 a0_9 a0_10 a0_11 a0_12 a0_13 a0_14 a0_15 a0_16 a0_17 a0_18 a0_19 a0_20 a0_21 a0_22 a0_23 a0_24 a0_25 n (v0 + 1) 0 (t4_522 a0_0 a0_1 a0_2 a0_3 a0_4 a0_5 a0_6 a0_7 a0_8 a0_9 a0_10 a0_11 a0_12 a0_13 a0_14 a0_15 a0_16 a0_17 a0_18 a0_19 v0) (t4_523 a0_0 a0_1 a0_2 a0_3 a0_4 a0_5 a0_6 a0_7 a0_8 a0_9 a0_10 a0_11 a0_12 a0_13 a0_14 a0_15 a0_16 a0_17 a0_18 a0_19 v0) (t4_524 a0_0 a0_1 a0_2 a0_3 a0_4 a0_5 a0_6 a0_7 a0_8 a0_9 a0_10 a0_11 a0_12 a0_13 a0_14 a0_15 a0_16 a0_17 a0_18 a0_19 v0) (t4_525 a0_0 a0_1 a0_2 a0_3 a0_4 a0_5 a0_6 a0_7 a0_8 a0_9 a0_10 a0_11 a0_12 a0_13 a0_14 a0_15 a0_16 a0_17 a0_18 a0_19 v0) (t4_526 a0_0 a0_1 a0_2 a0_3 a0_4 a0_5 a0_6 a0_7 a0_8 a0_9 a0_10 a0_11 a0_12 a0_13 a0_14 a0_15 a0_16 a0_17 a0_18 a0_19 v0) (t4_527 a0_0 a0_1 a0_2 a0_3 a0_4 a0_5 a0_6 a0_7 a0_8 a0_9 a0_10 a0_11 a0_12 a0_13 a0_14 a0_15 a0_16 a0_17 a0_18 a0_19 v0) else some true) := by
  rw [st a0_0 a0_1 a0_2 a0_3 a0_4 a0_5 a0_6 a0_7 a0_8 a0_9 a0_10 a0_11 a0_12 a0_13 a0_14 a0_15 a0_16 a0_17 a0_18 a0_19 a0_20 a0_21 a0_22 a0_23 a0_24 a0_25 (n + 3) v0 0 v2 v3 v4 v5 v6 v7 (by decide) (by decide), st a0_0 a0_1 a0_2 a0_3 a0_4 a0_5 a0_6 a0_7 a0_8 a0_9 a0_10 a0_11 a0_12 a0_13 a0_14 a0_15 a0_16 a0_17 a0_18 a0_19 a0_20 a0_21 a0_22 a0_23 a0_24 a0_25 (n + 2) v0 (0 + 1) v2 v3 v4 v5 v6 v7 (by decide) (by decide), st a0_0 a0_1 a0_2 a0_3 a0_4 a0_5 a0_6 a0_7 a0_8 a0_9 a0_10 a0_11 a0_12 a0_13 a0_14 a0_15 a0_16 a0_17 a0_18 a0_19 a0_20 a0_21 a0_22 a0_23 a0_24 a0_25 (n + 1) v0 (0 + 1 + 1) v2 v3 v4 v5 v6 v7 (by decide) (by decide)]
  exact body3 a0_0 a0_1 a0_2 a0_3 a0_4 a0_5 a0_6 a0_7 a0_8 a0_9 a0_10 a0_11 a0_12 a0_13 a0_14 a0_15 a0_16 a0_17 a0_18 a0_19 a0_20 a0_21 a0_22 a0_23 a0_24 a0_25 n v0 v2 v3 v4 v5 v6 v7 h1 h2
theorem law_ok (a0_0 a0_1 a0_2 a0_3 a0_4 a0_5 a0_6 a0_7 a0_8 a0_9 a0_10 a0_11 a0_12 a0_13 a0_14 a0_15 a0_16 a0_17 a0_18 a0_19 a0_20 a0_21 a0_22 a0_23 a0_24 a0_25 : Int) (_ : (Lit.int .u8 a0_0).wf = true) (_ : (Lit.int .i32 a0_1).wf = true) (_ : (Lit.int .i32 a0_2).wf = true) (_ : (Lit.int .i32 a0_3).wf = true) (_ : (Lit.int .i32 a0_4).wf = true) (_ : (Lit.int .i32 a0_5).wf = true) (_ : (Lit.int .i32 a0_6).wf = true) (_ : (Lit.int .u8 a0_7).wf = true) (_ : (Lit.int .i32 a0_8).wf = true) (_ : (Lit.int .i32 a0_9).wf = true) (_ : (Lit.int .i32 a0_10).wf = true) (_ : (Lit.int .i32 a0_11).wf = true) (_ : (Lit.int .i32 a0_12).wf = true) (_ : (Lit.int .i32 a0_13).wf = true) (_ : (Lit.int .i64 a0_14).wf = true) (_ : (Lit.int .i64 a0_15).wf = true) (_ : (Lit.int .i64 a0_16).wf = true) (_ : (Lit.int .i64 a0_17).wf = true) (_ : (Lit.int .i64 a0_18).wf = true) (_ : (Lit.int .i64 a0_19).wf = true) (_ : (Lit.int .i64 a0_20).wf = true) (_ : (Lit.int .i64 a0_21).wf = true) (_ : (Lit.int .i64 a0_22).wf = true) (_ : (Lit.int .i64 a0_23).wf = true) (_ : (Lit.int .i64 a0_24).wf = true) (_ : (Lit.int .i64 a0_25).wf = true) : ∃ n : Nat, F4 n a0_0 a0_1 a0_2 a0_3 a0_4 a0_5 a0_6 a0_7 a0_8 a0_9 a0_10 a0_11 a0_12 a0_13 a0_14 a0_15 a0_16 a0_17 a0_18 a0_19 a0_20 a0_21 a0_22 a0_23 a0_24 a0_25 = some true := by
  refine ⟨12, ?_⟩
  unfold F4
  rw [row a0_0 a0_1 a0_2 a0_3 a0_4 a0_5 a0_6 a0_7 a0_8 a0_9 a0_10 a0_11 a0_12 a0_13 a0_14 a0_15 a0_16 a0_17 a0_18 a0_19 a0_20 a0_21 a0_22 a0_23 a0_24 a0_25 8 0 _ _ _ _ _ _ (by decide) (by decide), show ltI (0 + 1) 3 = true from rfl, cond_true, row a0_0 a0_1 a0_2 a0_3 a0_4 a0_5 a0_6 a0_7 a0_8 a0_9 a0_10 a0_11 a0_12 a0_13 a0_14 a0_15 a0_16 a0_17 a0_18 a0_19 a0_20 a0_21 a0_22 a0_23 a0_24 a0_25 4 (0 + 1) _ _ _ _ _ _ (by decide) (by decide), show ltI (0 + 1 + 1) 3 = true from rfl, cond_true, row a0_0 a0_1 a0_2 a0_3 a0_4 a0_5 a0_6 a0_7 a0_8 a0_9 a0_10 a0_11 a0_12 a0_13 a0_14 a0_15 a0_16 a0_17 a0_18 a0_19 a0_20 a0_21 a0_22 a0_23 a0_24 a0_25 0 (0 + 1 + 1) _ _ _ _ _ _ (by decide) (by decide)]
  rfl

end

theorem walk (a0_0 : Int) (a0_1 : Int) (a0_2 : Int) (a0_3 : Int) (a0_4 : Int) (a0_5 : Int) (a0_6 : Int) (a0_7 : Int) (a0_8 : Int) (a0_9 : Int) (a0_10 : Int) (a0_11 : Int) (a0_12 : Int) (a0_13 : Int) (a0_14 : Int) (a0_15 : Int) (a0_16 : Int) (a0_17 : Int) (a0_18 : Int) (a0_19 : Int) (a0_20 : Int) (a0_21 : Int) (a0_22 : Int) (a0_23 : Int) (a0_24 : Int) (a0_25 : Int) (wa0_0 : (Lit.int .u8 a0_0).wf = true) (wa0_1 : (Lit.int .i32 a0_1).wf = true) (wa0_2 : (Lit.int .i32 a0_2).wf = true) (wa0_3 : (Lit.int .i32 a0_3).wf = true) (wa0_4 : (Lit.int .i32 a0_4).wf = true) (wa0_5 : (Lit.int .i32 a0_5).wf = true) (wa0_6 : (Lit.int .i32 a0_6).wf = true) (wa0_7 : (Lit.int .u8 a0_7).wf = true) (wa0_8 : (Lit.int .i32 a0_8).wf = true) (wa0_9 : (Lit.int .i32 a0_9).wf = true) (wa0_10 : (Lit.int .i32 a0_10).wf = true) (wa0_11 : (Lit.int .i32 a0_11).wf = true) (wa0_12 : (Lit.int .i32 a0_12).wf = true) (wa0_13 : (Lit.int .i32 a0_13).wf = true) (wa0_14 : (Lit.int .i64 a0_14).wf = true) (wa0_15 : (Lit.int .i64 a0_15).wf = true) (wa0_16 : (Lit.int .i64 a0_16).wf = true) (wa0_17 : (Lit.int .i64 a0_17).wf = true) (wa0_18 : (Lit.int .i64 a0_18).wf = true) (wa0_19 : (Lit.int .i64 a0_19).wf = true) (wa0_20 : (Lit.int .i64 a0_20).wf = true) (wa0_21 : (Lit.int .i64 a0_21).wf = true) (wa0_22 : (Lit.int .i64 a0_22).wf = true) (wa0_23 : (Lit.int .i64 a0_23).wf = true) (wa0_24 : (Lit.int .i64 a0_24).wf = true) (wa0_25 : (Lit.int .i64 a0_25).wf = true) {w : World} {ARGS : List Value} (ha : Go.Sx.RelL (fun _ => none) [.agg [.int .u8 a0_0, .int .i32 a0_1, .int .i32 a0_2, .int .i32 a0_3, .int .i32 a0_4, .int .i32 a0_5, .int .i32 a0_6, .int .u8 a0_7, .int .i32 a0_8, .int .i32 a0_9, .int .i32 a0_10, .int .i32 a0_11, .int .i32 a0_12, .int .i32 a0_13, .int .i64 a0_14, .int .i64 a0_15, .int .i64 a0_16, .int .i64 a0_17, .int .i64 a0_18, .int .i64 a0_19, .int .i64 a0_20, .int .i64 a0_21, .int .i64 a0_22, .int .i64 a0_23, .int .i64 a0_24, .int .i64 a0_25]] ARGS) :
    Calls Try.prog 4 ARGS.toArray w fun e w' => e = .returned (.bool true) ∧ Below w.heap.size w w' := by
  obtain ⟨n, hn⟩ := law_ok a0_0 a0_1 a0_2 a0_3 a0_4 a0_5 a0_6 a0_7 a0_8 a0_9 a0_10 a0_11 a0_12 a0_13 a0_14 a0_15 a0_16 a0_17 a0_18 a0_19 a0_20 a0_21 a0_22 a0_23 a0_24 a0_25 wa0_0 wa0_1 wa0_2 wa0_3 wa0_4 wa0_5 wa0_6 wa0_7 wa0_8 wa0_9 wa0_10 wa0_11 wa0_12 wa0_13 wa0_14 wa0_15 wa0_16 wa0_17 wa0_18 wa0_19 wa0_20 wa0_21 wa0_22 wa0_23 wa0_24 wa0_25
  exact Go.Sx.call_args okayed rfl ha Try.func4 body4_eq (run4 n a0_0 a0_1 a0_2 a0_3 a0_4 a0_5 a0_6 a0_7 a0_8 a0_9 a0_10 a0_11 a0_12 a0_13 a0_14 a0_15 a0_16 a0_17 a0_18 a0_19 a0_20 a0_21 a0_22 a0_23 a0_24 a0_25 true hn) (fun _ _ h => by cases h)

set_option maxRecDepth 100000 in
theorem lifted (os : Os) (started : os.Started) (H : Type) (enc : TypeId × Value → H) :
    ReturnsInHanded {} Try.checked os 4 .any (Rows.matrixJoinsSpec.pre6 enc Try.prog Try.f4 Rows.matrixJoinsRow.domain false) (Rows.matrixJoinsSpec.post enc Try.prog Try.f4 false true false false) := by
  refine returnsInHanded_of_change (C := Try.checked) own started (by kernel_rfl) Try.func4
    (ChangeSpec.witness6 (enc := enc) (C := Try.checked) false ⟨#[], #[.agg #[.int .u8 0, .int .i32 0, .int .i32 0, .int .i32 0, .int .i32 0, .int .i32 0, .int .i32 0, .int .u8 0, .int .i32 0, .int .i32 0, .int .i32 0, .int .i32 0, .int .i32 0, .int .i32 0, .int .i64 0, .int .i64 0, .int .i64 0, .int .i64 0, .int .i64 0, .int .i64 0, .int .i64 0, .int .i64 0, .int .i64 0, .int .i64 0, .int .i64 0, .int .i64 0]], []⟩ 8 (by kernel_rfl) (by kernel_rfl) (by kernel_rfl) (by kernel_rfl)) ?_
  intro W base args ds gs before hval0 hW hcnd _
  have hval : ∀ (j : Nat) t v, Try.f4.params[j]? = some t → args[j]? = some v → Value.okWide Try.prog W .any base t v := hval0
  have hW' := hW
  obtain ⟨p, q, hA0, hV, rfl, hfz, hnd⟩ := hW
  have hA : DataW.TrodAll enc Try.prog W 0 (fun _ => true) true Try.f4.params.toList args.toList ds p := hA0
  rw [Try.params4] at hA hval
  obtain ⟨v0, vs0, d0, ds0, p0, q0, hargs, rfl, rfl, h0, r0⟩ := trodAll_cons hA
  obtain ⟨rfl, rfl, rfl⟩ := trodAll_nil r0
  obtain rfl : args = #[v0] := by cases args; simp_all
  obtain ⟨rfl, rfl⟩ := trodVars_none hV
  obtain ⟨rfl, as0, k0, e0⟩ := Go.Sx.open_kinds (ks := [.int .u8, .int .i32, .int .i32, .int .i32, .int .i32, .int .i32, .int .i32, .int .u8, .int .i32, .int .i32, .int .i32, .int .i32, .int .i32, .int .i32, .int .i64, .int .i64, .int .i64, .int .i64, .int .i64, .int .i64, .int .i64, .int .i64, .int .i64, .int .i64, .int .i64, .int .i64]) (by kernel_rfl) h0
  obtain ⟨a0_0, r0, rfl, wa0_0, k0⟩ := k0
  obtain ⟨a0_1, r0, rfl, wa0_1, k0⟩ := k0
  obtain ⟨a0_2, r0, rfl, wa0_2, k0⟩ := k0
  obtain ⟨a0_3, r0, rfl, wa0_3, k0⟩ := k0
  obtain ⟨a0_4, r0, rfl, wa0_4, k0⟩ := k0
  obtain ⟨a0_5, r0, rfl, wa0_5, k0⟩ := k0
  obtain ⟨a0_6, r0, rfl, wa0_6, k0⟩ := k0
  obtain ⟨a0_7, r0, rfl, wa0_7, k0⟩ := k0
  obtain ⟨a0_8, r0, rfl, wa0_8, k0⟩ := k0
  obtain ⟨a0_9, r0, rfl, wa0_9, k0⟩ := k0
  obtain ⟨a0_10, r0, rfl, wa0_10, k0⟩ := k0
  obtain ⟨a0_11, r0, rfl, wa0_11, k0⟩ := k0
  obtain ⟨a0_12, r0, rfl, wa0_12, k0⟩ := k0
  obtain ⟨a0_13, r0, rfl, wa0_13, k0⟩ := k0
  obtain ⟨a0_14, r0, rfl, wa0_14, k0⟩ := k0
  obtain ⟨a0_15, r0, rfl, wa0_15, k0⟩ := k0
  obtain ⟨a0_16, r0, rfl, wa0_16, k0⟩ := k0
  obtain ⟨a0_17, r0, rfl, wa0_17, k0⟩ := k0
  obtain ⟨a0_18, r0, rfl, wa0_18, k0⟩ := k0
  obtain ⟨a0_19, r0, rfl, wa0_19, k0⟩ := k0
  obtain ⟨a0_20, r0, rfl, wa0_20, k0⟩ := k0
  obtain ⟨a0_21, r0, rfl, wa0_21, k0⟩ := k0
  obtain ⟨a0_22, r0, rfl, wa0_22, k0⟩ := k0
  obtain ⟨a0_23, r0, rfl, wa0_23, k0⟩ := k0
  obtain ⟨a0_24, r0, rfl, wa0_24, k0⟩ := k0
  obtain ⟨a0_25, r0, rfl, wa0_25, k0⟩ := k0
  obtain rfl := k0
  clear hA0
  simp only [List.append_nil] at hW'
  have hrel : Go.Sx.RelL (fun _ => none) [.agg [.int .u8 a0_0, .int .i32 a0_1, .int .i32 a0_2, .int .i32 a0_3, .int .i32 a0_4, .int .i32 a0_5, .int .i32 a0_6, .int .u8 a0_7, .int .i32 a0_8, .int .i32 a0_9, .int .i32 a0_10, .int .i32 a0_11, .int .i32 a0_12, .int .i32 a0_13, .int .i64 a0_14, .int .i64 a0_15, .int .i64 a0_16, .int .i64 a0_17, .int .i64 a0_18, .int .i64 a0_19, .int .i64 a0_20, .int .i64 a0_21, .int .i64 a0_22, .int .i64 a0_23, .int .i64 a0_24, .int .i64 a0_25]] [v0] := ⟨_, _, Go.Sx.rel_agg (.inl ⟨_, Try.underlying30⟩) (hval 0 30 v0 rfl rfl) e0, rfl, rfl⟩
  refine (walk a0_0 a0_1 a0_2 a0_3 a0_4 a0_5 a0_6 a0_7 a0_8 a0_9 a0_10 a0_11 a0_12 a0_13 a0_14 a0_15 a0_16 a0_17 a0_18 a0_19 a0_20 a0_21 a0_22 a0_23 a0_24 a0_25 wa0_0 wa0_1 wa0_2 wa0_3 wa0_4 wa0_5 wa0_6 wa0_7 wa0_8 wa0_9 wa0_10 wa0_11 wa0_12 wa0_13 wa0_14 wa0_15 wa0_16 wa0_17 wa0_18 wa0_19 wa0_20 wa0_21 wa0_22 wa0_23 wa0_24 wa0_25  hrel).mono fun e W' ⟨he, hg⟩ => ?_
  subst he
  exact ⟨_, rfl, Go.Sx.post_of_below (pa := []) (pv := []) hW' (fun _ _ _ => (trodAll_cons_mk (shut_bool Try.underlying4 _) trodAll_mk0)) (fun sp _ => (trodAll_cons_mk (Go.Sx.stays laidOut (by kernel_rfl) (Nat.le_of_ble_eq_true (by kernel_rfl)) h0) trodAll_mk0)) (fun _ _ => rfl) rfl
    hg (ok_one (by kernel_rfl) rfl (okWide_bool_mk Try.underlying4 _))⟩

theorem over : Rows.matrixJoinsRow.holds Try.pinned (OpenSpec.ofChange Rows.matrixJoinsSpec) :=
  OpenClaim.holds_of_wide 4 Try.f4 rfl rfl rfl rfl rfl rfl rfl ⟨rfl, rfl, rfl, rfl, rfl⟩ rfl rfl rfl rfl rfl (by kernel_rfl) Try.func4 (by kernel_rfl)
    (of_decide_eq_true (by kernel_rfl)) (by unfold Func.isWrapper; first | (rw [if_pos (by decide +kernel)]; kernel_rfl) | (rw [if_neg (by decide +kernel)]; exact ⟨rfl, rfl⟩))
    (fun os started H enc _ => lifted os started H enc)

theorem proved : Rows.MatrixJoinsSaid := over
#print axioms proved
end Go.Proofs.Ytlfmockpeajfkaa.matrixJoins
