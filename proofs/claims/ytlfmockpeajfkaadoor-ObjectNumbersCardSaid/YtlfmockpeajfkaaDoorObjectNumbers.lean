/- 'chase/chaselaw10.ObjectNumbers' returns true for every argument, and nothing that was there is changed. Condition: the package variables that the row lists hold what the program's text gives them. The first part is the text before: each function of the run as a term. Here: the numbers, and the rest. -/
import Derived.Test.YtlfmockpeajfkaaDoorObjectNumbersA
namespace Go.Proofs.YtlfmockpeajfkaaDoor.objectNumbers
open Go.ChangeShapes Go.WideShapes Go.ChangeAt Go.WideMaps Go.WideElems Go.RowKit
set_option linter.unusedVariables false
section
open Go.Sx
set_option maxRecDepth 1000000

set_option maxRecDepth 100000
theorem cS {α : Type} (b : Bool) (x y : α) : (bif b then some x else some y) = some (bif b then x else y) := by cases b <;> rfl
theorem condP (b x y : Bool) : ((bif b then x else y) = true) = ((b = true ∧ x = true) ∨ (b = false ∧ y = true)) := by cases b <;> simp
theorem condF (b x y : Bool) : ((bif b then x else y) = false) = ((b = true ∧ x = false) ∨ (b = false ∧ y = false)) := by cases b <;> simp
theorem nneg_f (b : Bool) : ((!b) = false) = (b = true) := by cases b <;> simp
theorem andB_t (a b : Bool) : (andB a b = true) = (a = true ∧ b = true) := by cases a <;> simp [andB]
theorem andB_f (a b : Bool) : (andB a b = false) = (a = false ∨ b = false) := by cases a <;> simp [andB]
theorem strNil_t (s : List Nat) : (strEq s [] = true) = (s.length = 0) := by cases s <;> simp [strEq]
theorem strNil_f (s : List Nat) : (strEq s [] = false) = (s.length ≠ 0) := by cases s <;> simp [strEq]
theorem strEq_same (s : List Nat) : strEq s s = true := by simp [strEq]
theorem eqI_same (n : Int) : eqI n n = true := by rw [eqI_t]
noncomputable def Gv (lo hi l0 l1 r0 r1 m nn : Int) (nm : List Nat) (rf of ln : Int) : Option Bool := (bif !ltI nn lo then (bif !!ltI hi nn then some false else (bif !ltI (↑(List.length nm)) l0 then (bif !!ltI l1 ↑(List.length nm) then some false else (bif !ltI rf r0 then (bif !!ltI r1 rf then some false else (bif andB (eqI of 0) (andB (eqI ln 0) true) then some true else (bif !ltI of 0 then (bif !ltI ln 0 then (bif !ltI m of then (bif !!ltI (wrapA .i64 (Int.sub m of)) ln then some false else some true) else some false) else some false) else some false))) else some false)) else some false)) else some false)
noncomputable def Hv (ex : Bool) (nn : Int) (nm : List Nat) (rf of ln : Int) (b : Option Bool) : Option Bool := bif !andB true (andB (ex == ex) (andB (eqI nn 0) (andB (strEq nm []) (andB (eqI rf 0) (andB (eqI of 0) (andB (eqI ln 0) true)))))) then some false else b
theorem f31 (x y z : Int) : F31_0 x y z = (bif !ltI x y then !ltI z x else false) := by unfold F31_0 F31; cases ltI x y <;> rfl

theorem F30_0k (ex : Bool) (nn : Int) (nm : List Nat) (rf of ln : Int) : F30 0 ex nn nm rf of ln = Gv 0 0 0 0 0 0 0 nn nm rf of ln := by kernel_rfl
theorem F10_0k (ex : Bool) (nn : Int) (nm : List Nat) (rf of ln : Int) : F10 0 ex nn nm rf of ln = Hv ex nn nm rf of ln (some (F31_0 rf 0 20000)) := by kernel_rfl
theorem v_0 (ex : Bool) (nn : Int) (nm : List Nat) (rf of ln : Int) : ∃ b, F30 0 ex nn nm rf of ln = some b ∧ F10 0 ex nn nm rf of ln = some b := by
  rw [F30_0k, F10_0k]
  simp only [Gv, Hv, cS, f31]
  refine ⟨_, rfl, congrArg some ?_⟩
  rw [Bool.eq_iff_iff]
  simp only [condP, condF, nneg_n, nneg_f, andB_t, andB_f, strNil_t, strNil_f, ltI_t, ltI_f, eqI_t, eqI_f, w64, sub_int, add_int, beq_self_eq_true, Bool.true_eq_false, Bool.false_eq_true, and_true, true_and, false_and, and_false, or_false, false_or, List.length_nil]
  omega
theorem F30_1k (ex : Bool) (nn : Int) (nm : List Nat) (rf of ln : Int) : F30 1 ex nn nm rf of ln = Gv 0 0 0 0 0 0 0 nn nm rf of ln := by kernel_rfl
theorem F10_1k (ex : Bool) (nn : Int) (nm : List Nat) (rf of ln : Int) : F10 1 ex nn nm rf of ln = Hv ex nn nm rf of ln (some (F31_0 rf 0 20000)) := by kernel_rfl
theorem v_1 (ex : Bool) (nn : Int) (nm : List Nat) (rf of ln : Int) : ∃ b, F30 1 ex nn nm rf of ln = some b ∧ F10 1 ex nn nm rf of ln = some b := by
  rw [F30_1k, F10_1k]
  simp only [Gv, Hv, cS, f31]
  refine ⟨_, rfl, congrArg some ?_⟩
  rw [Bool.eq_iff_iff]
  simp only [condP, condF, nneg_n, nneg_f, andB_t, andB_f, strNil_t, strNil_f, ltI_t, ltI_f, eqI_t, eqI_f, w64, sub_int, add_int, beq_self_eq_true, Bool.true_eq_false, Bool.false_eq_true, and_true, true_and, false_and, and_false, or_false, false_or, List.length_nil]
  omega
theorem F30_2k (ex : Bool) (nn : Int) (nm : List Nat) (rf of ln : Int) : F30 2 ex nn nm rf of ln = Gv 0 1 0 0 0 0 0 nn nm rf of ln := by kernel_rfl
theorem F10_2k (ex : Bool) (nn : Int) (nm : List Nat) (rf of ln : Int) : F10 2 ex nn nm rf of ln = Hv ex 0 nm rf of ln (bif eqI nn 0 then some true else some (eqI nn 1)) := by kernel_rfl
theorem v_2 (ex : Bool) (nn : Int) (nm : List Nat) (rf of ln : Int) : ∃ b, F30 2 ex nn nm rf of ln = some b ∧ F10 2 ex nn nm rf of ln = some b := by
  rw [F30_2k, F10_2k]
  simp only [Gv, Hv, cS, f31]
  refine ⟨_, rfl, congrArg some ?_⟩
  rw [Bool.eq_iff_iff]
  simp only [condP, condF, nneg_n, nneg_f, andB_t, andB_f, strNil_t, strNil_f, ltI_t, ltI_f, eqI_t, eqI_f, w64, sub_int, add_int, beq_self_eq_true, Bool.true_eq_false, Bool.false_eq_true, and_true, true_and, false_and, and_false, or_false, false_or, List.length_nil]
  omega
theorem F30_3k (ex : Bool) (nn : Int) (nm : List Nat) (rf of ln : Int) : F30 3 ex nn nm rf of ln = Gv (-2147483648) 2147483647 0 0 0 0 0 nn nm rf of ln := by kernel_rfl
theorem F10_3k (ex : Bool) (nn : Int) (nm : List Nat) (rf of ln : Int) : F10 3 ex nn nm rf of ln = Hv ex 0 nm rf of ln (some (F31_0 nn (-2147483648) 2147483647)) := by kernel_rfl
theorem v_3 (ex : Bool) (nn : Int) (nm : List Nat) (rf of ln : Int) : ∃ b, F30 3 ex nn nm rf of ln = some b ∧ F10 3 ex nn nm rf of ln = some b := by
  rw [F30_3k, F10_3k]
  simp only [Gv, Hv, cS, f31]
  refine ⟨_, rfl, congrArg some ?_⟩
  rw [Bool.eq_iff_iff]
  simp only [condP, condF, nneg_n, nneg_f, andB_t, andB_f, strNil_t, strNil_f, ltI_t, ltI_f, eqI_t, eqI_f, w64, sub_int, add_int, beq_self_eq_true, Bool.true_eq_false, Bool.false_eq_true, and_true, true_and, false_and, and_false, or_false, false_or, List.length_nil]
  omega
theorem F30_4k (ex : Bool) (nn : Int) (nm : List Nat) (rf of ln : Int) : F30 4 ex nn nm rf of ln = Gv (-2147483648) 2147483648 0 0 0 0 0 nn nm rf of ln := by kernel_rfl
theorem F10_4k (ex : Bool) (nn : Int) (nm : List Nat) (rf of ln : Int) : F10 4 ex nn nm rf of ln = Hv ex 0 nm rf of ln (some (F31_0 nn (-2147483648) 2147483648)) := by kernel_rfl
theorem v_4 (ex : Bool) (nn : Int) (nm : List Nat) (rf of ln : Int) : ∃ b, F30 4 ex nn nm rf of ln = some b ∧ F10 4 ex nn nm rf of ln = some b := by
  rw [F30_4k, F10_4k]
  simp only [Gv, Hv, cS, f31]
  refine ⟨_, rfl, congrArg some ?_⟩
  rw [Bool.eq_iff_iff]
  simp only [condP, condF, nneg_n, nneg_f, andB_t, andB_f, strNil_t, strNil_f, ltI_t, ltI_f, eqI_t, eqI_f, w64, sub_int, add_int, beq_self_eq_true, Bool.true_eq_false, Bool.false_eq_true, and_true, true_and, false_and, and_false, or_false, false_or, List.length_nil]
  omega
theorem F30_5k (ex : Bool) (nn : Int) (nm : List Nat) (rf of ln : Int) : F30 5 ex nn nm rf of ln = Gv 0 0 0 100 0 0 0 nn nm rf of ln := by kernel_rfl
theorem F10_5k (ex : Bool) (nn : Int) (nm : List Nat) (rf of ln : Int) : F10 5 ex nn nm rf of ln = Hv ex nn [] rf of ln (some (!ltI 100 ↑(List.length nm))) := by kernel_rfl
theorem v_5 (ex : Bool) (nn : Int) (nm : List Nat) (rf of ln : Int) : ∃ b, F30 5 ex nn nm rf of ln = some b ∧ F10 5 ex nn nm rf of ln = some b := by
  rw [F30_5k, F10_5k]
  simp only [Gv, Hv, cS, f31]
  refine ⟨_, rfl, congrArg some ?_⟩
  rw [Bool.eq_iff_iff]
  simp only [condP, condF, nneg_n, nneg_f, andB_t, andB_f, strNil_t, strNil_f, ltI_t, ltI_f, eqI_t, eqI_f, w64, sub_int, add_int, beq_self_eq_true, Bool.true_eq_false, Bool.false_eq_true, and_true, true_and, false_and, and_false, or_false, false_or, List.length_nil]
  omega
theorem F30_6k (ex : Bool) (nn : Int) (nm : List Nat) (rf of ln : Int) : F30 6 ex nn nm rf of ln = Gv 0 0 0 0 0 20000 1000 nn nm rf of ln := by kernel_rfl
theorem F10_6k (ex : Bool) (nn : Int) (nm : List Nat) (rf of ln : Int) : F10 6 ex nn nm rf of ln = Hv ex nn nm 0 0 0 (bif F31_0 rf 0 20000 then (bif F31_0 of 0 1000 then (bif F31_0 ln 0 1000 then some (!ltI 1000 (wrapA .i64 (Int.add of ln))) else some false) else some false) else some false) := by kernel_rfl
theorem v_6 (ex : Bool) (nn : Int) (nm : List Nat) (rf of ln : Int) : ∃ b, F30 6 ex nn nm rf of ln = some b ∧ F10 6 ex nn nm rf of ln = some b := by
  rw [F30_6k, F10_6k]
  simp only [Gv, Hv, cS, f31]
  refine ⟨_, rfl, congrArg some ?_⟩
  rw [Bool.eq_iff_iff]
  simp only [condP, condF, nneg_n, nneg_f, andB_t, andB_f, strNil_t, strNil_f, ltI_t, ltI_f, eqI_t, eqI_f, w64, sub_int, add_int, beq_self_eq_true, Bool.true_eq_false, Bool.false_eq_true, and_true, true_and, false_and, and_false, or_false, false_or, List.length_nil]
  omega
theorem F30_7k (ex : Bool) (nn : Int) (nm : List Nat) (rf of ln : Int) : F30 7 ex nn nm rf of ln = Gv 0 0 0 0 0 20000 1000 nn nm rf of ln := by kernel_rfl
theorem F10_7k (ex : Bool) (nn : Int) (nm : List Nat) (rf of ln : Int) : F10 7 ex nn nm rf of ln = Hv ex nn nm 0 0 0 (bif F31_0 rf 0 20000 then (bif F31_0 of 0 1000 then (bif F31_0 ln 0 1000 then some (!ltI 1000 (wrapA .i64 (Int.add of ln))) else some false) else some false) else some false) := by kernel_rfl
theorem v_7 (ex : Bool) (nn : Int) (nm : List Nat) (rf of ln : Int) : ∃ b, F30 7 ex nn nm rf of ln = some b ∧ F10 7 ex nn nm rf of ln = some b := by
  rw [F30_7k, F10_7k]
  simp only [Gv, Hv, cS, f31]
  refine ⟨_, rfl, congrArg some ?_⟩
  rw [Bool.eq_iff_iff]
  simp only [condP, condF, nneg_n, nneg_f, andB_t, andB_f, strNil_t, strNil_f, ltI_t, ltI_f, eqI_t, eqI_f, w64, sub_int, add_int, beq_self_eq_true, Bool.true_eq_false, Bool.false_eq_true, and_true, true_and, false_and, and_false, or_false, false_or, List.length_nil]
  omega
theorem F30_8k (ex : Bool) (nn : Int) (nm : List Nat) (rf of ln : Int) : F30 8 ex nn nm rf of ln = Gv 0 0 0 0 0 20000 1000 nn nm rf of ln := by kernel_rfl
theorem F10_8k (ex : Bool) (nn : Int) (nm : List Nat) (rf of ln : Int) : F10 8 ex nn nm rf of ln = Hv ex nn nm 0 0 0 (bif F31_0 rf 0 20000 then (bif F31_0 of 0 1000 then (bif F31_0 ln 0 1000 then some (!ltI 1000 (wrapA .i64 (Int.add of ln))) else some false) else some false) else some false) := by kernel_rfl
theorem v_8 (ex : Bool) (nn : Int) (nm : List Nat) (rf of ln : Int) : ∃ b, F30 8 ex nn nm rf of ln = some b ∧ F10 8 ex nn nm rf of ln = some b := by
  rw [F30_8k, F10_8k]
  simp only [Gv, Hv, cS, f31]
  refine ⟨_, rfl, congrArg some ?_⟩
  rw [Bool.eq_iff_iff]
  simp only [condP, condF, nneg_n, nneg_f, andB_t, andB_f, strNil_t, strNil_f, ltI_t, ltI_f, eqI_t, eqI_f, w64, sub_int, add_int, beq_self_eq_true, Bool.true_eq_false, Bool.false_eq_true, and_true, true_and, false_and, and_false, or_false, false_or, List.length_nil]
  omega
theorem F30_9k (ex : Bool) (nn : Int) (nm : List Nat) (rf of ln : Int) : F30 9 ex nn nm rf of ln = Gv 0 0 0 0 0 20000 0 nn nm rf of ln := by kernel_rfl
theorem F10_9k (ex : Bool) (nn : Int) (nm : List Nat) (rf of ln : Int) : F10 9 ex nn nm rf of ln = Hv ex nn nm 0 of ln (some (F31_0 rf 0 20000)) := by kernel_rfl
theorem v_9 (ex : Bool) (nn : Int) (nm : List Nat) (rf of ln : Int) : ∃ b, F30 9 ex nn nm rf of ln = some b ∧ F10 9 ex nn nm rf of ln = some b := by
  rw [F30_9k, F10_9k]
  simp only [Gv, Hv, cS, f31]
  refine ⟨_, rfl, congrArg some ?_⟩
  rw [Bool.eq_iff_iff]
  simp only [condP, condF, nneg_n, nneg_f, andB_t, andB_f, strNil_t, strNil_f, ltI_t, ltI_f, eqI_t, eqI_f, w64, sub_int, add_int, beq_self_eq_true, Bool.true_eq_false, Bool.false_eq_true, and_true, true_and, false_and, and_false, or_false, false_or, List.length_nil]
  omega
theorem F30_10k (ex : Bool) (nn : Int) (nm : List Nat) (rf of ln : Int) : F30 10 ex nn nm rf of ln = Gv 0 0 1 100 0 0 0 nn nm rf of ln := by kernel_rfl
theorem F10_10k (ex : Bool) (nn : Int) (nm : List Nat) (rf of ln : Int) : F10 10 ex nn nm rf of ln = Hv ex nn [] rf of ln (bif !ltI (↑(List.length nm)) 1 then some (!ltI 100 ↑(List.length nm)) else some false) := by kernel_rfl
theorem v_10 (ex : Bool) (nn : Int) (nm : List Nat) (rf of ln : Int) : ∃ b, F30 10 ex nn nm rf of ln = some b ∧ F10 10 ex nn nm rf of ln = some b := by
  rw [F30_10k, F10_10k]
  simp only [Gv, Hv, cS, f31]
  refine ⟨_, rfl, congrArg some ?_⟩
  rw [Bool.eq_iff_iff]
  simp only [condP, condF, nneg_n, nneg_f, andB_t, andB_f, strNil_t, strNil_f, ltI_t, ltI_f, eqI_t, eqI_f, w64, sub_int, add_int, beq_self_eq_true, Bool.true_eq_false, Bool.false_eq_true, and_true, true_and, false_and, and_false, or_false, false_or, List.length_nil]
  omega
theorem F30_11k (ex : Bool) (nn : Int) (nm : List Nat) (rf of ln : Int) : F30 11 ex nn nm rf of ln = Gv 0 0 0 0 0 20000 0 nn nm rf of ln := by kernel_rfl
theorem F10_11k (ex : Bool) (nn : Int) (nm : List Nat) (rf of ln : Int) : F10 11 ex nn nm rf of ln = Hv ex nn nm 0 of ln (some (F31_0 rf 0 20000)) := by kernel_rfl
theorem v_11 (ex : Bool) (nn : Int) (nm : List Nat) (rf of ln : Int) : ∃ b, F30 11 ex nn nm rf of ln = some b ∧ F10 11 ex nn nm rf of ln = some b := by
  rw [F30_11k, F10_11k]
  simp only [Gv, Hv, cS, f31]
  refine ⟨_, rfl, congrArg some ?_⟩
  rw [Bool.eq_iff_iff]
  simp only [condP, condF, nneg_n, nneg_f, andB_t, andB_f, strNil_t, strNil_f, ltI_t, ltI_f, eqI_t, eqI_f, w64, sub_int, add_int, beq_self_eq_true, Bool.true_eq_false, Bool.false_eq_true, and_true, true_and, false_and, and_false, or_false, false_or, List.length_nil]
  omega
theorem F30_12k (ex : Bool) (nn : Int) (nm : List Nat) (rf of ln : Int) : F30 12 ex nn nm rf of ln = Gv 1 9223372036854775807 0 0 0 0 0 nn nm rf of ln := by kernel_rfl
theorem F10_12k (ex : Bool) (nn : Int) (nm : List Nat) (rf of ln : Int) : F10 12 ex nn nm rf of ln = Hv ex 0 nm rf of ln (some (!ltI nn 1)) := by kernel_rfl
theorem v_12 (ex : Bool) (nn : Int) (nm : List Nat) (rf of ln : Int) (hn : nn ≤ 9223372036854775807) : ∃ b, F30 12 ex nn nm rf of ln = some b ∧ F10 12 ex nn nm rf of ln = some b := by
  rw [F30_12k, F10_12k]
  simp only [Gv, Hv, cS, f31]
  refine ⟨_, rfl, congrArg some ?_⟩
  rw [Bool.eq_iff_iff]
  simp only [condP, condF, nneg_n, nneg_f, andB_t, andB_f, strNil_t, strNil_f, ltI_t, ltI_f, eqI_t, eqI_f, w64, sub_int, add_int, beq_self_eq_true, Bool.true_eq_false, Bool.false_eq_true, and_true, true_and, false_and, and_false, or_false, false_or, List.length_nil]
  omega
theorem v_out (kd : Int) (ex : Bool) (nn : Int) (nm : List Nat) (rf of ln : Int) (h : kd < 0 ∨ 12 < kd) : F30 kd ex nn nm rf of ln = some false ∧ F10 kd ex nn nm rf of ln = some false := by
  constructor
  · unfold F30
    rcases h with h | h
    · rw [(ltI_t kd 0).mpr h]; rfl
    · have h1 : ltI kd 13 = false := by rw [ltI_f]; omega
      have h2 : ltI kd 0 = false := by rw [ltI_f]; omega
      rw [h1, h2]; rfl
  · have : F31_0 kd 0 12 = false := by
      rw [f31]; simp only [condF, nneg_n, nneg_f, ltI_t, ltI_f, and_true]; omega
    unfold F10; rw [this]; rfl
theorem v_all (kd : Int) (ex : Bool) (nn : Int) (nm : List Nat) (rf of ln : Int) (hn : nn ≤ 9223372036854775807) : ∃ b, F30 kd ex nn nm rf of ln = some b ∧ F10 kd ex nn nm rf of ln = some b ∧ (b = true → 0 ≤ kd ∧ kd ≤ 12) := by
  by_cases h : kd < 0 ∨ 12 < kd
  · obtain ⟨h1, h2⟩ := v_out kd ex nn nm rf of ln h
    exact ⟨false, h1, h2, by simp⟩
  · have : kd = 0 ∨ kd = 1 ∨ kd = 2 ∨ kd = 3 ∨ kd = 4 ∨ kd = 5 ∨ kd = 6 ∨ kd = 7 ∨ kd = 8 ∨ kd = 9 ∨ kd = 10 ∨ kd = 11 ∨ kd = 12 := by omega
    rcases this with rfl | rfl | rfl | rfl | rfl | rfl | rfl | rfl | rfl | rfl | rfl | rfl | rfl
    · obtain ⟨b, h1, h2⟩ := v_0 ex nn nm rf of ln; exact ⟨b, h1, h2, fun _ => ⟨by decide, by decide⟩⟩
    · obtain ⟨b, h1, h2⟩ := v_1 ex nn nm rf of ln; exact ⟨b, h1, h2, fun _ => ⟨by decide, by decide⟩⟩
    · obtain ⟨b, h1, h2⟩ := v_2 ex nn nm rf of ln; exact ⟨b, h1, h2, fun _ => ⟨by decide, by decide⟩⟩
    · obtain ⟨b, h1, h2⟩ := v_3 ex nn nm rf of ln; exact ⟨b, h1, h2, fun _ => ⟨by decide, by decide⟩⟩
    · obtain ⟨b, h1, h2⟩ := v_4 ex nn nm rf of ln; exact ⟨b, h1, h2, fun _ => ⟨by decide, by decide⟩⟩
    · obtain ⟨b, h1, h2⟩ := v_5 ex nn nm rf of ln; exact ⟨b, h1, h2, fun _ => ⟨by decide, by decide⟩⟩
    · obtain ⟨b, h1, h2⟩ := v_6 ex nn nm rf of ln; exact ⟨b, h1, h2, fun _ => ⟨by decide, by decide⟩⟩
    · obtain ⟨b, h1, h2⟩ := v_7 ex nn nm rf of ln; exact ⟨b, h1, h2, fun _ => ⟨by decide, by decide⟩⟩
    · obtain ⟨b, h1, h2⟩ := v_8 ex nn nm rf of ln; exact ⟨b, h1, h2, fun _ => ⟨by decide, by decide⟩⟩
    · obtain ⟨b, h1, h2⟩ := v_9 ex nn nm rf of ln; exact ⟨b, h1, h2, fun _ => ⟨by decide, by decide⟩⟩
    · obtain ⟨b, h1, h2⟩ := v_10 ex nn nm rf of ln; exact ⟨b, h1, h2, fun _ => ⟨by decide, by decide⟩⟩
    · obtain ⟨b, h1, h2⟩ := v_11 ex nn nm rf of ln; exact ⟨b, h1, h2, fun _ => ⟨by decide, by decide⟩⟩
    · obtain ⟨b, h1, h2⟩ := v_12 ex nn nm rf of ln hn; exact ⟨b, h1, h2, fun _ => ⟨by decide, by decide⟩⟩
theorem exfree (kd : Int) (ex ex' : Bool) (nn : Int) (nm : List Nat) (rf of ln : Int) : F30 kd ex nn nm rf of ln = F30 kd ex' nn nm rf of ln := by unfold F30; rfl
theorem rng4 {ex : Bool} {nn : Int} {nm : List Nat} {rf of ln : Int} (h : F30 4 ex nn nm rf of ln = some true) : -2147483648 ≤ nn ∧ nn ≤ 2147483648 ∧ nm = [] ∧ rf = 0 := by
  rw [F30_4k] at h
  simp only [Gv, cS, Option.some.injEq] at h
  simp only [condP, condF, nneg_n, nneg_f, andB_t, andB_f, ltI_t, ltI_f, eqI_t, eqI_f, w64, sub_int, Bool.true_eq_false, Bool.false_eq_true, and_true, true_and, false_and, and_false, or_false, false_or] at h
  refine ⟨by omega, by omega, List.eq_nil_of_length_eq_zero (by omega), by omega⟩
theorem rng3 {ex : Bool} {nn : Int} {nm : List Nat} {rf of ln : Int} (h : F30 3 ex nn nm rf of ln = some true) : -2147483648 ≤ nn ∧ nn ≤ 2147483647 ∧ nm = [] ∧ rf = 0 := by
  rw [F30_3k] at h
  simp only [Gv, cS, Option.some.injEq] at h
  simp only [condP, condF, nneg_n, nneg_f, andB_t, andB_f, ltI_t, ltI_f, eqI_t, eqI_f, w64, sub_int, Bool.true_eq_false, Bool.false_eq_true, and_true, true_and, false_and, and_false, or_false, false_or] at h
  refine ⟨by omega, by omega, List.eq_nil_of_length_eq_zero (by omega), by omega⟩
theorem int3 (x : Int) : F30 3 false x [] 0 0 0 = some (bif !ltI x (-2147483648) then !ltI 2147483647 x else false) := by
  rw [F30_3k]
  simp only [Gv, cS]
  refine congrArg some ?_
  rw [Bool.eq_iff_iff]
  simp only [condP, condF, nneg_n, nneg_f, andB_t, andB_f, ltI_t, ltI_f, eqI_t, eqI_f, w64, sub_int, Bool.true_eq_false, Bool.false_eq_true, and_true, true_and, false_and, and_false, or_false, false_or, true_or, or_true, List.length_nil]
  omega
theorem real4 (x : Int) : F30 4 false x [] 0 0 0 = some (bif !ltI x (-2147483648) then !ltI 2147483648 x else false) := by
  rw [F30_4k]
  simp only [Gv, cS]
  refine congrArg some ?_
  rw [Bool.eq_iff_iff]
  simp only [condP, condF, nneg_n, nneg_f, andB_t, andB_f, ltI_t, ltI_f, eqI_t, eqI_f, w64, sub_int, Bool.true_eq_false, Bool.false_eq_true, and_true, true_and, false_and, and_false, or_false, false_or, true_or, or_true, List.length_nil]
  omega
noncomputable def in3 (x : Int) : Bool := bif !ltI x (-2147483648) then !ltI 2147483647 x else false
noncomputable def in4 (x : Int) : Bool := bif !ltI x (-2147483648) then !ltI 2147483648 x else false
theorem in3_t (x : Int) : (in3 x = true) = (-2147483648 ≤ x ∧ x ≤ 2147483647) := by
  simp only [in3, condP, nneg_n, nneg_f, ltI_f, ltI_t, Bool.false_eq_true, and_false, or_false]
theorem in4_t (x : Int) : (in4 x = true) = (-2147483648 ≤ x ∧ x ≤ 2147483648) := by
  simp only [in4, condP, nneg_n, nneg_f, ltI_f, ltI_t, Bool.false_eq_true, and_false, or_false]
theorem F13v (x : Int) : F13 x = (bif in3 x then some (3, false, x, [], 0, 0, 0, 0) else some (0, false, 0, [], 0, 0, 0, 2)) := by
  have h : F30 3 false x [] 0 0 0 = some (in3 x) := int3 x
  unfold F13; simp only [F30_0, h, Option.isSome_some, Option.getD_some, cond_true]; cases in3 x <;> rfl
theorem F14v (x : Int) : F14 x = (bif in4 x then some (4, false, x, [], 0, 0, 0, 0) else some (0, false, 0, [], 0, 0, 0, 2)) := by
  have h : F30 4 false x [] 0 0 0 = some (in4 x) := real4 x
  unfold F14; simp only [F30_0, h, Option.isSome_some, Option.getD_some, cond_true]; cases in4 x <;> rfl
theorem asNum {kd : Int} {ex : Bool} {nn : Int} {nm : List Nat} {rf of ln : Int} (h : F30 kd ex nn nm rf of ln = some true) (hk : kd = 3 ∨ kd = 4) : F38 kd ex nn nm rf of ln = some (kd, ex, nn, nm, rf, of, ln, 0) := by
  unfold F38
  simp only [F30_0, h, Option.isSome_some, Option.getD_some, Bool.not_true, cond_true, cond_false]
  rcases hk with rfl | rfl <;> rfl
theorem td65 (m : Int) : (0 ≤ m → 0 ≤ Int.tdiv m 65536 ∧ 65536 * Int.tdiv m 65536 ≤ m ∧ m < 65536 * Int.tdiv m 65536 + 65536) ∧ (m < 0 → Int.tdiv m 65536 ≤ 0 ∧ m ≤ 65536 * Int.tdiv m 65536 ∧ 65536 * Int.tdiv m 65536 < m + 65536) := by
  constructor
  · intro h; rw [tdiv_pos h]; omega
  · intro h
    have e : Int.tdiv m 65536 = -((-m) / 65536) := by
      rw [← tdiv_pos (show 0 ≤ -m by omega), Int.neg_tdiv, Int.neg_neg]
    rw [e]; omega
theorem td_bd {n : Int} (h1 : -140737488355328 ≤ n) (h2 : n ≤ 140737488355328) : -2147483648 ≤ Int.tdiv n 65536 ∧ Int.tdiv n 65536 ≤ 2147483648 := by
  obtain ⟨d1, d2⟩ := td65 n
  rcases Int.lt_or_le n 0 with g | g
  · have := d2 g; omega
  · have := d1 g; omega
theorem td_sm {n : Int} (h1 : -2147483648 ≤ n) (h2 : n ≤ 2147483648) : -32768 ≤ Int.tdiv n 65536 ∧ Int.tdiv n 65536 ≤ 32768 := by
  obtain ⟨d1, d2⟩ := td65 n
  rcases Int.lt_or_le n 0 with g | g
  · have := d2 g; omega
  · have := d1 g; omega
/-- the value -/
noncomputable def vl (kd nn : Int) : Int := bif eqI kd 3 then nn * 65536 else nn
theorem toInt_ok {kd : Int} {ex : Bool} {nn : Int} {nm : List Nat} {rf of ln : Int} (h : F30 kd ex nn nm rf of ln = some true) (hk : kd = 3 ∨ kd = 4) : F22 kd ex nn nm rf of ln = some (3, false, Int.tdiv (vl kd nn) 65536, [], 0, 0, 0, 0) := by
  have a := asNum h hk
  have z : eqI 0 0 = true := rfl
  rcases hk with rfl | rfl
  · obtain ⟨r1, r2, _⟩ := rng3 h
    have k3 : eqI 3 3 = true := rfl
    have w1 : wrapA .i64 (Int.mul nn 65536) = nn * 65536 := by simp only [mul_int]; exact wrap64 (by omega) (by omega)
    have w2 : Int.tdiv (nn * 65536) 65536 = nn := Int.mul_tdiv_cancel _ (by decide)
    have w3 : wrapA .i64 nn = nn := wrap64 (by omega) (by omega)
    have i : in3 nn = true := by rw [in3_t]; omega
    simp only [F22, t22_0, F38_0, F38_2, F38_7, a, vl, z, k3, w1, w2, w3, F13v, i, F13_0, F13_1, F13_2, F13_3, F13_4, F13_5, F13_6, F13_7, Option.isSome_some, Option.getD_some, Bool.not_true, cond_true, cond_false]
  · obtain ⟨r1, r2, _⟩ := rng4 h
    have k3 : eqI 4 3 = false := rfl
    obtain ⟨b1, b2⟩ := td_sm r1 r2
    have w3 : wrapA .i64 (Int.tdiv nn 65536) = Int.tdiv nn 65536 := wrap64 (by omega) (by omega)
    have i : in3 (Int.tdiv nn 65536) = true := by rw [in3_t]; omega
    simp only [F22, t22_1, F38_0, F38_2, F38_7, a, vl, z, k3, w3, F13v, i, F13_0, F13_1, F13_2, F13_3, F13_4, F13_5, F13_6, F13_7, Option.isSome_some, Option.getD_some, Bool.not_true, cond_true, cond_false]
theorem key_bad {kd : Int} {ex : Bool} {nn : Int} {nm : List Nat} {rf of ln : Int} (h : F30 kd ex nn nm rf of ln = some false) : F28 kd ex nn nm rf of ln = some (0, false, 0, [], 0, 0, 0, 200) := by
  unfold F28; simp only [F30_0, h, Option.isSome_some, Option.getD_some, Bool.not_false, cond_true]
theorem key_none {kd : Int} {ex : Bool} {nn : Int} {nm : List Nat} {rf of ln : Int} (h : F30 kd ex nn nm rf of ln = some true) (hk : kd = 0 ∨ kd = 6) : F28 kd ex nn nm rf of ln = some (0, false, 0, [], 0, 0, 0, 22) := by
  unfold F28; simp only [F30_0, h, Option.isSome_some, Option.getD_some, Bool.not_true, cond_true, cond_false]
  rcases hk with rfl | rfl <;> rfl
theorem key_whole {ex : Bool} {nn : Int} {nm : List Nat} {rf of ln : Int} (h : F30 4 ex nn nm rf of ln = some true) (hw : Int.tmod nn 65536 = 0) : F28 4 ex nn nm rf of ln = some (3, false, Int.tdiv nn 65536, [], 0, 0, 0, 0) := by
  have t := toInt_ok h (.inr rfl)
  have v : vl 4 nn = nn := rfl
  rw [v] at t
  have e1 : eqI 4 6 = false := rfl
  have e2 : eqI 4 0 = false := rfl
  have e3 : eqI 4 4 = true := rfl
  have e4 : eqI (Int.tmod nn 65536) 0 = true := by rw [eqI_t]; exact hw
  unfold F28; simp only [F30_0, h, t, e1, e2, e3, e4, F22_0, F22_1, F22_2, F22_3, F22_4, F22_5, F22_6, F22_7, Option.isSome_some, Option.getD_some, Bool.not_true, cond_true, cond_false]
theorem key_else {kd : Int} {ex : Bool} {nn : Int} {nm : List Nat} {rf of ln : Int} (h : F30 kd ex nn nm rf of ln = some true) (h0 : kd ≠ 0) (h6 : kd ≠ 6) (hw : ¬ (kd = 4 ∧ Int.tmod nn 65536 = 0)) : F28 kd ex nn nm rf of ln = some (kd, false, nn, nm, rf, of, ln, 0) := by
  have e1 : eqI kd 6 = false := by rw [eqI_f]; exact h6
  have e2 : eqI kd 0 = false := by rw [eqI_f]; exact h0
  unfold F28; simp only [F30_0, h, e1, e2, Option.isSome_some, Option.getD_some, Bool.not_true, cond_true, cond_false]
  cases e3 : eqI kd 4 with
  | false => simp only [cond_false]
  | true =>
    have e4 : eqI (Int.tmod nn 65536) 0 = false := by rw [eqI_f]; intro q; rw [eqI_t] at e3; exact hw ⟨e3, q⟩
    simp only [e4, cond_true, cond_false]
theorem num_bad {kd : Int} {ex : Bool} {nn : Int} {nm : List Nat} {rf of ln : Int} (h : F30 kd ex nn nm rf of ln = some false) : F38 kd ex nn nm rf of ln = some (0, false, 0, [], 0, 0, 0, 200) := by
  unfold F38; simp only [F30_0, h, Option.isSome_some, Option.getD_some, Bool.not_false, cond_true]
theorem num_none {kd : Int} {ex : Bool} {nn : Int} {nm : List Nat} {rf of ln : Int} (h : F30 kd ex nn nm rf of ln = some true) (h3 : eqI kd 3 = false) (h4 : eqI kd 4 = false) : F38 kd ex nn nm rf of ln = some (0, false, 0, [], 0, 0, 0, 22) := by
  unfold F38; simp only [F30_0, h, h3, h4, Option.isSome_some, Option.getD_some, Bool.not_true, Bool.not_false, cond_true, cond_false]
theorem err_all {kd : Int} {ex : Bool} {nn : Int} {nm : List Nat} {rf of ln e : Int} (he : eqI e 0 = false) (h : F38 kd ex nn nm rf of ln = some (0, false, 0, [], 0, 0, 0, e)) : F20 kd ex nn nm rf of ln = some (0, e) ∧ F22 kd ex nn nm rf of ln = some (0, false, 0, [], 0, 0, 0, e) ∧ F23 kd ex nn nm rf of ln = some (0, false, 0, [], 0, 0, 0, e) := by
  refine ⟨?_, ?_, ?_⟩
  · unfold F20; simp only [F38_7, h, he, Option.isSome_some, Option.getD_some, Bool.not_false, cond_true]
  · unfold F22; simp only [F38_7, h, he, Option.isSome_some, Option.getD_some, Bool.not_false, cond_true]
  · unfold F23; simp only [F38_7, h, he, Option.isSome_some, Option.getD_some, Bool.not_false, cond_true]
theorem vl_bd {kd : Int} {ex : Bool} {nn : Int} {nm : List Nat} {rf of ln : Int} (h : F30 kd ex nn nm rf of ln = some true) (hk : kd = 3 ∨ kd = 4) : -140737488355328 ≤ vl kd nn ∧ vl kd nn ≤ 140737488355328 ∧ (eqI kd 3 = true → wrapA .i64 (Int.mul nn 65536) = vl kd nn) := by
  rcases hk with rfl | rfl
  · obtain ⟨r1, r2, _⟩ := rng3 h
    have v : vl 3 nn = nn * 65536 := rfl
    rw [v]
    refine ⟨by omega, by omega, fun _ => by simp only [mul_int]; exact wrap64 (by omega) (by omega)⟩
  · obtain ⟨r1, r2, _⟩ := rng4 h
    have v : vl 4 nn = nn := rfl
    rw [v]
    exact ⟨by omega, by omega, fun q => by cases q⟩
theorem val_ok {kd : Int} {ex : Bool} {nn : Int} {nm : List Nat} {rf of ln : Int} (h : F30 kd ex nn nm rf of ln = some true) (hk : kd = 3 ∨ kd = 4) : F20 kd ex nn nm rf of ln = some (vl kd nn, 0) ∧ F26 kd ex nn nm rf of ln = some (vl kd nn) ∧ F23 kd ex nn nm rf of ln = (bif in4 (vl kd nn) then some (4, false, vl kd nn, [], 0, 0, 0, 0) else some (0, false, 0, [], 0, 0, 0, 25)) := by
  have a := asNum h hk
  obtain ⟨b1, b2, b3⟩ := vl_bd h hk
  have z : eqI 0 0 = true := rfl
  have z2 : eqI 2 0 = false := rfl
  cases e : eqI kd 3 with
  | true =>
    have w := b3 e
    refine ⟨?_, ?_, ?_⟩
    · unfold F20; simp only [t20_0, F38_0, F38_2, F38_7, a, z, e, w, Option.isSome_some, Option.getD_some, Bool.not_true, cond_true, cond_false]
    · unfold F26; simp only [e, w, cond_true]
    · unfold F23; simp only [c23_1, t23_0, F38_0, F38_2, F38_7, a, z, e, w, F14v, F14_0, F14_1, F14_2, F14_3, F14_4, F14_5, F14_6, F14_7, Option.isSome_some, Option.getD_some, Bool.not_true, cond_true, cond_false]
      cases in4 (vl kd nn) <;> simp only [z, z2, Option.isSome_some, Option.getD_some, Bool.not_true, Bool.not_false, cond_true, cond_false]
  | false =>
    have v : vl kd nn = nn := by unfold vl; rw [e]; rfl
    refine ⟨?_, ?_, ?_⟩
    · unfold F20; simp only [F38_0, F38_2, F38_7, a, z, e, v, Option.isSome_some, Option.getD_some, Bool.not_true, cond_true, cond_false]
    · unfold F26; simp only [e, v, cond_false]
    · rw [v]; unfold F23; simp only [c23_2, F38_0, F38_2, F38_7, a, z, e, F14v, F14_0, F14_1, F14_2, F14_3, F14_4, F14_5, F14_6, F14_7, Option.isSome_some, Option.getD_some, Bool.not_true, cond_true, cond_false]
      cases in4 nn <;> simp only [z, z2, Option.isSome_some, Option.getD_some, Bool.not_true, Bool.not_false, cond_true, cond_false]
theorem refs_ok {kd : Int} {ex : Bool} {nn : Int} {nm : List Nat} {rf of ln : Int} (h : F30 kd ex nn nm rf of ln = some true) (hk : kd = 3 ∨ kd = 4) : F27 kd ex nn nm rf of ln = some (3, false, Int.tdiv (vl kd nn) 65536, [], 0, 0, 0) ∧ F25 kd ex nn nm rf of ln = (bif in4 (vl kd nn) then some (4, false, vl kd nn, [], 0, 0, 0, true) else some (0, false, 0, [], 0, 0, 0, false)) := by
  obtain ⟨_, v, _⟩ := val_ok h hk
  obtain ⟨b1, b2, _⟩ := vl_bd h hk
  have v0 : F26_0 kd ex nn nm rf of ln = vl kd nn := by simp only [F26_0, v, Option.getD_some]
  constructor
  · obtain ⟨c1, c2⟩ := td_bd b1 b2
    obtain ⟨x, hx⟩ : ∃ x, vl kd nn = x := ⟨_, rfl⟩
    rw [hx] at b1 b2 c1 c2 v0 ⊢
    have w3 : wrapA .i64 (Int.tdiv x 65536) = Int.tdiv x 65536 := wrap64 (by omega) (by omega)
    have w4 : wrapA .i64 (0 - x) = -x := by rw [Int.zero_sub]; exact wrap64 (by omega) (by omega)
    have w5 : Int.tdiv (-x) 65536 = -Int.tdiv x 65536 := Int.neg_tdiv _ _
    have w6 : wrapA .i64 (-Int.tdiv x 65536) = -Int.tdiv x 65536 := wrap64 (by omega) (by omega)
    have w7 : wrapA .i64 (0 - -Int.tdiv x 65536) = Int.tdiv x 65536 := by rw [Int.zero_sub, Int.neg_neg]; exact w3
    unfold F27; simp only [t27_0, t27_1, kwrap_eq, v0, w3, w4, w5, w6, w7]
    cases ltI x 0 <;> rfl
  · unfold F25; simp only [v0, f31]
    have : (bif !ltI (vl kd nn) (-2147483648) then !ltI 2147483648 (vl kd nn) else false) = in4 (vl kd nn) := rfl
    rw [this]
    cases in4 (vl kd nn) <;> rfl
theorem law_ok (kd : Int) (ex : Bool) (nn : Int) (nm : List Nat) (rf of ln : Int) (k2 : Int) (e2 : Bool) (n2 : Int) (m2 : List Nat) (r2 o2 l2 : Int) (_ : (Lit.int .i64 kd).wf = true) (wn : (Lit.int .i64 nn).wf = true) (_ : IsBytes nm) (_ : (Lit.int .i64 rf).wf = true) (_ : (Lit.int .i64 of).wf = true) (_ : (Lit.int .i64 ln).wf = true) (_ : (Lit.int .i64 k2).wf = true) (wn2 : (Lit.int .i64 n2).wf = true) (_ : IsBytes m2) (_ : (Lit.int .i64 r2).wf = true) (_ : (Lit.int .i64 o2).wf = true) (_ : (Lit.int .i64 l2).wf = true) : ∃ n : Nat, F5 kd ex nn nm rf of ln k2 e2 n2 m2 r2 o2 l2 = some true := by
  refine ⟨0, ?_⟩
  obtain ⟨b, h, g, _⟩ := v_all kd ex nn nm rf of ln (wf_i64 wn).2
  obtain ⟨c, i, j, _⟩ := v_all k2 e2 n2 m2 r2 o2 l2 (wf_i64 wn2).2
  have z : eqI 0 0 = true := rfl
  have zs : strEq [] [] = true := rfl
  have z200 : eqI 200 0 = false := rfl
  have z22 : eqI 22 0 = false := rfl
  have z25 : eqI 25 0 = false := rfl
  have p200 : eqI 200 200 = true := rfl
  have p22 : eqI 22 22 = true := rfl
  have p25 : eqI 25 25 = true := rfl
  have p4 : eqI 4 4 = true := rfl
  have p3 : eqI 3 3 = true := rfl
  have q43 : eqI 4 3 = false := rfl
  cases b with
  | false =>
    obtain ⟨a1, a2, a3⟩ := err_all z200 (num_bad h)
    have f21 : F21 kd ex nn nm rf of ln k2 e2 n2 m2 r2 o2 l2 = some (0, 200) := by
      unfold F21; simp only [F30_0, h, Option.isSome_some, Option.getD_some, Bool.not_false, cond_true]
    unfold F5; simp only [c5_0, c5_1, c5_2, c5_3, c5_4, c5_5, c5_6, c5_7, c5_8, c5_9, c5_10, c5_11, c5_12, c5_13, c5_14, F10_0, g, a1, a2, a3, f21, F20_0, F20_1, F21_0, F21_1, F22_0, F22_1, F22_2, F22_3, F22_4, F22_5, F22_6, F22_7, F23_0, F23_1, F23_2, F23_3, F23_4, F23_5, F23_6, F23_7, z, zs, p200, andB, beq_self_eq_true, Option.isSome_some, Option.getD_some, Bool.not_true, Bool.not_false, cond_true, cond_false]
  | true =>
    by_cases hk : kd = 3 ∨ kd = 4
    · obtain ⟨a1, a2, a3⟩ := val_ok h hk
      obtain ⟨b1, b2⟩ := refs_ok h hk
      have t := toInt_ok h hk
      obtain ⟨x, hx⟩ : ∃ x, vl kd nn = x := ⟨_, rfl⟩
      rw [hx] at a1 a2 a3 b1 b2 t
      obtain ⟨u, hu⟩ : ∃ u, Int.tdiv x 65536 = u := ⟨_, rfl⟩
      rw [hu] at b1 t
      have hk' : (eqI kd 3 = true) ∨ (eqI kd 3 = false ∧ eqI kd 4 = true) := by
        rcases hk with rfl | rfl
        · exact .inl rfl
        · exact .inr ⟨rfl, rfl⟩
      cases c with
      | false =>
        have f21 : F21 kd ex nn nm rf of ln k2 e2 n2 m2 r2 o2 l2 = some (0, 200) := by
          unfold F21; simp only [F30_0, h, i, Option.isSome_some, Option.getD_some, Bool.not_true, Bool.not_false, cond_true, cond_false]
        unfold F5
        rcases hk' with d1 | ⟨d1, d2⟩
        · cases q : in4 x <;> rw [q] at a3 b2 <;> simp only [cond_true, cond_false] at a3 b2 <;> simp only [c5_0, c5_1, c5_2, c5_3, c5_4, c5_5, c5_6, c5_7, c5_8, c5_9, c5_10, c5_11, c5_12, c5_13, c5_14, F10_0, g, j, d1, a1, a2, a3, b1, b2, t, f21, F20_0, F20_1, F21_0, F21_1, F22_0, F22_1, F22_2, F22_3, F22_4, F22_5, F22_6, F22_7, F23_0, F23_1, F23_2, F23_3, F23_4, F23_5, F23_6, F23_7, F25_0, F25_1, F25_2, F25_3, F25_4, F25_5, F25_6, F25_7, F26_0, F27_0, F27_1, F27_2, F27_3, F27_4, F27_5, F27_6, z, zs, p200, p22, p25, p3, p4, eqI_same, strEq_same, andB, beq_self_eq_true, Option.isSome_some, Option.getD_some, Bool.not_true, Bool.not_false, cond_true, cond_false]
        · cases q : in4 x <;> rw [q] at a3 b2 <;> simp only [cond_true, cond_false] at a3 b2 <;> simp only [c5_0, c5_1, c5_2, c5_3, c5_4, c5_5, c5_6, c5_7, c5_8, c5_9, c5_10, c5_11, c5_12, c5_13, c5_14, F10_0, g, j, d1, d2, a1, a2, a3, b1, b2, t, f21, F20_0, F20_1, F21_0, F21_1, F22_0, F22_1, F22_2, F22_3, F22_4, F22_5, F22_6, F22_7, F23_0, F23_1, F23_2, F23_3, F23_4, F23_5, F23_6, F23_7, F25_0, F25_1, F25_2, F25_3, F25_4, F25_5, F25_6, F25_7, F26_0, F27_0, F27_1, F27_2, F27_3, F27_4, F27_5, F27_6, z, zs, p200, p22, p25, p3, p4, eqI_same, strEq_same, andB, beq_self_eq_true, Option.isSome_some, Option.getD_some, Bool.not_true, Bool.not_false, cond_true, cond_false]
      | true =>
        by_cases hl : k2 = 3 ∨ k2 = 4
        · obtain ⟨c1, c2, _⟩ := val_ok i hl
          obtain ⟨y, hy⟩ : ∃ y, vl k2 n2 = y := ⟨_, rfl⟩
          rw [hy] at c1 c2
          have f21 : F21 kd ex nn nm rf of ln k2 e2 n2 m2 r2 o2 l2 = (bif ltI x y then some (-1, 0) else bif ltI y x then some (1, 0) else some (0, 0)) := by
            unfold F21; simp only [c21_0, c21_1, F30_0, h, i, a1, c1, F20_0, F20_1, z, Option.isSome_some, Option.getD_some, Bool.not_true, Bool.not_false, cond_true, cond_false]
          have hl' : (eqI k2 3 = true) ∨ (eqI k2 3 = false ∧ eqI k2 4 = true) := by
            rcases hl with rfl | rfl
            · exact .inl rfl
            · exact .inr ⟨rfl, rfl⟩
          have m1 : eqI (-1) (-1) = true := rfl
          have m2' : eqI 1 1 = true := rfl
          have m3 : eqI 0 (-1) = false := rfl
          have tri : (ltI x y = true ∧ ltI y x = false ∧ eqI x y = false) ∨ (ltI x y = false ∧ ltI y x = false ∧ eqI x y = true) ∨ (ltI x y = false ∧ ltI y x = true ∧ eqI x y = false) := by
            simp only [ltI_t, ltI_f, eqI_t, eqI_f]; omega
          unfold F5
          rcases hk' with d1 | ⟨d1, d2⟩ <;> rcases hl' with d3 | ⟨d3, d4⟩ <;> rcases tri with ⟨t1, t2, t3⟩ | ⟨t1, t2, t3⟩ | ⟨t1, t2, t3⟩ <;> rw [t1, t2] at f21 <;> simp only [cond_true, cond_false] at f21 <;> cases q : in4 x <;> rw [q] at a3 b2 <;> simp only [cond_true, cond_false] at a3 b2 <;>
            simp only [c5_0, c5_1, c5_2, c5_3, c5_4, c5_5, c5_6, c5_7, c5_8, c5_9, c5_10, c5_11, c5_12, c5_13, c5_14, F10_0, g, j, d1, d3, a1, a2, a3, b1, b2, c1, c2, t, t1, t2, t3, m1, m2', m3, f21, F20_0, F20_1, F21_0, F21_1, F22_0, F22_1, F22_2, F22_3, F22_4, F22_5, F22_6, F22_7, F23_0, F23_1, F23_2, F23_3, F23_4, F23_5, F23_6, F23_7, F25_0, F25_1, F25_2, F25_3, F25_4, F25_5, F25_6, F25_7, F26_0, F27_0, F27_1, F27_2, F27_3, F27_4, F27_5, F27_6, z, zs, p200, p22, p25, p3, p4, eqI_same, strEq_same, andB, beq_self_eq_true, Option.isSome_some, Option.getD_some, Bool.not_true, Bool.not_false, cond_true, cond_false] <;>
            (try simp only [d2]) <;> (try simp only [d4]) <;> (try simp only [m1, m2', m3, t1, t2, t3, z, zs, p25, eqI_same, strEq_same, andB, Bool.not_true, Bool.not_false, cond_true, cond_false]) <;> (try rfl)
        · have n3 : eqI k2 3 = false := by rw [eqI_f]; omega
          have n4 : eqI k2 4 = false := by rw [eqI_f]; omega
          obtain ⟨c1, _, _⟩ := err_all z22 (num_none i n3 n4)
          have f21 : F21 kd ex nn nm rf of ln k2 e2 n2 m2 r2 o2 l2 = some (0, 22) := by
            unfold F21; simp only [c21_0, c21_1, F30_0, h, i, a1, c1, F20_0, F20_1, z, z22, Option.isSome_some, Option.getD_some, Bool.not_true, Bool.not_false, cond_true, cond_false]
          unfold F5
          rcases hk' with d1 | ⟨d1, d2⟩
          · cases q : in4 x <;> rw [q] at a3 b2 <;> simp only [cond_true, cond_false] at a3 b2 <;> simp only [c5_0, c5_1, c5_2, c5_3, c5_4, c5_5, c5_6, c5_7, c5_8, c5_9, c5_10, c5_11, c5_12, c5_13, c5_14, F10_0, g, j, d1, n3, n4, a1, a2, a3, b1, b2, t, f21, F20_0, F20_1, F21_0, F21_1, F22_0, F22_1, F22_2, F22_3, F22_4, F22_5, F22_6, F22_7, F23_0, F23_1, F23_2, F23_3, F23_4, F23_5, F23_6, F23_7, F25_0, F25_1, F25_2, F25_3, F25_4, F25_5, F25_6, F25_7, F26_0, F27_0, F27_1, F27_2, F27_3, F27_4, F27_5, F27_6, z, zs, p200, p22, p25, p3, p4, eqI_same, strEq_same, andB, beq_self_eq_true, Option.isSome_some, Option.getD_some, Bool.not_true, Bool.not_false, cond_true, cond_false]
          · cases q : in4 x <;> rw [q] at a3 b2 <;> simp only [cond_true, cond_false] at a3 b2 <;> simp only [c5_0, c5_1, c5_2, c5_3, c5_4, c5_5, c5_6, c5_7, c5_8, c5_9, c5_10, c5_11, c5_12, c5_13, c5_14, F10_0, g, j, d1, d2, n3, n4, a1, a2, a3, b1, b2, t, f21, F20_0, F20_1, F21_0, F21_1, F22_0, F22_1, F22_2, F22_3, F22_4, F22_5, F22_6, F22_7, F23_0, F23_1, F23_2, F23_3, F23_4, F23_5, F23_6, F23_7, F25_0, F25_1, F25_2, F25_3, F25_4, F25_5, F25_6, F25_7, F26_0, F27_0, F27_1, F27_2, F27_3, F27_4, F27_5, F27_6, z, zs, p200, p22, p25, p3, p4, eqI_same, strEq_same, andB, beq_self_eq_true, Option.isSome_some, Option.getD_some, Bool.not_true, Bool.not_false, cond_true, cond_false]
    · have n3 : eqI kd 3 = false := by rw [eqI_f]; omega
      have n4 : eqI kd 4 = false := by rw [eqI_f]; omega
      obtain ⟨a1, a2, a3⟩ := err_all z22 (num_none h n3 n4)
      unfold F5
      cases c with
      | false =>
        have f21 : F21 kd ex nn nm rf of ln k2 e2 n2 m2 r2 o2 l2 = some (0, 200) := by
          unfold F21; simp only [F30_0, h, i, Option.isSome_some, Option.getD_some, Bool.not_true, Bool.not_false, cond_true, cond_false]
        simp only [c5_0, c5_1, c5_2, c5_3, c5_4, c5_5, c5_6, c5_7, c5_8, c5_9, c5_10, c5_11, c5_12, c5_13, c5_14, F10_0, g, j, n3, n4, a1, a2, a3, f21, F20_0, F20_1, F21_0, F21_1, F22_0, F22_1, F22_2, F22_3, F22_4, F22_5, F22_6, F22_7, F23_0, F23_1, F23_2, F23_3, F23_4, F23_5, F23_6, F23_7, z, zs, p200, p22, andB, beq_self_eq_true, Option.isSome_some, Option.getD_some, Bool.not_true, Bool.not_false, cond_true, cond_false]
      | true =>
        have f21 : F21 kd ex nn nm rf of ln k2 e2 n2 m2 r2 o2 l2 = some (0, 22) := by
          unfold F21; simp only [c21_0, c21_1, F30_0, h, i, a1, F20_0, F20_1, z22, Option.isSome_some, Option.getD_some, Bool.not_true, Bool.not_false, cond_true, cond_false]
        simp only [c5_0, c5_1, c5_2, c5_3, c5_4, c5_5, c5_6, c5_7, c5_8, c5_9, c5_10, c5_11, c5_12, c5_13, c5_14, F10_0, g, j, n3, n4, a1, a2, a3, f21, F20_0, F20_1, F21_0, F21_1, F22_0, F22_1, F22_2, F22_3, F22_4, F22_5, F22_6, F22_7, F23_0, F23_1, F23_2, F23_3, F23_4, F23_5, F23_6, F23_7, z, zs, p200, p22, andB, beq_self_eq_true, Option.isSome_some, Option.getD_some, Bool.not_true, Bool.not_false, cond_true, cond_false]

end

theorem walk (a0_0 : Int) (a0_1 : Bool) (a0_2 : Int) (a0_3 : List Nat) (a0_4 : Int) (a0_5 : Int) (a0_6 : Int) (a1_0 : Int) (a1_1 : Bool) (a1_2 : Int) (a1_3 : List Nat) (a1_4 : Int) (a1_5 : Int) (a1_6 : Int) (wa0_0 : (Lit.int .i64 a0_0).wf = true) (wa0_2 : (Lit.int .i64 a0_2).wf = true) (wa0_3 : Go.Sx.IsBytes a0_3) (wa0_4 : (Lit.int .i64 a0_4).wf = true) (wa0_5 : (Lit.int .i64 a0_5).wf = true) (wa0_6 : (Lit.int .i64 a0_6).wf = true) (wa1_0 : (Lit.int .i64 a1_0).wf = true) (wa1_2 : (Lit.int .i64 a1_2).wf = true) (wa1_3 : Go.Sx.IsBytes a1_3) (wa1_4 : (Lit.int .i64 a1_4).wf = true) (wa1_5 : (Lit.int .i64 a1_5).wf = true) (wa1_6 : (Lit.int .i64 a1_6).wf = true) {w : World} (h : Go.Sx.LaidIn w vars) {ARGS : List Value} (ha : Go.Sx.RelL (fun _ => none) [.agg [.int .i64 a0_0, .bool a0_1, .int .i64 a0_2, .str a0_3, .int .i64 a0_4, .int .i64 a0_5, .int .i64 a0_6], .agg [.int .i64 a1_0, .bool a1_1, .int .i64 a1_2, .str a1_3, .int .i64 a1_4, .int .i64 a1_5, .int .i64 a1_6]] ARGS) :
    Calls Tryd.prog 5 ARGS.toArray w fun e w' => e = .returned (.bool true) ∧ Below w.heap.size w w' := by
  obtain ⟨n, hn⟩ := law_ok a0_0 a0_1 a0_2 a0_3 a0_4 a0_5 a0_6 a1_0 a1_1 a1_2 a1_3 a1_4 a1_5 a1_6 wa0_0 wa0_2 wa0_3 wa0_4 wa0_5 wa0_6 wa1_0 wa1_2 wa1_3 wa1_4 wa1_5 wa1_6
  exact Go.Sx.call_args okayed rfl ha Tryd.func5 body5_eq (run5 n a0_0 a0_1 a0_2 a0_3 a0_4 a0_5 a0_6 a1_0 a1_1 a1_2 a1_3 a1_4 a1_5 a1_6 true hn) h

theorem door_met (os : Os) (args : Array Value) : laidMetH Tryd.prog laid ((World.doorLaid Tryd.prog 400 os).forCall (fun _ _ => 0) ⟨#[], args, []⟩).memory :=
  laidMetH_of_parts3 (fuel := 8) (laidMet_of_run' 8 (by kernel_rfl) (by kernel_rfl)) (by kernel_rfl) (by kernel_rfl)

set_option maxRecDepth 100000 in
theorem lifted (os : Os) (started : os.Started) (H : Type) (enc : TypeId × Value → H) :
    ReturnsInHanded {} Tryd.checked os 5 .any (fun w args => (Rows.objectNumbersSpec.pre enc Tryd.prog Tryd.f5 [] false w args ∧ laidMetH Tryd.prog laid w) ∧ sizedMet enc Tryd.prog Tryd.f5 (OpenSpec.ofChange Rows.objectNumbersSpec) false w args)
      (Rows.objectNumbersSpec.post enc Tryd.prog Tryd.f5 false true false false) := by
  refine returnsInHanded_of_change_and (C := Tryd.checked) (X := fun w _ => laidMetH Tryd.prog laid w) (fun _ _ _ hh h => h.of_heap hh) own started (by kernel_rfl) Tryd.func5
    (ChangeSpec.witness_shaped (enc := enc) (C := Tryd.checked) (os := os) (X := fun w _ => laidMetH Tryd.prog laid w) false (World.doorLaid Tryd.prog 400 os) #[.agg #[.int .i64 0, .bool false, .int .i64 0, .string ⟨#[]⟩, .int .i64 0, .int .i64 0, .int .i64 0], .agg #[.int .i64 0, .bool false, .int .i64 0, .string ⟨#[]⟩, .int .i64 0, .int .i64 0, .int .i64 0]] 8 rfl (World.shaped_of_RefB (by kernel_rfl) (by kernel_rfl)) (by kernel_rfl) (by kernel_rfl) (by kernel_rfl) (door_met os _)) ?_
  intro W base args ds gs before hval0 hW _ _ hL _
  have hval : ∀ (j : Nat) t v, Tryd.f5.params[j]? = some t → args[j]? = some v → Value.okWide Tryd.prog W .any base t v := hval0
  have hW' := hW
  obtain ⟨p, q, hA0, hV, rfl, hfz, hnd⟩ := hW
  have hA : DataW.TrodAll enc Tryd.prog W 0 (fun _ => true) true Tryd.f5.params.toList args.toList ds p := hA0
  rw [Tryd.params5] at hA hval
  obtain ⟨v0, vs0, d0, ds0, p0, q0, hargs, rfl, rfl, h0, r0⟩ := trodAll_cons hA
  obtain ⟨v1, vs1, d1, ds1, p1, q1, rfl, rfl, rfl, h1, r1⟩ := trodAll_cons r0
  obtain ⟨rfl, rfl, rfl⟩ := trodAll_nil r1
  obtain rfl : args = #[v0, v1] := by cases args; simp_all
  obtain ⟨rfl, rfl⟩ := trodVars_none hV
  obtain ⟨rfl, as0, k0, e0⟩ := Go.Sx.open_kinds (ks := [.int .i64, .bool, .int .i64, .str, .int .i64, .int .i64, .int .i64]) (by kernel_rfl) h0
  obtain ⟨a0_0, r0, rfl, wa0_0, k0⟩ := k0
  obtain ⟨a0_1, r0, rfl, k0⟩ := k0
  obtain ⟨a0_2, r0, rfl, wa0_2, k0⟩ := k0
  obtain ⟨a0_3, r0, rfl, wa0_3, k0⟩ := k0
  obtain ⟨a0_4, r0, rfl, wa0_4, k0⟩ := k0
  obtain ⟨a0_5, r0, rfl, wa0_5, k0⟩ := k0
  obtain ⟨a0_6, r0, rfl, wa0_6, k0⟩ := k0
  obtain rfl := k0
  obtain ⟨rfl, as1, k1, e1⟩ := Go.Sx.open_kinds (ks := [.int .i64, .bool, .int .i64, .str, .int .i64, .int .i64, .int .i64]) (by kernel_rfl) h1
  obtain ⟨a1_0, r1, rfl, wa1_0, k1⟩ := k1
  obtain ⟨a1_1, r1, rfl, k1⟩ := k1
  obtain ⟨a1_2, r1, rfl, wa1_2, k1⟩ := k1
  obtain ⟨a1_3, r1, rfl, wa1_3, k1⟩ := k1
  obtain ⟨a1_4, r1, rfl, wa1_4, k1⟩ := k1
  obtain ⟨a1_5, r1, rfl, wa1_5, k1⟩ := k1
  obtain ⟨a1_6, r1, rfl, wa1_6, k1⟩ := k1
  obtain rfl := k1
  clear hA0
  simp only [List.append_nil] at hW'
  have hrel : Go.Sx.RelL (fun _ => none) [.agg [.int .i64 a0_0, .bool a0_1, .int .i64 a0_2, .str (Go.Sx.bytesOf a0_3), .int .i64 a0_4, .int .i64 a0_5, .int .i64 a0_6], .agg [.int .i64 a1_0, .bool a1_1, .int .i64 a1_2, .str (Go.Sx.bytesOf a1_3), .int .i64 a1_4, .int .i64 a1_5, .int .i64 a1_6]] [v0, v1] := ⟨_, _, Go.Sx.rel_agg (.inl ⟨_, Tryd.underlying23⟩) (hval 0 23 v0 rfl rfl) e0, ⟨_, _, Go.Sx.rel_agg (.inl ⟨_, Tryd.underlying23⟩) (hval 1 23 v1 rfl rfl) e1, rfl, rfl⟩, rfl⟩
  refine (walk a0_0 a0_1 a0_2 (Go.Sx.bytesOf a0_3) a0_4 a0_5 a0_6 a1_0 a1_1 a1_2 (Go.Sx.bytesOf a1_3) a1_4 a1_5 a1_6 wa0_0 wa0_2 (Go.Sx.bytes_ok wa0_3) wa0_4 wa0_5 wa0_6 wa1_0 wa1_2 (Go.Sx.bytes_ok wa1_3) wa1_4 wa1_5 wa1_6 (Go.Sx.laidIn_of hL (by kernel_rfl) vars_eq) hrel).mono fun e W' ⟨he, hg⟩ => ?_
  subst he
  exact ⟨_, rfl, Go.Sx.post_of_below (pa := []) (pv := []) hW' (fun _ _ _ => (trodAll_cons_mk (shut_bool Tryd.underlying4 _) trodAll_mk0)) (fun sp _ => (trodAll_cons_mk (Go.Sx.stays laidOut (by kernel_rfl) (Nat.le_of_ble_eq_true (by kernel_rfl)) h0) (trodAll_cons_mk (Go.Sx.stays laidOut (by kernel_rfl) (Nat.le_of_ble_eq_true (by kernel_rfl)) h1) trodAll_mk0))) (fun _ _ => rfl) rfl
    hg (ok_one (by kernel_rfl) rfl (okWide_bool_mk Tryd.underlying4 _))⟩

theorem over : Rows.ObjectNumbersSaid :=
  OpenClaim.holds_of_wide 5 Tryd.f5 rfl rfl rfl rfl rfl rfl rfl ⟨rfl, rfl, rfl, rfl, rfl⟩ rfl rfl rfl rfl rfl (by kernel_rfl) Tryd.func5 (by kernel_rfl)
    (of_decide_eq_true (by kernel_rfl)) (by unfold Func.isWrapper; first | (rw [if_pos (by decide +kernel)]; kernel_rfl) | (rw [if_neg (by decide +kernel)]; exact ⟨rfl, rfl⟩))
    (fun os started H enc _ => lifted os started H enc)

theorem noStandIn : ([23, 23].all fun t => Tryd.prog.wantsStandIn t == false) = true := by kernel_rfl
theorem proved : Rows.ObjectNumbersCardSaid :=
  Claim7.holds_tied_plain_at .later [] [.data] true (true, "625803d9e46ed6c5c7ff007678473fc5283fec0f97fee5d5d679f304751626d4") false
    over (fun _ h => by cases h) (by kernel_rfl) (fun _ h => by cases h) objectNumbers_row_tie rfl ⟨rfl, rfl⟩ (by kernel_rfl) rfl
    (fun f fn hf hfn => by
      obtain rfl : f = 5 := Option.some.inj ((show Tryd.prog.funcNamed "chase/chaselaw10.ObjectNumbers" = some 5 by kernel_rfl).symm.trans hf) |>.symm
      obtain rfl : fn = Tryd.f5 := (Option.some.inj (Tryd.func5.symm.trans hfn)).symm
      exact ⟨by kernel_rfl, fun j t ht => by
        rw [Tryd.params5] at ht
        have hm := Array.mem_of_getElem? ht
        have := List.all_eq_true.1 noStandIn t (by simpa using hm)
        exact beq_iff_eq.1 this⟩)
    (by kernel_rfl)
#print axioms proved
end Go.Proofs.YtlfmockpeajfkaaDoor.objectNumbers
