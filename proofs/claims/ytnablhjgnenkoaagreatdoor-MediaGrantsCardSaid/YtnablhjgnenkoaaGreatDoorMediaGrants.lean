/- 'chase/chaselaw39.MediaGrants' returns true for every argument, and nothing that was there is changed. Condition: the package variables that the row lists hold what the program's text gives them. The first parts are the texts before: each function of the run as a term. Here: the numbers, and the rest. -/
import Derived.Test.YtnablhjgnenkoaaGreatDoorMediaGrantsA
namespace Go.Proofs.YtnablhjgnenkoaaGreatDoor.mediaGrants
open Go.ChangeShapes Go.WideShapes Go.ChangeAt Go.WideMaps Go.WideElems Go.RowKit
set_option linter.unusedVariables false
set_option linter.unusedSimpArgs false
section
open Go.Sx
set_option maxRecDepth 1000000

set_option maxRecDepth 100000
theorem cT {α : Type} {b : Bool} {x y : α} (h : b = true) : (bif b then x else y) = x := by rw [h]; rfl
theorem cF {α : Type} {b : Bool} {x y : α} (h : b = false) : (bif b then x else y) = y := by rw [h]; rfl
theorem ltT {x y : Int} (h : x < y) : ltI x y = true := by rw [ltI_t]; exact h
theorem ltF {x y : Int} (h : y ≤ x) : ltI x y = false := by rw [ltI_f]; exact h
theorem nltT {x y : Int} (h : y ≤ x) : (!ltI x y) = true := by rw [ltF h]; rfl
theorem nltF {x y : Int} (h : x < y) : (!ltI x y) = false := by rw [ltT h]; rfl
theorem eqT {x y : Int} (h : x = y) : eqI x y = true := by rw [eqI_t]; exact h
theorem eqF {x y : Int} (h : x ≠ y) : eqI x y = false := by rw [eqI_f]; exact h
theorem inT {i : Int} {n : Nat} (h1 : 0 ≤ i) (h2 : i.toNat < n) : inB i n = true := by rw [inB_t]; exact ⟨h1, h2⟩
theorem nbltT {a b : Nat} (h : a < b) : Nat.blt a b = true := Nat.ble_eq_true_of_le h
theorem nbleT {a b : Nat} (h : a ≤ b) : Nat.ble a b = true := Nat.ble_eq_true_of_le h
theorem nbeqT {a b : Nat} (h : a = b) : Nat.beq a b = true := by rw [h]; exact Nat.beq_refl b
theorem w8 {n : Int} (h1 : 0 ≤ n) (h2 : n ≤ 255) : wrapA .u8 n = n := wrap_in (by simpa [IntKind.min, IntKind.signed] using h1) (by simpa [IntKind.max, IntKind.signed, IntKind.bits] using h2)
theorem w16 {n : Int} (h1 : 0 ≤ n) (h2 : n ≤ 65535) : wrapA .u16 n = n := wrap_in (by simpa [IntKind.min, IntKind.signed] using h1) (by simpa [IntKind.max, IntKind.signed, IntKind.bits] using h2)
theorem ku (k : IntKind) (h : k.signed = false) (n : Int) : IntKind.wrap k n = n % (2 ^ k.bits : Nat) := by
  unfold IntKind.wrap; rw [h]; simp
theorem wu8 (n : Int) : wrapA .u8 n = n % 256 := by rw [← kwrap_eq, ku .u8 rfl]; rfl
theorem wu16 (n : Int) : wrapA .u16 n = n % 65536 := by rw [← kwrap_eq, ku .u16 rfl]; rfl
theorem wu32 (n : Int) : wrapA .u32 n = n % 4294967296 := by rw [← kwrap_eq, ku .u32 rfl]; rfl
theorem kku8 (n : Int) : IntKind.wrap .u8 n = n % 256 := by rw [ku .u8 rfl]; rfl
/-- octets as cells -/
def by8 (l : List Nat) : List AV := l.map fun (b : Nat) => AV.int .u8 (b : Int)
theorem by8_len (l : List Nat) : (by8 l).length = l.length := by simp [by8]
theorem by8_app (a b : List Nat) : by8 a ++ by8 b = by8 (a ++ b) := by simp [by8]
theorem by8_pure : ∀ (l : List Nat), pureAVs (by8 l) = true
  | [] => rfl
  | x :: l => by show pureAVs (.int .u8 (x : Int) :: by8 l) = true; simp only [pureAVs, pureAV, Bool.true_and]; exact by8_pure l
theorem by8_plain : ∀ (l : List Nat), (by8 l).all AV.plain = true
  | [] => rfl
  | x :: l => by show (AV.plain (.int .u8 (x : Int)) && (by8 l).all AV.plain) = true; simp only [AV.plain, Bool.true_and]; exact by8_plain l
theorem by8_u8 : ∀ (l : List Nat), (by8 l).all isU8 = true
  | [] => rfl
  | x :: l => by show (isU8 (.int .u8 (x : Int)) && (by8 l).all isU8) = true; simp only [isU8, Bool.true_and]; exact by8_u8 l
theorem by8_str (l : List Nat) {k : Nat} (h : k = l.length) : strOk (by8 l) 0 k = true ∧ strOf (by8 l) 0 k = l := by
  subst h
  have ht : ((by8 l).drop 0).take l.length = by8 l := by rw [List.drop_zero, List.take_of_length_le (by rw [by8_len]; exact Nat.le_refl _)]
  refine ⟨?_, ?_⟩
  · simp only [strOk, ht, Bool.and_eq_true]
    exact ⟨nbleT (by rw [by8_len]; omega), by8_u8 l⟩
  · unfold Go.Sx.strOf; rw [ht]; simp only [by8, List.map_map]
    conv => rhs; rw [← List.map_id l]
    exact List.map_congr_left fun x _ => by simp
theorem dropc {s : List Nat} {i : Nat} (h : i < s.length) : s.drop i = s.getD i 0 :: s.drop (i + 1) := by
  rw [List.drop_eq_getElem_cons h, List.getD_eq_getElem?_getD, List.getElem?_eq_getElem h]; rfl
theorem byteI_at (s : List Nat) (i : Nat) : byteI s (i : Int) = ((s.getD i 0 % 256 : Nat) : Int) := rfl
theorem strEq_same (s : List Nat) : strEq s s = true := by simp [strEq]
theorem strEq_bytes {a b : List Nat} (ha : ∀ x ∈ a, x < 256) (hb : ∀ x ∈ b, x < 256) : strEq a b = decide (a = b) := by
  have key : ∀ l : List Nat, (∀ x ∈ l, x < 256) → l.map (· % 256) = l := fun l h => by
    conv => rhs; rw [← List.map_id l]
    exact List.map_congr_left fun x hx => by have := h x hx; simp; omega
  unfold strEq; rw [key a ha, key b hb]
  by_cases e : a = b
  · subst e; simp
  · simp [e]
theorem xor_u8 {p m : Nat} (hp : p < 256) (hm : m < 256) : IntKind.wrap .u8 (↑(BitVec.toNat (BitVec.ofInt 8 (p : Int) ^^^ BitVec.ofInt 8 (m : Int))) : Int) = ((p ^^^ m : Nat) : Int) := by
  have h := Nat.xor_lt_two_pow (n := 8) (x := p) (y := m) (by omega) (by omega)
  rw [BitVec.toNat_xor, BitVec.ofInt_natCast, BitVec.ofInt_natCast, BitVec.toNat_ofNat, BitVec.toNat_ofNat, Nat.mod_eq_of_lt (by omega), Nat.mod_eq_of_lt (by omega), kku8]
  omega
theorem xor_step (a b : Nat) : a ^^^ b = (if a % 2 = b % 2 then 0 else 1) + 2 * (a / 2 ^^^ b / 2) := by
  have h1 : (a ^^^ b) / 2 = a / 2 ^^^ b / 2 := Nat.xor_div_two
  have h2 : (a ^^^ b) % 2 = 1 ↔ ¬ ((a % 2 = 1) ↔ (b % 2 = 1)) := Nat.xor_mod_two_eq_one
  have h3 := Nat.div_add_mod (a ^^^ b) 2
  rw [h1] at h3
  have ha : a % 2 < 2 := Nat.mod_lt _ (by omega)
  have hb : b % 2 < 2 := Nat.mod_lt _ (by omega)
  have hx : (a ^^^ b) % 2 < 2 := Nat.mod_lt _ (by omega)
  split
  · rename_i e
    have : (a ^^^ b) % 2 ≠ 1 := fun q => (h2.1 q) (by rw [e])
    omega
  · rename_i e
    have : (a ^^^ b) % 2 = 1 := h2.2 (fun q => e (by
      by_cases z : a % 2 = 1
      · have := q.1 z; omega
      · have : ¬ b % 2 = 1 := fun y => z (q.2 y)
        omega))
    omega
theorem s0_0 (x y p : Int) (n : Nat) (v0 : Bool) (v2 v3 : Int) : L12_0 x y p (n + 1) v0 0 v2 v3 = bif andB (eqI 64 x) (andB (eqI 64 y) true) then (bif !v0 then L12_0 x y p n true 1 64 64 else (bif ltI 4096 (wrapA .i64 (Int.mul v2 v3)) then L12_0 x y p n true 1 64 64 else L12_0 x y p n v0 1 v2 v3)) else L12_0 x y p n v0 1 v2 v3 := by kernel_rfl
theorem s0_1 (x y p : Int) (n : Nat) (v0 : Bool) (v2 v3 : Int) : L12_0 x y p (n + 1) v0 1 v2 v3 = bif andB (eqI 64 x) (andB (eqI 96 y) true) then (bif !v0 then L12_0 x y p n true 2 64 96 else (bif ltI 6144 (wrapA .i64 (Int.mul v2 v3)) then L12_0 x y p n true 2 64 96 else L12_0 x y p n v0 2 v2 v3)) else L12_0 x y p n v0 2 v2 v3 := by kernel_rfl
theorem s0_2 (x y p : Int) (n : Nat) (v0 : Bool) (v2 v3 : Int) : L12_0 x y p (n + 1) v0 2 v2 v3 = bif andB (eqI 96 x) (andB (eqI 128 y) true) then (bif !v0 then L12_0 x y p n true 3 96 128 else (bif ltI 12288 (wrapA .i64 (Int.mul v2 v3)) then L12_0 x y p n true 3 96 128 else L12_0 x y p n v0 3 v2 v3)) else L12_0 x y p n v0 3 v2 v3 := by kernel_rfl
theorem s0_3 (x y p : Int) (n : Nat) (v0 : Bool) (v2 v3 : Int) : L12_0 x y p (n + 1) v0 3 v2 v3 = bif andB (eqI 128 x) (andB (eqI 128 y) true) then (bif !v0 then L12_0 x y p n true 4 128 128 else (bif ltI 16384 (wrapA .i64 (Int.mul v2 v3)) then L12_0 x y p n true 4 128 128 else L12_0 x y p n v0 4 v2 v3)) else L12_0 x y p n v0 4 v2 v3 := by kernel_rfl
theorem s0_4 (x y p : Int) (n : Nat) (v0 : Bool) (v2 v3 : Int) : L12_0 x y p (n + 1) v0 4 v2 v3 = bif !v0 then L12_3 x y p n 0 v2 v3 else some (v2, v3, 0) := by kernel_rfl
theorem s1_0 (x y p : Int) (n : Nat) (v0 : Bool) (v2 v3 : Int) : L12_1 x y p (n + 1) v0 0 v2 v3 = bif andB (eqI 64 x) (andB (eqI 64 y) true) then (bif !v0 then L12_1 x y p n true 1 64 64 else (bif ltI 4096 (wrapA .i64 (Int.mul v2 v3)) then L12_1 x y p n true 1 64 64 else L12_1 x y p n v0 1 v2 v3)) else L12_1 x y p n v0 1 v2 v3 := by kernel_rfl
theorem s1_1 (x y p : Int) (n : Nat) (v0 : Bool) (v2 v3 : Int) : L12_1 x y p (n + 1) v0 1 v2 v3 = bif andB (eqI 64 x) (andB (eqI 96 y) true) then (bif !v0 then L12_1 x y p n true 2 64 96 else (bif ltI 6144 (wrapA .i64 (Int.mul v2 v3)) then L12_1 x y p n true 2 64 96 else L12_1 x y p n v0 2 v2 v3)) else L12_1 x y p n v0 2 v2 v3 := by kernel_rfl
theorem s1_2 (x y p : Int) (n : Nat) (v0 : Bool) (v2 v3 : Int) : L12_1 x y p (n + 1) v0 2 v2 v3 = bif andB (eqI 96 x) (andB (eqI 128 y) true) then (bif !v0 then L12_1 x y p n true 3 96 128 else (bif ltI 12288 (wrapA .i64 (Int.mul v2 v3)) then L12_1 x y p n true 3 96 128 else L12_1 x y p n v0 3 v2 v3)) else L12_1 x y p n v0 3 v2 v3 := by kernel_rfl
theorem s1_3 (x y p : Int) (n : Nat) (v0 : Bool) (v2 v3 : Int) : L12_1 x y p (n + 1) v0 3 v2 v3 = bif andB (eqI 128 x) (andB (eqI 128 y) true) then (bif !v0 then L12_1 x y p n true 4 128 128 else (bif ltI 16384 (wrapA .i64 (Int.mul v2 v3)) then L12_1 x y p n true 4 128 128 else L12_1 x y p n v0 4 v2 v3)) else L12_1 x y p n v0 4 v2 v3 := by kernel_rfl
theorem s1_4 (x y p : Int) (n : Nat) (v0 : Bool) (v2 v3 : Int) : L12_1 x y p (n + 1) v0 4 v2 v3 = bif !v0 then L12_4 x y p n false 0 0 0 v2 v3 else some (v2, v3, 0) := by kernel_rfl
theorem s2_0 (x y p : Int) (n : Nat) (v0 : Bool) (v2 v3 : Int) : L12_2 x y p (n + 1) v0 0 v2 v3 = bif andB (eqI 64 x) (andB (eqI 64 y) true) then (bif !v0 then L12_2 x y p n true 1 64 64 else (bif ltI 4096 (wrapA .i64 (Int.mul v2 v3)) then L12_2 x y p n true 1 64 64 else L12_2 x y p n v0 1 v2 v3)) else L12_2 x y p n v0 1 v2 v3 := by kernel_rfl
theorem s2_1 (x y p : Int) (n : Nat) (v0 : Bool) (v2 v3 : Int) : L12_2 x y p (n + 1) v0 1 v2 v3 = bif andB (eqI 64 x) (andB (eqI 96 y) true) then (bif !v0 then L12_2 x y p n true 2 64 96 else (bif ltI 6144 (wrapA .i64 (Int.mul v2 v3)) then L12_2 x y p n true 2 64 96 else L12_2 x y p n v0 2 v2 v3)) else L12_2 x y p n v0 2 v2 v3 := by kernel_rfl
theorem s2_2 (x y p : Int) (n : Nat) (v0 : Bool) (v2 v3 : Int) : L12_2 x y p (n + 1) v0 2 v2 v3 = bif andB (eqI 96 x) (andB (eqI 128 y) true) then (bif !v0 then L12_2 x y p n true 3 96 128 else (bif ltI 12288 (wrapA .i64 (Int.mul v2 v3)) then L12_2 x y p n true 3 96 128 else L12_2 x y p n v0 3 v2 v3)) else L12_2 x y p n v0 3 v2 v3 := by kernel_rfl
theorem s2_3 (x y p : Int) (n : Nat) (v0 : Bool) (v2 v3 : Int) : L12_2 x y p (n + 1) v0 3 v2 v3 = bif andB (eqI 128 x) (andB (eqI 128 y) true) then (bif !v0 then L12_2 x y p n true 4 128 128 else (bif ltI 16384 (wrapA .i64 (Int.mul v2 v3)) then L12_2 x y p n true 4 128 128 else L12_2 x y p n v0 4 v2 v3)) else L12_2 x y p n v0 4 v2 v3 := by kernel_rfl
theorem s2_4 (x y p : Int) (n : Nat) (v0 : Bool) (v2 v3 : Int) : L12_2 x y p (n + 1) v0 4 v2 v3 = bif !v0 then L12_5 x y p n false 0 0 0 v2 v3 else some (v2, v3, 0) := by kernel_rfl
theorem s3 (x y p : Int) (n : Nat) (v1 v2 : Int) : L12_3 x y p (n + 5) 0 v1 v2 = some (0, 0, 41) := by kernel_rfl
theorem s4_0 (x y p : Int) (n : Nat) (v0 : Bool) (v2 v3 v4 v5 : Int) : L12_4 x y p (n + 1) v0 0 v2 v3 v4 v5 = bif !ltI 64 x then (bif !ltI 64 y then (bif !v0 then L12_4 x y p n true 1 64 64 v4 v5 else (bif ltI 4096 (wrapA .i64 (Int.mul v2 v3)) then L12_4 x y p n true 1 64 64 v4 v5 else L12_4 x y p n v0 1 v2 v3 v4 v5)) else L12_4 x y p n v0 1 v2 v3 v4 v5) else L12_4 x y p n v0 1 v2 v3 v4 v5 := by kernel_rfl
theorem s5_0 (x y p : Int) (n : Nat) (v0 : Bool) (v2 v3 v4 v5 : Int) : L12_5 x y p (n + 1) v0 0 v2 v3 v4 v5 = bif andB (eqI 64 y) (andB (eqI 64 x) true) then (bif !v0 then L12_5 x y p n true 1 64 64 v4 v5 else (bif ltI 4096 (wrapA .i64 (Int.mul v2 v3)) then L12_5 x y p n true 1 64 64 v4 v5 else L12_5 x y p n v0 1 v2 v3 v4 v5)) else L12_5 x y p n v0 1 v2 v3 v4 v5 := by kernel_rfl
theorem s4_1 (x y p : Int) (n : Nat) (v0 : Bool) (v2 v3 v4 v5 : Int) : L12_4 x y p (n + 1) v0 1 v2 v3 v4 v5 = bif !ltI 64 x then (bif !ltI 96 y then (bif !v0 then L12_4 x y p n true 2 64 96 v4 v5 else (bif ltI 6144 (wrapA .i64 (Int.mul v2 v3)) then L12_4 x y p n true 2 64 96 v4 v5 else L12_4 x y p n v0 2 v2 v3 v4 v5)) else L12_4 x y p n v0 2 v2 v3 v4 v5) else L12_4 x y p n v0 2 v2 v3 v4 v5 := by kernel_rfl
theorem s5_1 (x y p : Int) (n : Nat) (v0 : Bool) (v2 v3 v4 v5 : Int) : L12_5 x y p (n + 1) v0 1 v2 v3 v4 v5 = bif andB (eqI 64 y) (andB (eqI 96 x) true) then (bif !v0 then L12_5 x y p n true 2 64 96 v4 v5 else (bif ltI 6144 (wrapA .i64 (Int.mul v2 v3)) then L12_5 x y p n true 2 64 96 v4 v5 else L12_5 x y p n v0 2 v2 v3 v4 v5)) else L12_5 x y p n v0 2 v2 v3 v4 v5 := by kernel_rfl
theorem s4_2 (x y p : Int) (n : Nat) (v0 : Bool) (v2 v3 v4 v5 : Int) : L12_4 x y p (n + 1) v0 2 v2 v3 v4 v5 = bif !ltI 96 x then (bif !ltI 128 y then (bif !v0 then L12_4 x y p n true 3 96 128 v4 v5 else (bif ltI 12288 (wrapA .i64 (Int.mul v2 v3)) then L12_4 x y p n true 3 96 128 v4 v5 else L12_4 x y p n v0 3 v2 v3 v4 v5)) else L12_4 x y p n v0 3 v2 v3 v4 v5) else L12_4 x y p n v0 3 v2 v3 v4 v5 := by kernel_rfl
theorem s5_2 (x y p : Int) (n : Nat) (v0 : Bool) (v2 v3 v4 v5 : Int) : L12_5 x y p (n + 1) v0 2 v2 v3 v4 v5 = bif andB (eqI 96 y) (andB (eqI 128 x) true) then (bif !v0 then L12_5 x y p n true 3 96 128 v4 v5 else (bif ltI 12288 (wrapA .i64 (Int.mul v2 v3)) then L12_5 x y p n true 3 96 128 v4 v5 else L12_5 x y p n v0 3 v2 v3 v4 v5)) else L12_5 x y p n v0 3 v2 v3 v4 v5 := by kernel_rfl
theorem s4_3 (x y p : Int) (n : Nat) (v0 : Bool) (v2 v3 v4 v5 : Int) : L12_4 x y p (n + 1) v0 3 v2 v3 v4 v5 = bif !ltI 128 x then (bif !ltI 128 y then (bif !v0 then L12_4 x y p n true 4 128 128 v4 v5 else (bif ltI 16384 (wrapA .i64 (Int.mul v2 v3)) then L12_4 x y p n true 4 128 128 v4 v5 else L12_4 x y p n v0 4 v2 v3 v4 v5)) else L12_4 x y p n v0 4 v2 v3 v4 v5) else L12_4 x y p n v0 4 v2 v3 v4 v5 := by kernel_rfl
theorem s5_3 (x y p : Int) (n : Nat) (v0 : Bool) (v2 v3 v4 v5 : Int) : L12_5 x y p (n + 1) v0 3 v2 v3 v4 v5 = bif andB (eqI 128 y) (andB (eqI 128 x) true) then (bif !v0 then L12_5 x y p n true 4 128 128 v4 v5 else (bif ltI 16384 (wrapA .i64 (Int.mul v2 v3)) then L12_5 x y p n true 4 128 128 v4 v5 else L12_5 x y p n v0 4 v2 v3 v4 v5)) else L12_5 x y p n v0 4 v2 v3 v4 v5 := by kernel_rfl
theorem s4_4 (x y p : Int) (n : Nat) (v0 : Bool) (v2 v3 v4 v5 : Int) : L12_4 x y p (n + 1) v0 4 v2 v3 v4 v5 = bif !v0 then some (0, 0, 41) else some (v2, v3, 0) := by kernel_rfl
theorem s5_4 (x y p : Int) (n : Nat) (v0 : Bool) (v2 v3 v4 v5 : Int) : L12_5 x y p (n + 1) v0 4 v2 v3 v4 v5 = bif !v0 then some (0, 0, 41) else some (v2, v3, 0) := by kernel_rfl
theorem r0_0 (x y p : Int) (n : Nat) : L13_0 x y p (n + 1) 0 = bif eqI 64 x then (bif eqI 64 y then some (x, y, 0) else L13_0 x y p n 1) else L13_0 x y p n 1 := by kernel_rfl
theorem r1_0 (x y p : Int) (n : Nat) : L13_1 x y p (n + 1) 0 = bif eqI 64 y then (bif eqI 64 x then some (y, x, 0) else L13_1 x y p n 1) else L13_1 x y p n 1 := by kernel_rfl
theorem r2_0 (x y p : Int) (n : Nat) (v0 v1 : Int) : L13_2 x y p (n + 1) v0 v1 0 = bif eqI p 1 then (bif !ltI 64 x then (bif !ltI 64 y then (bif eqI v0 0 then L13_2 x y p n 64 64 1 else (bif ltI 4096 (wrapA .i64 (Int.mul v0 v1)) then L13_2 x y p n 64 64 1 else L13_2 x y p n v0 v1 1)) else L13_2 x y p n v0 v1 1) else L13_2 x y p n v0 v1 1) else L13_2 x y p n v0 v1 1 := by kernel_rfl
theorem r0_1 (x y p : Int) (n : Nat) : L13_0 x y p (n + 1) 1 = bif eqI 64 x then (bif eqI 96 y then some (x, y, 0) else L13_0 x y p n 2) else L13_0 x y p n 2 := by kernel_rfl
theorem r1_1 (x y p : Int) (n : Nat) : L13_1 x y p (n + 1) 1 = bif eqI 64 y then (bif eqI 96 x then some (y, x, 0) else L13_1 x y p n 2) else L13_1 x y p n 2 := by kernel_rfl
theorem r2_1 (x y p : Int) (n : Nat) (v0 v1 : Int) : L13_2 x y p (n + 1) v0 v1 1 = bif eqI p 1 then (bif !ltI 64 x then (bif !ltI 96 y then (bif eqI v0 0 then L13_2 x y p n 64 96 2 else (bif ltI 6144 (wrapA .i64 (Int.mul v0 v1)) then L13_2 x y p n 64 96 2 else L13_2 x y p n v0 v1 2)) else L13_2 x y p n v0 v1 2) else L13_2 x y p n v0 v1 2) else L13_2 x y p n v0 v1 2 := by kernel_rfl
theorem r0_2 (x y p : Int) (n : Nat) : L13_0 x y p (n + 1) 2 = bif eqI 96 x then (bif eqI 128 y then some (x, y, 0) else L13_0 x y p n 3) else L13_0 x y p n 3 := by kernel_rfl
theorem r1_2 (x y p : Int) (n : Nat) : L13_1 x y p (n + 1) 2 = bif eqI 96 y then (bif eqI 128 x then some (y, x, 0) else L13_1 x y p n 3) else L13_1 x y p n 3 := by kernel_rfl
theorem r2_2 (x y p : Int) (n : Nat) (v0 v1 : Int) : L13_2 x y p (n + 1) v0 v1 2 = bif eqI p 1 then (bif !ltI 96 x then (bif !ltI 128 y then (bif eqI v0 0 then L13_2 x y p n 96 128 3 else (bif ltI 12288 (wrapA .i64 (Int.mul v0 v1)) then L13_2 x y p n 96 128 3 else L13_2 x y p n v0 v1 3)) else L13_2 x y p n v0 v1 3) else L13_2 x y p n v0 v1 3) else L13_2 x y p n v0 v1 3 := by kernel_rfl
theorem r0_3 (x y p : Int) (n : Nat) : L13_0 x y p (n + 1) 3 = bif eqI 128 x then (bif eqI 128 y then some (x, y, 0) else L13_0 x y p n 4) else L13_0 x y p n 4 := by kernel_rfl
theorem r1_3 (x y p : Int) (n : Nat) : L13_1 x y p (n + 1) 3 = bif eqI 128 y then (bif eqI 128 x then some (y, x, 0) else L13_1 x y p n 4) else L13_1 x y p n 4 := by kernel_rfl
theorem r2_3 (x y p : Int) (n : Nat) (v0 v1 : Int) : L13_2 x y p (n + 1) v0 v1 3 = bif eqI p 1 then (bif !ltI 128 x then (bif !ltI 128 y then (bif eqI v0 0 then L13_2 x y p n 128 128 4 else (bif ltI 16384 (wrapA .i64 (Int.mul v0 v1)) then L13_2 x y p n 128 128 4 else L13_2 x y p n v0 v1 4)) else L13_2 x y p n v0 v1 4) else L13_2 x y p n v0 v1 4) else L13_2 x y p n v0 v1 4 := by kernel_rfl
theorem r0_4 (x y p : Int) (n : Nat) : L13_0 x y p (n + 1) 4 = bif eqI p 2 then L13_1 x y p n 0 else L13_2 x y p n 0 0 0 := by kernel_rfl
theorem r1_4 (x y p : Int) (n : Nat) : L13_1 x y p (n + 1) 4 = L13_2 x y p n 0 0 0 := by kernel_rfl
theorem r2_4 (x y p : Int) (n : Nat) (v0 v1 : Int) : L13_2 x y p (n + 1) v0 v1 4 = bif eqI v0 0 then some (0, 0, 41) else some (v0, v1, 0) := by kernel_rfl
def tray (a b : Int) : Prop := (a = 64 ∧ b = 64) ∨ (a = 64 ∧ b = 96) ∨ (a = 96 ∧ b = 128) ∨ (a = 128 ∧ b = 128)
structure Cls (x : Int) (a b c d e f : Bool) : Prop where
  a : eqI 64 x = a
  b : eqI 96 x = b
  c : eqI 128 x = c
  d : ltI 64 x = d
  e : ltI 96 x = e
  f : ltI 128 x = f
theorem cls {x : Int} (h1 : 1 ≤ x) (h2 : x ≤ 128) : x = 64 ∨ x = 96 ∨ x = 128 ∨ Cls x false false false false false false ∨ Cls x false false false true false false ∨ Cls x false false false true true false := by
  by_cases a : x = 64
  · exact .inl a
  by_cases b : x = 96
  · exact .inr (.inl b)
  by_cases c : x = 128
  · exact .inr (.inr (.inl c))
  have ea := eqF (x := 64) (y := x) (by omega)
  have eb := eqF (x := 96) (y := x) (by omega)
  have ec := eqF (x := 128) (y := x) (by omega)
  have ef := ltF (x := 128) (y := x) (by omega)
  by_cases d : x < 64
  · exact .inr (.inr (.inr (.inl ⟨ea, eb, ec, ltF (by omega), ltF (by omega), ef⟩)))
  by_cases e : x < 96
  · exact .inr (.inr (.inr (.inr (.inl ⟨ea, eb, ec, ltT (by omega), ltF (by omega), ef⟩))))
  · exact .inr (.inr (.inr (.inr (.inr ⟨ea, eb, ec, ltT (by omega), ltT (by omega), ef⟩))))
theorem c64 : Cls 64 true false false false false false := ⟨rfl, rfl, rfl, rfl, rfl, rfl⟩
theorem c96 : Cls 96 false true false true false false := ⟨rfl, rfl, rfl, rfl, rfl, rfl⟩
theorem c128 : Cls 128 false false true true true false := ⟨rfl, rfl, rfl, rfl, rfl, rfl⟩
theorem qa : wrapA .i64 (Int.mul 64 64) = 4096 := by kernel_rfl
theorem qb : wrapA .i64 (Int.mul 64 96) = 6144 := by kernel_rfl
theorem qc : wrapA .i64 (Int.mul 96 128) = 12288 := by kernel_rfl
theorem qd : wrapA .i64 (Int.mul 128 128) = 16384 := by kernel_rfl

theorem w4096_4096 : ltI 4096 4096 = false := by kernel_rfl
theorem w6144_4096 : ltI 6144 4096 = false := by kernel_rfl
theorem w6144_6144 : ltI 6144 6144 = false := by kernel_rfl
theorem w12288_4096 : ltI 12288 4096 = false := by kernel_rfl
theorem w12288_6144 : ltI 12288 6144 = false := by kernel_rfl
theorem w12288_12288 : ltI 12288 12288 = false := by kernel_rfl
theorem w16384_4096 : ltI 16384 4096 = false := by kernel_rfl
theorem w16384_6144 : ltI 16384 6144 = false := by kernel_rfl
theorem w16384_12288 : ltI 16384 12288 = false := by kernel_rfl
theorem w16384_16384 : ltI 16384 16384 = false := by kernel_rfl

theorem z64 : eqI 64 0 = false := by kernel_rfl
theorem z96 : eqI 96 0 = false := by kernel_rfl
theorem z128 : eqI 128 0 = false := by kernel_rfl
theorem z0 : eqI 0 0 = true := by kernel_rfl
theorem an_f (b : Bool) : andB false b = false := rfl
theorem an_t (b : Bool) : andB true b = b := rfl
theorem e01 : eqI 0 1 = false := by kernel_rfl
theorem e02 : eqI 0 2 = false := by kernel_rfl
theorem e11 : eqI 1 1 = true := by kernel_rfl
theorem e12 : eqI 1 2 = false := by kernel_rfl
theorem e21 : eqI 2 1 = false := by kernel_rfl
theorem e22 : eqI 2 2 = true := by kernel_rfl
theorem m0_00 (n : Nat) : L12_0 64 64 0 (n + 20) false 0 0 0 = L13_0 64 64 0 (n + 20) 0 ∧ (L13_0 64 64 0 (n + 20) 0).isSome = true := by
  have x1 := c64.a; have x2 := c64.b; have x3 := c64.c; have x4 := c64.d; have x5 := c64.e; have x6 := c64.f
  have y1 := c64.a; have y2 := c64.b; have y3 := c64.c; have y4 := c64.d; have y5 := c64.e; have y6 := c64.f
  simp only [x1, x2, x3, x4, x5, x6, y1, y2, y3, y4, y5, y6, e01, e02, s0_0, s0_1, s0_2, s0_3, s0_4, s3, r0_0, r0_1, r0_2, r0_3, r0_4, r1_0, r1_1, r1_2, r1_3, r1_4, r2_0, r2_1, r2_2, r2_3, r2_4, an_f, an_t, cond_true, cond_false, Bool.not_true, Bool.not_false, Bool.not_not, z0, z64, z96, z128, qa, qb, qc, qd, w4096_4096, w6144_4096, w6144_6144, w12288_4096, w12288_6144, w12288_12288, w16384_4096, w16384_6144, w16384_12288, w16384_16384, Option.isSome_some, and_self]
theorem m0_01 (n : Nat) : L12_0 64 96 0 (n + 20) false 0 0 0 = L13_0 64 96 0 (n + 20) 0 ∧ (L13_0 64 96 0 (n + 20) 0).isSome = true := by
  have x1 := c64.a; have x2 := c64.b; have x3 := c64.c; have x4 := c64.d; have x5 := c64.e; have x6 := c64.f
  have y1 := c96.a; have y2 := c96.b; have y3 := c96.c; have y4 := c96.d; have y5 := c96.e; have y6 := c96.f
  simp only [x1, x2, x3, x4, x5, x6, y1, y2, y3, y4, y5, y6, e01, e02, s0_0, s0_1, s0_2, s0_3, s0_4, s3, r0_0, r0_1, r0_2, r0_3, r0_4, r1_0, r1_1, r1_2, r1_3, r1_4, r2_0, r2_1, r2_2, r2_3, r2_4, an_f, an_t, cond_true, cond_false, Bool.not_true, Bool.not_false, Bool.not_not, z0, z64, z96, z128, qa, qb, qc, qd, w4096_4096, w6144_4096, w6144_6144, w12288_4096, w12288_6144, w12288_12288, w16384_4096, w16384_6144, w16384_12288, w16384_16384, Option.isSome_some, and_self]
theorem m0_02 (n : Nat) : L12_0 64 128 0 (n + 20) false 0 0 0 = L13_0 64 128 0 (n + 20) 0 ∧ (L13_0 64 128 0 (n + 20) 0).isSome = true := by
  have x1 := c64.a; have x2 := c64.b; have x3 := c64.c; have x4 := c64.d; have x5 := c64.e; have x6 := c64.f
  have y1 := c128.a; have y2 := c128.b; have y3 := c128.c; have y4 := c128.d; have y5 := c128.e; have y6 := c128.f
  simp only [x1, x2, x3, x4, x5, x6, y1, y2, y3, y4, y5, y6, e01, e02, s0_0, s0_1, s0_2, s0_3, s0_4, s3, r0_0, r0_1, r0_2, r0_3, r0_4, r1_0, r1_1, r1_2, r1_3, r1_4, r2_0, r2_1, r2_2, r2_3, r2_4, an_f, an_t, cond_true, cond_false, Bool.not_true, Bool.not_false, Bool.not_not, z0, z64, z96, z128, qa, qb, qc, qd, w4096_4096, w6144_4096, w6144_6144, w12288_4096, w12288_6144, w12288_12288, w16384_4096, w16384_6144, w16384_12288, w16384_16384, Option.isSome_some, and_self]
theorem m0_03 {y : Int} (hy : Cls y false false false false false false) (n : Nat) : L12_0 64 y 0 (n + 20) false 0 0 0 = L13_0 64 y 0 (n + 20) 0 ∧ (L13_0 64 y 0 (n + 20) 0).isSome = true := by
  have x1 := c64.a; have x2 := c64.b; have x3 := c64.c; have x4 := c64.d; have x5 := c64.e; have x6 := c64.f
  have y1 := hy.a; have y2 := hy.b; have y3 := hy.c; have y4 := hy.d; have y5 := hy.e; have y6 := hy.f
  simp only [x1, x2, x3, x4, x5, x6, y1, y2, y3, y4, y5, y6, e01, e02, s0_0, s0_1, s0_2, s0_3, s0_4, s3, r0_0, r0_1, r0_2, r0_3, r0_4, r1_0, r1_1, r1_2, r1_3, r1_4, r2_0, r2_1, r2_2, r2_3, r2_4, an_f, an_t, cond_true, cond_false, Bool.not_true, Bool.not_false, Bool.not_not, z0, z64, z96, z128, qa, qb, qc, qd, w4096_4096, w6144_4096, w6144_6144, w12288_4096, w12288_6144, w12288_12288, w16384_4096, w16384_6144, w16384_12288, w16384_16384, Option.isSome_some, and_self]
theorem m0_04 {y : Int} (hy : Cls y false false false true false false) (n : Nat) : L12_0 64 y 0 (n + 20) false 0 0 0 = L13_0 64 y 0 (n + 20) 0 ∧ (L13_0 64 y 0 (n + 20) 0).isSome = true := by
  have x1 := c64.a; have x2 := c64.b; have x3 := c64.c; have x4 := c64.d; have x5 := c64.e; have x6 := c64.f
  have y1 := hy.a; have y2 := hy.b; have y3 := hy.c; have y4 := hy.d; have y5 := hy.e; have y6 := hy.f
  simp only [x1, x2, x3, x4, x5, x6, y1, y2, y3, y4, y5, y6, e01, e02, s0_0, s0_1, s0_2, s0_3, s0_4, s3, r0_0, r0_1, r0_2, r0_3, r0_4, r1_0, r1_1, r1_2, r1_3, r1_4, r2_0, r2_1, r2_2, r2_3, r2_4, an_f, an_t, cond_true, cond_false, Bool.not_true, Bool.not_false, Bool.not_not, z0, z64, z96, z128, qa, qb, qc, qd, w4096_4096, w6144_4096, w6144_6144, w12288_4096, w12288_6144, w12288_12288, w16384_4096, w16384_6144, w16384_12288, w16384_16384, Option.isSome_some, and_self]
theorem m0_05 {y : Int} (hy : Cls y false false false true true false) (n : Nat) : L12_0 64 y 0 (n + 20) false 0 0 0 = L13_0 64 y 0 (n + 20) 0 ∧ (L13_0 64 y 0 (n + 20) 0).isSome = true := by
  have x1 := c64.a; have x2 := c64.b; have x3 := c64.c; have x4 := c64.d; have x5 := c64.e; have x6 := c64.f
  have y1 := hy.a; have y2 := hy.b; have y3 := hy.c; have y4 := hy.d; have y5 := hy.e; have y6 := hy.f
  simp only [x1, x2, x3, x4, x5, x6, y1, y2, y3, y4, y5, y6, e01, e02, s0_0, s0_1, s0_2, s0_3, s0_4, s3, r0_0, r0_1, r0_2, r0_3, r0_4, r1_0, r1_1, r1_2, r1_3, r1_4, r2_0, r2_1, r2_2, r2_3, r2_4, an_f, an_t, cond_true, cond_false, Bool.not_true, Bool.not_false, Bool.not_not, z0, z64, z96, z128, qa, qb, qc, qd, w4096_4096, w6144_4096, w6144_6144, w12288_4096, w12288_6144, w12288_12288, w16384_4096, w16384_6144, w16384_12288, w16384_16384, Option.isSome_some, and_self]
theorem m0_10 (n : Nat) : L12_0 96 64 0 (n + 20) false 0 0 0 = L13_0 96 64 0 (n + 20) 0 ∧ (L13_0 96 64 0 (n + 20) 0).isSome = true := by
  have x1 := c96.a; have x2 := c96.b; have x3 := c96.c; have x4 := c96.d; have x5 := c96.e; have x6 := c96.f
  have y1 := c64.a; have y2 := c64.b; have y3 := c64.c; have y4 := c64.d; have y5 := c64.e; have y6 := c64.f
  simp only [x1, x2, x3, x4, x5, x6, y1, y2, y3, y4, y5, y6, e01, e02, s0_0, s0_1, s0_2, s0_3, s0_4, s3, r0_0, r0_1, r0_2, r0_3, r0_4, r1_0, r1_1, r1_2, r1_3, r1_4, r2_0, r2_1, r2_2, r2_3, r2_4, an_f, an_t, cond_true, cond_false, Bool.not_true, Bool.not_false, Bool.not_not, z0, z64, z96, z128, qa, qb, qc, qd, w4096_4096, w6144_4096, w6144_6144, w12288_4096, w12288_6144, w12288_12288, w16384_4096, w16384_6144, w16384_12288, w16384_16384, Option.isSome_some, and_self]
theorem m0_11 (n : Nat) : L12_0 96 96 0 (n + 20) false 0 0 0 = L13_0 96 96 0 (n + 20) 0 ∧ (L13_0 96 96 0 (n + 20) 0).isSome = true := by
  have x1 := c96.a; have x2 := c96.b; have x3 := c96.c; have x4 := c96.d; have x5 := c96.e; have x6 := c96.f
  have y1 := c96.a; have y2 := c96.b; have y3 := c96.c; have y4 := c96.d; have y5 := c96.e; have y6 := c96.f
  simp only [x1, x2, x3, x4, x5, x6, y1, y2, y3, y4, y5, y6, e01, e02, s0_0, s0_1, s0_2, s0_3, s0_4, s3, r0_0, r0_1, r0_2, r0_3, r0_4, r1_0, r1_1, r1_2, r1_3, r1_4, r2_0, r2_1, r2_2, r2_3, r2_4, an_f, an_t, cond_true, cond_false, Bool.not_true, Bool.not_false, Bool.not_not, z0, z64, z96, z128, qa, qb, qc, qd, w4096_4096, w6144_4096, w6144_6144, w12288_4096, w12288_6144, w12288_12288, w16384_4096, w16384_6144, w16384_12288, w16384_16384, Option.isSome_some, and_self]
theorem m0_12 (n : Nat) : L12_0 96 128 0 (n + 20) false 0 0 0 = L13_0 96 128 0 (n + 20) 0 ∧ (L13_0 96 128 0 (n + 20) 0).isSome = true := by
  have x1 := c96.a; have x2 := c96.b; have x3 := c96.c; have x4 := c96.d; have x5 := c96.e; have x6 := c96.f
  have y1 := c128.a; have y2 := c128.b; have y3 := c128.c; have y4 := c128.d; have y5 := c128.e; have y6 := c128.f
  simp only [x1, x2, x3, x4, x5, x6, y1, y2, y3, y4, y5, y6, e01, e02, s0_0, s0_1, s0_2, s0_3, s0_4, s3, r0_0, r0_1, r0_2, r0_3, r0_4, r1_0, r1_1, r1_2, r1_3, r1_4, r2_0, r2_1, r2_2, r2_3, r2_4, an_f, an_t, cond_true, cond_false, Bool.not_true, Bool.not_false, Bool.not_not, z0, z64, z96, z128, qa, qb, qc, qd, w4096_4096, w6144_4096, w6144_6144, w12288_4096, w12288_6144, w12288_12288, w16384_4096, w16384_6144, w16384_12288, w16384_16384, Option.isSome_some, and_self]
theorem m0_13 {y : Int} (hy : Cls y false false false false false false) (n : Nat) : L12_0 96 y 0 (n + 20) false 0 0 0 = L13_0 96 y 0 (n + 20) 0 ∧ (L13_0 96 y 0 (n + 20) 0).isSome = true := by
  have x1 := c96.a; have x2 := c96.b; have x3 := c96.c; have x4 := c96.d; have x5 := c96.e; have x6 := c96.f
  have y1 := hy.a; have y2 := hy.b; have y3 := hy.c; have y4 := hy.d; have y5 := hy.e; have y6 := hy.f
  simp only [x1, x2, x3, x4, x5, x6, y1, y2, y3, y4, y5, y6, e01, e02, s0_0, s0_1, s0_2, s0_3, s0_4, s3, r0_0, r0_1, r0_2, r0_3, r0_4, r1_0, r1_1, r1_2, r1_3, r1_4, r2_0, r2_1, r2_2, r2_3, r2_4, an_f, an_t, cond_true, cond_false, Bool.not_true, Bool.not_false, Bool.not_not, z0, z64, z96, z128, qa, qb, qc, qd, w4096_4096, w6144_4096, w6144_6144, w12288_4096, w12288_6144, w12288_12288, w16384_4096, w16384_6144, w16384_12288, w16384_16384, Option.isSome_some, and_self]
theorem m0_14 {y : Int} (hy : Cls y false false false true false false) (n : Nat) : L12_0 96 y 0 (n + 20) false 0 0 0 = L13_0 96 y 0 (n + 20) 0 ∧ (L13_0 96 y 0 (n + 20) 0).isSome = true := by
  have x1 := c96.a; have x2 := c96.b; have x3 := c96.c; have x4 := c96.d; have x5 := c96.e; have x6 := c96.f
  have y1 := hy.a; have y2 := hy.b; have y3 := hy.c; have y4 := hy.d; have y5 := hy.e; have y6 := hy.f
  simp only [x1, x2, x3, x4, x5, x6, y1, y2, y3, y4, y5, y6, e01, e02, s0_0, s0_1, s0_2, s0_3, s0_4, s3, r0_0, r0_1, r0_2, r0_3, r0_4, r1_0, r1_1, r1_2, r1_3, r1_4, r2_0, r2_1, r2_2, r2_3, r2_4, an_f, an_t, cond_true, cond_false, Bool.not_true, Bool.not_false, Bool.not_not, z0, z64, z96, z128, qa, qb, qc, qd, w4096_4096, w6144_4096, w6144_6144, w12288_4096, w12288_6144, w12288_12288, w16384_4096, w16384_6144, w16384_12288, w16384_16384, Option.isSome_some, and_self]
theorem m0_15 {y : Int} (hy : Cls y false false false true true false) (n : Nat) : L12_0 96 y 0 (n + 20) false 0 0 0 = L13_0 96 y 0 (n + 20) 0 ∧ (L13_0 96 y 0 (n + 20) 0).isSome = true := by
  have x1 := c96.a; have x2 := c96.b; have x3 := c96.c; have x4 := c96.d; have x5 := c96.e; have x6 := c96.f
  have y1 := hy.a; have y2 := hy.b; have y3 := hy.c; have y4 := hy.d; have y5 := hy.e; have y6 := hy.f
  simp only [x1, x2, x3, x4, x5, x6, y1, y2, y3, y4, y5, y6, e01, e02, s0_0, s0_1, s0_2, s0_3, s0_4, s3, r0_0, r0_1, r0_2, r0_3, r0_4, r1_0, r1_1, r1_2, r1_3, r1_4, r2_0, r2_1, r2_2, r2_3, r2_4, an_f, an_t, cond_true, cond_false, Bool.not_true, Bool.not_false, Bool.not_not, z0, z64, z96, z128, qa, qb, qc, qd, w4096_4096, w6144_4096, w6144_6144, w12288_4096, w12288_6144, w12288_12288, w16384_4096, w16384_6144, w16384_12288, w16384_16384, Option.isSome_some, and_self]
theorem m0_20 (n : Nat) : L12_0 128 64 0 (n + 20) false 0 0 0 = L13_0 128 64 0 (n + 20) 0 ∧ (L13_0 128 64 0 (n + 20) 0).isSome = true := by
  have x1 := c128.a; have x2 := c128.b; have x3 := c128.c; have x4 := c128.d; have x5 := c128.e; have x6 := c128.f
  have y1 := c64.a; have y2 := c64.b; have y3 := c64.c; have y4 := c64.d; have y5 := c64.e; have y6 := c64.f
  simp only [x1, x2, x3, x4, x5, x6, y1, y2, y3, y4, y5, y6, e01, e02, s0_0, s0_1, s0_2, s0_3, s0_4, s3, r0_0, r0_1, r0_2, r0_3, r0_4, r1_0, r1_1, r1_2, r1_3, r1_4, r2_0, r2_1, r2_2, r2_3, r2_4, an_f, an_t, cond_true, cond_false, Bool.not_true, Bool.not_false, Bool.not_not, z0, z64, z96, z128, qa, qb, qc, qd, w4096_4096, w6144_4096, w6144_6144, w12288_4096, w12288_6144, w12288_12288, w16384_4096, w16384_6144, w16384_12288, w16384_16384, Option.isSome_some, and_self]
theorem m0_21 (n : Nat) : L12_0 128 96 0 (n + 20) false 0 0 0 = L13_0 128 96 0 (n + 20) 0 ∧ (L13_0 128 96 0 (n + 20) 0).isSome = true := by
  have x1 := c128.a; have x2 := c128.b; have x3 := c128.c; have x4 := c128.d; have x5 := c128.e; have x6 := c128.f
  have y1 := c96.a; have y2 := c96.b; have y3 := c96.c; have y4 := c96.d; have y5 := c96.e; have y6 := c96.f
  simp only [x1, x2, x3, x4, x5, x6, y1, y2, y3, y4, y5, y6, e01, e02, s0_0, s0_1, s0_2, s0_3, s0_4, s3, r0_0, r0_1, r0_2, r0_3, r0_4, r1_0, r1_1, r1_2, r1_3, r1_4, r2_0, r2_1, r2_2, r2_3, r2_4, an_f, an_t, cond_true, cond_false, Bool.not_true, Bool.not_false, Bool.not_not, z0, z64, z96, z128, qa, qb, qc, qd, w4096_4096, w6144_4096, w6144_6144, w12288_4096, w12288_6144, w12288_12288, w16384_4096, w16384_6144, w16384_12288, w16384_16384, Option.isSome_some, and_self]
theorem m0_22 (n : Nat) : L12_0 128 128 0 (n + 20) false 0 0 0 = L13_0 128 128 0 (n + 20) 0 ∧ (L13_0 128 128 0 (n + 20) 0).isSome = true := by
  have x1 := c128.a; have x2 := c128.b; have x3 := c128.c; have x4 := c128.d; have x5 := c128.e; have x6 := c128.f
  have y1 := c128.a; have y2 := c128.b; have y3 := c128.c; have y4 := c128.d; have y5 := c128.e; have y6 := c128.f
  simp only [x1, x2, x3, x4, x5, x6, y1, y2, y3, y4, y5, y6, e01, e02, s0_0, s0_1, s0_2, s0_3, s0_4, s3, r0_0, r0_1, r0_2, r0_3, r0_4, r1_0, r1_1, r1_2, r1_3, r1_4, r2_0, r2_1, r2_2, r2_3, r2_4, an_f, an_t, cond_true, cond_false, Bool.not_true, Bool.not_false, Bool.not_not, z0, z64, z96, z128, qa, qb, qc, qd, w4096_4096, w6144_4096, w6144_6144, w12288_4096, w12288_6144, w12288_12288, w16384_4096, w16384_6144, w16384_12288, w16384_16384, Option.isSome_some, and_self]
theorem m0_23 {y : Int} (hy : Cls y false false false false false false) (n : Nat) : L12_0 128 y 0 (n + 20) false 0 0 0 = L13_0 128 y 0 (n + 20) 0 ∧ (L13_0 128 y 0 (n + 20) 0).isSome = true := by
  have x1 := c128.a; have x2 := c128.b; have x3 := c128.c; have x4 := c128.d; have x5 := c128.e; have x6 := c128.f
  have y1 := hy.a; have y2 := hy.b; have y3 := hy.c; have y4 := hy.d; have y5 := hy.e; have y6 := hy.f
  simp only [x1, x2, x3, x4, x5, x6, y1, y2, y3, y4, y5, y6, e01, e02, s0_0, s0_1, s0_2, s0_3, s0_4, s3, r0_0, r0_1, r0_2, r0_3, r0_4, r1_0, r1_1, r1_2, r1_3, r1_4, r2_0, r2_1, r2_2, r2_3, r2_4, an_f, an_t, cond_true, cond_false, Bool.not_true, Bool.not_false, Bool.not_not, z0, z64, z96, z128, qa, qb, qc, qd, w4096_4096, w6144_4096, w6144_6144, w12288_4096, w12288_6144, w12288_12288, w16384_4096, w16384_6144, w16384_12288, w16384_16384, Option.isSome_some, and_self]
theorem m0_24 {y : Int} (hy : Cls y false false false true false false) (n : Nat) : L12_0 128 y 0 (n + 20) false 0 0 0 = L13_0 128 y 0 (n + 20) 0 ∧ (L13_0 128 y 0 (n + 20) 0).isSome = true := by
  have x1 := c128.a; have x2 := c128.b; have x3 := c128.c; have x4 := c128.d; have x5 := c128.e; have x6 := c128.f
  have y1 := hy.a; have y2 := hy.b; have y3 := hy.c; have y4 := hy.d; have y5 := hy.e; have y6 := hy.f
  simp only [x1, x2, x3, x4, x5, x6, y1, y2, y3, y4, y5, y6, e01, e02, s0_0, s0_1, s0_2, s0_3, s0_4, s3, r0_0, r0_1, r0_2, r0_3, r0_4, r1_0, r1_1, r1_2, r1_3, r1_4, r2_0, r2_1, r2_2, r2_3, r2_4, an_f, an_t, cond_true, cond_false, Bool.not_true, Bool.not_false, Bool.not_not, z0, z64, z96, z128, qa, qb, qc, qd, w4096_4096, w6144_4096, w6144_6144, w12288_4096, w12288_6144, w12288_12288, w16384_4096, w16384_6144, w16384_12288, w16384_16384, Option.isSome_some, and_self]
theorem m0_25 {y : Int} (hy : Cls y false false false true true false) (n : Nat) : L12_0 128 y 0 (n + 20) false 0 0 0 = L13_0 128 y 0 (n + 20) 0 ∧ (L13_0 128 y 0 (n + 20) 0).isSome = true := by
  have x1 := c128.a; have x2 := c128.b; have x3 := c128.c; have x4 := c128.d; have x5 := c128.e; have x6 := c128.f
  have y1 := hy.a; have y2 := hy.b; have y3 := hy.c; have y4 := hy.d; have y5 := hy.e; have y6 := hy.f
  simp only [x1, x2, x3, x4, x5, x6, y1, y2, y3, y4, y5, y6, e01, e02, s0_0, s0_1, s0_2, s0_3, s0_4, s3, r0_0, r0_1, r0_2, r0_3, r0_4, r1_0, r1_1, r1_2, r1_3, r1_4, r2_0, r2_1, r2_2, r2_3, r2_4, an_f, an_t, cond_true, cond_false, Bool.not_true, Bool.not_false, Bool.not_not, z0, z64, z96, z128, qa, qb, qc, qd, w4096_4096, w6144_4096, w6144_6144, w12288_4096, w12288_6144, w12288_12288, w16384_4096, w16384_6144, w16384_12288, w16384_16384, Option.isSome_some, and_self]
theorem m0_30 {x : Int} (hx : Cls x false false false false false false) (n : Nat) : L12_0 x 64 0 (n + 20) false 0 0 0 = L13_0 x 64 0 (n + 20) 0 ∧ (L13_0 x 64 0 (n + 20) 0).isSome = true := by
  have x1 := hx.a; have x2 := hx.b; have x3 := hx.c; have x4 := hx.d; have x5 := hx.e; have x6 := hx.f
  have y1 := c64.a; have y2 := c64.b; have y3 := c64.c; have y4 := c64.d; have y5 := c64.e; have y6 := c64.f
  simp only [x1, x2, x3, x4, x5, x6, y1, y2, y3, y4, y5, y6, e01, e02, s0_0, s0_1, s0_2, s0_3, s0_4, s3, r0_0, r0_1, r0_2, r0_3, r0_4, r1_0, r1_1, r1_2, r1_3, r1_4, r2_0, r2_1, r2_2, r2_3, r2_4, an_f, an_t, cond_true, cond_false, Bool.not_true, Bool.not_false, Bool.not_not, z0, z64, z96, z128, qa, qb, qc, qd, w4096_4096, w6144_4096, w6144_6144, w12288_4096, w12288_6144, w12288_12288, w16384_4096, w16384_6144, w16384_12288, w16384_16384, Option.isSome_some, and_self]
theorem m0_31 {x : Int} (hx : Cls x false false false false false false) (n : Nat) : L12_0 x 96 0 (n + 20) false 0 0 0 = L13_0 x 96 0 (n + 20) 0 ∧ (L13_0 x 96 0 (n + 20) 0).isSome = true := by
  have x1 := hx.a; have x2 := hx.b; have x3 := hx.c; have x4 := hx.d; have x5 := hx.e; have x6 := hx.f
  have y1 := c96.a; have y2 := c96.b; have y3 := c96.c; have y4 := c96.d; have y5 := c96.e; have y6 := c96.f
  simp only [x1, x2, x3, x4, x5, x6, y1, y2, y3, y4, y5, y6, e01, e02, s0_0, s0_1, s0_2, s0_3, s0_4, s3, r0_0, r0_1, r0_2, r0_3, r0_4, r1_0, r1_1, r1_2, r1_3, r1_4, r2_0, r2_1, r2_2, r2_3, r2_4, an_f, an_t, cond_true, cond_false, Bool.not_true, Bool.not_false, Bool.not_not, z0, z64, z96, z128, qa, qb, qc, qd, w4096_4096, w6144_4096, w6144_6144, w12288_4096, w12288_6144, w12288_12288, w16384_4096, w16384_6144, w16384_12288, w16384_16384, Option.isSome_some, and_self]
theorem m0_32 {x : Int} (hx : Cls x false false false false false false) (n : Nat) : L12_0 x 128 0 (n + 20) false 0 0 0 = L13_0 x 128 0 (n + 20) 0 ∧ (L13_0 x 128 0 (n + 20) 0).isSome = true := by
  have x1 := hx.a; have x2 := hx.b; have x3 := hx.c; have x4 := hx.d; have x5 := hx.e; have x6 := hx.f
  have y1 := c128.a; have y2 := c128.b; have y3 := c128.c; have y4 := c128.d; have y5 := c128.e; have y6 := c128.f
  simp only [x1, x2, x3, x4, x5, x6, y1, y2, y3, y4, y5, y6, e01, e02, s0_0, s0_1, s0_2, s0_3, s0_4, s3, r0_0, r0_1, r0_2, r0_3, r0_4, r1_0, r1_1, r1_2, r1_3, r1_4, r2_0, r2_1, r2_2, r2_3, r2_4, an_f, an_t, cond_true, cond_false, Bool.not_true, Bool.not_false, Bool.not_not, z0, z64, z96, z128, qa, qb, qc, qd, w4096_4096, w6144_4096, w6144_6144, w12288_4096, w12288_6144, w12288_12288, w16384_4096, w16384_6144, w16384_12288, w16384_16384, Option.isSome_some, and_self]
theorem m0_33 {x : Int} {y : Int} (hx : Cls x false false false false false false) (hy : Cls y false false false false false false) (n : Nat) : L12_0 x y 0 (n + 20) false 0 0 0 = L13_0 x y 0 (n + 20) 0 ∧ (L13_0 x y 0 (n + 20) 0).isSome = true := by
  have x1 := hx.a; have x2 := hx.b; have x3 := hx.c; have x4 := hx.d; have x5 := hx.e; have x6 := hx.f
  have y1 := hy.a; have y2 := hy.b; have y3 := hy.c; have y4 := hy.d; have y5 := hy.e; have y6 := hy.f
  simp only [x1, x2, x3, x4, x5, x6, y1, y2, y3, y4, y5, y6, e01, e02, s0_0, s0_1, s0_2, s0_3, s0_4, s3, r0_0, r0_1, r0_2, r0_3, r0_4, r1_0, r1_1, r1_2, r1_3, r1_4, r2_0, r2_1, r2_2, r2_3, r2_4, an_f, an_t, cond_true, cond_false, Bool.not_true, Bool.not_false, Bool.not_not, z0, z64, z96, z128, qa, qb, qc, qd, w4096_4096, w6144_4096, w6144_6144, w12288_4096, w12288_6144, w12288_12288, w16384_4096, w16384_6144, w16384_12288, w16384_16384, Option.isSome_some, and_self]
theorem m0_34 {x : Int} {y : Int} (hx : Cls x false false false false false false) (hy : Cls y false false false true false false) (n : Nat) : L12_0 x y 0 (n + 20) false 0 0 0 = L13_0 x y 0 (n + 20) 0 ∧ (L13_0 x y 0 (n + 20) 0).isSome = true := by
  have x1 := hx.a; have x2 := hx.b; have x3 := hx.c; have x4 := hx.d; have x5 := hx.e; have x6 := hx.f
  have y1 := hy.a; have y2 := hy.b; have y3 := hy.c; have y4 := hy.d; have y5 := hy.e; have y6 := hy.f
  simp only [x1, x2, x3, x4, x5, x6, y1, y2, y3, y4, y5, y6, e01, e02, s0_0, s0_1, s0_2, s0_3, s0_4, s3, r0_0, r0_1, r0_2, r0_3, r0_4, r1_0, r1_1, r1_2, r1_3, r1_4, r2_0, r2_1, r2_2, r2_3, r2_4, an_f, an_t, cond_true, cond_false, Bool.not_true, Bool.not_false, Bool.not_not, z0, z64, z96, z128, qa, qb, qc, qd, w4096_4096, w6144_4096, w6144_6144, w12288_4096, w12288_6144, w12288_12288, w16384_4096, w16384_6144, w16384_12288, w16384_16384, Option.isSome_some, and_self]
theorem m0_35 {x : Int} {y : Int} (hx : Cls x false false false false false false) (hy : Cls y false false false true true false) (n : Nat) : L12_0 x y 0 (n + 20) false 0 0 0 = L13_0 x y 0 (n + 20) 0 ∧ (L13_0 x y 0 (n + 20) 0).isSome = true := by
  have x1 := hx.a; have x2 := hx.b; have x3 := hx.c; have x4 := hx.d; have x5 := hx.e; have x6 := hx.f
  have y1 := hy.a; have y2 := hy.b; have y3 := hy.c; have y4 := hy.d; have y5 := hy.e; have y6 := hy.f
  simp only [x1, x2, x3, x4, x5, x6, y1, y2, y3, y4, y5, y6, e01, e02, s0_0, s0_1, s0_2, s0_3, s0_4, s3, r0_0, r0_1, r0_2, r0_3, r0_4, r1_0, r1_1, r1_2, r1_3, r1_4, r2_0, r2_1, r2_2, r2_3, r2_4, an_f, an_t, cond_true, cond_false, Bool.not_true, Bool.not_false, Bool.not_not, z0, z64, z96, z128, qa, qb, qc, qd, w4096_4096, w6144_4096, w6144_6144, w12288_4096, w12288_6144, w12288_12288, w16384_4096, w16384_6144, w16384_12288, w16384_16384, Option.isSome_some, and_self]
theorem m0_40 {x : Int} (hx : Cls x false false false true false false) (n : Nat) : L12_0 x 64 0 (n + 20) false 0 0 0 = L13_0 x 64 0 (n + 20) 0 ∧ (L13_0 x 64 0 (n + 20) 0).isSome = true := by
  have x1 := hx.a; have x2 := hx.b; have x3 := hx.c; have x4 := hx.d; have x5 := hx.e; have x6 := hx.f
  have y1 := c64.a; have y2 := c64.b; have y3 := c64.c; have y4 := c64.d; have y5 := c64.e; have y6 := c64.f
  simp only [x1, x2, x3, x4, x5, x6, y1, y2, y3, y4, y5, y6, e01, e02, s0_0, s0_1, s0_2, s0_3, s0_4, s3, r0_0, r0_1, r0_2, r0_3, r0_4, r1_0, r1_1, r1_2, r1_3, r1_4, r2_0, r2_1, r2_2, r2_3, r2_4, an_f, an_t, cond_true, cond_false, Bool.not_true, Bool.not_false, Bool.not_not, z0, z64, z96, z128, qa, qb, qc, qd, w4096_4096, w6144_4096, w6144_6144, w12288_4096, w12288_6144, w12288_12288, w16384_4096, w16384_6144, w16384_12288, w16384_16384, Option.isSome_some, and_self]
theorem m0_41 {x : Int} (hx : Cls x false false false true false false) (n : Nat) : L12_0 x 96 0 (n + 20) false 0 0 0 = L13_0 x 96 0 (n + 20) 0 ∧ (L13_0 x 96 0 (n + 20) 0).isSome = true := by
  have x1 := hx.a; have x2 := hx.b; have x3 := hx.c; have x4 := hx.d; have x5 := hx.e; have x6 := hx.f
  have y1 := c96.a; have y2 := c96.b; have y3 := c96.c; have y4 := c96.d; have y5 := c96.e; have y6 := c96.f
  simp only [x1, x2, x3, x4, x5, x6, y1, y2, y3, y4, y5, y6, e01, e02, s0_0, s0_1, s0_2, s0_3, s0_4, s3, r0_0, r0_1, r0_2, r0_3, r0_4, r1_0, r1_1, r1_2, r1_3, r1_4, r2_0, r2_1, r2_2, r2_3, r2_4, an_f, an_t, cond_true, cond_false, Bool.not_true, Bool.not_false, Bool.not_not, z0, z64, z96, z128, qa, qb, qc, qd, w4096_4096, w6144_4096, w6144_6144, w12288_4096, w12288_6144, w12288_12288, w16384_4096, w16384_6144, w16384_12288, w16384_16384, Option.isSome_some, and_self]
theorem m0_42 {x : Int} (hx : Cls x false false false true false false) (n : Nat) : L12_0 x 128 0 (n + 20) false 0 0 0 = L13_0 x 128 0 (n + 20) 0 ∧ (L13_0 x 128 0 (n + 20) 0).isSome = true := by
  have x1 := hx.a; have x2 := hx.b; have x3 := hx.c; have x4 := hx.d; have x5 := hx.e; have x6 := hx.f
  have y1 := c128.a; have y2 := c128.b; have y3 := c128.c; have y4 := c128.d; have y5 := c128.e; have y6 := c128.f
  simp only [x1, x2, x3, x4, x5, x6, y1, y2, y3, y4, y5, y6, e01, e02, s0_0, s0_1, s0_2, s0_3, s0_4, s3, r0_0, r0_1, r0_2, r0_3, r0_4, r1_0, r1_1, r1_2, r1_3, r1_4, r2_0, r2_1, r2_2, r2_3, r2_4, an_f, an_t, cond_true, cond_false, Bool.not_true, Bool.not_false, Bool.not_not, z0, z64, z96, z128, qa, qb, qc, qd, w4096_4096, w6144_4096, w6144_6144, w12288_4096, w12288_6144, w12288_12288, w16384_4096, w16384_6144, w16384_12288, w16384_16384, Option.isSome_some, and_self]
theorem m0_43 {x : Int} {y : Int} (hx : Cls x false false false true false false) (hy : Cls y false false false false false false) (n : Nat) : L12_0 x y 0 (n + 20) false 0 0 0 = L13_0 x y 0 (n + 20) 0 ∧ (L13_0 x y 0 (n + 20) 0).isSome = true := by
  have x1 := hx.a; have x2 := hx.b; have x3 := hx.c; have x4 := hx.d; have x5 := hx.e; have x6 := hx.f
  have y1 := hy.a; have y2 := hy.b; have y3 := hy.c; have y4 := hy.d; have y5 := hy.e; have y6 := hy.f
  simp only [x1, x2, x3, x4, x5, x6, y1, y2, y3, y4, y5, y6, e01, e02, s0_0, s0_1, s0_2, s0_3, s0_4, s3, r0_0, r0_1, r0_2, r0_3, r0_4, r1_0, r1_1, r1_2, r1_3, r1_4, r2_0, r2_1, r2_2, r2_3, r2_4, an_f, an_t, cond_true, cond_false, Bool.not_true, Bool.not_false, Bool.not_not, z0, z64, z96, z128, qa, qb, qc, qd, w4096_4096, w6144_4096, w6144_6144, w12288_4096, w12288_6144, w12288_12288, w16384_4096, w16384_6144, w16384_12288, w16384_16384, Option.isSome_some, and_self]
theorem m0_44 {x : Int} {y : Int} (hx : Cls x false false false true false false) (hy : Cls y false false false true false false) (n : Nat) : L12_0 x y 0 (n + 20) false 0 0 0 = L13_0 x y 0 (n + 20) 0 ∧ (L13_0 x y 0 (n + 20) 0).isSome = true := by
  have x1 := hx.a; have x2 := hx.b; have x3 := hx.c; have x4 := hx.d; have x5 := hx.e; have x6 := hx.f
  have y1 := hy.a; have y2 := hy.b; have y3 := hy.c; have y4 := hy.d; have y5 := hy.e; have y6 := hy.f
  simp only [x1, x2, x3, x4, x5, x6, y1, y2, y3, y4, y5, y6, e01, e02, s0_0, s0_1, s0_2, s0_3, s0_4, s3, r0_0, r0_1, r0_2, r0_3, r0_4, r1_0, r1_1, r1_2, r1_3, r1_4, r2_0, r2_1, r2_2, r2_3, r2_4, an_f, an_t, cond_true, cond_false, Bool.not_true, Bool.not_false, Bool.not_not, z0, z64, z96, z128, qa, qb, qc, qd, w4096_4096, w6144_4096, w6144_6144, w12288_4096, w12288_6144, w12288_12288, w16384_4096, w16384_6144, w16384_12288, w16384_16384, Option.isSome_some, and_self]
theorem m0_45 {x : Int} {y : Int} (hx : Cls x false false false true false false) (hy : Cls y false false false true true false) (n : Nat) : L12_0 x y 0 (n + 20) false 0 0 0 = L13_0 x y 0 (n + 20) 0 ∧ (L13_0 x y 0 (n + 20) 0).isSome = true := by
  have x1 := hx.a; have x2 := hx.b; have x3 := hx.c; have x4 := hx.d; have x5 := hx.e; have x6 := hx.f
  have y1 := hy.a; have y2 := hy.b; have y3 := hy.c; have y4 := hy.d; have y5 := hy.e; have y6 := hy.f
  simp only [x1, x2, x3, x4, x5, x6, y1, y2, y3, y4, y5, y6, e01, e02, s0_0, s0_1, s0_2, s0_3, s0_4, s3, r0_0, r0_1, r0_2, r0_3, r0_4, r1_0, r1_1, r1_2, r1_3, r1_4, r2_0, r2_1, r2_2, r2_3, r2_4, an_f, an_t, cond_true, cond_false, Bool.not_true, Bool.not_false, Bool.not_not, z0, z64, z96, z128, qa, qb, qc, qd, w4096_4096, w6144_4096, w6144_6144, w12288_4096, w12288_6144, w12288_12288, w16384_4096, w16384_6144, w16384_12288, w16384_16384, Option.isSome_some, and_self]
theorem m0_50 {x : Int} (hx : Cls x false false false true true false) (n : Nat) : L12_0 x 64 0 (n + 20) false 0 0 0 = L13_0 x 64 0 (n + 20) 0 ∧ (L13_0 x 64 0 (n + 20) 0).isSome = true := by
  have x1 := hx.a; have x2 := hx.b; have x3 := hx.c; have x4 := hx.d; have x5 := hx.e; have x6 := hx.f
  have y1 := c64.a; have y2 := c64.b; have y3 := c64.c; have y4 := c64.d; have y5 := c64.e; have y6 := c64.f
  simp only [x1, x2, x3, x4, x5, x6, y1, y2, y3, y4, y5, y6, e01, e02, s0_0, s0_1, s0_2, s0_3, s0_4, s3, r0_0, r0_1, r0_2, r0_3, r0_4, r1_0, r1_1, r1_2, r1_3, r1_4, r2_0, r2_1, r2_2, r2_3, r2_4, an_f, an_t, cond_true, cond_false, Bool.not_true, Bool.not_false, Bool.not_not, z0, z64, z96, z128, qa, qb, qc, qd, w4096_4096, w6144_4096, w6144_6144, w12288_4096, w12288_6144, w12288_12288, w16384_4096, w16384_6144, w16384_12288, w16384_16384, Option.isSome_some, and_self]
theorem m0_51 {x : Int} (hx : Cls x false false false true true false) (n : Nat) : L12_0 x 96 0 (n + 20) false 0 0 0 = L13_0 x 96 0 (n + 20) 0 ∧ (L13_0 x 96 0 (n + 20) 0).isSome = true := by
  have x1 := hx.a; have x2 := hx.b; have x3 := hx.c; have x4 := hx.d; have x5 := hx.e; have x6 := hx.f
  have y1 := c96.a; have y2 := c96.b; have y3 := c96.c; have y4 := c96.d; have y5 := c96.e; have y6 := c96.f
  simp only [x1, x2, x3, x4, x5, x6, y1, y2, y3, y4, y5, y6, e01, e02, s0_0, s0_1, s0_2, s0_3, s0_4, s3, r0_0, r0_1, r0_2, r0_3, r0_4, r1_0, r1_1, r1_2, r1_3, r1_4, r2_0, r2_1, r2_2, r2_3, r2_4, an_f, an_t, cond_true, cond_false, Bool.not_true, Bool.not_false, Bool.not_not, z0, z64, z96, z128, qa, qb, qc, qd, w4096_4096, w6144_4096, w6144_6144, w12288_4096, w12288_6144, w12288_12288, w16384_4096, w16384_6144, w16384_12288, w16384_16384, Option.isSome_some, and_self]
theorem m0_52 {x : Int} (hx : Cls x false false false true true false) (n : Nat) : L12_0 x 128 0 (n + 20) false 0 0 0 = L13_0 x 128 0 (n + 20) 0 ∧ (L13_0 x 128 0 (n + 20) 0).isSome = true := by
  have x1 := hx.a; have x2 := hx.b; have x3 := hx.c; have x4 := hx.d; have x5 := hx.e; have x6 := hx.f
  have y1 := c128.a; have y2 := c128.b; have y3 := c128.c; have y4 := c128.d; have y5 := c128.e; have y6 := c128.f
  simp only [x1, x2, x3, x4, x5, x6, y1, y2, y3, y4, y5, y6, e01, e02, s0_0, s0_1, s0_2, s0_3, s0_4, s3, r0_0, r0_1, r0_2, r0_3, r0_4, r1_0, r1_1, r1_2, r1_3, r1_4, r2_0, r2_1, r2_2, r2_3, r2_4, an_f, an_t, cond_true, cond_false, Bool.not_true, Bool.not_false, Bool.not_not, z0, z64, z96, z128, qa, qb, qc, qd, w4096_4096, w6144_4096, w6144_6144, w12288_4096, w12288_6144, w12288_12288, w16384_4096, w16384_6144, w16384_12288, w16384_16384, Option.isSome_some, and_self]
theorem m0_53 {x : Int} {y : Int} (hx : Cls x false false false true true false) (hy : Cls y false false false false false false) (n : Nat) : L12_0 x y 0 (n + 20) false 0 0 0 = L13_0 x y 0 (n + 20) 0 ∧ (L13_0 x y 0 (n + 20) 0).isSome = true := by
  have x1 := hx.a; have x2 := hx.b; have x3 := hx.c; have x4 := hx.d; have x5 := hx.e; have x6 := hx.f
  have y1 := hy.a; have y2 := hy.b; have y3 := hy.c; have y4 := hy.d; have y5 := hy.e; have y6 := hy.f
  simp only [x1, x2, x3, x4, x5, x6, y1, y2, y3, y4, y5, y6, e01, e02, s0_0, s0_1, s0_2, s0_3, s0_4, s3, r0_0, r0_1, r0_2, r0_3, r0_4, r1_0, r1_1, r1_2, r1_3, r1_4, r2_0, r2_1, r2_2, r2_3, r2_4, an_f, an_t, cond_true, cond_false, Bool.not_true, Bool.not_false, Bool.not_not, z0, z64, z96, z128, qa, qb, qc, qd, w4096_4096, w6144_4096, w6144_6144, w12288_4096, w12288_6144, w12288_12288, w16384_4096, w16384_6144, w16384_12288, w16384_16384, Option.isSome_some, and_self]
theorem m0_54 {x : Int} {y : Int} (hx : Cls x false false false true true false) (hy : Cls y false false false true false false) (n : Nat) : L12_0 x y 0 (n + 20) false 0 0 0 = L13_0 x y 0 (n + 20) 0 ∧ (L13_0 x y 0 (n + 20) 0).isSome = true := by
  have x1 := hx.a; have x2 := hx.b; have x3 := hx.c; have x4 := hx.d; have x5 := hx.e; have x6 := hx.f
  have y1 := hy.a; have y2 := hy.b; have y3 := hy.c; have y4 := hy.d; have y5 := hy.e; have y6 := hy.f
  simp only [x1, x2, x3, x4, x5, x6, y1, y2, y3, y4, y5, y6, e01, e02, s0_0, s0_1, s0_2, s0_3, s0_4, s3, r0_0, r0_1, r0_2, r0_3, r0_4, r1_0, r1_1, r1_2, r1_3, r1_4, r2_0, r2_1, r2_2, r2_3, r2_4, an_f, an_t, cond_true, cond_false, Bool.not_true, Bool.not_false, Bool.not_not, z0, z64, z96, z128, qa, qb, qc, qd, w4096_4096, w6144_4096, w6144_6144, w12288_4096, w12288_6144, w12288_12288, w16384_4096, w16384_6144, w16384_12288, w16384_16384, Option.isSome_some, and_self]
theorem m0_55 {x : Int} {y : Int} (hx : Cls x false false false true true false) (hy : Cls y false false false true true false) (n : Nat) : L12_0 x y 0 (n + 20) false 0 0 0 = L13_0 x y 0 (n + 20) 0 ∧ (L13_0 x y 0 (n + 20) 0).isSome = true := by
  have x1 := hx.a; have x2 := hx.b; have x3 := hx.c; have x4 := hx.d; have x5 := hx.e; have x6 := hx.f
  have y1 := hy.a; have y2 := hy.b; have y3 := hy.c; have y4 := hy.d; have y5 := hy.e; have y6 := hy.f
  simp only [x1, x2, x3, x4, x5, x6, y1, y2, y3, y4, y5, y6, e01, e02, s0_0, s0_1, s0_2, s0_3, s0_4, s3, r0_0, r0_1, r0_2, r0_3, r0_4, r1_0, r1_1, r1_2, r1_3, r1_4, r2_0, r2_1, r2_2, r2_3, r2_4, an_f, an_t, cond_true, cond_false, Bool.not_true, Bool.not_false, Bool.not_not, z0, z64, z96, z128, qa, qb, qc, qd, w4096_4096, w6144_4096, w6144_6144, w12288_4096, w12288_6144, w12288_12288, w16384_4096, w16384_6144, w16384_12288, w16384_16384, Option.isSome_some, and_self]
theorem m1_00 (n : Nat) : L12_1 64 64 1 (n + 20) false 0 0 0 = L13_0 64 64 1 (n + 20) 0 ∧ (L13_0 64 64 1 (n + 20) 0).isSome = true := by
  have x1 := c64.a; have x2 := c64.b; have x3 := c64.c; have x4 := c64.d; have x5 := c64.e; have x6 := c64.f
  have y1 := c64.a; have y2 := c64.b; have y3 := c64.c; have y4 := c64.d; have y5 := c64.e; have y6 := c64.f
  simp only [x1, x2, x3, x4, x5, x6, y1, y2, y3, y4, y5, y6, e11, e12, s1_0, s1_1, s1_2, s1_3, s1_4, s4_0, s4_1, s4_2, s4_3, s4_4, r0_0, r0_1, r0_2, r0_3, r0_4, r1_0, r1_1, r1_2, r1_3, r1_4, r2_0, r2_1, r2_2, r2_3, r2_4, an_f, an_t, cond_true, cond_false, Bool.not_true, Bool.not_false, Bool.not_not, z0, z64, z96, z128, qa, qb, qc, qd, w4096_4096, w6144_4096, w6144_6144, w12288_4096, w12288_6144, w12288_12288, w16384_4096, w16384_6144, w16384_12288, w16384_16384, Option.isSome_some, and_self]
theorem m1_01 (n : Nat) : L12_1 64 96 1 (n + 20) false 0 0 0 = L13_0 64 96 1 (n + 20) 0 ∧ (L13_0 64 96 1 (n + 20) 0).isSome = true := by
  have x1 := c64.a; have x2 := c64.b; have x3 := c64.c; have x4 := c64.d; have x5 := c64.e; have x6 := c64.f
  have y1 := c96.a; have y2 := c96.b; have y3 := c96.c; have y4 := c96.d; have y5 := c96.e; have y6 := c96.f
  simp only [x1, x2, x3, x4, x5, x6, y1, y2, y3, y4, y5, y6, e11, e12, s1_0, s1_1, s1_2, s1_3, s1_4, s4_0, s4_1, s4_2, s4_3, s4_4, r0_0, r0_1, r0_2, r0_3, r0_4, r1_0, r1_1, r1_2, r1_3, r1_4, r2_0, r2_1, r2_2, r2_3, r2_4, an_f, an_t, cond_true, cond_false, Bool.not_true, Bool.not_false, Bool.not_not, z0, z64, z96, z128, qa, qb, qc, qd, w4096_4096, w6144_4096, w6144_6144, w12288_4096, w12288_6144, w12288_12288, w16384_4096, w16384_6144, w16384_12288, w16384_16384, Option.isSome_some, and_self]
theorem m1_02 (n : Nat) : L12_1 64 128 1 (n + 20) false 0 0 0 = L13_0 64 128 1 (n + 20) 0 ∧ (L13_0 64 128 1 (n + 20) 0).isSome = true := by
  have x1 := c64.a; have x2 := c64.b; have x3 := c64.c; have x4 := c64.d; have x5 := c64.e; have x6 := c64.f
  have y1 := c128.a; have y2 := c128.b; have y3 := c128.c; have y4 := c128.d; have y5 := c128.e; have y6 := c128.f
  simp only [x1, x2, x3, x4, x5, x6, y1, y2, y3, y4, y5, y6, e11, e12, s1_0, s1_1, s1_2, s1_3, s1_4, s4_0, s4_1, s4_2, s4_3, s4_4, r0_0, r0_1, r0_2, r0_3, r0_4, r1_0, r1_1, r1_2, r1_3, r1_4, r2_0, r2_1, r2_2, r2_3, r2_4, an_f, an_t, cond_true, cond_false, Bool.not_true, Bool.not_false, Bool.not_not, z0, z64, z96, z128, qa, qb, qc, qd, w4096_4096, w6144_4096, w6144_6144, w12288_4096, w12288_6144, w12288_12288, w16384_4096, w16384_6144, w16384_12288, w16384_16384, Option.isSome_some, and_self]
theorem m1_03 {y : Int} (hy : Cls y false false false false false false) (n : Nat) : L12_1 64 y 1 (n + 20) false 0 0 0 = L13_0 64 y 1 (n + 20) 0 ∧ (L13_0 64 y 1 (n + 20) 0).isSome = true := by
  have x1 := c64.a; have x2 := c64.b; have x3 := c64.c; have x4 := c64.d; have x5 := c64.e; have x6 := c64.f
  have y1 := hy.a; have y2 := hy.b; have y3 := hy.c; have y4 := hy.d; have y5 := hy.e; have y6 := hy.f
  simp only [x1, x2, x3, x4, x5, x6, y1, y2, y3, y4, y5, y6, e11, e12, s1_0, s1_1, s1_2, s1_3, s1_4, s4_0, s4_1, s4_2, s4_3, s4_4, r0_0, r0_1, r0_2, r0_3, r0_4, r1_0, r1_1, r1_2, r1_3, r1_4, r2_0, r2_1, r2_2, r2_3, r2_4, an_f, an_t, cond_true, cond_false, Bool.not_true, Bool.not_false, Bool.not_not, z0, z64, z96, z128, qa, qb, qc, qd, w4096_4096, w6144_4096, w6144_6144, w12288_4096, w12288_6144, w12288_12288, w16384_4096, w16384_6144, w16384_12288, w16384_16384, Option.isSome_some, and_self]
theorem m1_04 {y : Int} (hy : Cls y false false false true false false) (n : Nat) : L12_1 64 y 1 (n + 20) false 0 0 0 = L13_0 64 y 1 (n + 20) 0 ∧ (L13_0 64 y 1 (n + 20) 0).isSome = true := by
  have x1 := c64.a; have x2 := c64.b; have x3 := c64.c; have x4 := c64.d; have x5 := c64.e; have x6 := c64.f
  have y1 := hy.a; have y2 := hy.b; have y3 := hy.c; have y4 := hy.d; have y5 := hy.e; have y6 := hy.f
  simp only [x1, x2, x3, x4, x5, x6, y1, y2, y3, y4, y5, y6, e11, e12, s1_0, s1_1, s1_2, s1_3, s1_4, s4_0, s4_1, s4_2, s4_3, s4_4, r0_0, r0_1, r0_2, r0_3, r0_4, r1_0, r1_1, r1_2, r1_3, r1_4, r2_0, r2_1, r2_2, r2_3, r2_4, an_f, an_t, cond_true, cond_false, Bool.not_true, Bool.not_false, Bool.not_not, z0, z64, z96, z128, qa, qb, qc, qd, w4096_4096, w6144_4096, w6144_6144, w12288_4096, w12288_6144, w12288_12288, w16384_4096, w16384_6144, w16384_12288, w16384_16384, Option.isSome_some, and_self]
theorem m1_05 {y : Int} (hy : Cls y false false false true true false) (n : Nat) : L12_1 64 y 1 (n + 20) false 0 0 0 = L13_0 64 y 1 (n + 20) 0 ∧ (L13_0 64 y 1 (n + 20) 0).isSome = true := by
  have x1 := c64.a; have x2 := c64.b; have x3 := c64.c; have x4 := c64.d; have x5 := c64.e; have x6 := c64.f
  have y1 := hy.a; have y2 := hy.b; have y3 := hy.c; have y4 := hy.d; have y5 := hy.e; have y6 := hy.f
  simp only [x1, x2, x3, x4, x5, x6, y1, y2, y3, y4, y5, y6, e11, e12, s1_0, s1_1, s1_2, s1_3, s1_4, s4_0, s4_1, s4_2, s4_3, s4_4, r0_0, r0_1, r0_2, r0_3, r0_4, r1_0, r1_1, r1_2, r1_3, r1_4, r2_0, r2_1, r2_2, r2_3, r2_4, an_f, an_t, cond_true, cond_false, Bool.not_true, Bool.not_false, Bool.not_not, z0, z64, z96, z128, qa, qb, qc, qd, w4096_4096, w6144_4096, w6144_6144, w12288_4096, w12288_6144, w12288_12288, w16384_4096, w16384_6144, w16384_12288, w16384_16384, Option.isSome_some, and_self]
theorem m1_10 (n : Nat) : L12_1 96 64 1 (n + 20) false 0 0 0 = L13_0 96 64 1 (n + 20) 0 ∧ (L13_0 96 64 1 (n + 20) 0).isSome = true := by
  have x1 := c96.a; have x2 := c96.b; have x3 := c96.c; have x4 := c96.d; have x5 := c96.e; have x6 := c96.f
  have y1 := c64.a; have y2 := c64.b; have y3 := c64.c; have y4 := c64.d; have y5 := c64.e; have y6 := c64.f
  simp only [x1, x2, x3, x4, x5, x6, y1, y2, y3, y4, y5, y6, e11, e12, s1_0, s1_1, s1_2, s1_3, s1_4, s4_0, s4_1, s4_2, s4_3, s4_4, r0_0, r0_1, r0_2, r0_3, r0_4, r1_0, r1_1, r1_2, r1_3, r1_4, r2_0, r2_1, r2_2, r2_3, r2_4, an_f, an_t, cond_true, cond_false, Bool.not_true, Bool.not_false, Bool.not_not, z0, z64, z96, z128, qa, qb, qc, qd, w4096_4096, w6144_4096, w6144_6144, w12288_4096, w12288_6144, w12288_12288, w16384_4096, w16384_6144, w16384_12288, w16384_16384, Option.isSome_some, and_self]
theorem m1_11 (n : Nat) : L12_1 96 96 1 (n + 20) false 0 0 0 = L13_0 96 96 1 (n + 20) 0 ∧ (L13_0 96 96 1 (n + 20) 0).isSome = true := by
  have x1 := c96.a; have x2 := c96.b; have x3 := c96.c; have x4 := c96.d; have x5 := c96.e; have x6 := c96.f
  have y1 := c96.a; have y2 := c96.b; have y3 := c96.c; have y4 := c96.d; have y5 := c96.e; have y6 := c96.f
  simp only [x1, x2, x3, x4, x5, x6, y1, y2, y3, y4, y5, y6, e11, e12, s1_0, s1_1, s1_2, s1_3, s1_4, s4_0, s4_1, s4_2, s4_3, s4_4, r0_0, r0_1, r0_2, r0_3, r0_4, r1_0, r1_1, r1_2, r1_3, r1_4, r2_0, r2_1, r2_2, r2_3, r2_4, an_f, an_t, cond_true, cond_false, Bool.not_true, Bool.not_false, Bool.not_not, z0, z64, z96, z128, qa, qb, qc, qd, w4096_4096, w6144_4096, w6144_6144, w12288_4096, w12288_6144, w12288_12288, w16384_4096, w16384_6144, w16384_12288, w16384_16384, Option.isSome_some, and_self]
theorem m1_12 (n : Nat) : L12_1 96 128 1 (n + 20) false 0 0 0 = L13_0 96 128 1 (n + 20) 0 ∧ (L13_0 96 128 1 (n + 20) 0).isSome = true := by
  have x1 := c96.a; have x2 := c96.b; have x3 := c96.c; have x4 := c96.d; have x5 := c96.e; have x6 := c96.f
  have y1 := c128.a; have y2 := c128.b; have y3 := c128.c; have y4 := c128.d; have y5 := c128.e; have y6 := c128.f
  simp only [x1, x2, x3, x4, x5, x6, y1, y2, y3, y4, y5, y6, e11, e12, s1_0, s1_1, s1_2, s1_3, s1_4, s4_0, s4_1, s4_2, s4_3, s4_4, r0_0, r0_1, r0_2, r0_3, r0_4, r1_0, r1_1, r1_2, r1_3, r1_4, r2_0, r2_1, r2_2, r2_3, r2_4, an_f, an_t, cond_true, cond_false, Bool.not_true, Bool.not_false, Bool.not_not, z0, z64, z96, z128, qa, qb, qc, qd, w4096_4096, w6144_4096, w6144_6144, w12288_4096, w12288_6144, w12288_12288, w16384_4096, w16384_6144, w16384_12288, w16384_16384, Option.isSome_some, and_self]
theorem m1_13 {y : Int} (hy : Cls y false false false false false false) (n : Nat) : L12_1 96 y 1 (n + 20) false 0 0 0 = L13_0 96 y 1 (n + 20) 0 ∧ (L13_0 96 y 1 (n + 20) 0).isSome = true := by
  have x1 := c96.a; have x2 := c96.b; have x3 := c96.c; have x4 := c96.d; have x5 := c96.e; have x6 := c96.f
  have y1 := hy.a; have y2 := hy.b; have y3 := hy.c; have y4 := hy.d; have y5 := hy.e; have y6 := hy.f
  simp only [x1, x2, x3, x4, x5, x6, y1, y2, y3, y4, y5, y6, e11, e12, s1_0, s1_1, s1_2, s1_3, s1_4, s4_0, s4_1, s4_2, s4_3, s4_4, r0_0, r0_1, r0_2, r0_3, r0_4, r1_0, r1_1, r1_2, r1_3, r1_4, r2_0, r2_1, r2_2, r2_3, r2_4, an_f, an_t, cond_true, cond_false, Bool.not_true, Bool.not_false, Bool.not_not, z0, z64, z96, z128, qa, qb, qc, qd, w4096_4096, w6144_4096, w6144_6144, w12288_4096, w12288_6144, w12288_12288, w16384_4096, w16384_6144, w16384_12288, w16384_16384, Option.isSome_some, and_self]
theorem m1_14 {y : Int} (hy : Cls y false false false true false false) (n : Nat) : L12_1 96 y 1 (n + 20) false 0 0 0 = L13_0 96 y 1 (n + 20) 0 ∧ (L13_0 96 y 1 (n + 20) 0).isSome = true := by
  have x1 := c96.a; have x2 := c96.b; have x3 := c96.c; have x4 := c96.d; have x5 := c96.e; have x6 := c96.f
  have y1 := hy.a; have y2 := hy.b; have y3 := hy.c; have y4 := hy.d; have y5 := hy.e; have y6 := hy.f
  simp only [x1, x2, x3, x4, x5, x6, y1, y2, y3, y4, y5, y6, e11, e12, s1_0, s1_1, s1_2, s1_3, s1_4, s4_0, s4_1, s4_2, s4_3, s4_4, r0_0, r0_1, r0_2, r0_3, r0_4, r1_0, r1_1, r1_2, r1_3, r1_4, r2_0, r2_1, r2_2, r2_3, r2_4, an_f, an_t, cond_true, cond_false, Bool.not_true, Bool.not_false, Bool.not_not, z0, z64, z96, z128, qa, qb, qc, qd, w4096_4096, w6144_4096, w6144_6144, w12288_4096, w12288_6144, w12288_12288, w16384_4096, w16384_6144, w16384_12288, w16384_16384, Option.isSome_some, and_self]
theorem m1_15 {y : Int} (hy : Cls y false false false true true false) (n : Nat) : L12_1 96 y 1 (n + 20) false 0 0 0 = L13_0 96 y 1 (n + 20) 0 ∧ (L13_0 96 y 1 (n + 20) 0).isSome = true := by
  have x1 := c96.a; have x2 := c96.b; have x3 := c96.c; have x4 := c96.d; have x5 := c96.e; have x6 := c96.f
  have y1 := hy.a; have y2 := hy.b; have y3 := hy.c; have y4 := hy.d; have y5 := hy.e; have y6 := hy.f
  simp only [x1, x2, x3, x4, x5, x6, y1, y2, y3, y4, y5, y6, e11, e12, s1_0, s1_1, s1_2, s1_3, s1_4, s4_0, s4_1, s4_2, s4_3, s4_4, r0_0, r0_1, r0_2, r0_3, r0_4, r1_0, r1_1, r1_2, r1_3, r1_4, r2_0, r2_1, r2_2, r2_3, r2_4, an_f, an_t, cond_true, cond_false, Bool.not_true, Bool.not_false, Bool.not_not, z0, z64, z96, z128, qa, qb, qc, qd, w4096_4096, w6144_4096, w6144_6144, w12288_4096, w12288_6144, w12288_12288, w16384_4096, w16384_6144, w16384_12288, w16384_16384, Option.isSome_some, and_self]
theorem m1_20 (n : Nat) : L12_1 128 64 1 (n + 20) false 0 0 0 = L13_0 128 64 1 (n + 20) 0 ∧ (L13_0 128 64 1 (n + 20) 0).isSome = true := by
  have x1 := c128.a; have x2 := c128.b; have x3 := c128.c; have x4 := c128.d; have x5 := c128.e; have x6 := c128.f
  have y1 := c64.a; have y2 := c64.b; have y3 := c64.c; have y4 := c64.d; have y5 := c64.e; have y6 := c64.f
  simp only [x1, x2, x3, x4, x5, x6, y1, y2, y3, y4, y5, y6, e11, e12, s1_0, s1_1, s1_2, s1_3, s1_4, s4_0, s4_1, s4_2, s4_3, s4_4, r0_0, r0_1, r0_2, r0_3, r0_4, r1_0, r1_1, r1_2, r1_3, r1_4, r2_0, r2_1, r2_2, r2_3, r2_4, an_f, an_t, cond_true, cond_false, Bool.not_true, Bool.not_false, Bool.not_not, z0, z64, z96, z128, qa, qb, qc, qd, w4096_4096, w6144_4096, w6144_6144, w12288_4096, w12288_6144, w12288_12288, w16384_4096, w16384_6144, w16384_12288, w16384_16384, Option.isSome_some, and_self]
theorem m1_21 (n : Nat) : L12_1 128 96 1 (n + 20) false 0 0 0 = L13_0 128 96 1 (n + 20) 0 ∧ (L13_0 128 96 1 (n + 20) 0).isSome = true := by
  have x1 := c128.a; have x2 := c128.b; have x3 := c128.c; have x4 := c128.d; have x5 := c128.e; have x6 := c128.f
  have y1 := c96.a; have y2 := c96.b; have y3 := c96.c; have y4 := c96.d; have y5 := c96.e; have y6 := c96.f
  simp only [x1, x2, x3, x4, x5, x6, y1, y2, y3, y4, y5, y6, e11, e12, s1_0, s1_1, s1_2, s1_3, s1_4, s4_0, s4_1, s4_2, s4_3, s4_4, r0_0, r0_1, r0_2, r0_3, r0_4, r1_0, r1_1, r1_2, r1_3, r1_4, r2_0, r2_1, r2_2, r2_3, r2_4, an_f, an_t, cond_true, cond_false, Bool.not_true, Bool.not_false, Bool.not_not, z0, z64, z96, z128, qa, qb, qc, qd, w4096_4096, w6144_4096, w6144_6144, w12288_4096, w12288_6144, w12288_12288, w16384_4096, w16384_6144, w16384_12288, w16384_16384, Option.isSome_some, and_self]
theorem m1_22 (n : Nat) : L12_1 128 128 1 (n + 20) false 0 0 0 = L13_0 128 128 1 (n + 20) 0 ∧ (L13_0 128 128 1 (n + 20) 0).isSome = true := by
  have x1 := c128.a; have x2 := c128.b; have x3 := c128.c; have x4 := c128.d; have x5 := c128.e; have x6 := c128.f
  have y1 := c128.a; have y2 := c128.b; have y3 := c128.c; have y4 := c128.d; have y5 := c128.e; have y6 := c128.f
  simp only [x1, x2, x3, x4, x5, x6, y1, y2, y3, y4, y5, y6, e11, e12, s1_0, s1_1, s1_2, s1_3, s1_4, s4_0, s4_1, s4_2, s4_3, s4_4, r0_0, r0_1, r0_2, r0_3, r0_4, r1_0, r1_1, r1_2, r1_3, r1_4, r2_0, r2_1, r2_2, r2_3, r2_4, an_f, an_t, cond_true, cond_false, Bool.not_true, Bool.not_false, Bool.not_not, z0, z64, z96, z128, qa, qb, qc, qd, w4096_4096, w6144_4096, w6144_6144, w12288_4096, w12288_6144, w12288_12288, w16384_4096, w16384_6144, w16384_12288, w16384_16384, Option.isSome_some, and_self]
theorem m1_23 {y : Int} (hy : Cls y false false false false false false) (n : Nat) : L12_1 128 y 1 (n + 20) false 0 0 0 = L13_0 128 y 1 (n + 20) 0 ∧ (L13_0 128 y 1 (n + 20) 0).isSome = true := by
  have x1 := c128.a; have x2 := c128.b; have x3 := c128.c; have x4 := c128.d; have x5 := c128.e; have x6 := c128.f
  have y1 := hy.a; have y2 := hy.b; have y3 := hy.c; have y4 := hy.d; have y5 := hy.e; have y6 := hy.f
  simp only [x1, x2, x3, x4, x5, x6, y1, y2, y3, y4, y5, y6, e11, e12, s1_0, s1_1, s1_2, s1_3, s1_4, s4_0, s4_1, s4_2, s4_3, s4_4, r0_0, r0_1, r0_2, r0_3, r0_4, r1_0, r1_1, r1_2, r1_3, r1_4, r2_0, r2_1, r2_2, r2_3, r2_4, an_f, an_t, cond_true, cond_false, Bool.not_true, Bool.not_false, Bool.not_not, z0, z64, z96, z128, qa, qb, qc, qd, w4096_4096, w6144_4096, w6144_6144, w12288_4096, w12288_6144, w12288_12288, w16384_4096, w16384_6144, w16384_12288, w16384_16384, Option.isSome_some, and_self]
theorem m1_24 {y : Int} (hy : Cls y false false false true false false) (n : Nat) : L12_1 128 y 1 (n + 20) false 0 0 0 = L13_0 128 y 1 (n + 20) 0 ∧ (L13_0 128 y 1 (n + 20) 0).isSome = true := by
  have x1 := c128.a; have x2 := c128.b; have x3 := c128.c; have x4 := c128.d; have x5 := c128.e; have x6 := c128.f
  have y1 := hy.a; have y2 := hy.b; have y3 := hy.c; have y4 := hy.d; have y5 := hy.e; have y6 := hy.f
  simp only [x1, x2, x3, x4, x5, x6, y1, y2, y3, y4, y5, y6, e11, e12, s1_0, s1_1, s1_2, s1_3, s1_4, s4_0, s4_1, s4_2, s4_3, s4_4, r0_0, r0_1, r0_2, r0_3, r0_4, r1_0, r1_1, r1_2, r1_3, r1_4, r2_0, r2_1, r2_2, r2_3, r2_4, an_f, an_t, cond_true, cond_false, Bool.not_true, Bool.not_false, Bool.not_not, z0, z64, z96, z128, qa, qb, qc, qd, w4096_4096, w6144_4096, w6144_6144, w12288_4096, w12288_6144, w12288_12288, w16384_4096, w16384_6144, w16384_12288, w16384_16384, Option.isSome_some, and_self]
theorem m1_25 {y : Int} (hy : Cls y false false false true true false) (n : Nat) : L12_1 128 y 1 (n + 20) false 0 0 0 = L13_0 128 y 1 (n + 20) 0 ∧ (L13_0 128 y 1 (n + 20) 0).isSome = true := by
  have x1 := c128.a; have x2 := c128.b; have x3 := c128.c; have x4 := c128.d; have x5 := c128.e; have x6 := c128.f
  have y1 := hy.a; have y2 := hy.b; have y3 := hy.c; have y4 := hy.d; have y5 := hy.e; have y6 := hy.f
  simp only [x1, x2, x3, x4, x5, x6, y1, y2, y3, y4, y5, y6, e11, e12, s1_0, s1_1, s1_2, s1_3, s1_4, s4_0, s4_1, s4_2, s4_3, s4_4, r0_0, r0_1, r0_2, r0_3, r0_4, r1_0, r1_1, r1_2, r1_3, r1_4, r2_0, r2_1, r2_2, r2_3, r2_4, an_f, an_t, cond_true, cond_false, Bool.not_true, Bool.not_false, Bool.not_not, z0, z64, z96, z128, qa, qb, qc, qd, w4096_4096, w6144_4096, w6144_6144, w12288_4096, w12288_6144, w12288_12288, w16384_4096, w16384_6144, w16384_12288, w16384_16384, Option.isSome_some, and_self]
theorem m1_30 {x : Int} (hx : Cls x false false false false false false) (n : Nat) : L12_1 x 64 1 (n + 20) false 0 0 0 = L13_0 x 64 1 (n + 20) 0 ∧ (L13_0 x 64 1 (n + 20) 0).isSome = true := by
  have x1 := hx.a; have x2 := hx.b; have x3 := hx.c; have x4 := hx.d; have x5 := hx.e; have x6 := hx.f
  have y1 := c64.a; have y2 := c64.b; have y3 := c64.c; have y4 := c64.d; have y5 := c64.e; have y6 := c64.f
  simp only [x1, x2, x3, x4, x5, x6, y1, y2, y3, y4, y5, y6, e11, e12, s1_0, s1_1, s1_2, s1_3, s1_4, s4_0, s4_1, s4_2, s4_3, s4_4, r0_0, r0_1, r0_2, r0_3, r0_4, r1_0, r1_1, r1_2, r1_3, r1_4, r2_0, r2_1, r2_2, r2_3, r2_4, an_f, an_t, cond_true, cond_false, Bool.not_true, Bool.not_false, Bool.not_not, z0, z64, z96, z128, qa, qb, qc, qd, w4096_4096, w6144_4096, w6144_6144, w12288_4096, w12288_6144, w12288_12288, w16384_4096, w16384_6144, w16384_12288, w16384_16384, Option.isSome_some, and_self]
theorem m1_31 {x : Int} (hx : Cls x false false false false false false) (n : Nat) : L12_1 x 96 1 (n + 20) false 0 0 0 = L13_0 x 96 1 (n + 20) 0 ∧ (L13_0 x 96 1 (n + 20) 0).isSome = true := by
  have x1 := hx.a; have x2 := hx.b; have x3 := hx.c; have x4 := hx.d; have x5 := hx.e; have x6 := hx.f
  have y1 := c96.a; have y2 := c96.b; have y3 := c96.c; have y4 := c96.d; have y5 := c96.e; have y6 := c96.f
  simp only [x1, x2, x3, x4, x5, x6, y1, y2, y3, y4, y5, y6, e11, e12, s1_0, s1_1, s1_2, s1_3, s1_4, s4_0, s4_1, s4_2, s4_3, s4_4, r0_0, r0_1, r0_2, r0_3, r0_4, r1_0, r1_1, r1_2, r1_3, r1_4, r2_0, r2_1, r2_2, r2_3, r2_4, an_f, an_t, cond_true, cond_false, Bool.not_true, Bool.not_false, Bool.not_not, z0, z64, z96, z128, qa, qb, qc, qd, w4096_4096, w6144_4096, w6144_6144, w12288_4096, w12288_6144, w12288_12288, w16384_4096, w16384_6144, w16384_12288, w16384_16384, Option.isSome_some, and_self]
theorem m1_32 {x : Int} (hx : Cls x false false false false false false) (n : Nat) : L12_1 x 128 1 (n + 20) false 0 0 0 = L13_0 x 128 1 (n + 20) 0 ∧ (L13_0 x 128 1 (n + 20) 0).isSome = true := by
  have x1 := hx.a; have x2 := hx.b; have x3 := hx.c; have x4 := hx.d; have x5 := hx.e; have x6 := hx.f
  have y1 := c128.a; have y2 := c128.b; have y3 := c128.c; have y4 := c128.d; have y5 := c128.e; have y6 := c128.f
  simp only [x1, x2, x3, x4, x5, x6, y1, y2, y3, y4, y5, y6, e11, e12, s1_0, s1_1, s1_2, s1_3, s1_4, s4_0, s4_1, s4_2, s4_3, s4_4, r0_0, r0_1, r0_2, r0_3, r0_4, r1_0, r1_1, r1_2, r1_3, r1_4, r2_0, r2_1, r2_2, r2_3, r2_4, an_f, an_t, cond_true, cond_false, Bool.not_true, Bool.not_false, Bool.not_not, z0, z64, z96, z128, qa, qb, qc, qd, w4096_4096, w6144_4096, w6144_6144, w12288_4096, w12288_6144, w12288_12288, w16384_4096, w16384_6144, w16384_12288, w16384_16384, Option.isSome_some, and_self]
theorem m1_33 {x : Int} {y : Int} (hx : Cls x false false false false false false) (hy : Cls y false false false false false false) (n : Nat) : L12_1 x y 1 (n + 20) false 0 0 0 = L13_0 x y 1 (n + 20) 0 ∧ (L13_0 x y 1 (n + 20) 0).isSome = true := by
  have x1 := hx.a; have x2 := hx.b; have x3 := hx.c; have x4 := hx.d; have x5 := hx.e; have x6 := hx.f
  have y1 := hy.a; have y2 := hy.b; have y3 := hy.c; have y4 := hy.d; have y5 := hy.e; have y6 := hy.f
  simp only [x1, x2, x3, x4, x5, x6, y1, y2, y3, y4, y5, y6, e11, e12, s1_0, s1_1, s1_2, s1_3, s1_4, s4_0, s4_1, s4_2, s4_3, s4_4, r0_0, r0_1, r0_2, r0_3, r0_4, r1_0, r1_1, r1_2, r1_3, r1_4, r2_0, r2_1, r2_2, r2_3, r2_4, an_f, an_t, cond_true, cond_false, Bool.not_true, Bool.not_false, Bool.not_not, z0, z64, z96, z128, qa, qb, qc, qd, w4096_4096, w6144_4096, w6144_6144, w12288_4096, w12288_6144, w12288_12288, w16384_4096, w16384_6144, w16384_12288, w16384_16384, Option.isSome_some, and_self]
theorem m1_34 {x : Int} {y : Int} (hx : Cls x false false false false false false) (hy : Cls y false false false true false false) (n : Nat) : L12_1 x y 1 (n + 20) false 0 0 0 = L13_0 x y 1 (n + 20) 0 ∧ (L13_0 x y 1 (n + 20) 0).isSome = true := by
  have x1 := hx.a; have x2 := hx.b; have x3 := hx.c; have x4 := hx.d; have x5 := hx.e; have x6 := hx.f
  have y1 := hy.a; have y2 := hy.b; have y3 := hy.c; have y4 := hy.d; have y5 := hy.e; have y6 := hy.f
  simp only [x1, x2, x3, x4, x5, x6, y1, y2, y3, y4, y5, y6, e11, e12, s1_0, s1_1, s1_2, s1_3, s1_4, s4_0, s4_1, s4_2, s4_3, s4_4, r0_0, r0_1, r0_2, r0_3, r0_4, r1_0, r1_1, r1_2, r1_3, r1_4, r2_0, r2_1, r2_2, r2_3, r2_4, an_f, an_t, cond_true, cond_false, Bool.not_true, Bool.not_false, Bool.not_not, z0, z64, z96, z128, qa, qb, qc, qd, w4096_4096, w6144_4096, w6144_6144, w12288_4096, w12288_6144, w12288_12288, w16384_4096, w16384_6144, w16384_12288, w16384_16384, Option.isSome_some, and_self]
theorem m1_35 {x : Int} {y : Int} (hx : Cls x false false false false false false) (hy : Cls y false false false true true false) (n : Nat) : L12_1 x y 1 (n + 20) false 0 0 0 = L13_0 x y 1 (n + 20) 0 ∧ (L13_0 x y 1 (n + 20) 0).isSome = true := by
  have x1 := hx.a; have x2 := hx.b; have x3 := hx.c; have x4 := hx.d; have x5 := hx.e; have x6 := hx.f
  have y1 := hy.a; have y2 := hy.b; have y3 := hy.c; have y4 := hy.d; have y5 := hy.e; have y6 := hy.f
  simp only [x1, x2, x3, x4, x5, x6, y1, y2, y3, y4, y5, y6, e11, e12, s1_0, s1_1, s1_2, s1_3, s1_4, s4_0, s4_1, s4_2, s4_3, s4_4, r0_0, r0_1, r0_2, r0_3, r0_4, r1_0, r1_1, r1_2, r1_3, r1_4, r2_0, r2_1, r2_2, r2_3, r2_4, an_f, an_t, cond_true, cond_false, Bool.not_true, Bool.not_false, Bool.not_not, z0, z64, z96, z128, qa, qb, qc, qd, w4096_4096, w6144_4096, w6144_6144, w12288_4096, w12288_6144, w12288_12288, w16384_4096, w16384_6144, w16384_12288, w16384_16384, Option.isSome_some, and_self]
theorem m1_40 {x : Int} (hx : Cls x false false false true false false) (n : Nat) : L12_1 x 64 1 (n + 20) false 0 0 0 = L13_0 x 64 1 (n + 20) 0 ∧ (L13_0 x 64 1 (n + 20) 0).isSome = true := by
  have x1 := hx.a; have x2 := hx.b; have x3 := hx.c; have x4 := hx.d; have x5 := hx.e; have x6 := hx.f
  have y1 := c64.a; have y2 := c64.b; have y3 := c64.c; have y4 := c64.d; have y5 := c64.e; have y6 := c64.f
  simp only [x1, x2, x3, x4, x5, x6, y1, y2, y3, y4, y5, y6, e11, e12, s1_0, s1_1, s1_2, s1_3, s1_4, s4_0, s4_1, s4_2, s4_3, s4_4, r0_0, r0_1, r0_2, r0_3, r0_4, r1_0, r1_1, r1_2, r1_3, r1_4, r2_0, r2_1, r2_2, r2_3, r2_4, an_f, an_t, cond_true, cond_false, Bool.not_true, Bool.not_false, Bool.not_not, z0, z64, z96, z128, qa, qb, qc, qd, w4096_4096, w6144_4096, w6144_6144, w12288_4096, w12288_6144, w12288_12288, w16384_4096, w16384_6144, w16384_12288, w16384_16384, Option.isSome_some, and_self]
theorem m1_41 {x : Int} (hx : Cls x false false false true false false) (n : Nat) : L12_1 x 96 1 (n + 20) false 0 0 0 = L13_0 x 96 1 (n + 20) 0 ∧ (L13_0 x 96 1 (n + 20) 0).isSome = true := by
  have x1 := hx.a; have x2 := hx.b; have x3 := hx.c; have x4 := hx.d; have x5 := hx.e; have x6 := hx.f
  have y1 := c96.a; have y2 := c96.b; have y3 := c96.c; have y4 := c96.d; have y5 := c96.e; have y6 := c96.f
  simp only [x1, x2, x3, x4, x5, x6, y1, y2, y3, y4, y5, y6, e11, e12, s1_0, s1_1, s1_2, s1_3, s1_4, s4_0, s4_1, s4_2, s4_3, s4_4, r0_0, r0_1, r0_2, r0_3, r0_4, r1_0, r1_1, r1_2, r1_3, r1_4, r2_0, r2_1, r2_2, r2_3, r2_4, an_f, an_t, cond_true, cond_false, Bool.not_true, Bool.not_false, Bool.not_not, z0, z64, z96, z128, qa, qb, qc, qd, w4096_4096, w6144_4096, w6144_6144, w12288_4096, w12288_6144, w12288_12288, w16384_4096, w16384_6144, w16384_12288, w16384_16384, Option.isSome_some, and_self]
theorem m1_42 {x : Int} (hx : Cls x false false false true false false) (n : Nat) : L12_1 x 128 1 (n + 20) false 0 0 0 = L13_0 x 128 1 (n + 20) 0 ∧ (L13_0 x 128 1 (n + 20) 0).isSome = true := by
  have x1 := hx.a; have x2 := hx.b; have x3 := hx.c; have x4 := hx.d; have x5 := hx.e; have x6 := hx.f
  have y1 := c128.a; have y2 := c128.b; have y3 := c128.c; have y4 := c128.d; have y5 := c128.e; have y6 := c128.f
  simp only [x1, x2, x3, x4, x5, x6, y1, y2, y3, y4, y5, y6, e11, e12, s1_0, s1_1, s1_2, s1_3, s1_4, s4_0, s4_1, s4_2, s4_3, s4_4, r0_0, r0_1, r0_2, r0_3, r0_4, r1_0, r1_1, r1_2, r1_3, r1_4, r2_0, r2_1, r2_2, r2_3, r2_4, an_f, an_t, cond_true, cond_false, Bool.not_true, Bool.not_false, Bool.not_not, z0, z64, z96, z128, qa, qb, qc, qd, w4096_4096, w6144_4096, w6144_6144, w12288_4096, w12288_6144, w12288_12288, w16384_4096, w16384_6144, w16384_12288, w16384_16384, Option.isSome_some, and_self]
theorem m1_43 {x : Int} {y : Int} (hx : Cls x false false false true false false) (hy : Cls y false false false false false false) (n : Nat) : L12_1 x y 1 (n + 20) false 0 0 0 = L13_0 x y 1 (n + 20) 0 ∧ (L13_0 x y 1 (n + 20) 0).isSome = true := by
  have x1 := hx.a; have x2 := hx.b; have x3 := hx.c; have x4 := hx.d; have x5 := hx.e; have x6 := hx.f
  have y1 := hy.a; have y2 := hy.b; have y3 := hy.c; have y4 := hy.d; have y5 := hy.e; have y6 := hy.f
  simp only [x1, x2, x3, x4, x5, x6, y1, y2, y3, y4, y5, y6, e11, e12, s1_0, s1_1, s1_2, s1_3, s1_4, s4_0, s4_1, s4_2, s4_3, s4_4, r0_0, r0_1, r0_2, r0_3, r0_4, r1_0, r1_1, r1_2, r1_3, r1_4, r2_0, r2_1, r2_2, r2_3, r2_4, an_f, an_t, cond_true, cond_false, Bool.not_true, Bool.not_false, Bool.not_not, z0, z64, z96, z128, qa, qb, qc, qd, w4096_4096, w6144_4096, w6144_6144, w12288_4096, w12288_6144, w12288_12288, w16384_4096, w16384_6144, w16384_12288, w16384_16384, Option.isSome_some, and_self]
theorem m1_44 {x : Int} {y : Int} (hx : Cls x false false false true false false) (hy : Cls y false false false true false false) (n : Nat) : L12_1 x y 1 (n + 20) false 0 0 0 = L13_0 x y 1 (n + 20) 0 ∧ (L13_0 x y 1 (n + 20) 0).isSome = true := by
  have x1 := hx.a; have x2 := hx.b; have x3 := hx.c; have x4 := hx.d; have x5 := hx.e; have x6 := hx.f
  have y1 := hy.a; have y2 := hy.b; have y3 := hy.c; have y4 := hy.d; have y5 := hy.e; have y6 := hy.f
  simp only [x1, x2, x3, x4, x5, x6, y1, y2, y3, y4, y5, y6, e11, e12, s1_0, s1_1, s1_2, s1_3, s1_4, s4_0, s4_1, s4_2, s4_3, s4_4, r0_0, r0_1, r0_2, r0_3, r0_4, r1_0, r1_1, r1_2, r1_3, r1_4, r2_0, r2_1, r2_2, r2_3, r2_4, an_f, an_t, cond_true, cond_false, Bool.not_true, Bool.not_false, Bool.not_not, z0, z64, z96, z128, qa, qb, qc, qd, w4096_4096, w6144_4096, w6144_6144, w12288_4096, w12288_6144, w12288_12288, w16384_4096, w16384_6144, w16384_12288, w16384_16384, Option.isSome_some, and_self]
theorem m1_45 {x : Int} {y : Int} (hx : Cls x false false false true false false) (hy : Cls y false false false true true false) (n : Nat) : L12_1 x y 1 (n + 20) false 0 0 0 = L13_0 x y 1 (n + 20) 0 ∧ (L13_0 x y 1 (n + 20) 0).isSome = true := by
  have x1 := hx.a; have x2 := hx.b; have x3 := hx.c; have x4 := hx.d; have x5 := hx.e; have x6 := hx.f
  have y1 := hy.a; have y2 := hy.b; have y3 := hy.c; have y4 := hy.d; have y5 := hy.e; have y6 := hy.f
  simp only [x1, x2, x3, x4, x5, x6, y1, y2, y3, y4, y5, y6, e11, e12, s1_0, s1_1, s1_2, s1_3, s1_4, s4_0, s4_1, s4_2, s4_3, s4_4, r0_0, r0_1, r0_2, r0_3, r0_4, r1_0, r1_1, r1_2, r1_3, r1_4, r2_0, r2_1, r2_2, r2_3, r2_4, an_f, an_t, cond_true, cond_false, Bool.not_true, Bool.not_false, Bool.not_not, z0, z64, z96, z128, qa, qb, qc, qd, w4096_4096, w6144_4096, w6144_6144, w12288_4096, w12288_6144, w12288_12288, w16384_4096, w16384_6144, w16384_12288, w16384_16384, Option.isSome_some, and_self]
theorem m1_50 {x : Int} (hx : Cls x false false false true true false) (n : Nat) : L12_1 x 64 1 (n + 20) false 0 0 0 = L13_0 x 64 1 (n + 20) 0 ∧ (L13_0 x 64 1 (n + 20) 0).isSome = true := by
  have x1 := hx.a; have x2 := hx.b; have x3 := hx.c; have x4 := hx.d; have x5 := hx.e; have x6 := hx.f
  have y1 := c64.a; have y2 := c64.b; have y3 := c64.c; have y4 := c64.d; have y5 := c64.e; have y6 := c64.f
  simp only [x1, x2, x3, x4, x5, x6, y1, y2, y3, y4, y5, y6, e11, e12, s1_0, s1_1, s1_2, s1_3, s1_4, s4_0, s4_1, s4_2, s4_3, s4_4, r0_0, r0_1, r0_2, r0_3, r0_4, r1_0, r1_1, r1_2, r1_3, r1_4, r2_0, r2_1, r2_2, r2_3, r2_4, an_f, an_t, cond_true, cond_false, Bool.not_true, Bool.not_false, Bool.not_not, z0, z64, z96, z128, qa, qb, qc, qd, w4096_4096, w6144_4096, w6144_6144, w12288_4096, w12288_6144, w12288_12288, w16384_4096, w16384_6144, w16384_12288, w16384_16384, Option.isSome_some, and_self]
theorem m1_51 {x : Int} (hx : Cls x false false false true true false) (n : Nat) : L12_1 x 96 1 (n + 20) false 0 0 0 = L13_0 x 96 1 (n + 20) 0 ∧ (L13_0 x 96 1 (n + 20) 0).isSome = true := by
  have x1 := hx.a; have x2 := hx.b; have x3 := hx.c; have x4 := hx.d; have x5 := hx.e; have x6 := hx.f
  have y1 := c96.a; have y2 := c96.b; have y3 := c96.c; have y4 := c96.d; have y5 := c96.e; have y6 := c96.f
  simp only [x1, x2, x3, x4, x5, x6, y1, y2, y3, y4, y5, y6, e11, e12, s1_0, s1_1, s1_2, s1_3, s1_4, s4_0, s4_1, s4_2, s4_3, s4_4, r0_0, r0_1, r0_2, r0_3, r0_4, r1_0, r1_1, r1_2, r1_3, r1_4, r2_0, r2_1, r2_2, r2_3, r2_4, an_f, an_t, cond_true, cond_false, Bool.not_true, Bool.not_false, Bool.not_not, z0, z64, z96, z128, qa, qb, qc, qd, w4096_4096, w6144_4096, w6144_6144, w12288_4096, w12288_6144, w12288_12288, w16384_4096, w16384_6144, w16384_12288, w16384_16384, Option.isSome_some, and_self]
theorem m1_52 {x : Int} (hx : Cls x false false false true true false) (n : Nat) : L12_1 x 128 1 (n + 20) false 0 0 0 = L13_0 x 128 1 (n + 20) 0 ∧ (L13_0 x 128 1 (n + 20) 0).isSome = true := by
  have x1 := hx.a; have x2 := hx.b; have x3 := hx.c; have x4 := hx.d; have x5 := hx.e; have x6 := hx.f
  have y1 := c128.a; have y2 := c128.b; have y3 := c128.c; have y4 := c128.d; have y5 := c128.e; have y6 := c128.f
  simp only [x1, x2, x3, x4, x5, x6, y1, y2, y3, y4, y5, y6, e11, e12, s1_0, s1_1, s1_2, s1_3, s1_4, s4_0, s4_1, s4_2, s4_3, s4_4, r0_0, r0_1, r0_2, r0_3, r0_4, r1_0, r1_1, r1_2, r1_3, r1_4, r2_0, r2_1, r2_2, r2_3, r2_4, an_f, an_t, cond_true, cond_false, Bool.not_true, Bool.not_false, Bool.not_not, z0, z64, z96, z128, qa, qb, qc, qd, w4096_4096, w6144_4096, w6144_6144, w12288_4096, w12288_6144, w12288_12288, w16384_4096, w16384_6144, w16384_12288, w16384_16384, Option.isSome_some, and_self]
theorem m1_53 {x : Int} {y : Int} (hx : Cls x false false false true true false) (hy : Cls y false false false false false false) (n : Nat) : L12_1 x y 1 (n + 20) false 0 0 0 = L13_0 x y 1 (n + 20) 0 ∧ (L13_0 x y 1 (n + 20) 0).isSome = true := by
  have x1 := hx.a; have x2 := hx.b; have x3 := hx.c; have x4 := hx.d; have x5 := hx.e; have x6 := hx.f
  have y1 := hy.a; have y2 := hy.b; have y3 := hy.c; have y4 := hy.d; have y5 := hy.e; have y6 := hy.f
  simp only [x1, x2, x3, x4, x5, x6, y1, y2, y3, y4, y5, y6, e11, e12, s1_0, s1_1, s1_2, s1_3, s1_4, s4_0, s4_1, s4_2, s4_3, s4_4, r0_0, r0_1, r0_2, r0_3, r0_4, r1_0, r1_1, r1_2, r1_3, r1_4, r2_0, r2_1, r2_2, r2_3, r2_4, an_f, an_t, cond_true, cond_false, Bool.not_true, Bool.not_false, Bool.not_not, z0, z64, z96, z128, qa, qb, qc, qd, w4096_4096, w6144_4096, w6144_6144, w12288_4096, w12288_6144, w12288_12288, w16384_4096, w16384_6144, w16384_12288, w16384_16384, Option.isSome_some, and_self]
theorem m1_54 {x : Int} {y : Int} (hx : Cls x false false false true true false) (hy : Cls y false false false true false false) (n : Nat) : L12_1 x y 1 (n + 20) false 0 0 0 = L13_0 x y 1 (n + 20) 0 ∧ (L13_0 x y 1 (n + 20) 0).isSome = true := by
  have x1 := hx.a; have x2 := hx.b; have x3 := hx.c; have x4 := hx.d; have x5 := hx.e; have x6 := hx.f
  have y1 := hy.a; have y2 := hy.b; have y3 := hy.c; have y4 := hy.d; have y5 := hy.e; have y6 := hy.f
  simp only [x1, x2, x3, x4, x5, x6, y1, y2, y3, y4, y5, y6, e11, e12, s1_0, s1_1, s1_2, s1_3, s1_4, s4_0, s4_1, s4_2, s4_3, s4_4, r0_0, r0_1, r0_2, r0_3, r0_4, r1_0, r1_1, r1_2, r1_3, r1_4, r2_0, r2_1, r2_2, r2_3, r2_4, an_f, an_t, cond_true, cond_false, Bool.not_true, Bool.not_false, Bool.not_not, z0, z64, z96, z128, qa, qb, qc, qd, w4096_4096, w6144_4096, w6144_6144, w12288_4096, w12288_6144, w12288_12288, w16384_4096, w16384_6144, w16384_12288, w16384_16384, Option.isSome_some, and_self]
theorem m1_55 {x : Int} {y : Int} (hx : Cls x false false false true true false) (hy : Cls y false false false true true false) (n : Nat) : L12_1 x y 1 (n + 20) false 0 0 0 = L13_0 x y 1 (n + 20) 0 ∧ (L13_0 x y 1 (n + 20) 0).isSome = true := by
  have x1 := hx.a; have x2 := hx.b; have x3 := hx.c; have x4 := hx.d; have x5 := hx.e; have x6 := hx.f
  have y1 := hy.a; have y2 := hy.b; have y3 := hy.c; have y4 := hy.d; have y5 := hy.e; have y6 := hy.f
  simp only [x1, x2, x3, x4, x5, x6, y1, y2, y3, y4, y5, y6, e11, e12, s1_0, s1_1, s1_2, s1_3, s1_4, s4_0, s4_1, s4_2, s4_3, s4_4, r0_0, r0_1, r0_2, r0_3, r0_4, r1_0, r1_1, r1_2, r1_3, r1_4, r2_0, r2_1, r2_2, r2_3, r2_4, an_f, an_t, cond_true, cond_false, Bool.not_true, Bool.not_false, Bool.not_not, z0, z64, z96, z128, qa, qb, qc, qd, w4096_4096, w6144_4096, w6144_6144, w12288_4096, w12288_6144, w12288_12288, w16384_4096, w16384_6144, w16384_12288, w16384_16384, Option.isSome_some, and_self]
theorem m2_00 (n : Nat) : L12_2 64 64 2 (n + 20) false 0 0 0 = L13_0 64 64 2 (n + 20) 0 ∧ (L13_0 64 64 2 (n + 20) 0).isSome = true := by
  have x1 := c64.a; have x2 := c64.b; have x3 := c64.c; have x4 := c64.d; have x5 := c64.e; have x6 := c64.f
  have y1 := c64.a; have y2 := c64.b; have y3 := c64.c; have y4 := c64.d; have y5 := c64.e; have y6 := c64.f
  simp only [x1, x2, x3, x4, x5, x6, y1, y2, y3, y4, y5, y6, e21, e22, s2_0, s2_1, s2_2, s2_3, s2_4, s5_0, s5_1, s5_2, s5_3, s5_4, r0_0, r0_1, r0_2, r0_3, r0_4, r1_0, r1_1, r1_2, r1_3, r1_4, r2_0, r2_1, r2_2, r2_3, r2_4, an_f, an_t, cond_true, cond_false, Bool.not_true, Bool.not_false, Bool.not_not, z0, z64, z96, z128, qa, qb, qc, qd, w4096_4096, w6144_4096, w6144_6144, w12288_4096, w12288_6144, w12288_12288, w16384_4096, w16384_6144, w16384_12288, w16384_16384, Option.isSome_some, and_self]
theorem m2_01 (n : Nat) : L12_2 64 96 2 (n + 20) false 0 0 0 = L13_0 64 96 2 (n + 20) 0 ∧ (L13_0 64 96 2 (n + 20) 0).isSome = true := by
  have x1 := c64.a; have x2 := c64.b; have x3 := c64.c; have x4 := c64.d; have x5 := c64.e; have x6 := c64.f
  have y1 := c96.a; have y2 := c96.b; have y3 := c96.c; have y4 := c96.d; have y5 := c96.e; have y6 := c96.f
  simp only [x1, x2, x3, x4, x5, x6, y1, y2, y3, y4, y5, y6, e21, e22, s2_0, s2_1, s2_2, s2_3, s2_4, s5_0, s5_1, s5_2, s5_3, s5_4, r0_0, r0_1, r0_2, r0_3, r0_4, r1_0, r1_1, r1_2, r1_3, r1_4, r2_0, r2_1, r2_2, r2_3, r2_4, an_f, an_t, cond_true, cond_false, Bool.not_true, Bool.not_false, Bool.not_not, z0, z64, z96, z128, qa, qb, qc, qd, w4096_4096, w6144_4096, w6144_6144, w12288_4096, w12288_6144, w12288_12288, w16384_4096, w16384_6144, w16384_12288, w16384_16384, Option.isSome_some, and_self]
theorem m2_02 (n : Nat) : L12_2 64 128 2 (n + 20) false 0 0 0 = L13_0 64 128 2 (n + 20) 0 ∧ (L13_0 64 128 2 (n + 20) 0).isSome = true := by
  have x1 := c64.a; have x2 := c64.b; have x3 := c64.c; have x4 := c64.d; have x5 := c64.e; have x6 := c64.f
  have y1 := c128.a; have y2 := c128.b; have y3 := c128.c; have y4 := c128.d; have y5 := c128.e; have y6 := c128.f
  simp only [x1, x2, x3, x4, x5, x6, y1, y2, y3, y4, y5, y6, e21, e22, s2_0, s2_1, s2_2, s2_3, s2_4, s5_0, s5_1, s5_2, s5_3, s5_4, r0_0, r0_1, r0_2, r0_3, r0_4, r1_0, r1_1, r1_2, r1_3, r1_4, r2_0, r2_1, r2_2, r2_3, r2_4, an_f, an_t, cond_true, cond_false, Bool.not_true, Bool.not_false, Bool.not_not, z0, z64, z96, z128, qa, qb, qc, qd, w4096_4096, w6144_4096, w6144_6144, w12288_4096, w12288_6144, w12288_12288, w16384_4096, w16384_6144, w16384_12288, w16384_16384, Option.isSome_some, and_self]
theorem m2_03 {y : Int} (hy : Cls y false false false false false false) (n : Nat) : L12_2 64 y 2 (n + 20) false 0 0 0 = L13_0 64 y 2 (n + 20) 0 ∧ (L13_0 64 y 2 (n + 20) 0).isSome = true := by
  have x1 := c64.a; have x2 := c64.b; have x3 := c64.c; have x4 := c64.d; have x5 := c64.e; have x6 := c64.f
  have y1 := hy.a; have y2 := hy.b; have y3 := hy.c; have y4 := hy.d; have y5 := hy.e; have y6 := hy.f
  simp only [x1, x2, x3, x4, x5, x6, y1, y2, y3, y4, y5, y6, e21, e22, s2_0, s2_1, s2_2, s2_3, s2_4, s5_0, s5_1, s5_2, s5_3, s5_4, r0_0, r0_1, r0_2, r0_3, r0_4, r1_0, r1_1, r1_2, r1_3, r1_4, r2_0, r2_1, r2_2, r2_3, r2_4, an_f, an_t, cond_true, cond_false, Bool.not_true, Bool.not_false, Bool.not_not, z0, z64, z96, z128, qa, qb, qc, qd, w4096_4096, w6144_4096, w6144_6144, w12288_4096, w12288_6144, w12288_12288, w16384_4096, w16384_6144, w16384_12288, w16384_16384, Option.isSome_some, and_self]
theorem m2_04 {y : Int} (hy : Cls y false false false true false false) (n : Nat) : L12_2 64 y 2 (n + 20) false 0 0 0 = L13_0 64 y 2 (n + 20) 0 ∧ (L13_0 64 y 2 (n + 20) 0).isSome = true := by
  have x1 := c64.a; have x2 := c64.b; have x3 := c64.c; have x4 := c64.d; have x5 := c64.e; have x6 := c64.f
  have y1 := hy.a; have y2 := hy.b; have y3 := hy.c; have y4 := hy.d; have y5 := hy.e; have y6 := hy.f
  simp only [x1, x2, x3, x4, x5, x6, y1, y2, y3, y4, y5, y6, e21, e22, s2_0, s2_1, s2_2, s2_3, s2_4, s5_0, s5_1, s5_2, s5_3, s5_4, r0_0, r0_1, r0_2, r0_3, r0_4, r1_0, r1_1, r1_2, r1_3, r1_4, r2_0, r2_1, r2_2, r2_3, r2_4, an_f, an_t, cond_true, cond_false, Bool.not_true, Bool.not_false, Bool.not_not, z0, z64, z96, z128, qa, qb, qc, qd, w4096_4096, w6144_4096, w6144_6144, w12288_4096, w12288_6144, w12288_12288, w16384_4096, w16384_6144, w16384_12288, w16384_16384, Option.isSome_some, and_self]
theorem m2_05 {y : Int} (hy : Cls y false false false true true false) (n : Nat) : L12_2 64 y 2 (n + 20) false 0 0 0 = L13_0 64 y 2 (n + 20) 0 ∧ (L13_0 64 y 2 (n + 20) 0).isSome = true := by
  have x1 := c64.a; have x2 := c64.b; have x3 := c64.c; have x4 := c64.d; have x5 := c64.e; have x6 := c64.f
  have y1 := hy.a; have y2 := hy.b; have y3 := hy.c; have y4 := hy.d; have y5 := hy.e; have y6 := hy.f
  simp only [x1, x2, x3, x4, x5, x6, y1, y2, y3, y4, y5, y6, e21, e22, s2_0, s2_1, s2_2, s2_3, s2_4, s5_0, s5_1, s5_2, s5_3, s5_4, r0_0, r0_1, r0_2, r0_3, r0_4, r1_0, r1_1, r1_2, r1_3, r1_4, r2_0, r2_1, r2_2, r2_3, r2_4, an_f, an_t, cond_true, cond_false, Bool.not_true, Bool.not_false, Bool.not_not, z0, z64, z96, z128, qa, qb, qc, qd, w4096_4096, w6144_4096, w6144_6144, w12288_4096, w12288_6144, w12288_12288, w16384_4096, w16384_6144, w16384_12288, w16384_16384, Option.isSome_some, and_self]
theorem m2_10 (n : Nat) : L12_2 96 64 2 (n + 20) false 0 0 0 = L13_0 96 64 2 (n + 20) 0 ∧ (L13_0 96 64 2 (n + 20) 0).isSome = true := by
  have x1 := c96.a; have x2 := c96.b; have x3 := c96.c; have x4 := c96.d; have x5 := c96.e; have x6 := c96.f
  have y1 := c64.a; have y2 := c64.b; have y3 := c64.c; have y4 := c64.d; have y5 := c64.e; have y6 := c64.f
  simp only [x1, x2, x3, x4, x5, x6, y1, y2, y3, y4, y5, y6, e21, e22, s2_0, s2_1, s2_2, s2_3, s2_4, s5_0, s5_1, s5_2, s5_3, s5_4, r0_0, r0_1, r0_2, r0_3, r0_4, r1_0, r1_1, r1_2, r1_3, r1_4, r2_0, r2_1, r2_2, r2_3, r2_4, an_f, an_t, cond_true, cond_false, Bool.not_true, Bool.not_false, Bool.not_not, z0, z64, z96, z128, qa, qb, qc, qd, w4096_4096, w6144_4096, w6144_6144, w12288_4096, w12288_6144, w12288_12288, w16384_4096, w16384_6144, w16384_12288, w16384_16384, Option.isSome_some, and_self]
theorem m2_11 (n : Nat) : L12_2 96 96 2 (n + 20) false 0 0 0 = L13_0 96 96 2 (n + 20) 0 ∧ (L13_0 96 96 2 (n + 20) 0).isSome = true := by
  have x1 := c96.a; have x2 := c96.b; have x3 := c96.c; have x4 := c96.d; have x5 := c96.e; have x6 := c96.f
  have y1 := c96.a; have y2 := c96.b; have y3 := c96.c; have y4 := c96.d; have y5 := c96.e; have y6 := c96.f
  simp only [x1, x2, x3, x4, x5, x6, y1, y2, y3, y4, y5, y6, e21, e22, s2_0, s2_1, s2_2, s2_3, s2_4, s5_0, s5_1, s5_2, s5_3, s5_4, r0_0, r0_1, r0_2, r0_3, r0_4, r1_0, r1_1, r1_2, r1_3, r1_4, r2_0, r2_1, r2_2, r2_3, r2_4, an_f, an_t, cond_true, cond_false, Bool.not_true, Bool.not_false, Bool.not_not, z0, z64, z96, z128, qa, qb, qc, qd, w4096_4096, w6144_4096, w6144_6144, w12288_4096, w12288_6144, w12288_12288, w16384_4096, w16384_6144, w16384_12288, w16384_16384, Option.isSome_some, and_self]
theorem m2_12 (n : Nat) : L12_2 96 128 2 (n + 20) false 0 0 0 = L13_0 96 128 2 (n + 20) 0 ∧ (L13_0 96 128 2 (n + 20) 0).isSome = true := by
  have x1 := c96.a; have x2 := c96.b; have x3 := c96.c; have x4 := c96.d; have x5 := c96.e; have x6 := c96.f
  have y1 := c128.a; have y2 := c128.b; have y3 := c128.c; have y4 := c128.d; have y5 := c128.e; have y6 := c128.f
  simp only [x1, x2, x3, x4, x5, x6, y1, y2, y3, y4, y5, y6, e21, e22, s2_0, s2_1, s2_2, s2_3, s2_4, s5_0, s5_1, s5_2, s5_3, s5_4, r0_0, r0_1, r0_2, r0_3, r0_4, r1_0, r1_1, r1_2, r1_3, r1_4, r2_0, r2_1, r2_2, r2_3, r2_4, an_f, an_t, cond_true, cond_false, Bool.not_true, Bool.not_false, Bool.not_not, z0, z64, z96, z128, qa, qb, qc, qd, w4096_4096, w6144_4096, w6144_6144, w12288_4096, w12288_6144, w12288_12288, w16384_4096, w16384_6144, w16384_12288, w16384_16384, Option.isSome_some, and_self]
theorem m2_13 {y : Int} (hy : Cls y false false false false false false) (n : Nat) : L12_2 96 y 2 (n + 20) false 0 0 0 = L13_0 96 y 2 (n + 20) 0 ∧ (L13_0 96 y 2 (n + 20) 0).isSome = true := by
  have x1 := c96.a; have x2 := c96.b; have x3 := c96.c; have x4 := c96.d; have x5 := c96.e; have x6 := c96.f
  have y1 := hy.a; have y2 := hy.b; have y3 := hy.c; have y4 := hy.d; have y5 := hy.e; have y6 := hy.f
  simp only [x1, x2, x3, x4, x5, x6, y1, y2, y3, y4, y5, y6, e21, e22, s2_0, s2_1, s2_2, s2_3, s2_4, s5_0, s5_1, s5_2, s5_3, s5_4, r0_0, r0_1, r0_2, r0_3, r0_4, r1_0, r1_1, r1_2, r1_3, r1_4, r2_0, r2_1, r2_2, r2_3, r2_4, an_f, an_t, cond_true, cond_false, Bool.not_true, Bool.not_false, Bool.not_not, z0, z64, z96, z128, qa, qb, qc, qd, w4096_4096, w6144_4096, w6144_6144, w12288_4096, w12288_6144, w12288_12288, w16384_4096, w16384_6144, w16384_12288, w16384_16384, Option.isSome_some, and_self]
theorem m2_14 {y : Int} (hy : Cls y false false false true false false) (n : Nat) : L12_2 96 y 2 (n + 20) false 0 0 0 = L13_0 96 y 2 (n + 20) 0 ∧ (L13_0 96 y 2 (n + 20) 0).isSome = true := by
  have x1 := c96.a; have x2 := c96.b; have x3 := c96.c; have x4 := c96.d; have x5 := c96.e; have x6 := c96.f
  have y1 := hy.a; have y2 := hy.b; have y3 := hy.c; have y4 := hy.d; have y5 := hy.e; have y6 := hy.f
  simp only [x1, x2, x3, x4, x5, x6, y1, y2, y3, y4, y5, y6, e21, e22, s2_0, s2_1, s2_2, s2_3, s2_4, s5_0, s5_1, s5_2, s5_3, s5_4, r0_0, r0_1, r0_2, r0_3, r0_4, r1_0, r1_1, r1_2, r1_3, r1_4, r2_0, r2_1, r2_2, r2_3, r2_4, an_f, an_t, cond_true, cond_false, Bool.not_true, Bool.not_false, Bool.not_not, z0, z64, z96, z128, qa, qb, qc, qd, w4096_4096, w6144_4096, w6144_6144, w12288_4096, w12288_6144, w12288_12288, w16384_4096, w16384_6144, w16384_12288, w16384_16384, Option.isSome_some, and_self]
theorem m2_15 {y : Int} (hy : Cls y false false false true true false) (n : Nat) : L12_2 96 y 2 (n + 20) false 0 0 0 = L13_0 96 y 2 (n + 20) 0 ∧ (L13_0 96 y 2 (n + 20) 0).isSome = true := by
  have x1 := c96.a; have x2 := c96.b; have x3 := c96.c; have x4 := c96.d; have x5 := c96.e; have x6 := c96.f
  have y1 := hy.a; have y2 := hy.b; have y3 := hy.c; have y4 := hy.d; have y5 := hy.e; have y6 := hy.f
  simp only [x1, x2, x3, x4, x5, x6, y1, y2, y3, y4, y5, y6, e21, e22, s2_0, s2_1, s2_2, s2_3, s2_4, s5_0, s5_1, s5_2, s5_3, s5_4, r0_0, r0_1, r0_2, r0_3, r0_4, r1_0, r1_1, r1_2, r1_3, r1_4, r2_0, r2_1, r2_2, r2_3, r2_4, an_f, an_t, cond_true, cond_false, Bool.not_true, Bool.not_false, Bool.not_not, z0, z64, z96, z128, qa, qb, qc, qd, w4096_4096, w6144_4096, w6144_6144, w12288_4096, w12288_6144, w12288_12288, w16384_4096, w16384_6144, w16384_12288, w16384_16384, Option.isSome_some, and_self]
theorem m2_20 (n : Nat) : L12_2 128 64 2 (n + 20) false 0 0 0 = L13_0 128 64 2 (n + 20) 0 ∧ (L13_0 128 64 2 (n + 20) 0).isSome = true := by
  have x1 := c128.a; have x2 := c128.b; have x3 := c128.c; have x4 := c128.d; have x5 := c128.e; have x6 := c128.f
  have y1 := c64.a; have y2 := c64.b; have y3 := c64.c; have y4 := c64.d; have y5 := c64.e; have y6 := c64.f
  simp only [x1, x2, x3, x4, x5, x6, y1, y2, y3, y4, y5, y6, e21, e22, s2_0, s2_1, s2_2, s2_3, s2_4, s5_0, s5_1, s5_2, s5_3, s5_4, r0_0, r0_1, r0_2, r0_3, r0_4, r1_0, r1_1, r1_2, r1_3, r1_4, r2_0, r2_1, r2_2, r2_3, r2_4, an_f, an_t, cond_true, cond_false, Bool.not_true, Bool.not_false, Bool.not_not, z0, z64, z96, z128, qa, qb, qc, qd, w4096_4096, w6144_4096, w6144_6144, w12288_4096, w12288_6144, w12288_12288, w16384_4096, w16384_6144, w16384_12288, w16384_16384, Option.isSome_some, and_self]
theorem m2_21 (n : Nat) : L12_2 128 96 2 (n + 20) false 0 0 0 = L13_0 128 96 2 (n + 20) 0 ∧ (L13_0 128 96 2 (n + 20) 0).isSome = true := by
  have x1 := c128.a; have x2 := c128.b; have x3 := c128.c; have x4 := c128.d; have x5 := c128.e; have x6 := c128.f
  have y1 := c96.a; have y2 := c96.b; have y3 := c96.c; have y4 := c96.d; have y5 := c96.e; have y6 := c96.f
  simp only [x1, x2, x3, x4, x5, x6, y1, y2, y3, y4, y5, y6, e21, e22, s2_0, s2_1, s2_2, s2_3, s2_4, s5_0, s5_1, s5_2, s5_3, s5_4, r0_0, r0_1, r0_2, r0_3, r0_4, r1_0, r1_1, r1_2, r1_3, r1_4, r2_0, r2_1, r2_2, r2_3, r2_4, an_f, an_t, cond_true, cond_false, Bool.not_true, Bool.not_false, Bool.not_not, z0, z64, z96, z128, qa, qb, qc, qd, w4096_4096, w6144_4096, w6144_6144, w12288_4096, w12288_6144, w12288_12288, w16384_4096, w16384_6144, w16384_12288, w16384_16384, Option.isSome_some, and_self]
theorem m2_22 (n : Nat) : L12_2 128 128 2 (n + 20) false 0 0 0 = L13_0 128 128 2 (n + 20) 0 ∧ (L13_0 128 128 2 (n + 20) 0).isSome = true := by
  have x1 := c128.a; have x2 := c128.b; have x3 := c128.c; have x4 := c128.d; have x5 := c128.e; have x6 := c128.f
  have y1 := c128.a; have y2 := c128.b; have y3 := c128.c; have y4 := c128.d; have y5 := c128.e; have y6 := c128.f
  simp only [x1, x2, x3, x4, x5, x6, y1, y2, y3, y4, y5, y6, e21, e22, s2_0, s2_1, s2_2, s2_3, s2_4, s5_0, s5_1, s5_2, s5_3, s5_4, r0_0, r0_1, r0_2, r0_3, r0_4, r1_0, r1_1, r1_2, r1_3, r1_4, r2_0, r2_1, r2_2, r2_3, r2_4, an_f, an_t, cond_true, cond_false, Bool.not_true, Bool.not_false, Bool.not_not, z0, z64, z96, z128, qa, qb, qc, qd, w4096_4096, w6144_4096, w6144_6144, w12288_4096, w12288_6144, w12288_12288, w16384_4096, w16384_6144, w16384_12288, w16384_16384, Option.isSome_some, and_self]
theorem m2_23 {y : Int} (hy : Cls y false false false false false false) (n : Nat) : L12_2 128 y 2 (n + 20) false 0 0 0 = L13_0 128 y 2 (n + 20) 0 ∧ (L13_0 128 y 2 (n + 20) 0).isSome = true := by
  have x1 := c128.a; have x2 := c128.b; have x3 := c128.c; have x4 := c128.d; have x5 := c128.e; have x6 := c128.f
  have y1 := hy.a; have y2 := hy.b; have y3 := hy.c; have y4 := hy.d; have y5 := hy.e; have y6 := hy.f
  simp only [x1, x2, x3, x4, x5, x6, y1, y2, y3, y4, y5, y6, e21, e22, s2_0, s2_1, s2_2, s2_3, s2_4, s5_0, s5_1, s5_2, s5_3, s5_4, r0_0, r0_1, r0_2, r0_3, r0_4, r1_0, r1_1, r1_2, r1_3, r1_4, r2_0, r2_1, r2_2, r2_3, r2_4, an_f, an_t, cond_true, cond_false, Bool.not_true, Bool.not_false, Bool.not_not, z0, z64, z96, z128, qa, qb, qc, qd, w4096_4096, w6144_4096, w6144_6144, w12288_4096, w12288_6144, w12288_12288, w16384_4096, w16384_6144, w16384_12288, w16384_16384, Option.isSome_some, and_self]
theorem m2_24 {y : Int} (hy : Cls y false false false true false false) (n : Nat) : L12_2 128 y 2 (n + 20) false 0 0 0 = L13_0 128 y 2 (n + 20) 0 ∧ (L13_0 128 y 2 (n + 20) 0).isSome = true := by
  have x1 := c128.a; have x2 := c128.b; have x3 := c128.c; have x4 := c128.d; have x5 := c128.e; have x6 := c128.f
  have y1 := hy.a; have y2 := hy.b; have y3 := hy.c; have y4 := hy.d; have y5 := hy.e; have y6 := hy.f
  simp only [x1, x2, x3, x4, x5, x6, y1, y2, y3, y4, y5, y6, e21, e22, s2_0, s2_1, s2_2, s2_3, s2_4, s5_0, s5_1, s5_2, s5_3, s5_4, r0_0, r0_1, r0_2, r0_3, r0_4, r1_0, r1_1, r1_2, r1_3, r1_4, r2_0, r2_1, r2_2, r2_3, r2_4, an_f, an_t, cond_true, cond_false, Bool.not_true, Bool.not_false, Bool.not_not, z0, z64, z96, z128, qa, qb, qc, qd, w4096_4096, w6144_4096, w6144_6144, w12288_4096, w12288_6144, w12288_12288, w16384_4096, w16384_6144, w16384_12288, w16384_16384, Option.isSome_some, and_self]
theorem m2_25 {y : Int} (hy : Cls y false false false true true false) (n : Nat) : L12_2 128 y 2 (n + 20) false 0 0 0 = L13_0 128 y 2 (n + 20) 0 ∧ (L13_0 128 y 2 (n + 20) 0).isSome = true := by
  have x1 := c128.a; have x2 := c128.b; have x3 := c128.c; have x4 := c128.d; have x5 := c128.e; have x6 := c128.f
  have y1 := hy.a; have y2 := hy.b; have y3 := hy.c; have y4 := hy.d; have y5 := hy.e; have y6 := hy.f
  simp only [x1, x2, x3, x4, x5, x6, y1, y2, y3, y4, y5, y6, e21, e22, s2_0, s2_1, s2_2, s2_3, s2_4, s5_0, s5_1, s5_2, s5_3, s5_4, r0_0, r0_1, r0_2, r0_3, r0_4, r1_0, r1_1, r1_2, r1_3, r1_4, r2_0, r2_1, r2_2, r2_3, r2_4, an_f, an_t, cond_true, cond_false, Bool.not_true, Bool.not_false, Bool.not_not, z0, z64, z96, z128, qa, qb, qc, qd, w4096_4096, w6144_4096, w6144_6144, w12288_4096, w12288_6144, w12288_12288, w16384_4096, w16384_6144, w16384_12288, w16384_16384, Option.isSome_some, and_self]
theorem m2_30 {x : Int} (hx : Cls x false false false false false false) (n : Nat) : L12_2 x 64 2 (n + 20) false 0 0 0 = L13_0 x 64 2 (n + 20) 0 ∧ (L13_0 x 64 2 (n + 20) 0).isSome = true := by
  have x1 := hx.a; have x2 := hx.b; have x3 := hx.c; have x4 := hx.d; have x5 := hx.e; have x6 := hx.f
  have y1 := c64.a; have y2 := c64.b; have y3 := c64.c; have y4 := c64.d; have y5 := c64.e; have y6 := c64.f
  simp only [x1, x2, x3, x4, x5, x6, y1, y2, y3, y4, y5, y6, e21, e22, s2_0, s2_1, s2_2, s2_3, s2_4, s5_0, s5_1, s5_2, s5_3, s5_4, r0_0, r0_1, r0_2, r0_3, r0_4, r1_0, r1_1, r1_2, r1_3, r1_4, r2_0, r2_1, r2_2, r2_3, r2_4, an_f, an_t, cond_true, cond_false, Bool.not_true, Bool.not_false, Bool.not_not, z0, z64, z96, z128, qa, qb, qc, qd, w4096_4096, w6144_4096, w6144_6144, w12288_4096, w12288_6144, w12288_12288, w16384_4096, w16384_6144, w16384_12288, w16384_16384, Option.isSome_some, and_self]
theorem m2_31 {x : Int} (hx : Cls x false false false false false false) (n : Nat) : L12_2 x 96 2 (n + 20) false 0 0 0 = L13_0 x 96 2 (n + 20) 0 ∧ (L13_0 x 96 2 (n + 20) 0).isSome = true := by
  have x1 := hx.a; have x2 := hx.b; have x3 := hx.c; have x4 := hx.d; have x5 := hx.e; have x6 := hx.f
  have y1 := c96.a; have y2 := c96.b; have y3 := c96.c; have y4 := c96.d; have y5 := c96.e; have y6 := c96.f
  simp only [x1, x2, x3, x4, x5, x6, y1, y2, y3, y4, y5, y6, e21, e22, s2_0, s2_1, s2_2, s2_3, s2_4, s5_0, s5_1, s5_2, s5_3, s5_4, r0_0, r0_1, r0_2, r0_3, r0_4, r1_0, r1_1, r1_2, r1_3, r1_4, r2_0, r2_1, r2_2, r2_3, r2_4, an_f, an_t, cond_true, cond_false, Bool.not_true, Bool.not_false, Bool.not_not, z0, z64, z96, z128, qa, qb, qc, qd, w4096_4096, w6144_4096, w6144_6144, w12288_4096, w12288_6144, w12288_12288, w16384_4096, w16384_6144, w16384_12288, w16384_16384, Option.isSome_some, and_self]
theorem m2_32 {x : Int} (hx : Cls x false false false false false false) (n : Nat) : L12_2 x 128 2 (n + 20) false 0 0 0 = L13_0 x 128 2 (n + 20) 0 ∧ (L13_0 x 128 2 (n + 20) 0).isSome = true := by
  have x1 := hx.a; have x2 := hx.b; have x3 := hx.c; have x4 := hx.d; have x5 := hx.e; have x6 := hx.f
  have y1 := c128.a; have y2 := c128.b; have y3 := c128.c; have y4 := c128.d; have y5 := c128.e; have y6 := c128.f
  simp only [x1, x2, x3, x4, x5, x6, y1, y2, y3, y4, y5, y6, e21, e22, s2_0, s2_1, s2_2, s2_3, s2_4, s5_0, s5_1, s5_2, s5_3, s5_4, r0_0, r0_1, r0_2, r0_3, r0_4, r1_0, r1_1, r1_2, r1_3, r1_4, r2_0, r2_1, r2_2, r2_3, r2_4, an_f, an_t, cond_true, cond_false, Bool.not_true, Bool.not_false, Bool.not_not, z0, z64, z96, z128, qa, qb, qc, qd, w4096_4096, w6144_4096, w6144_6144, w12288_4096, w12288_6144, w12288_12288, w16384_4096, w16384_6144, w16384_12288, w16384_16384, Option.isSome_some, and_self]
theorem m2_33 {x : Int} {y : Int} (hx : Cls x false false false false false false) (hy : Cls y false false false false false false) (n : Nat) : L12_2 x y 2 (n + 20) false 0 0 0 = L13_0 x y 2 (n + 20) 0 ∧ (L13_0 x y 2 (n + 20) 0).isSome = true := by
  have x1 := hx.a; have x2 := hx.b; have x3 := hx.c; have x4 := hx.d; have x5 := hx.e; have x6 := hx.f
  have y1 := hy.a; have y2 := hy.b; have y3 := hy.c; have y4 := hy.d; have y5 := hy.e; have y6 := hy.f
  simp only [x1, x2, x3, x4, x5, x6, y1, y2, y3, y4, y5, y6, e21, e22, s2_0, s2_1, s2_2, s2_3, s2_4, s5_0, s5_1, s5_2, s5_3, s5_4, r0_0, r0_1, r0_2, r0_3, r0_4, r1_0, r1_1, r1_2, r1_3, r1_4, r2_0, r2_1, r2_2, r2_3, r2_4, an_f, an_t, cond_true, cond_false, Bool.not_true, Bool.not_false, Bool.not_not, z0, z64, z96, z128, qa, qb, qc, qd, w4096_4096, w6144_4096, w6144_6144, w12288_4096, w12288_6144, w12288_12288, w16384_4096, w16384_6144, w16384_12288, w16384_16384, Option.isSome_some, and_self]
theorem m2_34 {x : Int} {y : Int} (hx : Cls x false false false false false false) (hy : Cls y false false false true false false) (n : Nat) : L12_2 x y 2 (n + 20) false 0 0 0 = L13_0 x y 2 (n + 20) 0 ∧ (L13_0 x y 2 (n + 20) 0).isSome = true := by
  have x1 := hx.a; have x2 := hx.b; have x3 := hx.c; have x4 := hx.d; have x5 := hx.e; have x6 := hx.f
  have y1 := hy.a; have y2 := hy.b; have y3 := hy.c; have y4 := hy.d; have y5 := hy.e; have y6 := hy.f
  simp only [x1, x2, x3, x4, x5, x6, y1, y2, y3, y4, y5, y6, e21, e22, s2_0, s2_1, s2_2, s2_3, s2_4, s5_0, s5_1, s5_2, s5_3, s5_4, r0_0, r0_1, r0_2, r0_3, r0_4, r1_0, r1_1, r1_2, r1_3, r1_4, r2_0, r2_1, r2_2, r2_3, r2_4, an_f, an_t, cond_true, cond_false, Bool.not_true, Bool.not_false, Bool.not_not, z0, z64, z96, z128, qa, qb, qc, qd, w4096_4096, w6144_4096, w6144_6144, w12288_4096, w12288_6144, w12288_12288, w16384_4096, w16384_6144, w16384_12288, w16384_16384, Option.isSome_some, and_self]
theorem m2_35 {x : Int} {y : Int} (hx : Cls x false false false false false false) (hy : Cls y false false false true true false) (n : Nat) : L12_2 x y 2 (n + 20) false 0 0 0 = L13_0 x y 2 (n + 20) 0 ∧ (L13_0 x y 2 (n + 20) 0).isSome = true := by
  have x1 := hx.a; have x2 := hx.b; have x3 := hx.c; have x4 := hx.d; have x5 := hx.e; have x6 := hx.f
  have y1 := hy.a; have y2 := hy.b; have y3 := hy.c; have y4 := hy.d; have y5 := hy.e; have y6 := hy.f
  simp only [x1, x2, x3, x4, x5, x6, y1, y2, y3, y4, y5, y6, e21, e22, s2_0, s2_1, s2_2, s2_3, s2_4, s5_0, s5_1, s5_2, s5_3, s5_4, r0_0, r0_1, r0_2, r0_3, r0_4, r1_0, r1_1, r1_2, r1_3, r1_4, r2_0, r2_1, r2_2, r2_3, r2_4, an_f, an_t, cond_true, cond_false, Bool.not_true, Bool.not_false, Bool.not_not, z0, z64, z96, z128, qa, qb, qc, qd, w4096_4096, w6144_4096, w6144_6144, w12288_4096, w12288_6144, w12288_12288, w16384_4096, w16384_6144, w16384_12288, w16384_16384, Option.isSome_some, and_self]
theorem m2_40 {x : Int} (hx : Cls x false false false true false false) (n : Nat) : L12_2 x 64 2 (n + 20) false 0 0 0 = L13_0 x 64 2 (n + 20) 0 ∧ (L13_0 x 64 2 (n + 20) 0).isSome = true := by
  have x1 := hx.a; have x2 := hx.b; have x3 := hx.c; have x4 := hx.d; have x5 := hx.e; have x6 := hx.f
  have y1 := c64.a; have y2 := c64.b; have y3 := c64.c; have y4 := c64.d; have y5 := c64.e; have y6 := c64.f
  simp only [x1, x2, x3, x4, x5, x6, y1, y2, y3, y4, y5, y6, e21, e22, s2_0, s2_1, s2_2, s2_3, s2_4, s5_0, s5_1, s5_2, s5_3, s5_4, r0_0, r0_1, r0_2, r0_3, r0_4, r1_0, r1_1, r1_2, r1_3, r1_4, r2_0, r2_1, r2_2, r2_3, r2_4, an_f, an_t, cond_true, cond_false, Bool.not_true, Bool.not_false, Bool.not_not, z0, z64, z96, z128, qa, qb, qc, qd, w4096_4096, w6144_4096, w6144_6144, w12288_4096, w12288_6144, w12288_12288, w16384_4096, w16384_6144, w16384_12288, w16384_16384, Option.isSome_some, and_self]
theorem m2_41 {x : Int} (hx : Cls x false false false true false false) (n : Nat) : L12_2 x 96 2 (n + 20) false 0 0 0 = L13_0 x 96 2 (n + 20) 0 ∧ (L13_0 x 96 2 (n + 20) 0).isSome = true := by
  have x1 := hx.a; have x2 := hx.b; have x3 := hx.c; have x4 := hx.d; have x5 := hx.e; have x6 := hx.f
  have y1 := c96.a; have y2 := c96.b; have y3 := c96.c; have y4 := c96.d; have y5 := c96.e; have y6 := c96.f
  simp only [x1, x2, x3, x4, x5, x6, y1, y2, y3, y4, y5, y6, e21, e22, s2_0, s2_1, s2_2, s2_3, s2_4, s5_0, s5_1, s5_2, s5_3, s5_4, r0_0, r0_1, r0_2, r0_3, r0_4, r1_0, r1_1, r1_2, r1_3, r1_4, r2_0, r2_1, r2_2, r2_3, r2_4, an_f, an_t, cond_true, cond_false, Bool.not_true, Bool.not_false, Bool.not_not, z0, z64, z96, z128, qa, qb, qc, qd, w4096_4096, w6144_4096, w6144_6144, w12288_4096, w12288_6144, w12288_12288, w16384_4096, w16384_6144, w16384_12288, w16384_16384, Option.isSome_some, and_self]
theorem m2_42 {x : Int} (hx : Cls x false false false true false false) (n : Nat) : L12_2 x 128 2 (n + 20) false 0 0 0 = L13_0 x 128 2 (n + 20) 0 ∧ (L13_0 x 128 2 (n + 20) 0).isSome = true := by
  have x1 := hx.a; have x2 := hx.b; have x3 := hx.c; have x4 := hx.d; have x5 := hx.e; have x6 := hx.f
  have y1 := c128.a; have y2 := c128.b; have y3 := c128.c; have y4 := c128.d; have y5 := c128.e; have y6 := c128.f
  simp only [x1, x2, x3, x4, x5, x6, y1, y2, y3, y4, y5, y6, e21, e22, s2_0, s2_1, s2_2, s2_3, s2_4, s5_0, s5_1, s5_2, s5_3, s5_4, r0_0, r0_1, r0_2, r0_3, r0_4, r1_0, r1_1, r1_2, r1_3, r1_4, r2_0, r2_1, r2_2, r2_3, r2_4, an_f, an_t, cond_true, cond_false, Bool.not_true, Bool.not_false, Bool.not_not, z0, z64, z96, z128, qa, qb, qc, qd, w4096_4096, w6144_4096, w6144_6144, w12288_4096, w12288_6144, w12288_12288, w16384_4096, w16384_6144, w16384_12288, w16384_16384, Option.isSome_some, and_self]
theorem m2_43 {x : Int} {y : Int} (hx : Cls x false false false true false false) (hy : Cls y false false false false false false) (n : Nat) : L12_2 x y 2 (n + 20) false 0 0 0 = L13_0 x y 2 (n + 20) 0 ∧ (L13_0 x y 2 (n + 20) 0).isSome = true := by
  have x1 := hx.a; have x2 := hx.b; have x3 := hx.c; have x4 := hx.d; have x5 := hx.e; have x6 := hx.f
  have y1 := hy.a; have y2 := hy.b; have y3 := hy.c; have y4 := hy.d; have y5 := hy.e; have y6 := hy.f
  simp only [x1, x2, x3, x4, x5, x6, y1, y2, y3, y4, y5, y6, e21, e22, s2_0, s2_1, s2_2, s2_3, s2_4, s5_0, s5_1, s5_2, s5_3, s5_4, r0_0, r0_1, r0_2, r0_3, r0_4, r1_0, r1_1, r1_2, r1_3, r1_4, r2_0, r2_1, r2_2, r2_3, r2_4, an_f, an_t, cond_true, cond_false, Bool.not_true, Bool.not_false, Bool.not_not, z0, z64, z96, z128, qa, qb, qc, qd, w4096_4096, w6144_4096, w6144_6144, w12288_4096, w12288_6144, w12288_12288, w16384_4096, w16384_6144, w16384_12288, w16384_16384, Option.isSome_some, and_self]
theorem m2_44 {x : Int} {y : Int} (hx : Cls x false false false true false false) (hy : Cls y false false false true false false) (n : Nat) : L12_2 x y 2 (n + 20) false 0 0 0 = L13_0 x y 2 (n + 20) 0 ∧ (L13_0 x y 2 (n + 20) 0).isSome = true := by
  have x1 := hx.a; have x2 := hx.b; have x3 := hx.c; have x4 := hx.d; have x5 := hx.e; have x6 := hx.f
  have y1 := hy.a; have y2 := hy.b; have y3 := hy.c; have y4 := hy.d; have y5 := hy.e; have y6 := hy.f
  simp only [x1, x2, x3, x4, x5, x6, y1, y2, y3, y4, y5, y6, e21, e22, s2_0, s2_1, s2_2, s2_3, s2_4, s5_0, s5_1, s5_2, s5_3, s5_4, r0_0, r0_1, r0_2, r0_3, r0_4, r1_0, r1_1, r1_2, r1_3, r1_4, r2_0, r2_1, r2_2, r2_3, r2_4, an_f, an_t, cond_true, cond_false, Bool.not_true, Bool.not_false, Bool.not_not, z0, z64, z96, z128, qa, qb, qc, qd, w4096_4096, w6144_4096, w6144_6144, w12288_4096, w12288_6144, w12288_12288, w16384_4096, w16384_6144, w16384_12288, w16384_16384, Option.isSome_some, and_self]
theorem m2_45 {x : Int} {y : Int} (hx : Cls x false false false true false false) (hy : Cls y false false false true true false) (n : Nat) : L12_2 x y 2 (n + 20) false 0 0 0 = L13_0 x y 2 (n + 20) 0 ∧ (L13_0 x y 2 (n + 20) 0).isSome = true := by
  have x1 := hx.a; have x2 := hx.b; have x3 := hx.c; have x4 := hx.d; have x5 := hx.e; have x6 := hx.f
  have y1 := hy.a; have y2 := hy.b; have y3 := hy.c; have y4 := hy.d; have y5 := hy.e; have y6 := hy.f
  simp only [x1, x2, x3, x4, x5, x6, y1, y2, y3, y4, y5, y6, e21, e22, s2_0, s2_1, s2_2, s2_3, s2_4, s5_0, s5_1, s5_2, s5_3, s5_4, r0_0, r0_1, r0_2, r0_3, r0_4, r1_0, r1_1, r1_2, r1_3, r1_4, r2_0, r2_1, r2_2, r2_3, r2_4, an_f, an_t, cond_true, cond_false, Bool.not_true, Bool.not_false, Bool.not_not, z0, z64, z96, z128, qa, qb, qc, qd, w4096_4096, w6144_4096, w6144_6144, w12288_4096, w12288_6144, w12288_12288, w16384_4096, w16384_6144, w16384_12288, w16384_16384, Option.isSome_some, and_self]
theorem m2_50 {x : Int} (hx : Cls x false false false true true false) (n : Nat) : L12_2 x 64 2 (n + 20) false 0 0 0 = L13_0 x 64 2 (n + 20) 0 ∧ (L13_0 x 64 2 (n + 20) 0).isSome = true := by
  have x1 := hx.a; have x2 := hx.b; have x3 := hx.c; have x4 := hx.d; have x5 := hx.e; have x6 := hx.f
  have y1 := c64.a; have y2 := c64.b; have y3 := c64.c; have y4 := c64.d; have y5 := c64.e; have y6 := c64.f
  simp only [x1, x2, x3, x4, x5, x6, y1, y2, y3, y4, y5, y6, e21, e22, s2_0, s2_1, s2_2, s2_3, s2_4, s5_0, s5_1, s5_2, s5_3, s5_4, r0_0, r0_1, r0_2, r0_3, r0_4, r1_0, r1_1, r1_2, r1_3, r1_4, r2_0, r2_1, r2_2, r2_3, r2_4, an_f, an_t, cond_true, cond_false, Bool.not_true, Bool.not_false, Bool.not_not, z0, z64, z96, z128, qa, qb, qc, qd, w4096_4096, w6144_4096, w6144_6144, w12288_4096, w12288_6144, w12288_12288, w16384_4096, w16384_6144, w16384_12288, w16384_16384, Option.isSome_some, and_self]
theorem m2_51 {x : Int} (hx : Cls x false false false true true false) (n : Nat) : L12_2 x 96 2 (n + 20) false 0 0 0 = L13_0 x 96 2 (n + 20) 0 ∧ (L13_0 x 96 2 (n + 20) 0).isSome = true := by
  have x1 := hx.a; have x2 := hx.b; have x3 := hx.c; have x4 := hx.d; have x5 := hx.e; have x6 := hx.f
  have y1 := c96.a; have y2 := c96.b; have y3 := c96.c; have y4 := c96.d; have y5 := c96.e; have y6 := c96.f
  simp only [x1, x2, x3, x4, x5, x6, y1, y2, y3, y4, y5, y6, e21, e22, s2_0, s2_1, s2_2, s2_3, s2_4, s5_0, s5_1, s5_2, s5_3, s5_4, r0_0, r0_1, r0_2, r0_3, r0_4, r1_0, r1_1, r1_2, r1_3, r1_4, r2_0, r2_1, r2_2, r2_3, r2_4, an_f, an_t, cond_true, cond_false, Bool.not_true, Bool.not_false, Bool.not_not, z0, z64, z96, z128, qa, qb, qc, qd, w4096_4096, w6144_4096, w6144_6144, w12288_4096, w12288_6144, w12288_12288, w16384_4096, w16384_6144, w16384_12288, w16384_16384, Option.isSome_some, and_self]
theorem m2_52 {x : Int} (hx : Cls x false false false true true false) (n : Nat) : L12_2 x 128 2 (n + 20) false 0 0 0 = L13_0 x 128 2 (n + 20) 0 ∧ (L13_0 x 128 2 (n + 20) 0).isSome = true := by
  have x1 := hx.a; have x2 := hx.b; have x3 := hx.c; have x4 := hx.d; have x5 := hx.e; have x6 := hx.f
  have y1 := c128.a; have y2 := c128.b; have y3 := c128.c; have y4 := c128.d; have y5 := c128.e; have y6 := c128.f
  simp only [x1, x2, x3, x4, x5, x6, y1, y2, y3, y4, y5, y6, e21, e22, s2_0, s2_1, s2_2, s2_3, s2_4, s5_0, s5_1, s5_2, s5_3, s5_4, r0_0, r0_1, r0_2, r0_3, r0_4, r1_0, r1_1, r1_2, r1_3, r1_4, r2_0, r2_1, r2_2, r2_3, r2_4, an_f, an_t, cond_true, cond_false, Bool.not_true, Bool.not_false, Bool.not_not, z0, z64, z96, z128, qa, qb, qc, qd, w4096_4096, w6144_4096, w6144_6144, w12288_4096, w12288_6144, w12288_12288, w16384_4096, w16384_6144, w16384_12288, w16384_16384, Option.isSome_some, and_self]
theorem m2_53 {x : Int} {y : Int} (hx : Cls x false false false true true false) (hy : Cls y false false false false false false) (n : Nat) : L12_2 x y 2 (n + 20) false 0 0 0 = L13_0 x y 2 (n + 20) 0 ∧ (L13_0 x y 2 (n + 20) 0).isSome = true := by
  have x1 := hx.a; have x2 := hx.b; have x3 := hx.c; have x4 := hx.d; have x5 := hx.e; have x6 := hx.f
  have y1 := hy.a; have y2 := hy.b; have y3 := hy.c; have y4 := hy.d; have y5 := hy.e; have y6 := hy.f
  simp only [x1, x2, x3, x4, x5, x6, y1, y2, y3, y4, y5, y6, e21, e22, s2_0, s2_1, s2_2, s2_3, s2_4, s5_0, s5_1, s5_2, s5_3, s5_4, r0_0, r0_1, r0_2, r0_3, r0_4, r1_0, r1_1, r1_2, r1_3, r1_4, r2_0, r2_1, r2_2, r2_3, r2_4, an_f, an_t, cond_true, cond_false, Bool.not_true, Bool.not_false, Bool.not_not, z0, z64, z96, z128, qa, qb, qc, qd, w4096_4096, w6144_4096, w6144_6144, w12288_4096, w12288_6144, w12288_12288, w16384_4096, w16384_6144, w16384_12288, w16384_16384, Option.isSome_some, and_self]
theorem m2_54 {x : Int} {y : Int} (hx : Cls x false false false true true false) (hy : Cls y false false false true false false) (n : Nat) : L12_2 x y 2 (n + 20) false 0 0 0 = L13_0 x y 2 (n + 20) 0 ∧ (L13_0 x y 2 (n + 20) 0).isSome = true := by
  have x1 := hx.a; have x2 := hx.b; have x3 := hx.c; have x4 := hx.d; have x5 := hx.e; have x6 := hx.f
  have y1 := hy.a; have y2 := hy.b; have y3 := hy.c; have y4 := hy.d; have y5 := hy.e; have y6 := hy.f
  simp only [x1, x2, x3, x4, x5, x6, y1, y2, y3, y4, y5, y6, e21, e22, s2_0, s2_1, s2_2, s2_3, s2_4, s5_0, s5_1, s5_2, s5_3, s5_4, r0_0, r0_1, r0_2, r0_3, r0_4, r1_0, r1_1, r1_2, r1_3, r1_4, r2_0, r2_1, r2_2, r2_3, r2_4, an_f, an_t, cond_true, cond_false, Bool.not_true, Bool.not_false, Bool.not_not, z0, z64, z96, z128, qa, qb, qc, qd, w4096_4096, w6144_4096, w6144_6144, w12288_4096, w12288_6144, w12288_12288, w16384_4096, w16384_6144, w16384_12288, w16384_16384, Option.isSome_some, and_self]
theorem m2_55 {x : Int} {y : Int} (hx : Cls x false false false true true false) (hy : Cls y false false false true true false) (n : Nat) : L12_2 x y 2 (n + 20) false 0 0 0 = L13_0 x y 2 (n + 20) 0 ∧ (L13_0 x y 2 (n + 20) 0).isSome = true := by
  have x1 := hx.a; have x2 := hx.b; have x3 := hx.c; have x4 := hx.d; have x5 := hx.e; have x6 := hx.f
  have y1 := hy.a; have y2 := hy.b; have y3 := hy.c; have y4 := hy.d; have y5 := hy.e; have y6 := hy.f
  simp only [x1, x2, x3, x4, x5, x6, y1, y2, y3, y4, y5, y6, e21, e22, s2_0, s2_1, s2_2, s2_3, s2_4, s5_0, s5_1, s5_2, s5_3, s5_4, r0_0, r0_1, r0_2, r0_3, r0_4, r1_0, r1_1, r1_2, r1_3, r1_4, r2_0, r2_1, r2_2, r2_3, r2_4, an_f, an_t, cond_true, cond_false, Bool.not_true, Bool.not_false, Bool.not_not, z0, z64, z96, z128, qa, qb, qc, qd, w4096_4096, w6144_4096, w6144_6144, w12288_4096, w12288_6144, w12288_12288, w16384_4096, w16384_6144, w16384_12288, w16384_16384, Option.isSome_some, and_self]
theorem ch0 {x y : Int} (h1 : 1 ≤ x) (h2 : x ≤ 128) (h3 : 1 ≤ y) (h4 : y ≤ 128) (n : Nat) : L12_0 x y 0 (n + 20) false 0 0 0 = L13_0 x y 0 (n + 20) 0 ∧ (L13_0 x y 0 (n + 20) 0).isSome = true := by
  rcases cls h1 h2 with rfl | rfl | rfl | hx | hx | hx <;> rcases cls h3 h4 with rfl | rfl | rfl | hy | hy | hy
  · exact m0_00 n
  · exact m0_01 n
  · exact m0_02 n
  · exact m0_03 hy n
  · exact m0_04 hy n
  · exact m0_05 hy n
  · exact m0_10 n
  · exact m0_11 n
  · exact m0_12 n
  · exact m0_13 hy n
  · exact m0_14 hy n
  · exact m0_15 hy n
  · exact m0_20 n
  · exact m0_21 n
  · exact m0_22 n
  · exact m0_23 hy n
  · exact m0_24 hy n
  · exact m0_25 hy n
  · exact m0_30 hx n
  · exact m0_31 hx n
  · exact m0_32 hx n
  · exact m0_33 hx hy n
  · exact m0_34 hx hy n
  · exact m0_35 hx hy n
  · exact m0_40 hx n
  · exact m0_41 hx n
  · exact m0_42 hx n
  · exact m0_43 hx hy n
  · exact m0_44 hx hy n
  · exact m0_45 hx hy n
  · exact m0_50 hx n
  · exact m0_51 hx n
  · exact m0_52 hx n
  · exact m0_53 hx hy n
  · exact m0_54 hx hy n
  · exact m0_55 hx hy n

theorem ch1 {x y : Int} (h1 : 1 ≤ x) (h2 : x ≤ 128) (h3 : 1 ≤ y) (h4 : y ≤ 128) (n : Nat) : L12_1 x y 1 (n + 20) false 0 0 0 = L13_0 x y 1 (n + 20) 0 ∧ (L13_0 x y 1 (n + 20) 0).isSome = true := by
  rcases cls h1 h2 with rfl | rfl | rfl | hx | hx | hx <;> rcases cls h3 h4 with rfl | rfl | rfl | hy | hy | hy
  · exact m1_00 n
  · exact m1_01 n
  · exact m1_02 n
  · exact m1_03 hy n
  · exact m1_04 hy n
  · exact m1_05 hy n
  · exact m1_10 n
  · exact m1_11 n
  · exact m1_12 n
  · exact m1_13 hy n
  · exact m1_14 hy n
  · exact m1_15 hy n
  · exact m1_20 n
  · exact m1_21 n
  · exact m1_22 n
  · exact m1_23 hy n
  · exact m1_24 hy n
  · exact m1_25 hy n
  · exact m1_30 hx n
  · exact m1_31 hx n
  · exact m1_32 hx n
  · exact m1_33 hx hy n
  · exact m1_34 hx hy n
  · exact m1_35 hx hy n
  · exact m1_40 hx n
  · exact m1_41 hx n
  · exact m1_42 hx n
  · exact m1_43 hx hy n
  · exact m1_44 hx hy n
  · exact m1_45 hx hy n
  · exact m1_50 hx n
  · exact m1_51 hx n
  · exact m1_52 hx n
  · exact m1_53 hx hy n
  · exact m1_54 hx hy n
  · exact m1_55 hx hy n

theorem ch2 {x y : Int} (h1 : 1 ≤ x) (h2 : x ≤ 128) (h3 : 1 ≤ y) (h4 : y ≤ 128) (n : Nat) : L12_2 x y 2 (n + 20) false 0 0 0 = L13_0 x y 2 (n + 20) 0 ∧ (L13_0 x y 2 (n + 20) 0).isSome = true := by
  rcases cls h1 h2 with rfl | rfl | rfl | hx | hx | hx <;> rcases cls h3 h4 with rfl | rfl | rfl | hy | hy | hy
  · exact m2_00 n
  · exact m2_01 n
  · exact m2_02 n
  · exact m2_03 hy n
  · exact m2_04 hy n
  · exact m2_05 hy n
  · exact m2_10 n
  · exact m2_11 n
  · exact m2_12 n
  · exact m2_13 hy n
  · exact m2_14 hy n
  · exact m2_15 hy n
  · exact m2_20 n
  · exact m2_21 n
  · exact m2_22 n
  · exact m2_23 hy n
  · exact m2_24 hy n
  · exact m2_25 hy n
  · exact m2_30 hx n
  · exact m2_31 hx n
  · exact m2_32 hx n
  · exact m2_33 hx hy n
  · exact m2_34 hx hy n
  · exact m2_35 hx hy n
  · exact m2_40 hx n
  · exact m2_41 hx n
  · exact m2_42 hx n
  · exact m2_43 hx hy n
  · exact m2_44 hx hy n
  · exact m2_45 hx hy n
  · exact m2_50 hx n
  · exact m2_51 hx n
  · exact m2_52 hx n
  · exact m2_53 hx hy n
  · exact m2_54 hx hy n
  · exact m2_55 hx hy n

theorem same {n : Nat} (hn : 20 ≤ n) (x y p : Int) : F12 n x y p = F13 n x y p ∧ (F13 n x y p).isSome = true := by
  obtain ⟨m, rfl⟩ : ∃ m, n = m + 20 := ⟨n - 20, by omega⟩
  by_cases hx : 1 ≤ x ∧ x ≤ 128
  · by_cases hy : 1 ≤ y ∧ y ≤ 128
    · have a1 := ltF (x := x) (y := 1) hx.1
      have a2 := ltF (x := 128) (y := x) hx.2
      have a3 := ltF (x := y) (y := 1) hy.1
      have a4 := ltF (x := 128) (y := y) hy.2
      by_cases p0 : p = 0
      · subst p0
        unfold F12 F13; rw [a1, a2, a3, a4]
        exact ch0 hx.1 hx.2 hy.1 hy.2 m
      by_cases p1 : p = 1
      · subst p1
        unfold F12 F13; rw [a1, a2, a3, a4]
        exact ch1 hx.1 hx.2 hy.1 hy.2 m
      by_cases p2 : p = 2
      · subst p2
        unfold F12 F13; rw [a1, a2, a3, a4]
        exact ch2 hx.1 hx.2 hy.1 hy.2 m
      · have b0 := eqF p0
        have b1 := eqF p1
        have b2 := eqF p2
        unfold F12 F13; rw [a1, a2, a3, a4, b0, b1, b2]
        by_cases q : p < 0
        · rw [ltT q]; exact ⟨rfl, rfl⟩
        · rw [ltF (by omega : (0 : Int) ≤ p), ltT (by omega : (2 : Int) < p)]; exact ⟨rfl, rfl⟩
    · unfold F12 F13
      rw [ltF (x := x) (y := 1) hx.1, ltF (x := 128) (y := x) hx.2]
      by_cases q : y < 1
      · rw [ltT q]; simp only [Bool.not_true, Bool.not_false, cond_true, cond_false, Bool.cond_self, Option.isSome_some, and_self]
      · rw [ltF (x := y) (y := 1) (by omega), ltT (x := 128) (y := y) (by omega)]; simp only [Bool.not_true, Bool.not_false, cond_true, cond_false, Bool.cond_self, Option.isSome_some, and_self]
  · unfold F12 F13
    by_cases q : x < 1
    · rw [ltT q]; simp only [Bool.not_true, Bool.not_false, cond_true, cond_false, Bool.cond_self, Option.isSome_some, and_self]
    · rw [ltF (x := x) (y := 1) (by omega), ltT (x := 128) (y := x) (by omega)]; simp only [Bool.not_true, Bool.not_false, cond_true, cond_false, Bool.cond_self, Option.isSome_some, and_self]

def trayB (a b : Int) : Bool := (eqI 64 a && (eqI 64 b || eqI 96 b)) || ((eqI 96 a && eqI 128 b) || (eqI 128 a && eqI 128 b))
def big (x y : Int) : Int × Int := bif !ltI 64 x then (bif !ltI 64 y then (64, 64) else (bif !ltI 96 y then (64, 96) else (96, 128))) else (bif !ltI 96 x then (96, 128) else (128, 128))
def ch (x y p : Int) : Int × Int × Int := bif trayB x y then (x, y, 0) else (bif eqI p 1 then ((big x y).1, (big x y).2, 0) else (bif (eqI p 2 && trayB y x) then (y, x, 0) else (0, 0, 41)))
theorem n0_00 (n : Nat) : L13_0 64 64 0 (n + 20) 0 = some (ch 64 64 0) := by
  have x1 := c64.a; have x2 := c64.b; have x3 := c64.c; have x4 := c64.d; have x5 := c64.e; have x6 := c64.f
  have y1 := c64.a; have y2 := c64.b; have y3 := c64.c; have y4 := c64.d; have y5 := c64.e; have y6 := c64.f
  simp only [ch, big, trayB, x1, x2, x3, x4, x5, x6, y1, y2, y3, y4, y5, y6, e01, e02, r0_0, r0_1, r0_2, r0_3, r0_4, r1_0, r1_1, r1_2, r1_3, r1_4, r2_0, r2_1, r2_2, r2_3, r2_4, cond_true, cond_false, Bool.not_true, Bool.not_false, Bool.not_not, z0, z64, z96, z128, qa, qb, qc, qd, w4096_4096, w6144_4096, w6144_6144, w12288_4096, w12288_6144, w12288_12288, w16384_4096, w16384_6144, w16384_12288, w16384_16384, Bool.true_and, Bool.false_and, Bool.true_or, Bool.false_or, Bool.or_false, Bool.or_true, Bool.and_true, Bool.and_false]
theorem n0_01 (n : Nat) : L13_0 64 96 0 (n + 20) 0 = some (ch 64 96 0) := by
  have x1 := c64.a; have x2 := c64.b; have x3 := c64.c; have x4 := c64.d; have x5 := c64.e; have x6 := c64.f
  have y1 := c96.a; have y2 := c96.b; have y3 := c96.c; have y4 := c96.d; have y5 := c96.e; have y6 := c96.f
  simp only [ch, big, trayB, x1, x2, x3, x4, x5, x6, y1, y2, y3, y4, y5, y6, e01, e02, r0_0, r0_1, r0_2, r0_3, r0_4, r1_0, r1_1, r1_2, r1_3, r1_4, r2_0, r2_1, r2_2, r2_3, r2_4, cond_true, cond_false, Bool.not_true, Bool.not_false, Bool.not_not, z0, z64, z96, z128, qa, qb, qc, qd, w4096_4096, w6144_4096, w6144_6144, w12288_4096, w12288_6144, w12288_12288, w16384_4096, w16384_6144, w16384_12288, w16384_16384, Bool.true_and, Bool.false_and, Bool.true_or, Bool.false_or, Bool.or_false, Bool.or_true, Bool.and_true, Bool.and_false]
theorem n0_02 (n : Nat) : L13_0 64 128 0 (n + 20) 0 = some (ch 64 128 0) := by
  have x1 := c64.a; have x2 := c64.b; have x3 := c64.c; have x4 := c64.d; have x5 := c64.e; have x6 := c64.f
  have y1 := c128.a; have y2 := c128.b; have y3 := c128.c; have y4 := c128.d; have y5 := c128.e; have y6 := c128.f
  simp only [ch, big, trayB, x1, x2, x3, x4, x5, x6, y1, y2, y3, y4, y5, y6, e01, e02, r0_0, r0_1, r0_2, r0_3, r0_4, r1_0, r1_1, r1_2, r1_3, r1_4, r2_0, r2_1, r2_2, r2_3, r2_4, cond_true, cond_false, Bool.not_true, Bool.not_false, Bool.not_not, z0, z64, z96, z128, qa, qb, qc, qd, w4096_4096, w6144_4096, w6144_6144, w12288_4096, w12288_6144, w12288_12288, w16384_4096, w16384_6144, w16384_12288, w16384_16384, Bool.true_and, Bool.false_and, Bool.true_or, Bool.false_or, Bool.or_false, Bool.or_true, Bool.and_true, Bool.and_false]
theorem n0_03 {y : Int} (hy : Cls y false false false false false false) (n : Nat) : L13_0 64 y 0 (n + 20) 0 = some (ch 64 y 0) := by
  have x1 := c64.a; have x2 := c64.b; have x3 := c64.c; have x4 := c64.d; have x5 := c64.e; have x6 := c64.f
  have y1 := hy.a; have y2 := hy.b; have y3 := hy.c; have y4 := hy.d; have y5 := hy.e; have y6 := hy.f
  simp only [ch, big, trayB, x1, x2, x3, x4, x5, x6, y1, y2, y3, y4, y5, y6, e01, e02, r0_0, r0_1, r0_2, r0_3, r0_4, r1_0, r1_1, r1_2, r1_3, r1_4, r2_0, r2_1, r2_2, r2_3, r2_4, cond_true, cond_false, Bool.not_true, Bool.not_false, Bool.not_not, z0, z64, z96, z128, qa, qb, qc, qd, w4096_4096, w6144_4096, w6144_6144, w12288_4096, w12288_6144, w12288_12288, w16384_4096, w16384_6144, w16384_12288, w16384_16384, Bool.true_and, Bool.false_and, Bool.true_or, Bool.false_or, Bool.or_false, Bool.or_true, Bool.and_true, Bool.and_false]
theorem n0_04 {y : Int} (hy : Cls y false false false true false false) (n : Nat) : L13_0 64 y 0 (n + 20) 0 = some (ch 64 y 0) := by
  have x1 := c64.a; have x2 := c64.b; have x3 := c64.c; have x4 := c64.d; have x5 := c64.e; have x6 := c64.f
  have y1 := hy.a; have y2 := hy.b; have y3 := hy.c; have y4 := hy.d; have y5 := hy.e; have y6 := hy.f
  simp only [ch, big, trayB, x1, x2, x3, x4, x5, x6, y1, y2, y3, y4, y5, y6, e01, e02, r0_0, r0_1, r0_2, r0_3, r0_4, r1_0, r1_1, r1_2, r1_3, r1_4, r2_0, r2_1, r2_2, r2_3, r2_4, cond_true, cond_false, Bool.not_true, Bool.not_false, Bool.not_not, z0, z64, z96, z128, qa, qb, qc, qd, w4096_4096, w6144_4096, w6144_6144, w12288_4096, w12288_6144, w12288_12288, w16384_4096, w16384_6144, w16384_12288, w16384_16384, Bool.true_and, Bool.false_and, Bool.true_or, Bool.false_or, Bool.or_false, Bool.or_true, Bool.and_true, Bool.and_false]
theorem n0_05 {y : Int} (hy : Cls y false false false true true false) (n : Nat) : L13_0 64 y 0 (n + 20) 0 = some (ch 64 y 0) := by
  have x1 := c64.a; have x2 := c64.b; have x3 := c64.c; have x4 := c64.d; have x5 := c64.e; have x6 := c64.f
  have y1 := hy.a; have y2 := hy.b; have y3 := hy.c; have y4 := hy.d; have y5 := hy.e; have y6 := hy.f
  simp only [ch, big, trayB, x1, x2, x3, x4, x5, x6, y1, y2, y3, y4, y5, y6, e01, e02, r0_0, r0_1, r0_2, r0_3, r0_4, r1_0, r1_1, r1_2, r1_3, r1_4, r2_0, r2_1, r2_2, r2_3, r2_4, cond_true, cond_false, Bool.not_true, Bool.not_false, Bool.not_not, z0, z64, z96, z128, qa, qb, qc, qd, w4096_4096, w6144_4096, w6144_6144, w12288_4096, w12288_6144, w12288_12288, w16384_4096, w16384_6144, w16384_12288, w16384_16384, Bool.true_and, Bool.false_and, Bool.true_or, Bool.false_or, Bool.or_false, Bool.or_true, Bool.and_true, Bool.and_false]
theorem n0_10 (n : Nat) : L13_0 96 64 0 (n + 20) 0 = some (ch 96 64 0) := by
  have x1 := c96.a; have x2 := c96.b; have x3 := c96.c; have x4 := c96.d; have x5 := c96.e; have x6 := c96.f
  have y1 := c64.a; have y2 := c64.b; have y3 := c64.c; have y4 := c64.d; have y5 := c64.e; have y6 := c64.f
  simp only [ch, big, trayB, x1, x2, x3, x4, x5, x6, y1, y2, y3, y4, y5, y6, e01, e02, r0_0, r0_1, r0_2, r0_3, r0_4, r1_0, r1_1, r1_2, r1_3, r1_4, r2_0, r2_1, r2_2, r2_3, r2_4, cond_true, cond_false, Bool.not_true, Bool.not_false, Bool.not_not, z0, z64, z96, z128, qa, qb, qc, qd, w4096_4096, w6144_4096, w6144_6144, w12288_4096, w12288_6144, w12288_12288, w16384_4096, w16384_6144, w16384_12288, w16384_16384, Bool.true_and, Bool.false_and, Bool.true_or, Bool.false_or, Bool.or_false, Bool.or_true, Bool.and_true, Bool.and_false]
theorem n0_11 (n : Nat) : L13_0 96 96 0 (n + 20) 0 = some (ch 96 96 0) := by
  have x1 := c96.a; have x2 := c96.b; have x3 := c96.c; have x4 := c96.d; have x5 := c96.e; have x6 := c96.f
  have y1 := c96.a; have y2 := c96.b; have y3 := c96.c; have y4 := c96.d; have y5 := c96.e; have y6 := c96.f
  simp only [ch, big, trayB, x1, x2, x3, x4, x5, x6, y1, y2, y3, y4, y5, y6, e01, e02, r0_0, r0_1, r0_2, r0_3, r0_4, r1_0, r1_1, r1_2, r1_3, r1_4, r2_0, r2_1, r2_2, r2_3, r2_4, cond_true, cond_false, Bool.not_true, Bool.not_false, Bool.not_not, z0, z64, z96, z128, qa, qb, qc, qd, w4096_4096, w6144_4096, w6144_6144, w12288_4096, w12288_6144, w12288_12288, w16384_4096, w16384_6144, w16384_12288, w16384_16384, Bool.true_and, Bool.false_and, Bool.true_or, Bool.false_or, Bool.or_false, Bool.or_true, Bool.and_true, Bool.and_false]
theorem n0_12 (n : Nat) : L13_0 96 128 0 (n + 20) 0 = some (ch 96 128 0) := by
  have x1 := c96.a; have x2 := c96.b; have x3 := c96.c; have x4 := c96.d; have x5 := c96.e; have x6 := c96.f
  have y1 := c128.a; have y2 := c128.b; have y3 := c128.c; have y4 := c128.d; have y5 := c128.e; have y6 := c128.f
  simp only [ch, big, trayB, x1, x2, x3, x4, x5, x6, y1, y2, y3, y4, y5, y6, e01, e02, r0_0, r0_1, r0_2, r0_3, r0_4, r1_0, r1_1, r1_2, r1_3, r1_4, r2_0, r2_1, r2_2, r2_3, r2_4, cond_true, cond_false, Bool.not_true, Bool.not_false, Bool.not_not, z0, z64, z96, z128, qa, qb, qc, qd, w4096_4096, w6144_4096, w6144_6144, w12288_4096, w12288_6144, w12288_12288, w16384_4096, w16384_6144, w16384_12288, w16384_16384, Bool.true_and, Bool.false_and, Bool.true_or, Bool.false_or, Bool.or_false, Bool.or_true, Bool.and_true, Bool.and_false]
theorem n0_13 {y : Int} (hy : Cls y false false false false false false) (n : Nat) : L13_0 96 y 0 (n + 20) 0 = some (ch 96 y 0) := by
  have x1 := c96.a; have x2 := c96.b; have x3 := c96.c; have x4 := c96.d; have x5 := c96.e; have x6 := c96.f
  have y1 := hy.a; have y2 := hy.b; have y3 := hy.c; have y4 := hy.d; have y5 := hy.e; have y6 := hy.f
  simp only [ch, big, trayB, x1, x2, x3, x4, x5, x6, y1, y2, y3, y4, y5, y6, e01, e02, r0_0, r0_1, r0_2, r0_3, r0_4, r1_0, r1_1, r1_2, r1_3, r1_4, r2_0, r2_1, r2_2, r2_3, r2_4, cond_true, cond_false, Bool.not_true, Bool.not_false, Bool.not_not, z0, z64, z96, z128, qa, qb, qc, qd, w4096_4096, w6144_4096, w6144_6144, w12288_4096, w12288_6144, w12288_12288, w16384_4096, w16384_6144, w16384_12288, w16384_16384, Bool.true_and, Bool.false_and, Bool.true_or, Bool.false_or, Bool.or_false, Bool.or_true, Bool.and_true, Bool.and_false]
theorem n0_14 {y : Int} (hy : Cls y false false false true false false) (n : Nat) : L13_0 96 y 0 (n + 20) 0 = some (ch 96 y 0) := by
  have x1 := c96.a; have x2 := c96.b; have x3 := c96.c; have x4 := c96.d; have x5 := c96.e; have x6 := c96.f
  have y1 := hy.a; have y2 := hy.b; have y3 := hy.c; have y4 := hy.d; have y5 := hy.e; have y6 := hy.f
  simp only [ch, big, trayB, x1, x2, x3, x4, x5, x6, y1, y2, y3, y4, y5, y6, e01, e02, r0_0, r0_1, r0_2, r0_3, r0_4, r1_0, r1_1, r1_2, r1_3, r1_4, r2_0, r2_1, r2_2, r2_3, r2_4, cond_true, cond_false, Bool.not_true, Bool.not_false, Bool.not_not, z0, z64, z96, z128, qa, qb, qc, qd, w4096_4096, w6144_4096, w6144_6144, w12288_4096, w12288_6144, w12288_12288, w16384_4096, w16384_6144, w16384_12288, w16384_16384, Bool.true_and, Bool.false_and, Bool.true_or, Bool.false_or, Bool.or_false, Bool.or_true, Bool.and_true, Bool.and_false]
theorem n0_15 {y : Int} (hy : Cls y false false false true true false) (n : Nat) : L13_0 96 y 0 (n + 20) 0 = some (ch 96 y 0) := by
  have x1 := c96.a; have x2 := c96.b; have x3 := c96.c; have x4 := c96.d; have x5 := c96.e; have x6 := c96.f
  have y1 := hy.a; have y2 := hy.b; have y3 := hy.c; have y4 := hy.d; have y5 := hy.e; have y6 := hy.f
  simp only [ch, big, trayB, x1, x2, x3, x4, x5, x6, y1, y2, y3, y4, y5, y6, e01, e02, r0_0, r0_1, r0_2, r0_3, r0_4, r1_0, r1_1, r1_2, r1_3, r1_4, r2_0, r2_1, r2_2, r2_3, r2_4, cond_true, cond_false, Bool.not_true, Bool.not_false, Bool.not_not, z0, z64, z96, z128, qa, qb, qc, qd, w4096_4096, w6144_4096, w6144_6144, w12288_4096, w12288_6144, w12288_12288, w16384_4096, w16384_6144, w16384_12288, w16384_16384, Bool.true_and, Bool.false_and, Bool.true_or, Bool.false_or, Bool.or_false, Bool.or_true, Bool.and_true, Bool.and_false]
theorem n0_20 (n : Nat) : L13_0 128 64 0 (n + 20) 0 = some (ch 128 64 0) := by
  have x1 := c128.a; have x2 := c128.b; have x3 := c128.c; have x4 := c128.d; have x5 := c128.e; have x6 := c128.f
  have y1 := c64.a; have y2 := c64.b; have y3 := c64.c; have y4 := c64.d; have y5 := c64.e; have y6 := c64.f
  simp only [ch, big, trayB, x1, x2, x3, x4, x5, x6, y1, y2, y3, y4, y5, y6, e01, e02, r0_0, r0_1, r0_2, r0_3, r0_4, r1_0, r1_1, r1_2, r1_3, r1_4, r2_0, r2_1, r2_2, r2_3, r2_4, cond_true, cond_false, Bool.not_true, Bool.not_false, Bool.not_not, z0, z64, z96, z128, qa, qb, qc, qd, w4096_4096, w6144_4096, w6144_6144, w12288_4096, w12288_6144, w12288_12288, w16384_4096, w16384_6144, w16384_12288, w16384_16384, Bool.true_and, Bool.false_and, Bool.true_or, Bool.false_or, Bool.or_false, Bool.or_true, Bool.and_true, Bool.and_false]
theorem n0_21 (n : Nat) : L13_0 128 96 0 (n + 20) 0 = some (ch 128 96 0) := by
  have x1 := c128.a; have x2 := c128.b; have x3 := c128.c; have x4 := c128.d; have x5 := c128.e; have x6 := c128.f
  have y1 := c96.a; have y2 := c96.b; have y3 := c96.c; have y4 := c96.d; have y5 := c96.e; have y6 := c96.f
  simp only [ch, big, trayB, x1, x2, x3, x4, x5, x6, y1, y2, y3, y4, y5, y6, e01, e02, r0_0, r0_1, r0_2, r0_3, r0_4, r1_0, r1_1, r1_2, r1_3, r1_4, r2_0, r2_1, r2_2, r2_3, r2_4, cond_true, cond_false, Bool.not_true, Bool.not_false, Bool.not_not, z0, z64, z96, z128, qa, qb, qc, qd, w4096_4096, w6144_4096, w6144_6144, w12288_4096, w12288_6144, w12288_12288, w16384_4096, w16384_6144, w16384_12288, w16384_16384, Bool.true_and, Bool.false_and, Bool.true_or, Bool.false_or, Bool.or_false, Bool.or_true, Bool.and_true, Bool.and_false]
theorem n0_22 (n : Nat) : L13_0 128 128 0 (n + 20) 0 = some (ch 128 128 0) := by
  have x1 := c128.a; have x2 := c128.b; have x3 := c128.c; have x4 := c128.d; have x5 := c128.e; have x6 := c128.f
  have y1 := c128.a; have y2 := c128.b; have y3 := c128.c; have y4 := c128.d; have y5 := c128.e; have y6 := c128.f
  simp only [ch, big, trayB, x1, x2, x3, x4, x5, x6, y1, y2, y3, y4, y5, y6, e01, e02, r0_0, r0_1, r0_2, r0_3, r0_4, r1_0, r1_1, r1_2, r1_3, r1_4, r2_0, r2_1, r2_2, r2_3, r2_4, cond_true, cond_false, Bool.not_true, Bool.not_false, Bool.not_not, z0, z64, z96, z128, qa, qb, qc, qd, w4096_4096, w6144_4096, w6144_6144, w12288_4096, w12288_6144, w12288_12288, w16384_4096, w16384_6144, w16384_12288, w16384_16384, Bool.true_and, Bool.false_and, Bool.true_or, Bool.false_or, Bool.or_false, Bool.or_true, Bool.and_true, Bool.and_false]
theorem n0_23 {y : Int} (hy : Cls y false false false false false false) (n : Nat) : L13_0 128 y 0 (n + 20) 0 = some (ch 128 y 0) := by
  have x1 := c128.a; have x2 := c128.b; have x3 := c128.c; have x4 := c128.d; have x5 := c128.e; have x6 := c128.f
  have y1 := hy.a; have y2 := hy.b; have y3 := hy.c; have y4 := hy.d; have y5 := hy.e; have y6 := hy.f
  simp only [ch, big, trayB, x1, x2, x3, x4, x5, x6, y1, y2, y3, y4, y5, y6, e01, e02, r0_0, r0_1, r0_2, r0_3, r0_4, r1_0, r1_1, r1_2, r1_3, r1_4, r2_0, r2_1, r2_2, r2_3, r2_4, cond_true, cond_false, Bool.not_true, Bool.not_false, Bool.not_not, z0, z64, z96, z128, qa, qb, qc, qd, w4096_4096, w6144_4096, w6144_6144, w12288_4096, w12288_6144, w12288_12288, w16384_4096, w16384_6144, w16384_12288, w16384_16384, Bool.true_and, Bool.false_and, Bool.true_or, Bool.false_or, Bool.or_false, Bool.or_true, Bool.and_true, Bool.and_false]
theorem n0_24 {y : Int} (hy : Cls y false false false true false false) (n : Nat) : L13_0 128 y 0 (n + 20) 0 = some (ch 128 y 0) := by
  have x1 := c128.a; have x2 := c128.b; have x3 := c128.c; have x4 := c128.d; have x5 := c128.e; have x6 := c128.f
  have y1 := hy.a; have y2 := hy.b; have y3 := hy.c; have y4 := hy.d; have y5 := hy.e; have y6 := hy.f
  simp only [ch, big, trayB, x1, x2, x3, x4, x5, x6, y1, y2, y3, y4, y5, y6, e01, e02, r0_0, r0_1, r0_2, r0_3, r0_4, r1_0, r1_1, r1_2, r1_3, r1_4, r2_0, r2_1, r2_2, r2_3, r2_4, cond_true, cond_false, Bool.not_true, Bool.not_false, Bool.not_not, z0, z64, z96, z128, qa, qb, qc, qd, w4096_4096, w6144_4096, w6144_6144, w12288_4096, w12288_6144, w12288_12288, w16384_4096, w16384_6144, w16384_12288, w16384_16384, Bool.true_and, Bool.false_and, Bool.true_or, Bool.false_or, Bool.or_false, Bool.or_true, Bool.and_true, Bool.and_false]
theorem n0_25 {y : Int} (hy : Cls y false false false true true false) (n : Nat) : L13_0 128 y 0 (n + 20) 0 = some (ch 128 y 0) := by
  have x1 := c128.a; have x2 := c128.b; have x3 := c128.c; have x4 := c128.d; have x5 := c128.e; have x6 := c128.f
  have y1 := hy.a; have y2 := hy.b; have y3 := hy.c; have y4 := hy.d; have y5 := hy.e; have y6 := hy.f
  simp only [ch, big, trayB, x1, x2, x3, x4, x5, x6, y1, y2, y3, y4, y5, y6, e01, e02, r0_0, r0_1, r0_2, r0_3, r0_4, r1_0, r1_1, r1_2, r1_3, r1_4, r2_0, r2_1, r2_2, r2_3, r2_4, cond_true, cond_false, Bool.not_true, Bool.not_false, Bool.not_not, z0, z64, z96, z128, qa, qb, qc, qd, w4096_4096, w6144_4096, w6144_6144, w12288_4096, w12288_6144, w12288_12288, w16384_4096, w16384_6144, w16384_12288, w16384_16384, Bool.true_and, Bool.false_and, Bool.true_or, Bool.false_or, Bool.or_false, Bool.or_true, Bool.and_true, Bool.and_false]
theorem n0_30 {x : Int} (hx : Cls x false false false false false false) (n : Nat) : L13_0 x 64 0 (n + 20) 0 = some (ch x 64 0) := by
  have x1 := hx.a; have x2 := hx.b; have x3 := hx.c; have x4 := hx.d; have x5 := hx.e; have x6 := hx.f
  have y1 := c64.a; have y2 := c64.b; have y3 := c64.c; have y4 := c64.d; have y5 := c64.e; have y6 := c64.f
  simp only [ch, big, trayB, x1, x2, x3, x4, x5, x6, y1, y2, y3, y4, y5, y6, e01, e02, r0_0, r0_1, r0_2, r0_3, r0_4, r1_0, r1_1, r1_2, r1_3, r1_4, r2_0, r2_1, r2_2, r2_3, r2_4, cond_true, cond_false, Bool.not_true, Bool.not_false, Bool.not_not, z0, z64, z96, z128, qa, qb, qc, qd, w4096_4096, w6144_4096, w6144_6144, w12288_4096, w12288_6144, w12288_12288, w16384_4096, w16384_6144, w16384_12288, w16384_16384, Bool.true_and, Bool.false_and, Bool.true_or, Bool.false_or, Bool.or_false, Bool.or_true, Bool.and_true, Bool.and_false]
theorem n0_31 {x : Int} (hx : Cls x false false false false false false) (n : Nat) : L13_0 x 96 0 (n + 20) 0 = some (ch x 96 0) := by
  have x1 := hx.a; have x2 := hx.b; have x3 := hx.c; have x4 := hx.d; have x5 := hx.e; have x6 := hx.f
  have y1 := c96.a; have y2 := c96.b; have y3 := c96.c; have y4 := c96.d; have y5 := c96.e; have y6 := c96.f
  simp only [ch, big, trayB, x1, x2, x3, x4, x5, x6, y1, y2, y3, y4, y5, y6, e01, e02, r0_0, r0_1, r0_2, r0_3, r0_4, r1_0, r1_1, r1_2, r1_3, r1_4, r2_0, r2_1, r2_2, r2_3, r2_4, cond_true, cond_false, Bool.not_true, Bool.not_false, Bool.not_not, z0, z64, z96, z128, qa, qb, qc, qd, w4096_4096, w6144_4096, w6144_6144, w12288_4096, w12288_6144, w12288_12288, w16384_4096, w16384_6144, w16384_12288, w16384_16384, Bool.true_and, Bool.false_and, Bool.true_or, Bool.false_or, Bool.or_false, Bool.or_true, Bool.and_true, Bool.and_false]
theorem n0_32 {x : Int} (hx : Cls x false false false false false false) (n : Nat) : L13_0 x 128 0 (n + 20) 0 = some (ch x 128 0) := by
  have x1 := hx.a; have x2 := hx.b; have x3 := hx.c; have x4 := hx.d; have x5 := hx.e; have x6 := hx.f
  have y1 := c128.a; have y2 := c128.b; have y3 := c128.c; have y4 := c128.d; have y5 := c128.e; have y6 := c128.f
  simp only [ch, big, trayB, x1, x2, x3, x4, x5, x6, y1, y2, y3, y4, y5, y6, e01, e02, r0_0, r0_1, r0_2, r0_3, r0_4, r1_0, r1_1, r1_2, r1_3, r1_4, r2_0, r2_1, r2_2, r2_3, r2_4, cond_true, cond_false, Bool.not_true, Bool.not_false, Bool.not_not, z0, z64, z96, z128, qa, qb, qc, qd, w4096_4096, w6144_4096, w6144_6144, w12288_4096, w12288_6144, w12288_12288, w16384_4096, w16384_6144, w16384_12288, w16384_16384, Bool.true_and, Bool.false_and, Bool.true_or, Bool.false_or, Bool.or_false, Bool.or_true, Bool.and_true, Bool.and_false]
theorem n0_33 {x : Int} {y : Int} (hx : Cls x false false false false false false) (hy : Cls y false false false false false false) (n : Nat) : L13_0 x y 0 (n + 20) 0 = some (ch x y 0) := by
  have x1 := hx.a; have x2 := hx.b; have x3 := hx.c; have x4 := hx.d; have x5 := hx.e; have x6 := hx.f
  have y1 := hy.a; have y2 := hy.b; have y3 := hy.c; have y4 := hy.d; have y5 := hy.e; have y6 := hy.f
  simp only [ch, big, trayB, x1, x2, x3, x4, x5, x6, y1, y2, y3, y4, y5, y6, e01, e02, r0_0, r0_1, r0_2, r0_3, r0_4, r1_0, r1_1, r1_2, r1_3, r1_4, r2_0, r2_1, r2_2, r2_3, r2_4, cond_true, cond_false, Bool.not_true, Bool.not_false, Bool.not_not, z0, z64, z96, z128, qa, qb, qc, qd, w4096_4096, w6144_4096, w6144_6144, w12288_4096, w12288_6144, w12288_12288, w16384_4096, w16384_6144, w16384_12288, w16384_16384, Bool.true_and, Bool.false_and, Bool.true_or, Bool.false_or, Bool.or_false, Bool.or_true, Bool.and_true, Bool.and_false]
theorem n0_34 {x : Int} {y : Int} (hx : Cls x false false false false false false) (hy : Cls y false false false true false false) (n : Nat) : L13_0 x y 0 (n + 20) 0 = some (ch x y 0) := by
  have x1 := hx.a; have x2 := hx.b; have x3 := hx.c; have x4 := hx.d; have x5 := hx.e; have x6 := hx.f
  have y1 := hy.a; have y2 := hy.b; have y3 := hy.c; have y4 := hy.d; have y5 := hy.e; have y6 := hy.f
  simp only [ch, big, trayB, x1, x2, x3, x4, x5, x6, y1, y2, y3, y4, y5, y6, e01, e02, r0_0, r0_1, r0_2, r0_3, r0_4, r1_0, r1_1, r1_2, r1_3, r1_4, r2_0, r2_1, r2_2, r2_3, r2_4, cond_true, cond_false, Bool.not_true, Bool.not_false, Bool.not_not, z0, z64, z96, z128, qa, qb, qc, qd, w4096_4096, w6144_4096, w6144_6144, w12288_4096, w12288_6144, w12288_12288, w16384_4096, w16384_6144, w16384_12288, w16384_16384, Bool.true_and, Bool.false_and, Bool.true_or, Bool.false_or, Bool.or_false, Bool.or_true, Bool.and_true, Bool.and_false]
theorem n0_35 {x : Int} {y : Int} (hx : Cls x false false false false false false) (hy : Cls y false false false true true false) (n : Nat) : L13_0 x y 0 (n + 20) 0 = some (ch x y 0) := by
  have x1 := hx.a; have x2 := hx.b; have x3 := hx.c; have x4 := hx.d; have x5 := hx.e; have x6 := hx.f
  have y1 := hy.a; have y2 := hy.b; have y3 := hy.c; have y4 := hy.d; have y5 := hy.e; have y6 := hy.f
  simp only [ch, big, trayB, x1, x2, x3, x4, x5, x6, y1, y2, y3, y4, y5, y6, e01, e02, r0_0, r0_1, r0_2, r0_3, r0_4, r1_0, r1_1, r1_2, r1_3, r1_4, r2_0, r2_1, r2_2, r2_3, r2_4, cond_true, cond_false, Bool.not_true, Bool.not_false, Bool.not_not, z0, z64, z96, z128, qa, qb, qc, qd, w4096_4096, w6144_4096, w6144_6144, w12288_4096, w12288_6144, w12288_12288, w16384_4096, w16384_6144, w16384_12288, w16384_16384, Bool.true_and, Bool.false_and, Bool.true_or, Bool.false_or, Bool.or_false, Bool.or_true, Bool.and_true, Bool.and_false]
theorem n0_40 {x : Int} (hx : Cls x false false false true false false) (n : Nat) : L13_0 x 64 0 (n + 20) 0 = some (ch x 64 0) := by
  have x1 := hx.a; have x2 := hx.b; have x3 := hx.c; have x4 := hx.d; have x5 := hx.e; have x6 := hx.f
  have y1 := c64.a; have y2 := c64.b; have y3 := c64.c; have y4 := c64.d; have y5 := c64.e; have y6 := c64.f
  simp only [ch, big, trayB, x1, x2, x3, x4, x5, x6, y1, y2, y3, y4, y5, y6, e01, e02, r0_0, r0_1, r0_2, r0_3, r0_4, r1_0, r1_1, r1_2, r1_3, r1_4, r2_0, r2_1, r2_2, r2_3, r2_4, cond_true, cond_false, Bool.not_true, Bool.not_false, Bool.not_not, z0, z64, z96, z128, qa, qb, qc, qd, w4096_4096, w6144_4096, w6144_6144, w12288_4096, w12288_6144, w12288_12288, w16384_4096, w16384_6144, w16384_12288, w16384_16384, Bool.true_and, Bool.false_and, Bool.true_or, Bool.false_or, Bool.or_false, Bool.or_true, Bool.and_true, Bool.and_false]
theorem n0_41 {x : Int} (hx : Cls x false false false true false false) (n : Nat) : L13_0 x 96 0 (n + 20) 0 = some (ch x 96 0) := by
  have x1 := hx.a; have x2 := hx.b; have x3 := hx.c; have x4 := hx.d; have x5 := hx.e; have x6 := hx.f
  have y1 := c96.a; have y2 := c96.b; have y3 := c96.c; have y4 := c96.d; have y5 := c96.e; have y6 := c96.f
  simp only [ch, big, trayB, x1, x2, x3, x4, x5, x6, y1, y2, y3, y4, y5, y6, e01, e02, r0_0, r0_1, r0_2, r0_3, r0_4, r1_0, r1_1, r1_2, r1_3, r1_4, r2_0, r2_1, r2_2, r2_3, r2_4, cond_true, cond_false, Bool.not_true, Bool.not_false, Bool.not_not, z0, z64, z96, z128, qa, qb, qc, qd, w4096_4096, w6144_4096, w6144_6144, w12288_4096, w12288_6144, w12288_12288, w16384_4096, w16384_6144, w16384_12288, w16384_16384, Bool.true_and, Bool.false_and, Bool.true_or, Bool.false_or, Bool.or_false, Bool.or_true, Bool.and_true, Bool.and_false]
theorem n0_42 {x : Int} (hx : Cls x false false false true false false) (n : Nat) : L13_0 x 128 0 (n + 20) 0 = some (ch x 128 0) := by
  have x1 := hx.a; have x2 := hx.b; have x3 := hx.c; have x4 := hx.d; have x5 := hx.e; have x6 := hx.f
  have y1 := c128.a; have y2 := c128.b; have y3 := c128.c; have y4 := c128.d; have y5 := c128.e; have y6 := c128.f
  simp only [ch, big, trayB, x1, x2, x3, x4, x5, x6, y1, y2, y3, y4, y5, y6, e01, e02, r0_0, r0_1, r0_2, r0_3, r0_4, r1_0, r1_1, r1_2, r1_3, r1_4, r2_0, r2_1, r2_2, r2_3, r2_4, cond_true, cond_false, Bool.not_true, Bool.not_false, Bool.not_not, z0, z64, z96, z128, qa, qb, qc, qd, w4096_4096, w6144_4096, w6144_6144, w12288_4096, w12288_6144, w12288_12288, w16384_4096, w16384_6144, w16384_12288, w16384_16384, Bool.true_and, Bool.false_and, Bool.true_or, Bool.false_or, Bool.or_false, Bool.or_true, Bool.and_true, Bool.and_false]
theorem n0_43 {x : Int} {y : Int} (hx : Cls x false false false true false false) (hy : Cls y false false false false false false) (n : Nat) : L13_0 x y 0 (n + 20) 0 = some (ch x y 0) := by
  have x1 := hx.a; have x2 := hx.b; have x3 := hx.c; have x4 := hx.d; have x5 := hx.e; have x6 := hx.f
  have y1 := hy.a; have y2 := hy.b; have y3 := hy.c; have y4 := hy.d; have y5 := hy.e; have y6 := hy.f
  simp only [ch, big, trayB, x1, x2, x3, x4, x5, x6, y1, y2, y3, y4, y5, y6, e01, e02, r0_0, r0_1, r0_2, r0_3, r0_4, r1_0, r1_1, r1_2, r1_3, r1_4, r2_0, r2_1, r2_2, r2_3, r2_4, cond_true, cond_false, Bool.not_true, Bool.not_false, Bool.not_not, z0, z64, z96, z128, qa, qb, qc, qd, w4096_4096, w6144_4096, w6144_6144, w12288_4096, w12288_6144, w12288_12288, w16384_4096, w16384_6144, w16384_12288, w16384_16384, Bool.true_and, Bool.false_and, Bool.true_or, Bool.false_or, Bool.or_false, Bool.or_true, Bool.and_true, Bool.and_false]
theorem n0_44 {x : Int} {y : Int} (hx : Cls x false false false true false false) (hy : Cls y false false false true false false) (n : Nat) : L13_0 x y 0 (n + 20) 0 = some (ch x y 0) := by
  have x1 := hx.a; have x2 := hx.b; have x3 := hx.c; have x4 := hx.d; have x5 := hx.e; have x6 := hx.f
  have y1 := hy.a; have y2 := hy.b; have y3 := hy.c; have y4 := hy.d; have y5 := hy.e; have y6 := hy.f
  simp only [ch, big, trayB, x1, x2, x3, x4, x5, x6, y1, y2, y3, y4, y5, y6, e01, e02, r0_0, r0_1, r0_2, r0_3, r0_4, r1_0, r1_1, r1_2, r1_3, r1_4, r2_0, r2_1, r2_2, r2_3, r2_4, cond_true, cond_false, Bool.not_true, Bool.not_false, Bool.not_not, z0, z64, z96, z128, qa, qb, qc, qd, w4096_4096, w6144_4096, w6144_6144, w12288_4096, w12288_6144, w12288_12288, w16384_4096, w16384_6144, w16384_12288, w16384_16384, Bool.true_and, Bool.false_and, Bool.true_or, Bool.false_or, Bool.or_false, Bool.or_true, Bool.and_true, Bool.and_false]
theorem n0_45 {x : Int} {y : Int} (hx : Cls x false false false true false false) (hy : Cls y false false false true true false) (n : Nat) : L13_0 x y 0 (n + 20) 0 = some (ch x y 0) := by
  have x1 := hx.a; have x2 := hx.b; have x3 := hx.c; have x4 := hx.d; have x5 := hx.e; have x6 := hx.f
  have y1 := hy.a; have y2 := hy.b; have y3 := hy.c; have y4 := hy.d; have y5 := hy.e; have y6 := hy.f
  simp only [ch, big, trayB, x1, x2, x3, x4, x5, x6, y1, y2, y3, y4, y5, y6, e01, e02, r0_0, r0_1, r0_2, r0_3, r0_4, r1_0, r1_1, r1_2, r1_3, r1_4, r2_0, r2_1, r2_2, r2_3, r2_4, cond_true, cond_false, Bool.not_true, Bool.not_false, Bool.not_not, z0, z64, z96, z128, qa, qb, qc, qd, w4096_4096, w6144_4096, w6144_6144, w12288_4096, w12288_6144, w12288_12288, w16384_4096, w16384_6144, w16384_12288, w16384_16384, Bool.true_and, Bool.false_and, Bool.true_or, Bool.false_or, Bool.or_false, Bool.or_true, Bool.and_true, Bool.and_false]
theorem n0_50 {x : Int} (hx : Cls x false false false true true false) (n : Nat) : L13_0 x 64 0 (n + 20) 0 = some (ch x 64 0) := by
  have x1 := hx.a; have x2 := hx.b; have x3 := hx.c; have x4 := hx.d; have x5 := hx.e; have x6 := hx.f
  have y1 := c64.a; have y2 := c64.b; have y3 := c64.c; have y4 := c64.d; have y5 := c64.e; have y6 := c64.f
  simp only [ch, big, trayB, x1, x2, x3, x4, x5, x6, y1, y2, y3, y4, y5, y6, e01, e02, r0_0, r0_1, r0_2, r0_3, r0_4, r1_0, r1_1, r1_2, r1_3, r1_4, r2_0, r2_1, r2_2, r2_3, r2_4, cond_true, cond_false, Bool.not_true, Bool.not_false, Bool.not_not, z0, z64, z96, z128, qa, qb, qc, qd, w4096_4096, w6144_4096, w6144_6144, w12288_4096, w12288_6144, w12288_12288, w16384_4096, w16384_6144, w16384_12288, w16384_16384, Bool.true_and, Bool.false_and, Bool.true_or, Bool.false_or, Bool.or_false, Bool.or_true, Bool.and_true, Bool.and_false]
theorem n0_51 {x : Int} (hx : Cls x false false false true true false) (n : Nat) : L13_0 x 96 0 (n + 20) 0 = some (ch x 96 0) := by
  have x1 := hx.a; have x2 := hx.b; have x3 := hx.c; have x4 := hx.d; have x5 := hx.e; have x6 := hx.f
  have y1 := c96.a; have y2 := c96.b; have y3 := c96.c; have y4 := c96.d; have y5 := c96.e; have y6 := c96.f
  simp only [ch, big, trayB, x1, x2, x3, x4, x5, x6, y1, y2, y3, y4, y5, y6, e01, e02, r0_0, r0_1, r0_2, r0_3, r0_4, r1_0, r1_1, r1_2, r1_3, r1_4, r2_0, r2_1, r2_2, r2_3, r2_4, cond_true, cond_false, Bool.not_true, Bool.not_false, Bool.not_not, z0, z64, z96, z128, qa, qb, qc, qd, w4096_4096, w6144_4096, w6144_6144, w12288_4096, w12288_6144, w12288_12288, w16384_4096, w16384_6144, w16384_12288, w16384_16384, Bool.true_and, Bool.false_and, Bool.true_or, Bool.false_or, Bool.or_false, Bool.or_true, Bool.and_true, Bool.and_false]
theorem n0_52 {x : Int} (hx : Cls x false false false true true false) (n : Nat) : L13_0 x 128 0 (n + 20) 0 = some (ch x 128 0) := by
  have x1 := hx.a; have x2 := hx.b; have x3 := hx.c; have x4 := hx.d; have x5 := hx.e; have x6 := hx.f
  have y1 := c128.a; have y2 := c128.b; have y3 := c128.c; have y4 := c128.d; have y5 := c128.e; have y6 := c128.f
  simp only [ch, big, trayB, x1, x2, x3, x4, x5, x6, y1, y2, y3, y4, y5, y6, e01, e02, r0_0, r0_1, r0_2, r0_3, r0_4, r1_0, r1_1, r1_2, r1_3, r1_4, r2_0, r2_1, r2_2, r2_3, r2_4, cond_true, cond_false, Bool.not_true, Bool.not_false, Bool.not_not, z0, z64, z96, z128, qa, qb, qc, qd, w4096_4096, w6144_4096, w6144_6144, w12288_4096, w12288_6144, w12288_12288, w16384_4096, w16384_6144, w16384_12288, w16384_16384, Bool.true_and, Bool.false_and, Bool.true_or, Bool.false_or, Bool.or_false, Bool.or_true, Bool.and_true, Bool.and_false]
theorem n0_53 {x : Int} {y : Int} (hx : Cls x false false false true true false) (hy : Cls y false false false false false false) (n : Nat) : L13_0 x y 0 (n + 20) 0 = some (ch x y 0) := by
  have x1 := hx.a; have x2 := hx.b; have x3 := hx.c; have x4 := hx.d; have x5 := hx.e; have x6 := hx.f
  have y1 := hy.a; have y2 := hy.b; have y3 := hy.c; have y4 := hy.d; have y5 := hy.e; have y6 := hy.f
  simp only [ch, big, trayB, x1, x2, x3, x4, x5, x6, y1, y2, y3, y4, y5, y6, e01, e02, r0_0, r0_1, r0_2, r0_3, r0_4, r1_0, r1_1, r1_2, r1_3, r1_4, r2_0, r2_1, r2_2, r2_3, r2_4, cond_true, cond_false, Bool.not_true, Bool.not_false, Bool.not_not, z0, z64, z96, z128, qa, qb, qc, qd, w4096_4096, w6144_4096, w6144_6144, w12288_4096, w12288_6144, w12288_12288, w16384_4096, w16384_6144, w16384_12288, w16384_16384, Bool.true_and, Bool.false_and, Bool.true_or, Bool.false_or, Bool.or_false, Bool.or_true, Bool.and_true, Bool.and_false]
theorem n0_54 {x : Int} {y : Int} (hx : Cls x false false false true true false) (hy : Cls y false false false true false false) (n : Nat) : L13_0 x y 0 (n + 20) 0 = some (ch x y 0) := by
  have x1 := hx.a; have x2 := hx.b; have x3 := hx.c; have x4 := hx.d; have x5 := hx.e; have x6 := hx.f
  have y1 := hy.a; have y2 := hy.b; have y3 := hy.c; have y4 := hy.d; have y5 := hy.e; have y6 := hy.f
  simp only [ch, big, trayB, x1, x2, x3, x4, x5, x6, y1, y2, y3, y4, y5, y6, e01, e02, r0_0, r0_1, r0_2, r0_3, r0_4, r1_0, r1_1, r1_2, r1_3, r1_4, r2_0, r2_1, r2_2, r2_3, r2_4, cond_true, cond_false, Bool.not_true, Bool.not_false, Bool.not_not, z0, z64, z96, z128, qa, qb, qc, qd, w4096_4096, w6144_4096, w6144_6144, w12288_4096, w12288_6144, w12288_12288, w16384_4096, w16384_6144, w16384_12288, w16384_16384, Bool.true_and, Bool.false_and, Bool.true_or, Bool.false_or, Bool.or_false, Bool.or_true, Bool.and_true, Bool.and_false]
theorem n0_55 {x : Int} {y : Int} (hx : Cls x false false false true true false) (hy : Cls y false false false true true false) (n : Nat) : L13_0 x y 0 (n + 20) 0 = some (ch x y 0) := by
  have x1 := hx.a; have x2 := hx.b; have x3 := hx.c; have x4 := hx.d; have x5 := hx.e; have x6 := hx.f
  have y1 := hy.a; have y2 := hy.b; have y3 := hy.c; have y4 := hy.d; have y5 := hy.e; have y6 := hy.f
  simp only [ch, big, trayB, x1, x2, x3, x4, x5, x6, y1, y2, y3, y4, y5, y6, e01, e02, r0_0, r0_1, r0_2, r0_3, r0_4, r1_0, r1_1, r1_2, r1_3, r1_4, r2_0, r2_1, r2_2, r2_3, r2_4, cond_true, cond_false, Bool.not_true, Bool.not_false, Bool.not_not, z0, z64, z96, z128, qa, qb, qc, qd, w4096_4096, w6144_4096, w6144_6144, w12288_4096, w12288_6144, w12288_12288, w16384_4096, w16384_6144, w16384_12288, w16384_16384, Bool.true_and, Bool.false_and, Bool.true_or, Bool.false_or, Bool.or_false, Bool.or_true, Bool.and_true, Bool.and_false]
theorem n1_00 (n : Nat) : L13_0 64 64 1 (n + 20) 0 = some (ch 64 64 1) := by
  have x1 := c64.a; have x2 := c64.b; have x3 := c64.c; have x4 := c64.d; have x5 := c64.e; have x6 := c64.f
  have y1 := c64.a; have y2 := c64.b; have y3 := c64.c; have y4 := c64.d; have y5 := c64.e; have y6 := c64.f
  simp only [ch, big, trayB, x1, x2, x3, x4, x5, x6, y1, y2, y3, y4, y5, y6, e11, e12, r0_0, r0_1, r0_2, r0_3, r0_4, r1_0, r1_1, r1_2, r1_3, r1_4, r2_0, r2_1, r2_2, r2_3, r2_4, cond_true, cond_false, Bool.not_true, Bool.not_false, Bool.not_not, z0, z64, z96, z128, qa, qb, qc, qd, w4096_4096, w6144_4096, w6144_6144, w12288_4096, w12288_6144, w12288_12288, w16384_4096, w16384_6144, w16384_12288, w16384_16384, Bool.true_and, Bool.false_and, Bool.true_or, Bool.false_or, Bool.or_false, Bool.or_true, Bool.and_true, Bool.and_false]
theorem n1_01 (n : Nat) : L13_0 64 96 1 (n + 20) 0 = some (ch 64 96 1) := by
  have x1 := c64.a; have x2 := c64.b; have x3 := c64.c; have x4 := c64.d; have x5 := c64.e; have x6 := c64.f
  have y1 := c96.a; have y2 := c96.b; have y3 := c96.c; have y4 := c96.d; have y5 := c96.e; have y6 := c96.f
  simp only [ch, big, trayB, x1, x2, x3, x4, x5, x6, y1, y2, y3, y4, y5, y6, e11, e12, r0_0, r0_1, r0_2, r0_3, r0_4, r1_0, r1_1, r1_2, r1_3, r1_4, r2_0, r2_1, r2_2, r2_3, r2_4, cond_true, cond_false, Bool.not_true, Bool.not_false, Bool.not_not, z0, z64, z96, z128, qa, qb, qc, qd, w4096_4096, w6144_4096, w6144_6144, w12288_4096, w12288_6144, w12288_12288, w16384_4096, w16384_6144, w16384_12288, w16384_16384, Bool.true_and, Bool.false_and, Bool.true_or, Bool.false_or, Bool.or_false, Bool.or_true, Bool.and_true, Bool.and_false]
theorem n1_02 (n : Nat) : L13_0 64 128 1 (n + 20) 0 = some (ch 64 128 1) := by
  have x1 := c64.a; have x2 := c64.b; have x3 := c64.c; have x4 := c64.d; have x5 := c64.e; have x6 := c64.f
  have y1 := c128.a; have y2 := c128.b; have y3 := c128.c; have y4 := c128.d; have y5 := c128.e; have y6 := c128.f
  simp only [ch, big, trayB, x1, x2, x3, x4, x5, x6, y1, y2, y3, y4, y5, y6, e11, e12, r0_0, r0_1, r0_2, r0_3, r0_4, r1_0, r1_1, r1_2, r1_3, r1_4, r2_0, r2_1, r2_2, r2_3, r2_4, cond_true, cond_false, Bool.not_true, Bool.not_false, Bool.not_not, z0, z64, z96, z128, qa, qb, qc, qd, w4096_4096, w6144_4096, w6144_6144, w12288_4096, w12288_6144, w12288_12288, w16384_4096, w16384_6144, w16384_12288, w16384_16384, Bool.true_and, Bool.false_and, Bool.true_or, Bool.false_or, Bool.or_false, Bool.or_true, Bool.and_true, Bool.and_false]
theorem n1_03 {y : Int} (hy : Cls y false false false false false false) (n : Nat) : L13_0 64 y 1 (n + 20) 0 = some (ch 64 y 1) := by
  have x1 := c64.a; have x2 := c64.b; have x3 := c64.c; have x4 := c64.d; have x5 := c64.e; have x6 := c64.f
  have y1 := hy.a; have y2 := hy.b; have y3 := hy.c; have y4 := hy.d; have y5 := hy.e; have y6 := hy.f
  simp only [ch, big, trayB, x1, x2, x3, x4, x5, x6, y1, y2, y3, y4, y5, y6, e11, e12, r0_0, r0_1, r0_2, r0_3, r0_4, r1_0, r1_1, r1_2, r1_3, r1_4, r2_0, r2_1, r2_2, r2_3, r2_4, cond_true, cond_false, Bool.not_true, Bool.not_false, Bool.not_not, z0, z64, z96, z128, qa, qb, qc, qd, w4096_4096, w6144_4096, w6144_6144, w12288_4096, w12288_6144, w12288_12288, w16384_4096, w16384_6144, w16384_12288, w16384_16384, Bool.true_and, Bool.false_and, Bool.true_or, Bool.false_or, Bool.or_false, Bool.or_true, Bool.and_true, Bool.and_false]
theorem n1_04 {y : Int} (hy : Cls y false false false true false false) (n : Nat) : L13_0 64 y 1 (n + 20) 0 = some (ch 64 y 1) := by
  have x1 := c64.a; have x2 := c64.b; have x3 := c64.c; have x4 := c64.d; have x5 := c64.e; have x6 := c64.f
  have y1 := hy.a; have y2 := hy.b; have y3 := hy.c; have y4 := hy.d; have y5 := hy.e; have y6 := hy.f
  simp only [ch, big, trayB, x1, x2, x3, x4, x5, x6, y1, y2, y3, y4, y5, y6, e11, e12, r0_0, r0_1, r0_2, r0_3, r0_4, r1_0, r1_1, r1_2, r1_3, r1_4, r2_0, r2_1, r2_2, r2_3, r2_4, cond_true, cond_false, Bool.not_true, Bool.not_false, Bool.not_not, z0, z64, z96, z128, qa, qb, qc, qd, w4096_4096, w6144_4096, w6144_6144, w12288_4096, w12288_6144, w12288_12288, w16384_4096, w16384_6144, w16384_12288, w16384_16384, Bool.true_and, Bool.false_and, Bool.true_or, Bool.false_or, Bool.or_false, Bool.or_true, Bool.and_true, Bool.and_false]
theorem n1_05 {y : Int} (hy : Cls y false false false true true false) (n : Nat) : L13_0 64 y 1 (n + 20) 0 = some (ch 64 y 1) := by
  have x1 := c64.a; have x2 := c64.b; have x3 := c64.c; have x4 := c64.d; have x5 := c64.e; have x6 := c64.f
  have y1 := hy.a; have y2 := hy.b; have y3 := hy.c; have y4 := hy.d; have y5 := hy.e; have y6 := hy.f
  simp only [ch, big, trayB, x1, x2, x3, x4, x5, x6, y1, y2, y3, y4, y5, y6, e11, e12, r0_0, r0_1, r0_2, r0_3, r0_4, r1_0, r1_1, r1_2, r1_3, r1_4, r2_0, r2_1, r2_2, r2_3, r2_4, cond_true, cond_false, Bool.not_true, Bool.not_false, Bool.not_not, z0, z64, z96, z128, qa, qb, qc, qd, w4096_4096, w6144_4096, w6144_6144, w12288_4096, w12288_6144, w12288_12288, w16384_4096, w16384_6144, w16384_12288, w16384_16384, Bool.true_and, Bool.false_and, Bool.true_or, Bool.false_or, Bool.or_false, Bool.or_true, Bool.and_true, Bool.and_false]
theorem n1_10 (n : Nat) : L13_0 96 64 1 (n + 20) 0 = some (ch 96 64 1) := by
  have x1 := c96.a; have x2 := c96.b; have x3 := c96.c; have x4 := c96.d; have x5 := c96.e; have x6 := c96.f
  have y1 := c64.a; have y2 := c64.b; have y3 := c64.c; have y4 := c64.d; have y5 := c64.e; have y6 := c64.f
  simp only [ch, big, trayB, x1, x2, x3, x4, x5, x6, y1, y2, y3, y4, y5, y6, e11, e12, r0_0, r0_1, r0_2, r0_3, r0_4, r1_0, r1_1, r1_2, r1_3, r1_4, r2_0, r2_1, r2_2, r2_3, r2_4, cond_true, cond_false, Bool.not_true, Bool.not_false, Bool.not_not, z0, z64, z96, z128, qa, qb, qc, qd, w4096_4096, w6144_4096, w6144_6144, w12288_4096, w12288_6144, w12288_12288, w16384_4096, w16384_6144, w16384_12288, w16384_16384, Bool.true_and, Bool.false_and, Bool.true_or, Bool.false_or, Bool.or_false, Bool.or_true, Bool.and_true, Bool.and_false]
theorem n1_11 (n : Nat) : L13_0 96 96 1 (n + 20) 0 = some (ch 96 96 1) := by
  have x1 := c96.a; have x2 := c96.b; have x3 := c96.c; have x4 := c96.d; have x5 := c96.e; have x6 := c96.f
  have y1 := c96.a; have y2 := c96.b; have y3 := c96.c; have y4 := c96.d; have y5 := c96.e; have y6 := c96.f
  simp only [ch, big, trayB, x1, x2, x3, x4, x5, x6, y1, y2, y3, y4, y5, y6, e11, e12, r0_0, r0_1, r0_2, r0_3, r0_4, r1_0, r1_1, r1_2, r1_3, r1_4, r2_0, r2_1, r2_2, r2_3, r2_4, cond_true, cond_false, Bool.not_true, Bool.not_false, Bool.not_not, z0, z64, z96, z128, qa, qb, qc, qd, w4096_4096, w6144_4096, w6144_6144, w12288_4096, w12288_6144, w12288_12288, w16384_4096, w16384_6144, w16384_12288, w16384_16384, Bool.true_and, Bool.false_and, Bool.true_or, Bool.false_or, Bool.or_false, Bool.or_true, Bool.and_true, Bool.and_false]
theorem n1_12 (n : Nat) : L13_0 96 128 1 (n + 20) 0 = some (ch 96 128 1) := by
  have x1 := c96.a; have x2 := c96.b; have x3 := c96.c; have x4 := c96.d; have x5 := c96.e; have x6 := c96.f
  have y1 := c128.a; have y2 := c128.b; have y3 := c128.c; have y4 := c128.d; have y5 := c128.e; have y6 := c128.f
  simp only [ch, big, trayB, x1, x2, x3, x4, x5, x6, y1, y2, y3, y4, y5, y6, e11, e12, r0_0, r0_1, r0_2, r0_3, r0_4, r1_0, r1_1, r1_2, r1_3, r1_4, r2_0, r2_1, r2_2, r2_3, r2_4, cond_true, cond_false, Bool.not_true, Bool.not_false, Bool.not_not, z0, z64, z96, z128, qa, qb, qc, qd, w4096_4096, w6144_4096, w6144_6144, w12288_4096, w12288_6144, w12288_12288, w16384_4096, w16384_6144, w16384_12288, w16384_16384, Bool.true_and, Bool.false_and, Bool.true_or, Bool.false_or, Bool.or_false, Bool.or_true, Bool.and_true, Bool.and_false]
theorem n1_13 {y : Int} (hy : Cls y false false false false false false) (n : Nat) : L13_0 96 y 1 (n + 20) 0 = some (ch 96 y 1) := by
  have x1 := c96.a; have x2 := c96.b; have x3 := c96.c; have x4 := c96.d; have x5 := c96.e; have x6 := c96.f
  have y1 := hy.a; have y2 := hy.b; have y3 := hy.c; have y4 := hy.d; have y5 := hy.e; have y6 := hy.f
  simp only [ch, big, trayB, x1, x2, x3, x4, x5, x6, y1, y2, y3, y4, y5, y6, e11, e12, r0_0, r0_1, r0_2, r0_3, r0_4, r1_0, r1_1, r1_2, r1_3, r1_4, r2_0, r2_1, r2_2, r2_3, r2_4, cond_true, cond_false, Bool.not_true, Bool.not_false, Bool.not_not, z0, z64, z96, z128, qa, qb, qc, qd, w4096_4096, w6144_4096, w6144_6144, w12288_4096, w12288_6144, w12288_12288, w16384_4096, w16384_6144, w16384_12288, w16384_16384, Bool.true_and, Bool.false_and, Bool.true_or, Bool.false_or, Bool.or_false, Bool.or_true, Bool.and_true, Bool.and_false]
theorem n1_14 {y : Int} (hy : Cls y false false false true false false) (n : Nat) : L13_0 96 y 1 (n + 20) 0 = some (ch 96 y 1) := by
  have x1 := c96.a; have x2 := c96.b; have x3 := c96.c; have x4 := c96.d; have x5 := c96.e; have x6 := c96.f
  have y1 := hy.a; have y2 := hy.b; have y3 := hy.c; have y4 := hy.d; have y5 := hy.e; have y6 := hy.f
  simp only [ch, big, trayB, x1, x2, x3, x4, x5, x6, y1, y2, y3, y4, y5, y6, e11, e12, r0_0, r0_1, r0_2, r0_3, r0_4, r1_0, r1_1, r1_2, r1_3, r1_4, r2_0, r2_1, r2_2, r2_3, r2_4, cond_true, cond_false, Bool.not_true, Bool.not_false, Bool.not_not, z0, z64, z96, z128, qa, qb, qc, qd, w4096_4096, w6144_4096, w6144_6144, w12288_4096, w12288_6144, w12288_12288, w16384_4096, w16384_6144, w16384_12288, w16384_16384, Bool.true_and, Bool.false_and, Bool.true_or, Bool.false_or, Bool.or_false, Bool.or_true, Bool.and_true, Bool.and_false]
theorem n1_15 {y : Int} (hy : Cls y false false false true true false) (n : Nat) : L13_0 96 y 1 (n + 20) 0 = some (ch 96 y 1) := by
  have x1 := c96.a; have x2 := c96.b; have x3 := c96.c; have x4 := c96.d; have x5 := c96.e; have x6 := c96.f
  have y1 := hy.a; have y2 := hy.b; have y3 := hy.c; have y4 := hy.d; have y5 := hy.e; have y6 := hy.f
  simp only [ch, big, trayB, x1, x2, x3, x4, x5, x6, y1, y2, y3, y4, y5, y6, e11, e12, r0_0, r0_1, r0_2, r0_3, r0_4, r1_0, r1_1, r1_2, r1_3, r1_4, r2_0, r2_1, r2_2, r2_3, r2_4, cond_true, cond_false, Bool.not_true, Bool.not_false, Bool.not_not, z0, z64, z96, z128, qa, qb, qc, qd, w4096_4096, w6144_4096, w6144_6144, w12288_4096, w12288_6144, w12288_12288, w16384_4096, w16384_6144, w16384_12288, w16384_16384, Bool.true_and, Bool.false_and, Bool.true_or, Bool.false_or, Bool.or_false, Bool.or_true, Bool.and_true, Bool.and_false]
theorem n1_20 (n : Nat) : L13_0 128 64 1 (n + 20) 0 = some (ch 128 64 1) := by
  have x1 := c128.a; have x2 := c128.b; have x3 := c128.c; have x4 := c128.d; have x5 := c128.e; have x6 := c128.f
  have y1 := c64.a; have y2 := c64.b; have y3 := c64.c; have y4 := c64.d; have y5 := c64.e; have y6 := c64.f
  simp only [ch, big, trayB, x1, x2, x3, x4, x5, x6, y1, y2, y3, y4, y5, y6, e11, e12, r0_0, r0_1, r0_2, r0_3, r0_4, r1_0, r1_1, r1_2, r1_3, r1_4, r2_0, r2_1, r2_2, r2_3, r2_4, cond_true, cond_false, Bool.not_true, Bool.not_false, Bool.not_not, z0, z64, z96, z128, qa, qb, qc, qd, w4096_4096, w6144_4096, w6144_6144, w12288_4096, w12288_6144, w12288_12288, w16384_4096, w16384_6144, w16384_12288, w16384_16384, Bool.true_and, Bool.false_and, Bool.true_or, Bool.false_or, Bool.or_false, Bool.or_true, Bool.and_true, Bool.and_false]
theorem n1_21 (n : Nat) : L13_0 128 96 1 (n + 20) 0 = some (ch 128 96 1) := by
  have x1 := c128.a; have x2 := c128.b; have x3 := c128.c; have x4 := c128.d; have x5 := c128.e; have x6 := c128.f
  have y1 := c96.a; have y2 := c96.b; have y3 := c96.c; have y4 := c96.d; have y5 := c96.e; have y6 := c96.f
  simp only [ch, big, trayB, x1, x2, x3, x4, x5, x6, y1, y2, y3, y4, y5, y6, e11, e12, r0_0, r0_1, r0_2, r0_3, r0_4, r1_0, r1_1, r1_2, r1_3, r1_4, r2_0, r2_1, r2_2, r2_3, r2_4, cond_true, cond_false, Bool.not_true, Bool.not_false, Bool.not_not, z0, z64, z96, z128, qa, qb, qc, qd, w4096_4096, w6144_4096, w6144_6144, w12288_4096, w12288_6144, w12288_12288, w16384_4096, w16384_6144, w16384_12288, w16384_16384, Bool.true_and, Bool.false_and, Bool.true_or, Bool.false_or, Bool.or_false, Bool.or_true, Bool.and_true, Bool.and_false]
theorem n1_22 (n : Nat) : L13_0 128 128 1 (n + 20) 0 = some (ch 128 128 1) := by
  have x1 := c128.a; have x2 := c128.b; have x3 := c128.c; have x4 := c128.d; have x5 := c128.e; have x6 := c128.f
  have y1 := c128.a; have y2 := c128.b; have y3 := c128.c; have y4 := c128.d; have y5 := c128.e; have y6 := c128.f
  simp only [ch, big, trayB, x1, x2, x3, x4, x5, x6, y1, y2, y3, y4, y5, y6, e11, e12, r0_0, r0_1, r0_2, r0_3, r0_4, r1_0, r1_1, r1_2, r1_3, r1_4, r2_0, r2_1, r2_2, r2_3, r2_4, cond_true, cond_false, Bool.not_true, Bool.not_false, Bool.not_not, z0, z64, z96, z128, qa, qb, qc, qd, w4096_4096, w6144_4096, w6144_6144, w12288_4096, w12288_6144, w12288_12288, w16384_4096, w16384_6144, w16384_12288, w16384_16384, Bool.true_and, Bool.false_and, Bool.true_or, Bool.false_or, Bool.or_false, Bool.or_true, Bool.and_true, Bool.and_false]
theorem n1_23 {y : Int} (hy : Cls y false false false false false false) (n : Nat) : L13_0 128 y 1 (n + 20) 0 = some (ch 128 y 1) := by
  have x1 := c128.a; have x2 := c128.b; have x3 := c128.c; have x4 := c128.d; have x5 := c128.e; have x6 := c128.f
  have y1 := hy.a; have y2 := hy.b; have y3 := hy.c; have y4 := hy.d; have y5 := hy.e; have y6 := hy.f
  simp only [ch, big, trayB, x1, x2, x3, x4, x5, x6, y1, y2, y3, y4, y5, y6, e11, e12, r0_0, r0_1, r0_2, r0_3, r0_4, r1_0, r1_1, r1_2, r1_3, r1_4, r2_0, r2_1, r2_2, r2_3, r2_4, cond_true, cond_false, Bool.not_true, Bool.not_false, Bool.not_not, z0, z64, z96, z128, qa, qb, qc, qd, w4096_4096, w6144_4096, w6144_6144, w12288_4096, w12288_6144, w12288_12288, w16384_4096, w16384_6144, w16384_12288, w16384_16384, Bool.true_and, Bool.false_and, Bool.true_or, Bool.false_or, Bool.or_false, Bool.or_true, Bool.and_true, Bool.and_false]
theorem n1_24 {y : Int} (hy : Cls y false false false true false false) (n : Nat) : L13_0 128 y 1 (n + 20) 0 = some (ch 128 y 1) := by
  have x1 := c128.a; have x2 := c128.b; have x3 := c128.c; have x4 := c128.d; have x5 := c128.e; have x6 := c128.f
  have y1 := hy.a; have y2 := hy.b; have y3 := hy.c; have y4 := hy.d; have y5 := hy.e; have y6 := hy.f
  simp only [ch, big, trayB, x1, x2, x3, x4, x5, x6, y1, y2, y3, y4, y5, y6, e11, e12, r0_0, r0_1, r0_2, r0_3, r0_4, r1_0, r1_1, r1_2, r1_3, r1_4, r2_0, r2_1, r2_2, r2_3, r2_4, cond_true, cond_false, Bool.not_true, Bool.not_false, Bool.not_not, z0, z64, z96, z128, qa, qb, qc, qd, w4096_4096, w6144_4096, w6144_6144, w12288_4096, w12288_6144, w12288_12288, w16384_4096, w16384_6144, w16384_12288, w16384_16384, Bool.true_and, Bool.false_and, Bool.true_or, Bool.false_or, Bool.or_false, Bool.or_true, Bool.and_true, Bool.and_false]
theorem n1_25 {y : Int} (hy : Cls y false false false true true false) (n : Nat) : L13_0 128 y 1 (n + 20) 0 = some (ch 128 y 1) := by
  have x1 := c128.a; have x2 := c128.b; have x3 := c128.c; have x4 := c128.d; have x5 := c128.e; have x6 := c128.f
  have y1 := hy.a; have y2 := hy.b; have y3 := hy.c; have y4 := hy.d; have y5 := hy.e; have y6 := hy.f
  simp only [ch, big, trayB, x1, x2, x3, x4, x5, x6, y1, y2, y3, y4, y5, y6, e11, e12, r0_0, r0_1, r0_2, r0_3, r0_4, r1_0, r1_1, r1_2, r1_3, r1_4, r2_0, r2_1, r2_2, r2_3, r2_4, cond_true, cond_false, Bool.not_true, Bool.not_false, Bool.not_not, z0, z64, z96, z128, qa, qb, qc, qd, w4096_4096, w6144_4096, w6144_6144, w12288_4096, w12288_6144, w12288_12288, w16384_4096, w16384_6144, w16384_12288, w16384_16384, Bool.true_and, Bool.false_and, Bool.true_or, Bool.false_or, Bool.or_false, Bool.or_true, Bool.and_true, Bool.and_false]
theorem n1_30 {x : Int} (hx : Cls x false false false false false false) (n : Nat) : L13_0 x 64 1 (n + 20) 0 = some (ch x 64 1) := by
  have x1 := hx.a; have x2 := hx.b; have x3 := hx.c; have x4 := hx.d; have x5 := hx.e; have x6 := hx.f
  have y1 := c64.a; have y2 := c64.b; have y3 := c64.c; have y4 := c64.d; have y5 := c64.e; have y6 := c64.f
  simp only [ch, big, trayB, x1, x2, x3, x4, x5, x6, y1, y2, y3, y4, y5, y6, e11, e12, r0_0, r0_1, r0_2, r0_3, r0_4, r1_0, r1_1, r1_2, r1_3, r1_4, r2_0, r2_1, r2_2, r2_3, r2_4, cond_true, cond_false, Bool.not_true, Bool.not_false, Bool.not_not, z0, z64, z96, z128, qa, qb, qc, qd, w4096_4096, w6144_4096, w6144_6144, w12288_4096, w12288_6144, w12288_12288, w16384_4096, w16384_6144, w16384_12288, w16384_16384, Bool.true_and, Bool.false_and, Bool.true_or, Bool.false_or, Bool.or_false, Bool.or_true, Bool.and_true, Bool.and_false]
theorem n1_31 {x : Int} (hx : Cls x false false false false false false) (n : Nat) : L13_0 x 96 1 (n + 20) 0 = some (ch x 96 1) := by
  have x1 := hx.a; have x2 := hx.b; have x3 := hx.c; have x4 := hx.d; have x5 := hx.e; have x6 := hx.f
  have y1 := c96.a; have y2 := c96.b; have y3 := c96.c; have y4 := c96.d; have y5 := c96.e; have y6 := c96.f
  simp only [ch, big, trayB, x1, x2, x3, x4, x5, x6, y1, y2, y3, y4, y5, y6, e11, e12, r0_0, r0_1, r0_2, r0_3, r0_4, r1_0, r1_1, r1_2, r1_3, r1_4, r2_0, r2_1, r2_2, r2_3, r2_4, cond_true, cond_false, Bool.not_true, Bool.not_false, Bool.not_not, z0, z64, z96, z128, qa, qb, qc, qd, w4096_4096, w6144_4096, w6144_6144, w12288_4096, w12288_6144, w12288_12288, w16384_4096, w16384_6144, w16384_12288, w16384_16384, Bool.true_and, Bool.false_and, Bool.true_or, Bool.false_or, Bool.or_false, Bool.or_true, Bool.and_true, Bool.and_false]
theorem n1_32 {x : Int} (hx : Cls x false false false false false false) (n : Nat) : L13_0 x 128 1 (n + 20) 0 = some (ch x 128 1) := by
  have x1 := hx.a; have x2 := hx.b; have x3 := hx.c; have x4 := hx.d; have x5 := hx.e; have x6 := hx.f
  have y1 := c128.a; have y2 := c128.b; have y3 := c128.c; have y4 := c128.d; have y5 := c128.e; have y6 := c128.f
  simp only [ch, big, trayB, x1, x2, x3, x4, x5, x6, y1, y2, y3, y4, y5, y6, e11, e12, r0_0, r0_1, r0_2, r0_3, r0_4, r1_0, r1_1, r1_2, r1_3, r1_4, r2_0, r2_1, r2_2, r2_3, r2_4, cond_true, cond_false, Bool.not_true, Bool.not_false, Bool.not_not, z0, z64, z96, z128, qa, qb, qc, qd, w4096_4096, w6144_4096, w6144_6144, w12288_4096, w12288_6144, w12288_12288, w16384_4096, w16384_6144, w16384_12288, w16384_16384, Bool.true_and, Bool.false_and, Bool.true_or, Bool.false_or, Bool.or_false, Bool.or_true, Bool.and_true, Bool.and_false]
theorem n1_33 {x : Int} {y : Int} (hx : Cls x false false false false false false) (hy : Cls y false false false false false false) (n : Nat) : L13_0 x y 1 (n + 20) 0 = some (ch x y 1) := by
  have x1 := hx.a; have x2 := hx.b; have x3 := hx.c; have x4 := hx.d; have x5 := hx.e; have x6 := hx.f
  have y1 := hy.a; have y2 := hy.b; have y3 := hy.c; have y4 := hy.d; have y5 := hy.e; have y6 := hy.f
  simp only [ch, big, trayB, x1, x2, x3, x4, x5, x6, y1, y2, y3, y4, y5, y6, e11, e12, r0_0, r0_1, r0_2, r0_3, r0_4, r1_0, r1_1, r1_2, r1_3, r1_4, r2_0, r2_1, r2_2, r2_3, r2_4, cond_true, cond_false, Bool.not_true, Bool.not_false, Bool.not_not, z0, z64, z96, z128, qa, qb, qc, qd, w4096_4096, w6144_4096, w6144_6144, w12288_4096, w12288_6144, w12288_12288, w16384_4096, w16384_6144, w16384_12288, w16384_16384, Bool.true_and, Bool.false_and, Bool.true_or, Bool.false_or, Bool.or_false, Bool.or_true, Bool.and_true, Bool.and_false]
theorem n1_34 {x : Int} {y : Int} (hx : Cls x false false false false false false) (hy : Cls y false false false true false false) (n : Nat) : L13_0 x y 1 (n + 20) 0 = some (ch x y 1) := by
  have x1 := hx.a; have x2 := hx.b; have x3 := hx.c; have x4 := hx.d; have x5 := hx.e; have x6 := hx.f
  have y1 := hy.a; have y2 := hy.b; have y3 := hy.c; have y4 := hy.d; have y5 := hy.e; have y6 := hy.f
  simp only [ch, big, trayB, x1, x2, x3, x4, x5, x6, y1, y2, y3, y4, y5, y6, e11, e12, r0_0, r0_1, r0_2, r0_3, r0_4, r1_0, r1_1, r1_2, r1_3, r1_4, r2_0, r2_1, r2_2, r2_3, r2_4, cond_true, cond_false, Bool.not_true, Bool.not_false, Bool.not_not, z0, z64, z96, z128, qa, qb, qc, qd, w4096_4096, w6144_4096, w6144_6144, w12288_4096, w12288_6144, w12288_12288, w16384_4096, w16384_6144, w16384_12288, w16384_16384, Bool.true_and, Bool.false_and, Bool.true_or, Bool.false_or, Bool.or_false, Bool.or_true, Bool.and_true, Bool.and_false]
theorem n1_35 {x : Int} {y : Int} (hx : Cls x false false false false false false) (hy : Cls y false false false true true false) (n : Nat) : L13_0 x y 1 (n + 20) 0 = some (ch x y 1) := by
  have x1 := hx.a; have x2 := hx.b; have x3 := hx.c; have x4 := hx.d; have x5 := hx.e; have x6 := hx.f
  have y1 := hy.a; have y2 := hy.b; have y3 := hy.c; have y4 := hy.d; have y5 := hy.e; have y6 := hy.f
  simp only [ch, big, trayB, x1, x2, x3, x4, x5, x6, y1, y2, y3, y4, y5, y6, e11, e12, r0_0, r0_1, r0_2, r0_3, r0_4, r1_0, r1_1, r1_2, r1_3, r1_4, r2_0, r2_1, r2_2, r2_3, r2_4, cond_true, cond_false, Bool.not_true, Bool.not_false, Bool.not_not, z0, z64, z96, z128, qa, qb, qc, qd, w4096_4096, w6144_4096, w6144_6144, w12288_4096, w12288_6144, w12288_12288, w16384_4096, w16384_6144, w16384_12288, w16384_16384, Bool.true_and, Bool.false_and, Bool.true_or, Bool.false_or, Bool.or_false, Bool.or_true, Bool.and_true, Bool.and_false]
theorem n1_40 {x : Int} (hx : Cls x false false false true false false) (n : Nat) : L13_0 x 64 1 (n + 20) 0 = some (ch x 64 1) := by
  have x1 := hx.a; have x2 := hx.b; have x3 := hx.c; have x4 := hx.d; have x5 := hx.e; have x6 := hx.f
  have y1 := c64.a; have y2 := c64.b; have y3 := c64.c; have y4 := c64.d; have y5 := c64.e; have y6 := c64.f
  simp only [ch, big, trayB, x1, x2, x3, x4, x5, x6, y1, y2, y3, y4, y5, y6, e11, e12, r0_0, r0_1, r0_2, r0_3, r0_4, r1_0, r1_1, r1_2, r1_3, r1_4, r2_0, r2_1, r2_2, r2_3, r2_4, cond_true, cond_false, Bool.not_true, Bool.not_false, Bool.not_not, z0, z64, z96, z128, qa, qb, qc, qd, w4096_4096, w6144_4096, w6144_6144, w12288_4096, w12288_6144, w12288_12288, w16384_4096, w16384_6144, w16384_12288, w16384_16384, Bool.true_and, Bool.false_and, Bool.true_or, Bool.false_or, Bool.or_false, Bool.or_true, Bool.and_true, Bool.and_false]
theorem n1_41 {x : Int} (hx : Cls x false false false true false false) (n : Nat) : L13_0 x 96 1 (n + 20) 0 = some (ch x 96 1) := by
  have x1 := hx.a; have x2 := hx.b; have x3 := hx.c; have x4 := hx.d; have x5 := hx.e; have x6 := hx.f
  have y1 := c96.a; have y2 := c96.b; have y3 := c96.c; have y4 := c96.d; have y5 := c96.e; have y6 := c96.f
  simp only [ch, big, trayB, x1, x2, x3, x4, x5, x6, y1, y2, y3, y4, y5, y6, e11, e12, r0_0, r0_1, r0_2, r0_3, r0_4, r1_0, r1_1, r1_2, r1_3, r1_4, r2_0, r2_1, r2_2, r2_3, r2_4, cond_true, cond_false, Bool.not_true, Bool.not_false, Bool.not_not, z0, z64, z96, z128, qa, qb, qc, qd, w4096_4096, w6144_4096, w6144_6144, w12288_4096, w12288_6144, w12288_12288, w16384_4096, w16384_6144, w16384_12288, w16384_16384, Bool.true_and, Bool.false_and, Bool.true_or, Bool.false_or, Bool.or_false, Bool.or_true, Bool.and_true, Bool.and_false]
theorem n1_42 {x : Int} (hx : Cls x false false false true false false) (n : Nat) : L13_0 x 128 1 (n + 20) 0 = some (ch x 128 1) := by
  have x1 := hx.a; have x2 := hx.b; have x3 := hx.c; have x4 := hx.d; have x5 := hx.e; have x6 := hx.f
  have y1 := c128.a; have y2 := c128.b; have y3 := c128.c; have y4 := c128.d; have y5 := c128.e; have y6 := c128.f
  simp only [ch, big, trayB, x1, x2, x3, x4, x5, x6, y1, y2, y3, y4, y5, y6, e11, e12, r0_0, r0_1, r0_2, r0_3, r0_4, r1_0, r1_1, r1_2, r1_3, r1_4, r2_0, r2_1, r2_2, r2_3, r2_4, cond_true, cond_false, Bool.not_true, Bool.not_false, Bool.not_not, z0, z64, z96, z128, qa, qb, qc, qd, w4096_4096, w6144_4096, w6144_6144, w12288_4096, w12288_6144, w12288_12288, w16384_4096, w16384_6144, w16384_12288, w16384_16384, Bool.true_and, Bool.false_and, Bool.true_or, Bool.false_or, Bool.or_false, Bool.or_true, Bool.and_true, Bool.and_false]
theorem n1_43 {x : Int} {y : Int} (hx : Cls x false false false true false false) (hy : Cls y false false false false false false) (n : Nat) : L13_0 x y 1 (n + 20) 0 = some (ch x y 1) := by
  have x1 := hx.a; have x2 := hx.b; have x3 := hx.c; have x4 := hx.d; have x5 := hx.e; have x6 := hx.f
  have y1 := hy.a; have y2 := hy.b; have y3 := hy.c; have y4 := hy.d; have y5 := hy.e; have y6 := hy.f
  simp only [ch, big, trayB, x1, x2, x3, x4, x5, x6, y1, y2, y3, y4, y5, y6, e11, e12, r0_0, r0_1, r0_2, r0_3, r0_4, r1_0, r1_1, r1_2, r1_3, r1_4, r2_0, r2_1, r2_2, r2_3, r2_4, cond_true, cond_false, Bool.not_true, Bool.not_false, Bool.not_not, z0, z64, z96, z128, qa, qb, qc, qd, w4096_4096, w6144_4096, w6144_6144, w12288_4096, w12288_6144, w12288_12288, w16384_4096, w16384_6144, w16384_12288, w16384_16384, Bool.true_and, Bool.false_and, Bool.true_or, Bool.false_or, Bool.or_false, Bool.or_true, Bool.and_true, Bool.and_false]
theorem n1_44 {x : Int} {y : Int} (hx : Cls x false false false true false false) (hy : Cls y false false false true false false) (n : Nat) : L13_0 x y 1 (n + 20) 0 = some (ch x y 1) := by
  have x1 := hx.a; have x2 := hx.b; have x3 := hx.c; have x4 := hx.d; have x5 := hx.e; have x6 := hx.f
  have y1 := hy.a; have y2 := hy.b; have y3 := hy.c; have y4 := hy.d; have y5 := hy.e; have y6 := hy.f
  simp only [ch, big, trayB, x1, x2, x3, x4, x5, x6, y1, y2, y3, y4, y5, y6, e11, e12, r0_0, r0_1, r0_2, r0_3, r0_4, r1_0, r1_1, r1_2, r1_3, r1_4, r2_0, r2_1, r2_2, r2_3, r2_4, cond_true, cond_false, Bool.not_true, Bool.not_false, Bool.not_not, z0, z64, z96, z128, qa, qb, qc, qd, w4096_4096, w6144_4096, w6144_6144, w12288_4096, w12288_6144, w12288_12288, w16384_4096, w16384_6144, w16384_12288, w16384_16384, Bool.true_and, Bool.false_and, Bool.true_or, Bool.false_or, Bool.or_false, Bool.or_true, Bool.and_true, Bool.and_false]
theorem n1_45 {x : Int} {y : Int} (hx : Cls x false false false true false false) (hy : Cls y false false false true true false) (n : Nat) : L13_0 x y 1 (n + 20) 0 = some (ch x y 1) := by
  have x1 := hx.a; have x2 := hx.b; have x3 := hx.c; have x4 := hx.d; have x5 := hx.e; have x6 := hx.f
  have y1 := hy.a; have y2 := hy.b; have y3 := hy.c; have y4 := hy.d; have y5 := hy.e; have y6 := hy.f
  simp only [ch, big, trayB, x1, x2, x3, x4, x5, x6, y1, y2, y3, y4, y5, y6, e11, e12, r0_0, r0_1, r0_2, r0_3, r0_4, r1_0, r1_1, r1_2, r1_3, r1_4, r2_0, r2_1, r2_2, r2_3, r2_4, cond_true, cond_false, Bool.not_true, Bool.not_false, Bool.not_not, z0, z64, z96, z128, qa, qb, qc, qd, w4096_4096, w6144_4096, w6144_6144, w12288_4096, w12288_6144, w12288_12288, w16384_4096, w16384_6144, w16384_12288, w16384_16384, Bool.true_and, Bool.false_and, Bool.true_or, Bool.false_or, Bool.or_false, Bool.or_true, Bool.and_true, Bool.and_false]
theorem n1_50 {x : Int} (hx : Cls x false false false true true false) (n : Nat) : L13_0 x 64 1 (n + 20) 0 = some (ch x 64 1) := by
  have x1 := hx.a; have x2 := hx.b; have x3 := hx.c; have x4 := hx.d; have x5 := hx.e; have x6 := hx.f
  have y1 := c64.a; have y2 := c64.b; have y3 := c64.c; have y4 := c64.d; have y5 := c64.e; have y6 := c64.f
  simp only [ch, big, trayB, x1, x2, x3, x4, x5, x6, y1, y2, y3, y4, y5, y6, e11, e12, r0_0, r0_1, r0_2, r0_3, r0_4, r1_0, r1_1, r1_2, r1_3, r1_4, r2_0, r2_1, r2_2, r2_3, r2_4, cond_true, cond_false, Bool.not_true, Bool.not_false, Bool.not_not, z0, z64, z96, z128, qa, qb, qc, qd, w4096_4096, w6144_4096, w6144_6144, w12288_4096, w12288_6144, w12288_12288, w16384_4096, w16384_6144, w16384_12288, w16384_16384, Bool.true_and, Bool.false_and, Bool.true_or, Bool.false_or, Bool.or_false, Bool.or_true, Bool.and_true, Bool.and_false]
theorem n1_51 {x : Int} (hx : Cls x false false false true true false) (n : Nat) : L13_0 x 96 1 (n + 20) 0 = some (ch x 96 1) := by
  have x1 := hx.a; have x2 := hx.b; have x3 := hx.c; have x4 := hx.d; have x5 := hx.e; have x6 := hx.f
  have y1 := c96.a; have y2 := c96.b; have y3 := c96.c; have y4 := c96.d; have y5 := c96.e; have y6 := c96.f
  simp only [ch, big, trayB, x1, x2, x3, x4, x5, x6, y1, y2, y3, y4, y5, y6, e11, e12, r0_0, r0_1, r0_2, r0_3, r0_4, r1_0, r1_1, r1_2, r1_3, r1_4, r2_0, r2_1, r2_2, r2_3, r2_4, cond_true, cond_false, Bool.not_true, Bool.not_false, Bool.not_not, z0, z64, z96, z128, qa, qb, qc, qd, w4096_4096, w6144_4096, w6144_6144, w12288_4096, w12288_6144, w12288_12288, w16384_4096, w16384_6144, w16384_12288, w16384_16384, Bool.true_and, Bool.false_and, Bool.true_or, Bool.false_or, Bool.or_false, Bool.or_true, Bool.and_true, Bool.and_false]
theorem n1_52 {x : Int} (hx : Cls x false false false true true false) (n : Nat) : L13_0 x 128 1 (n + 20) 0 = some (ch x 128 1) := by
  have x1 := hx.a; have x2 := hx.b; have x3 := hx.c; have x4 := hx.d; have x5 := hx.e; have x6 := hx.f
  have y1 := c128.a; have y2 := c128.b; have y3 := c128.c; have y4 := c128.d; have y5 := c128.e; have y6 := c128.f
  simp only [ch, big, trayB, x1, x2, x3, x4, x5, x6, y1, y2, y3, y4, y5, y6, e11, e12, r0_0, r0_1, r0_2, r0_3, r0_4, r1_0, r1_1, r1_2, r1_3, r1_4, r2_0, r2_1, r2_2, r2_3, r2_4, cond_true, cond_false, Bool.not_true, Bool.not_false, Bool.not_not, z0, z64, z96, z128, qa, qb, qc, qd, w4096_4096, w6144_4096, w6144_6144, w12288_4096, w12288_6144, w12288_12288, w16384_4096, w16384_6144, w16384_12288, w16384_16384, Bool.true_and, Bool.false_and, Bool.true_or, Bool.false_or, Bool.or_false, Bool.or_true, Bool.and_true, Bool.and_false]
theorem n1_53 {x : Int} {y : Int} (hx : Cls x false false false true true false) (hy : Cls y false false false false false false) (n : Nat) : L13_0 x y 1 (n + 20) 0 = some (ch x y 1) := by
  have x1 := hx.a; have x2 := hx.b; have x3 := hx.c; have x4 := hx.d; have x5 := hx.e; have x6 := hx.f
  have y1 := hy.a; have y2 := hy.b; have y3 := hy.c; have y4 := hy.d; have y5 := hy.e; have y6 := hy.f
  simp only [ch, big, trayB, x1, x2, x3, x4, x5, x6, y1, y2, y3, y4, y5, y6, e11, e12, r0_0, r0_1, r0_2, r0_3, r0_4, r1_0, r1_1, r1_2, r1_3, r1_4, r2_0, r2_1, r2_2, r2_3, r2_4, cond_true, cond_false, Bool.not_true, Bool.not_false, Bool.not_not, z0, z64, z96, z128, qa, qb, qc, qd, w4096_4096, w6144_4096, w6144_6144, w12288_4096, w12288_6144, w12288_12288, w16384_4096, w16384_6144, w16384_12288, w16384_16384, Bool.true_and, Bool.false_and, Bool.true_or, Bool.false_or, Bool.or_false, Bool.or_true, Bool.and_true, Bool.and_false]
theorem n1_54 {x : Int} {y : Int} (hx : Cls x false false false true true false) (hy : Cls y false false false true false false) (n : Nat) : L13_0 x y 1 (n + 20) 0 = some (ch x y 1) := by
  have x1 := hx.a; have x2 := hx.b; have x3 := hx.c; have x4 := hx.d; have x5 := hx.e; have x6 := hx.f
  have y1 := hy.a; have y2 := hy.b; have y3 := hy.c; have y4 := hy.d; have y5 := hy.e; have y6 := hy.f
  simp only [ch, big, trayB, x1, x2, x3, x4, x5, x6, y1, y2, y3, y4, y5, y6, e11, e12, r0_0, r0_1, r0_2, r0_3, r0_4, r1_0, r1_1, r1_2, r1_3, r1_4, r2_0, r2_1, r2_2, r2_3, r2_4, cond_true, cond_false, Bool.not_true, Bool.not_false, Bool.not_not, z0, z64, z96, z128, qa, qb, qc, qd, w4096_4096, w6144_4096, w6144_6144, w12288_4096, w12288_6144, w12288_12288, w16384_4096, w16384_6144, w16384_12288, w16384_16384, Bool.true_and, Bool.false_and, Bool.true_or, Bool.false_or, Bool.or_false, Bool.or_true, Bool.and_true, Bool.and_false]
theorem n1_55 {x : Int} {y : Int} (hx : Cls x false false false true true false) (hy : Cls y false false false true true false) (n : Nat) : L13_0 x y 1 (n + 20) 0 = some (ch x y 1) := by
  have x1 := hx.a; have x2 := hx.b; have x3 := hx.c; have x4 := hx.d; have x5 := hx.e; have x6 := hx.f
  have y1 := hy.a; have y2 := hy.b; have y3 := hy.c; have y4 := hy.d; have y5 := hy.e; have y6 := hy.f
  simp only [ch, big, trayB, x1, x2, x3, x4, x5, x6, y1, y2, y3, y4, y5, y6, e11, e12, r0_0, r0_1, r0_2, r0_3, r0_4, r1_0, r1_1, r1_2, r1_3, r1_4, r2_0, r2_1, r2_2, r2_3, r2_4, cond_true, cond_false, Bool.not_true, Bool.not_false, Bool.not_not, z0, z64, z96, z128, qa, qb, qc, qd, w4096_4096, w6144_4096, w6144_6144, w12288_4096, w12288_6144, w12288_12288, w16384_4096, w16384_6144, w16384_12288, w16384_16384, Bool.true_and, Bool.false_and, Bool.true_or, Bool.false_or, Bool.or_false, Bool.or_true, Bool.and_true, Bool.and_false]
theorem n2_00 (n : Nat) : L13_0 64 64 2 (n + 20) 0 = some (ch 64 64 2) := by
  have x1 := c64.a; have x2 := c64.b; have x3 := c64.c; have x4 := c64.d; have x5 := c64.e; have x6 := c64.f
  have y1 := c64.a; have y2 := c64.b; have y3 := c64.c; have y4 := c64.d; have y5 := c64.e; have y6 := c64.f
  simp only [ch, big, trayB, x1, x2, x3, x4, x5, x6, y1, y2, y3, y4, y5, y6, e21, e22, r0_0, r0_1, r0_2, r0_3, r0_4, r1_0, r1_1, r1_2, r1_3, r1_4, r2_0, r2_1, r2_2, r2_3, r2_4, cond_true, cond_false, Bool.not_true, Bool.not_false, Bool.not_not, z0, z64, z96, z128, qa, qb, qc, qd, w4096_4096, w6144_4096, w6144_6144, w12288_4096, w12288_6144, w12288_12288, w16384_4096, w16384_6144, w16384_12288, w16384_16384, Bool.true_and, Bool.false_and, Bool.true_or, Bool.false_or, Bool.or_false, Bool.or_true, Bool.and_true, Bool.and_false]
theorem n2_01 (n : Nat) : L13_0 64 96 2 (n + 20) 0 = some (ch 64 96 2) := by
  have x1 := c64.a; have x2 := c64.b; have x3 := c64.c; have x4 := c64.d; have x5 := c64.e; have x6 := c64.f
  have y1 := c96.a; have y2 := c96.b; have y3 := c96.c; have y4 := c96.d; have y5 := c96.e; have y6 := c96.f
  simp only [ch, big, trayB, x1, x2, x3, x4, x5, x6, y1, y2, y3, y4, y5, y6, e21, e22, r0_0, r0_1, r0_2, r0_3, r0_4, r1_0, r1_1, r1_2, r1_3, r1_4, r2_0, r2_1, r2_2, r2_3, r2_4, cond_true, cond_false, Bool.not_true, Bool.not_false, Bool.not_not, z0, z64, z96, z128, qa, qb, qc, qd, w4096_4096, w6144_4096, w6144_6144, w12288_4096, w12288_6144, w12288_12288, w16384_4096, w16384_6144, w16384_12288, w16384_16384, Bool.true_and, Bool.false_and, Bool.true_or, Bool.false_or, Bool.or_false, Bool.or_true, Bool.and_true, Bool.and_false]
theorem n2_02 (n : Nat) : L13_0 64 128 2 (n + 20) 0 = some (ch 64 128 2) := by
  have x1 := c64.a; have x2 := c64.b; have x3 := c64.c; have x4 := c64.d; have x5 := c64.e; have x6 := c64.f
  have y1 := c128.a; have y2 := c128.b; have y3 := c128.c; have y4 := c128.d; have y5 := c128.e; have y6 := c128.f
  simp only [ch, big, trayB, x1, x2, x3, x4, x5, x6, y1, y2, y3, y4, y5, y6, e21, e22, r0_0, r0_1, r0_2, r0_3, r0_4, r1_0, r1_1, r1_2, r1_3, r1_4, r2_0, r2_1, r2_2, r2_3, r2_4, cond_true, cond_false, Bool.not_true, Bool.not_false, Bool.not_not, z0, z64, z96, z128, qa, qb, qc, qd, w4096_4096, w6144_4096, w6144_6144, w12288_4096, w12288_6144, w12288_12288, w16384_4096, w16384_6144, w16384_12288, w16384_16384, Bool.true_and, Bool.false_and, Bool.true_or, Bool.false_or, Bool.or_false, Bool.or_true, Bool.and_true, Bool.and_false]
theorem n2_03 {y : Int} (hy : Cls y false false false false false false) (n : Nat) : L13_0 64 y 2 (n + 20) 0 = some (ch 64 y 2) := by
  have x1 := c64.a; have x2 := c64.b; have x3 := c64.c; have x4 := c64.d; have x5 := c64.e; have x6 := c64.f
  have y1 := hy.a; have y2 := hy.b; have y3 := hy.c; have y4 := hy.d; have y5 := hy.e; have y6 := hy.f
  simp only [ch, big, trayB, x1, x2, x3, x4, x5, x6, y1, y2, y3, y4, y5, y6, e21, e22, r0_0, r0_1, r0_2, r0_3, r0_4, r1_0, r1_1, r1_2, r1_3, r1_4, r2_0, r2_1, r2_2, r2_3, r2_4, cond_true, cond_false, Bool.not_true, Bool.not_false, Bool.not_not, z0, z64, z96, z128, qa, qb, qc, qd, w4096_4096, w6144_4096, w6144_6144, w12288_4096, w12288_6144, w12288_12288, w16384_4096, w16384_6144, w16384_12288, w16384_16384, Bool.true_and, Bool.false_and, Bool.true_or, Bool.false_or, Bool.or_false, Bool.or_true, Bool.and_true, Bool.and_false]
theorem n2_04 {y : Int} (hy : Cls y false false false true false false) (n : Nat) : L13_0 64 y 2 (n + 20) 0 = some (ch 64 y 2) := by
  have x1 := c64.a; have x2 := c64.b; have x3 := c64.c; have x4 := c64.d; have x5 := c64.e; have x6 := c64.f
  have y1 := hy.a; have y2 := hy.b; have y3 := hy.c; have y4 := hy.d; have y5 := hy.e; have y6 := hy.f
  simp only [ch, big, trayB, x1, x2, x3, x4, x5, x6, y1, y2, y3, y4, y5, y6, e21, e22, r0_0, r0_1, r0_2, r0_3, r0_4, r1_0, r1_1, r1_2, r1_3, r1_4, r2_0, r2_1, r2_2, r2_3, r2_4, cond_true, cond_false, Bool.not_true, Bool.not_false, Bool.not_not, z0, z64, z96, z128, qa, qb, qc, qd, w4096_4096, w6144_4096, w6144_6144, w12288_4096, w12288_6144, w12288_12288, w16384_4096, w16384_6144, w16384_12288, w16384_16384, Bool.true_and, Bool.false_and, Bool.true_or, Bool.false_or, Bool.or_false, Bool.or_true, Bool.and_true, Bool.and_false]
theorem n2_05 {y : Int} (hy : Cls y false false false true true false) (n : Nat) : L13_0 64 y 2 (n + 20) 0 = some (ch 64 y 2) := by
  have x1 := c64.a; have x2 := c64.b; have x3 := c64.c; have x4 := c64.d; have x5 := c64.e; have x6 := c64.f
  have y1 := hy.a; have y2 := hy.b; have y3 := hy.c; have y4 := hy.d; have y5 := hy.e; have y6 := hy.f
  simp only [ch, big, trayB, x1, x2, x3, x4, x5, x6, y1, y2, y3, y4, y5, y6, e21, e22, r0_0, r0_1, r0_2, r0_3, r0_4, r1_0, r1_1, r1_2, r1_3, r1_4, r2_0, r2_1, r2_2, r2_3, r2_4, cond_true, cond_false, Bool.not_true, Bool.not_false, Bool.not_not, z0, z64, z96, z128, qa, qb, qc, qd, w4096_4096, w6144_4096, w6144_6144, w12288_4096, w12288_6144, w12288_12288, w16384_4096, w16384_6144, w16384_12288, w16384_16384, Bool.true_and, Bool.false_and, Bool.true_or, Bool.false_or, Bool.or_false, Bool.or_true, Bool.and_true, Bool.and_false]
theorem n2_10 (n : Nat) : L13_0 96 64 2 (n + 20) 0 = some (ch 96 64 2) := by
  have x1 := c96.a; have x2 := c96.b; have x3 := c96.c; have x4 := c96.d; have x5 := c96.e; have x6 := c96.f
  have y1 := c64.a; have y2 := c64.b; have y3 := c64.c; have y4 := c64.d; have y5 := c64.e; have y6 := c64.f
  simp only [ch, big, trayB, x1, x2, x3, x4, x5, x6, y1, y2, y3, y4, y5, y6, e21, e22, r0_0, r0_1, r0_2, r0_3, r0_4, r1_0, r1_1, r1_2, r1_3, r1_4, r2_0, r2_1, r2_2, r2_3, r2_4, cond_true, cond_false, Bool.not_true, Bool.not_false, Bool.not_not, z0, z64, z96, z128, qa, qb, qc, qd, w4096_4096, w6144_4096, w6144_6144, w12288_4096, w12288_6144, w12288_12288, w16384_4096, w16384_6144, w16384_12288, w16384_16384, Bool.true_and, Bool.false_and, Bool.true_or, Bool.false_or, Bool.or_false, Bool.or_true, Bool.and_true, Bool.and_false]
theorem n2_11 (n : Nat) : L13_0 96 96 2 (n + 20) 0 = some (ch 96 96 2) := by
  have x1 := c96.a; have x2 := c96.b; have x3 := c96.c; have x4 := c96.d; have x5 := c96.e; have x6 := c96.f
  have y1 := c96.a; have y2 := c96.b; have y3 := c96.c; have y4 := c96.d; have y5 := c96.e; have y6 := c96.f
  simp only [ch, big, trayB, x1, x2, x3, x4, x5, x6, y1, y2, y3, y4, y5, y6, e21, e22, r0_0, r0_1, r0_2, r0_3, r0_4, r1_0, r1_1, r1_2, r1_3, r1_4, r2_0, r2_1, r2_2, r2_3, r2_4, cond_true, cond_false, Bool.not_true, Bool.not_false, Bool.not_not, z0, z64, z96, z128, qa, qb, qc, qd, w4096_4096, w6144_4096, w6144_6144, w12288_4096, w12288_6144, w12288_12288, w16384_4096, w16384_6144, w16384_12288, w16384_16384, Bool.true_and, Bool.false_and, Bool.true_or, Bool.false_or, Bool.or_false, Bool.or_true, Bool.and_true, Bool.and_false]
theorem n2_12 (n : Nat) : L13_0 96 128 2 (n + 20) 0 = some (ch 96 128 2) := by
  have x1 := c96.a; have x2 := c96.b; have x3 := c96.c; have x4 := c96.d; have x5 := c96.e; have x6 := c96.f
  have y1 := c128.a; have y2 := c128.b; have y3 := c128.c; have y4 := c128.d; have y5 := c128.e; have y6 := c128.f
  simp only [ch, big, trayB, x1, x2, x3, x4, x5, x6, y1, y2, y3, y4, y5, y6, e21, e22, r0_0, r0_1, r0_2, r0_3, r0_4, r1_0, r1_1, r1_2, r1_3, r1_4, r2_0, r2_1, r2_2, r2_3, r2_4, cond_true, cond_false, Bool.not_true, Bool.not_false, Bool.not_not, z0, z64, z96, z128, qa, qb, qc, qd, w4096_4096, w6144_4096, w6144_6144, w12288_4096, w12288_6144, w12288_12288, w16384_4096, w16384_6144, w16384_12288, w16384_16384, Bool.true_and, Bool.false_and, Bool.true_or, Bool.false_or, Bool.or_false, Bool.or_true, Bool.and_true, Bool.and_false]
theorem n2_13 {y : Int} (hy : Cls y false false false false false false) (n : Nat) : L13_0 96 y 2 (n + 20) 0 = some (ch 96 y 2) := by
  have x1 := c96.a; have x2 := c96.b; have x3 := c96.c; have x4 := c96.d; have x5 := c96.e; have x6 := c96.f
  have y1 := hy.a; have y2 := hy.b; have y3 := hy.c; have y4 := hy.d; have y5 := hy.e; have y6 := hy.f
  simp only [ch, big, trayB, x1, x2, x3, x4, x5, x6, y1, y2, y3, y4, y5, y6, e21, e22, r0_0, r0_1, r0_2, r0_3, r0_4, r1_0, r1_1, r1_2, r1_3, r1_4, r2_0, r2_1, r2_2, r2_3, r2_4, cond_true, cond_false, Bool.not_true, Bool.not_false, Bool.not_not, z0, z64, z96, z128, qa, qb, qc, qd, w4096_4096, w6144_4096, w6144_6144, w12288_4096, w12288_6144, w12288_12288, w16384_4096, w16384_6144, w16384_12288, w16384_16384, Bool.true_and, Bool.false_and, Bool.true_or, Bool.false_or, Bool.or_false, Bool.or_true, Bool.and_true, Bool.and_false]
theorem n2_14 {y : Int} (hy : Cls y false false false true false false) (n : Nat) : L13_0 96 y 2 (n + 20) 0 = some (ch 96 y 2) := by
  have x1 := c96.a; have x2 := c96.b; have x3 := c96.c; have x4 := c96.d; have x5 := c96.e; have x6 := c96.f
  have y1 := hy.a; have y2 := hy.b; have y3 := hy.c; have y4 := hy.d; have y5 := hy.e; have y6 := hy.f
  simp only [ch, big, trayB, x1, x2, x3, x4, x5, x6, y1, y2, y3, y4, y5, y6, e21, e22, r0_0, r0_1, r0_2, r0_3, r0_4, r1_0, r1_1, r1_2, r1_3, r1_4, r2_0, r2_1, r2_2, r2_3, r2_4, cond_true, cond_false, Bool.not_true, Bool.not_false, Bool.not_not, z0, z64, z96, z128, qa, qb, qc, qd, w4096_4096, w6144_4096, w6144_6144, w12288_4096, w12288_6144, w12288_12288, w16384_4096, w16384_6144, w16384_12288, w16384_16384, Bool.true_and, Bool.false_and, Bool.true_or, Bool.false_or, Bool.or_false, Bool.or_true, Bool.and_true, Bool.and_false]
theorem n2_15 {y : Int} (hy : Cls y false false false true true false) (n : Nat) : L13_0 96 y 2 (n + 20) 0 = some (ch 96 y 2) := by
  have x1 := c96.a; have x2 := c96.b; have x3 := c96.c; have x4 := c96.d; have x5 := c96.e; have x6 := c96.f
  have y1 := hy.a; have y2 := hy.b; have y3 := hy.c; have y4 := hy.d; have y5 := hy.e; have y6 := hy.f
  simp only [ch, big, trayB, x1, x2, x3, x4, x5, x6, y1, y2, y3, y4, y5, y6, e21, e22, r0_0, r0_1, r0_2, r0_3, r0_4, r1_0, r1_1, r1_2, r1_3, r1_4, r2_0, r2_1, r2_2, r2_3, r2_4, cond_true, cond_false, Bool.not_true, Bool.not_false, Bool.not_not, z0, z64, z96, z128, qa, qb, qc, qd, w4096_4096, w6144_4096, w6144_6144, w12288_4096, w12288_6144, w12288_12288, w16384_4096, w16384_6144, w16384_12288, w16384_16384, Bool.true_and, Bool.false_and, Bool.true_or, Bool.false_or, Bool.or_false, Bool.or_true, Bool.and_true, Bool.and_false]
theorem n2_20 (n : Nat) : L13_0 128 64 2 (n + 20) 0 = some (ch 128 64 2) := by
  have x1 := c128.a; have x2 := c128.b; have x3 := c128.c; have x4 := c128.d; have x5 := c128.e; have x6 := c128.f
  have y1 := c64.a; have y2 := c64.b; have y3 := c64.c; have y4 := c64.d; have y5 := c64.e; have y6 := c64.f
  simp only [ch, big, trayB, x1, x2, x3, x4, x5, x6, y1, y2, y3, y4, y5, y6, e21, e22, r0_0, r0_1, r0_2, r0_3, r0_4, r1_0, r1_1, r1_2, r1_3, r1_4, r2_0, r2_1, r2_2, r2_3, r2_4, cond_true, cond_false, Bool.not_true, Bool.not_false, Bool.not_not, z0, z64, z96, z128, qa, qb, qc, qd, w4096_4096, w6144_4096, w6144_6144, w12288_4096, w12288_6144, w12288_12288, w16384_4096, w16384_6144, w16384_12288, w16384_16384, Bool.true_and, Bool.false_and, Bool.true_or, Bool.false_or, Bool.or_false, Bool.or_true, Bool.and_true, Bool.and_false]
theorem n2_21 (n : Nat) : L13_0 128 96 2 (n + 20) 0 = some (ch 128 96 2) := by
  have x1 := c128.a; have x2 := c128.b; have x3 := c128.c; have x4 := c128.d; have x5 := c128.e; have x6 := c128.f
  have y1 := c96.a; have y2 := c96.b; have y3 := c96.c; have y4 := c96.d; have y5 := c96.e; have y6 := c96.f
  simp only [ch, big, trayB, x1, x2, x3, x4, x5, x6, y1, y2, y3, y4, y5, y6, e21, e22, r0_0, r0_1, r0_2, r0_3, r0_4, r1_0, r1_1, r1_2, r1_3, r1_4, r2_0, r2_1, r2_2, r2_3, r2_4, cond_true, cond_false, Bool.not_true, Bool.not_false, Bool.not_not, z0, z64, z96, z128, qa, qb, qc, qd, w4096_4096, w6144_4096, w6144_6144, w12288_4096, w12288_6144, w12288_12288, w16384_4096, w16384_6144, w16384_12288, w16384_16384, Bool.true_and, Bool.false_and, Bool.true_or, Bool.false_or, Bool.or_false, Bool.or_true, Bool.and_true, Bool.and_false]
theorem n2_22 (n : Nat) : L13_0 128 128 2 (n + 20) 0 = some (ch 128 128 2) := by
  have x1 := c128.a; have x2 := c128.b; have x3 := c128.c; have x4 := c128.d; have x5 := c128.e; have x6 := c128.f
  have y1 := c128.a; have y2 := c128.b; have y3 := c128.c; have y4 := c128.d; have y5 := c128.e; have y6 := c128.f
  simp only [ch, big, trayB, x1, x2, x3, x4, x5, x6, y1, y2, y3, y4, y5, y6, e21, e22, r0_0, r0_1, r0_2, r0_3, r0_4, r1_0, r1_1, r1_2, r1_3, r1_4, r2_0, r2_1, r2_2, r2_3, r2_4, cond_true, cond_false, Bool.not_true, Bool.not_false, Bool.not_not, z0, z64, z96, z128, qa, qb, qc, qd, w4096_4096, w6144_4096, w6144_6144, w12288_4096, w12288_6144, w12288_12288, w16384_4096, w16384_6144, w16384_12288, w16384_16384, Bool.true_and, Bool.false_and, Bool.true_or, Bool.false_or, Bool.or_false, Bool.or_true, Bool.and_true, Bool.and_false]
theorem n2_23 {y : Int} (hy : Cls y false false false false false false) (n : Nat) : L13_0 128 y 2 (n + 20) 0 = some (ch 128 y 2) := by
  have x1 := c128.a; have x2 := c128.b; have x3 := c128.c; have x4 := c128.d; have x5 := c128.e; have x6 := c128.f
  have y1 := hy.a; have y2 := hy.b; have y3 := hy.c; have y4 := hy.d; have y5 := hy.e; have y6 := hy.f
  simp only [ch, big, trayB, x1, x2, x3, x4, x5, x6, y1, y2, y3, y4, y5, y6, e21, e22, r0_0, r0_1, r0_2, r0_3, r0_4, r1_0, r1_1, r1_2, r1_3, r1_4, r2_0, r2_1, r2_2, r2_3, r2_4, cond_true, cond_false, Bool.not_true, Bool.not_false, Bool.not_not, z0, z64, z96, z128, qa, qb, qc, qd, w4096_4096, w6144_4096, w6144_6144, w12288_4096, w12288_6144, w12288_12288, w16384_4096, w16384_6144, w16384_12288, w16384_16384, Bool.true_and, Bool.false_and, Bool.true_or, Bool.false_or, Bool.or_false, Bool.or_true, Bool.and_true, Bool.and_false]
theorem n2_24 {y : Int} (hy : Cls y false false false true false false) (n : Nat) : L13_0 128 y 2 (n + 20) 0 = some (ch 128 y 2) := by
  have x1 := c128.a; have x2 := c128.b; have x3 := c128.c; have x4 := c128.d; have x5 := c128.e; have x6 := c128.f
  have y1 := hy.a; have y2 := hy.b; have y3 := hy.c; have y4 := hy.d; have y5 := hy.e; have y6 := hy.f
  simp only [ch, big, trayB, x1, x2, x3, x4, x5, x6, y1, y2, y3, y4, y5, y6, e21, e22, r0_0, r0_1, r0_2, r0_3, r0_4, r1_0, r1_1, r1_2, r1_3, r1_4, r2_0, r2_1, r2_2, r2_3, r2_4, cond_true, cond_false, Bool.not_true, Bool.not_false, Bool.not_not, z0, z64, z96, z128, qa, qb, qc, qd, w4096_4096, w6144_4096, w6144_6144, w12288_4096, w12288_6144, w12288_12288, w16384_4096, w16384_6144, w16384_12288, w16384_16384, Bool.true_and, Bool.false_and, Bool.true_or, Bool.false_or, Bool.or_false, Bool.or_true, Bool.and_true, Bool.and_false]
theorem n2_25 {y : Int} (hy : Cls y false false false true true false) (n : Nat) : L13_0 128 y 2 (n + 20) 0 = some (ch 128 y 2) := by
  have x1 := c128.a; have x2 := c128.b; have x3 := c128.c; have x4 := c128.d; have x5 := c128.e; have x6 := c128.f
  have y1 := hy.a; have y2 := hy.b; have y3 := hy.c; have y4 := hy.d; have y5 := hy.e; have y6 := hy.f
  simp only [ch, big, trayB, x1, x2, x3, x4, x5, x6, y1, y2, y3, y4, y5, y6, e21, e22, r0_0, r0_1, r0_2, r0_3, r0_4, r1_0, r1_1, r1_2, r1_3, r1_4, r2_0, r2_1, r2_2, r2_3, r2_4, cond_true, cond_false, Bool.not_true, Bool.not_false, Bool.not_not, z0, z64, z96, z128, qa, qb, qc, qd, w4096_4096, w6144_4096, w6144_6144, w12288_4096, w12288_6144, w12288_12288, w16384_4096, w16384_6144, w16384_12288, w16384_16384, Bool.true_and, Bool.false_and, Bool.true_or, Bool.false_or, Bool.or_false, Bool.or_true, Bool.and_true, Bool.and_false]
theorem n2_30 {x : Int} (hx : Cls x false false false false false false) (n : Nat) : L13_0 x 64 2 (n + 20) 0 = some (ch x 64 2) := by
  have x1 := hx.a; have x2 := hx.b; have x3 := hx.c; have x4 := hx.d; have x5 := hx.e; have x6 := hx.f
  have y1 := c64.a; have y2 := c64.b; have y3 := c64.c; have y4 := c64.d; have y5 := c64.e; have y6 := c64.f
  simp only [ch, big, trayB, x1, x2, x3, x4, x5, x6, y1, y2, y3, y4, y5, y6, e21, e22, r0_0, r0_1, r0_2, r0_3, r0_4, r1_0, r1_1, r1_2, r1_3, r1_4, r2_0, r2_1, r2_2, r2_3, r2_4, cond_true, cond_false, Bool.not_true, Bool.not_false, Bool.not_not, z0, z64, z96, z128, qa, qb, qc, qd, w4096_4096, w6144_4096, w6144_6144, w12288_4096, w12288_6144, w12288_12288, w16384_4096, w16384_6144, w16384_12288, w16384_16384, Bool.true_and, Bool.false_and, Bool.true_or, Bool.false_or, Bool.or_false, Bool.or_true, Bool.and_true, Bool.and_false]
theorem n2_31 {x : Int} (hx : Cls x false false false false false false) (n : Nat) : L13_0 x 96 2 (n + 20) 0 = some (ch x 96 2) := by
  have x1 := hx.a; have x2 := hx.b; have x3 := hx.c; have x4 := hx.d; have x5 := hx.e; have x6 := hx.f
  have y1 := c96.a; have y2 := c96.b; have y3 := c96.c; have y4 := c96.d; have y5 := c96.e; have y6 := c96.f
  simp only [ch, big, trayB, x1, x2, x3, x4, x5, x6, y1, y2, y3, y4, y5, y6, e21, e22, r0_0, r0_1, r0_2, r0_3, r0_4, r1_0, r1_1, r1_2, r1_3, r1_4, r2_0, r2_1, r2_2, r2_3, r2_4, cond_true, cond_false, Bool.not_true, Bool.not_false, Bool.not_not, z0, z64, z96, z128, qa, qb, qc, qd, w4096_4096, w6144_4096, w6144_6144, w12288_4096, w12288_6144, w12288_12288, w16384_4096, w16384_6144, w16384_12288, w16384_16384, Bool.true_and, Bool.false_and, Bool.true_or, Bool.false_or, Bool.or_false, Bool.or_true, Bool.and_true, Bool.and_false]
theorem n2_32 {x : Int} (hx : Cls x false false false false false false) (n : Nat) : L13_0 x 128 2 (n + 20) 0 = some (ch x 128 2) := by
  have x1 := hx.a; have x2 := hx.b; have x3 := hx.c; have x4 := hx.d; have x5 := hx.e; have x6 := hx.f
  have y1 := c128.a; have y2 := c128.b; have y3 := c128.c; have y4 := c128.d; have y5 := c128.e; have y6 := c128.f
  simp only [ch, big, trayB, x1, x2, x3, x4, x5, x6, y1, y2, y3, y4, y5, y6, e21, e22, r0_0, r0_1, r0_2, r0_3, r0_4, r1_0, r1_1, r1_2, r1_3, r1_4, r2_0, r2_1, r2_2, r2_3, r2_4, cond_true, cond_false, Bool.not_true, Bool.not_false, Bool.not_not, z0, z64, z96, z128, qa, qb, qc, qd, w4096_4096, w6144_4096, w6144_6144, w12288_4096, w12288_6144, w12288_12288, w16384_4096, w16384_6144, w16384_12288, w16384_16384, Bool.true_and, Bool.false_and, Bool.true_or, Bool.false_or, Bool.or_false, Bool.or_true, Bool.and_true, Bool.and_false]
theorem n2_33 {x : Int} {y : Int} (hx : Cls x false false false false false false) (hy : Cls y false false false false false false) (n : Nat) : L13_0 x y 2 (n + 20) 0 = some (ch x y 2) := by
  have x1 := hx.a; have x2 := hx.b; have x3 := hx.c; have x4 := hx.d; have x5 := hx.e; have x6 := hx.f
  have y1 := hy.a; have y2 := hy.b; have y3 := hy.c; have y4 := hy.d; have y5 := hy.e; have y6 := hy.f
  simp only [ch, big, trayB, x1, x2, x3, x4, x5, x6, y1, y2, y3, y4, y5, y6, e21, e22, r0_0, r0_1, r0_2, r0_3, r0_4, r1_0, r1_1, r1_2, r1_3, r1_4, r2_0, r2_1, r2_2, r2_3, r2_4, cond_true, cond_false, Bool.not_true, Bool.not_false, Bool.not_not, z0, z64, z96, z128, qa, qb, qc, qd, w4096_4096, w6144_4096, w6144_6144, w12288_4096, w12288_6144, w12288_12288, w16384_4096, w16384_6144, w16384_12288, w16384_16384, Bool.true_and, Bool.false_and, Bool.true_or, Bool.false_or, Bool.or_false, Bool.or_true, Bool.and_true, Bool.and_false]
theorem n2_34 {x : Int} {y : Int} (hx : Cls x false false false false false false) (hy : Cls y false false false true false false) (n : Nat) : L13_0 x y 2 (n + 20) 0 = some (ch x y 2) := by
  have x1 := hx.a; have x2 := hx.b; have x3 := hx.c; have x4 := hx.d; have x5 := hx.e; have x6 := hx.f
  have y1 := hy.a; have y2 := hy.b; have y3 := hy.c; have y4 := hy.d; have y5 := hy.e; have y6 := hy.f
  simp only [ch, big, trayB, x1, x2, x3, x4, x5, x6, y1, y2, y3, y4, y5, y6, e21, e22, r0_0, r0_1, r0_2, r0_3, r0_4, r1_0, r1_1, r1_2, r1_3, r1_4, r2_0, r2_1, r2_2, r2_3, r2_4, cond_true, cond_false, Bool.not_true, Bool.not_false, Bool.not_not, z0, z64, z96, z128, qa, qb, qc, qd, w4096_4096, w6144_4096, w6144_6144, w12288_4096, w12288_6144, w12288_12288, w16384_4096, w16384_6144, w16384_12288, w16384_16384, Bool.true_and, Bool.false_and, Bool.true_or, Bool.false_or, Bool.or_false, Bool.or_true, Bool.and_true, Bool.and_false]
theorem n2_35 {x : Int} {y : Int} (hx : Cls x false false false false false false) (hy : Cls y false false false true true false) (n : Nat) : L13_0 x y 2 (n + 20) 0 = some (ch x y 2) := by
  have x1 := hx.a; have x2 := hx.b; have x3 := hx.c; have x4 := hx.d; have x5 := hx.e; have x6 := hx.f
  have y1 := hy.a; have y2 := hy.b; have y3 := hy.c; have y4 := hy.d; have y5 := hy.e; have y6 := hy.f
  simp only [ch, big, trayB, x1, x2, x3, x4, x5, x6, y1, y2, y3, y4, y5, y6, e21, e22, r0_0, r0_1, r0_2, r0_3, r0_4, r1_0, r1_1, r1_2, r1_3, r1_4, r2_0, r2_1, r2_2, r2_3, r2_4, cond_true, cond_false, Bool.not_true, Bool.not_false, Bool.not_not, z0, z64, z96, z128, qa, qb, qc, qd, w4096_4096, w6144_4096, w6144_6144, w12288_4096, w12288_6144, w12288_12288, w16384_4096, w16384_6144, w16384_12288, w16384_16384, Bool.true_and, Bool.false_and, Bool.true_or, Bool.false_or, Bool.or_false, Bool.or_true, Bool.and_true, Bool.and_false]
theorem n2_40 {x : Int} (hx : Cls x false false false true false false) (n : Nat) : L13_0 x 64 2 (n + 20) 0 = some (ch x 64 2) := by
  have x1 := hx.a; have x2 := hx.b; have x3 := hx.c; have x4 := hx.d; have x5 := hx.e; have x6 := hx.f
  have y1 := c64.a; have y2 := c64.b; have y3 := c64.c; have y4 := c64.d; have y5 := c64.e; have y6 := c64.f
  simp only [ch, big, trayB, x1, x2, x3, x4, x5, x6, y1, y2, y3, y4, y5, y6, e21, e22, r0_0, r0_1, r0_2, r0_3, r0_4, r1_0, r1_1, r1_2, r1_3, r1_4, r2_0, r2_1, r2_2, r2_3, r2_4, cond_true, cond_false, Bool.not_true, Bool.not_false, Bool.not_not, z0, z64, z96, z128, qa, qb, qc, qd, w4096_4096, w6144_4096, w6144_6144, w12288_4096, w12288_6144, w12288_12288, w16384_4096, w16384_6144, w16384_12288, w16384_16384, Bool.true_and, Bool.false_and, Bool.true_or, Bool.false_or, Bool.or_false, Bool.or_true, Bool.and_true, Bool.and_false]
theorem n2_41 {x : Int} (hx : Cls x false false false true false false) (n : Nat) : L13_0 x 96 2 (n + 20) 0 = some (ch x 96 2) := by
  have x1 := hx.a; have x2 := hx.b; have x3 := hx.c; have x4 := hx.d; have x5 := hx.e; have x6 := hx.f
  have y1 := c96.a; have y2 := c96.b; have y3 := c96.c; have y4 := c96.d; have y5 := c96.e; have y6 := c96.f
  simp only [ch, big, trayB, x1, x2, x3, x4, x5, x6, y1, y2, y3, y4, y5, y6, e21, e22, r0_0, r0_1, r0_2, r0_3, r0_4, r1_0, r1_1, r1_2, r1_3, r1_4, r2_0, r2_1, r2_2, r2_3, r2_4, cond_true, cond_false, Bool.not_true, Bool.not_false, Bool.not_not, z0, z64, z96, z128, qa, qb, qc, qd, w4096_4096, w6144_4096, w6144_6144, w12288_4096, w12288_6144, w12288_12288, w16384_4096, w16384_6144, w16384_12288, w16384_16384, Bool.true_and, Bool.false_and, Bool.true_or, Bool.false_or, Bool.or_false, Bool.or_true, Bool.and_true, Bool.and_false]
theorem n2_42 {x : Int} (hx : Cls x false false false true false false) (n : Nat) : L13_0 x 128 2 (n + 20) 0 = some (ch x 128 2) := by
  have x1 := hx.a; have x2 := hx.b; have x3 := hx.c; have x4 := hx.d; have x5 := hx.e; have x6 := hx.f
  have y1 := c128.a; have y2 := c128.b; have y3 := c128.c; have y4 := c128.d; have y5 := c128.e; have y6 := c128.f
  simp only [ch, big, trayB, x1, x2, x3, x4, x5, x6, y1, y2, y3, y4, y5, y6, e21, e22, r0_0, r0_1, r0_2, r0_3, r0_4, r1_0, r1_1, r1_2, r1_3, r1_4, r2_0, r2_1, r2_2, r2_3, r2_4, cond_true, cond_false, Bool.not_true, Bool.not_false, Bool.not_not, z0, z64, z96, z128, qa, qb, qc, qd, w4096_4096, w6144_4096, w6144_6144, w12288_4096, w12288_6144, w12288_12288, w16384_4096, w16384_6144, w16384_12288, w16384_16384, Bool.true_and, Bool.false_and, Bool.true_or, Bool.false_or, Bool.or_false, Bool.or_true, Bool.and_true, Bool.and_false]
theorem n2_43 {x : Int} {y : Int} (hx : Cls x false false false true false false) (hy : Cls y false false false false false false) (n : Nat) : L13_0 x y 2 (n + 20) 0 = some (ch x y 2) := by
  have x1 := hx.a; have x2 := hx.b; have x3 := hx.c; have x4 := hx.d; have x5 := hx.e; have x6 := hx.f
  have y1 := hy.a; have y2 := hy.b; have y3 := hy.c; have y4 := hy.d; have y5 := hy.e; have y6 := hy.f
  simp only [ch, big, trayB, x1, x2, x3, x4, x5, x6, y1, y2, y3, y4, y5, y6, e21, e22, r0_0, r0_1, r0_2, r0_3, r0_4, r1_0, r1_1, r1_2, r1_3, r1_4, r2_0, r2_1, r2_2, r2_3, r2_4, cond_true, cond_false, Bool.not_true, Bool.not_false, Bool.not_not, z0, z64, z96, z128, qa, qb, qc, qd, w4096_4096, w6144_4096, w6144_6144, w12288_4096, w12288_6144, w12288_12288, w16384_4096, w16384_6144, w16384_12288, w16384_16384, Bool.true_and, Bool.false_and, Bool.true_or, Bool.false_or, Bool.or_false, Bool.or_true, Bool.and_true, Bool.and_false]
theorem n2_44 {x : Int} {y : Int} (hx : Cls x false false false true false false) (hy : Cls y false false false true false false) (n : Nat) : L13_0 x y 2 (n + 20) 0 = some (ch x y 2) := by
  have x1 := hx.a; have x2 := hx.b; have x3 := hx.c; have x4 := hx.d; have x5 := hx.e; have x6 := hx.f
  have y1 := hy.a; have y2 := hy.b; have y3 := hy.c; have y4 := hy.d; have y5 := hy.e; have y6 := hy.f
  simp only [ch, big, trayB, x1, x2, x3, x4, x5, x6, y1, y2, y3, y4, y5, y6, e21, e22, r0_0, r0_1, r0_2, r0_3, r0_4, r1_0, r1_1, r1_2, r1_3, r1_4, r2_0, r2_1, r2_2, r2_3, r2_4, cond_true, cond_false, Bool.not_true, Bool.not_false, Bool.not_not, z0, z64, z96, z128, qa, qb, qc, qd, w4096_4096, w6144_4096, w6144_6144, w12288_4096, w12288_6144, w12288_12288, w16384_4096, w16384_6144, w16384_12288, w16384_16384, Bool.true_and, Bool.false_and, Bool.true_or, Bool.false_or, Bool.or_false, Bool.or_true, Bool.and_true, Bool.and_false]
theorem n2_45 {x : Int} {y : Int} (hx : Cls x false false false true false false) (hy : Cls y false false false true true false) (n : Nat) : L13_0 x y 2 (n + 20) 0 = some (ch x y 2) := by
  have x1 := hx.a; have x2 := hx.b; have x3 := hx.c; have x4 := hx.d; have x5 := hx.e; have x6 := hx.f
  have y1 := hy.a; have y2 := hy.b; have y3 := hy.c; have y4 := hy.d; have y5 := hy.e; have y6 := hy.f
  simp only [ch, big, trayB, x1, x2, x3, x4, x5, x6, y1, y2, y3, y4, y5, y6, e21, e22, r0_0, r0_1, r0_2, r0_3, r0_4, r1_0, r1_1, r1_2, r1_3, r1_4, r2_0, r2_1, r2_2, r2_3, r2_4, cond_true, cond_false, Bool.not_true, Bool.not_false, Bool.not_not, z0, z64, z96, z128, qa, qb, qc, qd, w4096_4096, w6144_4096, w6144_6144, w12288_4096, w12288_6144, w12288_12288, w16384_4096, w16384_6144, w16384_12288, w16384_16384, Bool.true_and, Bool.false_and, Bool.true_or, Bool.false_or, Bool.or_false, Bool.or_true, Bool.and_true, Bool.and_false]
theorem n2_50 {x : Int} (hx : Cls x false false false true true false) (n : Nat) : L13_0 x 64 2 (n + 20) 0 = some (ch x 64 2) := by
  have x1 := hx.a; have x2 := hx.b; have x3 := hx.c; have x4 := hx.d; have x5 := hx.e; have x6 := hx.f
  have y1 := c64.a; have y2 := c64.b; have y3 := c64.c; have y4 := c64.d; have y5 := c64.e; have y6 := c64.f
  simp only [ch, big, trayB, x1, x2, x3, x4, x5, x6, y1, y2, y3, y4, y5, y6, e21, e22, r0_0, r0_1, r0_2, r0_3, r0_4, r1_0, r1_1, r1_2, r1_3, r1_4, r2_0, r2_1, r2_2, r2_3, r2_4, cond_true, cond_false, Bool.not_true, Bool.not_false, Bool.not_not, z0, z64, z96, z128, qa, qb, qc, qd, w4096_4096, w6144_4096, w6144_6144, w12288_4096, w12288_6144, w12288_12288, w16384_4096, w16384_6144, w16384_12288, w16384_16384, Bool.true_and, Bool.false_and, Bool.true_or, Bool.false_or, Bool.or_false, Bool.or_true, Bool.and_true, Bool.and_false]
theorem n2_51 {x : Int} (hx : Cls x false false false true true false) (n : Nat) : L13_0 x 96 2 (n + 20) 0 = some (ch x 96 2) := by
  have x1 := hx.a; have x2 := hx.b; have x3 := hx.c; have x4 := hx.d; have x5 := hx.e; have x6 := hx.f
  have y1 := c96.a; have y2 := c96.b; have y3 := c96.c; have y4 := c96.d; have y5 := c96.e; have y6 := c96.f
  simp only [ch, big, trayB, x1, x2, x3, x4, x5, x6, y1, y2, y3, y4, y5, y6, e21, e22, r0_0, r0_1, r0_2, r0_3, r0_4, r1_0, r1_1, r1_2, r1_3, r1_4, r2_0, r2_1, r2_2, r2_3, r2_4, cond_true, cond_false, Bool.not_true, Bool.not_false, Bool.not_not, z0, z64, z96, z128, qa, qb, qc, qd, w4096_4096, w6144_4096, w6144_6144, w12288_4096, w12288_6144, w12288_12288, w16384_4096, w16384_6144, w16384_12288, w16384_16384, Bool.true_and, Bool.false_and, Bool.true_or, Bool.false_or, Bool.or_false, Bool.or_true, Bool.and_true, Bool.and_false]
theorem n2_52 {x : Int} (hx : Cls x false false false true true false) (n : Nat) : L13_0 x 128 2 (n + 20) 0 = some (ch x 128 2) := by
  have x1 := hx.a; have x2 := hx.b; have x3 := hx.c; have x4 := hx.d; have x5 := hx.e; have x6 := hx.f
  have y1 := c128.a; have y2 := c128.b; have y3 := c128.c; have y4 := c128.d; have y5 := c128.e; have y6 := c128.f
  simp only [ch, big, trayB, x1, x2, x3, x4, x5, x6, y1, y2, y3, y4, y5, y6, e21, e22, r0_0, r0_1, r0_2, r0_3, r0_4, r1_0, r1_1, r1_2, r1_3, r1_4, r2_0, r2_1, r2_2, r2_3, r2_4, cond_true, cond_false, Bool.not_true, Bool.not_false, Bool.not_not, z0, z64, z96, z128, qa, qb, qc, qd, w4096_4096, w6144_4096, w6144_6144, w12288_4096, w12288_6144, w12288_12288, w16384_4096, w16384_6144, w16384_12288, w16384_16384, Bool.true_and, Bool.false_and, Bool.true_or, Bool.false_or, Bool.or_false, Bool.or_true, Bool.and_true, Bool.and_false]
theorem n2_53 {x : Int} {y : Int} (hx : Cls x false false false true true false) (hy : Cls y false false false false false false) (n : Nat) : L13_0 x y 2 (n + 20) 0 = some (ch x y 2) := by
  have x1 := hx.a; have x2 := hx.b; have x3 := hx.c; have x4 := hx.d; have x5 := hx.e; have x6 := hx.f
  have y1 := hy.a; have y2 := hy.b; have y3 := hy.c; have y4 := hy.d; have y5 := hy.e; have y6 := hy.f
  simp only [ch, big, trayB, x1, x2, x3, x4, x5, x6, y1, y2, y3, y4, y5, y6, e21, e22, r0_0, r0_1, r0_2, r0_3, r0_4, r1_0, r1_1, r1_2, r1_3, r1_4, r2_0, r2_1, r2_2, r2_3, r2_4, cond_true, cond_false, Bool.not_true, Bool.not_false, Bool.not_not, z0, z64, z96, z128, qa, qb, qc, qd, w4096_4096, w6144_4096, w6144_6144, w12288_4096, w12288_6144, w12288_12288, w16384_4096, w16384_6144, w16384_12288, w16384_16384, Bool.true_and, Bool.false_and, Bool.true_or, Bool.false_or, Bool.or_false, Bool.or_true, Bool.and_true, Bool.and_false]
theorem n2_54 {x : Int} {y : Int} (hx : Cls x false false false true true false) (hy : Cls y false false false true false false) (n : Nat) : L13_0 x y 2 (n + 20) 0 = some (ch x y 2) := by
  have x1 := hx.a; have x2 := hx.b; have x3 := hx.c; have x4 := hx.d; have x5 := hx.e; have x6 := hx.f
  have y1 := hy.a; have y2 := hy.b; have y3 := hy.c; have y4 := hy.d; have y5 := hy.e; have y6 := hy.f
  simp only [ch, big, trayB, x1, x2, x3, x4, x5, x6, y1, y2, y3, y4, y5, y6, e21, e22, r0_0, r0_1, r0_2, r0_3, r0_4, r1_0, r1_1, r1_2, r1_3, r1_4, r2_0, r2_1, r2_2, r2_3, r2_4, cond_true, cond_false, Bool.not_true, Bool.not_false, Bool.not_not, z0, z64, z96, z128, qa, qb, qc, qd, w4096_4096, w6144_4096, w6144_6144, w12288_4096, w12288_6144, w12288_12288, w16384_4096, w16384_6144, w16384_12288, w16384_16384, Bool.true_and, Bool.false_and, Bool.true_or, Bool.false_or, Bool.or_false, Bool.or_true, Bool.and_true, Bool.and_false]
theorem n2_55 {x : Int} {y : Int} (hx : Cls x false false false true true false) (hy : Cls y false false false true true false) (n : Nat) : L13_0 x y 2 (n + 20) 0 = some (ch x y 2) := by
  have x1 := hx.a; have x2 := hx.b; have x3 := hx.c; have x4 := hx.d; have x5 := hx.e; have x6 := hx.f
  have y1 := hy.a; have y2 := hy.b; have y3 := hy.c; have y4 := hy.d; have y5 := hy.e; have y6 := hy.f
  simp only [ch, big, trayB, x1, x2, x3, x4, x5, x6, y1, y2, y3, y4, y5, y6, e21, e22, r0_0, r0_1, r0_2, r0_3, r0_4, r1_0, r1_1, r1_2, r1_3, r1_4, r2_0, r2_1, r2_2, r2_3, r2_4, cond_true, cond_false, Bool.not_true, Bool.not_false, Bool.not_not, z0, z64, z96, z128, qa, qb, qc, qd, w4096_4096, w6144_4096, w6144_6144, w12288_4096, w12288_6144, w12288_12288, w16384_4096, w16384_6144, w16384_12288, w16384_16384, Bool.true_and, Bool.false_and, Bool.true_or, Bool.false_or, Bool.or_false, Bool.or_true, Bool.and_true, Bool.and_false]
theorem val0 {x y : Int} (h1 : 1 ≤ x) (h2 : x ≤ 128) (h3 : 1 ≤ y) (h4 : y ≤ 128) {n : Nat} (hn : 20 ≤ n) : F12 n x y 0 = some (ch x y 0) := by
  rw [(same hn x y 0).1]
  obtain ⟨m, rfl⟩ : ∃ m, n = m + 20 := ⟨n - 20, by omega⟩
  unfold F13
  rw [ltF (x := x) (y := 1) h1, ltF (x := 128) (y := x) h2, ltF (x := y) (y := 1) h3, ltF (x := 128) (y := y) h4]
  have key : L13_0 x y 0 (m + 20) 0 = some (ch x y 0) := by
    rcases cls h1 h2 with rfl | rfl | rfl | hx | hx | hx <;> rcases cls h3 h4 with rfl | rfl | rfl | hy | hy | hy
    · exact n0_00 m
    · exact n0_01 m
    · exact n0_02 m
    · exact n0_03 hy m
    · exact n0_04 hy m
    · exact n0_05 hy m
    · exact n0_10 m
    · exact n0_11 m
    · exact n0_12 m
    · exact n0_13 hy m
    · exact n0_14 hy m
    · exact n0_15 hy m
    · exact n0_20 m
    · exact n0_21 m
    · exact n0_22 m
    · exact n0_23 hy m
    · exact n0_24 hy m
    · exact n0_25 hy m
    · exact n0_30 hx m
    · exact n0_31 hx m
    · exact n0_32 hx m
    · exact n0_33 hx hy m
    · exact n0_34 hx hy m
    · exact n0_35 hx hy m
    · exact n0_40 hx m
    · exact n0_41 hx m
    · exact n0_42 hx m
    · exact n0_43 hx hy m
    · exact n0_44 hx hy m
    · exact n0_45 hx hy m
    · exact n0_50 hx m
    · exact n0_51 hx m
    · exact n0_52 hx m
    · exact n0_53 hx hy m
    · exact n0_54 hx hy m
    · exact n0_55 hx hy m
  exact key
theorem val1 {x y : Int} (h1 : 1 ≤ x) (h2 : x ≤ 128) (h3 : 1 ≤ y) (h4 : y ≤ 128) {n : Nat} (hn : 20 ≤ n) : F12 n x y 1 = some (ch x y 1) := by
  rw [(same hn x y 1).1]
  obtain ⟨m, rfl⟩ : ∃ m, n = m + 20 := ⟨n - 20, by omega⟩
  unfold F13
  rw [ltF (x := x) (y := 1) h1, ltF (x := 128) (y := x) h2, ltF (x := y) (y := 1) h3, ltF (x := 128) (y := y) h4]
  have key : L13_0 x y 1 (m + 20) 0 = some (ch x y 1) := by
    rcases cls h1 h2 with rfl | rfl | rfl | hx | hx | hx <;> rcases cls h3 h4 with rfl | rfl | rfl | hy | hy | hy
    · exact n1_00 m
    · exact n1_01 m
    · exact n1_02 m
    · exact n1_03 hy m
    · exact n1_04 hy m
    · exact n1_05 hy m
    · exact n1_10 m
    · exact n1_11 m
    · exact n1_12 m
    · exact n1_13 hy m
    · exact n1_14 hy m
    · exact n1_15 hy m
    · exact n1_20 m
    · exact n1_21 m
    · exact n1_22 m
    · exact n1_23 hy m
    · exact n1_24 hy m
    · exact n1_25 hy m
    · exact n1_30 hx m
    · exact n1_31 hx m
    · exact n1_32 hx m
    · exact n1_33 hx hy m
    · exact n1_34 hx hy m
    · exact n1_35 hx hy m
    · exact n1_40 hx m
    · exact n1_41 hx m
    · exact n1_42 hx m
    · exact n1_43 hx hy m
    · exact n1_44 hx hy m
    · exact n1_45 hx hy m
    · exact n1_50 hx m
    · exact n1_51 hx m
    · exact n1_52 hx m
    · exact n1_53 hx hy m
    · exact n1_54 hx hy m
    · exact n1_55 hx hy m
  exact key
theorem val2 {x y : Int} (h1 : 1 ≤ x) (h2 : x ≤ 128) (h3 : 1 ≤ y) (h4 : y ≤ 128) {n : Nat} (hn : 20 ≤ n) : F12 n x y 2 = some (ch x y 2) := by
  rw [(same hn x y 2).1]
  obtain ⟨m, rfl⟩ : ∃ m, n = m + 20 := ⟨n - 20, by omega⟩
  unfold F13
  rw [ltF (x := x) (y := 1) h1, ltF (x := 128) (y := x) h2, ltF (x := y) (y := 1) h3, ltF (x := 128) (y := y) h4]
  have key : L13_0 x y 2 (m + 20) 0 = some (ch x y 2) := by
    rcases cls h1 h2 with rfl | rfl | rfl | hx | hx | hx <;> rcases cls h3 h4 with rfl | rfl | rfl | hy | hy | hy
    · exact n2_00 m
    · exact n2_01 m
    · exact n2_02 m
    · exact n2_03 hy m
    · exact n2_04 hy m
    · exact n2_05 hy m
    · exact n2_10 m
    · exact n2_11 m
    · exact n2_12 m
    · exact n2_13 hy m
    · exact n2_14 hy m
    · exact n2_15 hy m
    · exact n2_20 m
    · exact n2_21 m
    · exact n2_22 m
    · exact n2_23 hy m
    · exact n2_24 hy m
    · exact n2_25 hy m
    · exact n2_30 hx m
    · exact n2_31 hx m
    · exact n2_32 hx m
    · exact n2_33 hx hy m
    · exact n2_34 hx hy m
    · exact n2_35 hx hy m
    · exact n2_40 hx m
    · exact n2_41 hx m
    · exact n2_42 hx m
    · exact n2_43 hx hy m
    · exact n2_44 hx hy m
    · exact n2_45 hx hy m
    · exact n2_50 hx m
    · exact n2_51 hx m
    · exact n2_52 hx m
    · exact n2_53 hx hy m
    · exact n2_54 hx hy m
    · exact n2_55 hx hy m
  exact key
theorem tray_t {a b : Int} (h : trayB a b = true) : (a = 64 ∧ b = 64) ∨ (a = 64 ∧ b = 96) ∨ (a = 96 ∧ b = 128) ∨ (a = 128 ∧ b = 128) := by
  unfold trayB at h
  simp only [Bool.or_eq_true, Bool.and_eq_true, eqI_t] at h
  omega
theorem t12 {x y p : Int} {n : Nat} {r : Int × Int × Int} (h : F12 n x y p = some r) : F12_0 n x y p = r.1 ∧ F12_1 n x y p = r.2.1 ∧ F12_2 n x y p = r.2.2 := by
  unfold F12_0 F12_1 F12_2; rw [h]; exact ⟨rfl, rfl, rfl⟩
theorem f17 {x y p z w : Int} {n : Nat} {r : Int × Int × Int} (h : F12 n x y p = some r) : F17 n x y p z w = some (bif eqI r.1 z then (bif eqI r.2.1 w then eqI r.2.2 0 else false) else false) := by
  obtain ⟨h1, h2, h3⟩ := t12 h
  unfold F17; rw [h1, h2, h3, h]
  cases eqI r.1 z <;> cases eqI r.2.1 w <;> rfl
theorem f16 {x y p z : Int} {n : Nat} {r : Int × Int × Int} (h : F12 n x y p = some r) : F16 n x y p z = some (bif eqI r.1 0 then (bif eqI r.2.1 0 then eqI r.2.2 z else false) else false) := by
  obtain ⟨h1, h2, h3⟩ := t12 h
  unfold F16; rw [h1, h2, h3, h]
  cases eqI r.1 0 <;> cases eqI r.2.1 0 <;> rfl
theorem f17_0 {x y p z w : Int} {n : Nat} {r : Int × Int × Int} (h : F12 n x y p = some r) : F17_0 n x y p z w = (bif eqI r.1 z then (bif eqI r.2.1 w then eqI r.2.2 0 else false) else false) := by
  unfold F17_0; rw [f17 h]; rfl
theorem f16_0 {x y p z : Int} {n : Nat} {r : Int × Int × Int} (h : F12 n x y p = some r) : F16_0 n x y p z = (bif eqI r.1 0 then (bif eqI r.2.1 0 then eqI r.2.2 z else false) else false) := by
  unfold F16_0; rw [f16 h]; rfl
theorem self_ok (x y : Int) : (bif eqI x x then (bif eqI y y then eqI 0 0 else false) else false) = true := by rw [eqT rfl, eqT rfl]; rfl
/-- a tray's size is granted with every policy -/
theorem grant {x y : Int} (h : trayB x y = true) {k : Int} (hk : k = 0 ∨ k = 1 ∨ k = 2) {n : Nat} (hn : 20 ≤ n) : F17 n x y k x y = some true ∧ F17_0 n x y k x y = true := by
  have b : 1 ≤ x ∧ x ≤ 128 ∧ 1 ≤ y ∧ y ≤ 128 := by have := tray_t h; omega
  have hc : ch x y k = (x, y, 0) := by unfold ch; rw [h]; rfl
  have key : F12 n x y k = some (x, y, 0) := by
    rw [← hc]
    rcases hk with rfl | rfl | rfl
    · exact val0 b.1 b.2.1 b.2.2.1 b.2.2.2 hn
    · exact val1 b.1 b.2.1 b.2.2.1 b.2.2.2 hn
    · exact val2 b.1 b.2.1 b.2.2.1 b.2.2.2 hn
  exact ⟨by rw [f17 key, self_ok], by rw [f17_0 key, self_ok]⟩
theorem tmul {a b : Int} (h1 : 1 ≤ a) (h2 : a ≤ 128) (h3 : 1 ≤ b) (h4 : b ≤ 128) : wrapA .i64 (Int.mul a b) = a * b := by
  have : a * b ≤ 128 * 128 := Int.mul_le_mul h2 h4 (by omega) (by omega)
  have h0 : 0 ≤ a * b := Int.mul_nonneg (by omega) (by omega)
  rw [mul_int, wrap64 (by omega) (by omega)]
theorem walkM (a0 a1 : Int) {x y a b : Int} (ha : 1 ≤ a) (ha2 : a ≤ 128) (hb : 1 ≤ b) (hb2 : b ≤ 128) (H : ∀ i j : Int, trayB i j = true → x ≤ i → y ≤ j → a * b ≤ i * j) : ∀ (k : Nat) (i j : Int), 1 ≤ i → i ≤ 128 → 1 ≤ j → j ≤ 129 → (129 - j) + 130 * (128 - i) + 21 ≤ k → L5_2 a0 a1 k x y a b i j = some true := by
  intro k
  induction k with
  | zero => intro i j h1 h2 h3 h4 h5; omega
  | succ k ih =>
    intro i j h1 h2 h3 h4 h5
    rw [L5_2_succ]
    have ei : wrapA .i64 (Int.add i 1) = i + 1 := by rw [add_int, wrap64 (by omega) (by omega)]
    have ej : wrapA .i64 (Int.add j 1) = j + 1 := by rw [add_int, wrap64 (by omega) (by omega)]
    by_cases q : j ≤ 128
    · have v := val0 h1 h2 h3 q (n := k) (by omega)
      have go : L5_2 a0 a1 k x y a b i (wrapA .i64 (Int.add j 1)) = some true := by rw [ej]; exact ih i (j + 1) h1 h2 (by omega) (by omega) (by omega)
      rw [nltT (by omega), go, f17 v, f17_0 v]
      cases ht : trayB i j with
      | false =>
        have : ch i j 0 = (0, 0, 41) := by unfold ch; rw [ht]; rfl
        rw [this, eqF (x := (0 : Int)) (y := i) (by omega)]; rfl
      | true =>
        have : ch i j 0 = (i, j, 0) := by unfold ch; rw [ht]; rfl
        rw [this, self_ok, eqF (x := a) (y := 0) (by omega)]
        by_cases u : x ≤ i
        · by_cases w : y ≤ j
          · have hl : ltI (wrapA .i64 (Int.mul i j)) (wrapA .i64 (Int.mul a b)) = false := by rw [tmul h1 h2 h3 q, tmul ha ha2 hb hb2]; exact ltF (H i j ht u w)
            rw [hl]
            cases (!ltI i x) <;> cases (!ltI j y) <;> rfl
          · rw [nltF (x := j) (y := y) (by omega)]; cases (!ltI i x) <;> rfl
        · rw [nltF (x := i) (y := x) (by omega)]; rfl
    · rw [nltF (by omega)]
      unfold c5_15
      rw [ei]
      by_cases r : i + 1 ≤ 128
      · rw [nltT r]
        simp only [cond_true, cond_false]
        exact ih (i + 1) 1 (by omega) r (by omega) (by omega) (by omega)
      · rw [nltF (x := 128) (y := i + 1) (by omega)]; rfl

theorem big_is {x y : Int} (h1 : 1 ≤ x) (h2 : x ≤ 128) (h3 : 1 ≤ y) (h4 : y ≤ 128) : trayB (big x y).1 (big x y).2 = true ∧ x ≤ (big x y).1 ∧ y ≤ (big x y).2 ∧ ∀ i j : Int, trayB i j = true → x ≤ i → y ≤ j → (big x y).1 * (big x y).2 ≤ i * j := by
  unfold big
  by_cases a : x ≤ 64
  · rw [nltT a]
    by_cases b : y ≤ 64
    · rw [nltT b]
      simp only [cond_true, cond_false]
      refine ⟨rfl, a, b, fun i j ht u w => ?_⟩
      rcases tray_t ht with ⟨rfl, rfl⟩ | ⟨rfl, rfl⟩ | ⟨rfl, rfl⟩ | ⟨rfl, rfl⟩ <;> decide
    · rw [nltF (x := 64) (y := y) (by omega)]
      by_cases c : y ≤ 96
      · rw [nltT c]
        simp only [cond_true, cond_false]
        refine ⟨rfl, a, c, fun i j ht u w => ?_⟩
        rcases tray_t ht with ⟨rfl, rfl⟩ | ⟨rfl, rfl⟩ | ⟨rfl, rfl⟩ | ⟨rfl, rfl⟩
        · omega
        · decide
        · decide
        · decide
      · rw [nltF (x := 96) (y := y) (by omega)]
        simp only [cond_true, cond_false]
        refine ⟨rfl, (by omega), h4, fun i j ht u w => ?_⟩
        rcases tray_t ht with ⟨rfl, rfl⟩ | ⟨rfl, rfl⟩ | ⟨rfl, rfl⟩ | ⟨rfl, rfl⟩
        · omega
        · omega
        · decide
        · decide
  · rw [nltF (x := 64) (y := x) (by omega)]
    by_cases c : x ≤ 96
    · rw [nltT c]
      simp only [cond_true, cond_false]
      refine ⟨rfl, c, h4, fun i j ht u w => ?_⟩
      rcases tray_t ht with ⟨rfl, rfl⟩ | ⟨rfl, rfl⟩ | ⟨rfl, rfl⟩ | ⟨rfl, rfl⟩
      · omega
      · omega
      · decide
      · decide
    · rw [nltF (x := 96) (y := x) (by omega)]
      simp only [cond_true, cond_false]
      refine ⟨rfl, h2, h4, fun i j ht u w => ?_⟩
      rcases tray_t ht with ⟨rfl, rfl⟩ | ⟨rfl, rfl⟩ | ⟨rfl, rfl⟩ | ⟨rfl, rfl⟩
      · omega
      · omega
      · omega
      · decide
theorem i1 : wrapA .i64 (Int.add 0 1) = 1 := by kernel_rfl
theorem i2 : wrapA .i64 (Int.add 1 1) = 2 := by kernel_rfl
theorem i3 : wrapA .i64 (Int.add 2 1) = 3 := by kernel_rfl
/-- the three policies for a size that was chosen -/
theorem thrice (a0 a1 : Int) {n : Nat} (hn : 20 ≤ n) (x y : Int) (v2 : Bool) (v3 v4 v5 p q : Int) (h : trayB p q = true) : L5_1 a0 a1 (n + 3) x y v2 v3 v4 v5 p q 0 = L5_1 a0 a1 n x y v2 v3 v4 v5 p q 3 := by
  obtain ⟨g1, g1'⟩ := grant h (k := 0) (.inl rfl) (n := n + 2) (by omega)
  obtain ⟨g2, g2'⟩ := grant h (k := 1) (.inr (.inl rfl)) (n := n + 1) (by omega)
  obtain ⟨g3, g3'⟩ := grant h (k := 2) (.inr (.inr rfl)) (n := n) (by omega)
  have e0 : ltI 0 3 = true := rfl
  have e1 : ltI 1 3 = true := rfl
  have e2 : ltI 2 3 = true := rfl
  rw [show n + 3 = n + 2 + 1 from rfl, L5_1_succ, e0, g1, g1', i1]
  simp only [cond_true, cond_false, Option.isSome_some, Bool.not_true]
  rw [show n + 2 = n + 1 + 1 from rfl, L5_1_succ, e1, g2, g2', i2]
  simp only [cond_true, cond_false, Option.isSome_some, Bool.not_true]
  rw [L5_1_succ, e2, g3, g3', i3]
  simp only [cond_true, cond_false, Option.isSome_some, Bool.not_true]

theorem condT {α : Type} (x y : α) : (bif true then x else y) = x := Eq.trans (by rfl) (Eq.refl x)
theorem condF {α : Type} (x y : α) : (bif false then x else y) = y := Eq.trans (by rfl) (Eq.refl y)
theorem notT : (!true) = false := Eq.trans (by rfl) (Eq.refl false)
theorem notF : (!false) = true := Eq.trans (by rfl) (Eq.refl true)
theorem isS {α : Type} (x : α) : Option.isSome (some x) = true := Eq.trans (by rfl) (Eq.refl true)
theorem eT {x y : Int} (h : x = y) : (!eqI x y) = false := by rw [eqT h]; rfl
theorem law_ok_ (a0 a1 : Int) (w0 : (Lit.int .u8 a0).wf = true) (w1 : (Lit.int .u8 a1).wf = true) : ∃ n, F5 n a0 a1 = some true := by
  suffices main : ∀ N : Nat, 16960 ≤ N → F5 (N + 40) a0 a1 = some true from ⟨16960 + 40, main 16960 (Nat.le_refl _)⟩
  intro N hN
  have b0 := wf_u8 w0
  have b1 := wf_u8 w1
  have hx : ∃ x, t5_13 a0 = x ∧ 1 ≤ x ∧ x ≤ 128 := by
    refine ⟨1 + a0 % 128, ?_, by omega, by omega⟩
    unfold t5_13
    have : Int.tmod a0 128 = a0 % 128 := Int.tmod_eq_emod_of_nonneg b0.1
    rw [this, wrap64 (n := a0 % 128) (by omega) (by omega), add_int, wrap64 (by omega) (by omega)]
  have hy : ∃ x, t5_14 a1 = x ∧ 1 ≤ x ∧ x ≤ 128 := by
    refine ⟨1 + a1 % 128, ?_, by omega, by omega⟩
    unfold t5_14
    have : Int.tmod a1 128 = a1 % 128 := Int.tmod_eq_emod_of_nonneg b1.1
    rw [this, wrap64 (n := a1 % 128) (by omega) (by omega), add_int, wrap64 (by omega) (by omega)]
  obtain ⟨x, ex, x1, x2⟩ := hx
  obtain ⟨y, ey, y1, y2⟩ := hy
  have e0 : ltI 0 3 = true := rfl
  have e1 : ltI 1 3 = true := rfl
  have e2 : ltI 2 3 = true := rfl
  have e3 : ltI 3 3 = false := rfl
  have z01 : eqI 0 1 = false := rfl
  have z02 : eqI 0 2 = false := rfl
  have z11 : eqI 1 1 = true := rfl
  have z12 : eqI 1 2 = false := rfl
  have z21 : eqI 2 1 = false := rfl
  have z22 : eqI 2 2 = true := rfl
  have y40 : eqI 41 0 = false := rfl
  have y41 : eqI 41 41 = true := rfl
  unfold F5
  rw [ex, ey]
  have v0 := val0 x1 x2 y1 y2 (n := (N + 40)) (by omega)
  rw [f16 v0, f16_0 v0]
  cases ht : trayB x y with
  | true =>
    have c0 : ∀ k, ch x y k = (x, y, 0) := fun k => by unfold ch; rw [ht]; rfl
    obtain ⟨g, g'⟩ := grant ht (k := 0) (.inl rfl) (n := (N + 40)) (by omega)
    rw [c0, eqF (x := x) (y := 0) (by omega), g, g']
    simp only [condT, condF, isS, notT, notF]
    have step : ∀ (m : Nat), 24 ≤ m → ∀ (k : Int) (v3 v4 : Int), (k = 0 ∨ k = 1 ∨ k = 2) → L5_0 a0 a1 (m + 1) x y false v3 v4 k = L5_1 a0 a1 (m - 3) x y false v3 v4 k x y 3 := by
      intro m hm k v3 v4 hk
      have v : F12 m x y k = some (x, y, 0) := by
        rw [← c0 k]
        rcases hk with rfl | rfl | rfl
        · exact val0 x1 x2 y1 y2 (by omega)
        · exact val1 x1 x2 y1 y2 (by omega)
        · exact val2 x1 x2 y1 y2 (by omega)
      obtain ⟨t1, t2, t3⟩ := t12 v
      have hlt : ltI k 3 = true := ltT (by omega)
      obtain ⟨r, rfl⟩ : ∃ r, m = r + 3 := ⟨m - 3, by omega⟩
      rw [L5_0_succ, hlt, v, t1, t2, t3, eT (rfl : (0 : Int) = 0)]
      simp only [condT, condF, isS]
      rw [thrice a0 a1 (by omega) x y false v3 v4 k x y ht, Nat.add_sub_cancel]
    have lx := ltF (x := x) (y := x) (by omega)
    have ly := ltF (x := y) (y := y) (by omega)
    rw [step (N + 39) (by omega) 0 0 0 (.inl rfl), show (N + 39 - 3 : Nat) = N + 35 + 1 from rfl, L5_1_succ, e3]
    simp only [condT, condF, notF, eT (rfl : x = x), eT (rfl : y = y), z01, z02, i1]
    rw [show (N + 35 : Nat) = N + 34 + 1 from rfl, step (N + 34) (by omega) 1 0 0 (.inr (.inl rfl)), show (N + 34 - 3 : Nat) = N + 30 + 1 from rfl, L5_1_succ, e3]
    simp only [condT, condF, notF, eT (rfl : x = x), eT (rfl : y = y), z11, z12, i2, lx, ly]
    rw [show (N + 30 : Nat) = N + 29 + 1 from rfl, step (N + 29) (by omega) 2 x y (.inr (.inr rfl)), show (N + 29 - 3 : Nat) = N + 25 + 1 from rfl, L5_1_succ, e3]
    simp only [condT, condF, notF, eT (rfl : x = x), eT (rfl : y = y), z21, z22, i3]
    rw [show (N + 25 : Nat) = N + 24 + 1 from rfl, L5_0_succ, e3]
    simp only [condF]
    refine walkM a0 a1 x1 x2 y1 y2 (fun i j hij u w => ?_) (N + 24) 1 1 (by omega) (by omega) (by omega) (by omega) (by omega)
    rcases tray_t ht with ⟨rfl, rfl⟩ | ⟨rfl, rfl⟩ | ⟨rfl, rfl⟩ | ⟨rfl, rfl⟩ <;> rcases tray_t hij with ⟨rfl, rfl⟩ | ⟨rfl, rfl⟩ | ⟨rfl, rfl⟩ | ⟨rfl, rfl⟩ <;> omega
  | false =>
    have c0 : ch x y 0 = (0, 0, 41) := by unfold ch; rw [ht]; rfl
    have c1 : ch x y 1 = ((big x y).1, (big x y).2, 0) := by unfold ch; rw [ht]; rfl
    obtain ⟨bt, bx, by_, H⟩ := big_is x1 x2 y1 y2
    generalize hp : (big x y).1 = p at *
    generalize hq : (big x y).2 = q at *
    have bb : 1 ≤ p ∧ p ≤ 128 ∧ 1 ≤ q ∧ q ≤ 128 := by have := tray_t bt; omega
    rw [c0, z0, y41]
    simp only [condT, condF, isS, notT, notF]
    have last : ∀ k : Nat, 16960 ≤ k → L5_2 a0 a1 k x y p q 1 1 = some true := fun k hk =>
      walkM a0 a1 bb.1 bb.2.1 bb.2.2.1 bb.2.2.2 H k 1 1 (by omega) (by omega) (by omega) (by omega) (by omega)
    have v0' : F12 (N + 39) x y 0 = some (0, 0, 41) := by rw [← c0]; exact val0 x1 x2 y1 y2 (by omega)
    have v1 : F12 (N + 38) x y 1 = some (p, q, 0) := by rw [← c1]; exact val1 x1 x2 y1 y2 (by omega)
    obtain ⟨t1, t2, t3⟩ := t12 v0'
    obtain ⟨s1, s2, s3⟩ := t12 v1
    rw [show (N + 40 : Nat) = N + 39 + 1 from rfl, L5_0_succ, e0, v0', t3, y40, y41]
    simp only [condT, condF, isS, notT, notF]
    rw [i1, show (N + 39 : Nat) = N + 38 + 1 from rfl, L5_0_succ, e1, v1, s1, s2, s3, eT (rfl : (0 : Int) = 0)]
    simp only [condT, condF, isS]
    rw [show (N + 38 : Nat) = N + 35 + 3 from rfl, thrice a0 a1 (by omega) x y true 0 0 1 p q bt, show (N + 35 : Nat) = N + 34 + 1 from rfl, L5_1_succ, e3, z11, z12, ltF (x := p) (y := x) bx, ltF (x := q) (y := y) by_]
    simp only [condT, condF, notT]
    rw [i2, show (N + 34 : Nat) = N + 33 + 1 from rfl, L5_0_succ, e2]
    have c2 : ch x y 2 = bif trayB y x then (y, x, 0) else (0, 0, 41) := by unfold ch; rw [ht]; rfl
    have v2 := val2 x1 x2 y1 y2 (n := (N + 33)) (by omega)
    obtain ⟨u1, u2, u3⟩ := t12 v2
    rw [c2] at u1 u2 u3
    rw [v2, u1, u2, u3]
    cases hr : trayB y x with
    | false =>
      simp only [condT, condF, isS, y40, y41, notT, notF]
      rw [i3, show (N + 33 : Nat) = N + 32 + 1 from rfl, L5_0_succ, e3]
      simp only [condF]
      exact last _ (by omega)
    | true =>
      simp only [condT, condF, isS, eT (rfl : (0 : Int) = 0)]
      rw [show (N + 33 : Nat) = N + 30 + 3 from rfl, thrice a0 a1 (by omega) x y true p q 2 y x hr, show (N + 30 : Nat) = N + 29 + 1 from rfl, L5_1_succ, e3, z21, z22, eT (rfl : y = y), eT (rfl : x = x)]
      simp only [condT, condF, notT]
      rw [i3, show (N + 29 : Nat) = N + 28 + 1 from rfl, L5_0_succ, e3]
      simp only [condF]
      exact last _ (by omega)

end

theorem walk {w : World} {E : Nat → Go.Sx.Ent} (hE : Go.Sx.GlobE E) (a0 : Int) (a1 : Int) (wa0 : (Lit.int .u8 a0).wf = true) (wa1 : (Lit.int .u8 a1).wf = true) (hL : Go.Sx.LaidAt E w vars) {ARGS : List Value} (ha : Go.Sx.RelL (Go.Sx.laidE E) [.int .u8 a0, .int .u8 a1] ARGS) :
    Calls Tryz.prog 5 ARGS.toArray w fun e w' => e = .returned (.bool true) ∧ Below w.heap.size w w' := by
  obtain ⟨n, hn⟩ := law_ok_ a0 a1 wa0 wa1
  exact Go.Sx.call_args_at okayed hE ha Tryz.func5 body5_eq (run5 n a0 a1  true hn) hL

theorem door_met (os : Os) (args : Array Value) : laidMetH Tryz.prog laid ((World.doorLaid Tryz.prog 400 os).forCall (fun _ _ => 0) ⟨#[], args, []⟩).memory :=
  laidMetH_of_parts3 (fuel := 8) (laidMet_of_run' 8 (by kernel_rfl) (by kernel_rfl)) (by kernel_rfl) (by kernel_rfl)

set_option maxRecDepth 100000 in
theorem lifted (os : Os) (started : os.Started) (H : Type) (enc : TypeId × Value → H) :
    ReturnsInHanded {} Tryz.checked os 5 .any (fun w args => (Rows.mediaGrantsSpec.pre enc Tryz.prog Tryz.f5 [] false w args ∧ laidMetH Tryz.prog laid w) ∧ sizedMet enc Tryz.prog Tryz.f5 (OpenSpec.ofChange Rows.mediaGrantsSpec) false w args)
      (Rows.mediaGrantsSpec.post enc Tryz.prog Tryz.f5 false true false false) := by
  refine returnsInHanded_of_change_and (C := Tryz.checked) (X := fun w _ => laidMetH Tryz.prog laid w) (fun _ _ _ hh h => h.of_heap hh) own started (by kernel_rfl) Tryz.func5
    (ChangeSpec.witness_shaped (enc := enc) (C := Tryz.checked) (os := os) (X := fun w _ => laidMetH Tryz.prog laid w) false (World.doorLaid Tryz.prog 400 os) #[.int .u8 0, .int .u8 0] 8 rfl (World.shaped_of_RefB (by kernel_rfl) (by kernel_rfl)) (by kernel_rfl) (by kernel_rfl) (by kernel_rfl) (door_met os _)) ?_
  intro W base args ds gs before hval0 hW _ _ hL _
  have hval : ∀ (j : Nat) t v, Tryz.f5.params[j]? = some t → args[j]? = some v → Value.okWide Tryz.prog W .any base t v := hval0
  have hW' := hW
  obtain ⟨p, q, hA0, hV, rfl, hfz, hnd⟩ := hW
  have hA : DataW.TrodAll enc Tryz.prog W 0 (fun _ => true) true Tryz.f5.params.toList args.toList ds p := hA0
  rw [Tryz.params5] at hA hval
  obtain ⟨v0, vs0, d0, ds0, p0, q0, hargs, rfl, rfl, h0, r0⟩ := trodAll_cons hA
  obtain ⟨v1, vs1, d1, ds1, p1, q1, rfl, rfl, rfl, h1, r1⟩ := trodAll_cons r0
  obtain ⟨rfl, rfl, rfl⟩ := trodAll_nil r1
  obtain rfl : args = #[v0, v1] := by cases args; simp_all
  obtain ⟨rfl, rfl⟩ := trodVars_none hV
  obtain ⟨cs0, k0⟩ := Go.Sx.open_cs (ks := [.int .u8]) (by kernel_rfl) h0
  have g0 := k0
  obtain ⟨cs1, k1⟩ := Go.Sx.open_cs (ks := [.int .u8]) (by kernel_rfl) h1
  have g1 := k1
  clear hA0
  have done : Calls Tryz.prog 5 #[v0, v1] W (fun e w' => e = .returned (.bool true) ∧ Below W.heap.size W w') := by
    obtain ⟨_, _, _, _, rfl, _, ⟨a0, rfl, wa0, rfl⟩, k0⟩ := k0
    obtain ⟨rfl, _⟩ := k0
    obtain ⟨_, _, _, _, rfl, _, ⟨a1, rfl, wa1, rfl⟩, k1⟩ := k1
    obtain ⟨rfl, _⟩ := k1
    exact walk (Go.Sx.argE_glob _) a0 a1 wa0 wa1 (Go.Sx.laid_none (Go.Sx.laidIn_of hL (by kernel_rfl) vars_eq) (by kernel_rfl)) (ARGS := [v0, v1]) ⟨_, _, Go.Sx.rel_one_cs (E := (Go.Sx.argE [])) (n := 0) (t := 5) (Go.Sx.one_int Tryz.underlying5 (hval 0 5 v0 rfl rfl)) g0 trivial rfl, ⟨_, _, Go.Sx.rel_one_cs (E := (Go.Sx.argE [])) (n := 0) (t := 5) (Go.Sx.one_int Tryz.underlying5 (hval 1 5 v1 rfl rfl)) g1 trivial rfl, rfl, rfl⟩, rfl⟩
  refine done.mono fun e W' ⟨he, hg⟩ => ?_
  subst he
  exact ⟨_, rfl, Go.Sx.post_of_below (pv := []) hW' (fun _ _ _ => (trodAll_cons_mk (shut_bool Tryz.underlying4 _) trodAll_mk0)) (fun sp hsp => (trodAll_cons_mk (Go.Sx.stays_below laidOut (by kernel_rfl) (Nat.le_of_ble_eq_true (by kernel_rfl)) h0 hg (fun p hp => hsp p (by simp [hp]))) (trodAll_cons_mk (Go.Sx.stays_below laidOut (by kernel_rfl) (Nat.le_of_ble_eq_true (by kernel_rfl)) h1 hg (fun p hp => hsp p (by simp [hp]))) trodAll_mk0))) (fun _ _ => rfl) (by simp)
    hg (ok_one (by kernel_rfl) rfl (okWide_bool_mk Tryz.underlying4 _))⟩

theorem over : Rows.MediaGrantsSaid :=
  OpenClaim.holds_of_wide 5 Tryz.f5 rfl rfl rfl rfl rfl rfl rfl ⟨rfl, rfl, rfl, rfl, rfl⟩ rfl rfl rfl rfl rfl (by kernel_rfl) Tryz.func5 (by kernel_rfl)
    (of_decide_eq_true (by kernel_rfl)) (by unfold Func.isWrapper; first | (rw [if_pos (by decide +kernel)]; kernel_rfl) | (rw [if_neg (by decide +kernel)]; exact ⟨rfl, rfl⟩))
    (fun os started H enc _ => lifted os started H enc)

theorem noStandIn : ([5, 5].all fun t => Tryz.prog.wantsStandIn t == false) = true := by kernel_rfl
theorem proved : Rows.MediaGrantsCardSaid :=
  Claim7.holds_tied_plain_at .later [] [.data, .data] true (true, "c1a4e6ef0812ddccd3756545ba7dab153d716b70fc5f46b64ce237f712d8ea40") false
    over (fun _ h => by cases h) (by kernel_rfl) (fun _ h => by cases h) mediaGrants_row_tie rfl ⟨rfl, rfl⟩ (by kernel_rfl) rfl
    (fun f fn hf hfn => by
      obtain rfl : f = 5 := Option.some.inj ((show Tryz.prog.funcNamed "chase/chaselaw39.MediaGrants" = some 5 by kernel_rfl).symm.trans hf) |>.symm
      obtain rfl : fn = Tryz.f5 := (Option.some.inj (Tryz.func5.symm.trans hfn)).symm
      exact ⟨by kernel_rfl, fun j t ht => by
        rw [Tryz.params5] at ht
        have hm := Array.mem_of_getElem? ht
        have := List.all_eq_true.1 noStandIn t (by simpa using hm)
        exact beq_iff_eq.1 this⟩)
    (by kernel_rfl)
#print axioms proved
end Go.Proofs.YtnablhjgnenkoaaGreatDoor.mediaGrants
