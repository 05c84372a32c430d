/- 'chase/chaselaw02.AsciiKnown' returns true for every argument, and nothing that was there is changed. The first parts are the texts before: each function of the run as a term. Here: the numbers, and the rest. -/
import Derived.Test.YtllkcnfilignkaaAsciiKnownB
namespace Go.Proofs.Ytllkcnfilignkaa.asciiKnown
open Go.ChangeShapes Go.WideShapes Go.ChangeAt Go.WideMaps Go.WideElems Go.RowKit
set_option linter.unusedVariables false
section
open Go.Sx
set_option maxRecDepth 1000000

set_option maxRecDepth 100000
theorem cT {α : Type} {b : Bool} {x y : α} (h : b = true) : (bif b then x else y) = x := by rw [h]; rfl
theorem cF {α : Type} {b : Bool} {x y : α} (h : b = false) : (bif b then x else y) = y := by rw [h]; rfl
theorem ltT {x y : Int} (h : x < y) : ltI x y = true := by rw [ltI_t]; exact h
theorem ltF {x y : Int} (h : y ≤ x) : ltI x y = false := by rw [ltI_f]; exact h
theorem nltT {x y : Int} (h : y ≤ x) : (!ltI x y) = true := by rw [ltF h]; rfl
theorem nltF {x y : Int} (h : x < y) : (!ltI x y) = false := by rw [ltT h]; rfl
theorem eqT {x y : Int} (h : x = y) : eqI x y = true := by rw [eqI_t]; exact h
theorem eqF {x y : Int} (h : x ≠ y) : eqI x y = false := by rw [eqI_f]; exact h
theorem inT {i : Int} {n : Nat} (h1 : 0 ≤ i) (h2 : i.toNat < n) : inB i n = true := by rw [inB_t]; exact ⟨h1, h2⟩
theorem nbltT {a b : Nat} (h : a < b) : Nat.blt a b = true := Nat.ble_eq_true_of_le h
theorem nbleT {a b : Nat} (h : a ≤ b) : Nat.ble a b = true := Nat.ble_eq_true_of_le h
theorem nbeqT {a b : Nat} (h : a = b) : Nat.beq a b = true := by rw [h]; exact Nat.beq_refl b
theorem w8 {n : Int} (h1 : 0 ≤ n) (h2 : n ≤ 255) : wrapA .u8 n = n := wrap_in (by simpa [IntKind.min, IntKind.signed] using h1) (by simpa [IntKind.max, IntKind.signed, IntKind.bits] using h2)
theorem w16 {n : Int} (h1 : 0 ≤ n) (h2 : n ≤ 65535) : wrapA .u16 n = n := wrap_in (by simpa [IntKind.min, IntKind.signed] using h1) (by simpa [IntKind.max, IntKind.signed, IntKind.bits] using h2)
theorem ku (k : IntKind) (h : k.signed = false) (n : Int) : IntKind.wrap k n = n % (2 ^ k.bits : Nat) := by
  unfold IntKind.wrap; rw [h]; simp
theorem wu8 (n : Int) : wrapA .u8 n = n % 256 := by rw [← kwrap_eq, ku .u8 rfl]; rfl
theorem wu16 (n : Int) : wrapA .u16 n = n % 65536 := by rw [← kwrap_eq, ku .u16 rfl]; rfl
theorem wu32 (n : Int) : wrapA .u32 n = n % 4294967296 := by rw [← kwrap_eq, ku .u32 rfl]; rfl
theorem kku8 (n : Int) : IntKind.wrap .u8 n = n % 256 := by rw [ku .u8 rfl]; rfl
/-- octets as cells -/
def by8 (l : List Nat) : List AV := l.map fun (b : Nat) => AV.int .u8 (b : Int)
theorem by8_len (l : List Nat) : (by8 l).length = l.length := by simp [by8]
theorem by8_app (a b : List Nat) : by8 a ++ by8 b = by8 (a ++ b) := by simp [by8]
theorem by8_pure : ∀ (l : List Nat), pureAVs (by8 l) = true
  | [] => rfl
  | x :: l => by show pureAVs (.int .u8 (x : Int) :: by8 l) = true; simp only [pureAVs, pureAV, Bool.true_and]; exact by8_pure l
theorem by8_plain : ∀ (l : List Nat), (by8 l).all AV.plain = true
  | [] => rfl
  | x :: l => by show (AV.plain (.int .u8 (x : Int)) && (by8 l).all AV.plain) = true; simp only [AV.plain, Bool.true_and]; exact by8_plain l
theorem by8_u8 : ∀ (l : List Nat), (by8 l).all isU8 = true
  | [] => rfl
  | x :: l => by show (isU8 (.int .u8 (x : Int)) && (by8 l).all isU8) = true; simp only [isU8, Bool.true_and]; exact by8_u8 l
theorem by8_str (l : List Nat) {k : Nat} (h : k = l.length) : strOk (by8 l) 0 k = true ∧ strOf (by8 l) 0 k = l := by
  subst h
  have ht : ((by8 l).drop 0).take l.length = by8 l := by rw [List.drop_zero, List.take_of_length_le (by rw [by8_len]; exact Nat.le_refl _)]
  refine ⟨?_, ?_⟩
  · simp only [strOk, ht, Bool.and_eq_true]
    exact ⟨nbleT (by rw [by8_len]; omega), by8_u8 l⟩
  · unfold Go.Sx.strOf; rw [ht]; simp only [by8, List.map_map]
    conv => rhs; rw [← List.map_id l]
    exact List.map_congr_left fun x _ => by simp
theorem dropc {s : List Nat} {i : Nat} (h : i < s.length) : s.drop i = s.getD i 0 :: s.drop (i + 1) := by
  rw [List.drop_eq_getElem_cons h, List.getD_eq_getElem?_getD, List.getElem?_eq_getElem h]; rfl
theorem byteI_at (s : List Nat) (i : Nat) : byteI s (i : Int) = ((s.getD i 0 % 256 : Nat) : Int) := rfl
theorem strEq_same (s : List Nat) : strEq s s = true := by simp [strEq]
theorem strEq_bytes {a b : List Nat} (ha : ∀ x ∈ a, x < 256) (hb : ∀ x ∈ b, x < 256) : strEq a b = decide (a = b) := by
  have key : ∀ l : List Nat, (∀ x ∈ l, x < 256) → l.map (· % 256) = l := fun l h => by
    conv => rhs; rw [← List.map_id l]
    exact List.map_congr_left fun x hx => by have := h x hx; simp; omega
  unfold strEq; rw [key a ha, key b hb]
  by_cases e : a = b
  · subst e; simp
  · simp [e]
theorem xor_u8 {p m : Nat} (hp : p < 256) (hm : m < 256) : IntKind.wrap .u8 (↑(BitVec.toNat (BitVec.ofInt 8 (p : Int) ^^^ BitVec.ofInt 8 (m : Int))) : Int) = ((p ^^^ m : Nat) : Int) := by
  have h := Nat.xor_lt_two_pow (n := 8) (x := p) (y := m) (by omega) (by omega)
  rw [BitVec.toNat_xor, BitVec.ofInt_natCast, BitVec.ofInt_natCast, BitVec.toNat_ofNat, BitVec.toNat_ofNat, Nat.mod_eq_of_lt (by omega), Nat.mod_eq_of_lt (by omega), kku8]
  omega
theorem xor_step (a b : Nat) : a ^^^ b = (if a % 2 = b % 2 then 0 else 1) + 2 * (a / 2 ^^^ b / 2) := by
  have h1 : (a ^^^ b) / 2 = a / 2 ^^^ b / 2 := Nat.xor_div_two
  have h2 : (a ^^^ b) % 2 = 1 ↔ ¬ ((a % 2 = 1) ↔ (b % 2 = 1)) := Nat.xor_mod_two_eq_one
  have h3 := Nat.div_add_mod (a ^^^ b) 2
  rw [h1] at h3
  have ha : a % 2 < 2 := Nat.mod_lt _ (by omega)
  have hb : b % 2 < 2 := Nat.mod_lt _ (by omega)
  have hx : (a ^^^ b) % 2 < 2 := Nat.mod_lt _ (by omega)
  split
  · rename_i e
    have : (a ^^^ b) % 2 ≠ 1 := fun q => (h2.1 q) (by rw [e])
    omega
  · rename_i e
    have : (a ^^^ b) % 2 = 1 := h2.2 (fun q => e (by
      by_cases z : a % 2 = 1
      · have := q.1 z; omega
      · have : ¬ b % 2 = 1 := fun y => z (q.2 y)
        omega))
    omega
theorem by8_put (a z w : List Nat) (h : w.length ≤ z.length) : putOk (by8 (a ++ z)) (0 + a.length * 1) w.length = true ∧ putL (by8 (a ++ z)) (0 + a.length * 1) (by8 w) = by8 (a ++ w ++ z.drop w.length) := by
  refine ⟨nbleT (by rw [by8_len, List.length_append]; omega), ?_⟩
  unfold putL
  rw [Nat.zero_add, Nat.mul_one, by8_len]
  unfold by8
  simp [List.drop_append, ← List.map_take, ← List.map_drop]
theorem rep0 : ∀ n, repeatL n [AV.int .u8 0] = by8 (List.replicate n 0)
  | 0 => rfl
  | n + 1 => by rw [repeatL, rep0 n, List.replicate_succ]; rfl
def hexd (d : Nat) : Nat := if d < 10 then 48 + d else 55 + d
def hex : List Nat → List Nat
  | [] => []
  | x :: s => hexd (x % 256 / 16) :: hexd (x % 256 % 16) :: hex s
theorem hexd_tab : ∀ d, d < 16 → ([48, 49, 50, 51, 52, 53, 54, 55, 56, 57, 65, 66, 67, 68, 69, 70] : List Nat).getD d 0 % 256 = hexd d := by decide
theorem hexd_lt {d : Nat} (h : d < 16) : hexd d < 256 := by unfold hexd; split <;> omega
theorem and15 {b : Nat} (hb : b < 256) : IntKind.wrap .u8 (↑(BitVec.toNat (BitVec.ofInt 8 (b : Int) &&& BitVec.ofInt 8 15)) : Int) = ((b % 16 : Nat) : Int) := by
  have e : (BitVec.ofInt 8 15 : BitVec 8) = BitVec.ofNat 8 15 := rfl
  rw [BitVec.ofInt_natCast, e, BitVec.toNat_and, BitVec.toNat_ofNat, BitVec.toNat_ofNat, Nat.mod_eq_of_lt (by omega), kku8]
  have : b &&& 15 % 2 ^ 8 = b % 16 := Nat.and_two_pow_sub_one_eq_mod b 4
  rw [this]; omega
theorem tab_at {d : Nat} (h : d < 16) : byteI (List.map UInt8.toNat (Array.toList (ByteArray.data { data := #[48, 49, 50, 51, 52, 53, 54, 55, 56, 57, 65, 66, 67, 68, 69, 70] }))) (d : Int) = (hexd d : Int) := by
  have e : (List.map UInt8.toNat (Array.toList (ByteArray.data { data := #[48, 49, 50, 51, 52, 53, 54, 55, 56, 57, 65, 66, 67, 68, 69, 70] }))) = ([48, 49, 50, 51, 52, 53, 54, 55, 56, 57, 65, 66, 67, 68, 69, 70] : List Nat) := rfl
  rw [e, byteI_at, hexd_tab d h]
theorem hex_len : ∀ s : List Nat, (hex s).length = 2 * s.length
  | [] => rfl
  | x :: s => by simp only [hex, List.length_cons, hex_len s]; omega
def hexS (tt : List Nat) : List Nat × Int := if 65536 < 2 * tt.length + 1 then ([], 3) else (hex tt ++ [62], 0)
theorem fd16 (b : Nat) : Int.fdiv (b : Int) 16 = ((b / 16 : Nat) : Int) := by rw [fdiv_pos _ (by omega)]; omega
theorem l11 (tt : List Nat) (hs : tt.length ≤ 65536) : ∀ (n i : Nat) (acc z : List Nat), tt.length - i < n → i ≤ tt.length → acc.length = 2 * i → acc.length + z.length = 2 * tt.length + 1 →
    L11_0 tt n acc.length (2 * tt.length + 1) i (by8 (acc ++ z)) = some (if 65536 < 2 * tt.length + 1 then ([], 3) else (acc ++ hex (tt.drop i) ++ [62], 0)) := by
  intro n
  induction n with
  | zero => intro i acc z h; omega
  | succ n ih =>
    intro i acc z hn h1 ha hz
    rw [L11_0_succ]
    by_cases q : i < tt.length
    · have hb : tt.getD i 0 % 256 < 256 := Nat.mod_lt _ (by omega)
      have e1 : t11_30 tt i = (hexd (tt.getD i 0 % 256 / 16) : Int) := by unfold t11_30; rw [byteI_at, fd16]; exact tab_at (by omega)
      have e2 : t11_31 tt i = (hexd (tt.getD i 0 % 256 % 16) : Int) := by unfold t11_31; rw [byteI_at, and15 hb]; exact tab_at (by omega)
      have e4 : wrapA .i64 (Int.add (i : Int) 1) = ((i + 1 : Nat) : Int) := by rw [add_int]; exact wrap64 (by omega) (by omega)
      obtain ⟨p1, p2⟩ := by8_put acc z [hexd (tt.getD i 0 % 256 / 16), hexd (tt.getD i 0 % 256 % 16)] (by simp; omega)
      have e3 : l11_33 tt acc.length i (by8 (acc ++ z)) = by8 (acc ++ [hexd (tt.getD i 0 % 256 / 16), hexd (tt.getD i 0 % 256 % 16)] ++ z.drop 2) := by
        unfold l11_33; rw [e1, e2]; exact p2
      have e5 : putOk (by8 (acc ++ z)) (0 + acc.length * 1) (List.length (List.take 2 (List.drop 0 [AV.int .u8 (t11_30 tt i), AV.int .u8 (t11_31 tt i)]))) = true := p1
      have c1 : Nat.blt (2 * tt.length + 1) (acc.length + 2) = false := by
        cases h : Nat.blt (2 * tt.length + 1) (acc.length + 2) with
        | false => rfl
        | true => have := Nat.le_of_ble_eq_true h; omega
      rw [ltT (by omega), inT (by omega) (by omega), byteI_at, fd16, inT (by omega) (by omega), and15 hb, inT (by omega) (by omega), c1, (nbleT (by omega) : Nat.ble (acc.length + 2) (2 * tt.length + 1) = true), e5, e3, e4]
      simp only [by8_pure, cond_true, cond_false]
      have hl : (acc ++ [hexd (tt.getD i 0 % 256 / 16), hexd (tt.getD i 0 % 256 % 16)]).length = acc.length + 2 := by simp
      have := ih (i + 1) (acc ++ [hexd (tt.getD i 0 % 256 / 16), hexd (tt.getD i 0 % 256 % 16)]) (z.drop 2) (by omega) (by omega) (by rw [hl]; omega) (by rw [hl, List.length_drop]; omega)
      rw [hl] at this
      rw [this, dropc q]
      simp [hex]
    · obtain ⟨p1, p2⟩ := by8_put acc z [62] (by simp; omega)
      have hz1 : z.length = 1 := by omega
      have hd : z.drop 1 = [] := List.drop_eq_nil_of_le (by omega)
      have e3 : l11_38 acc.length (by8 (acc ++ z)) = by8 (acc ++ [62]) := by
        unfold l11_38; have := p2; simp only [List.length_singleton, hd, List.append_nil] at this; exact this
      obtain ⟨s1, s2⟩ := by8_str (acc ++ [62]) (k := acc.length + 1) (by simp)
      have c1 : Nat.blt (2 * tt.length + 1) (acc.length + 1) = false := by
        cases h : Nat.blt (2 * tt.length + 1) (acc.length + 1) with
        | false => rfl
        | true => have := Nat.le_of_ble_eq_true h; omega
      have p1' : putOk (by8 (acc ++ z)) (0 + acc.length * 1) 1 = true := p1
      have hd2 : tt.drop i = [] := List.drop_eq_nil_of_le (by omega)
      rw [ltF (by omega), c1, (nbleT (by omega) : Nat.ble (acc.length + 1) (2 * tt.length + 1) = true), p1', e3, s1, s2, hd2]
      unfold c11_34
      simp only [cond_true, cond_false]
      by_cases hL : 65536 < 2 * tt.length + 1
      · rw [ltT (by omega), if_pos hL]; rfl
      · rw [ltF (by omega), if_neg hL]; simp [hex]
theorem f11 {n : Nat} (hn : 70000 ≤ n) (tt : List Nat) (hl : tt.length ≤ 4000000000000000000) : F11 n tt = some (hexS tt) := by
  unfold F11
  by_cases h1 : 65536 < tt.length
  · unfold hexS; rw [ltT (by omega), if_pos (by omega)]; rfl
  have e : t11_29 tt = ((2 * tt.length + 1 : Nat) : Int) := by
    unfold t11_29
    have a : wrapA .i64 (Int.mul 2 (tt.length : Int)) = 2 * (tt.length : Int) := by rw [mul_int, wrap64 (by omega) (by omega)]
    rw [a, add_int, wrap64 (by omega) (by omega)]; omega
  rw [ltF (by omega), e, nltT (by omega), nltT (by omega), Int.toNat_natCast, rep0]
  simp only [by8_pure, cond_true, cond_false]
  have := l11 tt (by omega) n 0 [] (List.replicate (2 * tt.length + 1) 0) (by omega) (by omega) rfl (by simp)
  simp only [List.nil_append, List.length_nil, List.drop_zero] at this
  exact this
theorem f21 {d : Nat} (hd : d < 16) : F21_0 (d : Int) = (hexd d : Int) := by
  unfold F21_0 F21 t21_0 hexd
  by_cases h : d < 10
  · have e : wrapA .i64 (Int.add 48 (d : Int)) = ((48 + d : Nat) : Int) := by rw [add_int, wrap64 (by omega) (by omega)]; omega
    rw [ltT (by omega), e, w8 (by omega) (by omega), if_pos h]; rfl
  · have e : wrapA .i64 (Int.sub (wrapA .i64 (Int.add 65 (d : Int))) 10) = ((55 + d : Nat) : Int) := by
      have a : wrapA .i64 (Int.add 65 (d : Int)) = 65 + (d : Int) := by rw [add_int, wrap64 (by omega) (by omega)]
      rw [a, sub_int, wrap64 (by omega) (by omega)]; omega
    have w := w8 (n := ((55 + d : Nat) : Int)) (by omega) (by omega)
    rw [ltF (by omega), e, w, if_neg h]; rfl
theorem td16 {b : Nat} (h : b < 256) : wrapA .i64 (Int.tdiv (wrapA .i64 (b : Int)) 16) = ((b / 16 : Nat) : Int) ∧ Int.tmod (wrapA .i64 (b : Int)) 16 = ((b % 16 : Nat) : Int) := by
  have e : wrapA .i64 (b : Int) = b := wrap64 (by omega) (by omega)
  rw [e, tdiv_pos (by omega), tmod_pos (by omega), wrap64 (by omega) (by omega)]; omega
theorem l12 (tt : List Nat) (hs : tt.length ≤ 65536) : ∀ (n i : Nat) (acc : List Nat), tt.length - i < n → i ≤ tt.length → acc.length = 2 * i →
    L12_1 tt n acc.length i (by8 acc) = some (acc ++ hex (tt.drop i) ++ [62], 0) := by
  intro n
  induction n with
  | zero => intro i acc h; omega
  | succ n ih =>
    intro i acc hn h1 ha
    rw [L12_1_succ]
    by_cases q : i < tt.length
    · have hb : tt.getD i 0 % 256 < 256 := Nat.mod_lt _ (by omega)
      have e4 : wrapA .i64 (Int.add (i : Int) 1) = ((i + 1 : Nat) : Int) := by rw [add_int]; exact wrap64 (by omega) (by omega)
      have e3 : l12_10 tt i (by8 acc) = by8 (acc ++ [hexd (tt.getD i 0 % 256 / 16), hexd (tt.getD i 0 % 256 % 16)]) := by
        unfold l12_10; rw [byteI_at, (td16 hb).1, (td16 hb).2, f21 (by omega), f21 (by omega), ← by8_app]; rfl
      rw [ltT (by omega), inT (by omega) (by omega), nbltT (by omega), nbleT (by omega), nbeqT (by rw [by8_len]; omega), e3, e4]
      simp only [by8_pure, cond_true]
      have hl : (acc ++ [hexd (tt.getD i 0 % 256 / 16), hexd (tt.getD i 0 % 256 % 16)]).length = acc.length + 2 := by simp
      have := ih (i + 1) (acc ++ [hexd (tt.getD i 0 % 256 / 16), hexd (tt.getD i 0 % 256 % 16)]) (by omega) (by omega) (by rw [hl]; omega)
      rw [hl] at this
      rw [this, dropc q]
      simp [hex]
    · have hd2 : tt.drop i = [] := List.drop_eq_nil_of_le (by omega)
      have e3 : l12_11 (by8 acc) = by8 (acc ++ [62]) := by unfold l12_11; rw [← by8_app]; rfl
      obtain ⟨s1, s2⟩ := by8_str (acc ++ [62]) (k := acc.length + 1) (by simp)
      rw [ltF (by omega)]
      simp only [cond_false]
      rw [nbltT (by omega), nbleT (by omega), nbeqT (by rw [by8_len]; omega), e3, s1, s2, hd2]
      simp [hex]
theorem f12 {n : Nat} (hn : 70000 ≤ n) (tt : List Nat) (hl : tt.length ≤ 4000000000000000000) : F12 n tt = some (hexS tt) := by
  unfold F12 hexS c12_8
  have a : wrapA .i64 (Int.mul 2 (tt.length : Int)) = 2 * (tt.length : Int) := by rw [mul_int, wrap64 (by omega) (by omega)]
  rw [a, add_int, wrap64 (by omega) (by omega)]
  by_cases h1 : 65536 < 2 * tt.length + 1
  · rw [ltT (by omega), if_pos h1]; rfl
  rw [ltF (by omega), if_neg h1]
  simp only [cond_false]
  obtain ⟨m, rfl⟩ : ∃ m, n = m + 1 := ⟨n - 1, by omega⟩
  rw [L12_0_succ]
  cases tt with
  | nil => rfl
  | cons x s =>
    have hb : x % 256 < 256 := Nat.mod_lt _ (by omega)
    have e3 : l12_9 (x :: s) = by8 [hexd (x % 256 / 16), hexd (x % 256 % 16)] := by
      unfold l12_9
      rw [show byteI (x :: s) 0 = ((x % 256 : Nat) : Int) from rfl, (td16 hb).1, (td16 hb).2, f21 (by omega), f21 (by omega)]; rfl
    rw [ltT (by simp only [List.length_cons]; omega), inT (by omega) (by simp only [List.length_cons]; omega), e3]
    simp only [cond_true]
    simp only [List.length_cons] at h1 hl
    exact l12 (x :: s) (by simp only [List.length_cons]; omega) m 1 [hexd (x % 256 / 16), hexd (x % 256 % 16)] (by simp only [List.length_cons]; omega) (by simp only [List.length_cons]; omega) rfl
def blank (b : Nat) : Bool := eqI (b : Int) 0 || (eqI (b : Int) 9 || (eqI (b : Int) 10 || (eqI (b : Int) 12 || (eqI (b : Int) 13 || eqI (b : Int) 32))))
theorem chain (b : Nat) {α : Type} (X Y : α) : (bif eqI (b : Int) 0 then X else (bif eqI (b : Int) 9 then X else (bif eqI (b : Int) 10 then X else (bif eqI (b : Int) 12 then X else (bif eqI (b : Int) 13 then X else (bif eqI (b : Int) 32 then X else Y)))))) = (bif blank b then X else Y) := by
  unfold blank
  generalize eqI (b : Int) 0 = a0
  generalize eqI (b : Int) 9 = a1
  generalize eqI (b : Int) 10 = a2
  generalize eqI (b : Int) 12 = a3
  generalize eqI (b : Int) 13 = a4
  generalize eqI (b : Int) 32 = a5
  cases a0 <;> cases a1 <;> cases a2 <;> cases a3 <;> cases a4 <;> cases a5 <;> rfl
theorem f24 (b : Nat) : F24_0 (b : Int) = blank b := by
  unfold F24_0 F24 blank
  generalize eqI (b : Int) 0 = a0
  generalize eqI (b : Int) 9 = a1
  generalize eqI (b : Int) 10 = a2
  generalize eqI (b : Int) 12 = a3
  generalize eqI (b : Int) 13 = a4
  generalize eqI (b : Int) 32 = a5
  cases a0 <;> cases a1 <;> cases a2 <;> cases a3 <;> cases a4 <;> cases a5 <;> rfl
def hv (c : Nat) : Option Nat := if 48 ≤ c ∧ c ≤ 57 then some (c - 48) else if 65 ≤ c ∧ c ≤ 70 then some (c - 55) else if 97 ≤ c ∧ c ≤ 102 then some (c - 87) else none
def hvI (c : Nat) : Int := match hv c with
  | some d => d
  | none => -1
theorem hv_lt {c d : Nat} (h : hv c = some d) : d < 16 := by
  unfold hv at h
  split at h
  · cases h; omega
  split at h
  · cases h; omega
  split at h
  · cases h; omega
  · cases h
theorem f25' : ∀ c : Nat, c < 256 → F25_0 (c : Int) = hvI c := by decide +kernel
theorem f43' : ∀ c : Nat, c < 256 → F43_0 (c : Int) = hvI c := by decide +kernel
theorem f25 {c : Nat} (h : c < 256) : F25_0 (c : Int) = hvI c := f25' c h
theorem f43 {c : Nat} (h : c < 256) : F43_0 (c : Int) = hvI c := f43' c h
/-- the octets of a hexadecimal text -/
def uh : List Nat → Nat → List Nat → Option Nat → List Nat × Int × Int
  | [], _, _, _ => ([], 0, 5)
  | c :: s, i, out, p => bif eqI ((c % 256 : Nat) : Int) 62 then (out ++ (match p with
      | none => []
      | some d => [16 * d]), (i + 1 : Nat), 0) else (bif blank (c % 256) then uh s (i + 1) out p else (match hv (c % 256) with
      | none => ([], 0, 5)
      | some d => match p with
        | none => uh s (i + 1) out (some d)
        | some e => uh s (i + 1) (out ++ [16 * e + d]) none))
def pn : Option Nat → Int
  | none => 0
  | some _ => 1
def pd : Option Nat → Int
  | none => 0
  | some d => d
theorem or16 {e d : Nat} (he : e < 16) (hd : d < 16) : wrapA .u8 (IntKind.wrap .i64 (↑(BitVec.toNat (BitVec.ofInt 64 (wrapA .i64 (Int.mul (e : Int) 16)) ||| BitVec.ofInt 64 (d : Int))) : Int)) = ((16 * e + d : Nat) : Int) := by
  have a : wrapA .i64 (Int.mul (e : Int) 16) = ((16 * e : Nat) : Int) := by rw [mul_int, wrap64 (by omega) (by omega)]; omega
  have b : 16 * e ||| d = 16 * e + d := (Nat.two_pow_add_eq_or_of_lt (i := 4) (by omega) e).symm
  rw [a, BitVec.ofInt_natCast, BitVec.ofInt_natCast, BitVec.toNat_or, BitVec.toNat_ofNat, BitVec.toNat_ofNat, Nat.mod_eq_of_lt (by omega), Nat.mod_eq_of_lt (by omega), b, kwrap_eq, wrap64 (by omega) (by omega), w8 (by omega) (by omega)]
theorem mul16 {e : Nat} (he : e < 16) : wrapA .u8 (wrapA .i64 (Int.mul (e : Int) 16)) = ((16 * e : Nat) : Int) := by
  have a : wrapA .i64 (Int.mul (e : Int) 16) = ((16 * e : Nat) : Int) := by rw [mul_int, wrap64 (by omega) (by omega)]; omega
  rw [a, w8 (by omega) (by omega)]
theorem hvI_n {c : Nat} (h : hv c = none) : hvI c = -1 := by unfold hvI; rw [h]
theorem hvI_s {c d : Nat} (h : hv c = some d) : hvI c = d := by unfold hvI; rw [h]
theorem nx1 {i : Nat} (h : i ≤ 70000) : wrapA .i64 (Int.add (i : Int) 1) = ((i + 1 : Nat) : Int) := by rw [add_int]; exact wrap64 (by omega) (by omega)
theorem uh_cons (c : Nat) (s : List Nat) (i : Nat) (out : List Nat) (p : Option Nat) : uh (c :: s) i out p = (bif eqI ((c % 256 : Nat) : Int) 62 then (out ++ (match p with
      | none => []
      | some d => [16 * d]), ((i + 1 : Nat) : Int), 0) else (bif blank (c % 256) then uh s (i + 1) out p else (match hv (c % 256) with
      | none => ([], 0, 5)
      | some d => match p with
        | none => uh s (i + 1) out (some d)
        | some e => uh s (i + 1) (out ++ [16 * e + d]) none))) := rfl
theorem uh_nil (i : Nat) (out : List Nat) (p : Option Nat) : uh [] i out p = ([], 0, 5) := rfl
theorem l13b (tt : List Nat) (hs : tt.length ≤ 65536) : ∀ (n i : Nat) (out : List Nat) (p : Option Nat), tt.length - i < n → i ≤ tt.length → out.length ≤ i → (∀ d, p = some d → d < 16 ∧ out.length < i) →
    L13_1 tt n i out.length (pn p) (pd p) (by8 out) = some (uh (tt.drop i) i out p) := by
  intro n
  induction n with
  | zero => intro i out p h; omega
  | succ n ih =>
    intro i out p hn h1 ho hp
    rw [L13_1_succ]
    by_cases q : i < tt.length
    · have hb : tt.getD i 0 % 256 < 256 := Nat.mod_lt _ (by omega)
      rw [ltT (by omega), inT (by omega) (by omega), byteI_at, nx1 (by omega), dropc q, uh_cons]
      simp only [by8_pure, cond_true]
      rw [chain]
      by_cases c62 : tt.getD i 0 % 256 = 62
      · rw [eqT (by omega : ((tt.getD i 0 % 256 : Nat) : Int) = 62), show blank (tt.getD i 0 % 256) = false by rw [c62]; rfl]
        simp only [cond_true, cond_false]
        cases p with
        | none =>
          obtain ⟨s1, s2⟩ := by8_str out (k := out.length) rfl
          rw [show eqI (pn none) 1 = false from rfl, ltF (by omega : (0 : Int) ≤ ((i + 1 : Nat) : Int)), ltF (by omega : (out.length : Int) ≤ 65536), s1, s2]
          simp
        | some d =>
          have hd := (hp d rfl).1
          have hd2 := (hp d rfl).2
          have e3 : l13_11 (pd (some d)) (by8 out) = by8 (out ++ [16 * d]) := by
            unfold l13_11; rw [show pd (some d) = (d : Int) from rfl, mul16 hd, ← by8_app]; rfl
          obtain ⟨s1, s2⟩ := by8_str (out ++ [16 * d]) (k := out.length + 1) (by simp)
          rw [show eqI (pn (some d)) 1 = true from rfl, nbltT (Nat.lt_succ_self _), nbleT (by omega), nbeqT (by rw [by8_len]; omega), e3, ltF (by omega : (0 : Int) ≤ ((i + 1 : Nat) : Int))]
          unfold c13_12
          rw [ltF (by omega : ((out.length + 1 : Nat) : Int) ≤ 65536), s1, s2]
          rfl
      · rw [eqF (by omega : ((tt.getD i 0 % 256 : Nat) : Int) ≠ 62)]
        simp only [cond_false]
        cases hbl : blank (tt.getD i 0 % 256) with
        | true =>
          simp only [cond_true]
          exact ih (i + 1) out p (by omega) (by omega) (by omega) (fun d hd => ⟨(hp d hd).1, by omega⟩)
        | false =>
          simp only [cond_false]
          rw [f43 hb]
          cases hh : hv (tt.getD i 0 % 256) with
          | none => rw [hvI_n hh]; rfl
          | some d =>
            have hd := hv_lt hh
            rw [hvI_s hh, ltF (by omega : (0 : Int) ≤ (d : Int))]
            simp only [cond_false]
            cases p with
            | none =>
              rw [show eqI (pn none) 0 = true from rfl]
              simp only [cond_true]
              exact ih (i + 1) out (some d) (by omega) (by omega) (by omega) (fun d' hd' => by cases hd'; exact ⟨hd, by omega⟩)
            | some e =>
              have he := (hp e rfl).1
              have he2 := (hp e rfl).2
              have e3 : l13_14 tt i (pd (some e)) (by8 out) = by8 (out ++ [16 * e + d]) := by
                unfold l13_14 t13_13; rw [byteI_at, f43 hb, hvI_s hh, show pd (some e) = (e : Int) from rfl, or16 he hd, ← by8_app]; rfl
              rw [show eqI (pn (some e)) 0 = false from rfl, nbltT (Nat.lt_succ_self _), nbleT (by omega), nbeqT (by rw [by8_len]; omega), e3]
              simp only [by8_pure, cond_true, cond_false]
              have := ih (i + 1) (out ++ [16 * e + d]) none (by omega) (by omega) (by simp; omega) (fun d' hd' => by cases hd')
              rw [List.length_append] at this
              exact this
    · rw [ltF (by omega), List.drop_eq_nil_of_le (by omega), uh_nil]; rfl
theorem l13a (tt : List Nat) (hs : tt.length ≤ 65536) : ∀ (n i : Nat) (p : Option Nat), tt.length - i < n → i ≤ tt.length → (∀ d, p = some d → d < 16 ∧ 0 < i) →
    L13_0 tt n i (pn p) (pd p) = some (uh (tt.drop i) i [] p) := by
  intro n
  induction n with
  | zero => intro i p h; omega
  | succ n ih =>
    intro i p hn h1 hp
    rw [L13_0_succ]
    by_cases q : i < tt.length
    · have hb : tt.getD i 0 % 256 < 256 := Nat.mod_lt _ (by omega)
      rw [ltT (by omega), inT (by omega) (by omega), byteI_at, nx1 (by omega), dropc q, uh_cons]
      simp only [cond_true]
      rw [chain]
      by_cases c62 : tt.getD i 0 % 256 = 62
      · rw [eqT (by omega : ((tt.getD i 0 % 256 : Nat) : Int) = 62), show blank (tt.getD i 0 % 256) = false by rw [c62]; rfl]
        simp only [cond_true, cond_false]
        cases p with
        | none => rw [show eqI (pn none) 1 = false from rfl, ltF (by omega : (0 : Int) ≤ ((i + 1 : Nat) : Int))]; rfl
        | some d =>
          have hd := (hp d rfl).1
          rw [show eqI (pn (some d)) 1 = true from rfl, ltF (by omega : (0 : Int) ≤ ((i + 1 : Nat) : Int)), show pd (some d) = (d : Int) from rfl, mul16 hd]
          rfl
      · rw [eqF (by omega : ((tt.getD i 0 % 256 : Nat) : Int) ≠ 62)]
        simp only [cond_false]
        cases hbl : blank (tt.getD i 0 % 256) with
        | true =>
          simp only [cond_true]
          exact ih (i + 1) p (by omega) (by omega) (fun d hd => ⟨(hp d hd).1, by omega⟩)
        | false =>
          simp only [cond_false]
          rw [f43 hb]
          cases hh : hv (tt.getD i 0 % 256) with
          | none => rw [hvI_n hh]; rfl
          | some d =>
            have hd := hv_lt hh
            rw [hvI_s hh, ltF (by omega : (0 : Int) ≤ (d : Int))]
            simp only [cond_false]
            cases p with
            | none =>
              rw [show eqI (pn none) 0 = true from rfl]
              simp only [cond_true]
              exact ih (i + 1) (some d) (by omega) (by omega) (fun d' hd' => by cases hd'; exact ⟨hd, by omega⟩)
            | some e =>
              have he := (hp e rfl).1
              have e3 : l13_10 tt i (pd (some e)) = by8 [16 * e + d] := by
                unfold l13_10; rw [byteI_at, f43 hb, hvI_s hh, show pd (some e) = (e : Int) from rfl, or16 he hd]; rfl
              rw [show eqI (pn (some e)) 0 = false from rfl, e3]
              simp only [cond_false]
              exact l13b tt hs n (i + 1) [16 * e + d] none (by omega) (by omega) (by simp) (fun d' hd' => by cases hd')
    · rw [ltF (by omega), List.drop_eq_nil_of_le (by omega), uh_nil]; rfl
def uhS (tt : List Nat) : List Nat × Int × Int := if 65536 < tt.length then ([], 0, 3) else uh tt 0 [] none
theorem f13 {n : Nat} (hn : 70000 ≤ n) (tt : List Nat) : F13 n tt = some (uhS tt) := by
  unfold F13 uhS
  by_cases h1 : 65536 < tt.length
  · rw [ltT (by omega), if_pos h1]; rfl
  rw [ltF (by omega), if_neg h1]
  simp only [cond_false]
  exact l13a tt (by omega) n 0 none (by omega) (by omega) (fun d hd => by cases hd)
theorem subS0 (s : List Nat) (k : Nat) : subS s 0 k = s.take k := by simp [subS]
theorem mins {m : Int} (hm : 0 ≤ m) (a : List Nat) : 0 ≤ (if m < (a.length : Int) then m else (a.length : Int)) ∧ (if m < (a.length : Int) then m else (a.length : Int)).toNat ≤ a.length ∧ ((if m < (a.length : Int) then m else (a.length : Int)).toNat : Int) ≤ m := by
  split <;> omega
theorem l10 (tt : List Nat) (pa : Int) (h0 : 0 ≤ pa) : ∀ (n v : Nat) (s : List Nat), 20 - v < n → v ≤ 16 → s.length ≤ 80000 → ∃ r, L10_0 tt pa n s v = some r ∧ r.length ≤ 80000 := by
  intro n
  induction n with
  | zero => intro v s h; omega
  | succ n ih =>
    intro v s hn hv hs
    rw [L10_0_succ, tmod_pos h0]
    by_cases q : (v : Int) < pa % 16
    · rw [ltT q]
      simp only [cond_true]
      by_cases c : 40000 < s.length
      · rw [ltT (by omega)]; exact ⟨s, rfl, hs⟩
      · have e : wrapA .u8 (Int.add (v : Int) 1) = ((v + 1 : Nat) : Int) := by rw [add_int, w8 (by omega) (by omega)]; omega
        rw [ltF (by omega), nbltT (by omega), e]
        simp only [cond_true, cond_false]
        exact ih (v + 1) (s ++ s) (by omega) (by omega) (by simp; omega)
    · rw [ltF (by omega)]; exact ⟨s, rfl, hs⟩
theorem f10 {n : Nat} (hn : 70000 ≤ n) (tt : List Nat) (pa : Int) (h0 : 0 ≤ pa) (h : tt.length ≤ 80000) : (F10 n tt pa).isSome = true ∧ (F10_0 n tt pa).length ≤ 80000 := by
  obtain ⟨r, h1, h2⟩ := l10 tt pa h0 n 0 tt (by omega) (by omega) h
  have e : F10 n tt pa = some r := h1
  refine ⟨by rw [e]; rfl, ?_⟩
  unfold F10_0; rw [e]; exact h2
def bt (P : List Nat) (i : Nat) : Nat := P.getD i 0 % 256
theorem bt_lt (P : List Nat) (i : Nat) : bt P i < 256 := Nat.mod_lt _ (by omega)
theorem byte_bt (P : List Nat) (i : Nat) : byteI P (i : Int) = (bt P i : Int) := rfl
def num (P : List Nat) : Nat := ((bt P 0 * 256 + bt P 1) * 256 + bt P 2) * 256 + bt P 3
theorem num_lt (P : List Nat) : num P < 4294967296 := by
  have := bt_lt P 0; have := bt_lt P 1; have := bt_lt P 2; have := bt_lt P 3
  unfold num; omega
def five (N : Nat) : List Nat := [33 + N / 85 / 85 / 85 / 85 % 85, 33 + N / 85 / 85 / 85 % 85, 33 + N / 85 / 85 % 85, 33 + N / 85 % 85, 33 + N % 85]
def enc85 (P : List Nat) : List Nat := if P.length = 4 ∧ num P = 0 then [122] else (five (num P)).take (P.length + 1)
def b85 : List Nat → List Nat
  | [] => []
  | [a] => enc85 [a]
  | [a, b] => enc85 [a, b]
  | [a, b, c] => enc85 [a, b, c]
  | a :: b :: c :: d :: s => enc85 [a, b, c, d] ++ b85 s
def b85S (tt : List Nat) : List Nat × Int := if 65536 < tt.length then ([], 3) else if 65536 < (b85 tt ++ [126, 62]).length then ([], 3) else (b85 tt ++ [126, 62], 0)
theorem s1 {x b : Nat} (hx : x ≤ 4294967296) (hb : b < 256) : wrapA .i64 (Int.mul (wrapA .i64 (Int.add (x : Int) (wrapA .i64 (b : Int)))) 256) = (((x + b) * 256 : Nat) : Int) := by
  have e : wrapA .i64 (b : Int) = b := wrap64 (by omega) (by omega)
  have e2 : wrapA .i64 (Int.add (x : Int) (b : Int)) = ((x + b : Nat) : Int) := by rw [add_int, wrap64 (by omega) (by omega)]; omega
  rw [e, e2, mul_int, wrap64 (by omega) (by omega)]; omega
theorem s0 {x : Nat} (hx : x ≤ 8589934592) : wrapA .i64 (Int.mul (x : Int) 256) = ((x * 256 : Nat) : Int) := by
  rw [mul_int, wrap64 (by omega) (by omega)]; omega
theorem sa {x b : Nat} (hx : x ≤ 8589934592) (hb : b < 256) : wrapA .i64 (Int.add (x : Int) (wrapA .i64 (b : Int))) = ((x + b : Nat) : Int) := by
  have e : wrapA .i64 (b : Int) = b := wrap64 (by omega) (by omega)
  rw [e, add_int, wrap64 (by omega) (by omega)]; omega
theorem f27 {P : List Nat} (h : P.length ≤ 4) (h0 : P ≠ []) : F27 P = some (num P : Int) := by
  have b0 := bt_lt P 0; have b1 := bt_lt P 1; have b2 := bt_lt P 2; have b3 := bt_lt P 3
  have e0 : t27_0 P = ((bt P 0 * 256 : Nat) : Int) := by
    have := s1 (x := 0) (b := bt P 0) (by omega) b0
    rw [Nat.zero_add] at this; exact this
  have e1 : t27_1 P = (((bt P 0 * 256 + bt P 1) * 256 : Nat) : Int) := by
    unfold t27_1; rw [e0]; exact s1 (b := bt P 1) (by omega) b1
  have e2 : t27_2 P = ((((bt P 0 * 256 + bt P 1) * 256 + bt P 2) * 256 : Nat) : Int) := by
    unfold t27_2; rw [e1]; exact s1 (b := bt P 2) (by omega) b2
  have pad : ∀ i, P.length ≤ i → bt P i = 0 := fun i hi => by
    unfold bt; rw [List.getD_eq_getElem?_getD, List.getElem?_eq_none hi]; rfl
  have hpos : 0 < P.length := List.length_pos_iff.2 h0
  unfold F27
  rw [ltT (by omega), inT (by omega) (by omega)]
  simp only [cond_true]
  by_cases l1 : 1 < P.length
  · rw [ltT (by omega), inT (by omega) (by omega)]
    simp only [cond_true]
    by_cases l2 : 2 < P.length
    · rw [ltT (by omega), inT (by omega) (by omega)]
      simp only [cond_true]
      by_cases l3 : 3 < P.length
      · have e3 : wrapA .i64 (Int.add (t27_2 P) (wrapA .i64 (byteI P 3))) = (num P : Int) := by rw [e2]; exact sa (b := bt P 3) (by omega) b3
        rw [ltT (by omega), inT (by omega) (by omega), e3]; rfl
      · have e3 : t27_2 P = (num P : Int) := by rw [e2]; unfold num; rw [pad 3 (by omega)]; rfl
        rw [ltF (by omega), e3]; rfl
    · have e3 : wrapA .i64 (Int.mul (t27_1 P) 256) = (num P : Int) := by rw [e1, s0 (by omega)]; unfold num; rw [pad 2 (by omega), pad 3 (by omega)]; rfl
      rw [ltF (by omega)]
      simp only [cond_false]
      rw [ltF (by omega), e3]; rfl
  · have e4 : wrapA .i64 (Int.mul (t27_0 P) 256) = ((bt P 0 * 256 * 256 : Nat) : Int) := by rw [e0, s0 (by omega)]
    have e3 : t27_5 P = (num P : Int) := by unfold t27_5; rw [e4, s0 (by omega)]; unfold num; rw [pad 1 (by omega), pad 2 (by omega), pad 3 (by omega)]; rfl
    rw [ltF (by omega)]
    simp only [cond_false]
    rw [ltF (by omega)]
    simp only [cond_false]
    rw [ltF (by omega), e3]; rfl
theorem f27_0 {P : List Nat} (h : P.length ≤ 4) (h0 : P ≠ []) : F27_0 P = (num P : Int) := by unfold F27_0; rw [f27 h h0]; rfl
theorem d85 {N : Nat} (h : N ≤ 8589934592) : wrapA .i64 (Int.tdiv (N : Int) 85) = ((N / 85 : Nat) : Int) := by
  rw [tdiv_pos (by omega), wrap64 (by omega) (by omega)]; omega
theorem c85 {N : Nat} (h : N ≤ 8589934592) : Int.toNat (wrapA .u8 (wrapA .i64 (Int.add 33 (Int.tmod (N : Int) 85)))) = 33 + N % 85 := by
  have e : wrapA .i64 (Int.add 33 (Int.tmod (N : Int) 85)) = ((33 + N % 85 : Nat) : Int) := by rw [tmod_pos (by omega), add_int, wrap64 (by omega) (by omega)]; omega
  rw [e, w8 (by omega) (by omega)]; omega
theorem u28 {N : Nat} (h : N ≤ 8589934592) : u28_5 (N : Int) = five N := by
  unfold u28_5 t28_3 t28_1 five
  rw [d85 h, d85 (by omega), d85 (by omega), d85 (by omega), c85 h, c85 (by omega), c85 (by omega), c85 (by omega), c85 (by omega)]
theorem du {N : Nat} (h : N < 4294967296) : wrapA .u32 (Int.tdiv (N : Int) 85) = ((N / 85 : Nat) : Int) := by
  rw [tdiv_pos (by omega), wu32]; omega
theorem cu {N : Nat} : wrapA .u8 (Int.add 33 (wrapA .u8 (Int.tmod (N : Int) 85))) = ((33 + N % 85 : Nat) : Int) := by
  have e : wrapA .u8 (Int.tmod (N : Int) 85) = ((N % 85 : Nat) : Int) := by rw [tmod_pos (by omega), w8 (by omega) (by omega)]; omega
  rw [e, add_int, w8 (by omega) (by omega)]; omega
theorem kku32 (n : Int) : IntKind.wrap .u32 n = n % 4294967296 := by rw [ku .u32 rfl]; rfl
theorem or32 {x y : Nat} (k : Nat) (hx : 2 ^ k * x < 4294967296) (hy : y < 2 ^ k) (hk : 2 ^ k * x + y < 4294967296) : IntKind.wrap .u32 (↑(BitVec.toNat (BitVec.ofInt 32 ((2 ^ k * x : Nat) : Int) ||| BitVec.ofInt 32 (y : Int))) : Int) = ((2 ^ k * x + y : Nat) : Int) := by
  have b : 2 ^ k * x ||| y = 2 ^ k * x + y := (Nat.two_pow_add_eq_or_of_lt hy x).symm
  rw [BitVec.ofInt_natCast, BitVec.ofInt_natCast, BitVec.toNat_or, BitVec.toNat_ofNat, BitVec.toNat_ofNat, Nat.mod_eq_of_lt (by omega), Nat.mod_eq_of_lt (by omega), b, kku32]; omega
theorem t26 {a b c d : Nat} (ha : a < 256) (hb : b < 256) (hc : c < 256) (hd : d < 256) : t26_0 a b c d = ((((a * 256 + b) * 256 + c) * 256 + d : Nat) : Int) := by
  unfold t26_0
  have w1 : wrapA .u32 (Int.mul (wrapA .u32 (a : Int)) 16777216) = ((2 ^ 24 * a : Nat) : Int) := by rw [wu32, mul_int, wu32]; omega
  have w2 : wrapA .u32 (Int.mul (wrapA .u32 (b : Int)) 65536) = ((65536 * b : Nat) : Int) := by rw [wu32, mul_int, wu32]; omega
  have w3 : wrapA .u32 (Int.mul (wrapA .u32 (c : Int)) 256) = ((256 * c : Nat) : Int) := by rw [wu32, mul_int, wu32]; omega
  have w4 : wrapA .u32 (d : Int) = (d : Int) := by rw [wu32]; omega
  have o1 := or32 (x := a) (y := 65536 * b) 24 (by omega) (by omega) (by omega)
  have o2 := or32 (x := 256 * a + b) (y := 256 * c) 16 (by omega) (by omega) (by omega)
  have o3 := or32 (x := 65536 * a + 256 * b + c) (y := d) 8 (by omega) (by omega) (by omega)
  have n1 : 2 ^ 24 * a + 65536 * b = 2 ^ 16 * (256 * a + b) := by omega
  have n2 : 2 ^ 16 * (256 * a + b) + 256 * c = 2 ^ 8 * (65536 * a + 256 * b + c) := by omega
  have n3 : 2 ^ 8 * (65536 * a + 256 * b + c) + d = ((a * 256 + b) * 256 + c) * 256 + d := by omega
  rw [w1, w2, w3, w4, o1, n1, o2, n2, o3, n3]
theorem f26 {a b c d : Nat} (ha : a < 256) (hb : b < 256) (hc : c < 256) (hd : d < 256) (N : Nat) (hN : ((a * 256 + b) * 256 + c) * 256 + d = N) :
    F26 a b c d = some (((33 + N / 85 / 85 / 85 / 85 % 85 : Nat) : Int), ((33 + N / 85 / 85 / 85 % 85 : Nat) : Int), ((33 + N / 85 / 85 % 85 : Nat) : Int), ((33 + N / 85 % 85 : Nat) : Int), ((33 + N % 85 : Nat) : Int)) := by
  have hl : N < 4294967296 := by omega
  have e := t26 ha hb hc hd
  rw [hN] at e
  have e2 : t26_1 a b c d = Int.tmod (N : Int) 85 := by rw [← e]; rfl
  unfold F26 t26_7 t26_5 t26_6 t26_3 t26_4 t26_2
  rw [e, e2, du hl, du (by omega), du (by omega), du (by omega), cu, cu, cu, cu, cu]
theorem by8_take (l : List Nat) (k : Nat) : (by8 l).take k = by8 (l.take k) := by unfold by8; rw [List.map_take]
theorem enc_full (a b c d : Nat) : enc85 [a, b, c, d] = if num [a, b, c, d] = 0 then [122] else five (num [a, b, c, d]) := by
  unfold enc85
  by_cases h : num [a, b, c, d] = 0
  · rw [if_pos ⟨rfl, h⟩, if_pos h]
  · rw [if_neg (fun q => h q.2), if_neg h]; rfl
theorem zero4 (a b c d : Nat) (s : List Nat) : andB (eqI (byteI (a :: b :: c :: d :: s) 0) 0) (andB (eqI (byteI (a :: b :: c :: d :: s) 1) 0) (andB (eqI (byteI (a :: b :: c :: d :: s) 2) 0) (andB (eqI (byteI (a :: b :: c :: d :: s) 3) 0) true))) = decide (num [a, b, c, d] = 0) := by
  have e : ∀ x : Nat, eqI ((x : Nat) : Int) 0 = decide (x = 0) := fun x => by
    rw [eqI_dec]; congr 1; exact propext ⟨fun h => by omega, fun h => by omega⟩
  show andB (eqI ((a % 256 : Nat) : Int) 0) (andB (eqI ((b % 256 : Nat) : Int) 0) (andB (eqI ((c % 256 : Nat) : Int) 0) (andB (eqI ((d % 256 : Nat) : Int) 0) true))) = _
  rw [e, e, e, e]
  have hn : num [a, b, c, d] = ((a % 256 * 256 + b % 256) * 256 + c % 256) * 256 + d % 256 := rfl
  rw [hn]
  by_cases h1 : a % 256 = 0
  · by_cases h2 : b % 256 = 0
    · by_cases h3 : c % 256 = 0
      · by_cases h4 : d % 256 = 0
        · simp [h1, h2, h3, h4, andB]
        · simp [h1, h2, h3, h4, andB]
      · have : ¬ ((a % 256 * 256 + b % 256) * 256 + c % 256) * 256 + d % 256 = 0 := by omega
        rw [decide_eq_false this, decide_eq_true h1, decide_eq_true h2, decide_eq_false h3]; rfl
    · have : ¬ ((a % 256 * 256 + b % 256) * 256 + c % 256) * 256 + d % 256 = 0 := by omega
      rw [decide_eq_false this, decide_eq_true h1, decide_eq_false h2]; rfl
  · have : ¬ ((a % 256 * 256 + b % 256) * 256 + c % 256) * 256 + d % 256 = 0 := by omega
    rw [decide_eq_false this, decide_eq_false h1]; rfl
theorem nbltF {a b : Nat} (h : b ≤ a) : Nat.blt a b = false := by
  cases q : Nat.blt a b with
  | false => rfl
  | true => have := Nat.le_of_ble_eq_true q; omega
def fin85 (l : List Nat) : List Nat × Int := if 65536 < l.length then ([], 3) else (l, 0)
theorem chars (a b c d : Nat) (s : List Nat) : [AV.int .u8 (t15_261 (a :: b :: c :: d :: s)), AV.int .u8 (t15_262 (a :: b :: c :: d :: s)), AV.int .u8 (t15_263 (a :: b :: c :: d :: s)), AV.int .u8 (t15_264 (a :: b :: c :: d :: s)), AV.int .u8 (t15_265 (a :: b :: c :: d :: s))] = by8 (five (num [a, b, c, d])) := by
  have h := f26 (Nat.mod_lt a (by omega : 0 < 256)) (Nat.mod_lt b (by omega : 0 < 256)) (Nat.mod_lt c (by omega : 0 < 256)) (Nat.mod_lt d (by omega : 0 < 256)) (num [a, b, c, d]) rfl
  have i0 : byteI (a :: b :: c :: d :: s) 0 = ((a % 256 : Nat) : Int) := rfl
  have i1 : byteI (a :: b :: c :: d :: s) 1 = ((b % 256 : Nat) : Int) := rfl
  have i2 : byteI (a :: b :: c :: d :: s) 2 = ((c % 256 : Nat) : Int) := rfl
  have i3 : byteI (a :: b :: c :: d :: s) 3 = ((d % 256 : Nat) : Int) := rfl
  unfold t15_261 t15_262 t15_263 t15_264 t15_265 F26_0 F26_1 F26_2 F26_3 F26_4
  rw [i0, i1, i2, i3, h]; rfl
theorem tailc (a b c : Nat) (v : List Nat) (hv : l15_270 v = by8 [a % 256, b % 256, c % 256, 0]) : [AV.int .u8 (t15_271 v), AV.int .u8 (t15_272 v), AV.int .u8 (t15_273 v), AV.int .u8 (t15_274 v), AV.int .u8 (t15_275 v)] = by8 (five (num [a, b, c])) := by
  have h := f26 (Nat.mod_lt a (by omega : 0 < 256)) (Nat.mod_lt b (by omega : 0 < 256)) (Nat.mod_lt c (by omega : 0 < 256)) (show 0 < 256 by omega) (num [a, b, c]) rfl
  unfold t15_271 t15_272 t15_273 t15_274 t15_275 F26_0 F26_1 F26_2 F26_3 F26_4
  have i0 : intC (l15_270 v) 0 = ((a % 256 : Nat) : Int) := by rw [hv]; rfl
  have i1 : intC (l15_270 v) 1 = ((b % 256 : Nat) : Int) := by rw [hv]; rfl
  have i2 : intC (l15_270 v) 2 = ((c % 256 : Nat) : Int) := by rw [hv]; rfl
  have i3 : intC (l15_270 v) 3 = ((0 : Nat) : Int) := by rw [hv]; rfl
  rw [i0, i1, i2, i3, h]; rfl
/-- the end of the text where some octets are left -/
theorem tail_ok (tt : List Nat) (n cap : Nat) (v acc z w : List Nat) (k : Nat) (hk : v.length = k) (k0 : 1 ≤ k) (k3 : k ≤ 3) (hw : w.length = 5)
    (hc : cellsB (l15_270 v) 0 (ckRep 4 [CK.int .u8]) = true) (hp : putOk [AV.int .u8 0, AV.int .u8 0, AV.int .u8 0, AV.int .u8 0] 0 (List.length (List.map (fun b => AV.int .u8 ((b % 256 : Nat) : Int)) (List.take (Nat.min (List.length v) 4) v))) = true)
    (hv : [AV.int .u8 (t15_271 v), AV.int .u8 (t15_272 v), AV.int .u8 (t15_273 v), AV.int .u8 (t15_274 v), AV.int .u8 (t15_275 v)] = by8 w)
    (ha : acc.length ≤ 900000) (hz : acc.length + z.length = cap) (hcap : acc.length + 7 ≤ cap) :
    L15_0 tt (n + 1) v acc.length cap (by8 (acc ++ z)) = some (fin85 (acc ++ w.take (k + 1) ++ [126, 62])) := by
  have e1 : wrapA .i64 (Int.add (v.length : Int) 1) = ((k + 1 : Nat) : Int) := by rw [add_int, wrap64 (by omega) (by omega)]; omega
  have ek : k15_276 v = k + 1 := by unfold k15_276; rw [e1]; omega
  have ek1 : k15_276 v * 1 = k + 1 := by rw [ek]; omega
  have hm : Nat.blt 0 (Nat.min v.length 4) = true := nbltT (by have : Nat.min v.length 4 = min v.length 4 := rfl; omega)
  have htw : (w.take (k + 1)).length = k + 1 := by rw [List.length_take]; omega
  obtain ⟨p1, p2⟩ := by8_put acc z (w.take (k + 1)) (by omega)
  have hal : (acc ++ w.take (k + 1)).length = acc.length + (k + 1) := by rw [List.length_append, htw]
  obtain ⟨p3, p4⟩ := by8_put (acc ++ w.take (k + 1)) (z.drop (w.take (k + 1)).length) [126, 62] (by rw [List.length_drop]; simp; omega)
  have l81 : l15_281 v acc.length (by8 (acc ++ z)) = by8 (acc ++ w.take (k + 1) ++ z.drop (w.take (k + 1)).length) := by
    unfold l15_281; rw [ek1, hv, by8_take]; exact p2
  have l85 : l15_285 v acc.length (by8 (acc ++ z)) = by8 (acc ++ w.take (k + 1) ++ [126, 62] ++ (z.drop (w.take (k + 1)).length).drop 2) := by
    have : l15_285 v acc.length (by8 (acc ++ z)) = putL (l15_281 v acc.length (by8 (acc ++ z))) (0 + (acc.length + k15_276 v) * 1) (by8 [126, 62]) := rfl
    rw [this, l81, ek, ← hal]; exact p4
  have hput1 : putOk (by8 (acc ++ z)) (0 + acc.length * 1) (List.length (List.take (k15_276 v * 1) (List.drop 0 [AV.int .u8 (t15_271 v), AV.int .u8 (t15_272 v), AV.int .u8 (t15_273 v), AV.int .u8 (t15_274 v), AV.int .u8 (t15_275 v)]))) = true := by
    rw [List.drop_zero, ek1, hv, by8_take, by8_len]; exact p1
  have hput2 : putOk (l15_281 v acc.length (by8 (acc ++ z))) (0 + (acc.length + k15_276 v) * 1) 2 = true := by rw [l81, ek, ← hal]; exact p3
  have hall : List.all (List.take (k15_276 v * 1) (List.drop 0 [AV.int .u8 (t15_271 v), AV.int .u8 (t15_272 v), AV.int .u8 (t15_273 v), AV.int .u8 (t15_274 v), AV.int .u8 (t15_275 v)])) AV.plain = true := by
    rw [List.drop_zero, ek1, hv, by8_take]; exact by8_plain _
  have hle : Nat.ble (0 + k15_276 v * 1) (List.length [AV.int .u8 (t15_271 v), AV.int .u8 (t15_272 v), AV.int .u8 (t15_273 v), AV.int .u8 (t15_274 v), AV.int .u8 (t15_275 v)]) = true := by
    rw [hv, by8_len, hw, ek]; exact nbleT (by omega)
  have hb1 : Nat.blt cap (acc.length + k15_276 v) = false := nbltF (by omega)
  have hb2 : Nat.blt cap (acc.length + k15_276 v + 2) = false := nbltF (by omega)
  have hb3 : Nat.ble (k15_276 v) 1000000 = true := nbleT (by omega)
  have hb4 : Nat.ble (acc.length + k15_276 v) cap = true := nbleT (by omega)
  have hb5 : Nat.blt 0 (k15_276 v) = true := nbltT (by omega)
  have hb6 : Nat.ble (acc.length + k15_276 v + 2) cap = true := nbleT (by omega)
  have hb7 : Nat.ble (acc.length + k15_276 v) 1000000 = true := nbleT (by omega)
  have el : (acc ++ w.take (k + 1) ++ [126, 62]).length = acc.length + k15_276 v + 2 := by rw [List.length_append, hal, ek]; simp
  have hstr : strOk (by8 (acc ++ w.take (k + 1) ++ [126, 62] ++ (z.drop (w.take (k + 1)).length).drop 2)) 0 (k15_278 v acc.length) = true ∧ strOf (by8 (acc ++ w.take (k + 1) ++ [126, 62] ++ (z.drop (w.take (k + 1)).length).drop 2)) 0 (k15_278 v acc.length) = acc ++ w.take (k + 1) ++ [126, 62] := by
    have ek8 : k15_278 v acc.length = (acc ++ w.take (k + 1) ++ [126, 62]).length := by rw [el]; rfl
    rw [ek8]
    generalize acc ++ w.take (k + 1) ++ [126, 62] = A
    generalize (z.drop (w.take (k + 1)).length).drop 2 = B
    have ht : ((by8 (A ++ B)).drop 0).take A.length = by8 A := by rw [List.drop_zero, by8_take, List.take_left]
    refine ⟨?_, ?_⟩
    · simp only [strOk, ht, Bool.and_eq_true]
      exact ⟨nbleT (by rw [by8_len, List.length_append]; omega), by8_u8 A⟩
    · unfold Go.Sx.strOf; rw [ht]
      have := (by8_str A rfl).2
      unfold Go.Sx.strOf at this
      have h2 : ((by8 A).drop 0).take A.length = by8 A := by rw [List.drop_zero, by8_take, List.take_length]
      rw [h2] at this; exact this
  rw [L15_0_succ, nltF (by omega)]
  simp only [cond_false]
  rw [ltT (by omega), hm, hp, hc, e1, nltT (by omega), Int.toNat_natCast]
  unfold leB
  rw [(nbleT (by omega) : Nat.ble (k + 1) 5 = true)]
  simp only [hb1, hb2, hb3, hb4, hb5, hb6, hb7, hle, hall, hput1, hput2, l85, hstr.1, hstr.2, cond_true, cond_false]
  unfold c15_279 fin85
  rw [el]
  by_cases hL : 65536 < acc.length + k15_276 v + 2
  · rw [ltT (by omega), if_pos hL]; rfl
  · rw [ltF (by omega), if_neg hL]; rfl
theorem str_pre (A B : List Nat) {k : Nat} (hk : k = A.length) : strOk (by8 (A ++ B)) 0 k = true ∧ strOf (by8 (A ++ B)) 0 k = A := by
  subst hk
  have ht : ((by8 (A ++ B)).drop 0).take A.length = by8 A := by rw [List.drop_zero, by8_take, List.take_left]
  refine ⟨?_, ?_⟩
  · simp only [strOk, ht, Bool.and_eq_true]
    exact ⟨nbleT (by rw [by8_len, List.length_append]; omega), by8_u8 A⟩
  · unfold Go.Sx.strOf; rw [ht]
    have := (by8_str A rfl).2
    unfold Go.Sx.strOf at this
    have h2 : ((by8 A).drop 0).take A.length = by8 A := by rw [List.drop_zero, by8_take, List.take_length]
    rw [h2] at this; exact this
theorem tail0 (tt : List Nat) (n cap : Nat) (acc z : List Nat) (ha : acc.length ≤ 900000) (hz : acc.length + z.length = cap) (hcap : acc.length + 7 ≤ cap) :
    L15_0 tt (n + 1) [] acc.length cap (by8 (acc ++ z)) = some (fin85 (acc ++ [126, 62])) := by
  obtain ⟨p3, p4⟩ := by8_put acc z [126, 62] (by simp; omega)
  have l97 : l15_297 acc.length (by8 (acc ++ z)) = by8 (acc ++ [126, 62] ++ z.drop 2) := p4
  have p3' : putOk (by8 (acc ++ z)) (0 + acc.length * 1) 2 = true := p3
  have el : (acc ++ [126, 62]).length = acc.length + 2 := by simp
  obtain ⟨s1, s2⟩ := str_pre (acc ++ [126, 62]) (z.drop 2) (k := acc.length + 2) el.symm
  have c0 : (!ltI (([] : List Nat).length : Int) 4) = false := rfl
  have c1 : ltI 0 (([] : List Nat).length : Int) = false := rfl
  have c2 : Nat.blt cap (acc.length + 2) = false := nbltF (by omega)
  have c3 : Nat.ble (acc.length + 2) cap = true := nbleT (by omega)
  rw [L15_0_succ]
  simp only [c0, c1, c2, c3, p3', l97, s1, s2, cond_true, cond_false]
  unfold c15_293 fin85
  rw [el]
  by_cases hL : 65536 < acc.length + 2
  · rw [ltT (by omega), if_pos hL]; rfl
  · rw [ltF (by omega), if_neg hL]; rfl
theorem subS4 (a b c d : Nat) (s : List Nat) : subS (a :: b :: c :: d :: s) 4 (a :: b :: c :: d :: s).length = s := by simp [subS]
theorem l15 (tt : List Nat) (cap : Nat) : ∀ (n : Nat) (v acc z : List Nat), v.length < n → v.length ≤ 65536 → acc.length + 2 * v.length ≤ 800000 → acc.length + z.length = cap → acc.length + v.length / 4 * 5 + 7 ≤ cap →
    L15_0 tt n v acc.length cap (by8 (acc ++ z)) = some (fin85 (acc ++ b85 v ++ [126, 62])) := by
  intro n
  induction n with
  | zero => intro v acc z h; omega
  | succ n ih =>
    intro v acc z hn hv ha hz hcap
    match v with
    | [] => rw [tail0 tt n cap acc z (by omega) hz (by omega)]; simp [b85]
    | [a] =>
      have := tail_ok tt n cap [a] acc z (five (num [a])) 1 rfl (by omega) (by omega) rfl rfl rfl (tailc a 0 0 [a] rfl) (by omega) hz (by omega)
      rw [this]; rfl
    | [a, b] =>
      have := tail_ok tt n cap [a, b] acc z (five (num [a, b])) 2 rfl (by omega) (by omega) rfl rfl rfl (tailc a b 0 [a, b] rfl) (by omega) hz (by omega)
      rw [this]; rfl
    | [a, b, c] =>
      have := tail_ok tt n cap [a, b, c] acc z (five (num [a, b, c])) 3 rfl (by omega) (by omega) rfl rfl rfl (tailc a b c [a, b, c] rfl) (by omega) hz (by omega)
      rw [this]; rfl
    | a :: b :: c :: d :: s =>
      simp only [List.length_cons] at hn hv ha hcap
      have hdiv : (s.length + 1 + 1 + 1 + 1) / 4 = s.length / 4 + 1 := by omega
      have c0 : (!ltI ((a :: b :: c :: d :: s).length : Int) 4) = true := nltT (by simp only [List.length_cons]; omega)
      have i0 : inB 0 (a :: b :: c :: d :: s).length = true := inT (by omega) (by simp only [List.length_cons]; omega)
      have i1 : inB 1 (a :: b :: c :: d :: s).length = true := inT (by omega) (by simp only [List.length_cons]; omega)
      have i2 : inB 2 (a :: b :: c :: d :: s).length = true := inT (by omega) (by simp only [List.length_cons]; omega)
      have i3 : inB 3 (a :: b :: c :: d :: s).length = true := inT (by omega) (by simp only [List.length_cons]; omega)
      have l4 : leB 4 (a :: b :: c :: d :: s).length = true := nbleT (by simp only [List.length_cons]; omega)
      have ll : leB (a :: b :: c :: d :: s).length (a :: b :: c :: d :: s).length = true := nbleT (Nat.le_refl _)
      have hz4 : c15_256 (a :: b :: c :: d :: s) = decide (num [a, b, c, d] = 0) := zero4 a b c d s
      have eb : b85 (a :: b :: c :: d :: s) = enc85 [a, b, c, d] ++ b85 s := rfl
      rw [L15_0_succ, eb, enc_full]
      simp only [c0, i0, i1, i2, i3, l4, ll, subS4, hz4, cond_true]
      by_cases hN : num [a, b, c, d] = 0
      · obtain ⟨p1, p2⟩ := by8_put acc z [122] (by simp; omega)
        have p1' : putOk (by8 (acc ++ z)) (0 + acc.length * 1) 1 = true := p1
        have l60 : l15_260 acc.length (by8 (acc ++ z)) = by8 (acc ++ [122] ++ z.drop 1) := p2
        have c2 : Nat.blt cap (acc.length + 1) = false := nbltF (by omega)
        have c3 : Nat.ble (acc.length + 1) cap = true := nbleT (by omega)
        simp only [decide_eq_true hN, c2, c3, p1', l60, by8_pure, cond_true, cond_false]
        have := ih s (acc ++ [122]) (z.drop 1) (by omega) (by omega) (by simp; omega) (by simp; omega) (by simp; omega)
        have h1' : (acc ++ [122]).length = acc.length + 1 := by simp
        rw [h1'] at this
        rw [this, if_pos hN]; simp
      · have h5 : (five (num [a, b, c, d])).length = 5 := rfl
        obtain ⟨p1, p2⟩ := by8_put acc z (five (num [a, b, c, d])) (by rw [h5]; omega)
        have hp : putOk (by8 (acc ++ z)) (0 + acc.length * 1) (List.length (List.take 5 (List.drop 0 [AV.int .u8 (t15_261 (a :: b :: c :: d :: s)), AV.int .u8 (t15_262 (a :: b :: c :: d :: s)), AV.int .u8 (t15_263 (a :: b :: c :: d :: s)), AV.int .u8 (t15_264 (a :: b :: c :: d :: s)), AV.int .u8 (t15_265 (a :: b :: c :: d :: s))]))) = true := p1
        have l69 : l15_269 (a :: b :: c :: d :: s) acc.length (by8 (acc ++ z)) = by8 (acc ++ five (num [a, b, c, d]) ++ z.drop 5) := by
          unfold l15_269; rw [chars]; exact p2
        have c2 : Nat.blt cap (acc.length + 5) = false := nbltF (by omega)
        have c3 : Nat.ble (acc.length + 5) cap = true := nbleT (by omega)
        simp only [decide_eq_false hN, c2, c3, hp, l69, by8_pure, cond_true, cond_false]
        have h5' : (acc ++ five (num [a, b, c, d])).length = acc.length + 5 := by rw [List.length_append, h5]
        have := ih s (acc ++ five (num [a, b, c, d])) (z.drop 5) (by omega) (by omega) (by rw [h5']; omega) (by rw [h5', List.length_drop]; omega) (by rw [h5']; omega)
        rw [h5'] at this
        rw [this, if_neg hN]; simp
theorem f15 {n : Nat} (hn : 70000 ≤ n) (tt : List Nat) (hl : tt.length ≤ 4000000000000000000) : F15 n tt = some (b85S tt) := by
  unfold F15 b85S
  by_cases h1 : 65536 < tt.length
  · rw [ltT (by omega), if_pos h1]; rfl
  have e : t15_255 tt = ((tt.length / 4 * 5 + 7 : Nat) : Int) := by
    unfold t15_255
    have a : wrapA .i64 (Int.tdiv (tt.length : Int) 4) = ((tt.length / 4 : Nat) : Int) := by rw [tdiv_pos (by omega), wrap64 (by omega) (by omega)]; omega
    have b : wrapA .i64 (Int.mul ((tt.length / 4 : Nat) : Int) 5) = ((tt.length / 4 * 5 : Nat) : Int) := by rw [mul_int, wrap64 (by omega) (by omega)]; omega
    rw [a, b, add_int, wrap64 (by omega) (by omega)]; omega
  rw [ltF (by omega), if_neg h1, e, nltT (by omega), nltT (by omega), Int.toNat_natCast, rep0]
  simp only [by8_pure, cond_true, cond_false]
  have := l15 tt (tt.length / 4 * 5 + 7) n tt [] (List.replicate (tt.length / 4 * 5 + 7) 0) (by omega) (by omega) (by simp; omega) (by simp) (by simp)
  simp only [List.nil_append, List.length_nil] at this
  rw [this]; rfl
theorem b85_step {v : List Nat} (h : v ≠ []) : b85 v = enc85 (v.take 4) ++ b85 (v.drop 4) := by
  match v with
  | [] => exact absurd rfl h
  | [a] => simp [b85]
  | [a, b] => simp [b85]
  | [a, b, c] => simp [b85]
  | a :: b :: c :: d :: s => rfl
theorem five_lt (N : Nat) : ∀ x ∈ five N, x < 256 := by
  intro x hx
  simp only [five, List.mem_cons, List.mem_nil_iff, or_false] at hx
  omega
theorem by8_mod {l : List Nat} (h : ∀ x ∈ l, x < 256) : List.map (fun b => AV.int IntKind.u8 ((b % 256 : Nat) : Int)) l = by8 l := by
  unfold by8; exact List.map_congr_left fun x hx => by rw [Nat.mod_eq_of_lt (h x hx)]
theorem tmin {len i : Nat} (h : len ≤ 65536) (hi : i ≤ len) : (if (len : Int) < wrapA .i64 (Int.add (i : Int) 4) then (len : Int) else wrapA .i64 (Int.add (i : Int) 4)) = ((min len (i + 4) : Nat) : Int) := by
  have e : wrapA .i64 (Int.add (i : Int) 4) = ((i + 4 : Nat) : Int) := by rw [add_int, wrap64 (by omega) (by omega)]; omega
  rw [e]; split <;> omega
theorem chunk (tt : List Nat) (i : Nat) (hi : i ≤ tt.length) : subS tt i (min tt.length (i + 4)) = (tt.drop i).take 4 := by
  unfold subS
  by_cases h : tt.length ≤ i + 4
  · rw [Nat.min_eq_left h, List.take_of_length_le (by rw [List.length_drop]; exact Nat.le_refl _), List.take_of_length_le (by rw [List.length_drop]; omega)]
  · rw [Nat.min_eq_right (by omega), Nat.add_sub_cancel_left]
def fail3 : List Nat × Int × Int := ([], 0, 5)
def four (v : Nat) : List Nat := [v / 16777216 % 256, v / 65536 % 256, v / 256 % 256, v % 256]
def fin3 (out : List Nat) (i : Nat) : List Nat × Int × Int := if 65536 < out.length then ([], 0, 3) else (out, (i : Nat), 0)
/-- the value of a group that is cut short -/
def padv : Nat → Nat → Nat
  | 0, v => v
  | k + 1, v => padv k (85 * v + 84)
/-- the octets of a text in base 85: those so far, how many characters of a group, their value, whether ~ was read -/
def ub : List Nat → Nat → List Nat → Nat → Nat → Bool → List Nat × Int × Int
  | [], _, _, _, _, _ => fail3
  | c :: s, i, out, k, v, cl => bif blank (c % 256) then ub s (i + 1) out k v cl else (bif cl then (bif eqI ((c % 256 : Nat) : Int) 62 then fin3 out (i + 1) else fail3) else
      (bif eqI ((c % 256 : Nat) : Int) 126 then (bif eqI (k : Int) 0 then ub s (i + 1) out k v true else (bif eqI (k : Int) 1 then fail3 else (bif ltI 4294967295 (padv (5 - k) v : Int) then fail3 else ub s (i + 1) (out ++ (four (padv (5 - k) v)).take (k - 1)) 0 0 true)))
      else (bif eqI ((c % 256 : Nat) : Int) 122 && eqI (k : Int) 0 then ub s (i + 1) (out ++ [0, 0, 0, 0]) 0 0 cl
      else (bif ltI ((c % 256 : Nat) : Int) 33 then fail3 else (bif ltI 117 ((c % 256 : Nat) : Int) then fail3 else
        (bif ltI ((k + 1 : Nat) : Int) 5 then ub s (i + 1) out (k + 1) (85 * v + (c % 256 - 33)) cl else (bif ltI 4294967295 ((85 * v + (c % 256 - 33) : Nat) : Int) then fail3 else ub s (i + 1) (out ++ four (85 * v + (c % 256 - 33))) 0 0 cl)))))))
theorem ub_nil (i : Nat) (out : List Nat) (k v : Nat) (cl : Bool) : ub [] i out k v cl = fail3 := rfl
theorem ub_cons (c : Nat) (s : List Nat) (i : Nat) (out : List Nat) (k v : Nat) (cl : Bool) : ub (c :: s) i out k v cl = (bif blank (c % 256) then ub s (i + 1) out k v cl else (bif cl then (bif eqI ((c % 256 : Nat) : Int) 62 then fin3 out (i + 1) else fail3) else
      (bif eqI ((c % 256 : Nat) : Int) 126 then (bif eqI (k : Int) 0 then ub s (i + 1) out k v true else (bif eqI (k : Int) 1 then fail3 else (bif ltI 4294967295 (padv (5 - k) v : Int) then fail3 else ub s (i + 1) (out ++ (four (padv (5 - k) v)).take (k - 1)) 0 0 true)))
      else (bif eqI ((c % 256 : Nat) : Int) 122 && eqI (k : Int) 0 then ub s (i + 1) (out ++ [0, 0, 0, 0]) 0 0 cl
      else (bif ltI ((c % 256 : Nat) : Int) 33 then fail3 else (bif ltI 117 ((c % 256 : Nat) : Int) then fail3 else
        (bif ltI ((k + 1 : Nat) : Int) 5 then ub s (i + 1) out (k + 1) (85 * v + (c % 256 - 33)) cl else (bif ltI 4294967295 ((85 * v + (c % 256 - 33) : Nat) : Int) then fail3 else ub s (i + 1) (out ++ four (85 * v + (c % 256 - 33))) 0 0 cl)))))))) := rfl
def ubS (tt : List Nat) : List Nat × Int × Int := if 65536 < tt.length then ([], 0, 3) else ub tt 0 [] 0 0 false
theorem v85 {v b : Nat} (hv : v ≤ 4294967296 * 100) (hb : 33 ≤ b) (hb2 : b < 256) : wrapA .i64 (Int.add (wrapA .i64 (Int.mul 85 (v : Int))) (wrapA .i64 (wrapA .u8 (Int.sub (b : Int) 33)))) = ((85 * v + (b - 33) : Nat) : Int) := by
  have e1 : wrapA .i64 (Int.mul 85 (v : Int)) = 85 * (v : Int) := by rw [mul_int, wrap64 (by omega) (by omega)]
  have e2 : wrapA .i64 (wrapA .u8 (Int.sub (b : Int) 33)) = (b : Int) - 33 := by rw [sub_int, w8 (by omega) (by omega), wrap64 (by omega) (by omega)]
  rw [e1, e2, add_int, wrap64 (by omega) (by omega)]; omega
theorem v84 {v : Nat} (hv : v ≤ 4294967296 * 10000) : wrapA .i64 (Int.add (wrapA .i64 (Int.mul 85 (v : Int))) 84) = ((85 * v + 84 : Nat) : Int) := by
  have e1 : wrapA .i64 (Int.mul 85 (v : Int)) = 85 * (v : Int) := by rw [mul_int, wrap64 (by omega) (by omega)]
  rw [e1, add_int, wrap64 (by omega) (by omega)]; omega
theorem sh0 {v : Nat} (h : v ≤ 4294967295) : wrapA .u8 (Int.fdiv (v : Int) (Int.ofNat 16777216)) = ((v / 16777216 % 256 : Nat) : Int) := by
  rw [show (Int.ofNat 16777216) = (16777216 : Int) from rfl, fdiv_pos _ (by omega), wu8]; omega
theorem shk {v k : Nat} (h : v ≤ 4294967295) (hk : k < 4) : wrapA .u8 (Int.fdiv (v : Int) (Int.ofNat (2 ^ Nat.min (Int.toNat (wrapA .i64 (Int.sub 24 (wrapA .i64 (Int.mul 8 (k : Int)))))) 64))) = (((four v).getD k 0 : Nat) : Int) := by
  have : k = 0 ∨ k = 1 ∨ k = 2 ∨ k = 3 := by omega
  rcases this with rfl | rfl | rfl | rfl
  · show wrapA .u8 (Int.fdiv (v : Int) (16777216 : Int)) = ((v / 16777216 % 256 : Nat) : Int)
    rw [fdiv_pos _ (by omega), wu8]; omega
  · show wrapA .u8 (Int.fdiv (v : Int) (65536 : Int)) = ((v / 65536 % 256 : Nat) : Int)
    rw [fdiv_pos _ (by omega), wu8]; omega
  · show wrapA .u8 (Int.fdiv (v : Int) (256 : Int)) = ((v / 256 % 256 : Nat) : Int)
    rw [fdiv_pos _ (by omega), wu8]; omega
  · show wrapA .u8 (Int.fdiv (v : Int) (1 : Int)) = ((v % 256 : Nat) : Int)
    rw [fdiv_pos _ (by omega), wu8]; omega
theorem t28n {k : Nat} (hk : k < 4) : (!ltI (wrapA .i64 (Int.sub 24 (wrapA .i64 (Int.mul 8 (k : Int))))) 0) = true := by
  have : k = 0 ∨ k = 1 ∨ k = 2 ∨ k = 3 := by omega
  rcases this with rfl | rfl | rfl | rfl <;> rfl
theorem four_take {v k : Nat} (hk : k < 4) : (four v).take (k + 1) = (four v).take k ++ [(four v).getD k 0] := by
  have : k = 0 ∨ k = 1 ∨ k = 2 ∨ k = 3 := by omega
  rcases this with rfl | rfl | rfl | rfl <;> rfl
/-- the octets of a whole group -/
theorem l17_5 (tt : List Nat) (v : Nat) (hv : v ≤ 4294967295) (i : Nat) (hi : i ≤ 65536) (cl : Bool) (out : List Nat) (ho : out.length ≤ 900000) : ∀ (d n k : Nat), k + d = 4 → ∀ (m : Nat), n = m + d + 1 →
    L17_5 tt n v k i (out.length + k) cl (by8 (out ++ (four v).take k)) = L17_1 tt m ((i + 1 : Nat) : Int) (out.length + 4) 0 0 cl (by8 (out ++ four v)) := by
  intro d
  induction d with
  | zero =>
    intro n k hk m hn
    have : k = 4 := by omega
    subst this; subst hn
    rw [L17_5_succ, ltF (by omega)]
    simp only [by8_pure, cond_true, cond_false]
    rw [nx1 (by omega)]; rfl
  | succ d ih =>
    intro n k hk m hn
    obtain ⟨p, rfl⟩ : ∃ p, n = p + 1 := ⟨n - 1, by omega⟩
    have hk4 : k < 4 := by omega
    have hl : (out ++ (four v).take k).length = out.length + k := by
      rw [List.length_append, List.length_take]; have : (four v).length = 4 := rfl; omega
    have e3 : l17_30 v k (by8 (out ++ (four v).take k)) = by8 (out ++ (four v).take (k + 1)) := by
      unfold l17_30 t17_29 t17_28; rw [shk hv hk4, four_take hk4, ← List.append_assoc, ← by8_app (out ++ (four v).take k)]; rfl
    have en : (!ltI (t17_28 k) 0) = true := t28n hk4
    have e4 : wrapA .i64 (Int.add (k : Int) 1) = ((k + 1 : Nat) : Int) := by rw [add_int, wrap64 (by omega) (by omega)]; omega
    rw [L17_5_succ, ltT (by omega), en, nbltT (Nat.lt_succ_self _), nbleT (by omega), nbeqT (by rw [by8_len, hl]; omega), e3, e4]
    simp only [by8_pure, cond_true]
    exact ih p (k + 1) (by omega) m (by omega)
theorem l17_7 (tt : List Nat) (v : Nat) (hv : v ≤ 4294967295) (i : Nat) (hi : i ≤ 65536) (w : Nat) (hq : w ≤ 4) (out : List Nat) (ho : out.length ≤ 900000) : ∀ (d n k : Nat), k + d = w → ∀ (m : Nat), n = m + d + 1 →
    L17_7 tt n v w k i (out.length + k) (by8 (out ++ (four v).take k)) = L17_1 tt m ((i + 1 : Nat) : Int) (out.length + w) 0 0 true (by8 (out ++ (four v).take w)) := by
  intro d
  induction d with
  | zero =>
    intro n k hk m hn
    have : k = w := by omega
    subst this; subst hn
    rw [L17_7_succ, ltF (by omega)]
    simp only [by8_pure, cond_true, cond_false]
    rw [nx1 (by omega)]
  | succ d ih =>
    intro n k hk m hn
    obtain ⟨p, rfl⟩ : ∃ p, n = p + 1 := ⟨n - 1, by omega⟩
    have hk4 : k < 4 := by omega
    have hl : (out ++ (four v).take k).length = out.length + k := by
      rw [List.length_append, List.length_take]; have : (four v).length = 4 := rfl; omega
    have e3 : l17_33 v k (by8 (out ++ (four v).take k)) = by8 (out ++ (four v).take (k + 1)) := by
      unfold l17_33 t17_32 t17_31; rw [shk hv hk4, four_take hk4, ← List.append_assoc, ← by8_app (out ++ (four v).take k)]; rfl
    have en : (!ltI (t17_31 k) 0) = true := t28n hk4
    have e4 : wrapA .i64 (Int.add (k : Int) 1) = ((k + 1 : Nat) : Int) := by rw [add_int, wrap64 (by omega) (by omega)]; omega
    rw [L17_7_succ, ltT (by omega), en, nbltT (Nat.lt_succ_self _), nbleT (by omega), nbeqT (by rw [by8_len, hl]; omega), e3, e4]
    simp only [by8_pure, cond_true]
    exact ih p (k + 1) (by omega) m (by omega)
theorem padv_bd : ∀ (d v : Nat), (v + 1) * 85 ^ d ≤ 4437053125 → padv d v < 4437053125
  | 0, v, h => by simp [padv] at h ⊢; omega
  | d + 1, v, h => by
    rw [padv]
    refine padv_bd d _ ?_
    have : (85 * v + 84 + 1) * 85 ^ d = (v + 1) * 85 ^ (d + 1) := by rw [show 85 * v + 84 + 1 = (v + 1) * 85 by omega, Nat.mul_assoc, Nat.pow_succ, Nat.mul_comm 85]
    rw [this]; exact h
theorem l17_4 (tt : List Nat) (k0 : Int) (i : Nat) (out : List Nat) : ∀ (d n j v : Nat), j + d = 5 → ∀ (m : Nat), n = m + d + 1 → (v + 1) * 85 ^ d ≤ 4437053125 →
    L17_4 tt n k0 i j v out.length (by8 out) = (bif ltI 4294967295 (padv d v : Int) then some fail3 else L17_7 tt m (padv d v) (wrapA .i64 (Int.sub k0 1)) 0 i out.length (by8 out)) := by
  intro d
  induction d with
  | zero =>
    intro n j v hj m hn _
    subst hn
    rw [L17_4_succ, ltF (by omega)]
    simp only [by8_pure, cond_true, cond_false]; rfl
  | succ d ih =>
    intro n j v hj m hn hv
    obtain ⟨p, rfl⟩ : ∃ p, n = p + 1 := ⟨n - 1, by omega⟩
    have h1 : 1 ≤ 85 ^ d := Nat.one_le_pow _ _ (by omega)
    have hp : 85 ^ (d + 1) = 85 ^ d * 85 := Nat.pow_succ _ _
    have hv1 : v + 1 ≤ 4437053125 := by
      have : (v + 1) * 1 ≤ (v + 1) * 85 ^ (d + 1) := Nat.mul_le_mul_left _ (by omega)
      omega
    have e4 : wrapA .i64 (Int.add (j : Int) 1) = ((j + 1 : Nat) : Int) := by rw [add_int, wrap64 (by omega) (by omega)]; omega
    have e3 : t17_27 v = ((85 * v + 84 : Nat) : Int) := v84 (by omega)
    rw [L17_4_succ, ltT (by omega), e3, e4]
    simp only [by8_pure, cond_true]
    have hq : (85 * v + 84 + 1) * 85 ^ d = (v + 1) * 85 ^ (d + 1) := by rw [show 85 * v + 84 + 1 = (v + 1) * 85 by omega, Nat.mul_assoc, Nat.pow_succ, Nat.mul_comm 85]
    exact ih p (j + 1) (85 * v + 84) (by omega) m (by omega) (by rw [hq]; exact hv)
theorem l17_2 (tt : List Nat) (k0 : Int) (i : Nat) : ∀ (d n j v : Nat), j + d = 5 → ∀ (m : Nat), n = m + d + 1 → (v + 1) * 85 ^ d ≤ 4437053125 →
    L17_2 tt n k0 i j v = (bif ltI 4294967295 (padv d v : Int) then some fail3 else L17_6 tt m (padv d v) (wrapA .i64 (Int.sub k0 1)) i) := by
  intro d
  induction d with
  | zero =>
    intro n j v hj m hn _
    subst hn
    rw [L17_2_succ, ltF (by omega)]
    simp only [cond_false]; rfl
  | succ d ih =>
    intro n j v hj m hn hv
    obtain ⟨p, rfl⟩ : ∃ p, n = p + 1 := ⟨n - 1, by omega⟩
    have h1 : 1 ≤ 85 ^ d := Nat.one_le_pow _ _ (by omega)
    have hp : 85 ^ (d + 1) = 85 ^ d * 85 := Nat.pow_succ _ _
    have hv1 : v + 1 ≤ 4437053125 := by
      have : (v + 1) * 1 ≤ (v + 1) * 85 ^ (d + 1) := Nat.mul_le_mul_left _ (by omega)
      omega
    have e4 : wrapA .i64 (Int.add (j : Int) 1) = ((j + 1 : Nat) : Int) := by rw [add_int, wrap64 (by omega) (by omega)]; omega
    have e3 : t17_26 v = ((85 * v + 84 : Nat) : Int) := v84 (by omega)
    rw [L17_2_succ, ltT (by omega), e3, e4]
    simp only [cond_true]
    have hq : (85 * v + 84 + 1) * 85 ^ d = (v + 1) * 85 ^ (d + 1) := by rw [show 85 * v + 84 + 1 = (v + 1) * 85 by omega, Nat.mul_assoc, Nat.pow_succ, Nat.mul_comm 85]
    exact ih p (j + 1) (85 * v + 84) (by omega) m (by omega) (by rw [hq]; exact hv)
structure G5 (k v : Nat) : Prop where
  k4 : k ≤ 4
  v1 : v < 85 ^ k
  v0 : k = 0 → v = 0
theorem G5.bd {k v : Nat} (g : G5 k v) : v < 52200625 := by
  have h := g.v1
  have : 85 ^ k ≤ 85 ^ 4 := Nat.pow_le_pow_right (by omega) g.k4
  have e : (85 : Nat) ^ 4 = 52200625 := by decide
  omega
theorem G5.pad {k v : Nat} (g : G5 k v) : (v + 1) * 85 ^ (5 - k) ≤ 4437053125 := by
  have h : (v + 1) * 85 ^ (5 - k) ≤ 85 ^ k * 85 ^ (5 - k) := Nat.mul_le_mul_right _ g.v1
  rw [← Nat.pow_add, show k + (5 - k) = 5 by have := g.k4; omega] at h
  have e : (85 : Nat) ^ 5 = 4437053125 := by decide
  omega
theorem G5.next {k v b : Nat} (g : G5 k v) (hk : k + 1 < 5) (h1 : 33 ≤ b) (h2 : b ≤ 117) : G5 (k + 1) (85 * v + (b - 33)) := by
  refine ⟨by omega, ?_, fun h => by omega⟩
  have h := g.v1
  have : 85 ^ (k + 1) = 85 * 85 ^ k := by rw [Nat.pow_succ, Nat.mul_comm]
  rw [this]
  have : 85 * (v + 1) ≤ 85 * 85 ^ k := Nat.mul_le_mul_left _ h
  omega
theorem G5.zero : G5 0 0 := ⟨by omega, by decide, fun _ => rfl⟩
theorem l17b (tt : List Nat) (hs : tt.length ≤ 65536) : ∀ (r i n : Nat) (out : List Nat) (k v : Nat) (cl : Bool), tt.length - i = r → i ≤ tt.length → 16 * r + 16 ≤ n → out.length ≤ 4 * i → G5 k v →
    L17_1 tt n i out.length k v cl (by8 out) = some (ub (tt.drop i) i out k v cl) := by
  intro r
  induction r with
  | zero =>
    intro i n out k v cl hr hi hn ho g
    obtain ⟨m, rfl⟩ : ∃ m, n = m + 1 := ⟨n - 1, by omega⟩
    rw [L17_1_succ, ltF (by omega), List.drop_eq_nil_of_le (by omega), ub_nil]; rfl
  | succ r ih =>
    intro i n out k v cl hr hi hn ho g
    obtain ⟨m, rfl⟩ : ∃ m, n = m + 1 := ⟨n - 1, by omega⟩
    have q : i < tt.length := by omega
    have hb : tt.getD i 0 % 256 < 256 := Nat.mod_lt _ (by omega)
    have gb := g.bd
    have gk := g.k4
    rw [L17_1_succ]
    rw [ltT (by omega), inT (by omega) (by omega), byteI_at, nx1 (by omega), dropc q, ub_cons]
    simp only [by8_pure, cond_true]
    rw [chain]
    have hB := byteI_at tt i
    generalize tt.getD i 0 % 256 = b at *
    cases hbl : blank b with
    | true =>
      simp only [cond_true]
      exact ih (i + 1) m out k v cl (by omega) (by omega) (by omega) (by omega) g
    | false =>
      simp only [cond_false]
      cases cl with
      | true =>
        simp only [cond_true]
        by_cases c62 : (b : Int) = 62
        · rw [eqT c62]
          simp only [cond_true]
          obtain ⟨s1, s2⟩ := by8_str out (k := out.length) rfl
          rw [ltF (by omega : (0 : Int) ≤ ((i + 1 : Nat) : Int)), s1, s2]
          simp only [cond_true, cond_false]
          unfold fin3
          by_cases hL : 65536 < out.length
          · rw [ltT (by omega), if_pos hL]; rfl
          · rw [ltF (by omega), if_neg hL]; rfl
        · rw [eqF c62]; rfl
      | false =>
        simp only [cond_false]
        by_cases c126 : (b : Int) = 126
        · rw [eqT c126]
          simp only [cond_true]
          by_cases hk0 : k = 0
          · rw [eqT (by omega : (k : Int) = 0)]
            simp only [cond_true]
            exact ih (i + 1) m out k v true (by omega) (by omega) (by omega) (by omega) g
          · rw [eqF (by omega : (k : Int) ≠ 0)]
            simp only [cond_false]
            by_cases hk1 : k = 1
            · rw [eqT (by omega : (k : Int) = 1)]; rfl
            · rw [eqF (by omega : (k : Int) ≠ 1)]
              simp only [cond_false]
              obtain ⟨p, hp⟩ : ∃ p, m = p + (5 - k) + 1 := ⟨m - (5 - k) - 1, by omega⟩
              rw [l17_4 tt k i out (5 - k) m k v (by omega) p hp g.pad]
              by_cases hL : 4294967295 < padv (5 - k) v
              · rw [ltT (by omega)]; rfl
              · rw [ltF (by omega)]
                simp only [cond_false]
                have ew : wrapA .i64 (Int.sub (k : Int) 1) = ((k - 1 : Nat) : Int) := by rw [sub_int, wrap64 (by omega) (by omega)]; omega
                obtain ⟨w, hw⟩ : ∃ w, p = w + (k - 1) + 1 := ⟨p - (k - 1) - 1, by omega⟩
                have h7 := l17_7 tt (padv (5 - k) v) (by omega) i (by omega) (k - 1) (by omega) out (by omega) (k - 1) p 0 (by omega) w hw
                rw [List.take_zero, List.append_nil, Nat.add_zero] at h7
                rw [ew]
                rw [show (0 : Int) = ((0 : Nat) : Int) from rfl, h7]
                have hl : out.length + (k - 1) = (out ++ (four (padv (5 - k) v)).take (k - 1)).length := by
                  rw [List.length_append, List.length_take]; have : (four (padv (5 - k) v)).length = 4 := rfl; omega
                rw [hl]
                exact ih (i + 1) w (out ++ (four (padv (5 - k) v)).take (k - 1)) 0 0 true (by omega) (by omega) (by omega) (by rw [← hl]; omega) G5.zero
        · rw [eqF c126]
          simp only [cond_false]
          by_cases c122 : (b : Int) = 122 ∧ k = 0
          · obtain ⟨c1, c2⟩ := c122
            have hv0 := g.v0 c2
            subst c2; subst hv0
            have e3 : l17_24 (by8 out) = by8 (out ++ [0, 0, 0, 0]) := by unfold l17_24; rw [← by8_app]; rfl
            rw [eqT c1, show eqI (((0 : Nat) : Int)) 0 = true from rfl, nbltT (by omega), nbleT (by omega), nbeqT (by rw [by8_len]; omega), e3]
            simp only [by8_pure, Bool.and_true, cond_true]
            have hl : out.length + 4 = (out ++ [0, 0, 0, 0]).length := by simp
            rw [hl]
            exact ih (i + 1) m (out ++ [0, 0, 0, 0]) 0 0 false (by omega) (by omega) (by omega) (by rw [← hl]; omega) G5.zero
          · have hc : (eqI (b : Int) 122 && eqI (k : Int) 0) = false := by
              by_cases x : (b : Int) = 122
              · rw [eqT x, eqF (fun y => c122 ⟨x, by omega⟩)]; rfl
              · rw [eqF x]; rfl
            have main : ∀ (A : Option (List Nat × Int × Int)), (bif (ltI (b : Int) 33) then (some (([] : List Nat), (0 : Int), (5 : Int))) else (bif (ltI 117 (b : Int)) then (some ([], 0, 5)) else (bif (ltI (wrapA .i64 (Int.add (k : Int) 1)) 5) then (L17_1 tt m ((i + 1 : Nat) : Int) (out.length) (wrapA .i64 (Int.add (k : Int) 1)) (t17_25 tt i v) false (by8 out)) else (bif (ltI 4294967295 (t17_25 tt i v)) then (some ([], 0, 5)) else (L17_5 tt m (t17_25 tt i v) 0 i (out.length) false (by8 out)))))) = A → byteI tt i = (b : Int) →
                some (bif ltI (b : Int) 33 then fail3 else (bif ltI 117 (b : Int) then fail3 else (bif ltI ((k + 1 : Nat) : Int) 5 then ub (tt.drop (i + 1)) (i + 1) out (k + 1) (85 * v + (b - 33)) false else (bif ltI 4294967295 ((85 * v + (b - 33) : Nat) : Int) then fail3 else ub (tt.drop (i + 1)) (i + 1) (out ++ four (85 * v + (b - 33))) 0 0 false)))) = A := by
              intro A hA hbt
              subst hA
              by_cases c33 : (b : Int) < 33
              · rw [ltT c33]; rfl
              · rw [ltF (by omega : (33 : Int) ≤ b)]
                simp only [cond_false]
                by_cases c117 : (117 : Int) < b
                · rw [ltT c117]; rfl
                · rw [ltF (by omega : (b : Int) ≤ 117)]
                  simp only [cond_false]
                  have ek : wrapA .i64 (Int.add (k : Int) 1) = ((k + 1 : Nat) : Int) := by rw [add_int, wrap64 (by omega) (by omega)]; omega
                  have ev : t17_25 tt i v = ((85 * v + (b - 33) : Nat) : Int) := by unfold t17_25; rw [hbt]; exact v85 (by omega) (by omega) (by omega)
                  rw [ek, ev]
                  by_cases c5 : k + 1 < 5
                  · rw [ltT (by omega : ((k + 1 : Nat) : Int) < 5)]
                    simp only [cond_true]
                    rw [ih (i + 1) m out (k + 1) (85 * v + (b - 33)) false (by omega) (by omega) (by omega) (by omega) (g.next c5 (by omega) (by omega))]
                  · rw [ltF (by omega : (5 : Int) ≤ ((k + 1 : Nat) : Int))]
                    simp only [cond_false]
                    by_cases hL : 4294967295 < 85 * v + (b - 33)
                    · rw [ltT (by omega)]; rfl
                    · rw [ltF (by omega)]
                      simp only [cond_false]
                      obtain ⟨w, hw⟩ : ∃ w, m = w + 4 + 1 := ⟨m - 5, by omega⟩
                      have h5 := l17_5 tt (85 * v + (b - 33)) (by omega) i (by omega) false out (by omega) 4 m 0 (by omega) w hw
                      rw [List.take_zero, List.append_nil, Nat.add_zero] at h5
                      rw [show (0 : Int) = ((0 : Nat) : Int) from rfl, h5]
                      have hl : out.length + 4 = (out ++ four (85 * v + (b - 33))).length := by simp [four]
                      rw [hl]
                      exact (ih (i + 1) w (out ++ four (85 * v + (b - 33))) 0 0 false (by omega) (by omega) (by omega) (by rw [← hl]; omega) G5.zero).symm
            rw [hc]
            by_cases x : (b : Int) = 122
            · rw [eqT x, eqF (fun y => c122 ⟨x, by omega⟩ : (k : Int) ≠ 0)]
              simp only [cond_true, cond_false]
              exact (main _ rfl hB).symm
            · rw [eqF x]
              simp only [cond_false]
              exact (main _ rfl hB).symm
theorem take1 {v : Nat} (hv : v ≤ 4294967295) : [AV.int .u8 (wrapA .u8 (Int.fdiv (v : Int) (Int.ofNat 16777216)))] = by8 (([] : List Nat) ++ (four v).take 1) := by rw [sh0 hv]; rfl
theorem l17a (tt : List Nat) (hs : tt.length ≤ 65536) : ∀ (r i n : Nat) (k v : Nat) (cl : Bool), tt.length - i = r → i ≤ tt.length → 16 * r + 40 ≤ n → G5 k v →
    L17_0 tt n i k v cl = some (ub (tt.drop i) i [] k v cl) := by
  intro r
  induction r with
  | zero =>
    intro i n k v cl hr hi hn g
    obtain ⟨m, rfl⟩ : ∃ m, n = m + 1 := ⟨n - 1, by omega⟩
    rw [L17_0_succ, ltF (by omega), List.drop_eq_nil_of_le (by omega), ub_nil]; rfl
  | succ r ih =>
    intro i n k v cl hr hi hn g
    obtain ⟨m, rfl⟩ : ∃ m, n = m + 1 := ⟨n - 1, by omega⟩
    have q : i < tt.length := by omega
    have hb : tt.getD i 0 % 256 < 256 := Nat.mod_lt _ (by omega)
    have gb := g.bd
    have gk := g.k4
    rw [L17_0_succ]
    rw [ltT (by omega), inT (by omega) (by omega), byteI_at, nx1 (by omega), dropc q, ub_cons]
    simp only [cond_true]
    rw [chain]
    have hB := byteI_at tt i
    generalize tt.getD i 0 % 256 = b at *
    cases hbl : blank b with
    | true =>
      simp only [cond_true]
      exact ih (i + 1) m k v cl (by omega) (by omega) (by omega) g
    | false =>
      simp only [cond_false]
      cases cl with
      | true =>
        simp only [cond_true]
        by_cases c62 : (b : Int) = 62
        · rw [eqT c62, ltF (by omega : (0 : Int) ≤ ((i + 1 : Nat) : Int))]; rfl
        · rw [eqF c62]; rfl
      | false =>
        simp only [cond_false]
        by_cases c126 : (b : Int) = 126
        · rw [eqT c126]
          simp only [cond_true]
          by_cases hk0 : k = 0
          · rw [eqT (by omega : (k : Int) = 0)]
            simp only [cond_true]
            exact ih (i + 1) m k v true (by omega) (by omega) (by omega) g
          · rw [eqF (by omega : (k : Int) ≠ 0)]
            simp only [cond_false]
            by_cases hk1 : k = 1
            · rw [eqT (by omega : (k : Int) = 1)]; rfl
            · rw [eqF (by omega : (k : Int) ≠ 1)]
              simp only [cond_false]
              obtain ⟨p, hp⟩ : ∃ p, m = p + (5 - k) + 1 := ⟨m - (5 - k) - 1, by omega⟩
              rw [l17_2 tt k i (5 - k) m k v (by omega) p hp g.pad]
              by_cases hL : 4294967295 < padv (5 - k) v
              · rw [ltT (by omega : (4294967295 : Int) < (padv (5 - k) v : Int))]; rfl
              · rw [ltF (by omega : (padv (5 - k) v : Int) ≤ 4294967295)]
                simp only [cond_false]
                have ew : wrapA .i64 (Int.sub (k : Int) 1) = ((k - 1 : Nat) : Int) := by rw [sub_int, wrap64 (by omega) (by omega)]; omega
                obtain ⟨p', rfl⟩ : ∃ p', p = p' + 1 := ⟨p - 1, by omega⟩
                obtain ⟨w, hw⟩ : ∃ w, p' = w + (k - 2) + 1 := ⟨p' - (k - 2) - 1, by omega⟩
                have h7 := l17_7 tt (padv (5 - k) v) (by omega) i (by omega) (k - 1) (by omega) [] (by simp) (k - 2) p' 1 (by omega) w hw
                rw [L17_6_succ, ew, ltT (by omega : (0 : Int) < ((k - 1 : Nat) : Int)), take1 (by omega)]
                simp only [cond_true]
                have hl : ([] : List Nat).length + (k - 1) = ([] ++ (four (padv (5 - k) v)).take (k - 1)).length := by
                  rw [List.length_append, List.length_take]; have : (four (padv (5 - k) v)).length = 4 := rfl; omega
                rw [hl] at h7
                have h8 := l17b tt hs r (i + 1) w ([] ++ (four (padv (5 - k) v)).take (k - 1)) 0 0 true (by omega) (by omega) (by omega) (by rw [← hl]; simp; omega) G5.zero
                exact h7.trans h8
        · rw [eqF c126]
          simp only [cond_false]
          by_cases c122 : (b : Int) = 122 ∧ k = 0
          · obtain ⟨c1, c2⟩ := c122
            have hv0 := g.v0 c2
            subst c2; subst hv0
            rw [eqT c1, show eqI (((0 : Nat) : Int)) 0 = true from rfl]
            simp only [Bool.and_true, cond_true]
            exact l17b tt hs r (i + 1) m [0, 0, 0, 0] 0 0 false (by omega) (by omega) (by omega) (by simp; omega) G5.zero
          · have hc : (eqI (b : Int) 122 && eqI (k : Int) 0) = false := by
              by_cases x : (b : Int) = 122
              · rw [eqT x, eqF (fun y => c122 ⟨x, by omega⟩)]; rfl
              · rw [eqF x]; rfl
            have main : (bif (ltI (b : Int) 33) then (some (([] : List Nat), (0 : Int), (5 : Int))) else (bif (ltI 117 (b : Int)) then (some ([], 0, 5)) else (bif (ltI (wrapA .i64 (Int.add (k : Int) 1)) 5) then (L17_0 tt m ((i + 1 : Nat) : Int) (wrapA .i64 (Int.add (k : Int) 1)) (t17_23 tt i v) false) else (bif (ltI 4294967295 (t17_23 tt i v)) then (some ([], 0, 5)) else (L17_3 tt m (t17_23 tt i v) i false))))) =
                some (bif ltI (b : Int) 33 then fail3 else (bif ltI 117 (b : Int) then fail3 else (bif ltI ((k + 1 : Nat) : Int) 5 then ub (tt.drop (i + 1)) (i + 1) [] (k + 1) (85 * v + (b - 33)) false else (bif ltI 4294967295 ((85 * v + (b - 33) : Nat) : Int) then fail3 else ub (tt.drop (i + 1)) (i + 1) ([] ++ four (85 * v + (b - 33))) 0 0 false)))) := by
              by_cases c33 : (b : Int) < 33
              · rw [ltT c33]; rfl
              · rw [ltF (by omega : (33 : Int) ≤ b)]
                simp only [cond_false]
                by_cases c117 : (117 : Int) < b
                · rw [ltT c117]; rfl
                · rw [ltF (by omega : (b : Int) ≤ 117)]
                  simp only [cond_false]
                  have ek : wrapA .i64 (Int.add (k : Int) 1) = ((k + 1 : Nat) : Int) := by rw [add_int, wrap64 (by omega) (by omega)]; omega
                  have ev : t17_23 tt i v = ((85 * v + (b - 33) : Nat) : Int) := by unfold t17_23; rw [hB]; exact v85 (by omega) (by omega) (by omega)
                  rw [ek, ev]
                  by_cases c5 : k + 1 < 5
                  · rw [ltT (by omega : ((k + 1 : Nat) : Int) < 5)]
                    simp only [cond_true]
                    exact ih (i + 1) m (k + 1) (85 * v + (b - 33)) false (by omega) (by omega) (by omega) (g.next c5 (by omega) (by omega))
                  · rw [ltF (by omega : (5 : Int) ≤ ((k + 1 : Nat) : Int))]
                    simp only [cond_false]
                    by_cases hL : 4294967295 < 85 * v + (b - 33)
                    · rw [ltT (by omega : (4294967295 : Int) < ((85 * v + (b - 33) : Nat) : Int))]; rfl
                    · rw [ltF (by omega : ((85 * v + (b - 33) : Nat) : Int) ≤ 4294967295)]
                      simp only [cond_false]
                      obtain ⟨p, rfl⟩ : ∃ p, m = p + 1 := ⟨m - 1, by omega⟩
                      obtain ⟨w, hw⟩ : ∃ w, p = w + 3 + 1 := ⟨p - 4, by omega⟩
                      have h5 := l17_5 tt (85 * v + (b - 33)) (by omega) i (by omega) false [] (by simp) 3 p 1 (by omega) w hw
                      rw [L17_3_succ, take1 (by omega)]
                      have h8 := l17b tt hs r (i + 1) w ([] ++ four (85 * v + (b - 33))) 0 0 false (by omega) (by omega) (by omega) (by simp [four]; omega) G5.zero
                      exact h5.trans h8
            rw [hc]
            by_cases x : (b : Int) = 122
            · rw [eqT x, eqF (fun y => c122 ⟨x, by omega⟩ : (k : Int) ≠ 0)]
              simp only [cond_true, cond_false]
              exact main
            · rw [eqF x]
              simp only [cond_false]
              exact main
theorem f17 {n : Nat} (hn : 2000000 ≤ n) (tt : List Nat) : F17 n tt = some (ubS tt) := by
  unfold F17 ubS
  by_cases h1 : 65536 < tt.length
  · rw [ltT (by omega), if_pos h1]; rfl
  rw [ltF (by omega), if_neg h1]
  simp only [cond_false]
  exact l17a tt (by omega) tt.length 0 n 0 0 false (by omega) (by omega) (by omega) G5.zero
theorem hexd_ok : ∀ d, d < 16 → hexd d % 256 = hexd d ∧ eqI ((hexd d : Nat) : Int) 62 = false ∧ blank (hexd d) = false ∧ hv (hexd d) = some d := by decide
theorem uh_hex : ∀ (s t : List Nat) (i : Nat) (out : List Nat), uh (hex s ++ t) i out none = uh t (i + 2 * s.length) (out ++ s.map (· % 256)) none
  | [], t, i, out => by simp [hex]
  | x :: s, t, i, out => by
    obtain ⟨a1, a2, a3, a4⟩ := hexd_ok (x % 256 / 16) (by omega)
    obtain ⟨b1, b2, b3, b4⟩ := hexd_ok (x % 256 % 16) (by omega)
    simp only [hex, List.cons_append]
    rw [uh_cons, a1, a2, a3, a4]
    simp only [cond_false]
    rw [uh_cons, b1, b2, b3, b4]
    simp only [cond_false]
    rw [uh_hex s t, show 16 * (x % 256 / 16) + x % 256 % 16 = x % 256 by omega]
    simp only [List.length_cons, List.map_cons, List.append_assoc, List.cons_append, List.nil_append]
    rw [show i + 1 + 1 + 2 * s.length = i + 2 * (s.length + 1) by omega]
theorem uh_no : ∀ (t : List Nat) (i : Nat) (out : List Nat) (p : Option Nat), (∀ c ∈ t, c % 256 ≠ 62) → uh t i out p = ([], 0, 5)
  | [], i, out, p, _ => uh_nil i out p
  | c :: t, i, out, p, h => by
    have hc := h c List.mem_cons_self
    have ih := fun i out p => uh_no t i out p (fun x hx => h x (List.mem_cons_of_mem _ hx))
    rw [uh_cons, eqF (by omega : ((c % 256 : Nat) : Int) ≠ 62)]
    simp only [cond_false, ih]
    cases blank (c % 256) with
    | true => rfl
    | false =>
      simp only [cond_false]
      cases hv (c % 256) with
      | none => rfl
      | some d => cases p <;> rfl
theorem hex_no : ∀ (s : List Nat) (c : Nat), c ∈ hex s → c % 256 ≠ 62
  | [], c, h => by simp [hex] at h
  | x :: s, c, h => by
    simp only [hex, List.mem_cons] at h
    have key : ∀ d, d < 16 → hexd d % 256 ≠ 62 := by decide
    rcases h with rfl | rfl | h
    · exact key _ (by omega)
    · exact key _ (by omega)
    · exact hex_no s c h
theorem ubc {d : Nat} (hd : d < 85) (s : List Nat) (i : Nat) (out : List Nat) (k v : Nat) : ub ((33 + d) :: s) i out k v false = (bif ltI ((k + 1 : Nat) : Int) 5 then ub s (i + 1) out (k + 1) (85 * v + d) false else (bif ltI 4294967295 ((85 * v + d : Nat) : Int) then fail3 else ub s (i + 1) (out ++ four (85 * v + d)) 0 0 false)) := by
  have e : (33 + d) % 256 = 33 + d := by omega
  have hb : blank (33 + d) = false := by
    unfold blank
    rw [eqF (by omega), eqF (by omega), eqF (by omega), eqF (by omega), eqF (by omega), eqF (by omega)]; rfl
  rw [ub_cons, e, hb, eqF (by omega : ((33 + d : Nat) : Int) ≠ 126), eqF (by omega : ((33 + d : Nat) : Int) ≠ 122), ltF (by omega : (33 : Int) ≤ ((33 + d : Nat) : Int)), ltF (by omega : ((33 + d : Nat) : Int) ≤ 117), show 33 + d - 33 = d by omega]
  rfl
theorem ubcT {d k : Nat} (hd : d < 85) (hk : k + 1 < 5) (s : List Nat) (i : Nat) (out : List Nat) (v : Nat) : ub ((33 + d) :: s) i out k v false = ub s (i + 1) out (k + 1) (85 * v + d) false := by
  rw [ubc hd, ltT (by omega : ((k + 1 : Nat) : Int) < 5)]; rfl
structure Dg (N q1 q2 q3 q4 d0 d1 d2 d3 : Nat) : Prop where
  h0 : N = 85 * q1 + d0
  h1 : q1 = 85 * q2 + d1
  h2 : q2 = 85 * q3 + d2
  h3 : q3 = 85 * q4 + d3
  l4 : q4 < 85
  b0 : d0 < 85
  b1 : d1 < 85
  b2 : d2 < 85
  b3 : d3 < 85
theorem dg {N : Nat} (hN : N < 4294967296) : Dg N (N / 85) (N / 85 / 85) (N / 85 / 85 / 85) (N / 85 / 85 / 85 / 85) (N % 85) (N / 85 % 85) (N / 85 / 85 % 85) (N / 85 / 85 / 85 % 85) := by
  have l1 : N / 85 < 50529028 := Nat.div_lt_of_lt_mul (by omega)
  have l2 : N / 85 / 85 < 594460 := Nat.div_lt_of_lt_mul (by omega)
  have l3 : N / 85 / 85 / 85 < 6994 := Nat.div_lt_of_lt_mul (by omega)
  have l4 : N / 85 / 85 / 85 / 85 < 85 := Nat.div_lt_of_lt_mul (by omega)
  exact ⟨(Nat.div_add_mod N 85).symm, (Nat.div_add_mod (N / 85) 85).symm, (Nat.div_add_mod (N / 85 / 85) 85).symm, (Nat.div_add_mod (N / 85 / 85 / 85) 85).symm, l4, Nat.mod_lt _ (by omega), Nat.mod_lt _ (by omega), Nat.mod_lt _ (by omega), Nat.mod_lt _ (by omega)⟩
theorem dgs {N q1 q2 q3 q4 d0 d1 d2 d3 : Nat} (g : Dg N q1 q2 q3 q4 d0 d1 d2 d3) : 85 * (85 * (85 * (85 * (85 * 0 + q4) + d3) + d2) + d1) + d0 = N ∧
    85 * (85 * (85 * (85 * (85 * 0 + q4) + d3) + 84) + 84) + 84 = q3 * 614125 + 614124 ∧ 85 * (85 * (85 * (85 * (85 * 0 + q4) + d3) + d2) + 84) + 84 = q2 * 7225 + 7224 ∧ 85 * (85 * (85 * (85 * (85 * 0 + q4) + d3) + d2) + d1) + 84 = q1 * 85 + 84 ∧
    q3 * 614125 ≤ N ∧ N < q3 * 614125 + 614125 ∧ q2 * 7225 ≤ N ∧ N < q2 * 7225 + 7225 ∧ q1 * 85 ≤ N ∧ N < q1 * 85 + 85 := by
  obtain ⟨h0, h1, h2, h3, l4, b0, b1, b2, b3⟩ := g
  omega
theorem digits {N : Nat} (hN : N < 4294967296) : 85 * (85 * (85 * (85 * (85 * 0 + N / 85 / 85 / 85 / 85 % 85) + N / 85 / 85 / 85 % 85) + N / 85 / 85 % 85) + N / 85 % 85) + N % 85 = N ∧
    85 * (85 * (85 * (85 * (85 * 0 + N / 85 / 85 / 85 / 85 % 85) + N / 85 / 85 / 85 % 85) + 84) + 84) + 84 = N / 85 / 85 / 85 * 614125 + 614124 ∧
    85 * (85 * (85 * (85 * (85 * 0 + N / 85 / 85 / 85 / 85 % 85) + N / 85 / 85 / 85 % 85) + N / 85 / 85 % 85) + 84) + 84 = N / 85 / 85 * 7225 + 7224 ∧
    85 * (85 * (85 * (85 * (85 * 0 + N / 85 / 85 / 85 / 85 % 85) + N / 85 / 85 / 85 % 85) + N / 85 / 85 % 85) + N / 85 % 85) + 84 = N / 85 * 85 + 84 ∧
    N / 85 / 85 / 85 * 614125 ≤ N ∧ N < N / 85 / 85 / 85 * 614125 + 614125 ∧ N / 85 / 85 * 7225 ≤ N ∧ N < N / 85 / 85 * 7225 + 7225 ∧ N / 85 * 85 ≤ N ∧ N < N / 85 * 85 + 85 := by
  have g := dg hN
  have hm : N / 85 / 85 / 85 / 85 % 85 = N / 85 / 85 / 85 / 85 := Nat.mod_eq_of_lt g.l4
  rw [hm]
  exact dgs g
theorem ub_five {N : Nat} (hN : N < 4294967296) (t : List Nat) (i : Nat) (out : List Nat) : ub (five N ++ t) i out 0 0 false = ub t (i + 5) (out ++ four N) 0 0 false := by
  simp only [five, List.cons_append, List.nil_append]
  rw [ubc (Nat.mod_lt _ (by decide)), show ltI (((0 : Nat) + 1 : Nat) : Int) 5 = true from rfl]
  simp only [cond_true]
  rw [ubc (Nat.mod_lt _ (by decide)), show ltI (((0 : Nat) + 1 + 1 : Nat) : Int) 5 = true from rfl]
  simp only [cond_true]
  rw [ubc (Nat.mod_lt _ (by decide)), show ltI (((0 : Nat) + 1 + 1 + 1 : Nat) : Int) 5 = true from rfl]
  simp only [cond_true]
  rw [ubc (Nat.mod_lt _ (by decide)), show ltI (((0 : Nat) + 1 + 1 + 1 + 1 : Nat) : Int) 5 = true from rfl]
  simp only [cond_true]
  rw [ubc (Nat.mod_lt _ (by decide)), show ltI (((0 : Nat) + 1 + 1 + 1 + 1 + 1 : Nat) : Int) 5 = false from rfl]
  simp only [cond_false]
  have e : 85 * (85 * (85 * (85 * (85 * 0 + N / 85 / 85 / 85 / 85 % 85) + N / 85 / 85 / 85 % 85) + N / 85 / 85 % 85) + N / 85 % 85) + N % 85 = N := (digits hN).1
  rw [e, ltF (by omega : ((N : Nat) : Int) ≤ 4294967295)]
  simp only [cond_false]
theorem four_num (a b c d : Nat) : four (num [a, b, c, d]) = [a % 256, b % 256, c % 256, d % 256] := by
  have hn : num [a, b, c, d] = ((a % 256 * 256 + b % 256) * 256 + c % 256) * 256 + d % 256 := rfl
  unfold four
  rw [hn]
  have h1 : (((a % 256 * 256 + b % 256) * 256 + c % 256) * 256 + d % 256) / 16777216 % 256 = a % 256 := by omega
  have h2 : (((a % 256 * 256 + b % 256) * 256 + c % 256) * 256 + d % 256) / 65536 % 256 = b % 256 := by omega
  have h3 : (((a % 256 * 256 + b % 256) * 256 + c % 256) * 256 + d % 256) / 256 % 256 = c % 256 := by omega
  have h4 : (((a % 256 * 256 + b % 256) * 256 + c % 256) * 256 + d % 256) % 256 = d % 256 := by omega
  rw [h1, h2, h3, h4]
theorem ub_z (t : List Nat) (i : Nat) (out : List Nat) : ub (122 :: t) i out 0 0 false = ub t (i + 1) (out ++ [0, 0, 0, 0]) 0 0 false := rfl
theorem ub_full (a b c d : Nat) (t : List Nat) (i : Nat) (out : List Nat) : ub (enc85 [a, b, c, d] ++ t) i out 0 0 false = ub t (i + (enc85 [a, b, c, d]).length) (out ++ [a % 256, b % 256, c % 256, d % 256]) 0 0 false := by
  by_cases z : num [a, b, c, d] = 0
  · have ez : enc85 [a, b, c, d] = [122] := by unfold enc85; rw [if_pos ⟨rfl, z⟩]
    have hf := four_num a b c d
    rw [z] at hf
    rw [ez, ← hf]
    exact ub_z t i out
  · have ez : enc85 [a, b, c, d] = five (num [a, b, c, d]) := by unfold enc85; rw [if_neg (fun h => z h.2)]; rfl
    rw [ez, ub_five (num_lt _), four_num]; rfl
theorem ub62 (t : List Nat) (i : Nat) (out : List Nat) (k v : Nat) : ub (62 :: t) i out k v true = fin3 out (i + 1) := by
  rw [ub_cons]
  have h1 : blank (62 % 256) = false := by decide
  have h2 : eqI ((62 % 256 : Nat) : Int) 62 = true := by decide
  rw [h1, h2]
  simp only [cond_true, cond_false]
theorem ub126 (t : List Nat) (i : Nat) (out : List Nat) (k v : Nat) : ub (126 :: t) i out k v false = (bif eqI (k : Int) 0 then ub t (i + 1) out k v true else (bif eqI (k : Int) 1 then fail3 else (bif ltI 4294967295 (padv (5 - k) v : Int) then fail3 else ub t (i + 1) (out ++ (four (padv (5 - k) v)).take (k - 1)) 0 0 true))) := by
  rw [ub_cons]
  have h1 : blank (126 % 256) = false := by decide
  have h2 : eqI ((126 % 256 : Nat) : Int) 126 = true := by decide
  rw [h1, h2]
  simp only [cond_true, cond_false]
theorem ub_til {k v : Nat} (hk : 2 ≤ k) (hV : padv (5 - k) v < 4294967296) (t : List Nat) (i : Nat) (out : List Nat) : ub (126 :: 62 :: t) i out k v false = fin3 (out ++ (four (padv (5 - k) v)).take (k - 1)) (i + 2) := by
  rw [ub126, eqF (by omega : (k : Int) ≠ 0), eqF (by omega : (k : Int) ≠ 1), ltF (by omega : (padv (5 - k) v : Int) ≤ 4294967295)]
  simp only [cond_false]
  rw [ub62]
theorem ub_tilk {k : Nat} (hk : k = 0) (v : Nat) (t : List Nat) (i : Nat) (out : List Nat) : ub (126 :: 62 :: t) i out k v false = fin3 out (i + 2) := by
  rw [ub126, eqT (by omega : (k : Int) = 0)]
  simp only [cond_true]
  rw [ub62]
theorem ub_til0 (v : Nat) (t : List Nat) (i : Nat) (out : List Nat) : ub (126 :: 62 :: t) i out 0 v false = fin3 out (i + 2) := ub_tilk rfl v t i out
theorem enc_part {P : List Nat} (h : P.length ≠ 4) : enc85 P = (five (num P)).take (P.length + 1) := by unfold enc85; rw [if_neg (fun q => h q.1)]
theorem padv1 (v : Nat) : padv 1 v = 85 * v + 84 := by rw [padv, padv]
theorem padv2 (v : Nat) : padv 2 v = 85 * (85 * v + 84) + 84 := by rw [padv, padv1]
theorem padv3 (v : Nat) : padv 3 v = 85 * (85 * (85 * v + 84) + 84) + 84 := by rw [padv, padv2]
theorem ub_1 (a : Nat) (t : List Nat) (i : Nat) (out : List Nat) : ub (enc85 [a] ++ 126 :: 62 :: t) i out 0 0 false = fin3 (out ++ [a % 256]) (i + 4) := by
  have hn : num [a] = ((a % 256 * 256 + 0) * 256 + 0) * 256 + 0 := by
    have z0 : bt [a] 0 = a % 256 := by unfold bt; rfl
    have z1 : bt [a] 1 = 0 := by unfold bt; rfl
    have z2 : bt [a] 2 = 0 := by unfold bt; rfl
    have z3 : bt [a] 3 = 0 := by unfold bt; rfl
    unfold num; rw [z0, z1, z2, z3]
  have D := digits (num_lt [a])
  rw [enc_part (by simp)]
  generalize num [a] = N at *
  simp only [five, List.length_cons, List.length_nil, List.take_succ_cons, List.take_zero, List.cons_append, List.nil_append]
  rw [ubcT (Nat.mod_lt _ (by decide)) (by decide)]
  rw [ubcT (Nat.mod_lt _ (by decide)) (by decide)]
  have hp : padv (5 - (0 + 1 + 1)) (85 * (85 * 0 + N / 85 / 85 / 85 / 85 % 85) + N / 85 / 85 / 85 % 85) = N / 85 / 85 / 85 * 614125 + 614124 := by
    rw [show 5 - (0 + 1 + 1) = 3 by omega, padv3]; exact D.2.1
  have hb1 := D.2.2.2.2
  clear D
  have ha := Nat.mod_lt a (show 0 < 256 by omega)
  obtain ⟨V, hV⟩ : ∃ V, N / 85 / 85 / 85 * 614125 + 614124 = V := ⟨_, rfl⟩
  rw [hV] at hp
  have hVN : N ≤ V ∧ V < N + 614125 := by omega
  clear hb1 hV
  rw [ub_til (by decide) (by rw [hp]; omega), hp]
  have e0 : V / 16777216 % 256 = a % 256 := by omega
  have e : (four V).take (0 + 1 + 1 - 1) = [a % 256] := by
    show [V / 16777216 % 256] = _
    rw [e0]
  rw [e]
theorem ub_2 (a b : Nat) (t : List Nat) (i : Nat) (out : List Nat) : ub (enc85 [a, b] ++ 126 :: 62 :: t) i out 0 0 false = fin3 (out ++ [a % 256, b % 256]) (i + 5) := by
  have hn : num [a, b] = ((a % 256 * 256 + b % 256) * 256 + 0) * 256 + 0 := by
    have z0 : bt [a, b] 0 = a % 256 := by unfold bt; rfl
    have z1 : bt [a, b] 1 = b % 256 := by unfold bt; rfl
    have z2 : bt [a, b] 2 = 0 := by unfold bt; rfl
    have z3 : bt [a, b] 3 = 0 := by unfold bt; rfl
    unfold num; rw [z0, z1, z2, z3]
  have D := digits (num_lt [a, b])
  rw [enc_part (by simp)]
  generalize num [a, b] = N at *
  simp only [five, List.length_cons, List.length_nil, List.take_succ_cons, List.take_zero, List.cons_append, List.nil_append]
  rw [ubcT (Nat.mod_lt _ (by decide)) (by decide)]
  rw [ubcT (Nat.mod_lt _ (by decide)) (by decide)]
  rw [ubcT (Nat.mod_lt _ (by decide)) (by decide)]
  have hp : padv (5 - (0 + 1 + 1 + 1)) (85 * (85 * (85 * 0 + N / 85 / 85 / 85 / 85 % 85) + N / 85 / 85 / 85 % 85) + N / 85 / 85 % 85) = N / 85 / 85 * 7225 + 7224 := by
    rw [show 5 - (0 + 1 + 1 + 1) = 2 by omega, padv2]; exact D.2.2.1
  have hb1 := D.2.2.2.2
  clear D
  have ha := Nat.mod_lt a (show 0 < 256 by omega)
  have hb := Nat.mod_lt b (show 0 < 256 by omega)
  obtain ⟨V, hV⟩ : ∃ V, N / 85 / 85 * 7225 + 7224 = V := ⟨_, rfl⟩
  rw [hV] at hp
  have hVN : N ≤ V ∧ V < N + 7225 := by omega
  clear hb1 hV
  rw [ub_til (by decide) (by rw [hp]; omega), hp]
  have e0 : V / 16777216 % 256 = a % 256 := by omega
  have e1 : V / 65536 % 256 = b % 256 := by omega
  have e : (four V).take (0 + 1 + 1 + 1 - 1) = [a % 256, b % 256] := by
    show [V / 16777216 % 256, V / 65536 % 256] = _
    rw [e0, e1]
  rw [e]
theorem ub_3 (a b c : Nat) (t : List Nat) (i : Nat) (out : List Nat) : ub (enc85 [a, b, c] ++ 126 :: 62 :: t) i out 0 0 false = fin3 (out ++ [a % 256, b % 256, c % 256]) (i + 6) := by
  have hn : num [a, b, c] = ((a % 256 * 256 + b % 256) * 256 + c % 256) * 256 + 0 := by
    have z0 : bt [a, b, c] 0 = a % 256 := by unfold bt; rfl
    have z1 : bt [a, b, c] 1 = b % 256 := by unfold bt; rfl
    have z2 : bt [a, b, c] 2 = c % 256 := by unfold bt; rfl
    have z3 : bt [a, b, c] 3 = 0 := by unfold bt; rfl
    unfold num; rw [z0, z1, z2, z3]
  have D := digits (num_lt [a, b, c])
  rw [enc_part (by simp)]
  generalize num [a, b, c] = N at *
  simp only [five, List.length_cons, List.length_nil, List.take_succ_cons, List.take_zero, List.cons_append, List.nil_append]
  rw [ubcT (Nat.mod_lt _ (by decide)) (by decide)]
  rw [ubcT (Nat.mod_lt _ (by decide)) (by decide)]
  rw [ubcT (Nat.mod_lt _ (by decide)) (by decide)]
  rw [ubcT (Nat.mod_lt _ (by decide)) (by decide)]
  have hp : padv (5 - (0 + 1 + 1 + 1 + 1)) (85 * (85 * (85 * (85 * 0 + N / 85 / 85 / 85 / 85 % 85) + N / 85 / 85 / 85 % 85) + N / 85 / 85 % 85) + N / 85 % 85) = N / 85 * 85 + 84 := by
    rw [show 5 - (0 + 1 + 1 + 1 + 1) = 1 by omega, padv1]; exact D.2.2.2.1
  have hb1 := D.2.2.2.2
  clear D
  have ha := Nat.mod_lt a (show 0 < 256 by omega)
  have hb := Nat.mod_lt b (show 0 < 256 by omega)
  have hc := Nat.mod_lt c (show 0 < 256 by omega)
  obtain ⟨V, hV⟩ : ∃ V, N / 85 * 85 + 84 = V := ⟨_, rfl⟩
  rw [hV] at hp
  have hVN : N ≤ V ∧ V < N + 85 := by omega
  clear hb1 hV
  rw [ub_til (by decide) (by rw [hp]; omega), hp]
  have e0 : V / 16777216 % 256 = a % 256 := by omega
  have e1 : V / 65536 % 256 = b % 256 := by omega
  have e2 : V / 256 % 256 = c % 256 := by omega
  have e : (four V).take (0 + 1 + 1 + 1 + 1 - 1) = [a % 256, b % 256, c % 256] := by
    show [V / 16777216 % 256, V / 65536 % 256, V / 256 % 256] = _
    rw [e0, e1, e2]
  rw [e]
theorem ub_b85 : ∀ (k : Nat) (s t : List Nat) (i : Nat) (out : List Nat), s.length ≤ k → ub (b85 s ++ 126 :: 62 :: t) i out 0 0 false = fin3 (out ++ s.map (· % 256)) (i + (b85 s).length + 2)
  | k, [], t, i, out, _ => by
    show ub (126 :: 62 :: t) i out 0 0 false = _
    rw [ub_til0]; simp [b85]
  | k, [a], t, i, out, _ => ub_1 a t i out
  | k, [a, b], t, i, out, _ => ub_2 a b t i out
  | k, [a, b, c], t, i, out, _ => ub_3 a b c t i out
  | 0, a :: b :: c :: d :: s, t, i, out, h => by simp at h
  | k + 1, a :: b :: c :: d :: s, t, i, out, h => by
    simp only [List.length_cons] at h
    show ub ((enc85 [a, b, c, d] ++ b85 s) ++ 126 :: 62 :: t) i out 0 0 false = fin3 _ (i + (enc85 [a, b, c, d] ++ b85 s).length + 2)
    rw [List.append_assoc, ub_full, ub_b85 k s t _ _ (by omega), List.length_append]
    simp only [List.map_cons, List.append_assoc, List.cons_append, List.nil_append, Nat.add_assoc]
theorem ub_no : ∀ (t : List Nat) (i : Nat) (out : List Nat) (k v : Nat), (∀ c ∈ t, c % 256 ≠ 126) → ub t i out k v false = fail3 ∧ ub (t ++ [126]) i out k v false = fail3
  | [], i, out, k, v, _ => by
    refine ⟨ub_nil _ _ _ _ _, ?_⟩
    rw [List.nil_append, ub126]
    simp only [ub_nil]
    cases eqI (k : Int) 0 <;> cases eqI (k : Int) 1 <;> cases ltI 4294967295 (padv (5 - k) v : Int) <;> rfl
  | c :: t, i, out, k, v, h => by
    have hc := h c List.mem_cons_self
    have ih := fun i out k v => ub_no t i out k v (fun x hx => h x (List.mem_cons_of_mem _ hx))
    have ih1 := fun i out k v => (ih i out k v).1
    have ih2 := fun i out k v => (ih i out k v).2
    rw [List.cons_append, ub_cons, ub_cons, eqF (by omega : ((c % 256 : Nat) : Int) ≠ 126)]
    simp only [cond_false, ih1, ih2]
    cases blank (c % 256) <;> cases (eqI ((c % 256 : Nat) : Int) 122 && eqI (k : Int) 0) <;> cases ltI ((c % 256 : Nat) : Int) 33 <;> cases ltI 117 ((c % 256 : Nat) : Int) <;> cases ltI ((k + 1 : Nat) : Int) 5 <;> cases ltI 4294967295 ((85 * v + (c % 256 - 33) : Nat) : Int) <;> exact ⟨rfl, rfl⟩
theorem enc_no (P : List Nat) (c : Nat) (h : c ∈ enc85 P) : c % 256 ≠ 126 := by
  unfold enc85 at h
  split at h
  · rw [List.mem_singleton] at h; omega
  · have := List.mem_of_mem_take h
    simp only [five, List.mem_cons, List.mem_nil_iff, or_false] at this
    omega
theorem b85_no : ∀ (k : Nat) (s : List Nat), s.length ≤ k → ∀ c ∈ b85 s, c % 256 ≠ 126
  | 0, s, h, c, hc => by
    have : s = [] := List.eq_nil_of_length_eq_zero (by omega)
    subst this; simp [b85] at hc
  | k + 1, s, h, c, hc => by
    by_cases q : s = []
    · subst q; simp [b85] at hc
    · rw [b85_step q] at hc
      have hp := List.length_pos_iff.2 q
      rcases List.mem_append.1 hc with hc | hc
      · exact enc_no _ c hc
      · exact b85_no k (s.drop 4) (by rw [List.length_drop]; omega) c hc
theorem repS_len (x : Nat) : ∀ n, repS n [x] = List.replicate n x
  | 0 => rfl
  | n + 1 => by rw [repS, repS_len x n, List.replicate_succ]; rfl
theorem rep_ok (x k : Nat) (hk : k ≤ 1000000) : F19 [x] k = some (List.replicate k x) ∧ F19_0 [x] k = List.replicate k x := by
  have h : F19 [x] (k : Int) = some (List.replicate k x) := by
    unfold F19
    rw [nltT (by omega), nltT (by omega), Int.toNat_natCast, repS_len]
    have : Nat.ble ([x].length * k) 140737488355328 = true := nbleT (by simp; omega)
    rw [this]; rfl
  exact ⟨h, by unfold F19_0; rw [h]; rfl⟩
theorem kn17 {n : Nat} (hn : 2000000 ≤ n) (tt : List Nat) : (F17 n tt).isSome = true ∧ F17_0 n tt = (ubS tt).1 ∧ F17_1 n tt = (ubS tt).2.1 ∧ F17_2 n tt = (ubS tt).2.2 := by
  have h := f17 hn tt
  unfold F17_0 F17_1 F17_2; rw [h]; exact ⟨rfl, rfl, rfl, rfl⟩
theorem kn13 {n : Nat} (hn : 70000 ≤ n) (tt : List Nat) : (F13 n tt).isSome = true ∧ F13_0 n tt = (uhS tt).1 ∧ F13_1 n tt = (uhS tt).2.1 ∧ F13_2 n tt = (uhS tt).2.2 := by
  have h := f13 hn tt
  unfold F13_0 F13_1 F13_2; rw [h]; exact ⟨rfl, rfl, rfl, rfl⟩
theorem kn11 {n : Nat} (hn : 70000 ≤ n) (tt : List Nat) (hl : tt.length ≤ 70000) : (F11 n tt).isSome = true ∧ F11_0 n tt = (hexS tt).1 ∧ F11_1 n tt = (hexS tt).2 := by
  have h := f11 hn tt (by omega)
  unfold F11_0 F11_1; rw [h]; exact ⟨rfl, rfl, rfl⟩
theorem kn15 {n : Nat} (hn : 70000 ≤ n) (tt : List Nat) (hl : tt.length ≤ 70000) : (F15 n tt).isSome = true ∧ F15_0 n tt = (b85S tt).1 ∧ F15_1 n tt = (b85S tt).2 := by
  have h := f15 hn tt (by omega)
  unfold F15_0 F15_1; rw [h]; exact ⟨rfl, rfl, rfl⟩
theorem ub_zs (t : List Nat) : ∀ (k i : Nat) (out : List Nat), ub (List.replicate k 122 ++ t) i out 0 0 false = ub t (i + k) (out ++ List.replicate (4 * k) 0) 0 0 false
  | 0, i, out => by simp
  | k + 1, i, out => by
    rw [List.replicate_succ, List.cons_append, ub_z, ub_zs t k (i + 1) (out ++ [0, 0, 0, 0]), List.append_assoc]
    have e : [0, 0, 0, 0] ++ List.replicate (4 * k) 0 = List.replicate (4 * (k + 1)) 0 := by
      rw [show 4 * (k + 1) = 4 * k + 1 + 1 + 1 + 1 by omega, List.replicate_succ, List.replicate_succ, List.replicate_succ, List.replicate_succ]; rfl
    rw [e, show i + 1 + k = i + (k + 1) by omega]
theorem ub_close (i : Nat) (out : List Nat) : ub [126, 62] i out 0 0 false = fin3 out (i + 2) := by
  rw [ub_cons]
  have b1 : blank (126 % 256) = false := by decide
  have b2 : blank (62 % 256) = false := by decide
  have e1 : eqI ((126 % 256 : Nat) : Int) 126 = true := by decide
  have e2 : eqI ((62 % 256 : Nat) : Int) 62 = true := by decide
  have e3 : eqI ((0 : Nat) : Int) 0 = true := by decide
  rw [b1, e1, e3]
  simp only [cond_true, cond_false]
  rw [ub_cons, b2, e2]
  simp only [cond_true, cond_false]
theorem ub_zz (k : Nat) (h : k ≤ 60000) : ubS (List.replicate k 122 ++ [126, 62]) = if 65536 < 4 * k then ([], 0, 3) else (List.replicate (4 * k) 0, ((k + 2 : Nat) : Int), 0) := by
  unfold ubS
  rw [if_neg (by simp; omega), ub_zs, ub_close, List.nil_append, Nat.zero_add]
  unfold fin3
  rw [List.length_replicate]
theorem law_ok_ : ∃ n, F8 n = some true := by
  obtain ⟨n, hn⟩ : ∃ n : Nat, 2000000 ≤ n := ⟨2000000, Nat.le_refl _⟩
  have hn' : 70000 ≤ n := by omega
  refine ⟨n, ?_⟩
  have r1 := rep_ok 120 32767 (by omega)
  have r2 := rep_ok 120 32768 (by omega)
  have r3 := rep_ok 122 16384 (by omega)
  have r4 := rep_ok 122 16385 (by omega)
  have r5 := rep_ok 32 65536 (by omega)
  have r6 := rep_ok 120 65537 (by omega)
  have n1 : ((32767 : Nat) : Int) = 32767 := rfl
  have n2 : ((32768 : Nat) : Int) = 32768 := rfl
  have n3 : ((16384 : Nat) : Int) = 16384 := rfl
  have n4 : ((16385 : Nat) : Int) = 16385 := rfl
  have n5 : ((65536 : Nat) : Int) = 65536 := rfl
  have n6 : ((65537 : Nat) : Int) = 65537 := rfl
  rw [n1] at r1; rw [n2] at r2; rw [n3] at r3; rw [n4] at r4; rw [n5] at r5; rw [n6] at r6
  have l1 : (List.replicate 32767 120).length = 32767 := List.length_replicate
  have l2 : (List.replicate 32768 120).length = 32768 := List.length_replicate
  have l3 : (List.replicate 16384 122).length = 16384 := List.length_replicate
  have l4 : (List.replicate 16385 122).length = 16385 := List.length_replicate
  have l5 : (List.replicate 65536 32).length = 65536 := List.length_replicate
  have l6 : (List.replicate 65537 120).length = 65537 := List.length_replicate
  have z1 := ub_zz 16384 (by omega)
  have z2 := ub_zz 16385 (by omega)
  rw [if_neg (by omega)] at z1
  rw [if_pos (by omega)] at z2
  have l7 : (List.replicate (4 * 16384) 0).length = 65536 := by rw [List.length_replicate]
  have n7 : ((16384 + 2 : Nat) : Int) = 16386 := rfl
  rw [n7] at z1
  have k1 : List.map UInt8.toNat (Array.toList (ByteArray.data { data := #[126, 62] })) = [126, 62] := rfl
  have k2 : List.map UInt8.toNat (Array.toList (ByteArray.data { data := #[62] })) = [62] := rfl
  have k3 : List.map UInt8.toNat (Array.toList (ByteArray.data { data := #[] })) = [] := rfl
  have k4 : List.map UInt8.toNat (Array.toList (ByteArray.data { data := #[255, 255, 255, 255] })) = [255, 255, 255, 255] := rfl
  unfold F8 c8_12 c8_13 c8_14 c8_15 c8_16 c8_17 c8_18 c8_19 c8_20 u8_0 u8_5 u8_8 t8_1 t8_2 t8_3 t8_4 t8_6 t8_7 t8_9 t8_10 t8_11
  rw [r1.1, r1.2, r2.1, r2.2, r3.1, r3.2, r4.1, r4.2, r5.1, r5.2, r6.1, r6.2, k1, k2, k3, k4]
  generalize hA : List.replicate 32767 120 = A at *
  generalize hB : List.replicate 32768 120 = B at *
  generalize hC : List.replicate 16384 122 = C at *
  generalize hD : List.replicate 16385 122 = D at *
  generalize hE : List.replicate 65536 32 = E at *
  generalize hG : List.replicate 65537 120 = G at *
  generalize hZ : List.replicate (4 * 16384) 0 = Z at *
  have q1 := kn11 hn' A (by omega)
  have q2 := kn11 hn' B (by omega)
  have q3 := kn17 hn (C ++ [126, 62])
  have q4 := kn17 hn (D ++ [126, 62])
  have q5 := kn13 hn' (E ++ [62])
  have q6 := kn15 hn' G (by omega)
  have q7 := kn17 hn [115, 56, 87, 45, 33, 126, 62]
  have q8 := kn13 hn' [62]
  have q9 := kn17 hn [126, 62]
  have q10 := kn17 hn [115, 56, 126, 62]
  have q11 := kn17 hn [117, 117, 126, 62]
  have q12 := kn17 hn [118, 33, 126, 62]
  have q13 := kn17 hn [126, 33, 62]
  have e1 : hexS A = (hex A ++ [62], 0) := by unfold hexS; rw [if_neg (by omega)]
  have e2 : hexS B = ([], 3) := by unfold hexS; rw [if_pos (by omega)]
  have e5 : uhS (E ++ [62]) = ([], 0, 3) := by unfold uhS; rw [if_pos (by rw [List.length_append]; simp; omega)]
  have e6 : b85S G = ([], 3) := by unfold b85S; rw [if_pos (by omega)]
  have e7 : ubS [115, 56, 87, 45, 33, 126, 62] = ([255, 255, 255, 255], 7, 0) := by decide +kernel
  have e8 : uhS [62] = ([], 1, 0) := by decide +kernel
  have e9 : ubS [126, 62] = ([], 2, 0) := by decide +kernel
  have e10 : ubS [115, 56, 126, 62] = ([], 0, 5) := by decide +kernel
  have e11 : ubS [117, 117, 126, 62] = ([], 0, 5) := by decide +kernel
  have e12 : ubS [118, 33, 126, 62] = ([], 0, 5) := by decide +kernel
  have e13 : ubS [126, 33, 62] = ([], 0, 5) := by decide +kernel
  rw [e1] at q1; rw [e2] at q2; rw [z1] at q3; rw [z2] at q4; rw [e5] at q5; rw [e6] at q6; rw [e7] at q7; rw [e8] at q8
  rw [e9] at q9; rw [e10] at q10; rw [e11] at q11; rw [e12] at q12; rw [e13] at q13
  have lh : (hex A ++ [62]).length = 65535 := by rw [List.length_append, hex_len, l1]; rfl
  have lb1 : Nat.blt (C.length + [126, 62].length) 9223372036854775808 = true := nbltT (by rw [l3]; simp)
  have lb2 : Nat.blt (D.length + [126, 62].length) 9223372036854775808 = true := nbltT (by rw [l4]; simp)
  have lb3 : Nat.blt (E.length + [62].length) 9223372036854775808 = true := nbltT (by rw [l5]; simp)
  rw [lb1, lb2, lb3]
  simp only [q1.1, q1.2.1, q1.2.2, q2.1, q2.2.2, q3.1, q3.2.1, q3.2.2.1, q3.2.2.2, q4.1, q4.2.2.2, q5.1, q5.2.2.2, q6.1, q6.2.2, q7.1, q7.2.1, q7.2.2.1, q7.2.2.2, q8.1, q8.2.1, q8.2.2.2, q9.1, q9.2.1, q9.2.2.2, q10.1, q10.2.1, q10.2.2.2, q11.1, q11.2.2.2, q12.1, q12.2.2.2, q13.1, q13.2.2.2, lh, l7, Option.isSome_some, cond_true]
  rfl

end

theorem walk {w : World} {E : Nat → Go.Sx.Ent} (hE : Go.Sx.GlobE E)   (hL : Go.Sx.LaidAt E w []) {ARGS : List Value} (ha : Go.Sx.RelL (Go.Sx.laidE E) [] ARGS) :
    Calls Try.prog 8 ARGS.toArray w fun e w' => e = .returned (.bool true) ∧ Below w.heap.size w w' := by
  obtain ⟨n, hn⟩ := law_ok_  
  exact Go.Sx.call_args_at okayed hE ha Try.func8 body8_eq (run8 n   true hn) hL

set_option maxRecDepth 100000 in
theorem lifted (os : Os) (started : os.Started) (H : Type) (enc : TypeId × Value → H) :
    ReturnsInHanded {} Try.checked os 8 .any (Rows.asciiKnownSpec.pre6 enc Try.prog Try.f8 Rows.asciiKnownRow.domain false) (Rows.asciiKnownSpec.post enc Try.prog Try.f8 false true false false) := by
  refine returnsInHanded_of_change (C := Try.checked) own started (by kernel_rfl) Try.func8
    (ChangeSpec.witness6 (enc := enc) (C := Try.checked) false ⟨#[], #[], []⟩ 8 (by kernel_rfl) (by kernel_rfl) (by kernel_rfl) (by kernel_rfl)) ?_
  intro W base args ds gs before hval0 hW hcnd _
  have hval : ∀ (j : Nat) t v, Try.f8.params[j]? = some t → args[j]? = some v → Value.okWide Try.prog W .any base t v := hval0
  have hW' := hW
  obtain ⟨p, q, hA0, hV, rfl, hfz, hnd⟩ := hW
  have hA : DataW.TrodAll enc Try.prog W 0 (fun _ => true) true Try.f8.params.toList args.toList ds p := hA0
  rw [Try.params8] at hA hval
  obtain ⟨hargs, rfl, rfl⟩ := trodAll_nil hA
  obtain rfl : args = #[] := by cases args; simp_all
  obtain ⟨rfl, rfl⟩ := trodVars_none hV
  clear hA0
  have done : Calls Try.prog 8 #[] W (fun e w' => e = .returned (.bool true) ∧ Below W.heap.size W w') := by
    exact walk (Go.Sx.argE_glob [])   (Go.Sx.laid_nil _ (Go.Sx.argE [])) (ARGS := []) rfl
  refine done.mono fun e W' ⟨he, hg⟩ => ?_
  subst he
  exact ⟨_, rfl, Go.Sx.post_of_below (pv := []) hW' (fun _ _ _ => (trodAll_cons_mk (shut_bool Try.underlying4 _) trodAll_mk0)) (fun sp hsp => trodAll_mk0) (fun _ _ => rfl) (by simp)
    hg (ok_one (by kernel_rfl) rfl (okWide_bool_mk Try.underlying4 _))⟩

theorem over : Rows.asciiKnownRow.holds Try.pinned (OpenSpec.ofChange Rows.asciiKnownSpec) :=
  OpenClaim.holds_of_wide 8 Try.f8 rfl rfl rfl rfl rfl rfl rfl ⟨rfl, rfl, rfl, rfl, rfl⟩ rfl rfl rfl rfl rfl (by kernel_rfl) Try.func8 (by kernel_rfl)
    (of_decide_eq_true (by kernel_rfl)) (by unfold Func.isWrapper; first | (rw [if_pos (by decide +kernel)]; kernel_rfl) | (rw [if_neg (by decide +kernel)]; exact ⟨rfl, rfl⟩))
    (fun os started H enc _ => lifted os started H enc)

theorem proved : Rows.AsciiKnownSaid := over
#print axioms proved
end Go.Proofs.Ytllkcnfilignkaa.asciiKnown
