/- Contracts of functions of Go's library at this program, and that they are facts for the executor. Conditions stand in each. -/
import Derived.Shelf.Strings.Builder1
import Derived.Shelf.Strings.Builder2
import Derived.Shelf.Strings.BuilderF
import Derived.Shelf.Strings.Prefix
import Derived.Shelf.Bits.Mul64
import Derived.Shelf.Strings.Repeat
import Derived.Test.YtcfkjkefkmfdnaaProg
import Derived.Test.YtcfkjkefkmfdnaaSxF
namespace Go.Proofs.Ytcfkjkefkmfdnaa
set_option linter.unusedVariables false
section
open Go.Shelf
def lays105_ren : Go.Shelf.Ren := ⟨fun | 105 => 15 | 212 => 22 | 99 => 14 | 165 => 23 | 166 => 24 | 170 => 25 | 169 => 26 | 263 => 29 | 264 => 30 | 206 => 21 | 240 => 31 | 241 => 32 | 276 => 33 | 277 => 34 | n => n, fun | 9 => 9 | 3 => 3 | 4 => 4 | 20 => 20 | 0 => 0 | 46 => 46 | 109 => 47 | 5 => 5 | 72 => 51 | 76 => 55 | 51 => 61 | 146 => 62 | 53 => 64 | 148 => 65 | 70 => 49 | 37 => 32 | 75 => 54 | 127 => 67 | 164 => 69 | 80 => 58 | n => n, fun | n => n⟩
theorem lays105 : Go.Proofs.Lays.n105 Try.prog lays105_ren := {
  mixed := by kernel_rfl
  f99 := Try.func14.trans (congrArg some (by kernel_rfl))
  f105 := Try.func15.trans (congrArg some (by kernel_rfl))
  f165 := Try.func23.trans (congrArg some (by kernel_rfl))
  f166 := Try.func24.trans (congrArg some (by kernel_rfl))
  f169 := Try.func26.trans (congrArg some (by kernel_rfl))
  f170 := Try.func25.trans (congrArg some (by kernel_rfl))
  f206 := Try.func21.trans (congrArg some (by kernel_rfl))
  f212 := Try.func22.trans (congrArg some (by kernel_rfl))
  f240 := Try.func31.trans (congrArg some (by kernel_rfl))
  f241 := Try.func32.trans (congrArg some (by kernel_rfl))
  f263 := Try.func29.trans (congrArg some (by kernel_rfl))
  f264 := Try.func30.trans (congrArg some (by kernel_rfl))
  f276 := Try.func33.trans (congrArg some (by kernel_rfl))
  f277 := Try.func34.trans (congrArg some (by kernel_rfl))
  t0 := Try.underlying0
  a0 := Try.isAgg0
  z0 := Try.sizeOf0
  v0 := Try.zeroValue0
  t3 := Try.underlying3
  a3 := Try.isAgg3
  z3 := Try.sizeOf3
  v3 := Try.zeroValue3
  t4 := Try.underlying4
  a4 := Try.isAgg4
  z4 := Try.sizeOf4
  v4 := Try.zeroValue4
  t5 := Try.underlying5
  a5 := Try.isAgg5
  z5 := Try.sizeOf5
  v5 := Try.zeroValue5
  t9 := Try.underlying9
  a9 := Try.isAgg9
  z9 := Try.sizeOf9
  v9 := Try.zeroValue9
  t20 := Try.underlying20
  a20 := Try.isAgg20
  z20 := Try.sizeOf20
  v20 := Try.zeroValue20
  t37 := Try.underlying32
  a37 := Try.isAgg32
  z37 := Try.sizeOf32
  v37 := Try.zeroValue32
  t46 := Try.underlying46
  a46 := Try.isAgg46
  z46 := Try.sizeOf46
  v46 := Try.zeroValue46
  t51 := Try.underlying61
  a51 := Try.isAgg61
  z51 := Try.sizeOf61
  v51 := Try.zeroValue61
  t53 := Try.underlying64
  a53 := Try.isAgg64
  z53 := Try.sizeOf64
  v53 := Try.zeroValue64
  t70 := Try.underlying49
  a70 := Try.isAgg49
  z70 := Try.sizeOf49
  v70 := Try.zeroValue49
  t72 := Try.underlying51
  a72 := Try.isAgg51
  z72 := Try.sizeOf51
  v72 := Try.zeroValue51
  t75 := Try.underlying54
  a75 := Try.isAgg54
  z75 := Try.sizeOf54
  v75 := Try.zeroValue54
  t76 := Try.underlying55
  a76 := Try.isAgg55
  z76 := Try.sizeOf55
  v76 := Try.zeroValue55
  t109 := Try.underlying47
  a109 := Try.isAgg47
  z109 := Try.sizeOf47
  v109 := Try.zeroValue47
  t127 := Try.underlying67
  a127 := Try.isAgg67
  z127 := Try.sizeOf67
  v127 := Try.zeroValue67
  t146 := Try.underlying62
  a146 := Try.isAgg62
  z146 := Try.sizeOf62
  v146 := Try.zeroValue62
  t148 := Try.underlying65
  a148 := Try.isAgg65
  z148 := Try.sizeOf65
  v148 := Try.zeroValue65
  t164 := Try.underlying69
  a164 := Try.isAgg69
  z164 := Try.sizeOf69
  v164 := Try.zeroValue69 }
theorem Builder_Extra_105 : Builder.Extra Try.prog lays105_ren := {
  sizeBuilder := by kernel_rfl
  liesBuilder := by kernel_rfl
  t5 := Try.underlying5
  a5 := Try.isAgg5
  z5 := Try.sizeOf5
  v5 := Try.zeroValue5
  infoByte := by kernel_rfl
  cellsByte := by kernel_rfl
  sizeByte := by kernel_rfl
  neB5 := by decide }
open Go.RowKit Go.Lib in
/-- **strings.Repeat: count ≥ 0, the result within one allocation: count copies of s.** (LAID: no walk: one application.) -/
theorem strings_Repeat (s : ByteArray) (c : Nat) (w : World) (hc : c ≤ 9223372036854775807) (hlen : s.size * c ≤ 140737488355328) :
    Calls Try.prog 15 #[.string s, .int .i64 c] w fun e w' => e = .returned (.string ⟨(Lib.repeatL s.data.toList c).toArray⟩) ∧ Below w.heap.size w w' := Any.strings_Repeat lays105 Builder_Extra_105 s c w hc hlen
end
section
open Go.Sx
noncomputable def repS : Nat → List Nat → List Nat
  | 0, _ => []
  | n + 1, l => l ++ repS n l
noncomputable def F15 (tt : List Nat) (cc : Int) : Option (List Nat) := (bif (andB (!ltI cc 0) (andB (!ltI 9223372036854775807 cc) (Nat.ble (tt.length * cc.toNat) 140737488355328))) then (some (repS cc.toNat tt)) else none)
noncomputable def F15_0 (tt : List Nat) (cc : Int) : List Nat := ((F15 tt cc).getD default)
theorem repS_map (l : List Nat) : ∀ n, Lib.repeatL (l.map UInt8.ofNat) n = (repS n l).map UInt8.ofNat
  | 0 => by simp [Lib.repeatL, repS]
  | n + 1 => by simp [Lib.repeatL, repS, repS_map l n]
theorem fact15 (tt : List Nat) (cc : Int) (h : (F15 tt cc).isSome = true) : Fact Try.prog [] 15 [.str tt, .int .i64 cc] (.str (F15_0 tt cc)) := by
  have hb : andB (!ltI cc 0) (andB (!ltI 9223372036854775807 cc) (Nat.ble (tt.length * cc.toNat) 140737488355328)) = true := by
    cases q : andB (!ltI cc 0) (andB (!ltI 9223372036854775807 cc) (Nat.ble (tt.length * cc.toNat) 140737488355328)) with
    | true => rfl
    | false => unfold F15 at h; rw [q] at h; cases h
  have he : F15_0 tt cc = repS cc.toNat tt := by unfold F15_0 F15; rw [hb]; rfl
  obtain ⟨h1, h2⟩ := andB_eq.1 hb
  obtain ⟨h2, h3⟩ := andB_eq.1 h2
  simp only [ltI_eq, Bool.not_eq_true', decide_eq_false_iff_not] at h1 h2
  have h3 := Nat.le_of_ble_eq_true h3
  rw [he]
  refine ⟨rfl, rfl, Try.f15, _, Try.func15, rfl, fun E w ARGS _ _ ha => ?_⟩
  obtain ⟨v1, w1, a1, a2, rfl⟩ := ha
  obtain ⟨v2, w2, a3, a4, rfl⟩ := a2
  simp only [Rel] at a1 a3
  simp only [RelL] at a4
  subst a1; subst a3; subst a4
  have hc : cc = ((cc.toNat : Nat) : Int) := by omega
  have key := strings_Repeat (ofNats tt) cc.toNat w (by omega) (by simpa [ofNats, ByteArray.size] using h3)
  rw [← hc] at key
  have k2 : Calls Try.prog 15 #[.string (ofNats tt), .int .i64 cc] w fun e w' => ∃ V, e = .returned V ∧ Rel (fun _ => none) (.str (repS cc.toNat tt)) V ∧ Go.RowKit.Below w.heap.size w w' := by
    refine key.mono ?_
    rintro e w' ⟨rfl, hB⟩
    refine ⟨_, rfl, ?_, hB⟩
    simp only [Rel, ofNats]
    rw [repS_map]
  exact callsIn_wide.2 k2

end
end Go.Proofs.Ytcfkjkefkmfdnaa
