/- Contracts of functions of Go's library at this program, and that they are facts for the executor. Conditions stand in each. -/
import Derived.Shelf.Strings.Builder1
import Derived.Shelf.Strings.Builder2
import Derived.Shelf.Strings.BuilderF
import Derived.Shelf.Strings.Prefix
import Derived.Shelf.Bits.Mul64
import Derived.Shelf.Strings.Repeat
import Derived.Test.YtllkcnfilignkaaProg
import Derived.Test.YtllkcnfilignkaaSxF
namespace Go.Proofs.Ytllkcnfilignkaa
set_option linter.unusedVariables false
section
open Go.Shelf
def lays105_ren : Go.Shelf.Ren := ⟨fun | 105 => 19 | 212 => 35 | 99 => 36 | 165 => 37 | 166 => 38 | 170 => 39 | 169 => 40 | 263 => 47 | 264 => 48 | 206 => 49 | 240 => 50 | 241 => 51 | 276 => 53 | 277 => 54 | n => n, fun | 9 => 9 | 3 => 3 | 4 => 4 | 20 => 20 | 0 => 0 | 46 => 37 | 109 => 60 | 5 => 5 | 72 => 64 | 76 => 68 | 51 => 77 | 146 => 81 | 53 => 83 | 148 => 84 | 70 => 62 | 37 => 32 | 75 => 67 | 127 => 86 | 164 => 88 | 80 => 71 | n => n, fun | n => n⟩
theorem lays105 : Go.Proofs.Lays.n105 Try.prog lays105_ren := {
  mixed := by kernel_rfl
  f99 := Try.func36.trans (congrArg some (by kernel_rfl))
  f105 := Try.func19.trans (congrArg some (by kernel_rfl))
  f165 := Try.func37.trans (congrArg some (by kernel_rfl))
  f166 := Try.func38.trans (congrArg some (by kernel_rfl))
  f169 := Try.func40.trans (congrArg some (by kernel_rfl))
  f170 := Try.func39.trans (congrArg some (by kernel_rfl))
  f206 := Try.func49.trans (congrArg some (by kernel_rfl))
  f212 := Try.func35.trans (congrArg some (by kernel_rfl))
  f240 := Try.func50.trans (congrArg some (by kernel_rfl))
  f241 := Try.func51.trans (congrArg some (by kernel_rfl))
  f263 := Try.func47.trans (congrArg some (by kernel_rfl))
  f264 := Try.func48.trans (congrArg some (by kernel_rfl))
  f276 := Try.func53.trans (congrArg some (by kernel_rfl))
  f277 := Try.func54.trans (congrArg some (by kernel_rfl))
  t0 := Try.underlying0
  a0 := Try.isAgg0
  z0 := Try.sizeOf0
  v0 := Try.zeroValue0
  t3 := Try.underlying3
  a3 := Try.isAgg3
  z3 := Try.sizeOf3
  v3 := Try.zeroValue3
  t4 := Try.underlying4
  a4 := Try.isAgg4
  z4 := Try.sizeOf4
  v4 := Try.zeroValue4
  t5 := Try.underlying5
  a5 := Try.isAgg5
  z5 := Try.sizeOf5
  v5 := Try.zeroValue5
  t9 := Try.underlying9
  a9 := Try.isAgg9
  z9 := Try.sizeOf9
  v9 := Try.zeroValue9
  t20 := Try.underlying20
  a20 := Try.isAgg20
  z20 := Try.sizeOf20
  v20 := Try.zeroValue20
  t37 := Try.underlying32
  a37 := Try.isAgg32
  z37 := Try.sizeOf32
  v37 := Try.zeroValue32
  t46 := Try.underlying37
  a46 := Try.isAgg37
  z46 := Try.sizeOf37
  v46 := Try.zeroValue37
  t51 := Try.underlying77
  a51 := Try.isAgg77
  z51 := Try.sizeOf77
  v51 := Try.zeroValue77
  t53 := Try.underlying83
  a53 := Try.isAgg83
  z53 := Try.sizeOf83
  v53 := Try.zeroValue83
  t70 := Try.underlying62
  a70 := Try.isAgg62
  z70 := Try.sizeOf62
  v70 := Try.zeroValue62
  t72 := Try.underlying64
  a72 := Try.isAgg64
  z72 := Try.sizeOf64
  v72 := Try.zeroValue64
  t75 := Try.underlying67
  a75 := Try.isAgg67
  z75 := Try.sizeOf67
  v75 := Try.zeroValue67
  t76 := Try.underlying68
  a76 := Try.isAgg68
  z76 := Try.sizeOf68
  v76 := Try.zeroValue68
  t109 := Try.underlying60
  a109 := Try.isAgg60
  z109 := Try.sizeOf60
  v109 := Try.zeroValue60
  t127 := Try.underlying86
  a127 := Try.isAgg86
  z127 := Try.sizeOf86
  v127 := Try.zeroValue86
  t146 := Try.underlying81
  a146 := Try.isAgg81
  z146 := Try.sizeOf81
  v146 := Try.zeroValue81
  t148 := Try.underlying84
  a148 := Try.isAgg84
  z148 := Try.sizeOf84
  v148 := Try.zeroValue84
  t164 := Try.underlying88
  a164 := Try.isAgg88
  z164 := Try.sizeOf88
  v164 := Try.zeroValue88 }
theorem Builder_Extra_105 : Builder.Extra Try.prog lays105_ren := {
  sizeBuilder := by kernel_rfl
  liesBuilder := by kernel_rfl
  t5 := Try.underlying5
  a5 := Try.isAgg5
  z5 := Try.sizeOf5
  v5 := Try.zeroValue5
  infoByte := by kernel_rfl
  cellsByte := by kernel_rfl
  sizeByte := by kernel_rfl
  neB5 := by decide }
open Go.RowKit Go.Lib in
/-- **strings.Repeat: count ≥ 0, the result within one allocation: count copies of s.** (LAID: no walk: one application.) -/
theorem strings_Repeat (s : ByteArray) (c : Nat) (w : World) (hc : c ≤ 9223372036854775807) (hlen : s.size * c ≤ 140737488355328) :
    Calls Try.prog 19 #[.string s, .int .i64 c] w fun e w' => e = .returned (.string ⟨(Lib.repeatL s.data.toList c).toArray⟩) ∧ Below w.heap.size w w' := Any.strings_Repeat lays105 Builder_Extra_105 s c w hc hlen
end
section
open Go.Sx
noncomputable def repS : Nat → List Nat → List Nat
  | 0, _ => []
  | n + 1, l => l ++ repS n l
noncomputable def F19 (tt : List Nat) (cc : Int) : Option (List Nat) := (bif (andB (!ltI cc 0) (andB (!ltI 9223372036854775807 cc) (Nat.ble (tt.length * cc.toNat) 140737488355328))) then (some (repS cc.toNat tt)) else none)
noncomputable def F19_0 (tt : List Nat) (cc : Int) : List Nat := ((F19 tt cc).getD default)
theorem repS_map (l : List Nat) : ∀ n, Lib.repeatL (l.map UInt8.ofNat) n = (repS n l).map UInt8.ofNat
  | 0 => by simp [Lib.repeatL, repS]
  | n + 1 => by simp [Lib.repeatL, repS, repS_map l n]
theorem fact19 (tt : List Nat) (cc : Int) (h : (F19 tt cc).isSome = true) : Fact Try.prog [] 19 [.str tt, .int .i64 cc] (.str (F19_0 tt cc)) := by
  have hb : andB (!ltI cc 0) (andB (!ltI 9223372036854775807 cc) (Nat.ble (tt.length * cc.toNat) 140737488355328)) = true := by
    cases q : andB (!ltI cc 0) (andB (!ltI 9223372036854775807 cc) (Nat.ble (tt.length * cc.toNat) 140737488355328)) with
    | true => rfl
    | false => unfold F19 at h; rw [q] at h; cases h
  have he : F19_0 tt cc = repS cc.toNat tt := by unfold F19_0 F19; rw [hb]; rfl
  obtain ⟨h1, h2⟩ := andB_eq.1 hb
  obtain ⟨h2, h3⟩ := andB_eq.1 h2
  simp only [ltI_eq, Bool.not_eq_true', decide_eq_false_iff_not] at h1 h2
  have h3 := Nat.le_of_ble_eq_true h3
  rw [he]
  refine ⟨rfl, rfl, Try.f19, _, Try.func19, rfl, fun E w ARGS _ _ ha => ?_⟩
  obtain ⟨v1, w1, a1, a2, rfl⟩ := ha
  obtain ⟨v2, w2, a3, a4, rfl⟩ := a2
  simp only [Rel] at a1 a3
  simp only [RelL] at a4
  subst a1; subst a3; subst a4
  have hc : cc = ((cc.toNat : Nat) : Int) := by omega
  have key := strings_Repeat (ofNats tt) cc.toNat w (by omega) (by simpa [ofNats, ByteArray.size] using h3)
  rw [← hc] at key
  have k2 : Calls Try.prog 19 #[.string (ofNats tt), .int .i64 cc] w fun e w' => ∃ V, e = .returned V ∧ Rel (fun _ => none) (.str (repS cc.toNat tt)) V ∧ Go.RowKit.Below w.heap.size w w' := by
    refine key.mono ?_
    rintro e w' ⟨rfl, hB⟩
    refine ⟨_, rfl, ?_, hB⟩
    simp only [Rel, ofNats]
    rw [repS_map]
  exact callsIn_wide.2 k2

end
end Go.Proofs.Ytllkcnfilignkaa
