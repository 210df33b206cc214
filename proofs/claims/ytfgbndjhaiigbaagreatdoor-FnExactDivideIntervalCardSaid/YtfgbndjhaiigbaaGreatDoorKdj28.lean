/-
  Contracts of the functions that the laws reach, and the plain facts that they rest on, each under the conditions that its line names; part 28.
-/
import Derived.Test.YtfgbndjhaiigbaaGreatDoorKdj1
import Derived.Test.YtfgbndjhaiigbaaGreatDoorKdj2
import Derived.Test.YtfgbndjhaiigbaaGreatDoorKdj3
import Derived.Test.YtfgbndjhaiigbaaGreatDoorKdj4
import Derived.Test.YtfgbndjhaiigbaaGreatDoorKdj5
import Derived.Test.YtfgbndjhaiigbaaGreatDoorKdj6
import Derived.Test.YtfgbndjhaiigbaaGreatDoorKdj7
import Derived.Test.YtfgbndjhaiigbaaGreatDoorKdj8
import Derived.Test.YtfgbndjhaiigbaaGreatDoorKdj9
import Derived.Test.YtfgbndjhaiigbaaGreatDoorKdj10
import Derived.Test.YtfgbndjhaiigbaaGreatDoorKdj11
import Derived.Test.YtfgbndjhaiigbaaGreatDoorKdj12
import Derived.Test.YtfgbndjhaiigbaaGreatDoorKdj13
import Derived.Test.YtfgbndjhaiigbaaGreatDoorKdj14
import Derived.Test.YtfgbndjhaiigbaaGreatDoorKdj15
import Derived.Test.YtfgbndjhaiigbaaGreatDoorKdj16
import Derived.Test.YtfgbndjhaiigbaaGreatDoorKdj17
import Derived.Test.YtfgbndjhaiigbaaGreatDoorKdj18
import Derived.Test.YtfgbndjhaiigbaaGreatDoorKdj19
import Derived.Test.YtfgbndjhaiigbaaGreatDoorKdj20
import Derived.Test.YtfgbndjhaiigbaaGreatDoorKdj21
import Derived.Test.YtfgbndjhaiigbaaGreatDoorKdj22
import Derived.Test.YtfgbndjhaiigbaaGreatDoorKdj23
import Derived.Test.YtfgbndjhaiigbaaGreatDoorKdj24
import Derived.Test.YtfgbndjhaiigbaaGreatDoorKdj25
import Derived.Test.YtfgbndjhaiigbaaGreatDoorKdj26
import Derived.Test.YtfgbndjhaiigbaaGreatDoorRows
import Derived.WalkKit
import Derived.LoopTactic
import Derived.Laws.Bits64b
import Derived.WalkSpells
import Derived.WalkLawsBesides
import Derived.StillTactics
import Derived.Laws.Pointers
import Derived.Deep.RegionHeld3
import Derived.Deep.QuietTactic
import Derived.BigQuiet
import Derived.Outline
import Derived.Lib.Hide
import Derived.RowKit3
import Derived.Carry
import Derived.IntWalk
import Derived.Laws.EntriesVeiled
import Derived.LoopN
namespace Go.Proofs.YtfgbndjhaiigbaaGreatDoor
open Go Go.RowKit
set_option linter.unusedSimpArgs false
set_option linter.unusedVariables false
set_option maxRecDepth 100000

theorem rnd_null {e f k mode : Int} {neg : Bool} (hg : goodB e f = true) : RndD e f 0 k mode neg 0 := by
  have hf := (good_iff.1 hg).2.2.1
  have m0 : mgV f 0 = 0 := by unfold mgV; rw [if_neg (by simp)]; simp
  have m1 := mg_next hf (Int.le_refl 0)
  have g := (gr_bd2 hg).1
  have q := pw_pos 149
  refine ⟨0, ⟨by omega, by omega, by rw [m0]; simp, Or.inr ?_⟩, ?_⟩
  · rw [Int.zero_mul]
    exact Int.mul_pos (by omega) (by omega)
  · rw [m0]
    unfold rndP
    simp

theorem sign_01 {e f p : Int} (h : patB e f p = true) : (p / pw (e + f)) = 0 ∨ (p / pw (e + f)) = 1 := by
  obtain ⟨hg, p0, p1⟩ := pat_iff.1 h
  have q := pw_pos (e + f)
  have a : 0 ≤ (p / pw (e + f)) := Int.ediv_nonneg p0 (by omega)
  have b : (p / pw (e + f)) < 2 := Int.ediv_lt_of_lt_mul (by omega) p1
  omega

theorem kind_units {e f p : Int} (hp : patB e f p = true) : (kindV e f p = 0 → (unitsV e f p) = 0) ∧ (kindV e f p = 1 ∨ kindV e f p = 2 → (unitsV e f p) ≠ 0) ∧ (0 ≤ kindV e f p ∧ kindV e f p ≤ 4) := by
  obtain ⟨_, _, ⟨x0, x1⟩, ⟨r0, r1⟩, _⟩ := field_bd e f p hp
  have pf := pw_pos f
  unfold kindV unitsV magV
  by_cases c1 : p % pw (e + f) / pw f = pw e - 1
  · by_cases c2 : p % pw f = 0 <;> simp [c1, c2]
  · have c3 : (p % pw (e + f) / pw f == pw e - 1) = false := by simpa using c1
    simp only [c3]
    by_cases c4 : 0 < p % pw (e + f) / pw f
    · simp only [if_pos c4]
      have q := pw_pos (p % pw (e + f) / pw f - 1)
      have m : 0 < (p % pw f + pw f) * pw (p % pw (e + f) / pw f - 1) := Int.mul_pos (by omega) (by omega)
      refine ⟨by simp, fun _ => ?_, by simp⟩
      split <;> omega
    · simp only [if_neg c4]
      by_cases c5 : 0 < p % pw f
      · simp only [if_pos c5]
        refine ⟨by simp, fun _ => ?_, by simp⟩
        split <;> omega
      · simp only [if_neg c5]
        refine ⟨fun _ => ?_, by simp, by simp⟩
        have : p % pw f = 0 := by omega
        rw [this]
        split <;> rfl

theorem units_sign {e f p : Int} (hp : patB e f p = true) (h : (unitsV e f p) ≠ 0) : ((unitsV e f p) < 0 ↔ (p / pw (e + f)) = 1) := by
  have m := mag_bd e f p hp
  have sg := sign_01 hp
  unfold unitsV at h ⊢
  rcases sg with q | q <;> rw [q] at h ⊢ <;> simp at h ⊢ <;> omega
end Go.Proofs.YtfgbndjhaiigbaaGreatDoor

