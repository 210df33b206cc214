/-
  Contracts of the functions that the laws reach, and the plain facts that they rest on, each under the conditions that its line names; part 26.
-/
import Derived.Test.YtfgbndjhaiigbacGreatDoorKs31
import Derived.Test.YtfgbndjhaiigbacGreatDoorKs32
import Derived.Test.YtfgbndjhaiigbacGreatDoorKs33
import Derived.Test.YtfgbndjhaiigbacGreatDoorKs34
import Derived.Test.YtfgbndjhaiigbacGreatDoorKs35
import Derived.Test.YtfgbndjhaiigbacGreatDoorKs36
import Derived.Test.YtfgbndjhaiigbacGreatDoorKs37
import Derived.Test.YtfgbndjhaiigbacGreatDoorKs38
import Derived.Test.YtfgbndjhaiigbacGreatDoorKs39
import Derived.Test.YtfgbndjhaiigbacGreatDoorKs310
import Derived.Test.YtfgbndjhaiigbacGreatDoorKs311
import Derived.Test.YtfgbndjhaiigbacGreatDoorKs312
import Derived.Test.YtfgbndjhaiigbacGreatDoorKs313
import Derived.Test.YtfgbndjhaiigbacGreatDoorKs314
import Derived.Test.YtfgbndjhaiigbacGreatDoorKs315
import Derived.Test.YtfgbndjhaiigbacGreatDoorKs316
import Derived.Test.YtfgbndjhaiigbacGreatDoorKs317
import Derived.Test.YtfgbndjhaiigbacGreatDoorKs318
import Derived.Test.YtfgbndjhaiigbacGreatDoorKs319
import Derived.Test.YtfgbndjhaiigbacGreatDoorKs320
import Derived.Test.YtfgbndjhaiigbacGreatDoorKs321
import Derived.Test.YtfgbndjhaiigbacGreatDoorKs322
import Derived.Test.YtfgbndjhaiigbacGreatDoorKs323
import Derived.Test.YtfgbndjhaiigbacGreatDoorKs324
import Derived.Test.YtfgbndjhaiigbacGreatDoorKs325
import Derived.Test.YtfgbndjhaiigbacGreatDoorRows
import Derived.WalkKit
import Derived.LoopTactic
import Derived.Laws.Bits64b
import Derived.WalkSpells
import Derived.WalkLawsBesides
import Derived.StillTactics
import Derived.Laws.Pointers
import Derived.Deep.RegionHeld3
import Derived.Deep.QuietTactic
import Derived.BigQuiet
import Derived.Outline
import Derived.Lib.Hide
import Derived.RowKit3
import Derived.Carry
import Derived.IntWalk
import Derived.Laws.EntriesVeiled
import Derived.LoopN
namespace Go.Proofs.YtfgbndjhaiigbacGreatDoor
open Go Go.RowKit
set_option linter.unusedSimpArgs false
set_option linter.unusedVariables false
set_option maxRecDepth 100000

theorem kind_units {e f p : Int} (hp : patB e f p = true) : (kindV e f p = 0 → (unitsV e f p) = 0) ∧ (kindV e f p = 1 ∨ kindV e f p = 2 → (unitsV e f p) ≠ 0) ∧ (0 ≤ kindV e f p ∧ kindV e f p ≤ 4) := by
  obtain ⟨_, _, ⟨x0, x1⟩, ⟨r0, r1⟩, _⟩ := field_bd e f p hp
  have pf := pw_pos f
  unfold kindV unitsV magV
  by_cases c1 : p % pw (e + f) / pw f = pw e - 1
  · by_cases c2 : p % pw f = 0 <;> simp [c1, c2]
  · have c3 : (p % pw (e + f) / pw f == pw e - 1) = false := by simpa using c1
    simp only [c3]
    by_cases c4 : 0 < p % pw (e + f) / pw f
    · simp only [if_pos c4]
      have q := pw_pos (p % pw (e + f) / pw f - 1)
      have m : 0 < (p % pw f + pw f) * pw (p % pw (e + f) / pw f - 1) := Int.mul_pos (by omega) (by omega)
      refine ⟨by simp, fun _ => ?_, by simp⟩
      split <;> omega
    · simp only [if_neg c4]
      by_cases c5 : 0 < p % pw f
      · simp only [if_pos c5]
        refine ⟨by simp, fun _ => ?_, by simp⟩
        split <;> omega
      · simp only [if_neg c5]
        refine ⟨fun _ => ?_, by simp, by simp⟩
        have : p % pw f = 0 := by omega
        rw [this]
        split <;> rfl
end Go.Proofs.YtfgbndjhaiigbacGreatDoor

