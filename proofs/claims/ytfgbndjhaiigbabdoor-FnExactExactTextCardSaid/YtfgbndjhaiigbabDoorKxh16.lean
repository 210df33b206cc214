/-
  Contracts of the functions that the laws reach, and the plain facts that they rest on, each under the conditions that its line names; part 16.
-/
import Derived.Test.YtfgbndjhaiigbabDoorKxh1
import Derived.Test.YtfgbndjhaiigbabDoorKxh2
import Derived.Test.YtfgbndjhaiigbabDoorKxh3
import Derived.Test.YtfgbndjhaiigbabDoorKxh4
import Derived.Test.YtfgbndjhaiigbabDoorKxh5
import Derived.Test.YtfgbndjhaiigbabDoorKxh6
import Derived.Test.YtfgbndjhaiigbabDoorKxh7
import Derived.Test.YtfgbndjhaiigbabDoorKxh8
import Derived.Test.YtfgbndjhaiigbabDoorKxh9
import Derived.Test.YtfgbndjhaiigbabDoorKxh10
import Derived.Test.YtfgbndjhaiigbabDoorKxh11
import Derived.Test.YtfgbndjhaiigbabDoorKxh12
import Derived.Test.YtfgbndjhaiigbabDoorKxh13
import Derived.Test.YtfgbndjhaiigbabDoorKxh14
import Derived.Test.YtfgbndjhaiigbabDoorKxh15
import Derived.Test.YtfgbndjhaiigbabDoorRows
import Derived.WalkKit
import Derived.LoopTactic
import Derived.Laws.Bits64b
import Derived.WalkSpells
import Derived.WalkLawsBesides
import Derived.StillTactics
import Derived.Laws.Pointers
import Derived.Deep.RegionHeld3
import Derived.Deep.QuietTactic
import Derived.BigQuiet
import Derived.Outline
import Derived.Lib.Hide
import Derived.RowKit3
import Derived.Carry
import Derived.IntWalk
import Derived.Laws.EntriesVeiled
import Derived.LoopN
import Derived.Laws.BitsAllLaws
import Ieee.Arith
import Derived.Laws.FloatArith
import Derived.ScopeJumps
import Derived.WalkMore
namespace Go.Proofs.YtfgbndjhaiigbabDoor
open Go Go.RowKit
set_option linter.unusedSimpArgs false
set_option linter.unusedVariables false
set_option maxRecDepth 100000

theorem kind_units {e f p : Int} (hp : patB e f p = true) : (kindV e f p = 0 → (unitsV e f p) = 0) ∧ (kindV e f p = 1 ∨ kindV e f p = 2 → (unitsV e f p) ≠ 0) ∧ (0 ≤ kindV e f p ∧ kindV e f p ≤ 4) := by
  obtain ⟨_, _, ⟨x0, x1⟩, ⟨r0, r1⟩, _⟩ := field_bd e f p hp
  have pf := pw_pos f
  unfold kindV unitsV magV
  by_cases c1 : p % pw (e + f) / pw f = pw e - 1
  · by_cases c2 : p % pw f = 0 <;> simp [c1, c2]
  · have c3 : (p % pw (e + f) / pw f == pw e - 1) = false := by simpa using c1
    simp only [c3]
    by_cases c4 : 0 < p % pw (e + f) / pw f
    · simp only [if_pos c4]
      have q := pw_pos (p % pw (e + f) / pw f - 1)
      have m : 0 < (p % pw f + pw f) * pw (p % pw (e + f) / pw f - 1) := Int.mul_pos (by omega) (by omega)
      refine ⟨by simp, fun _ => ?_, by simp⟩
      split <;> omega
    · simp only [if_neg c4]
      by_cases c5 : 0 < p % pw f
      · simp only [if_pos c5]
        refine ⟨by simp, fun _ => ?_, by simp⟩
        split <;> omega
      · simp only [if_neg c5]
        refine ⟨fun _ => ?_, by simp, by simp⟩
        have : p % pw f = 0 := by omega
        rw [this]
        split <;> rfl
end Go.Proofs.YtfgbndjhaiigbabDoor

