/-
  Contracts of the functions that the laws reach, and the plain facts that they rest on, each under the conditions that its line names; part 10.
-/
import Derived.Test.YtmddlbphanlfhaaKpo1
import Derived.Test.YtmddlbphanlfhaaKpo2
import Derived.Test.YtmddlbphanlfhaaKpo3
import Derived.Test.YtmddlbphanlfhaaKpo9
import Derived.Test.YtmddlbphanlfhaaRows
import Derived.WalkKit
import Derived.LoopTactic
import Derived.Laws.Bits64b
import Derived.WalkSpells
import Derived.WalkLawsBesides
import Derived.StillTactics
import Derived.Laws.Pointers
import Derived.Deep.RegionHeld3
import Derived.Deep.QuietTactic
import Derived.BigQuiet
import Derived.Outline
import Derived.Lib.Hide
import Derived.RowKit3
import Derived.Carry
import Derived.IntWalk
import Derived.Lib.BitFns
import Derived.Lib.TrailingZeros
namespace Go.Proofs.Ytmddlbphanlfhaa
open Go Go.RowKit
set_option linter.unusedSimpArgs false
set_option linter.unusedVariables false
set_option maxRecDepth 100000

theorem kind_zer {e f p : Int} (hp : patB e f p = true) : (kindV e f p == 0) = (p % pw (e + f) == 0) := by
  rw [← zer_iff e f p hp]
  obtain ⟨hg, p0, p1⟩ := pat_iff.1 hp
  obtain ⟨h1, h2, h3, h4⟩ := good_iff.1 hg
  obtain ⟨_, ⟨b1, b2⟩, _⟩ := pw_facts h1 h2 h3 h4
  obtain ⟨_, _, ⟨x0, x1⟩, ⟨r0, r1⟩, _⟩ := field_bd e f p hp
  unfold zerB kindV
  rw [hp]
  generalize p % pw (e + f) / pw f = x at *
  generalize p % pw f = r at *
  generalize pw e = E at *
  rw [Bool.eq_iff_iff]
  simp only [Bool.true_and, Bool.and_eq_true, beq_iff_eq]
  repeat' split
  all_goals first | omega | (constructor <;> intro h <;> omega)
end Go.Proofs.Ytmddlbphanlfhaa

