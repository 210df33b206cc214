/-
  Contracts of the functions that the laws reach, and the plain facts that they rest on, each under the conditions that its line names; part 13.
-/
import Derived.Test.YtkgphdicnjkgbaaDoorKss1
import Derived.Test.YtkgphdicnjkgbaaDoorKss2
import Derived.Test.YtkgphdicnjkgbaaDoorKss3
import Derived.Test.YtkgphdicnjkgbaaDoorKss4
import Derived.Test.YtkgphdicnjkgbaaDoorKss5
import Derived.Test.YtkgphdicnjkgbaaDoorKss6
import Derived.Test.YtkgphdicnjkgbaaDoorKss7
import Derived.Test.YtkgphdicnjkgbaaDoorKss12
import Derived.Test.YtkgphdicnjkgbaaDoorRows
import Derived.WalkKit
import Derived.LoopTactic
import Derived.Laws.Bits64b
import Derived.WalkSpells
import Derived.WalkLawsBesides
import Derived.StillTactics
import Derived.Laws.Pointers
import Derived.Deep.RegionHeld3
import Derived.Deep.QuietTactic
import Derived.BigQuiet
import Derived.Outline
import Derived.Deep.DeepCutAuto
import Derived.Deep.CutBlock
import Derived.Lib.Hide
import Derived.RowKit3
import Derived.Carry
import Derived.IntWalk
namespace Go.Proofs.YtkgphdicnjkgbaaDoor
open Go Go.RowKit
set_option linter.unusedSimpArgs false
set_option linter.unusedVariables false

theorem mg_bd {e f p : Int} (hg : goodB e f = true) (h0 : 0 ≤ p) (h1 : p ≤ grV e f) : 0 ≤ mgV f p ∧ mgV f p < 2199023255552 := by
  obtain ⟨t0, t1⟩ := pt_lt hg ⟨p, h0, h1, Or.inl rfl⟩
  omega
end Go.Proofs.YtkgphdicnjkgbaaDoor

