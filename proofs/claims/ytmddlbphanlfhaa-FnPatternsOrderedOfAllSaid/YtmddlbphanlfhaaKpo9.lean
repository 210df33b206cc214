/-
  Contracts of the functions that the laws reach, and the plain facts that they rest on, each under the conditions that its line names; part 9.
-/
import Derived.Test.YtmddlbphanlfhaaKpo1
import Derived.Test.YtmddlbphanlfhaaKpo2
import Derived.Test.YtmddlbphanlfhaaKpo3
import Derived.Test.YtmddlbphanlfhaaRows
import Derived.WalkKit
import Derived.WalkSpells
import Derived.WalkLawsBesides
import Derived.StillTactics
import Derived.Laws.Pointers
import Derived.Deep.RegionHeld3
import Derived.Deep.QuietTactic
import Derived.BigQuiet
import Derived.Outline
import Derived.Lib.Hide
import Derived.RowKit3
import Derived.Carry
import Derived.IntWalk
import Derived.Lib.BitFns
import Derived.Lib.TrailingZeros
namespace Go.Proofs.Ytmddlbphanlfhaa
open Go Go.RowKit
set_option linter.unusedSimpArgs false
set_option linter.unusedVariables false

abbrev two (n d : Int) : Value := .agg #[.int .i64 n, .int .i64 d]
end Go.Proofs.Ytmddlbphanlfhaa

