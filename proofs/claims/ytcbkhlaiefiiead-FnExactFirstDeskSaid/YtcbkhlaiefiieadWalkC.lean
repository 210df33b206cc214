/-
  Contracts of the exported functions on formats alone, each under the conditions that its line names.
-/
import Derived.Test.YtcbkhlaiefiieadRows
import Derived.Test.YtcbkhlaiefiieadPlain
import Derived.Test.YtcbkhlaiefiieadWalkA
import Derived.WalkKit
import Derived.WalkSpells
import Derived.WalkLawsBesides
import Derived.StillTactics
import Derived.Laws.Pointers
import Derived.Deep.RegionHeld3
import Derived.Deep.QuietTactic
import Derived.BigQuiet
import Derived.Outline
import Derived.Lib.Hide
import Derived.RowKit3
import Derived.Carry
import Derived.IntWalk
namespace Go.Proofs.Ytcbkhlaiefiiead
open Go Go.RowKit
set_option linter.unusedSimpArgs false
set_option linter.unusedVariables false


end Go.Proofs.Ytcbkhlaiefiiead
