/-
  Contracts of the functions that the laws reach, and the plain facts that they rest on, each under the conditions that its line names; part 18.
-/
import Derived.Test.YtfgbndjhaiigbabDoorKyd1
import Derived.Test.YtfgbndjhaiigbabDoorKyd2
import Derived.Test.YtfgbndjhaiigbabDoorKyd3
import Derived.Test.YtfgbndjhaiigbabDoorKyd4
import Derived.Test.YtfgbndjhaiigbabDoorKyd5
import Derived.Test.YtfgbndjhaiigbabDoorKyd6
import Derived.Test.YtfgbndjhaiigbabDoorKyd7
import Derived.Test.YtfgbndjhaiigbabDoorKyd8
import Derived.Test.YtfgbndjhaiigbabDoorKyd9
import Derived.Test.YtfgbndjhaiigbabDoorKyd10
import Derived.Test.YtfgbndjhaiigbabDoorKyd11
import Derived.Test.YtfgbndjhaiigbabDoorKyd14
import Derived.Test.YtfgbndjhaiigbabDoorKyd15
import Derived.Test.YtfgbndjhaiigbabDoorKyd16
import Derived.Test.YtfgbndjhaiigbabDoorKyd17
import Derived.Test.YtfgbndjhaiigbabDoorRows
import Derived.WalkKit
import Derived.LoopTactic
import Derived.Laws.Bits64b
import Derived.WalkSpells
import Derived.WalkLawsBesides
import Derived.StillTactics
import Derived.Laws.Pointers
import Derived.Deep.RegionHeld3
import Derived.Deep.QuietTactic
import Derived.BigQuiet
import Derived.Outline
import Derived.Lib.Hide
import Derived.RowKit3
import Derived.Carry
import Derived.IntWalk
namespace Go.Proofs.YtfgbndjhaiigbabDoor
open Go Go.RowKit
set_option linter.unusedSimpArgs false
set_option linter.unusedVariables false

theorem run_store_flt {P : Program} (w : World) (a : Addr) (m : Mode) (k : FloatKind) (b : Nat) : (store a (.float k b) m).run P w = stored P w a (.float k b) m := run_store P w a _ m rfl

attribute [local go_sem] run_store_flt
end Go.Proofs.YtfgbndjhaiigbabDoor

