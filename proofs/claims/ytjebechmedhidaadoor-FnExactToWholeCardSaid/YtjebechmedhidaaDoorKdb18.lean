/-
  Contracts of the functions that the laws reach, and the plain facts that they rest on, each under the conditions that its line names; part 18.
-/
import Derived.Test.YtjebechmedhidaaDoorKdb1
import Derived.Test.YtjebechmedhidaaDoorKdb2
import Derived.Test.YtjebechmedhidaaDoorKdb3
import Derived.Test.YtjebechmedhidaaDoorKdb4
import Derived.Test.YtjebechmedhidaaDoorKdb5
import Derived.Test.YtjebechmedhidaaDoorKdb6
import Derived.Test.YtjebechmedhidaaDoorKdb7
import Derived.Test.YtjebechmedhidaaDoorKdb8
import Derived.Test.YtjebechmedhidaaDoorKdb9
import Derived.Test.YtjebechmedhidaaDoorKdb10
import Derived.Test.YtjebechmedhidaaDoorKdb11
import Derived.Test.YtjebechmedhidaaDoorKdb14
import Derived.Test.YtjebechmedhidaaDoorKdb15
import Derived.Test.YtjebechmedhidaaDoorKdb16
import Derived.Test.YtjebechmedhidaaDoorKdb17
import Derived.Test.YtjebechmedhidaaDoorRows
import Derived.WalkKit
import Derived.LoopTactic
import Derived.Laws.Bits64b
import Derived.WalkSpells
import Derived.WalkLawsBesides
import Derived.StillTactics
import Derived.Laws.Pointers
import Derived.Deep.RegionHeld3
import Derived.Deep.QuietTactic
import Derived.BigQuiet
import Derived.Outline
import Derived.Lib.Hide
import Derived.RowKit3
import Derived.Carry
import Derived.IntWalk
namespace Go.Proofs.YtjebechmedhidaaDoor
open Go Go.RowKit
set_option linter.unusedSimpArgs false
set_option linter.unusedVariables false

theorem run_store_flt {P : Program} (w : World) (a : Addr) (m : Mode) (k : FloatKind) (b : Nat) : (store a (.float k b) m).run P w = stored P w a (.float k b) m := run_store P w a _ m rfl

attribute [local go_sem] run_store_flt
end Go.Proofs.YtjebechmedhidaaDoor

