/-
  Contracts of the functions that the laws reach, and the plain facts that they rest on, each under the conditions that its line names; part 17.
-/
import Derived.Test.YtjebechmedhidaaDoorKdn1
import Derived.Test.YtjebechmedhidaaDoorKdn2
import Derived.Test.YtjebechmedhidaaDoorKdn3
import Derived.Test.YtjebechmedhidaaDoorKdn4
import Derived.Test.YtjebechmedhidaaDoorKdn5
import Derived.Test.YtjebechmedhidaaDoorKdn6
import Derived.Test.YtjebechmedhidaaDoorKdn7
import Derived.Test.YtjebechmedhidaaDoorKdn8
import Derived.Test.YtjebechmedhidaaDoorKdn9
import Derived.Test.YtjebechmedhidaaDoorKdn10
import Derived.Test.YtjebechmedhidaaDoorKdn13
import Derived.Test.YtjebechmedhidaaDoorKdn14
import Derived.Test.YtjebechmedhidaaDoorKdn15
import Derived.Test.YtjebechmedhidaaDoorKdn16
import Derived.Test.YtjebechmedhidaaDoorRows
import Derived.WalkKit
import Derived.LoopTactic
import Derived.Laws.Bits64b
import Derived.WalkSpells
import Derived.WalkLawsBesides
import Derived.StillTactics
import Derived.Laws.Pointers
import Derived.Deep.RegionHeld3
import Derived.Deep.QuietTactic
import Derived.BigQuiet
import Derived.Outline
import Derived.Lib.Hide
import Derived.RowKit3
import Derived.Carry
import Derived.IntWalk
import Derived.Shelf.Small.Bits
import Derived.Shelf.Small.Wraps
import Derived.Shelf.Strconv.Itoa0
import Derived.Ground.Names2Prog
import Derived.Shelf.Slices.SearchI
import Derived.Test.YtjebechmedhidaaDoorProg
namespace Go.Proofs.YtjebechmedhidaaDoor
open Go Go.RowKit
set_option linter.unusedSimpArgs false
set_option linter.unusedVariables false

theorem run_store_flt {P : Program} (w : World) (a : Addr) (m : Mode) (k : FloatKind) (b : Nat) : (store a (.float k b) m).run P w = stored P w a (.float k b) m := run_store P w a _ m rfl

attribute [local go_sem] run_store_flt
end Go.Proofs.YtjebechmedhidaaDoor

