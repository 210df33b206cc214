/-
  Contracts of the functions that the laws reach, and the plain facts that they rest on, each under the conditions that its line names; part 15.
-/
import Derived.Test.YtafkcgpfllloiabDoorKSN1
import Derived.Test.YtafkcgpfllloiabDoorKSN2
import Derived.Test.YtafkcgpfllloiabDoorKSN3
import Derived.Test.YtafkcgpfllloiabDoorKSN4
import Derived.Test.YtafkcgpfllloiabDoorKSN5
import Derived.Test.YtafkcgpfllloiabDoorKSN6
import Derived.Test.YtafkcgpfllloiabDoorKSN7
import Derived.Test.YtafkcgpfllloiabDoorKSN8
import Derived.Test.YtafkcgpfllloiabDoorKSN9
import Derived.Test.YtafkcgpfllloiabDoorKSN10
import Derived.Test.YtafkcgpfllloiabDoorKSN11
import Derived.Test.YtafkcgpfllloiabDoorKSN12
import Derived.Test.YtafkcgpfllloiabDoorKSN13
import Derived.Test.YtafkcgpfllloiabDoorKSN14
import Derived.Test.YtafkcgpfllloiabDoorRows
import Derived.WalkKit
import Derived.LoopTactic
import Derived.Laws.Bits64b
import Derived.WalkSpells
import Derived.WalkLawsBesides
import Derived.StillTactics
import Derived.Laws.Pointers
import Derived.Deep.RegionHeld3
import Derived.Deep.QuietTactic
import Derived.BigQuiet
import Derived.Outline
import Derived.Lib.Hide
import Derived.RowKit3
import Derived.Carry
import Derived.IntWalk
import Derived.Shelf.Small.Bits
import Derived.Shelf.Strconv.Itoa0
import Derived.Test.YtafkcgpfllloiabDoorProg
import Derived.Deep.DeepCutAuto
import Derived.Deep.CutBlock
namespace Go.Proofs.YtafkcgpfllloiabDoor
open Go Go.RowKit
set_option linter.unusedSimpArgs false
set_option linter.unusedVariables false

theorem run_store_flt {P : Program} (w : World) (a : Addr) (m : Mode) (k : FloatKind) (b : Nat) : (store a (.float k b) m).run P w = stored P w a (.float k b) m := run_store P w a _ m rfl

attribute [local go_sem] run_store_flt
end Go.Proofs.YtafkcgpfllloiabDoor

