/-
  Contracts of the functions that the laws reach, and the plain facts that they rest on, each under the conditions that its line names; part 30.
-/
import Derived.Test.YtfgbndjhaiigbabDoorKxh12
import Derived.ProofKit
import Derived.LaidMore
import Derived.OpenShut
import Derived.Stop.Joined
namespace Go.Proofs.YtfgbndjhaiigbabDoor
open Go.ChangeShapes Go.WideShapes Go.ChangeAt Go.RowKit

theorem own : ownKnob Tryd.prog.godebug = none := by kernel_rfl

theorem g64 : Tryd.prog.globalNamed "math/bits.deBruijn64tab" = some 2 := by kernel_rfl

theorem y64 : (Tryd.prog.globals[2]?).map (·.type) = some 171 := by kernel_rfl
end Go.Proofs.YtfgbndjhaiigbabDoor

