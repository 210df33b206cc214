/-
  Contracts of the functions that the laws reach, and the plain facts that they rest on, each under the conditions that its line names; part 34.
-/
import Derived.Test.YtmddlbphanlfhaaGreatDoorKps30
import Derived.ProofKit
import Derived.LaidMore
import Derived.OpenShut
import Derived.Stop.Joined
namespace Go.Proofs.YtmddlbphanlfhaaGreatDoor
open Go.ChangeShapes Go.WideShapes Go.ChangeAt Go.RowKit

theorem own : ownKnob Tryz.prog.godebug = none := by kernel_rfl

theorem g64 : Tryz.prog.globalNamed "math/bits.deBruijn64tab" = some 7 := by kernel_rfl

theorem y64 : (Tryz.prog.globals[7]?).map (·.type) = some 205 := by kernel_rfl
end Go.Proofs.YtmddlbphanlfhaaGreatDoor

