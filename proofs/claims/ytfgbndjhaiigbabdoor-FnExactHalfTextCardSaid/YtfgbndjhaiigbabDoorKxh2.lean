/-
  Contracts of the functions that the laws reach, and the plain facts that they rest on, each under the conditions that its line names; part 2.
-/
import Derived.Test.YtfgbndjhaiigbabDoorKxh1
import Derived.Lib.BitFns
namespace Go.Proofs.YtfgbndjhaiigbabDoor
open Go

theorem pw_cast (n : Nat) : ((2 ^ n : Nat) : Int) = pw n := by unfold pw; simp
end Go.Proofs.YtfgbndjhaiigbabDoor

