/-
  Contracts of the functions that the laws reach, and the plain facts that they rest on, each under the conditions that its line names; part 16.
-/
import Derived.Test.YtmddlbphanlfhaaGreatDoorKps1
import Derived.Laws.FloatArith
namespace Go.Proofs.YtmddlbphanlfhaaGreatDoor
open Go

/-- The bits of the single for the fields of a normal pattern. -/
def fbitsN (F X R : Nat) : Nat := (X - 1 + F + 127) * 8388608 + R * 2 ^ (23 - F)
end Go.Proofs.YtmddlbphanlfhaaGreatDoor

