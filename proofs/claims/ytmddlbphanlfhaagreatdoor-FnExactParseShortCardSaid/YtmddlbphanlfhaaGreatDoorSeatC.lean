/-
  A fact of the whole program that each law's row asks: settled once, in a text of its own, as it fills the kernel's memory.
-/
import Derived.Test.YtmddlbphanlfhaaGreatDoorRows
import Derived.ProofKit
namespace Go.Proofs.YtmddlbphanlfhaaGreatDoor
theorem seat_make : Tryz.prog.make = some .cut := by kernel_rfl

end Go.Proofs.YtmddlbphanlfhaaGreatDoor
