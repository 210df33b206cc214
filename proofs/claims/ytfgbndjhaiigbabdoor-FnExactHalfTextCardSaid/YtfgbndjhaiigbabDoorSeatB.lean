/-
  A fact of the whole program that each law's row asks: settled once, in a text of its own, as it fills the kernel's memory.
-/
import Derived.Test.YtfgbndjhaiigbabDoorRows
import Derived.ProofKit
namespace Go.Proofs.YtfgbndjhaiigbabDoor
theorem seat_lifts : Tryd.prog.liftsFinal = false := by kernel_rfl

end Go.Proofs.YtfgbndjhaiigbabDoor
