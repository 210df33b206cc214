/-
  A fact of the whole program that each law's row asks: settled once, in a text of its own, as it fills the kernel's memory.
-/
import Derived.Test.YtmddlbphanlfhaaRows
import Derived.ProofKit
namespace Go.Proofs.Ytmddlbphanlfhaa
theorem seat_enter : Try.prog.mayEnter = true := by kernel_rfl

end Go.Proofs.Ytmddlbphanlfhaa
