/-
  Contracts of the functions that bring numbers with a power of two into lowest terms, each under the conditions that its line names.
-/
import Derived.Test.YtadhllmhlnfkgabDoorRows
import Derived.Test.YtadhllmhlnfkgabDoorPlain
import Derived.Test.YtadhllmhlnfkgabDoorBelow
import Derived.Test.YtadhllmhlnfkgabDoorNear
import Derived.Test.YtadhllmhlnfkgabDoorDy
import Derived.Test.YtadhllmhlnfkgabDoorDyC
import Derived.Test.YtadhllmhlnfkgabDoorWalkA
import Derived.Test.YtadhllmhlnfkgabDoorWalkDA
import Derived.Test.YtadhllmhlnfkgabDoorDyS
import Derived.Test.YtadhllmhlnfkgabDoorLen
import Derived.Test.YtadhllmhlnfkgabDoorWalkDB
import Derived.WalkKit
import Derived.LoopTactic
import Derived.Laws.Bits64b
import Derived.WalkSpells
import Derived.WalkLawsBesides
import Derived.StillTactics
import Derived.Laws.Pointers
import Derived.Deep.RegionHeld3
import Derived.Deep.QuietTactic
import Derived.BigQuiet
import Derived.Outline
import Derived.Lib.Hide
import Derived.RowKit3
import Derived.Carry
import Derived.IntWalk
namespace Go.Proofs.YtadhllmhlnfkgabDoor
open Go Go.RowKit
set_option linter.unusedSimpArgs false
set_option linter.unusedVariables false

theorem tdiv_half (n : Int) (h : n % 2 = 0) : n.tdiv 2 = n / 2 := by
  obtain ⟨m, rfl⟩ : ∃ m, n = m * 2 := ⟨n / 2, by omega⟩
  rw [Int.mul_tdiv_cancel _ (by decide), Int.mul_ediv_cancel _ (by decide)]

end Go.Proofs.YtadhllmhlnfkgabDoor
