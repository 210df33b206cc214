/-
  Contracts of the functions that the laws reach, and the plain facts that they rest on, each under the conditions that its line names; part 6.
-/
import Derived.Test.YtcpamgmaijjhoaaKbm1
import Derived.Test.YtcpamgmaijjhoaaKbm2
import Derived.Test.YtcpamgmaijjhoaaKbm3
import Derived.Test.YtcpamgmaijjhoaaKbm4
import Derived.Test.YtcpamgmaijjhoaaKbm5
import Derived.Test.YtcpamgmaijjhoaaRows
import Derived.WalkKit
import Derived.LoopTactic
import Derived.LoopN
import Derived.Laws.OwnMore
import Derived.OwnWalk
import Derived.Deep.AppendLies
import Derived.Deep.LoopGhost
import Derived.Laws.Bits64b
import Derived.WalkSpells
import Derived.WalkLawsBesides
import Derived.StillTactics
import Derived.Laws.Pointers
import Derived.Deep.RegionHeld3
import Derived.Deep.QuietTactic
import Derived.BigQuiet
import Derived.Outline
import Derived.Lib.Hide
import Derived.RowKit3
import Derived.Carry
import Derived.IntWalk
import Derived.Shelf.Small.Bits
import Derived.Shelf.Small.Wraps
import Derived.Shelf.Strconv.Itoa0
import Derived.Ground.Names2Prog
import Derived.Shelf.Slices.SearchI
import Derived.Test.YtcpamgmaijjhoaaProg
import Derived.Laws.FloatArith
import Derived.Lib.BitFns
import Derived.Lib.TrailingZeros
import Derived.Laws.BitsAllLaws
import Ieee.Arith
import Derived.ScopeJumps
import Derived.WalkMore
import Derived.Deep.DeepCutAuto
import Derived.Deep.CutBlock
namespace Go.Proofs.Ytcpamgmaijjhoaa
open Go Go.RowKit
set_option linter.unusedSimpArgs false
set_option linter.unusedVariables false
set_option maxRecDepth 100000

/-- All of n patterns are finite. -/
def allF (e f : Int) (V : Nat → Int) (n : Nat) : Bool := (List.range n).all (fun j => finB e f (V j))

theorem allF_iff {e f : Int} {V : Nat → Int} {n : Nat} : allF e f V n = true ↔ ∀ i, i < n → finB e f (V i) = true := by unfold allF; simp
end Go.Proofs.Ytcpamgmaijjhoaa

