/-
  Contracts of the program's functions on keys and steps, each under the conditions that its line names.
-/
import Derived.Test.YtmffoiofbiclgaaDoorRows
import Derived.Test.YtmffoiofbiclgaaDoorPlain
import Derived.Test.YtmffoiofbiclgaaDoorDefs
import Derived.Test.YtmffoiofbiclgaaDoorWalkA
import Derived.Test.YtmffoiofbiclgaaDoorWalkF
import Derived.Test.YtmffoiofbiclgaaDoorWalkC
import Derived.Test.YtmffoiofbiclgaaDoorWalkD
import Derived.Test.YtmffoiofbiclgaaDoorWalkE
import Derived.Test.YtmffoiofbiclgaaDoorWalkS
import Derived.Test.YtmffoiofbiclgaaDoorWalkT
import Derived.Test.YtmffoiofbiclgaaDoorWalkU
import Derived.Test.YtmffoiofbiclgaaDoorWalkV
import Derived.Test.YtmffoiofbiclgaaDoorWalkW
import Derived.WalkKit
import Derived.WalkSpells
import Derived.WalkLawsBesides
import Derived.StillTactics
import Derived.Laws.Pointers
import Derived.Deep.RegionHeld3
import Derived.Deep.QuietTactic
import Derived.BigQuiet
import Derived.Outline
import Derived.Lib.Hide
import Derived.RowKit3
import Derived.Carry
import Derived.IntWalk
namespace Go.Proofs.YtmffoiofbiclgaaDoor
open Go Go.RowKit
set_option linter.unusedSimpArgs false
set_option linter.unusedVariables false

theorem sign_lt (e f p : Int) (hp : patB e f p = true) : (p / pw (e + f) = 0 ∧ p < pw (e + f)) ∨ (p / pw (e + f) = 1 ∧ pw (e + f) ≤ p) := by
  obtain ⟨⟨s0, s1⟩, ⟨z0, z1⟩, _, _, hsum⟩ := field_bd e f p hp
  have hs : p / pw (e + f) = 0 ∨ p / pw (e + f) = 1 := by omega
  rcases hs with h | h
  · rw [h] at hsum; exact .inl ⟨h, by omega⟩
  · rw [h] at hsum; exact .inr ⟨h, by omega⟩

theorem idx1 (a b c : Int) (w : World) : (Instr.index 59 (.agg #[.int .i64 a, .int .i64 b, .int .i64 c]) (.int .i64 1)).run Tryd.prog w = .ok (.int .i64 b) w := by kernel_rfl


end Go.Proofs.YtmffoiofbiclgaaDoor
