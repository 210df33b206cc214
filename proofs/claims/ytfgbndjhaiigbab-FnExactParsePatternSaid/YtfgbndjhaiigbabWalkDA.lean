/-
  Contracts of the small functions on whole numbers and on dyadic numbers, each under the conditions that its line names.
-/
import Derived.Test.YtfgbndjhaiigbabRows
import Derived.Test.YtfgbndjhaiigbabPlain
import Derived.Test.YtfgbndjhaiigbabDy
import Derived.Test.YtfgbndjhaiigbabDyC
import Derived.Test.YtfgbndjhaiigbabWalkA
import Derived.WalkKit
import Derived.WalkSpells
import Derived.WalkLawsBesides
import Derived.StillTactics
import Derived.Laws.Pointers
import Derived.Deep.RegionHeld3
import Derived.Deep.QuietTactic
import Derived.BigQuiet
import Derived.Outline
import Derived.Lib.Hide
import Derived.RowKit3
import Derived.Carry
import Derived.IntWalk
namespace Go.Proofs.Ytfgbndjhaiigbab
open Go Go.RowKit
set_option linter.unusedSimpArgs false
set_option linter.unusedVariables false

abbrev two (n d : Int) : Value := .agg #[.int .i64 n, .int .i64 d]

theorem ret_i2 {a b : Int} {c : Bool} (h : a = b) : Ending.returned (.tuple #[.int .i64 a, .bool c]) = .returned (.tuple #[.int .i64 b, .bool c]) := by rw [h]

theorem tmod_two (n : Int) : (n.tmod 2 == 0) = (n % 2 == 0) := by
  have h1 : n.tmod 2 = 0 ↔ (2 : Int) ∣ n := ⟨Int.dvd_of_tmod_eq_zero, Int.tmod_eq_zero_of_dvd⟩
  have h2 : n % 2 = 0 ↔ (2 : Int) ∣ n := ⟨Int.dvd_of_emod_eq_zero, Int.emod_eq_zero_of_dvd⟩
  rw [Bool.eq_iff_iff, beq_iff_eq, beq_iff_eq, h1, h2]

end Go.Proofs.Ytfgbndjhaiigbab
