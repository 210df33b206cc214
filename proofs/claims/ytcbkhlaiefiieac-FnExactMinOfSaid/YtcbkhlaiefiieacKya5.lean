/-
  Contracts of the functions that the laws reach, and the plain facts that they rest on, each under the conditions that its line names; part 5.
-/
import Derived.Test.YtcbkhlaiefiieacKya1
import Derived.Test.YtcbkhlaiefiieacKya3
import Derived.Test.YtcbkhlaiefiieacKya4
import Derived.Test.YtcbkhlaiefiieacRows
import Derived.WalkKit
import Derived.WalkSpells
import Derived.WalkLawsBesides
import Derived.StillTactics
import Derived.Laws.Pointers
import Derived.Deep.RegionHeld3
import Derived.Deep.QuietTactic
import Derived.BigQuiet
import Derived.Outline
import Derived.Lib.Hide
import Derived.RowKit3
import Derived.Carry
import Derived.IntWalk
namespace Go.Proofs.Ytcbkhlaiefiieac
open Go Go.RowKit
set_option linter.unusedSimpArgs false
set_option linter.unusedVariables false

abbrev two (n d : Int) : Value := .agg #[.int .i64 n, .int .i64 d]

theorem buildDy (a b : Int) (w : World) : (Instr.build 45 #[(0, .int .i64 a), (1, .int .i64 b)]).run Try.prog w = .ok (two a b) w := run_build w _ _ _ (by kernel_rfl)

theorem tmod_two (n : Int) : (n.tmod 2 == 0) = (n % 2 == 0) := by
  have h1 : n.tmod 2 = 0 ↔ (2 : Int) ∣ n := ⟨Int.dvd_of_tmod_eq_zero, Int.tmod_eq_zero_of_dvd⟩
  have h2 : n % 2 = 0 ↔ (2 : Int) ∣ n := ⟨Int.dvd_of_emod_eq_zero, Int.emod_eq_zero_of_dvd⟩
  rw [Bool.eq_iff_iff, beq_iff_eq, beq_iff_eq, h1, h2]

theorem isSizeAtMost_any (n m : Int) (hm0 : 0 ≤ m) (hm1 : m ≤ 1125899906842624) (w : World) : Calls Try.prog 57 #[.int .i64 n, .int .i64 m] w fun rv w' => rv = .returned (.bool (decide (-m ≤ n ∧ n ≤ m))) ∧ w = w' := by
  by_cases h1 : -m ≤ n <;> by_cases h2 : n ≤ m
  all_goals
    go_enter Try.func57, Try.ntmps57
    go_wp2
    go_ret
    exact ⟨ret_bool (by first | (simp [h1, h2]; done) | (simp [h1, h2]; trace_state; omega)), rfl⟩
end Go.Proofs.Ytcbkhlaiefiieac

