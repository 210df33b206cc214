/-
  Contracts of the functions that the laws reach, and the plain facts that they rest on, each under the conditions that its line names; part 5.
-/
import Derived.Test.YtmddlbphanlfhaaGreatDoorKps1
import Derived.Test.YtmddlbphanlfhaaGreatDoorKps3
import Derived.Test.YtmddlbphanlfhaaGreatDoorKps4
import Derived.Test.YtmddlbphanlfhaaGreatDoorRows
import Derived.WalkKit
import Derived.WalkSpells
import Derived.WalkLawsBesides
import Derived.StillTactics
import Derived.Laws.Pointers
import Derived.Deep.RegionHeld3
import Derived.Deep.QuietTactic
import Derived.BigQuiet
import Derived.Outline
import Derived.Lib.Hide
import Derived.RowKit3
import Derived.Carry
import Derived.IntWalk
namespace Go.Proofs.YtmddlbphanlfhaaGreatDoor
open Go Go.RowKit
set_option linter.unusedSimpArgs false
set_option linter.unusedVariables false

abbrev two (n d : Int) : Value := .agg #[.int .i64 n, .int .i64 d]

theorem isSizeAtMost_any (n m : Int) (hm0 : 0 ≤ m) (hm1 : m ≤ 1125899906842624) (w : World) : Calls Tryz.prog 131 #[.int .i64 n, .int .i64 m] w fun rv w' => rv = .returned (.bool (decide (-m ≤ n ∧ n ≤ m))) ∧ w = w' := by
  by_cases h1 : -m ≤ n <;> by_cases h2 : n ≤ m
  all_goals
    go_enter Tryz.func131, Tryz.ntmps131
    go_wp2
    go_ret
    exact ⟨ret_bool (by first | (simp [h1, h2]; done) | (simp [h1, h2]; trace_state; omega)), rfl⟩
end Go.Proofs.YtmddlbphanlfhaaGreatDoor

