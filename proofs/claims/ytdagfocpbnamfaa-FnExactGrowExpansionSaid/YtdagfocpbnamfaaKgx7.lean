/-
  Contracts of the functions that the laws reach, and the plain facts that they rest on, each under the conditions that its line names; part 7.
-/
import Derived.Test.YtdagfocpbnamfaaKgx1
import Derived.Test.YtdagfocpbnamfaaKgx2
import Derived.Test.YtdagfocpbnamfaaKgx3
import Derived.Test.YtdagfocpbnamfaaKgx4
import Derived.Test.YtdagfocpbnamfaaKgx5
import Derived.Test.YtdagfocpbnamfaaKgx6
import Derived.Test.YtdagfocpbnamfaaRows
import Derived.WalkKit
import Derived.LoopTactic
import Derived.Laws.Bits64b
import Derived.WalkSpells
import Derived.WalkLawsBesides
import Derived.StillTactics
import Derived.Laws.Pointers
import Derived.Deep.RegionHeld3
import Derived.Deep.QuietTactic
import Derived.BigQuiet
import Derived.Outline
import Derived.Lib.Hide
import Derived.RowKit3
import Derived.Carry
import Derived.IntWalk
import Derived.Lib.BitFns
import Derived.Lib.TrailingZeros
namespace Go.Proofs.Ytdagfocpbnamfaa
open Go Go.RowKit
set_option linter.unusedSimpArgs false
set_option linter.unusedVariables false

theorem l1Most_max (a b : Int) (w : World) : Calls Try.prog 136 #[.int .i64 a, .int .i64 b] w fun rv w' => rv = .returned (.int .i64 (max a b)) ∧ w = w' := by
  by_cases h : b < a
  all_goals
    go_enter Try.func136, Try.ntmps136
    go_wp2
    go_ret
    exact ⟨ret_int (by omega), rfl⟩

theorem l1Abs_nat (n : Int) (h1 : -9223372036854775808 < n) (h2 : n < 9223372036854775808) (w : World) : Calls Try.prog 125 #[.int .i64 n] w fun rv w' => rv = .returned (.int .i64 (n.natAbs : Int)) ∧ w = w' := by
  go_enter Try.func125, Try.ntmps125
  go_wp2_with (go_at_call 136; refine (l1Most_max _ _ _).mono ?_; rintro rv w1 ⟨rfl, rfl⟩)
  go_ret
  exact ⟨ret_int (by omega), rfl⟩

theorem rdSignOf_any (n : Int) (w : World) : Calls Try.prog 147 #[.int .i64 n] w fun rv w' => rv = .returned (.int .i64 (sgV n)) ∧ w = w' := by
  by_cases h1 : n < 0
  · have hk := sg_neg h1
    have Hk := Lib.hid hk; clear hk
    go_enter Try.func147, Try.ntmps147
    go_wp2
    go_ret
    exact ⟨ret_int Hk.out.symm, rfl⟩
  · by_cases h2 : 0 < n
    · have hk := sg_pos h2
      have Hk := Lib.hid hk; clear hk
      go_enter Try.func147, Try.ntmps147
      go_wp2
      go_ret
      exact ⟨ret_int Hk.out.symm, rfl⟩
    · have hk := sg_zero (show n = 0 by omega)
      have Hk := Lib.hid hk; clear hk
      go_enter Try.func147, Try.ntmps147
      go_wp2
      go_ret
      exact ⟨ret_int Hk.out.symm, rfl⟩

theorem sg_bd (n : Int) : -1 ≤ sgV n ∧ sgV n ≤ 1 := by unfold sgV; split <;> (try split) <;> omega
end Go.Proofs.Ytdagfocpbnamfaa

