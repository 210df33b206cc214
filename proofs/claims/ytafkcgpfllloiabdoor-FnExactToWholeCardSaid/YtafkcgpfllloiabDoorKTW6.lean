/-
  Contracts of the functions that the laws reach, and the plain facts that they rest on, each under the conditions that its line names; part 6.
-/
import Derived.Test.YtafkcgpfllloiabDoorKTW1
import Derived.Test.YtafkcgpfllloiabDoorKTW2
import Derived.Test.YtafkcgpfllloiabDoorKTW3
import Derived.Test.YtafkcgpfllloiabDoorKTW4
import Derived.Test.YtafkcgpfllloiabDoorKTW5
import Derived.Test.YtafkcgpfllloiabDoorRows
import Derived.WalkKit
import Derived.LoopTactic
import Derived.Laws.Bits64b
import Derived.WalkSpells
import Derived.WalkLawsBesides
import Derived.StillTactics
import Derived.Laws.Pointers
import Derived.Deep.RegionHeld3
import Derived.Deep.QuietTactic
import Derived.BigQuiet
import Derived.Outline
import Derived.Lib.Hide
import Derived.RowKit3
import Derived.Carry
import Derived.IntWalk
import Derived.Shelf.Small.Bits
import Derived.Shelf.Strconv.Itoa0
import Derived.Test.YtafkcgpfllloiabDoorProg
namespace Go.Proofs.YtafkcgpfllloiabDoor
open Go Go.RowKit
set_option linter.unusedSimpArgs false
set_option linter.unusedVariables false

theorem l1Most_max (a b : Int) (w : World) : Calls Tryd.prog 48 #[.int .i64 a, .int .i64 b] w fun rv w' => rv = .returned (.int .i64 (max a b)) ∧ w = w' := by
  by_cases h : b < a
  all_goals
    go_enter Tryd.func48, Tryd.ntmps48
    go_wp2
    go_ret
    exact ⟨ret_int (by omega), rfl⟩

theorem l1Abs_nat (n : Int) (h1 : -9223372036854775808 < n) (h2 : n < 9223372036854775808) (w : World) : Calls Tryd.prog 27 #[.int .i64 n] w fun rv w' => rv = .returned (.int .i64 (n.natAbs : Int)) ∧ w = w' := by
  go_enter Tryd.func27, Tryd.ntmps27
  go_wp2_with (go_at_call 48; refine (l1Most_max _ _ _).mono ?_; rintro rv w1 ⟨rfl, rfl⟩)
  go_ret
  exact ⟨ret_int (by omega), rfl⟩

theorem rdPower_any (k : Int) (h1 : 0 ≤ k) (h2 : k ≤ 62) (w : World) : Calls Tryd.prog 54 #[.int .i64 k] w fun rv w' => rv = .returned (.int .i64 (pw k)) ∧ w = w' := by
  have k1 := pw_of k
  have k2 := pw_pos k
  have k3 := pw_le 62 4611686018427387904 rfl h2
  go_enter Tryd.func54, Tryd.ntmps54
  go_wp2
  go_ret
  exact ⟨rfl, rfl⟩
end Go.Proofs.YtafkcgpfllloiabDoor

