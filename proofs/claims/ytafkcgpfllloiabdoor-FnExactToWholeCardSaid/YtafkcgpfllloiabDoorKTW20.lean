/-
  Contracts of the functions that the laws reach, and the plain facts that they rest on, each under the conditions that its line names; part 20.
-/
import Derived.Test.YtafkcgpfllloiabDoorKTW1
import Derived.Test.YtafkcgpfllloiabDoorKTW2
import Derived.Test.YtafkcgpfllloiabDoorKTW3
import Derived.Test.YtafkcgpfllloiabDoorKTW4
import Derived.Test.YtafkcgpfllloiabDoorKTW5
import Derived.Test.YtafkcgpfllloiabDoorKTW6
import Derived.Test.YtafkcgpfllloiabDoorKTW7
import Derived.Test.YtafkcgpfllloiabDoorKTW8
import Derived.Test.YtafkcgpfllloiabDoorKTW9
import Derived.Test.YtafkcgpfllloiabDoorKTW10
import Derived.Test.YtafkcgpfllloiabDoorKTW11
import Derived.Test.YtafkcgpfllloiabDoorKTW12
import Derived.Test.YtafkcgpfllloiabDoorKTW13
import Derived.Test.YtafkcgpfllloiabDoorKTW14
import Derived.Test.YtafkcgpfllloiabDoorKTW15
import Derived.Test.YtafkcgpfllloiabDoorKTW16
import Derived.Test.YtafkcgpfllloiabDoorKTW17
import Derived.Test.YtafkcgpfllloiabDoorKTW18
import Derived.Test.YtafkcgpfllloiabDoorKTW19
import Derived.Test.YtafkcgpfllloiabDoorRows
import Derived.WalkKit
import Derived.LoopTactic
import Derived.Laws.Bits64b
import Derived.WalkSpells
import Derived.WalkLawsBesides
import Derived.StillTactics
import Derived.Laws.Pointers
import Derived.Deep.RegionHeld3
import Derived.Deep.QuietTactic
import Derived.BigQuiet
import Derived.Outline
import Derived.Lib.Hide
import Derived.RowKit3
import Derived.Carry
import Derived.IntWalk
import Derived.Shelf.Small.Bits
import Derived.Shelf.Strconv.Itoa0
import Derived.Test.YtafkcgpfllloiabDoorProg
import Derived.Deep.DeepCutAuto
import Derived.Deep.CutBlock
namespace Go.Proofs.YtafkcgpfllloiabDoor
open Go Go.RowKit
set_option linter.unusedSimpArgs false
set_option linter.unusedVariables false

theorem isMode_any (m : Int) (w : World) : Calls Tryd.prog 35 #[.int .i64 m] w fun rv w' => rv = .returned (.bool (moB m)) ∧ w = w' := by
  by_cases h1 : 0 ≤ m <;> by_cases h2 : m ≤ 5
  all_goals
    have hk : moB m = decide (0 ≤ m ∧ m ≤ 5) := rfl
    have Hk := Lib.hid hk; clear hk
    go_enter Tryd.func35, Tryd.ntmps35
    go_wp2
    go_ret
    exact ⟨ret_bool (by rw [Hk.out]; first | (simp [h1, h2]; done) | (simp; omega)), rfl⟩
end Go.Proofs.YtafkcgpfllloiabDoor

