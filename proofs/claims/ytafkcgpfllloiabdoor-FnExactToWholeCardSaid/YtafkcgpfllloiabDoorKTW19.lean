/-
  Contracts of the functions that the laws reach, and the plain facts that they rest on, each under the conditions that its line names; part 19.
-/
import Derived.Test.YtafkcgpfllloiabDoorKTW1
import Derived.Test.YtafkcgpfllloiabDoorKTW2
import Derived.Test.YtafkcgpfllloiabDoorKTW3
import Derived.Test.YtafkcgpfllloiabDoorKTW4
import Derived.Test.YtafkcgpfllloiabDoorKTW5
import Derived.Test.YtafkcgpfllloiabDoorKTW6
import Derived.Test.YtafkcgpfllloiabDoorKTW13
import Derived.Test.YtafkcgpfllloiabDoorRows
import Derived.WalkKit
import Derived.LoopTactic
import Derived.Laws.Bits64b
import Derived.WalkSpells
import Derived.WalkLawsBesides
import Derived.StillTactics
import Derived.Laws.Pointers
import Derived.Deep.RegionHeld3
import Derived.Deep.QuietTactic
import Derived.BigQuiet
import Derived.Outline
import Derived.Lib.Hide
import Derived.RowKit3
import Derived.Carry
import Derived.IntWalk
import Derived.Deep.DeepCutAuto
import Derived.Deep.CutBlock
import Derived.Shelf.Small.Bits
import Derived.Shelf.Strconv.Itoa0
import Derived.Test.YtafkcgpfllloiabDoorProg
namespace Go.Proofs.YtafkcgpfllloiabDoor
open Go Go.RowKit
set_option linter.unusedSimpArgs false
set_option linter.unusedVariables false

/-- One of the modes. -/
def moB (m : Int) : Bool := decide (0 ≤ m ∧ m ≤ 5)

theorem mo_iff {m : Int} : moB m = true ↔ 0 ≤ m ∧ m ≤ 5 := by unfold moB; simp

theorem rdMode_any (m : Int) (w : World) : Calls Tryd.prog 32 #[.int .i64 m] w fun rv w' => rv = .returned (.bool (moB m)) ∧ w = w' := by
  cases hm : moB m
  all_goals
    have hk := hm
    unfold moB at hk
    go_enter Tryd.func32, Tryd.ntmps32
    go_wp2_with (go_at_call 37; refine (l1In_any _ _ _ _).mono ?_; rintro rv w1 ⟨rfl, rfl⟩)
    go_ret
    exact ⟨rfl, rfl⟩
end Go.Proofs.YtafkcgpfllloiabDoor

