/-
  Contracts of the functions that the laws reach, and the plain facts that they rest on, each under the conditions that its line names; part 25.
-/
import Derived.Test.YtafkcgpfllloiabDoorKTW1
import Derived.Test.YtafkcgpfllloiabDoorKTW2
import Derived.Test.YtafkcgpfllloiabDoorKTW3
import Derived.Test.YtafkcgpfllloiabDoorKTW4
import Derived.Test.YtafkcgpfllloiabDoorKTW5
import Derived.Test.YtafkcgpfllloiabDoorKTW6
import Derived.Test.YtafkcgpfllloiabDoorKTW7
import Derived.Test.YtafkcgpfllloiabDoorKTW8
import Derived.Test.YtafkcgpfllloiabDoorKTW9
import Derived.Test.YtafkcgpfllloiabDoorKTW10
import Derived.Test.YtafkcgpfllloiabDoorKTW11
import Derived.Test.YtafkcgpfllloiabDoorKTW12
import Derived.Test.YtafkcgpfllloiabDoorKTW13
import Derived.Test.YtafkcgpfllloiabDoorKTW14
import Derived.Test.YtafkcgpfllloiabDoorKTW15
import Derived.Test.YtafkcgpfllloiabDoorKTW16
import Derived.Test.YtafkcgpfllloiabDoorKTW17
import Derived.Test.YtafkcgpfllloiabDoorKTW18
import Derived.Test.YtafkcgpfllloiabDoorKTW19
import Derived.Test.YtafkcgpfllloiabDoorKTW20
import Derived.Test.YtafkcgpfllloiabDoorKTW21
import Derived.Test.YtafkcgpfllloiabDoorKTW22
import Derived.Test.YtafkcgpfllloiabDoorKTW23
import Derived.Test.YtafkcgpfllloiabDoorKTW24
import Derived.Test.YtafkcgpfllloiabDoorRows
import Derived.WalkKit
import Derived.LoopTactic
import Derived.Laws.Bits64b
import Derived.WalkSpells
import Derived.WalkLawsBesides
import Derived.StillTactics
import Derived.Laws.Pointers
import Derived.Deep.RegionHeld3
import Derived.Deep.QuietTactic
import Derived.BigQuiet
import Derived.Outline
import Derived.Lib.Hide
import Derived.RowKit3
import Derived.Carry
import Derived.IntWalk
import Derived.Laws.EntriesVeiled
import Derived.LoopN
import Derived.Shelf.Small.Bits
import Derived.Shelf.Strconv.Itoa0
import Derived.Test.YtafkcgpfllloiabDoorProg
import Derived.Deep.DeepCutAuto
import Derived.Deep.CutBlock
namespace Go.Proofs.YtafkcgpfllloiabDoor
open Go Go.RowKit
set_option linter.unusedSimpArgs false
set_option linter.unusedVariables false
set_option maxRecDepth 100000

theorem sign_01 {e f p : Int} (h : patB e f p = true) : (p / pw (e + f)) = 0 ∨ (p / pw (e + f)) = 1 := by
  obtain ⟨hg, p0, p1⟩ := pat_iff.1 h
  have q := pw_pos (e + f)
  have a : 0 ≤ (p / pw (e + f)) := Int.ediv_nonneg p0 (by omega)
  have b : (p / pw (e + f)) < 2 := Int.ediv_lt_of_lt_mul (by omega) p1
  omega

theorem units_sign {e f p : Int} (hp : patB e f p = true) (h : (unitsV e f p) ≠ 0) : ((unitsV e f p) < 0 ↔ (p / pw (e + f)) = 1) := by
  have m := mag_bd e f p hp
  have sg := sign_01 hp
  unfold unitsV at h ⊢
  rcases sg with q | q <;> rw [q] at h ⊢ <;> simp at h ⊢ <;> omega
end Go.Proofs.YtafkcgpfllloiabDoor

