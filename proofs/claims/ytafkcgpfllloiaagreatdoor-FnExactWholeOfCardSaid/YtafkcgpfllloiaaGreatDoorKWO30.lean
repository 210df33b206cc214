/-
  Contracts of the functions that the laws reach, and the plain facts that they rest on, each under the conditions that its line names; part 30.
-/
import Derived.Test.YtafkcgpfllloiaaGreatDoorKWO1
import Derived.Test.YtafkcgpfllloiaaGreatDoorKWO2
import Derived.Test.YtafkcgpfllloiaaGreatDoorKWO3
import Derived.Test.YtafkcgpfllloiaaGreatDoorKWO4
import Derived.Test.YtafkcgpfllloiaaGreatDoorKWO5
import Derived.Test.YtafkcgpfllloiaaGreatDoorKWO6
import Derived.Test.YtafkcgpfllloiaaGreatDoorKWO7
import Derived.Test.YtafkcgpfllloiaaGreatDoorKWO8
import Derived.Test.YtafkcgpfllloiaaGreatDoorKWO9
import Derived.Test.YtafkcgpfllloiaaGreatDoorKWO10
import Derived.Test.YtafkcgpfllloiaaGreatDoorKWO11
import Derived.Test.YtafkcgpfllloiaaGreatDoorKWO12
import Derived.Test.YtafkcgpfllloiaaGreatDoorKWO13
import Derived.Test.YtafkcgpfllloiaaGreatDoorKWO14
import Derived.Test.YtafkcgpfllloiaaGreatDoorKWO15
import Derived.Test.YtafkcgpfllloiaaGreatDoorKWO16
import Derived.Test.YtafkcgpfllloiaaGreatDoorKWO17
import Derived.Test.YtafkcgpfllloiaaGreatDoorKWO18
import Derived.Test.YtafkcgpfllloiaaGreatDoorKWO19
import Derived.Test.YtafkcgpfllloiaaGreatDoorKWO20
import Derived.Test.YtafkcgpfllloiaaGreatDoorKWO21
import Derived.Test.YtafkcgpfllloiaaGreatDoorKWO22
import Derived.Test.YtafkcgpfllloiaaGreatDoorKWO23
import Derived.Test.YtafkcgpfllloiaaGreatDoorKWO24
import Derived.Test.YtafkcgpfllloiaaGreatDoorKWO25
import Derived.Test.YtafkcgpfllloiaaGreatDoorKWO26
import Derived.Test.YtafkcgpfllloiaaGreatDoorRows
import Derived.WalkKit
import Derived.Handy
import Derived.LoopTactic
import Derived.Laws.Bits64b
import Derived.WalkSpells
import Derived.WalkLawsBesides
import Derived.StillTactics
import Derived.Laws.Pointers
import Derived.Deep.RegionHeld3
import Derived.Deep.QuietTactic
import Derived.BigQuiet
import Derived.Outline
import Derived.Lib.Hide
import Derived.RowKit3
import Derived.Carry
import Derived.IntWalk
namespace Go.Proofs.YtafkcgpfllloiaaGreatDoor
open Go Go.RowKit
set_option linter.unusedSimpArgs false
set_option linter.unusedVariables false

theorem ta_finite_finite (m n x : Int) (w : World) : (Instr.typeAssert (.iface 59 (.agg #[.int .i64 m, .int .i64 n, .int .i64 x])) 41 59 true).run Tryz.prog w = .ok (.tuple #[.agg #[.int .i64 m, .int .i64 n, .int .i64 x], .bool true]) w := by kernel_rfl

theorem ta_finite_infinite (m n x : Int) (w : World) : (Instr.typeAssert (.iface 59 (.agg #[.int .i64 m, .int .i64 n, .int .i64 x])) 41 72 true).run Tryz.prog w = .ok (.tuple #[.agg #[.int .i64 0], .bool false]) w := by kernel_rfl

theorem ta_finite_noNumber (m n x : Int) (w : World) : (Instr.typeAssert (.iface 59 (.agg #[.int .i64 m, .int .i64 n, .int .i64 x])) 41 75 true).run Tryz.prog w = .ok (.tuple #[.agg #[], .bool false]) w := by kernel_rfl

theorem ta_infinite_finite (m : Int) (w : World) : (Instr.typeAssert (.iface 72 (.agg #[.int .i64 m])) 41 59 true).run Tryz.prog w = .ok (.tuple #[.agg #[.int .i64 0, .int .i64 0, .int .i64 0], .bool false]) w := by kernel_rfl

theorem ta_infinite_infinite (m : Int) (w : World) : (Instr.typeAssert (.iface 72 (.agg #[.int .i64 m])) 41 72 true).run Tryz.prog w = .ok (.tuple #[.agg #[.int .i64 m], .bool true]) w := by kernel_rfl

theorem ta_infinite_noNumber (m : Int) (w : World) : (Instr.typeAssert (.iface 72 (.agg #[.int .i64 m])) 41 75 true).run Tryz.prog w = .ok (.tuple #[.agg #[], .bool false]) w := by kernel_rfl

theorem ta_noNumber_finite  (w : World) : (Instr.typeAssert (.iface 75 (.agg #[])) 41 59 true).run Tryz.prog w = .ok (.tuple #[.agg #[.int .i64 0, .int .i64 0, .int .i64 0], .bool false]) w := by kernel_rfl

theorem ta_noNumber_infinite  (w : World) : (Instr.typeAssert (.iface 75 (.agg #[])) 41 72 true).run Tryz.prog w = .ok (.tuple #[.agg #[.int .i64 0], .bool false]) w := by kernel_rfl

theorem ta_noNumber_noNumber  (w : World) : (Instr.typeAssert (.iface 75 (.agg #[])) 41 75 true).run Tryz.prog w = .ok (.tuple #[.agg #[], .bool true]) w := by kernel_rfl

attribute [local go_sem] ta_finite_finite ta_finite_infinite ta_finite_noNumber ta_infinite_finite ta_infinite_infinite ta_infinite_noNumber ta_noNumber_finite ta_noNumber_infinite ta_noNumber_noNumber

set_option maxRecDepth 100000
end Go.Proofs.YtafkcgpfllloiaaGreatDoor

