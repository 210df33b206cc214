/-
  Contracts of the functions that the laws reach, and the plain facts that they rest on, each under the conditions that its line names; part 22.
-/
import Derived.Test.YtafkcgpfllloiabDoorKSN1
import Derived.Test.YtafkcgpfllloiabDoorKSN2
import Derived.Test.YtafkcgpfllloiabDoorKSN3
import Derived.Test.YtafkcgpfllloiabDoorKSN4
import Derived.Test.YtafkcgpfllloiabDoorKSN5
import Derived.Test.YtafkcgpfllloiabDoorKSN6
import Derived.Test.YtafkcgpfllloiabDoorKSN7
import Derived.Test.YtafkcgpfllloiabDoorKSN8
import Derived.Test.YtafkcgpfllloiabDoorKSN9
import Derived.Test.YtafkcgpfllloiabDoorKSN10
import Derived.Test.YtafkcgpfllloiabDoorKSN11
import Derived.Test.YtafkcgpfllloiabDoorKSN12
import Derived.Test.YtafkcgpfllloiabDoorKSN13
import Derived.Test.YtafkcgpfllloiabDoorKSN14
import Derived.Test.YtafkcgpfllloiabDoorKSN15
import Derived.Test.YtafkcgpfllloiabDoorKSN16
import Derived.Test.YtafkcgpfllloiabDoorKSN17
import Derived.Test.YtafkcgpfllloiabDoorKSN18
import Derived.Test.YtafkcgpfllloiabDoorRows
import Derived.WalkKit
import Derived.Handy
import Derived.LoopTactic
import Derived.Laws.Bits64b
import Derived.WalkSpells
import Derived.WalkLawsBesides
import Derived.StillTactics
import Derived.Laws.Pointers
import Derived.Deep.RegionHeld3
import Derived.Deep.QuietTactic
import Derived.BigQuiet
import Derived.Outline
import Derived.Lib.Hide
import Derived.RowKit3
import Derived.Carry
import Derived.IntWalk
import Derived.Shelf.Small.Bits
import Derived.Shelf.Strconv.Itoa0
import Derived.Test.YtafkcgpfllloiabDoorProg
import Derived.Deep.DeepCutAuto
import Derived.Deep.CutBlock
import Derived.ScopeJumps
import Derived.WalkMore
namespace Go.Proofs.YtafkcgpfllloiabDoor
open Go Go.RowKit
set_option linter.unusedSimpArgs false
set_option linter.unusedVariables false

theorem ta_finite_finite (m n x : Int) (w : World) : (Instr.typeAssert (.iface 52 (.agg #[.int .i64 m, .int .i64 n, .int .i64 x])) 47 52 true).run Tryd.prog w = .ok (.tuple #[.agg #[.int .i64 m, .int .i64 n, .int .i64 x], .bool true]) w := by kernel_rfl

theorem ta_finite_infinite (m n x : Int) (w : World) : (Instr.typeAssert (.iface 52 (.agg #[.int .i64 m, .int .i64 n, .int .i64 x])) 47 70 true).run Tryd.prog w = .ok (.tuple #[.agg #[.int .i64 0], .bool false]) w := by kernel_rfl

theorem ta_finite_noNumber (m n x : Int) (w : World) : (Instr.typeAssert (.iface 52 (.agg #[.int .i64 m, .int .i64 n, .int .i64 x])) 47 78 true).run Tryd.prog w = .ok (.tuple #[.agg #[], .bool false]) w := by kernel_rfl

theorem ta_infinite_finite (m : Int) (w : World) : (Instr.typeAssert (.iface 70 (.agg #[.int .i64 m])) 47 52 true).run Tryd.prog w = .ok (.tuple #[.agg #[.int .i64 0, .int .i64 0, .int .i64 0], .bool false]) w := by kernel_rfl

theorem ta_infinite_infinite (m : Int) (w : World) : (Instr.typeAssert (.iface 70 (.agg #[.int .i64 m])) 47 70 true).run Tryd.prog w = .ok (.tuple #[.agg #[.int .i64 m], .bool true]) w := by kernel_rfl

theorem ta_infinite_noNumber (m : Int) (w : World) : (Instr.typeAssert (.iface 70 (.agg #[.int .i64 m])) 47 78 true).run Tryd.prog w = .ok (.tuple #[.agg #[], .bool false]) w := by kernel_rfl

theorem ta_noNumber_finite  (w : World) : (Instr.typeAssert (.iface 78 (.agg #[])) 47 52 true).run Tryd.prog w = .ok (.tuple #[.agg #[.int .i64 0, .int .i64 0, .int .i64 0], .bool false]) w := by kernel_rfl

theorem ta_noNumber_infinite  (w : World) : (Instr.typeAssert (.iface 78 (.agg #[])) 47 70 true).run Tryd.prog w = .ok (.tuple #[.agg #[.int .i64 0], .bool false]) w := by kernel_rfl

theorem ta_noNumber_noNumber  (w : World) : (Instr.typeAssert (.iface 78 (.agg #[])) 47 78 true).run Tryd.prog w = .ok (.tuple #[.agg #[], .bool true]) w := by kernel_rfl

attribute [local go_sem] ta_finite_finite ta_finite_infinite ta_finite_noNumber ta_infinite_finite ta_infinite_infinite ta_infinite_noNumber ta_noNumber_finite ta_noNumber_infinite ta_noNumber_noNumber

set_option maxRecDepth 100000
end Go.Proofs.YtafkcgpfllloiabDoor

