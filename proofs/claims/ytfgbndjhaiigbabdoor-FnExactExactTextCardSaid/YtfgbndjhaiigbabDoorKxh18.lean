/-
  Contracts of the functions that the laws reach, and the plain facts that they rest on, each under the conditions that its line names; part 18.
-/
import Derived.Test.YtfgbndjhaiigbabDoorKxh1
import Derived.Test.YtfgbndjhaiigbabDoorKxh2
import Derived.Test.YtfgbndjhaiigbabDoorKxh3
import Derived.Test.YtfgbndjhaiigbabDoorKxh4
import Derived.Test.YtfgbndjhaiigbabDoorKxh5
import Derived.Test.YtfgbndjhaiigbabDoorKxh6
import Derived.Test.YtfgbndjhaiigbabDoorKxh7
import Derived.Test.YtfgbndjhaiigbabDoorKxh8
import Derived.Test.YtfgbndjhaiigbabDoorKxh9
import Derived.Test.YtfgbndjhaiigbabDoorKxh10
import Derived.Test.YtfgbndjhaiigbabDoorKxh11
import Derived.Test.YtfgbndjhaiigbabDoorKxh12
import Derived.Test.YtfgbndjhaiigbabDoorKxh13
import Derived.Test.YtfgbndjhaiigbabDoorKxh14
import Derived.Test.YtfgbndjhaiigbabDoorRows
import Derived.WalkKit
import Derived.Handy
import Derived.LoopTactic
import Derived.Laws.Bits64b
import Derived.WalkSpells
import Derived.WalkLawsBesides
import Derived.StillTactics
import Derived.Laws.Pointers
import Derived.Deep.RegionHeld3
import Derived.Deep.QuietTactic
import Derived.BigQuiet
import Derived.Outline
import Derived.Lib.Hide
import Derived.RowKit3
import Derived.Carry
import Derived.IntWalk
import Derived.Laws.BitsAllLaws
import Ieee.Arith
import Derived.Laws.FloatArith
import Derived.ScopeJumps
import Derived.WalkMore
namespace Go.Proofs.YtfgbndjhaiigbabDoor
open Go Go.RowKit
set_option linter.unusedSimpArgs false
set_option linter.unusedVariables false

theorem ta_finite_finite (m n x : Int) (w : World) : (Instr.typeAssert (.iface 74 (.agg #[.int .i64 m, .int .i64 n, .int .i64 x])) 108 74 true).run Tryd.prog w = .ok (.tuple #[.agg #[.int .i64 m, .int .i64 n, .int .i64 x], .bool true]) w := by kernel_rfl

theorem ta_finite_infinite (m n x : Int) (w : World) : (Instr.typeAssert (.iface 74 (.agg #[.int .i64 m, .int .i64 n, .int .i64 x])) 108 136 true).run Tryd.prog w = .ok (.tuple #[.agg #[.int .i64 0], .bool false]) w := by kernel_rfl

theorem ta_finite_noNumber (m n x : Int) (w : World) : (Instr.typeAssert (.iface 74 (.agg #[.int .i64 m, .int .i64 n, .int .i64 x])) 108 138 true).run Tryd.prog w = .ok (.tuple #[.agg #[], .bool false]) w := by kernel_rfl

theorem ta_infinite_finite (m : Int) (w : World) : (Instr.typeAssert (.iface 136 (.agg #[.int .i64 m])) 108 74 true).run Tryd.prog w = .ok (.tuple #[.agg #[.int .i64 0, .int .i64 0, .int .i64 0], .bool false]) w := by kernel_rfl

theorem ta_infinite_infinite (m : Int) (w : World) : (Instr.typeAssert (.iface 136 (.agg #[.int .i64 m])) 108 136 true).run Tryd.prog w = .ok (.tuple #[.agg #[.int .i64 m], .bool true]) w := by kernel_rfl

theorem ta_infinite_noNumber (m : Int) (w : World) : (Instr.typeAssert (.iface 136 (.agg #[.int .i64 m])) 108 138 true).run Tryd.prog w = .ok (.tuple #[.agg #[], .bool false]) w := by kernel_rfl

theorem ta_noNumber_finite  (w : World) : (Instr.typeAssert (.iface 138 (.agg #[])) 108 74 true).run Tryd.prog w = .ok (.tuple #[.agg #[.int .i64 0, .int .i64 0, .int .i64 0], .bool false]) w := by kernel_rfl

theorem ta_noNumber_infinite  (w : World) : (Instr.typeAssert (.iface 138 (.agg #[])) 108 136 true).run Tryd.prog w = .ok (.tuple #[.agg #[.int .i64 0], .bool false]) w := by kernel_rfl

theorem ta_noNumber_noNumber  (w : World) : (Instr.typeAssert (.iface 138 (.agg #[])) 108 138 true).run Tryd.prog w = .ok (.tuple #[.agg #[], .bool true]) w := by kernel_rfl

attribute [local go_sem] ta_finite_finite ta_finite_infinite ta_finite_noNumber ta_infinite_finite ta_infinite_infinite ta_infinite_noNumber ta_noNumber_finite ta_noNumber_infinite ta_noNumber_noNumber

set_option maxRecDepth 100000
end Go.Proofs.YtfgbndjhaiigbabDoor

