/-
  Contracts of the functions that the laws reach, and the plain facts that they rest on, each under the conditions that its line names; part 32.
-/
import Derived.Test.YtcbkhlaiefiieacDoorKyc1
import Derived.Test.YtcbkhlaiefiieacDoorKyc2
import Derived.Test.YtcbkhlaiefiieacDoorKyc3
import Derived.Test.YtcbkhlaiefiieacDoorKyc4
import Derived.Test.YtcbkhlaiefiieacDoorKyc5
import Derived.Test.YtcbkhlaiefiieacDoorKyc6
import Derived.Test.YtcbkhlaiefiieacDoorKyc7
import Derived.Test.YtcbkhlaiefiieacDoorKyc8
import Derived.Test.YtcbkhlaiefiieacDoorKyc9
import Derived.Test.YtcbkhlaiefiieacDoorKyc10
import Derived.Test.YtcbkhlaiefiieacDoorKyc11
import Derived.Test.YtcbkhlaiefiieacDoorKyc12
import Derived.Test.YtcbkhlaiefiieacDoorKyc13
import Derived.Test.YtcbkhlaiefiieacDoorKyc14
import Derived.Test.YtcbkhlaiefiieacDoorKyc15
import Derived.Test.YtcbkhlaiefiieacDoorKyc16
import Derived.Test.YtcbkhlaiefiieacDoorKyc17
import Derived.Test.YtcbkhlaiefiieacDoorKyc18
import Derived.Test.YtcbkhlaiefiieacDoorKyc19
import Derived.Test.YtcbkhlaiefiieacDoorKyc20
import Derived.Test.YtcbkhlaiefiieacDoorKyc21
import Derived.Test.YtcbkhlaiefiieacDoorKyc22
import Derived.Test.YtcbkhlaiefiieacDoorKyc23
import Derived.Test.YtcbkhlaiefiieacDoorKyc24
import Derived.Test.YtcbkhlaiefiieacDoorKyc25
import Derived.Test.YtcbkhlaiefiieacDoorKyc26
import Derived.Test.YtcbkhlaiefiieacDoorRows
import Derived.WalkKit
import Derived.Handy
import Derived.LoopTactic
import Derived.Laws.Bits64b
import Derived.WalkSpells
import Derived.WalkLawsBesides
import Derived.StillTactics
import Derived.Laws.Pointers
import Derived.Deep.RegionHeld3
import Derived.Deep.QuietTactic
import Derived.BigQuiet
import Derived.Outline
import Derived.Lib.Hide
import Derived.RowKit3
import Derived.Carry
import Derived.IntWalk
namespace Go.Proofs.YtcbkhlaiefiieacDoor
open Go Go.RowKit
set_option linter.unusedSimpArgs false
set_option linter.unusedVariables false

theorem ta_finite_finite (m n x : Int) (w : World) : (Instr.typeAssert (.iface 66 (.agg #[.int .i64 m, .int .i64 n, .int .i64 x])) 61 66 true).run Tryd.prog w = .ok (.tuple #[.agg #[.int .i64 m, .int .i64 n, .int .i64 x], .bool true]) w := by kernel_rfl

theorem ta_finite_infinite (m n x : Int) (w : World) : (Instr.typeAssert (.iface 66 (.agg #[.int .i64 m, .int .i64 n, .int .i64 x])) 61 108 true).run Tryd.prog w = .ok (.tuple #[.agg #[.int .i64 0], .bool false]) w := by kernel_rfl

theorem ta_finite_noNumber (m n x : Int) (w : World) : (Instr.typeAssert (.iface 66 (.agg #[.int .i64 m, .int .i64 n, .int .i64 x])) 61 111 true).run Tryd.prog w = .ok (.tuple #[.agg #[], .bool false]) w := by kernel_rfl

theorem ta_infinite_finite (m : Int) (w : World) : (Instr.typeAssert (.iface 108 (.agg #[.int .i64 m])) 61 66 true).run Tryd.prog w = .ok (.tuple #[.agg #[.int .i64 0, .int .i64 0, .int .i64 0], .bool false]) w := by kernel_rfl

theorem ta_infinite_infinite (m : Int) (w : World) : (Instr.typeAssert (.iface 108 (.agg #[.int .i64 m])) 61 108 true).run Tryd.prog w = .ok (.tuple #[.agg #[.int .i64 m], .bool true]) w := by kernel_rfl

theorem ta_infinite_noNumber (m : Int) (w : World) : (Instr.typeAssert (.iface 108 (.agg #[.int .i64 m])) 61 111 true).run Tryd.prog w = .ok (.tuple #[.agg #[], .bool false]) w := by kernel_rfl

theorem ta_noNumber_finite  (w : World) : (Instr.typeAssert (.iface 111 (.agg #[])) 61 66 true).run Tryd.prog w = .ok (.tuple #[.agg #[.int .i64 0, .int .i64 0, .int .i64 0], .bool false]) w := by kernel_rfl

theorem ta_noNumber_infinite  (w : World) : (Instr.typeAssert (.iface 111 (.agg #[])) 61 108 true).run Tryd.prog w = .ok (.tuple #[.agg #[.int .i64 0], .bool false]) w := by kernel_rfl

theorem ta_noNumber_noNumber  (w : World) : (Instr.typeAssert (.iface 111 (.agg #[])) 61 111 true).run Tryd.prog w = .ok (.tuple #[.agg #[], .bool true]) w := by kernel_rfl

attribute [local go_sem] ta_finite_finite ta_finite_infinite ta_finite_noNumber ta_infinite_finite ta_infinite_infinite ta_infinite_noNumber ta_noNumber_finite ta_noNumber_infinite ta_noNumber_noNumber

set_option maxRecDepth 100000
end Go.Proofs.YtcbkhlaiefiieacDoor

