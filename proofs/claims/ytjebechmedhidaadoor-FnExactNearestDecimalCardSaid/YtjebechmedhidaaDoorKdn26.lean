/-
  Contracts of the functions that the laws reach, and the plain facts that they rest on, each under the conditions that its line names; part 26.
-/
import Derived.Test.YtjebechmedhidaaDoorKdn1
import Derived.Test.YtjebechmedhidaaDoorKdn2
import Derived.Test.YtjebechmedhidaaDoorKdn3
import Derived.Test.YtjebechmedhidaaDoorKdn4
import Derived.Test.YtjebechmedhidaaDoorKdn5
import Derived.Test.YtjebechmedhidaaDoorKdn6
import Derived.Test.YtjebechmedhidaaDoorKdn7
import Derived.Test.YtjebechmedhidaaDoorKdn8
import Derived.Test.YtjebechmedhidaaDoorKdn9
import Derived.Test.YtjebechmedhidaaDoorKdn10
import Derived.Test.YtjebechmedhidaaDoorKdn11
import Derived.Test.YtjebechmedhidaaDoorKdn12
import Derived.Test.YtjebechmedhidaaDoorKdn13
import Derived.Test.YtjebechmedhidaaDoorKdn14
import Derived.Test.YtjebechmedhidaaDoorKdn15
import Derived.Test.YtjebechmedhidaaDoorKdn16
import Derived.Test.YtjebechmedhidaaDoorKdn17
import Derived.Test.YtjebechmedhidaaDoorKdn18
import Derived.Test.YtjebechmedhidaaDoorKdn19
import Derived.Test.YtjebechmedhidaaDoorKdn20
import Derived.Test.YtjebechmedhidaaDoorKdn21
import Derived.Test.YtjebechmedhidaaDoorKdn22
import Derived.Test.YtjebechmedhidaaDoorKdn23
import Derived.Test.YtjebechmedhidaaDoorRows
import Derived.WalkKit
import Derived.Handy
import Derived.LoopTactic
import Derived.Laws.Bits64b
import Derived.WalkSpells
import Derived.WalkLawsBesides
import Derived.StillTactics
import Derived.Laws.Pointers
import Derived.Deep.RegionHeld3
import Derived.Deep.QuietTactic
import Derived.BigQuiet
import Derived.Outline
import Derived.Lib.Hide
import Derived.RowKit3
import Derived.Carry
import Derived.IntWalk
import Derived.Shelf.Small.Bits
import Derived.Shelf.Small.Wraps
import Derived.Shelf.Strconv.Itoa0
import Derived.Ground.Names2Prog
import Derived.Shelf.Slices.SearchI
import Derived.Test.YtjebechmedhidaaDoorProg
namespace Go.Proofs.YtjebechmedhidaaDoor
open Go Go.RowKit
set_option linter.unusedSimpArgs false
set_option linter.unusedVariables false

theorem ta_finite_finite (m n x : Int) (w : World) : (Instr.typeAssert (.iface 60 (.agg #[.int .i64 m, .int .i64 n, .int .i64 x])) 91 60 true).run Tryd.prog w = .ok (.tuple #[.agg #[.int .i64 m, .int .i64 n, .int .i64 x], .bool true]) w := by kernel_rfl

theorem ta_finite_infinite (m n x : Int) (w : World) : (Instr.typeAssert (.iface 60 (.agg #[.int .i64 m, .int .i64 n, .int .i64 x])) 91 106 true).run Tryd.prog w = .ok (.tuple #[.agg #[.int .i64 0], .bool false]) w := by kernel_rfl

theorem ta_finite_noNumber (m n x : Int) (w : World) : (Instr.typeAssert (.iface 60 (.agg #[.int .i64 m, .int .i64 n, .int .i64 x])) 91 108 true).run Tryd.prog w = .ok (.tuple #[.agg #[], .bool false]) w := by kernel_rfl

theorem ta_infinite_finite (m : Int) (w : World) : (Instr.typeAssert (.iface 106 (.agg #[.int .i64 m])) 91 60 true).run Tryd.prog w = .ok (.tuple #[.agg #[.int .i64 0, .int .i64 0, .int .i64 0], .bool false]) w := by kernel_rfl

theorem ta_infinite_infinite (m : Int) (w : World) : (Instr.typeAssert (.iface 106 (.agg #[.int .i64 m])) 91 106 true).run Tryd.prog w = .ok (.tuple #[.agg #[.int .i64 m], .bool true]) w := by kernel_rfl

theorem ta_infinite_noNumber (m : Int) (w : World) : (Instr.typeAssert (.iface 106 (.agg #[.int .i64 m])) 91 108 true).run Tryd.prog w = .ok (.tuple #[.agg #[], .bool false]) w := by kernel_rfl

theorem ta_noNumber_finite  (w : World) : (Instr.typeAssert (.iface 108 (.agg #[])) 91 60 true).run Tryd.prog w = .ok (.tuple #[.agg #[.int .i64 0, .int .i64 0, .int .i64 0], .bool false]) w := by kernel_rfl

theorem ta_noNumber_infinite  (w : World) : (Instr.typeAssert (.iface 108 (.agg #[])) 91 106 true).run Tryd.prog w = .ok (.tuple #[.agg #[.int .i64 0], .bool false]) w := by kernel_rfl

theorem ta_noNumber_noNumber  (w : World) : (Instr.typeAssert (.iface 108 (.agg #[])) 91 108 true).run Tryd.prog w = .ok (.tuple #[.agg #[], .bool true]) w := by kernel_rfl

attribute [local go_sem] ta_finite_finite ta_finite_infinite ta_finite_noNumber ta_infinite_finite ta_infinite_infinite ta_infinite_noNumber ta_noNumber_finite ta_noNumber_infinite ta_noNumber_noNumber

set_option maxRecDepth 100000

theorem finZero_t (m n x : Int) (h : n = 0) (w : World) : Calls Tryd.prog 51 #[.agg #[.int .i64 m, .int .i64 n, .int .i64 x]] w fun rv w' => rv = .returned (.bool true) ∧ Ext w w' := by
  have := finZero_any m n x w
  rwa [show (n == 0) = true from by simp [h]] at this

theorem finZero_f (m n x : Int) (h : ¬ n = 0) (w : World) : Calls Tryd.prog 51 #[.agg #[.int .i64 m, .int .i64 n, .int .i64 x]] w fun rv w' => rv = .returned (.bool false) ∧ Ext w w' := by
  have := finZero_any m n x w
  rwa [show (n == 0) = false from by simp [h]] at this
end Go.Proofs.YtjebechmedhidaaDoor

