/-
  Contracts of the functions that the laws reach, and the plain facts that they rest on, each under the conditions that its line names; part 30.
-/
import Derived.Test.YtfgbndjhaiigbaaGreatDoorKrm1
import Derived.Test.YtfgbndjhaiigbaaGreatDoorKrm2
import Derived.Test.YtfgbndjhaiigbaaGreatDoorKrm3
import Derived.Test.YtfgbndjhaiigbaaGreatDoorKrm4
import Derived.Test.YtfgbndjhaiigbaaGreatDoorKrm5
import Derived.Test.YtfgbndjhaiigbaaGreatDoorKrm6
import Derived.Test.YtfgbndjhaiigbaaGreatDoorKrm7
import Derived.Test.YtfgbndjhaiigbaaGreatDoorKrm8
import Derived.Test.YtfgbndjhaiigbaaGreatDoorKrm9
import Derived.Test.YtfgbndjhaiigbaaGreatDoorKrm10
import Derived.Test.YtfgbndjhaiigbaaGreatDoorKrm11
import Derived.Test.YtfgbndjhaiigbaaGreatDoorKrm12
import Derived.Test.YtfgbndjhaiigbaaGreatDoorKrm13
import Derived.Test.YtfgbndjhaiigbaaGreatDoorKrm14
import Derived.Test.YtfgbndjhaiigbaaGreatDoorKrm15
import Derived.Test.YtfgbndjhaiigbaaGreatDoorKrm16
import Derived.Test.YtfgbndjhaiigbaaGreatDoorKrm17
import Derived.Test.YtfgbndjhaiigbaaGreatDoorKrm18
import Derived.Test.YtfgbndjhaiigbaaGreatDoorKrm19
import Derived.Test.YtfgbndjhaiigbaaGreatDoorKrm20
import Derived.Test.YtfgbndjhaiigbaaGreatDoorKrm21
import Derived.Test.YtfgbndjhaiigbaaGreatDoorKrm22
import Derived.Test.YtfgbndjhaiigbaaGreatDoorKrm23
import Derived.Test.YtfgbndjhaiigbaaGreatDoorKrm24
import Derived.Test.YtfgbndjhaiigbaaGreatDoorKrm25
import Derived.Test.YtfgbndjhaiigbaaGreatDoorKrm26
import Derived.Test.YtfgbndjhaiigbaaGreatDoorRows
import Derived.WalkKit
import Derived.Handy
import Derived.LoopTactic
import Derived.Laws.Bits64b
import Derived.WalkSpells
import Derived.WalkLawsBesides
import Derived.StillTactics
import Derived.Laws.Pointers
import Derived.Deep.RegionHeld3
import Derived.Deep.QuietTactic
import Derived.BigQuiet
import Derived.Outline
import Derived.Lib.Hide
import Derived.RowKit3
import Derived.Carry
import Derived.IntWalk
namespace Go.Proofs.YtfgbndjhaiigbaaGreatDoor
open Go Go.RowKit
set_option linter.unusedSimpArgs false
set_option linter.unusedVariables false

theorem ta_finite_finite (m n x : Int) (w : World) : (Instr.typeAssert (.iface 82 (.agg #[.int .i64 m, .int .i64 n, .int .i64 x])) 67 82 true).run Tryz.prog w = .ok (.tuple #[.agg #[.int .i64 m, .int .i64 n, .int .i64 x], .bool true]) w := by kernel_rfl

theorem ta_finite_infinite (m n x : Int) (w : World) : (Instr.typeAssert (.iface 82 (.agg #[.int .i64 m, .int .i64 n, .int .i64 x])) 67 104 true).run Tryz.prog w = .ok (.tuple #[.agg #[.int .i64 0], .bool false]) w := by kernel_rfl

theorem ta_finite_noNumber (m n x : Int) (w : World) : (Instr.typeAssert (.iface 82 (.agg #[.int .i64 m, .int .i64 n, .int .i64 x])) 67 107 true).run Tryz.prog w = .ok (.tuple #[.agg #[], .bool false]) w := by kernel_rfl

theorem ta_infinite_finite (m : Int) (w : World) : (Instr.typeAssert (.iface 104 (.agg #[.int .i64 m])) 67 82 true).run Tryz.prog w = .ok (.tuple #[.agg #[.int .i64 0, .int .i64 0, .int .i64 0], .bool false]) w := by kernel_rfl

theorem ta_infinite_infinite (m : Int) (w : World) : (Instr.typeAssert (.iface 104 (.agg #[.int .i64 m])) 67 104 true).run Tryz.prog w = .ok (.tuple #[.agg #[.int .i64 m], .bool true]) w := by kernel_rfl

theorem ta_infinite_noNumber (m : Int) (w : World) : (Instr.typeAssert (.iface 104 (.agg #[.int .i64 m])) 67 107 true).run Tryz.prog w = .ok (.tuple #[.agg #[], .bool false]) w := by kernel_rfl

theorem ta_noNumber_finite  (w : World) : (Instr.typeAssert (.iface 107 (.agg #[])) 67 82 true).run Tryz.prog w = .ok (.tuple #[.agg #[.int .i64 0, .int .i64 0, .int .i64 0], .bool false]) w := by kernel_rfl

theorem ta_noNumber_infinite  (w : World) : (Instr.typeAssert (.iface 107 (.agg #[])) 67 104 true).run Tryz.prog w = .ok (.tuple #[.agg #[.int .i64 0], .bool false]) w := by kernel_rfl

theorem ta_noNumber_noNumber  (w : World) : (Instr.typeAssert (.iface 107 (.agg #[])) 67 107 true).run Tryz.prog w = .ok (.tuple #[.agg #[], .bool true]) w := by kernel_rfl

attribute [local go_sem] ta_finite_finite ta_finite_infinite ta_finite_noNumber ta_infinite_finite ta_infinite_infinite ta_infinite_noNumber ta_noNumber_finite ta_noNumber_infinite ta_noNumber_noNumber

set_option maxRecDepth 100000

theorem finZero_t (m n x : Int) (h : n = 0) (w : World) : Calls Tryz.prog 152 #[.agg #[.int .i64 m, .int .i64 n, .int .i64 x]] w fun rv w' => rv = .returned (.bool true) ∧ Ext w w' := by
  have := finZero_any m n x w
  rwa [show (n == 0) = true from by simp [h]] at this

theorem finZero_f (m n x : Int) (h : ¬ n = 0) (w : World) : Calls Tryz.prog 152 #[.agg #[.int .i64 m, .int .i64 n, .int .i64 x]] w fun rv w' => rv = .returned (.bool false) ∧ Ext w w' := by
  have := finZero_any m n x w
  rwa [show (n == 0) = false from by simp [h]] at this
end Go.Proofs.YtfgbndjhaiigbaaGreatDoor

namespace Go.Proofs.YtfgbndjhaiigbaaGreatDoor
open Go Go.RowKit
set_option linter.unusedSimpArgs false
set_option linter.unusedVariables false

attribute [local go_sem] ta_finite_finite ta_finite_infinite ta_finite_noNumber ta_infinite_finite ta_infinite_infinite ta_infinite_noNumber ta_noNumber_finite ta_noNumber_infinite ta_noNumber_noNumber

set_option maxRecDepth 100000

theorem rest_fi (m1 n1 x1 m2 : Int)  (w : World) :
    Calls Tryz.prog 88 #[.iface 82 (.agg #[.int .i64 m1, .int .i64 n1, .int .i64 x1]), .iface 104 (.agg #[.int .i64 m2])] w fun rv w' => rv = .returned (.iface 82 (.agg #[.int .i64 m1, .int .i64 n1, .int .i64 x1])) ∧ Ext w w' := by
  go_enter Tryz.func88, Tryz.ntmps88
  go_wp2
  go_ret
  exact ⟨rfl, Ext.auK⟩

theorem rest_fn (m1 n1 x1 : Int)  (w : World) :
    Calls Tryz.prog 88 #[.iface 82 (.agg #[.int .i64 m1, .int .i64 n1, .int .i64 x1]), .iface 107 (.agg #[])] w fun rv w' => rv = .returned (.iface 107 (.agg #[])) ∧ Ext w w' := by
  go_enter Tryz.func88, Tryz.ntmps88
  go_wp2
  go_ret
  exact ⟨rfl, Ext.auK⟩

theorem rest_if (m1 m2 n2 x2 : Int)  (w : World) :
    Calls Tryz.prog 88 #[.iface 104 (.agg #[.int .i64 m1]), .iface 82 (.agg #[.int .i64 m2, .int .i64 n2, .int .i64 x2])] w fun rv w' => rv = .returned (.iface 107 (.agg #[])) ∧ Ext w w' := by
  go_enter Tryz.func88, Tryz.ntmps88
  go_wp2
  go_ret
  exact ⟨rfl, Ext.auK⟩

theorem rest_ii (m1 m2 : Int)  (w : World) :
    Calls Tryz.prog 88 #[.iface 104 (.agg #[.int .i64 m1]), .iface 104 (.agg #[.int .i64 m2])] w fun rv w' => rv = .returned (.iface 107 (.agg #[])) ∧ Ext w w' := by
  go_enter Tryz.func88, Tryz.ntmps88
  go_wp2
  go_ret
  exact ⟨rfl, Ext.auK⟩

theorem rest_in (m1 : Int)  (w : World) :
    Calls Tryz.prog 88 #[.iface 104 (.agg #[.int .i64 m1]), .iface 107 (.agg #[])] w fun rv w' => rv = .returned (.iface 107 (.agg #[])) ∧ Ext w w' := by
  go_enter Tryz.func88, Tryz.ntmps88
  go_wp2
  go_ret
  exact ⟨rfl, Ext.auK⟩

theorem rest_nf (m2 n2 x2 : Int)  (w : World) :
    Calls Tryz.prog 88 #[.iface 107 (.agg #[]), .iface 82 (.agg #[.int .i64 m2, .int .i64 n2, .int .i64 x2])] w fun rv w' => rv = .returned (.iface 107 (.agg #[])) ∧ Ext w w' := by
  go_enter Tryz.func88, Tryz.ntmps88
  go_wp2
  go_ret
  exact ⟨rfl, Ext.auK⟩

theorem rest_ni (m2 : Int)  (w : World) :
    Calls Tryz.prog 88 #[.iface 107 (.agg #[]), .iface 104 (.agg #[.int .i64 m2])] w fun rv w' => rv = .returned (.iface 107 (.agg #[])) ∧ Ext w w' := by
  go_enter Tryz.func88, Tryz.ntmps88
  go_wp2
  go_ret
  exact ⟨rfl, Ext.auK⟩

theorem rest_nn  (w : World) :
    Calls Tryz.prog 88 #[.iface 107 (.agg #[]), .iface 107 (.agg #[])] w fun rv w' => rv = .returned (.iface 107 (.agg #[])) ∧ Ext w w' := by
  go_enter Tryz.func88, Tryz.ntmps88
  go_wp2
  go_ret
  exact ⟨rfl, Ext.auK⟩
end Go.Proofs.YtfgbndjhaiigbaaGreatDoor

namespace Go.Proofs.YtfgbndjhaiigbaaGreatDoor
open Go Go.RowKit
set_option linter.unusedSimpArgs false
set_option linter.unusedVariables false
set_option maxRecDepth 100000

theorem finiteOf_n (n x z : Int) (h : n < 0) (kn : IntKind.i64.wrap (-n) = -n) (w : World) : Calls Tryz.prog 148 #[.int .i64 n, .int .i64 x, .int .i64 z] w fun rv w' => rv = .returned (.agg #[.int .i64 1, .int .i64 (-n), .int .i64 x]) ∧ Ext w w' := by

  go_enter Tryz.func148, Tryz.ntmps148
  go_wp2
  go_returns
  exact ⟨rfl, Ext.auK⟩

theorem finiteOf_z (n x z : Int) (h : n = 0) (w : World) : Calls Tryz.prog 148 #[.int .i64 n, .int .i64 x, .int .i64 z] w fun rv w' => rv = .returned (.agg #[.int .i64 z, .int .i64 0, .int .i64 0]) ∧ Ext w w' := by
  subst h

  go_enter Tryz.func148, Tryz.ntmps148
  go_wp2
  go_returns
  exact ⟨rfl, Ext.auK⟩

theorem finiteOf_p (n x z : Int) (h : 0 < n) (w : World) : Calls Tryz.prog 148 #[.int .i64 n, .int .i64 x, .int .i64 z] w fun rv w' => rv = .returned (.agg #[.int .i64 0, .int .i64 n, .int .i64 x]) ∧ Ext w w' := by
  have h2 : ¬ n < 0 := by omega
  have h3 : ¬ n = 0 := by omega
  go_enter Tryz.func148, Tryz.ntmps148
  go_wp2
  go_returns
  exact ⟨rfl, Ext.auK⟩
end Go.Proofs.YtfgbndjhaiigbaaGreatDoor

namespace Go.Proofs.YtfgbndjhaiigbaaGreatDoor
open Go Go.RowKit
set_option linter.unusedSimpArgs false
set_option linter.unusedVariables false

attribute [local go_sem] ta_finite_finite ta_finite_infinite ta_finite_noNumber ta_infinite_finite ta_infinite_infinite ta_infinite_noNumber ta_noNumber_finite ta_noNumber_infinite ta_noNumber_noNumber

set_option maxRecDepth 100000

theorem rest_ff (m1 n1 x1 m2 n2 x2 : Int) (v : Value) (FC : ∀ w, Calls Tryz.prog 132 #[.agg #[.int .i64 m1, .int .i64 n1, .int .i64 x1], .agg #[.int .i64 m2, .int .i64 n2, .int .i64 x2]] w fun rv w' => rv = .returned (v) ∧ Ext w w') (w : World) :
    Calls Tryz.prog 88 #[.iface 82 (.agg #[.int .i64 m1, .int .i64 n1, .int .i64 x1]), .iface 82 (.agg #[.int .i64 m2, .int .i64 n2, .int .i64 x2])] w fun rv w' => rv = .returned (v) ∧ Ext w w' := by
  replace FC := Lib.hid FC
  go_enter Tryz.func88, Tryz.ntmps88
  go_wp2_with (first | (go_at_call 132; refine (FC.out _).mono ?_; rintro rv w1 ⟨rfl, hb⟩; have hx2 := Ext.trans (by repeat (first | exact Ext.refl _ | apply Ext.alloc | apply Ext.drew)) hb; clear hb))
  go_ret
  exact ⟨rfl, Ext.auK⟩
end Go.Proofs.YtfgbndjhaiigbaaGreatDoor

