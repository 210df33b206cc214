/-
  Contracts of the functions that the laws reach, and the plain facts that they rest on, each under the conditions that its line names; part 30.
-/
import Derived.Test.YtafkcgpfllloiaaGreatDoorKRM1
import Derived.Test.YtafkcgpfllloiaaGreatDoorKRM2
import Derived.Test.YtafkcgpfllloiaaGreatDoorKRM3
import Derived.Test.YtafkcgpfllloiaaGreatDoorKRM4
import Derived.Test.YtafkcgpfllloiaaGreatDoorKRM5
import Derived.Test.YtafkcgpfllloiaaGreatDoorKRM6
import Derived.Test.YtafkcgpfllloiaaGreatDoorKRM7
import Derived.Test.YtafkcgpfllloiaaGreatDoorKRM8
import Derived.Test.YtafkcgpfllloiaaGreatDoorKRM9
import Derived.Test.YtafkcgpfllloiaaGreatDoorKRM10
import Derived.Test.YtafkcgpfllloiaaGreatDoorKRM11
import Derived.Test.YtafkcgpfllloiaaGreatDoorKRM12
import Derived.Test.YtafkcgpfllloiaaGreatDoorKRM13
import Derived.Test.YtafkcgpfllloiaaGreatDoorKRM14
import Derived.Test.YtafkcgpfllloiaaGreatDoorKRM15
import Derived.Test.YtafkcgpfllloiaaGreatDoorKRM16
import Derived.Test.YtafkcgpfllloiaaGreatDoorKRM17
import Derived.Test.YtafkcgpfllloiaaGreatDoorKRM18
import Derived.Test.YtafkcgpfllloiaaGreatDoorKRM19
import Derived.Test.YtafkcgpfllloiaaGreatDoorKRM20
import Derived.Test.YtafkcgpfllloiaaGreatDoorKRM21
import Derived.Test.YtafkcgpfllloiaaGreatDoorKRM22
import Derived.Test.YtafkcgpfllloiaaGreatDoorKRM23
import Derived.Test.YtafkcgpfllloiaaGreatDoorKRM24
import Derived.Test.YtafkcgpfllloiaaGreatDoorKRM25
import Derived.Test.YtafkcgpfllloiaaGreatDoorKRM26
import Derived.Test.YtafkcgpfllloiaaGreatDoorRows
import Derived.WalkKit
import Derived.Handy
import Derived.LoopTactic
import Derived.Laws.Bits64b
import Derived.WalkSpells
import Derived.WalkLawsBesides
import Derived.StillTactics
import Derived.Laws.Pointers
import Derived.Deep.RegionHeld3
import Derived.Deep.QuietTactic
import Derived.BigQuiet
import Derived.Outline
import Derived.Lib.Hide
import Derived.RowKit3
import Derived.Carry
import Derived.IntWalk
namespace Go.Proofs.YtafkcgpfllloiaaGreatDoor
open Go Go.RowKit
set_option linter.unusedSimpArgs false
set_option linter.unusedVariables false

theorem ta_finite_finite (m n x : Int) (w : World) : (Instr.typeAssert (.iface 59 (.agg #[.int .i64 m, .int .i64 n, .int .i64 x])) 41 59 true).run Tryz.prog w = .ok (.tuple #[.agg #[.int .i64 m, .int .i64 n, .int .i64 x], .bool true]) w := by kernel_rfl

theorem ta_finite_infinite (m n x : Int) (w : World) : (Instr.typeAssert (.iface 59 (.agg #[.int .i64 m, .int .i64 n, .int .i64 x])) 41 72 true).run Tryz.prog w = .ok (.tuple #[.agg #[.int .i64 0], .bool false]) w := by kernel_rfl

theorem ta_finite_noNumber (m n x : Int) (w : World) : (Instr.typeAssert (.iface 59 (.agg #[.int .i64 m, .int .i64 n, .int .i64 x])) 41 75 true).run Tryz.prog w = .ok (.tuple #[.agg #[], .bool false]) w := by kernel_rfl

theorem ta_infinite_finite (m : Int) (w : World) : (Instr.typeAssert (.iface 72 (.agg #[.int .i64 m])) 41 59 true).run Tryz.prog w = .ok (.tuple #[.agg #[.int .i64 0, .int .i64 0, .int .i64 0], .bool false]) w := by kernel_rfl

theorem ta_infinite_infinite (m : Int) (w : World) : (Instr.typeAssert (.iface 72 (.agg #[.int .i64 m])) 41 72 true).run Tryz.prog w = .ok (.tuple #[.agg #[.int .i64 m], .bool true]) w := by kernel_rfl

theorem ta_infinite_noNumber (m : Int) (w : World) : (Instr.typeAssert (.iface 72 (.agg #[.int .i64 m])) 41 75 true).run Tryz.prog w = .ok (.tuple #[.agg #[], .bool false]) w := by kernel_rfl

theorem ta_noNumber_finite  (w : World) : (Instr.typeAssert (.iface 75 (.agg #[])) 41 59 true).run Tryz.prog w = .ok (.tuple #[.agg #[.int .i64 0, .int .i64 0, .int .i64 0], .bool false]) w := by kernel_rfl

theorem ta_noNumber_infinite  (w : World) : (Instr.typeAssert (.iface 75 (.agg #[])) 41 72 true).run Tryz.prog w = .ok (.tuple #[.agg #[.int .i64 0], .bool false]) w := by kernel_rfl

theorem ta_noNumber_noNumber  (w : World) : (Instr.typeAssert (.iface 75 (.agg #[])) 41 75 true).run Tryz.prog w = .ok (.tuple #[.agg #[], .bool true]) w := by kernel_rfl

attribute [local go_sem] ta_finite_finite ta_finite_infinite ta_finite_noNumber ta_infinite_finite ta_infinite_infinite ta_infinite_noNumber ta_noNumber_finite ta_noNumber_infinite ta_noNumber_noNumber

set_option maxRecDepth 100000

theorem finZero_t (m n x : Int) (h : n = 0) (w : World) : Calls Tryz.prog 116 #[.agg #[.int .i64 m, .int .i64 n, .int .i64 x]] w fun rv w' => rv = .returned (.bool true) ∧ Ext w w' := by
  have := finZero_any m n x w
  rwa [show (n == 0) = true from by simp [h]] at this

theorem finZero_f (m n x : Int) (h : ¬ n = 0) (w : World) : Calls Tryz.prog 116 #[.agg #[.int .i64 m, .int .i64 n, .int .i64 x]] w fun rv w' => rv = .returned (.bool false) ∧ Ext w w' := by
  have := finZero_any m n x w
  rwa [show (n == 0) = false from by simp [h]] at this
end Go.Proofs.YtafkcgpfllloiaaGreatDoor

namespace Go.Proofs.YtafkcgpfllloiaaGreatDoor
open Go Go.RowKit
set_option linter.unusedSimpArgs false
set_option linter.unusedVariables false

attribute [local go_sem] ta_finite_finite ta_finite_infinite ta_finite_noNumber ta_infinite_finite ta_infinite_infinite ta_infinite_noNumber ta_noNumber_finite ta_noNumber_infinite ta_noNumber_noNumber

set_option maxRecDepth 100000

theorem rest_fi (m1 n1 x1 m2 : Int)  (w : World) :
    Calls Tryz.prog 64 #[.iface 59 (.agg #[.int .i64 m1, .int .i64 n1, .int .i64 x1]), .iface 72 (.agg #[.int .i64 m2])] w fun rv w' => rv = .returned (.iface 59 (.agg #[.int .i64 m1, .int .i64 n1, .int .i64 x1])) ∧ Ext w w' := by
  go_enter Tryz.func64, Tryz.ntmps64
  go_wp2
  go_ret
  exact ⟨rfl, (by repeat (first | exact Ext.refl _ | with_reducible assumption | apply Ext.alloc | apply Ext.drew | apply Ext.drewN | (refine Ext.setRow ?_ (by first | (simp; done) | (simp; omega) | omega) _) | (refine Ext.setCell ?_ (by first | (simp; done) | (simp; omega) | omega) _) | (refine Ext.trans ?_ (by with_reducible assumption))))⟩

theorem rest_fn (m1 n1 x1 : Int)  (w : World) :
    Calls Tryz.prog 64 #[.iface 59 (.agg #[.int .i64 m1, .int .i64 n1, .int .i64 x1]), .iface 75 (.agg #[])] w fun rv w' => rv = .returned (.iface 75 (.agg #[])) ∧ Ext w w' := by
  go_enter Tryz.func64, Tryz.ntmps64
  go_wp2
  go_ret
  exact ⟨rfl, (by repeat (first | exact Ext.refl _ | with_reducible assumption | apply Ext.alloc | apply Ext.drew | apply Ext.drewN | (refine Ext.setRow ?_ (by first | (simp; done) | (simp; omega) | omega) _) | (refine Ext.setCell ?_ (by first | (simp; done) | (simp; omega) | omega) _) | (refine Ext.trans ?_ (by with_reducible assumption))))⟩

theorem rest_if (m1 m2 n2 x2 : Int)  (w : World) :
    Calls Tryz.prog 64 #[.iface 72 (.agg #[.int .i64 m1]), .iface 59 (.agg #[.int .i64 m2, .int .i64 n2, .int .i64 x2])] w fun rv w' => rv = .returned (.iface 75 (.agg #[])) ∧ Ext w w' := by
  go_enter Tryz.func64, Tryz.ntmps64
  go_wp2
  go_ret
  exact ⟨rfl, (by repeat (first | exact Ext.refl _ | with_reducible assumption | apply Ext.alloc | apply Ext.drew | apply Ext.drewN | (refine Ext.setRow ?_ (by first | (simp; done) | (simp; omega) | omega) _) | (refine Ext.setCell ?_ (by first | (simp; done) | (simp; omega) | omega) _) | (refine Ext.trans ?_ (by with_reducible assumption))))⟩

theorem rest_ii (m1 m2 : Int)  (w : World) :
    Calls Tryz.prog 64 #[.iface 72 (.agg #[.int .i64 m1]), .iface 72 (.agg #[.int .i64 m2])] w fun rv w' => rv = .returned (.iface 75 (.agg #[])) ∧ Ext w w' := by
  go_enter Tryz.func64, Tryz.ntmps64
  go_wp2
  go_ret
  exact ⟨rfl, (by repeat (first | exact Ext.refl _ | with_reducible assumption | apply Ext.alloc | apply Ext.drew | apply Ext.drewN | (refine Ext.setRow ?_ (by first | (simp; done) | (simp; omega) | omega) _) | (refine Ext.setCell ?_ (by first | (simp; done) | (simp; omega) | omega) _) | (refine Ext.trans ?_ (by with_reducible assumption))))⟩

theorem rest_in (m1 : Int)  (w : World) :
    Calls Tryz.prog 64 #[.iface 72 (.agg #[.int .i64 m1]), .iface 75 (.agg #[])] w fun rv w' => rv = .returned (.iface 75 (.agg #[])) ∧ Ext w w' := by
  go_enter Tryz.func64, Tryz.ntmps64
  go_wp2
  go_ret
  exact ⟨rfl, (by repeat (first | exact Ext.refl _ | with_reducible assumption | apply Ext.alloc | apply Ext.drew | apply Ext.drewN | (refine Ext.setRow ?_ (by first | (simp; done) | (simp; omega) | omega) _) | (refine Ext.setCell ?_ (by first | (simp; done) | (simp; omega) | omega) _) | (refine Ext.trans ?_ (by with_reducible assumption))))⟩

theorem rest_nf (m2 n2 x2 : Int)  (w : World) :
    Calls Tryz.prog 64 #[.iface 75 (.agg #[]), .iface 59 (.agg #[.int .i64 m2, .int .i64 n2, .int .i64 x2])] w fun rv w' => rv = .returned (.iface 75 (.agg #[])) ∧ Ext w w' := by
  go_enter Tryz.func64, Tryz.ntmps64
  go_wp2
  go_ret
  exact ⟨rfl, (by repeat (first | exact Ext.refl _ | with_reducible assumption | apply Ext.alloc | apply Ext.drew | apply Ext.drewN | (refine Ext.setRow ?_ (by first | (simp; done) | (simp; omega) | omega) _) | (refine Ext.setCell ?_ (by first | (simp; done) | (simp; omega) | omega) _) | (refine Ext.trans ?_ (by with_reducible assumption))))⟩

theorem rest_ni (m2 : Int)  (w : World) :
    Calls Tryz.prog 64 #[.iface 75 (.agg #[]), .iface 72 (.agg #[.int .i64 m2])] w fun rv w' => rv = .returned (.iface 75 (.agg #[])) ∧ Ext w w' := by
  go_enter Tryz.func64, Tryz.ntmps64
  go_wp2
  go_ret
  exact ⟨rfl, (by repeat (first | exact Ext.refl _ | with_reducible assumption | apply Ext.alloc | apply Ext.drew | apply Ext.drewN | (refine Ext.setRow ?_ (by first | (simp; done) | (simp; omega) | omega) _) | (refine Ext.setCell ?_ (by first | (simp; done) | (simp; omega) | omega) _) | (refine Ext.trans ?_ (by with_reducible assumption))))⟩

theorem rest_nn  (w : World) :
    Calls Tryz.prog 64 #[.iface 75 (.agg #[]), .iface 75 (.agg #[])] w fun rv w' => rv = .returned (.iface 75 (.agg #[])) ∧ Ext w w' := by
  go_enter Tryz.func64, Tryz.ntmps64
  go_wp2
  go_ret
  exact ⟨rfl, (by repeat (first | exact Ext.refl _ | with_reducible assumption | apply Ext.alloc | apply Ext.drew | apply Ext.drewN | (refine Ext.setRow ?_ (by first | (simp; done) | (simp; omega) | omega) _) | (refine Ext.setCell ?_ (by first | (simp; done) | (simp; omega) | omega) _) | (refine Ext.trans ?_ (by with_reducible assumption))))⟩
end Go.Proofs.YtafkcgpfllloiaaGreatDoor

namespace Go.Proofs.YtafkcgpfllloiaaGreatDoor
open Go Go.RowKit
set_option linter.unusedSimpArgs false
set_option linter.unusedVariables false
set_option maxRecDepth 100000

theorem finiteOf_n (n x z : Int) (h : n < 0) (kn : IntKind.i64.wrap (-n) = -n) (w : World) : Calls Tryz.prog 108 #[.int .i64 n, .int .i64 x, .int .i64 z] w fun rv w' => rv = .returned (.agg #[.int .i64 1, .int .i64 (-n), .int .i64 x]) ∧ Ext w w' := by

  go_enter Tryz.func108, Tryz.ntmps108
  go_wp2
  go_returns
  exact ⟨rfl, (by repeat (first | exact Ext.refl _ | with_reducible assumption | apply Ext.alloc | apply Ext.drew | apply Ext.drewN | (refine Ext.setRow ?_ (by first | (simp; done) | (simp; omega) | omega) _) | (refine Ext.setCell ?_ (by first | (simp; done) | (simp; omega) | omega) _) | (refine Ext.trans ?_ (by with_reducible assumption))))⟩

theorem finiteOf_z (n x z : Int) (h : n = 0) (w : World) : Calls Tryz.prog 108 #[.int .i64 n, .int .i64 x, .int .i64 z] w fun rv w' => rv = .returned (.agg #[.int .i64 z, .int .i64 0, .int .i64 0]) ∧ Ext w w' := by
  subst h

  go_enter Tryz.func108, Tryz.ntmps108
  go_wp2
  go_returns
  exact ⟨rfl, (by repeat (first | exact Ext.refl _ | with_reducible assumption | apply Ext.alloc | apply Ext.drew | apply Ext.drewN | (refine Ext.setRow ?_ (by first | (simp; done) | (simp; omega) | omega) _) | (refine Ext.setCell ?_ (by first | (simp; done) | (simp; omega) | omega) _) | (refine Ext.trans ?_ (by with_reducible assumption))))⟩

theorem finiteOf_p (n x z : Int) (h : 0 < n) (w : World) : Calls Tryz.prog 108 #[.int .i64 n, .int .i64 x, .int .i64 z] w fun rv w' => rv = .returned (.agg #[.int .i64 0, .int .i64 n, .int .i64 x]) ∧ Ext w w' := by
  have h2 : ¬ n < 0 := by omega
  have h3 : ¬ n = 0 := by omega
  go_enter Tryz.func108, Tryz.ntmps108
  go_wp2
  go_returns
  exact ⟨rfl, (by repeat (first | exact Ext.refl _ | with_reducible assumption | apply Ext.alloc | apply Ext.drew | apply Ext.drewN | (refine Ext.setRow ?_ (by first | (simp; done) | (simp; omega) | omega) _) | (refine Ext.setCell ?_ (by first | (simp; done) | (simp; omega) | omega) _) | (refine Ext.trans ?_ (by with_reducible assumption))))⟩
end Go.Proofs.YtafkcgpfllloiaaGreatDoor

namespace Go.Proofs.YtafkcgpfllloiaaGreatDoor
open Go Go.RowKit
set_option linter.unusedSimpArgs false
set_option linter.unusedVariables false

attribute [local go_sem] ta_finite_finite ta_finite_infinite ta_finite_noNumber ta_infinite_finite ta_infinite_infinite ta_infinite_noNumber ta_noNumber_finite ta_noNumber_infinite ta_noNumber_noNumber

set_option maxRecDepth 100000

theorem rest_ff (m1 n1 x1 m2 n2 x2 : Int) (v : Value) (FC : ∀ w, Calls Tryz.prog 103 #[.agg #[.int .i64 m1, .int .i64 n1, .int .i64 x1], .agg #[.int .i64 m2, .int .i64 n2, .int .i64 x2]] w fun rv w' => rv = .returned (v) ∧ Ext w w') (w : World) :
    Calls Tryz.prog 64 #[.iface 59 (.agg #[.int .i64 m1, .int .i64 n1, .int .i64 x1]), .iface 59 (.agg #[.int .i64 m2, .int .i64 n2, .int .i64 x2])] w fun rv w' => rv = .returned (v) ∧ Ext w w' := by
  replace FC := Lib.hid FC
  go_enter Tryz.func64, Tryz.ntmps64
  go_wp2_with (first | (go_at_call 103; refine (FC.out _).mono ?_; rintro rv w1 ⟨rfl, hb⟩; have hx2 := Ext.trans (by repeat (first | exact Ext.refl _ | apply Ext.alloc | apply Ext.drew)) hb; clear hb))
  go_ret
  exact ⟨rfl, (by repeat (first | exact Ext.refl _ | with_reducible assumption | apply Ext.alloc | apply Ext.drew | apply Ext.drewN | (refine Ext.setRow ?_ (by first | (simp; done) | (simp; omega) | omega) _) | (refine Ext.setCell ?_ (by first | (simp; done) | (simp; omega) | omega) _) | (refine Ext.trans ?_ (by with_reducible assumption))))⟩
end Go.Proofs.YtafkcgpfllloiaaGreatDoor

