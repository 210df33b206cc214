/-
  Contracts of the functions that the laws reach, and the plain facts that they rest on, each under the conditions that its line names; part 30.
-/
import Derived.Test.YtfgbndjhaiigbaaGreatDoorKti1
import Derived.Test.YtfgbndjhaiigbaaGreatDoorKti2
import Derived.Test.YtfgbndjhaiigbaaGreatDoorKti3
import Derived.Test.YtfgbndjhaiigbaaGreatDoorKti4
import Derived.Test.YtfgbndjhaiigbaaGreatDoorKti5
import Derived.Test.YtfgbndjhaiigbaaGreatDoorKti6
import Derived.Test.YtfgbndjhaiigbaaGreatDoorKti7
import Derived.Test.YtfgbndjhaiigbaaGreatDoorKti8
import Derived.Test.YtfgbndjhaiigbaaGreatDoorKti9
import Derived.Test.YtfgbndjhaiigbaaGreatDoorKti10
import Derived.Test.YtfgbndjhaiigbaaGreatDoorKti11
import Derived.Test.YtfgbndjhaiigbaaGreatDoorKti12
import Derived.Test.YtfgbndjhaiigbaaGreatDoorKti13
import Derived.Test.YtfgbndjhaiigbaaGreatDoorKti14
import Derived.Test.YtfgbndjhaiigbaaGreatDoorKti15
import Derived.Test.YtfgbndjhaiigbaaGreatDoorKti16
import Derived.Test.YtfgbndjhaiigbaaGreatDoorKti17
import Derived.Test.YtfgbndjhaiigbaaGreatDoorKti18
import Derived.Test.YtfgbndjhaiigbaaGreatDoorKti19
import Derived.Test.YtfgbndjhaiigbaaGreatDoorKti20
import Derived.Test.YtfgbndjhaiigbaaGreatDoorKti21
import Derived.Test.YtfgbndjhaiigbaaGreatDoorKti22
import Derived.Test.YtfgbndjhaiigbaaGreatDoorKti23
import Derived.Test.YtfgbndjhaiigbaaGreatDoorKti24
import Derived.Test.YtfgbndjhaiigbaaGreatDoorKti25
import Derived.Test.YtfgbndjhaiigbaaGreatDoorKti26
import Derived.Test.YtfgbndjhaiigbaaGreatDoorRows
import Derived.WalkKit
import Derived.Handy
import Derived.LoopTactic
import Derived.Laws.Bits64b
import Derived.WalkSpells
import Derived.WalkLawsBesides
import Derived.StillTactics
import Derived.Laws.Pointers
import Derived.Deep.RegionHeld3
import Derived.Deep.QuietTactic
import Derived.BigQuiet
import Derived.Outline
import Derived.Lib.Hide
import Derived.RowKit3
import Derived.Carry
import Derived.IntWalk
namespace Go.Proofs.YtfgbndjhaiigbaaGreatDoor
open Go Go.RowKit
set_option linter.unusedSimpArgs false
set_option linter.unusedVariables false

theorem ta_finite_finite (m n x : Int) (w : World) : (Instr.typeAssert (.iface 82 (.agg #[.int .i64 m, .int .i64 n, .int .i64 x])) 67 82 true).run Tryz.prog w = .ok (.tuple #[.agg #[.int .i64 m, .int .i64 n, .int .i64 x], .bool true]) w := by kernel_rfl

theorem ta_finite_infinite (m n x : Int) (w : World) : (Instr.typeAssert (.iface 82 (.agg #[.int .i64 m, .int .i64 n, .int .i64 x])) 67 104 true).run Tryz.prog w = .ok (.tuple #[.agg #[.int .i64 0], .bool false]) w := by kernel_rfl

theorem ta_finite_noNumber (m n x : Int) (w : World) : (Instr.typeAssert (.iface 82 (.agg #[.int .i64 m, .int .i64 n, .int .i64 x])) 67 107 true).run Tryz.prog w = .ok (.tuple #[.agg #[], .bool false]) w := by kernel_rfl

theorem ta_infinite_finite (m : Int) (w : World) : (Instr.typeAssert (.iface 104 (.agg #[.int .i64 m])) 67 82 true).run Tryz.prog w = .ok (.tuple #[.agg #[.int .i64 0, .int .i64 0, .int .i64 0], .bool false]) w := by kernel_rfl

theorem ta_infinite_infinite (m : Int) (w : World) : (Instr.typeAssert (.iface 104 (.agg #[.int .i64 m])) 67 104 true).run Tryz.prog w = .ok (.tuple #[.agg #[.int .i64 m], .bool true]) w := by kernel_rfl

theorem ta_infinite_noNumber (m : Int) (w : World) : (Instr.typeAssert (.iface 104 (.agg #[.int .i64 m])) 67 107 true).run Tryz.prog w = .ok (.tuple #[.agg #[], .bool false]) w := by kernel_rfl

theorem ta_noNumber_finite  (w : World) : (Instr.typeAssert (.iface 107 (.agg #[])) 67 82 true).run Tryz.prog w = .ok (.tuple #[.agg #[.int .i64 0, .int .i64 0, .int .i64 0], .bool false]) w := by kernel_rfl

theorem ta_noNumber_infinite  (w : World) : (Instr.typeAssert (.iface 107 (.agg #[])) 67 104 true).run Tryz.prog w = .ok (.tuple #[.agg #[.int .i64 0], .bool false]) w := by kernel_rfl

theorem ta_noNumber_noNumber  (w : World) : (Instr.typeAssert (.iface 107 (.agg #[])) 67 107 true).run Tryz.prog w = .ok (.tuple #[.agg #[], .bool true]) w := by kernel_rfl

attribute [local go_sem] ta_finite_finite ta_finite_infinite ta_finite_noNumber ta_infinite_finite ta_infinite_infinite ta_infinite_noNumber ta_noNumber_finite ta_noNumber_infinite ta_noNumber_noNumber

set_option maxRecDepth 100000

theorem finZero_t (m n x : Int) (h : n = 0) (w : World) : Calls Tryz.prog 152 #[.agg #[.int .i64 m, .int .i64 n, .int .i64 x]] w fun rv w' => rv = .returned (.bool true) ∧ Ext w w' := by
  have := finZero_any m n x w
  rwa [show (n == 0) = true from by simp [h]] at this

theorem finZero_f (m n x : Int) (h : ¬ n = 0) (w : World) : Calls Tryz.prog 152 #[.agg #[.int .i64 m, .int .i64 n, .int .i64 x]] w fun rv w' => rv = .returned (.bool false) ∧ Ext w w' := by
  have := finZero_any m n x w
  rwa [show (n == 0) = false from by simp [h]] at this

theorem times_ff (m1 n1 x1 m2 n2 x2 sx : Int) (hs : bits .xor .i64 m1 m2 = sx) (kn : IntKind.i64.wrap (n1 * n2) = n1 * n2) (kx : IntKind.i64.wrap (x1 + x2) = x1 + x2) (w : World) :
    Calls Tryz.prog 70 #[.iface 82 (.agg #[.int .i64 m1, .int .i64 n1, .int .i64 x1]), .iface 82 (.agg #[.int .i64 m2, .int .i64 n2, .int .i64 x2])] w fun rv w' => rv = .returned (.iface 82 (.agg #[.int .i64 sx, .int .i64 (n1 * n2), .int .i64 (x1 + x2)])) ∧ Ext w w' := by
  go_enter Tryz.func70, Tryz.ntmps70
  go_wp2_with (first | (go_at_call 221; (with_reducible refine (finSign_any m1 n1 x1 _).mono ?_); rintro rv w1 ⟨rfl, hb⟩; (first | (have nx := Ext.trans hx hb; clear hx) | (have nx := Ext.trans (hx.alloc _) hb; clear hx) | (have nx := Ext.trans ((hx.alloc _).alloc _) hb; clear hx) | (have nx := Ext.trans (((hx.alloc _).alloc _).alloc _) hb; clear hx) | have nx := hb); clear hb; have hx := nx; clear nx) | (go_at_call 221; (with_reducible refine (finSign_any m2 n2 x2 _).mono ?_); rintro rv w1 ⟨rfl, hb⟩; (first | (have nx := Ext.trans hx hb; clear hx) | (have nx := Ext.trans (hx.alloc _) hb; clear hx) | (have nx := Ext.trans ((hx.alloc _).alloc _) hb; clear hx) | (have nx := Ext.trans (((hx.alloc _).alloc _).alloc _) hb; clear hx) | have nx := hb); clear hb; have hx := nx; clear nx))
  go_ret
  exact ⟨rfl, Ext.auK⟩

theorem times_fn (m1 n1 x1  sx : Int) (hs : bits .xor .i64 m1 0 = sx)  (w : World) :
    Calls Tryz.prog 70 #[.iface 82 (.agg #[.int .i64 m1, .int .i64 n1, .int .i64 x1]), .iface 107 (.agg #[])] w fun rv w' => rv = .returned (.iface 107 (.agg #[])) ∧ Ext w w' := by
  go_enter Tryz.func70, Tryz.ntmps70
  go_wp2_with (first | (go_at_call 221; (with_reducible refine (finSign_any m1 n1 x1 _).mono ?_); rintro rv w1 ⟨rfl, hb⟩; (first | (have nx := Ext.trans hx hb; clear hx) | (have nx := Ext.trans (hx.alloc _) hb; clear hx) | (have nx := Ext.trans ((hx.alloc _).alloc _) hb; clear hx) | (have nx := Ext.trans (((hx.alloc _).alloc _).alloc _) hb; clear hx) | have nx := hb); clear hb; have hx := nx; clear nx) | (go_at_call 227; (with_reducible refine (noSign_any _).mono ?_); rintro rv w1 ⟨rfl, hb⟩; (first | (have nx := Ext.trans hx hb; clear hx) | (have nx := Ext.trans (hx.alloc _) hb; clear hx) | (have nx := Ext.trans ((hx.alloc _).alloc _) hb; clear hx) | (have nx := Ext.trans (((hx.alloc _).alloc _).alloc _) hb; clear hx) | have nx := hb); clear hb; have hx := nx; clear nx))
  go_ret
  exact ⟨rfl, Ext.auK⟩

theorem times_ii (m1 m2 sx : Int) (hs : bits .xor .i64 m1 m2 = sx)  (w : World) :
    Calls Tryz.prog 70 #[.iface 104 (.agg #[.int .i64 m1]), .iface 104 (.agg #[.int .i64 m2])] w fun rv w' => rv = .returned (.iface 104 (.agg #[.int .i64 sx])) ∧ Ext w w' := by
  go_enter Tryz.func70, Tryz.ntmps70
  go_wp2_with (first | (go_at_call 224; (with_reducible refine (infSign_any m1 _).mono ?_); rintro rv w1 ⟨rfl, hb⟩; (first | (have nx := Ext.trans hx hb; clear hx) | (have nx := Ext.trans (hx.alloc _) hb; clear hx) | (have nx := Ext.trans ((hx.alloc _).alloc _) hb; clear hx) | (have nx := Ext.trans (((hx.alloc _).alloc _).alloc _) hb; clear hx) | have nx := hb); clear hb; have hx := nx; clear nx) | (go_at_call 224; (with_reducible refine (infSign_any m2 _).mono ?_); rintro rv w1 ⟨rfl, hb⟩; (first | (have nx := Ext.trans hx hb; clear hx) | (have nx := Ext.trans (hx.alloc _) hb; clear hx) | (have nx := Ext.trans ((hx.alloc _).alloc _) hb; clear hx) | (have nx := Ext.trans (((hx.alloc _).alloc _).alloc _) hb; clear hx) | have nx := hb); clear hb; have hx := nx; clear nx) | (go_at_call 222; (with_reducible refine (infZero_any m2 _).mono ?_); rintro rv w1 ⟨rfl, hb⟩; (first | (have nx := Ext.trans hx hb; clear hx) | (have nx := Ext.trans (hx.alloc _) hb; clear hx) | (have nx := Ext.trans ((hx.alloc _).alloc _) hb; clear hx) | (have nx := Ext.trans (((hx.alloc _).alloc _).alloc _) hb; clear hx) | have nx := hb); clear hb; have hx := nx; clear nx))
  go_ret
  exact ⟨rfl, Ext.auK⟩

theorem times_in (m1  sx : Int) (hs : bits .xor .i64 m1 0 = sx)  (w : World) :
    Calls Tryz.prog 70 #[.iface 104 (.agg #[.int .i64 m1]), .iface 107 (.agg #[])] w fun rv w' => rv = .returned (.iface 107 (.agg #[])) ∧ Ext w w' := by
  go_enter Tryz.func70, Tryz.ntmps70
  go_wp2_with (first | (go_at_call 224; (with_reducible refine (infSign_any m1 _).mono ?_); rintro rv w1 ⟨rfl, hb⟩; (first | (have nx := Ext.trans hx hb; clear hx) | (have nx := Ext.trans (hx.alloc _) hb; clear hx) | (have nx := Ext.trans ((hx.alloc _).alloc _) hb; clear hx) | (have nx := Ext.trans (((hx.alloc _).alloc _).alloc _) hb; clear hx) | have nx := hb); clear hb; have hx := nx; clear nx) | (go_at_call 227; (with_reducible refine (noSign_any _).mono ?_); rintro rv w1 ⟨rfl, hb⟩; (first | (have nx := Ext.trans hx hb; clear hx) | (have nx := Ext.trans (hx.alloc _) hb; clear hx) | (have nx := Ext.trans ((hx.alloc _).alloc _) hb; clear hx) | (have nx := Ext.trans (((hx.alloc _).alloc _).alloc _) hb; clear hx) | have nx := hb); clear hb; have hx := nx; clear nx))
  go_ret
  exact ⟨rfl, Ext.auK⟩

theorem times_if_t (m1 m2 n2 x2 sx : Int) (hs : bits .xor .i64 m1 m2 = sx) (h : n2 = 0) (w : World) :
    Calls Tryz.prog 70 #[.iface 104 (.agg #[.int .i64 m1]), .iface 82 (.agg #[.int .i64 m2, .int .i64 n2, .int .i64 x2])] w fun rv w' => rv = .returned (.iface 107 (.agg #[])) ∧ Ext w w' := by
  have zc := Lib.hid (fun w => finZero_t m2 n2 x2 h w); clear h
  go_enter Tryz.func70, Tryz.ntmps70
  go_wp2_with (first | (go_at_call 224; (with_reducible refine (infSign_any m1 _).mono ?_); rintro rv w1 ⟨rfl, hb⟩; (first | (have nx := Ext.trans hx hb; clear hx) | (have nx := Ext.trans (hx.alloc _) hb; clear hx) | (have nx := Ext.trans ((hx.alloc _).alloc _) hb; clear hx) | (have nx := Ext.trans (((hx.alloc _).alloc _).alloc _) hb; clear hx) | have nx := hb); clear hb; have hx := nx; clear nx) | (go_at_call 221; (with_reducible refine (finSign_any m2 n2 x2 _).mono ?_); rintro rv w1 ⟨rfl, hb⟩; (first | (have nx := Ext.trans hx hb; clear hx) | (have nx := Ext.trans (hx.alloc _) hb; clear hx) | (have nx := Ext.trans ((hx.alloc _).alloc _) hb; clear hx) | (have nx := Ext.trans (((hx.alloc _).alloc _).alloc _) hb; clear hx) | have nx := hb); clear hb; have hx := nx; clear nx) | (go_at_call 152; (with_reducible refine (zc.out _).mono ?_); rintro rv w1 ⟨rfl, hb⟩; (first | (have nx := Ext.trans hx hb; clear hx) | (have nx := Ext.trans (hx.alloc _) hb; clear hx) | (have nx := Ext.trans ((hx.alloc _).alloc _) hb; clear hx) | (have nx := Ext.trans (((hx.alloc _).alloc _).alloc _) hb; clear hx) | have nx := hb); clear hb; have hx := nx; clear nx))
  go_ret
  exact ⟨rfl, Ext.auK⟩

theorem times_fi_t (m1 n1 x1 m2 sx : Int) (hs : bits .xor .i64 m1 m2 = sx) (h : n1 = 0) (ht : bits .xor .i64 m2 m1 = sx) (w : World) :
    Calls Tryz.prog 70 #[.iface 82 (.agg #[.int .i64 m1, .int .i64 n1, .int .i64 x1]), .iface 104 (.agg #[.int .i64 m2])] w fun rv w' => rv = .returned (.iface 107 (.agg #[])) ∧ Ext w w' := by
  have zc := Lib.hid (fun w => times_if_t m2 m1 n1 x1 sx ht h w); clear h ht
  go_enter Tryz.func70, Tryz.ntmps70
  go_wp2_with (first | (go_at_call 221; (with_reducible refine (finSign_any m1 n1 x1 _).mono ?_); rintro rv w1 ⟨rfl, hb⟩; (first | (have nx := Ext.trans hx hb; clear hx) | (have nx := Ext.trans (hx.alloc _) hb; clear hx) | (have nx := Ext.trans ((hx.alloc _).alloc _) hb; clear hx) | (have nx := Ext.trans (((hx.alloc _).alloc _).alloc _) hb; clear hx) | have nx := hb); clear hb; have hx := nx; clear nx) | (go_at_call 224; (with_reducible refine (infSign_any m2 _).mono ?_); rintro rv w1 ⟨rfl, hb⟩; (first | (have nx := Ext.trans hx hb; clear hx) | (have nx := Ext.trans (hx.alloc _) hb; clear hx) | (have nx := Ext.trans ((hx.alloc _).alloc _) hb; clear hx) | (have nx := Ext.trans (((hx.alloc _).alloc _).alloc _) hb; clear hx) | have nx := hb); clear hb; have hx := nx; clear nx) | (go_at_call 70; (with_reducible refine (zc.out _).mono ?_); rintro rv w1 ⟨rfl, hb⟩; (first | (have nx := Ext.trans hx hb; clear hx) | (have nx := Ext.trans (hx.alloc _) hb; clear hx) | (have nx := Ext.trans ((hx.alloc _).alloc _) hb; clear hx) | (have nx := Ext.trans (((hx.alloc _).alloc _).alloc _) hb; clear hx) | have nx := hb); clear hb; have hx := nx; clear nx))
  go_ret
  exact ⟨rfl, Ext.auK⟩

theorem times_if_f (m1 m2 n2 x2 sx : Int) (hs : bits .xor .i64 m1 m2 = sx) (h : ¬ n2 = 0) (w : World) :
    Calls Tryz.prog 70 #[.iface 104 (.agg #[.int .i64 m1]), .iface 82 (.agg #[.int .i64 m2, .int .i64 n2, .int .i64 x2])] w fun rv w' => rv = .returned (.iface 104 (.agg #[.int .i64 sx])) ∧ Ext w w' := by
  have zc := Lib.hid (fun w => finZero_f m2 n2 x2 h w); clear h
  go_enter Tryz.func70, Tryz.ntmps70
  go_wp2_with (first | (go_at_call 224; (with_reducible refine (infSign_any m1 _).mono ?_); rintro rv w1 ⟨rfl, hb⟩; (first | (have nx := Ext.trans hx hb; clear hx) | (have nx := Ext.trans (hx.alloc _) hb; clear hx) | (have nx := Ext.trans ((hx.alloc _).alloc _) hb; clear hx) | (have nx := Ext.trans (((hx.alloc _).alloc _).alloc _) hb; clear hx) | have nx := hb); clear hb; have hx := nx; clear nx) | (go_at_call 221; (with_reducible refine (finSign_any m2 n2 x2 _).mono ?_); rintro rv w1 ⟨rfl, hb⟩; (first | (have nx := Ext.trans hx hb; clear hx) | (have nx := Ext.trans (hx.alloc _) hb; clear hx) | (have nx := Ext.trans ((hx.alloc _).alloc _) hb; clear hx) | (have nx := Ext.trans (((hx.alloc _).alloc _).alloc _) hb; clear hx) | have nx := hb); clear hb; have hx := nx; clear nx) | (go_at_call 152; (with_reducible refine (zc.out _).mono ?_); rintro rv w1 ⟨rfl, hb⟩; (first | (have nx := Ext.trans hx hb; clear hx) | (have nx := Ext.trans (hx.alloc _) hb; clear hx) | (have nx := Ext.trans ((hx.alloc _).alloc _) hb; clear hx) | (have nx := Ext.trans (((hx.alloc _).alloc _).alloc _) hb; clear hx) | have nx := hb); clear hb; have hx := nx; clear nx))
  go_ret
  exact ⟨rfl, Ext.auK⟩

theorem times_fi_f (m1 n1 x1 m2 sx : Int) (hs : bits .xor .i64 m1 m2 = sx) (h : ¬ n1 = 0) (ht : bits .xor .i64 m2 m1 = sx) (w : World) :
    Calls Tryz.prog 70 #[.iface 82 (.agg #[.int .i64 m1, .int .i64 n1, .int .i64 x1]), .iface 104 (.agg #[.int .i64 m2])] w fun rv w' => rv = .returned (.iface 104 (.agg #[.int .i64 sx])) ∧ Ext w w' := by
  have zc := Lib.hid (fun w => times_if_f m2 m1 n1 x1 sx ht h w); clear h ht
  go_enter Tryz.func70, Tryz.ntmps70
  go_wp2_with (first | (go_at_call 221; (with_reducible refine (finSign_any m1 n1 x1 _).mono ?_); rintro rv w1 ⟨rfl, hb⟩; (first | (have nx := Ext.trans hx hb; clear hx) | (have nx := Ext.trans (hx.alloc _) hb; clear hx) | (have nx := Ext.trans ((hx.alloc _).alloc _) hb; clear hx) | (have nx := Ext.trans (((hx.alloc _).alloc _).alloc _) hb; clear hx) | have nx := hb); clear hb; have hx := nx; clear nx) | (go_at_call 224; (with_reducible refine (infSign_any m2 _).mono ?_); rintro rv w1 ⟨rfl, hb⟩; (first | (have nx := Ext.trans hx hb; clear hx) | (have nx := Ext.trans (hx.alloc _) hb; clear hx) | (have nx := Ext.trans ((hx.alloc _).alloc _) hb; clear hx) | (have nx := Ext.trans (((hx.alloc _).alloc _).alloc _) hb; clear hx) | have nx := hb); clear hb; have hx := nx; clear nx) | (go_at_call 70; (with_reducible refine (zc.out _).mono ?_); rintro rv w1 ⟨rfl, hb⟩; (first | (have nx := Ext.trans hx hb; clear hx) | (have nx := Ext.trans (hx.alloc _) hb; clear hx) | (have nx := Ext.trans ((hx.alloc _).alloc _) hb; clear hx) | (have nx := Ext.trans (((hx.alloc _).alloc _).alloc _) hb; clear hx) | have nx := hb); clear hb; have hx := nx; clear nx))
  go_ret
  exact ⟨rfl, Ext.auK⟩

theorem times_nf (m2 n2 x2 sx : Int) (hs : bits .xor .i64 0 m2 = sx)  (w : World) :
    Calls Tryz.prog 70 #[.iface 107 (.agg #[]), .iface 82 (.agg #[.int .i64 m2, .int .i64 n2, .int .i64 x2])] w fun rv w' => rv = .returned (.iface 107 (.agg #[])) ∧ Ext w w' := by
  go_enter Tryz.func70, Tryz.ntmps70
  go_wp2_with (first | (go_at_call 227; (with_reducible refine (noSign_any _).mono ?_); rintro rv w1 ⟨rfl, hb⟩; (first | (have nx := Ext.trans hx hb; clear hx) | (have nx := Ext.trans (hx.alloc _) hb; clear hx) | (have nx := Ext.trans ((hx.alloc _).alloc _) hb; clear hx) | (have nx := Ext.trans (((hx.alloc _).alloc _).alloc _) hb; clear hx) | have nx := hb); clear hb; have hx := nx; clear nx) | (go_at_call 221; (with_reducible refine (finSign_any m2 n2 x2 _).mono ?_); rintro rv w1 ⟨rfl, hb⟩; (first | (have nx := Ext.trans hx hb; clear hx) | (have nx := Ext.trans (hx.alloc _) hb; clear hx) | (have nx := Ext.trans ((hx.alloc _).alloc _) hb; clear hx) | (have nx := Ext.trans (((hx.alloc _).alloc _).alloc _) hb; clear hx) | have nx := hb); clear hb; have hx := nx; clear nx))
  go_ret
  exact ⟨rfl, Ext.auK⟩

theorem times_ni (m2 sx : Int) (hs : bits .xor .i64 0 m2 = sx)  (w : World) :
    Calls Tryz.prog 70 #[.iface 107 (.agg #[]), .iface 104 (.agg #[.int .i64 m2])] w fun rv w' => rv = .returned (.iface 107 (.agg #[])) ∧ Ext w w' := by
  go_enter Tryz.func70, Tryz.ntmps70
  go_wp2_with (first | (go_at_call 227; (with_reducible refine (noSign_any _).mono ?_); rintro rv w1 ⟨rfl, hb⟩; (first | (have nx := Ext.trans hx hb; clear hx) | (have nx := Ext.trans (hx.alloc _) hb; clear hx) | (have nx := Ext.trans ((hx.alloc _).alloc _) hb; clear hx) | (have nx := Ext.trans (((hx.alloc _).alloc _).alloc _) hb; clear hx) | have nx := hb); clear hb; have hx := nx; clear nx) | (go_at_call 224; (with_reducible refine (infSign_any m2 _).mono ?_); rintro rv w1 ⟨rfl, hb⟩; (first | (have nx := Ext.trans hx hb; clear hx) | (have nx := Ext.trans (hx.alloc _) hb; clear hx) | (have nx := Ext.trans ((hx.alloc _).alloc _) hb; clear hx) | (have nx := Ext.trans (((hx.alloc _).alloc _).alloc _) hb; clear hx) | have nx := hb); clear hb; have hx := nx; clear nx))
  go_ret
  exact ⟨rfl, Ext.auK⟩

theorem times_nn (sx : Int) (hs : bits .xor .i64 0 0 = sx)  (w : World) :
    Calls Tryz.prog 70 #[.iface 107 (.agg #[]), .iface 107 (.agg #[])] w fun rv w' => rv = .returned (.iface 107 (.agg #[])) ∧ Ext w w' := by
  go_enter Tryz.func70, Tryz.ntmps70
  go_wp2_with (first | (go_at_call 227; (with_reducible refine (noSign_any _).mono ?_); rintro rv w1 ⟨rfl, hb⟩; (first | (have nx := Ext.trans hx hb; clear hx) | (have nx := Ext.trans (hx.alloc _) hb; clear hx) | (have nx := Ext.trans ((hx.alloc _).alloc _) hb; clear hx) | (have nx := Ext.trans (((hx.alloc _).alloc _).alloc _) hb; clear hx) | have nx := hb); clear hb; have hx := nx; clear nx) | (go_at_call 227; (with_reducible refine (noSign_any _).mono ?_); rintro rv w1 ⟨rfl, hb⟩; (first | (have nx := Ext.trans hx hb; clear hx) | (have nx := Ext.trans (hx.alloc _) hb; clear hx) | (have nx := Ext.trans ((hx.alloc _).alloc _) hb; clear hx) | (have nx := Ext.trans (((hx.alloc _).alloc _).alloc _) hb; clear hx) | have nx := hb); clear hb; have hx := nx; clear nx))
  go_ret
  exact ⟨rfl, Ext.auK⟩
end Go.Proofs.YtfgbndjhaiigbaaGreatDoor

