/-
  Contracts of the functions that the laws reach, and the plain facts that they rest on, each under the conditions that its line names; part 30.
-/
import Derived.Test.YtfgbndjhaiigbaaGreatDoorKfu1
import Derived.Test.YtfgbndjhaiigbaaGreatDoorKfu2
import Derived.Test.YtfgbndjhaiigbaaGreatDoorKfu3
import Derived.Test.YtfgbndjhaiigbaaGreatDoorKfu4
import Derived.Test.YtfgbndjhaiigbaaGreatDoorKfu5
import Derived.Test.YtfgbndjhaiigbaaGreatDoorKfu6
import Derived.Test.YtfgbndjhaiigbaaGreatDoorKfu7
import Derived.Test.YtfgbndjhaiigbaaGreatDoorKfu8
import Derived.Test.YtfgbndjhaiigbaaGreatDoorKfu9
import Derived.Test.YtfgbndjhaiigbaaGreatDoorKfu10
import Derived.Test.YtfgbndjhaiigbaaGreatDoorKfu11
import Derived.Test.YtfgbndjhaiigbaaGreatDoorKfu12
import Derived.Test.YtfgbndjhaiigbaaGreatDoorKfu13
import Derived.Test.YtfgbndjhaiigbaaGreatDoorKfu14
import Derived.Test.YtfgbndjhaiigbaaGreatDoorKfu15
import Derived.Test.YtfgbndjhaiigbaaGreatDoorKfu16
import Derived.Test.YtfgbndjhaiigbaaGreatDoorKfu17
import Derived.Test.YtfgbndjhaiigbaaGreatDoorKfu18
import Derived.Test.YtfgbndjhaiigbaaGreatDoorKfu19
import Derived.Test.YtfgbndjhaiigbaaGreatDoorKfu20
import Derived.Test.YtfgbndjhaiigbaaGreatDoorKfu21
import Derived.Test.YtfgbndjhaiigbaaGreatDoorKfu22
import Derived.Test.YtfgbndjhaiigbaaGreatDoorKfu23
import Derived.Test.YtfgbndjhaiigbaaGreatDoorKfu24
import Derived.Test.YtfgbndjhaiigbaaGreatDoorKfu25
import Derived.Test.YtfgbndjhaiigbaaGreatDoorKfu26
import Derived.Test.YtfgbndjhaiigbaaGreatDoorRows
import Derived.WalkKit
import Derived.Handy
import Derived.LoopTactic
import Derived.Laws.Bits64b
import Derived.WalkSpells
import Derived.WalkLawsBesides
import Derived.StillTactics
import Derived.Laws.Pointers
import Derived.Deep.RegionHeld3
import Derived.Deep.QuietTactic
import Derived.BigQuiet
import Derived.Outline
import Derived.Lib.Hide
import Derived.RowKit3
import Derived.Carry
import Derived.IntWalk
namespace Go.Proofs.YtfgbndjhaiigbaaGreatDoor
open Go Go.RowKit
set_option linter.unusedSimpArgs false
set_option linter.unusedVariables false

theorem ta_finite_finite (m n x : Int) (w : World) : (Instr.typeAssert (.iface 82 (.agg #[.int .i64 m, .int .i64 n, .int .i64 x])) 67 82 true).run Tryz.prog w = .ok (.tuple #[.agg #[.int .i64 m, .int .i64 n, .int .i64 x], .bool true]) w := by kernel_rfl

theorem ta_finite_infinite (m n x : Int) (w : World) : (Instr.typeAssert (.iface 82 (.agg #[.int .i64 m, .int .i64 n, .int .i64 x])) 67 104 true).run Tryz.prog w = .ok (.tuple #[.agg #[.int .i64 0], .bool false]) w := by kernel_rfl

theorem ta_finite_noNumber (m n x : Int) (w : World) : (Instr.typeAssert (.iface 82 (.agg #[.int .i64 m, .int .i64 n, .int .i64 x])) 67 107 true).run Tryz.prog w = .ok (.tuple #[.agg #[], .bool false]) w := by kernel_rfl

theorem ta_infinite_finite (m : Int) (w : World) : (Instr.typeAssert (.iface 104 (.agg #[.int .i64 m])) 67 82 true).run Tryz.prog w = .ok (.tuple #[.agg #[.int .i64 0, .int .i64 0, .int .i64 0], .bool false]) w := by kernel_rfl

theorem ta_infinite_infinite (m : Int) (w : World) : (Instr.typeAssert (.iface 104 (.agg #[.int .i64 m])) 67 104 true).run Tryz.prog w = .ok (.tuple #[.agg #[.int .i64 m], .bool true]) w := by kernel_rfl

theorem ta_infinite_noNumber (m : Int) (w : World) : (Instr.typeAssert (.iface 104 (.agg #[.int .i64 m])) 67 107 true).run Tryz.prog w = .ok (.tuple #[.agg #[], .bool false]) w := by kernel_rfl

theorem ta_noNumber_finite  (w : World) : (Instr.typeAssert (.iface 107 (.agg #[])) 67 82 true).run Tryz.prog w = .ok (.tuple #[.agg #[.int .i64 0, .int .i64 0, .int .i64 0], .bool false]) w := by kernel_rfl

theorem ta_noNumber_infinite  (w : World) : (Instr.typeAssert (.iface 107 (.agg #[])) 67 104 true).run Tryz.prog w = .ok (.tuple #[.agg #[.int .i64 0], .bool false]) w := by kernel_rfl

theorem ta_noNumber_noNumber  (w : World) : (Instr.typeAssert (.iface 107 (.agg #[])) 67 107 true).run Tryz.prog w = .ok (.tuple #[.agg #[], .bool true]) w := by kernel_rfl

attribute [local go_sem] ta_finite_finite ta_finite_infinite ta_finite_noNumber ta_infinite_finite ta_infinite_infinite ta_infinite_noNumber ta_noNumber_finite ta_noNumber_infinite ta_noNumber_noNumber

set_option maxRecDepth 100000

theorem finZero_t (m n x : Int) (h : n = 0) (w : World) : Calls Tryz.prog 152 #[.agg #[.int .i64 m, .int .i64 n, .int .i64 x]] w fun rv w' => rv = .returned (.bool true) ∧ Ext w w' := by
  have := finZero_any m n x w
  rwa [show (n == 0) = true from by simp [h]] at this

theorem finZero_f (m n x : Int) (h : ¬ n = 0) (w : World) : Calls Tryz.prog 152 #[.agg #[.int .i64 m, .int .i64 n, .int .i64 x]] w fun rv w' => rv = .returned (.bool false) ∧ Ext w w' := by
  have := finZero_any m n x w
  rwa [show (n == 0) = false from by simp [h]] at this

theorem times_ff (m1 n1 x1 m2 n2 x2 sx : Int) (hs : bits .xor .i64 m1 m2 = sx) (kn : IntKind.i64.wrap (n1 * n2) = n1 * n2) (kx : IntKind.i64.wrap (x1 + x2) = x1 + x2) (w : World) :
    Calls Tryz.prog 70 #[.iface 82 (.agg #[.int .i64 m1, .int .i64 n1, .int .i64 x1]), .iface 82 (.agg #[.int .i64 m2, .int .i64 n2, .int .i64 x2])] w fun rv w' => rv = .returned (.iface 82 (.agg #[.int .i64 sx, .int .i64 (n1 * n2), .int .i64 (x1 + x2)])) ∧ Ext w w' := by
  go_enter Tryz.func70, Tryz.ntmps70
  go_wp2_with (first | (go_at_call 221; (with_reducible refine (finSign_any m1 n1 x1 _).mono ?_); rintro rv w1 ⟨rfl, hb⟩; (first | (have nx := Ext.trans hx hb; clear hx) | (have nx := Ext.trans (hx.alloc _) hb; clear hx) | (have nx := Ext.trans ((hx.alloc _).alloc _) hb; clear hx) | (have nx := Ext.trans (((hx.alloc _).alloc _).alloc _) hb; clear hx) | have nx := hb); clear hb; have hx := nx; clear nx) | (go_at_call 221; (with_reducible refine (finSign_any m2 n2 x2 _).mono ?_); rintro rv w1 ⟨rfl, hb⟩; (first | (have nx := Ext.trans hx hb; clear hx) | (have nx := Ext.trans (hx.alloc _) hb; clear hx) | (have nx := Ext.trans ((hx.alloc _).alloc _) hb; clear hx) | (have nx := Ext.trans (((hx.alloc _).alloc _).alloc _) hb; clear hx) | have nx := hb); clear hb; have hx := nx; clear nx))
  go_ret
  exact ⟨rfl, Ext.auK⟩

theorem times_fn (m1 n1 x1  sx : Int) (hs : bits .xor .i64 m1 0 = sx)  (w : World) :
    Calls Tryz.prog 70 #[.iface 82 (.agg #[.int .i64 m1, .int .i64 n1, .int .i64 x1]), .iface 107 (.agg #[])] w fun rv w' => rv = .returned (.iface 107 (.agg #[])) ∧ Ext w w' := by
  go_enter Tryz.func70, Tryz.ntmps70
  go_wp2_with (first | (go_at_call 221; (with_reducible refine (finSign_any m1 n1 x1 _).mono ?_); rintro rv w1 ⟨rfl, hb⟩; (first | (have nx := Ext.trans hx hb; clear hx) | (have nx := Ext.trans (hx.alloc _) hb; clear hx) | (have nx := Ext.trans ((hx.alloc _).alloc _) hb; clear hx) | (have nx := Ext.trans (((hx.alloc _).alloc _).alloc _) hb; clear hx) | have nx := hb); clear hb; have hx := nx; clear nx) | (go_at_call 227; (with_reducible refine (noSign_any _).mono ?_); rintro rv w1 ⟨rfl, hb⟩; (first | (have nx := Ext.trans hx hb; clear hx) | (have nx := Ext.trans (hx.alloc _) hb; clear hx) | (have nx := Ext.trans ((hx.alloc _).alloc _) hb; clear hx) | (have nx := Ext.trans (((hx.alloc _).alloc _).alloc _) hb; clear hx) | have nx := hb); clear hb; have hx := nx; clear nx))
  go_ret
  exact ⟨rfl, Ext.auK⟩

theorem times_ii (m1 m2 sx : Int) (hs : bits .xor .i64 m1 m2 = sx)  (w : World) :
    Calls Tryz.prog 70 #[.iface 104 (.agg #[.int .i64 m1]), .iface 104 (.agg #[.int .i64 m2])] w fun rv w' => rv = .returned (.iface 104 (.agg #[.int .i64 sx])) ∧ Ext w w' := by
  go_enter Tryz.func70, Tryz.ntmps70
  go_wp2_with (first | (go_at_call 224; (with_reducible refine (infSign_any m1 _).mono ?_); rintro rv w1 ⟨rfl, hb⟩; (first | (have nx := Ext.trans hx hb; clear hx) | (have nx := Ext.trans (hx.alloc _) hb; clear hx) | (have nx := Ext.trans ((hx.alloc _).alloc _) hb; clear hx) | (have nx := Ext.trans (((hx.alloc _).alloc _).alloc _) hb; clear hx) | have nx := hb); clear hb; have hx := nx; clear nx) | (go_at_call 224; (with_reducible refine (infSign_any m2 _).mono ?_); rintro rv w1 ⟨rfl, hb⟩; (first | (have nx := Ext.trans hx hb; clear hx) | (have nx := Ext.trans (hx.alloc _) hb; clear hx) | (have nx := Ext.trans ((hx.alloc _).alloc _) hb; clear hx) | (have nx := Ext.trans (((hx.alloc _).alloc _).alloc _) hb; clear hx) | have nx := hb); clear hb; have hx := nx; clear nx) | (go_at_call 222; (with_reducible refine (infZero_any m2 _).mono ?_); rintro rv w1 ⟨rfl, hb⟩; (first | (have nx := Ext.trans hx hb; clear hx) | (have nx := Ext.trans (hx.alloc _) hb; clear hx) | (have nx := Ext.trans ((hx.alloc _).alloc _) hb; clear hx) | (have nx := Ext.trans (((hx.alloc _).alloc _).alloc _) hb; clear hx) | have nx := hb); clear hb; have hx := nx; clear nx))
  go_ret
  exact ⟨rfl, Ext.auK⟩

theorem times_in (m1  sx : Int) (hs : bits .xor .i64 m1 0 = sx)  (w : World) :
    Calls Tryz.prog 70 #[.iface 104 (.agg #[.int .i64 m1]), .iface 107 (.agg #[])] w fun rv w' => rv = .returned (.iface 107 (.agg #[])) ∧ Ext w w' := by
  go_enter Tryz.func70, Tryz.ntmps70
  go_wp2_with (first | (go_at_call 224; (with_reducible refine (infSign_any m1 _).mono ?_); rintro rv w1 ⟨rfl, hb⟩; (first | (have nx := Ext.trans hx hb; clear hx) | (have nx := Ext.trans (hx.alloc _) hb; clear hx) | (have nx := Ext.trans ((hx.alloc _).alloc _) hb; clear hx) | (have nx := Ext.trans (((hx.alloc _).alloc _).alloc _) hb; clear hx) | have nx := hb); clear hb; have hx := nx; clear nx) | (go_at_call 227; (with_reducible refine (noSign_any _).mono ?_); rintro rv w1 ⟨rfl, hb⟩; (first | (have nx := Ext.trans hx hb; clear hx) | (have nx := Ext.trans (hx.alloc _) hb; clear hx) | (have nx := Ext.trans ((hx.alloc _).alloc _) hb; clear hx) | (have nx := Ext.trans (((hx.alloc _).alloc _).alloc _) hb; clear hx) | have nx := hb); clear hb; have hx := nx; clear nx))
  go_ret
  exact ⟨rfl, Ext.auK⟩

theorem times_if_t (m1 m2 n2 x2 sx : Int) (hs : bits .xor .i64 m1 m2 = sx) (h : n2 = 0) (w : World) :
    Calls Tryz.prog 70 #[.iface 104 (.agg #[.int .i64 m1]), .iface 82 (.agg #[.int .i64 m2, .int .i64 n2, .int .i64 x2])] w fun rv w' => rv = .returned (.iface 107 (.agg #[])) ∧ Ext w w' := by
  have zc := Lib.hid (fun w => finZero_t m2 n2 x2 h w); clear h
  go_enter Tryz.func70, Tryz.ntmps70
  go_wp2_with (first | (go_at_call 224; (with_reducible refine (infSign_any m1 _).mono ?_); rintro rv w1 ⟨rfl, hb⟩; (first | (have nx := Ext.trans hx hb; clear hx) | (have nx := Ext.trans (hx.alloc _) hb; clear hx) | (have nx := Ext.trans ((hx.alloc _).alloc _) hb; clear hx) | (have nx := Ext.trans (((hx.alloc _).alloc _).alloc _) hb; clear hx) | have nx := hb); clear hb; have hx := nx; clear nx) | (go_at_call 221; (with_reducible refine (finSign_any m2 n2 x2 _).mono ?_); rintro rv w1 ⟨rfl, hb⟩; (first | (have nx := Ext.trans hx hb; clear hx) | (have nx := Ext.trans (hx.alloc _) hb; clear hx) | (have nx := Ext.trans ((hx.alloc _).alloc _) hb; clear hx) | (have nx := Ext.trans (((hx.alloc _).alloc _).alloc _) hb; clear hx) | have nx := hb); clear hb; have hx := nx; clear nx) | (go_at_call 152; (with_reducible refine (zc.out _).mono ?_); rintro rv w1 ⟨rfl, hb⟩; (first | (have nx := Ext.trans hx hb; clear hx) | (have nx := Ext.trans (hx.alloc _) hb; clear hx) | (have nx := Ext.trans ((hx.alloc _).alloc _) hb; clear hx) | (have nx := Ext.trans (((hx.alloc _).alloc _).alloc _) hb; clear hx) | have nx := hb); clear hb; have hx := nx; clear nx))
  go_ret
  exact ⟨rfl, Ext.auK⟩

theorem times_fi_t (m1 n1 x1 m2 sx : Int) (hs : bits .xor .i64 m1 m2 = sx) (h : n1 = 0) (ht : bits .xor .i64 m2 m1 = sx) (w : World) :
    Calls Tryz.prog 70 #[.iface 82 (.agg #[.int .i64 m1, .int .i64 n1, .int .i64 x1]), .iface 104 (.agg #[.int .i64 m2])] w fun rv w' => rv = .returned (.iface 107 (.agg #[])) ∧ Ext w w' := by
  have zc := Lib.hid (fun w => times_if_t m2 m1 n1 x1 sx ht h w); clear h ht
  go_enter Tryz.func70, Tryz.ntmps70
  go_wp2_with (first | (go_at_call 221; (with_reducible refine (finSign_any m1 n1 x1 _).mono ?_); rintro rv w1 ⟨rfl, hb⟩; (first | (have nx := Ext.trans hx hb; clear hx) | (have nx := Ext.trans (hx.alloc _) hb; clear hx) | (have nx := Ext.trans ((hx.alloc _).alloc _) hb; clear hx) | (have nx := Ext.trans (((hx.alloc _).alloc _).alloc _) hb; clear hx) | have nx := hb); clear hb; have hx := nx; clear nx) | (go_at_call 224; (with_reducible refine (infSign_any m2 _).mono ?_); rintro rv w1 ⟨rfl, hb⟩; (first | (have nx := Ext.trans hx hb; clear hx) | (have nx := Ext.trans (hx.alloc _) hb; clear hx) | (have nx := Ext.trans ((hx.alloc _).alloc _) hb; clear hx) | (have nx := Ext.trans (((hx.alloc _).alloc _).alloc _) hb; clear hx) | have nx := hb); clear hb; have hx := nx; clear nx) | (go_at_call 70; (with_reducible refine (zc.out _).mono ?_); rintro rv w1 ⟨rfl, hb⟩; (first | (have nx := Ext.trans hx hb; clear hx) | (have nx := Ext.trans (hx.alloc _) hb; clear hx) | (have nx := Ext.trans ((hx.alloc _).alloc _) hb; clear hx) | (have nx := Ext.trans (((hx.alloc _).alloc _).alloc _) hb; clear hx) | have nx := hb); clear hb; have hx := nx; clear nx))
  go_ret
  exact ⟨rfl, Ext.auK⟩

theorem times_if_f (m1 m2 n2 x2 sx : Int) (hs : bits .xor .i64 m1 m2 = sx) (h : ¬ n2 = 0) (w : World) :
    Calls Tryz.prog 70 #[.iface 104 (.agg #[.int .i64 m1]), .iface 82 (.agg #[.int .i64 m2, .int .i64 n2, .int .i64 x2])] w fun rv w' => rv = .returned (.iface 104 (.agg #[.int .i64 sx])) ∧ Ext w w' := by
  have zc := Lib.hid (fun w => finZero_f m2 n2 x2 h w); clear h
  go_enter Tryz.func70, Tryz.ntmps70
  go_wp2_with (first | (go_at_call 224; (with_reducible refine (infSign_any m1 _).mono ?_); rintro rv w1 ⟨rfl, hb⟩; (first | (have nx := Ext.trans hx hb; clear hx) | (have nx := Ext.trans (hx.alloc _) hb; clear hx) | (have nx := Ext.trans ((hx.alloc _).alloc _) hb; clear hx) | (have nx := Ext.trans (((hx.alloc _).alloc _).alloc _) hb; clear hx) | have nx := hb); clear hb; have hx := nx; clear nx) | (go_at_call 221; (with_reducible refine (finSign_any m2 n2 x2 _).mono ?_); rintro rv w1 ⟨rfl, hb⟩; (first | (have nx := Ext.trans hx hb; clear hx) | (have nx := Ext.trans (hx.alloc _) hb; clear hx) | (have nx := Ext.trans ((hx.alloc _).alloc _) hb; clear hx) | (have nx := Ext.trans (((hx.alloc _).alloc _).alloc _) hb; clear hx) | have nx := hb); clear hb; have hx := nx; clear nx) | (go_at_call 152; (with_reducible refine (zc.out _).mono ?_); rintro rv w1 ⟨rfl, hb⟩; (first | (have nx := Ext.trans hx hb; clear hx) | (have nx := Ext.trans (hx.alloc _) hb; clear hx) | (have nx := Ext.trans ((hx.alloc _).alloc _) hb; clear hx) | (have nx := Ext.trans (((hx.alloc _).alloc _).alloc _) hb; clear hx) | have nx := hb); clear hb; have hx := nx; clear nx))
  go_ret
  exact ⟨rfl, Ext.auK⟩

theorem times_fi_f (m1 n1 x1 m2 sx : Int) (hs : bits .xor .i64 m1 m2 = sx) (h : ¬ n1 = 0) (ht : bits .xor .i64 m2 m1 = sx) (w : World) :
    Calls Tryz.prog 70 #[.iface 82 (.agg #[.int .i64 m1, .int .i64 n1, .int .i64 x1]), .iface 104 (.agg #[.int .i64 m2])] w fun rv w' => rv = .returned (.iface 104 (.agg #[.int .i64 sx])) ∧ Ext w w' := by
  have zc := Lib.hid (fun w => times_if_f m2 m1 n1 x1 sx ht h w); clear h ht
  go_enter Tryz.func70, Tryz.ntmps70
  go_wp2_with (first | (go_at_call 221; (with_reducible refine (finSign_any m1 n1 x1 _).mono ?_); rintro rv w1 ⟨rfl, hb⟩; (first | (have nx := Ext.trans hx hb; clear hx) | (have nx := Ext.trans (hx.alloc _) hb; clear hx) | (have nx := Ext.trans ((hx.alloc _).alloc _) hb; clear hx) | (have nx := Ext.trans (((hx.alloc _).alloc _).alloc _) hb; clear hx) | have nx := hb); clear hb; have hx := nx; clear nx) | (go_at_call 224; (with_reducible refine (infSign_any m2 _).mono ?_); rintro rv w1 ⟨rfl, hb⟩; (first | (have nx := Ext.trans hx hb; clear hx) | (have nx := Ext.trans (hx.alloc _) hb; clear hx) | (have nx := Ext.trans ((hx.alloc _).alloc _) hb; clear hx) | (have nx := Ext.trans (((hx.alloc _).alloc _).alloc _) hb; clear hx) | have nx := hb); clear hb; have hx := nx; clear nx) | (go_at_call 70; (with_reducible refine (zc.out _).mono ?_); rintro rv w1 ⟨rfl, hb⟩; (first | (have nx := Ext.trans hx hb; clear hx) | (have nx := Ext.trans (hx.alloc _) hb; clear hx) | (have nx := Ext.trans ((hx.alloc _).alloc _) hb; clear hx) | (have nx := Ext.trans (((hx.alloc _).alloc _).alloc _) hb; clear hx) | have nx := hb); clear hb; have hx := nx; clear nx))
  go_ret
  exact ⟨rfl, Ext.auK⟩

theorem times_nf (m2 n2 x2 sx : Int) (hs : bits .xor .i64 0 m2 = sx)  (w : World) :
    Calls Tryz.prog 70 #[.iface 107 (.agg #[]), .iface 82 (.agg #[.int .i64 m2, .int .i64 n2, .int .i64 x2])] w fun rv w' => rv = .returned (.iface 107 (.agg #[])) ∧ Ext w w' := by
  go_enter Tryz.func70, Tryz.ntmps70
  go_wp2_with (first | (go_at_call 227; (with_reducible refine (noSign_any _).mono ?_); rintro rv w1 ⟨rfl, hb⟩; (first | (have nx := Ext.trans hx hb; clear hx) | (have nx := Ext.trans (hx.alloc _) hb; clear hx) | (have nx := Ext.trans ((hx.alloc _).alloc _) hb; clear hx) | (have nx := Ext.trans (((hx.alloc _).alloc _).alloc _) hb; clear hx) | have nx := hb); clear hb; have hx := nx; clear nx) | (go_at_call 221; (with_reducible refine (finSign_any m2 n2 x2 _).mono ?_); rintro rv w1 ⟨rfl, hb⟩; (first | (have nx := Ext.trans hx hb; clear hx) | (have nx := Ext.trans (hx.alloc _) hb; clear hx) | (have nx := Ext.trans ((hx.alloc _).alloc _) hb; clear hx) | (have nx := Ext.trans (((hx.alloc _).alloc _).alloc _) hb; clear hx) | have nx := hb); clear hb; have hx := nx; clear nx))
  go_ret
  exact ⟨rfl, Ext.auK⟩

theorem times_ni (m2 sx : Int) (hs : bits .xor .i64 0 m2 = sx)  (w : World) :
    Calls Tryz.prog 70 #[.iface 107 (.agg #[]), .iface 104 (.agg #[.int .i64 m2])] w fun rv w' => rv = .returned (.iface 107 (.agg #[])) ∧ Ext w w' := by
  go_enter Tryz.func70, Tryz.ntmps70
  go_wp2_with (first | (go_at_call 227; (with_reducible refine (noSign_any _).mono ?_); rintro rv w1 ⟨rfl, hb⟩; (first | (have nx := Ext.trans hx hb; clear hx) | (have nx := Ext.trans (hx.alloc _) hb; clear hx) | (have nx := Ext.trans ((hx.alloc _).alloc _) hb; clear hx) | (have nx := Ext.trans (((hx.alloc _).alloc _).alloc _) hb; clear hx) | have nx := hb); clear hb; have hx := nx; clear nx) | (go_at_call 224; (with_reducible refine (infSign_any m2 _).mono ?_); rintro rv w1 ⟨rfl, hb⟩; (first | (have nx := Ext.trans hx hb; clear hx) | (have nx := Ext.trans (hx.alloc _) hb; clear hx) | (have nx := Ext.trans ((hx.alloc _).alloc _) hb; clear hx) | (have nx := Ext.trans (((hx.alloc _).alloc _).alloc _) hb; clear hx) | have nx := hb); clear hb; have hx := nx; clear nx))
  go_ret
  exact ⟨rfl, Ext.auK⟩

theorem times_nn (sx : Int) (hs : bits .xor .i64 0 0 = sx)  (w : World) :
    Calls Tryz.prog 70 #[.iface 107 (.agg #[]), .iface 107 (.agg #[])] w fun rv w' => rv = .returned (.iface 107 (.agg #[])) ∧ Ext w w' := by
  go_enter Tryz.func70, Tryz.ntmps70
  go_wp2_with (first | (go_at_call 227; (with_reducible refine (noSign_any _).mono ?_); rintro rv w1 ⟨rfl, hb⟩; (first | (have nx := Ext.trans hx hb; clear hx) | (have nx := Ext.trans (hx.alloc _) hb; clear hx) | (have nx := Ext.trans ((hx.alloc _).alloc _) hb; clear hx) | (have nx := Ext.trans (((hx.alloc _).alloc _).alloc _) hb; clear hx) | have nx := hb); clear hb; have hx := nx; clear nx) | (go_at_call 227; (with_reducible refine (noSign_any _).mono ?_); rintro rv w1 ⟨rfl, hb⟩; (first | (have nx := Ext.trans hx hb; clear hx) | (have nx := Ext.trans (hx.alloc _) hb; clear hx) | (have nx := Ext.trans ((hx.alloc _).alloc _) hb; clear hx) | (have nx := Ext.trans (((hx.alloc _).alloc _).alloc _) hb; clear hx) | have nx := hb); clear hb; have hx := nx; clear nx))
  go_ret
  exact ⟨rfl, Ext.auK⟩
end Go.Proofs.YtfgbndjhaiigbaaGreatDoor

namespace Go.Proofs.YtfgbndjhaiigbaaGreatDoor
open Go Go.RowKit
set_option linter.unusedSimpArgs false
set_option linter.unusedVariables false

attribute [local go_sem] ta_finite_finite ta_finite_infinite ta_finite_noNumber ta_infinite_finite ta_infinite_infinite ta_infinite_noNumber ta_noNumber_finite ta_noNumber_infinite ta_noNumber_noNumber

set_option maxRecDepth 100000

theorem plus_fi (e f mode m1 n1 x1 m2 : Int)  (w : World) :
    Calls Tryz.prog 66 #[fmt e f, .iface 82 (.agg #[.int .i64 m1, .int .i64 n1, .int .i64 x1]), .iface 104 (.agg #[.int .i64 m2]), .int .i64 mode] w fun rv w' => rv = .returned (.iface 104 (.agg #[.int .i64 m2])) ∧ Ext w w' := by
  go_enter Tryz.func66, Tryz.ntmps66
  go_wp2
  go_ret
  exact ⟨rfl, Ext.auK⟩

theorem plus_fn (e f mode m1 n1 x1 : Int)  (w : World) :
    Calls Tryz.prog 66 #[fmt e f, .iface 82 (.agg #[.int .i64 m1, .int .i64 n1, .int .i64 x1]), .iface 107 (.agg #[]), .int .i64 mode] w fun rv w' => rv = .returned (.iface 107 (.agg #[])) ∧ Ext w w' := by
  go_enter Tryz.func66, Tryz.ntmps66
  go_wp2
  go_ret
  exact ⟨rfl, Ext.auK⟩

theorem plus_if (e f mode m1 m2 n2 x2 : Int)  (w : World) :
    Calls Tryz.prog 66 #[fmt e f, .iface 104 (.agg #[.int .i64 m1]), .iface 82 (.agg #[.int .i64 m2, .int .i64 n2, .int .i64 x2]), .int .i64 mode] w fun rv w' => rv = .returned (.iface 104 (.agg #[.int .i64 m1])) ∧ Ext w w' := by
  go_enter Tryz.func66, Tryz.ntmps66
  go_wp2
  go_ret
  exact ⟨rfl, Ext.auK⟩

theorem plus_ii_t (e f mode m1 m2 : Int) (h : m1 = m2) (w : World) :
    Calls Tryz.prog 66 #[fmt e f, .iface 104 (.agg #[.int .i64 m1]), .iface 104 (.agg #[.int .i64 m2]), .int .i64 mode] w fun rv w' => rv = .returned (.iface 104 (.agg #[.int .i64 m1])) ∧ Ext w w' := by
  subst h
  go_enter Tryz.func66, Tryz.ntmps66
  go_wp2
  go_ret
  exact ⟨rfl, Ext.auK⟩

theorem plus_ii_f (e f mode m1 m2 : Int) (h : ¬ m1 = m2) (w : World) :
    Calls Tryz.prog 66 #[fmt e f, .iface 104 (.agg #[.int .i64 m1]), .iface 104 (.agg #[.int .i64 m2]), .int .i64 mode] w fun rv w' => rv = .returned (.iface 107 (.agg #[])) ∧ Ext w w' := by
  go_enter Tryz.func66, Tryz.ntmps66
  go_wp2
  go_ret
  exact ⟨rfl, Ext.auK⟩

theorem plus_in (e f mode m1 : Int)  (w : World) :
    Calls Tryz.prog 66 #[fmt e f, .iface 104 (.agg #[.int .i64 m1]), .iface 107 (.agg #[]), .int .i64 mode] w fun rv w' => rv = .returned (.iface 107 (.agg #[])) ∧ Ext w w' := by
  go_enter Tryz.func66, Tryz.ntmps66
  go_wp2
  go_ret
  exact ⟨rfl, Ext.auK⟩

theorem plus_nf (e f mode  m2 n2 x2 : Int)  (w : World) :
    Calls Tryz.prog 66 #[fmt e f, .iface 107 (.agg #[]), .iface 82 (.agg #[.int .i64 m2, .int .i64 n2, .int .i64 x2]), .int .i64 mode] w fun rv w' => rv = .returned (.iface 107 (.agg #[])) ∧ Ext w w' := by
  go_enter Tryz.func66, Tryz.ntmps66
  go_wp2
  go_ret
  exact ⟨rfl, Ext.auK⟩

theorem plus_ni (e f mode  m2 : Int)  (w : World) :
    Calls Tryz.prog 66 #[fmt e f, .iface 107 (.agg #[]), .iface 104 (.agg #[.int .i64 m2]), .int .i64 mode] w fun rv w' => rv = .returned (.iface 107 (.agg #[])) ∧ Ext w w' := by
  go_enter Tryz.func66, Tryz.ntmps66
  go_wp2
  go_ret
  exact ⟨rfl, Ext.auK⟩

theorem plus_nn (e f mode : Int)  (w : World) :
    Calls Tryz.prog 66 #[fmt e f, .iface 107 (.agg #[]), .iface 107 (.agg #[]), .int .i64 mode] w fun rv w' => rv = .returned (.iface 107 (.agg #[])) ∧ Ext w w' := by
  go_enter Tryz.func66, Tryz.ntmps66
  go_wp2
  go_ret
  exact ⟨rfl, Ext.auK⟩
end Go.Proofs.YtfgbndjhaiigbaaGreatDoor

namespace Go.Proofs.YtfgbndjhaiigbaaGreatDoor
open Go Go.RowKit
set_option linter.unusedSimpArgs false
set_option linter.unusedVariables false
set_option maxRecDepth 100000

theorem quarters_p0 (e f n x : Int) (hG : goodB e f = true) (v0 : 0 ≤ n) (k0 : unV e f - 2 ≤ x) (k1 : x ≤ unV e f + 58) (kb : n * pw (x - (unV e f - 2)) ≤ 2305843009213693952) (w : World) : Calls Tryz.prog 149 #[.agg #[.int .i64 0, .int .i64 n, .int .i64 x], fmt e f] w fun rv w' => rv = .returned (.int .i64 ((oqV (n * pw (x - (unV e f - 2))) 2))) ∧ Ext w w' := by
  obtain ⟨h1, h2, h3, h4⟩ := good_iff.1 hG
  obtain ⟨⟨a1, a2⟩, ⟨b1, b2⟩, ⟨c1, c2⟩, hmul⟩ := pw_facts h1 h2 h3 h4
  have Hmul := Lib.hid hmul; clear hmul
  have QP := Lib.hid (fun w => quarterPower_any e f hG w)
  generalize unV e f = u at *
  generalize hd : x - (u - 2) = d at *
  have d0 : 0 ≤ d := by omega
  have d1 : d ≤ 60 := by omega
  have kx : IntKind.i64.wrap d = d := IntWalk.i64_in _ (by omega)
  clear k0 k1
  have pp := pw_pos d
  have nn : 0 ≤ n * pw d := Int.mul_nonneg v0 (by omega)
  have OQ := Lib.hid (fun w => oddQuotient_any (n * pw d) 2 (by omega) (by omega) kb w)
  have ky : IntKind.i64.wrap (-d) = -d := IntWalk.i64_in _ (by omega)
  have kz : max d 0 = d := by omega
  have kv : max (-d) 0 = 0 := by omega
  have kw : min d.toNat 64 = d.toNat := by omega
  have ks : IntKind.i64.wrap (n * pw d) = n * pw d := IntWalk.i64_in _ (by omega)
  have kp := pw_of d
  go_enter Tryz.func149, Tryz.ntmps149
  go_wp2_with fail
  go_region_held3 (fun w' => w'.cell? ⟨w.heap.size, 0, none⟩ = some (.int .i64 0) ∧ w'.cell? ⟨w.heap.size, 1, none⟩ = some (.int .i64 n) ∧ w'.cell? ⟨w.heap.size, 2, none⟩ = some (.int .i64 x) ∧ w'.cell? ⟨w.heap.size + 1, 0, none⟩ = some (.int .i64 e) ∧ w'.cell? ⟨w.heap.size + 1, 1, none⟩ = some (.int .i64 f) ∧ w.heap.size + 1 < w'.heap.size) ((refine ⟨?_, ?_, ?_, ?_, ?_, ?_⟩ <;> first | with_reducible assumption | ((rw [cell_setRow_far _ _ _ _ _ (by omega)]); with_reducible assumption) | ((rw [setRow_size]); with_reducible assumption) | ((repeat rw [World.cell?_setCell_far _ _ _ _ (by simp)]); with_reducible assumption) | (simp; done) | (simp [World.setCell]; first | done | omega) | (simp [go_sem, World.cell?_alloc_past, World.cell?_setCell_far, *]; done))) ((first | (go_at_call 150; refine (QP.out _).mono ?_; rintro rv w1 ⟨rfl, hb⟩; have ns : w.heap.size + 1 < w1.heap.size := hb.ltK; have n0 : w1.cell? ⟨w.heap.size, 0, none⟩ = some (.int .i64 0) := hb.cellK; have n1 : w1.cell? ⟨w.heap.size, 1, none⟩ = some (.int .i64 n) := hb.cellK; have n2 : w1.cell? ⟨w.heap.size, 2, none⟩ = some (.int .i64 x) := hb.cellK; have n3 : w1.cell? ⟨w.heap.size + 1, 0, none⟩ = some (.int .i64 e) := hb.cellK; have n4 : w1.cell? ⟨w.heap.size + 1, 1, none⟩ = some (.int .i64 f) := hb.cellK; (first | (have nx := Ext.trans hx hb; clear hx) | (have nx := Ext.trans (hx.alloc _) hb; clear hx) | (have nx := Ext.trans hx.drew hb; clear hx) | have nx := hb); clear hb; try clear hs; try clear g0; try clear g1; try clear g2; try clear g3; try clear g4; have hx := nx; clear nx; have hs := ns; clear ns; have g0 := n0; clear n0; have g1 := n1; clear n1; have g2 := n2; clear n2; have g3 := n3; clear n3; have g4 := n4; clear n4)))
  go_wp2_with fail
  go_region_held3 (fun w' => w'.cell? ⟨w.heap.size, 0, none⟩ = some (.int .i64 0) ∧ w'.cell? ⟨w.heap.size, 1, none⟩ = some (.int .i64 n) ∧ w'.cell? ⟨w.heap.size, 2, none⟩ = some (.int .i64 x) ∧ w'.cell? ⟨w.heap.size + 1, 0, none⟩ = some (.int .i64 e) ∧ w'.cell? ⟨w.heap.size + 1, 1, none⟩ = some (.int .i64 f) ∧ w.heap.size + 1 < w'.heap.size) ((refine ⟨?_, ?_, ?_, ?_, ?_, ?_⟩ <;> first | with_reducible assumption | ((rw [cell_setRow_far _ _ _ _ _ (by omega)]); with_reducible assumption) | ((rw [setRow_size]); with_reducible assumption) | ((repeat rw [World.cell?_setCell_far _ _ _ _ (by simp)]); with_reducible assumption) | (simp; done) | (simp [World.setCell]; first | done | omega) | (simp [go_sem, World.cell?_alloc_past, World.cell?_setCell_far, *]; done))) ((first | (go_at_call 153; refine (OQ.out _).mono ?_; rintro rv w1 ⟨rfl, hb⟩; have ns : w.heap.size + 1 < w1.heap.size := hb.ltK; have n0 : w1.cell? ⟨w.heap.size, 0, none⟩ = some (.int .i64 0) := hb.cellK; have n1 : w1.cell? ⟨w.heap.size, 1, none⟩ = some (.int .i64 n) := hb.cellK; have n2 : w1.cell? ⟨w.heap.size, 2, none⟩ = some (.int .i64 x) := hb.cellK; have n3 : w1.cell? ⟨w.heap.size + 1, 0, none⟩ = some (.int .i64 e) := hb.cellK; have n4 : w1.cell? ⟨w.heap.size + 1, 1, none⟩ = some (.int .i64 f) := hb.cellK; (first | (have nx := Ext.trans hx hb; clear hx) | (have nx := Ext.trans (hx.alloc _) hb; clear hx) | (have nx := Ext.trans hx.drew hb; clear hx) | have nx := hb); clear hb; try clear hs; try clear g0; try clear g1; try clear g2; try clear g3; try clear g4; have hx := nx; clear nx; have hs := ns; clear ns; have g0 := n0; clear n0; have g1 := n1; clear n1; have g2 := n2; clear n2; have g3 := n3; clear n3; have g4 := n4; clear n4)))
  go_wp2_with fail
  all_goals (go_ret; exact ⟨rfl, Ext.auK⟩)

theorem quarters_n0 (e f n x : Int) (hG : goodB e f = true) (v0 : 0 ≤ n) (k0 : x < unV e f - 2) (k1 : unV e f - 2 - x ≤ 60) (kb : n ≤ 2305843009213693952) (w : World) : Calls Tryz.prog 149 #[.agg #[.int .i64 0, .int .i64 n, .int .i64 x], fmt e f] w fun rv w' => rv = .returned (.int .i64 ((oqV n (2 * pw (unV e f - 2 - x))))) ∧ Ext w w' := by
  obtain ⟨h1, h2, h3, h4⟩ := good_iff.1 hG
  obtain ⟨⟨a1, a2⟩, ⟨b1, b2⟩, ⟨c1, c2⟩, hmul⟩ := pw_facts h1 h2 h3 h4
  have Hmul := Lib.hid hmul; clear hmul
  have QP := Lib.hid (fun w => quarterPower_any e f hG w)
  generalize unV e f = u at *
  generalize hc : u - 2 - x = c at *
  have hd : x - (u - 2) = -c := by omega
  clear hc
  have d0 : 0 ≤ c := by omega
  clear k0
  have kx : IntKind.i64.wrap c = c := IntWalk.i64_in _ (by omega)
  have ky : IntKind.i64.wrap (-c) = -c := IntWalk.i64_in _ (by omega)
  have pp := pw_pos c
  have pq : pw c ≤ 1152921504606846976 := by
    have := pw_mono (a := c) (b := 60) (by omega)
    have e60 : pw 60 = 1152921504606846976 := by decide
    omega
  have OQ := Lib.hid (fun w => oddQuotient_any n (2 * pw c) (by omega) (by omega) kb w)
  have kz : max (-c) 0 = 0 := by omega
  have kv : max c 0 = c := by omega
  have kw : min c.toNat 64 = c.toNat := by omega
  have ks : IntKind.i64.wrap (2 * pw c) = 2 * pw c := IntWalk.i64_in _ (by omega)
  have kn : IntKind.i64.wrap n = n := IntWalk.i64_in _ (by omega)
  have kp := pw_of c
  go_enter Tryz.func149, Tryz.ntmps149
  go_wp2_with fail
  go_region_held3 (fun w' => w'.cell? ⟨w.heap.size, 0, none⟩ = some (.int .i64 0) ∧ w'.cell? ⟨w.heap.size, 1, none⟩ = some (.int .i64 n) ∧ w'.cell? ⟨w.heap.size, 2, none⟩ = some (.int .i64 x) ∧ w'.cell? ⟨w.heap.size + 1, 0, none⟩ = some (.int .i64 e) ∧ w'.cell? ⟨w.heap.size + 1, 1, none⟩ = some (.int .i64 f) ∧ w.heap.size + 1 < w'.heap.size) ((refine ⟨?_, ?_, ?_, ?_, ?_, ?_⟩ <;> first | with_reducible assumption | ((rw [cell_setRow_far _ _ _ _ _ (by omega)]); with_reducible assumption) | ((rw [setRow_size]); with_reducible assumption) | ((repeat rw [World.cell?_setCell_far _ _ _ _ (by simp)]); with_reducible assumption) | (simp; done) | (simp [World.setCell]; first | done | omega) | (simp [go_sem, World.cell?_alloc_past, World.cell?_setCell_far, *]; done))) ((first | (go_at_call 150; refine (QP.out _).mono ?_; rintro rv w1 ⟨rfl, hb⟩; have ns : w.heap.size + 1 < w1.heap.size := hb.ltK; have n0 : w1.cell? ⟨w.heap.size, 0, none⟩ = some (.int .i64 0) := hb.cellK; have n1 : w1.cell? ⟨w.heap.size, 1, none⟩ = some (.int .i64 n) := hb.cellK; have n2 : w1.cell? ⟨w.heap.size, 2, none⟩ = some (.int .i64 x) := hb.cellK; have n3 : w1.cell? ⟨w.heap.size + 1, 0, none⟩ = some (.int .i64 e) := hb.cellK; have n4 : w1.cell? ⟨w.heap.size + 1, 1, none⟩ = some (.int .i64 f) := hb.cellK; (first | (have nx := Ext.trans hx hb; clear hx) | (have nx := Ext.trans (hx.alloc _) hb; clear hx) | (have nx := Ext.trans hx.drew hb; clear hx) | have nx := hb); clear hb; try clear hs; try clear g0; try clear g1; try clear g2; try clear g3; try clear g4; have hx := nx; clear nx; have hs := ns; clear ns; have g0 := n0; clear n0; have g1 := n1; clear n1; have g2 := n2; clear n2; have g3 := n3; clear n3; have g4 := n4; clear n4)))
  go_wp2_with fail
  go_region_held3 (fun w' => w'.cell? ⟨w.heap.size, 0, none⟩ = some (.int .i64 0) ∧ w'.cell? ⟨w.heap.size, 1, none⟩ = some (.int .i64 n) ∧ w'.cell? ⟨w.heap.size, 2, none⟩ = some (.int .i64 x) ∧ w'.cell? ⟨w.heap.size + 1, 0, none⟩ = some (.int .i64 e) ∧ w'.cell? ⟨w.heap.size + 1, 1, none⟩ = some (.int .i64 f) ∧ w.heap.size + 1 < w'.heap.size) ((refine ⟨?_, ?_, ?_, ?_, ?_, ?_⟩ <;> first | with_reducible assumption | ((rw [cell_setRow_far _ _ _ _ _ (by omega)]); with_reducible assumption) | ((rw [setRow_size]); with_reducible assumption) | ((repeat rw [World.cell?_setCell_far _ _ _ _ (by simp)]); with_reducible assumption) | (simp; done) | (simp [World.setCell]; first | done | omega) | (simp [go_sem, World.cell?_alloc_past, World.cell?_setCell_far, *]; done))) ((first | (go_at_call 153; refine (OQ.out _).mono ?_; rintro rv w1 ⟨rfl, hb⟩; have ns : w.heap.size + 1 < w1.heap.size := hb.ltK; have n0 : w1.cell? ⟨w.heap.size, 0, none⟩ = some (.int .i64 0) := hb.cellK; have n1 : w1.cell? ⟨w.heap.size, 1, none⟩ = some (.int .i64 n) := hb.cellK; have n2 : w1.cell? ⟨w.heap.size, 2, none⟩ = some (.int .i64 x) := hb.cellK; have n3 : w1.cell? ⟨w.heap.size + 1, 0, none⟩ = some (.int .i64 e) := hb.cellK; have n4 : w1.cell? ⟨w.heap.size + 1, 1, none⟩ = some (.int .i64 f) := hb.cellK; (first | (have nx := Ext.trans hx hb; clear hx) | (have nx := Ext.trans (hx.alloc _) hb; clear hx) | (have nx := Ext.trans hx.drew hb; clear hx) | have nx := hb); clear hb; try clear hs; try clear g0; try clear g1; try clear g2; try clear g3; try clear g4; have hx := nx; clear nx; have hs := ns; clear ns; have g0 := n0; clear n0; have g1 := n1; clear n1; have g2 := n2; clear n2; have g3 := n3; clear n3; have g4 := n4; clear n4)))
  go_wp2_with fail
  all_goals (go_ret; exact ⟨rfl, Ext.auK⟩)

theorem quarters_p1 (e f n x : Int) (hG : goodB e f = true) (v0 : 0 ≤ n) (k0 : unV e f - 2 ≤ x) (k1 : x ≤ unV e f + 58) (kb : n * pw (x - (unV e f - 2)) ≤ 2305843009213693952) (w : World) : Calls Tryz.prog 149 #[.agg #[.int .i64 1, .int .i64 n, .int .i64 x], fmt e f] w fun rv w' => rv = .returned (.int .i64 (-(oqV (n * pw (x - (unV e f - 2))) 2))) ∧ Ext w w' := by
  obtain ⟨h1, h2, h3, h4⟩ := good_iff.1 hG
  obtain ⟨⟨a1, a2⟩, ⟨b1, b2⟩, ⟨c1, c2⟩, hmul⟩ := pw_facts h1 h2 h3 h4
  have Hmul := Lib.hid hmul; clear hmul
  have QP := Lib.hid (fun w => quarterPower_any e f hG w)
  generalize unV e f = u at *
  generalize hd : x - (u - 2) = d at *
  have d0 : 0 ≤ d := by omega
  have d1 : d ≤ 60 := by omega
  have kx : IntKind.i64.wrap d = d := IntWalk.i64_in _ (by omega)
  clear k0 k1
  have pp := pw_pos d
  have nn : 0 ≤ n * pw d := Int.mul_nonneg v0 (by omega)
  have OQ := Lib.hid (fun w => oddQuotient_any (n * pw d) 2 (by omega) (by omega) kb w)
  have ky : IntKind.i64.wrap (-d) = -d := IntWalk.i64_in _ (by omega)
  have kz : max d 0 = d := by omega
  have kv : max (-d) 0 = 0 := by omega
  have kw : min d.toNat 64 = d.toNat := by omega
  have ks : IntKind.i64.wrap (n * pw d) = n * pw d := IntWalk.i64_in _ (by omega)
  have kp := pw_of d
  have bd := oq_bd (n := n * pw d) (d := 2) (b := 2305843009213693952) (by omega) (by omega) (by omega)
  have kneg : IntKind.i64.wrap (-(oqV (n * pw d) (2))) = -(oqV (n * pw d) (2)) := IntWalk.i64_in _ (by omega)
  clear bd
  go_enter Tryz.func149, Tryz.ntmps149
  go_wp2_with fail
  go_region_held3 (fun w' => w'.cell? ⟨w.heap.size, 0, none⟩ = some (.int .i64 1) ∧ w'.cell? ⟨w.heap.size, 1, none⟩ = some (.int .i64 n) ∧ w'.cell? ⟨w.heap.size, 2, none⟩ = some (.int .i64 x) ∧ w'.cell? ⟨w.heap.size + 1, 0, none⟩ = some (.int .i64 e) ∧ w'.cell? ⟨w.heap.size + 1, 1, none⟩ = some (.int .i64 f) ∧ w.heap.size + 1 < w'.heap.size) ((refine ⟨?_, ?_, ?_, ?_, ?_, ?_⟩ <;> first | with_reducible assumption | ((rw [cell_setRow_far _ _ _ _ _ (by omega)]); with_reducible assumption) | ((rw [setRow_size]); with_reducible assumption) | ((repeat rw [World.cell?_setCell_far _ _ _ _ (by simp)]); with_reducible assumption) | (simp; done) | (simp [World.setCell]; first | done | omega) | (simp [go_sem, World.cell?_alloc_past, World.cell?_setCell_far, *]; done))) ((first | (go_at_call 150; refine (QP.out _).mono ?_; rintro rv w1 ⟨rfl, hb⟩; have ns : w.heap.size + 1 < w1.heap.size := hb.ltK; have n0 : w1.cell? ⟨w.heap.size, 0, none⟩ = some (.int .i64 1) := hb.cellK; have n1 : w1.cell? ⟨w.heap.size, 1, none⟩ = some (.int .i64 n) := hb.cellK; have n2 : w1.cell? ⟨w.heap.size, 2, none⟩ = some (.int .i64 x) := hb.cellK; have n3 : w1.cell? ⟨w.heap.size + 1, 0, none⟩ = some (.int .i64 e) := hb.cellK; have n4 : w1.cell? ⟨w.heap.size + 1, 1, none⟩ = some (.int .i64 f) := hb.cellK; (first | (have nx := Ext.trans hx hb; clear hx) | (have nx := Ext.trans (hx.alloc _) hb; clear hx) | (have nx := Ext.trans hx.drew hb; clear hx) | have nx := hb); clear hb; try clear hs; try clear g0; try clear g1; try clear g2; try clear g3; try clear g4; have hx := nx; clear nx; have hs := ns; clear ns; have g0 := n0; clear n0; have g1 := n1; clear n1; have g2 := n2; clear n2; have g3 := n3; clear n3; have g4 := n4; clear n4)))
  go_wp2_with fail
  go_region_held3 (fun w' => w'.cell? ⟨w.heap.size, 0, none⟩ = some (.int .i64 1) ∧ w'.cell? ⟨w.heap.size, 1, none⟩ = some (.int .i64 n) ∧ w'.cell? ⟨w.heap.size, 2, none⟩ = some (.int .i64 x) ∧ w'.cell? ⟨w.heap.size + 1, 0, none⟩ = some (.int .i64 e) ∧ w'.cell? ⟨w.heap.size + 1, 1, none⟩ = some (.int .i64 f) ∧ w.heap.size + 1 < w'.heap.size) ((refine ⟨?_, ?_, ?_, ?_, ?_, ?_⟩ <;> first | with_reducible assumption | ((rw [cell_setRow_far _ _ _ _ _ (by omega)]); with_reducible assumption) | ((rw [setRow_size]); with_reducible assumption) | ((repeat rw [World.cell?_setCell_far _ _ _ _ (by simp)]); with_reducible assumption) | (simp; done) | (simp [World.setCell]; first | done | omega) | (simp [go_sem, World.cell?_alloc_past, World.cell?_setCell_far, *]; done))) ((first | (go_at_call 153; refine (OQ.out _).mono ?_; rintro rv w1 ⟨rfl, hb⟩; have ns : w.heap.size + 1 < w1.heap.size := hb.ltK; have n0 : w1.cell? ⟨w.heap.size, 0, none⟩ = some (.int .i64 1) := hb.cellK; have n1 : w1.cell? ⟨w.heap.size, 1, none⟩ = some (.int .i64 n) := hb.cellK; have n2 : w1.cell? ⟨w.heap.size, 2, none⟩ = some (.int .i64 x) := hb.cellK; have n3 : w1.cell? ⟨w.heap.size + 1, 0, none⟩ = some (.int .i64 e) := hb.cellK; have n4 : w1.cell? ⟨w.heap.size + 1, 1, none⟩ = some (.int .i64 f) := hb.cellK; (first | (have nx := Ext.trans hx hb; clear hx) | (have nx := Ext.trans (hx.alloc _) hb; clear hx) | (have nx := Ext.trans hx.drew hb; clear hx) | have nx := hb); clear hb; try clear hs; try clear g0; try clear g1; try clear g2; try clear g3; try clear g4; have hx := nx; clear nx; have hs := ns; clear ns; have g0 := n0; clear n0; have g1 := n1; clear n1; have g2 := n2; clear n2; have g3 := n3; clear n3; have g4 := n4; clear n4)))
  go_wp2_with fail
  all_goals (go_ret; exact ⟨rfl, Ext.auK⟩)

theorem quarters_n1 (e f n x : Int) (hG : goodB e f = true) (v0 : 0 ≤ n) (k0 : x < unV e f - 2) (k1 : unV e f - 2 - x ≤ 60) (kb : n ≤ 2305843009213693952) (w : World) : Calls Tryz.prog 149 #[.agg #[.int .i64 1, .int .i64 n, .int .i64 x], fmt e f] w fun rv w' => rv = .returned (.int .i64 (-(oqV n (2 * pw (unV e f - 2 - x))))) ∧ Ext w w' := by
  obtain ⟨h1, h2, h3, h4⟩ := good_iff.1 hG
  obtain ⟨⟨a1, a2⟩, ⟨b1, b2⟩, ⟨c1, c2⟩, hmul⟩ := pw_facts h1 h2 h3 h4
  have Hmul := Lib.hid hmul; clear hmul
  have QP := Lib.hid (fun w => quarterPower_any e f hG w)
  generalize unV e f = u at *
  generalize hc : u - 2 - x = c at *
  have hd : x - (u - 2) = -c := by omega
  clear hc
  have d0 : 0 ≤ c := by omega
  clear k0
  have kx : IntKind.i64.wrap c = c := IntWalk.i64_in _ (by omega)
  have ky : IntKind.i64.wrap (-c) = -c := IntWalk.i64_in _ (by omega)
  have pp := pw_pos c
  have pq : pw c ≤ 1152921504606846976 := by
    have := pw_mono (a := c) (b := 60) (by omega)
    have e60 : pw 60 = 1152921504606846976 := by decide
    omega
  have OQ := Lib.hid (fun w => oddQuotient_any n (2 * pw c) (by omega) (by omega) kb w)
  have kz : max (-c) 0 = 0 := by omega
  have kv : max c 0 = c := by omega
  have kw : min c.toNat 64 = c.toNat := by omega
  have ks : IntKind.i64.wrap (2 * pw c) = 2 * pw c := IntWalk.i64_in _ (by omega)
  have kn : IntKind.i64.wrap n = n := IntWalk.i64_in _ (by omega)
  have kp := pw_of c
  have bd := oq_bd (n := n) (d := 2 * pw c) (b := 2305843009213693952) (by omega) (by omega) (by omega)
  have kneg : IntKind.i64.wrap (-(oqV (n) (2 * pw c))) = -(oqV (n) (2 * pw c)) := IntWalk.i64_in _ (by omega)
  clear bd
  go_enter Tryz.func149, Tryz.ntmps149
  go_wp2_with fail
  go_region_held3 (fun w' => w'.cell? ⟨w.heap.size, 0, none⟩ = some (.int .i64 1) ∧ w'.cell? ⟨w.heap.size, 1, none⟩ = some (.int .i64 n) ∧ w'.cell? ⟨w.heap.size, 2, none⟩ = some (.int .i64 x) ∧ w'.cell? ⟨w.heap.size + 1, 0, none⟩ = some (.int .i64 e) ∧ w'.cell? ⟨w.heap.size + 1, 1, none⟩ = some (.int .i64 f) ∧ w.heap.size + 1 < w'.heap.size) ((refine ⟨?_, ?_, ?_, ?_, ?_, ?_⟩ <;> first | with_reducible assumption | ((rw [cell_setRow_far _ _ _ _ _ (by omega)]); with_reducible assumption) | ((rw [setRow_size]); with_reducible assumption) | ((repeat rw [World.cell?_setCell_far _ _ _ _ (by simp)]); with_reducible assumption) | (simp; done) | (simp [World.setCell]; first | done | omega) | (simp [go_sem, World.cell?_alloc_past, World.cell?_setCell_far, *]; done))) ((first | (go_at_call 150; refine (QP.out _).mono ?_; rintro rv w1 ⟨rfl, hb⟩; have ns : w.heap.size + 1 < w1.heap.size := hb.ltK; have n0 : w1.cell? ⟨w.heap.size, 0, none⟩ = some (.int .i64 1) := hb.cellK; have n1 : w1.cell? ⟨w.heap.size, 1, none⟩ = some (.int .i64 n) := hb.cellK; have n2 : w1.cell? ⟨w.heap.size, 2, none⟩ = some (.int .i64 x) := hb.cellK; have n3 : w1.cell? ⟨w.heap.size + 1, 0, none⟩ = some (.int .i64 e) := hb.cellK; have n4 : w1.cell? ⟨w.heap.size + 1, 1, none⟩ = some (.int .i64 f) := hb.cellK; (first | (have nx := Ext.trans hx hb; clear hx) | (have nx := Ext.trans (hx.alloc _) hb; clear hx) | (have nx := Ext.trans hx.drew hb; clear hx) | have nx := hb); clear hb; try clear hs; try clear g0; try clear g1; try clear g2; try clear g3; try clear g4; have hx := nx; clear nx; have hs := ns; clear ns; have g0 := n0; clear n0; have g1 := n1; clear n1; have g2 := n2; clear n2; have g3 := n3; clear n3; have g4 := n4; clear n4)))
  go_wp2_with fail
  go_region_held3 (fun w' => w'.cell? ⟨w.heap.size, 0, none⟩ = some (.int .i64 1) ∧ w'.cell? ⟨w.heap.size, 1, none⟩ = some (.int .i64 n) ∧ w'.cell? ⟨w.heap.size, 2, none⟩ = some (.int .i64 x) ∧ w'.cell? ⟨w.heap.size + 1, 0, none⟩ = some (.int .i64 e) ∧ w'.cell? ⟨w.heap.size + 1, 1, none⟩ = some (.int .i64 f) ∧ w.heap.size + 1 < w'.heap.size) ((refine ⟨?_, ?_, ?_, ?_, ?_, ?_⟩ <;> first | with_reducible assumption | ((rw [cell_setRow_far _ _ _ _ _ (by omega)]); with_reducible assumption) | ((rw [setRow_size]); with_reducible assumption) | ((repeat rw [World.cell?_setCell_far _ _ _ _ (by simp)]); with_reducible assumption) | (simp; done) | (simp [World.setCell]; first | done | omega) | (simp [go_sem, World.cell?_alloc_past, World.cell?_setCell_far, *]; done))) ((first | (go_at_call 153; refine (OQ.out _).mono ?_; rintro rv w1 ⟨rfl, hb⟩; have ns : w.heap.size + 1 < w1.heap.size := hb.ltK; have n0 : w1.cell? ⟨w.heap.size, 0, none⟩ = some (.int .i64 1) := hb.cellK; have n1 : w1.cell? ⟨w.heap.size, 1, none⟩ = some (.int .i64 n) := hb.cellK; have n2 : w1.cell? ⟨w.heap.size, 2, none⟩ = some (.int .i64 x) := hb.cellK; have n3 : w1.cell? ⟨w.heap.size + 1, 0, none⟩ = some (.int .i64 e) := hb.cellK; have n4 : w1.cell? ⟨w.heap.size + 1, 1, none⟩ = some (.int .i64 f) := hb.cellK; (first | (have nx := Ext.trans hx hb; clear hx) | (have nx := Ext.trans (hx.alloc _) hb; clear hx) | (have nx := Ext.trans hx.drew hb; clear hx) | have nx := hb); clear hb; try clear hs; try clear g0; try clear g1; try clear g2; try clear g3; try clear g4; have hx := nx; clear nx; have hs := ns; clear ns; have g0 := n0; clear n0; have g1 := n1; clear n1; have g2 := n2; clear n2; have g3 := n3; clear n3; have g4 := n4; clear n4)))
  go_wp2_with fail
  all_goals (go_ret; exact ⟨rfl, Ext.auK⟩)
end Go.Proofs.YtfgbndjhaiigbaaGreatDoor

namespace Go.Proofs.YtfgbndjhaiigbaaGreatDoor
open Go Go.RowKit
set_option linter.unusedSimpArgs false
set_option linter.unusedVariables false
set_option maxRecDepth 100000

theorem finiteOf_n (n x z : Int) (h : n < 0) (kn : IntKind.i64.wrap (-n) = -n) (w : World) : Calls Tryz.prog 148 #[.int .i64 n, .int .i64 x, .int .i64 z] w fun rv w' => rv = .returned (.agg #[.int .i64 1, .int .i64 (-n), .int .i64 x]) ∧ Ext w w' := by

  go_enter Tryz.func148, Tryz.ntmps148
  go_wp2
  go_returns
  exact ⟨rfl, Ext.auK⟩

theorem finiteOf_z (n x z : Int) (h : n = 0) (w : World) : Calls Tryz.prog 148 #[.int .i64 n, .int .i64 x, .int .i64 z] w fun rv w' => rv = .returned (.agg #[.int .i64 z, .int .i64 0, .int .i64 0]) ∧ Ext w w' := by
  subst h

  go_enter Tryz.func148, Tryz.ntmps148
  go_wp2
  go_returns
  exact ⟨rfl, Ext.auK⟩

theorem finiteOf_p (n x z : Int) (h : 0 < n) (w : World) : Calls Tryz.prog 148 #[.int .i64 n, .int .i64 x, .int .i64 z] w fun rv w' => rv = .returned (.agg #[.int .i64 0, .int .i64 n, .int .i64 x]) ∧ Ext w w' := by
  have h2 : ¬ n < 0 := by omega
  have h3 : ¬ n = 0 := by omega
  go_enter Tryz.func148, Tryz.ntmps148
  go_wp2
  go_returns
  exact ⟨rfl, Ext.auK⟩
end Go.Proofs.YtfgbndjhaiigbaaGreatDoor

namespace Go.Proofs.YtfgbndjhaiigbaaGreatDoor
open Go Go.RowKit
set_option linter.unusedSimpArgs false
set_option linter.unusedVariables false
set_option maxRecDepth 100000

theorem fplus_s (e f p1 q1 r1 q2 r2 mode A B z1 z2 z3 : Int) (hG : goodB e f = true) 
    (QX : ∀ w, Calls Tryz.prog 149 #[.agg #[.int .i64 p1, .int .i64 q1, .int .i64 r1], fmt e f] w fun rv w' => rv = .returned (.int .i64 A) ∧ Ext w w') (QY : ∀ w, Calls Tryz.prog 149 #[.agg #[.int .i64 p1, .int .i64 q2, .int .i64 r2], fmt e f] w fun rv w' => rv = .returned (.int .i64 B) ∧ Ext w w')
    (ks : IntKind.i64.wrap (A + B) = A + B) (FO : ∀ w, Calls Tryz.prog 148 #[.int .i64 (A + B), .int .i64 (unV e f - 2), .int .i64 p1] w fun rv w' => rv = .returned (.agg #[.int .i64 z1, .int .i64 z2, .int .i64 z3]) ∧ Ext w w') (w : World) :
    Calls Tryz.prog 113 #[.agg #[.int .i64 p1, .int .i64 q1, .int .i64 r1], fmt e f, .agg #[.int .i64 p1, .int .i64 q2, .int .i64 r2], .int .i64 mode] w fun rv w' => rv = .returned (.agg #[.int .i64 z1, .int .i64 z2, .int .i64 z3]) ∧ Ext w w' := by
  replace QX := Lib.hid QX
  replace QY := Lib.hid QY
  replace FO := Lib.hid FO
  have QP := Lib.hid (fun w => quarterPower_any e f hG w)
  generalize unV e f = u at *
  go_enter Tryz.func113, Tryz.ntmps113
  go_wp2_with fail
  go_region_held3 (fun w' => w'.cell? ⟨w.heap.size, 0, none⟩ = some (.int .i64 p1) ∧ w'.cell? ⟨w.heap.size, 1, none⟩ = some (.int .i64 q1) ∧ w'.cell? ⟨w.heap.size, 2, none⟩ = some (.int .i64 r1) ∧ w'.cell? ⟨w.heap.size + 1, 0, none⟩ = some (.int .i64 e) ∧ w'.cell? ⟨w.heap.size + 1, 1, none⟩ = some (.int .i64 f) ∧ w'.cell? ⟨w.heap.size + 1 + 1, 0, none⟩ = some (.int .i64 p1) ∧ w'.cell? ⟨w.heap.size + 1 + 1, 1, none⟩ = some (.int .i64 q2) ∧ w'.cell? ⟨w.heap.size + 1 + 1, 2, none⟩ = some (.int .i64 r2) ∧ w.heap.size + 1 + 1 + 1 < w'.heap.size) ((refine ⟨?_, ?_, ?_, ?_, ?_, ?_, ?_, ?_, ?_⟩ <;> first | with_reducible assumption | ((repeat first | rw [cell_set_far _ _ _ _ _ _ (by omega)] | rw [cell_alloc_before _ _ _ _ (by omega)] | rw [cell_alloc_drew _ _ _ _ (by omega)] | rw [cell_drew]); with_reducible assumption) | ((rw [cell_setRow_far _ _ _ _ _ (by omega)]); with_reducible assumption) | ((rw [setRow_size]); with_reducible assumption) | (simp; done) | (simp [World.setCell]; first | done | omega) | (simp [go_sem, World.cell?_alloc_past, World.cell?_setCell_far, *]; done))) ((first | (go_at_call 149; (with_reducible refine (QX.out _).mono ?_); rintro rv w1 ⟨rfl, hb⟩; have ns : w.heap.size + 1 + 1 + 1 < w1.heap.size := hb.ltK; have n0 : w1.cell? ⟨w.heap.size, 0, none⟩ = some (.int .i64 p1) := hb.cellK; have n1 : w1.cell? ⟨w.heap.size, 1, none⟩ = some (.int .i64 q1) := hb.cellK; have n2 : w1.cell? ⟨w.heap.size, 2, none⟩ = some (.int .i64 r1) := hb.cellK; have n3 : w1.cell? ⟨w.heap.size + 1, 0, none⟩ = some (.int .i64 e) := hb.cellK; have n4 : w1.cell? ⟨w.heap.size + 1, 1, none⟩ = some (.int .i64 f) := hb.cellK; have n5 : w1.cell? ⟨w.heap.size + 1 + 1, 0, none⟩ = some (.int .i64 p1) := hb.cellK; have n6 : w1.cell? ⟨w.heap.size + 1 + 1, 1, none⟩ = some (.int .i64 q2) := hb.cellK; have n7 : w1.cell? ⟨w.heap.size + 1 + 1, 2, none⟩ = some (.int .i64 r2) := hb.cellK; have n8 : w1.cell? ⟨w.heap.size + 1 + 1 + 1, 0, none⟩ = some (.int .i64 0) := hb.cellK; have n9 : w1.cell? ⟨w.heap.size + 1 + 1 + 1, 1, none⟩ = some (.int .i64 0) := hb.cellK; have n10 : w1.cell? ⟨w.heap.size + 1 + 1 + 1, 2, none⟩ = some (.int .i64 0) := hb.cellK; have nz0 : w1.frozen? ⟨w.heap.size + 1 + 1 + 1, 0, none⟩ = false := hb.frzK; have nz1 : w1.frozen? ⟨w.heap.size + 1 + 1 + 1, 1, none⟩ = false := hb.frzK; have nz2 : w1.frozen? ⟨w.heap.size + 1 + 1 + 1, 2, none⟩ = false := hb.frzK; (first | (have nx := Ext.trans hx hb; clear hx) | (have nx := Ext.trans (hx.alloc _) hb; clear hx) | (have nx := Ext.trans hx.drew hb; clear hx) | have nx := hb); clear hb; try clear hs; try clear g0; try clear g1; try clear g2; try clear g3; try clear g4; try clear g5; try clear g6; try clear g7; try clear g8; try clear g9; try clear g10; try clear z0; try clear z1; try clear z2; have hx := nx; clear nx; have hs := ns; clear ns; have g0 := n0; clear n0; have g1 := n1; clear n1; have g2 := n2; clear n2; have g3 := n3; clear n3; have g4 := n4; clear n4; have g5 := n5; clear n5; have g6 := n6; clear n6; have g7 := n7; clear n7; have g8 := n8; clear n8; have g9 := n9; clear n9; have g10 := n10; clear n10; have z0 := nz0; clear nz0; have z1 := nz1; clear nz1; have z2 := nz2; clear nz2) | (go_at_call 149; (with_reducible refine (QY.out _).mono ?_); rintro rv w1 ⟨rfl, hb⟩; have ns : w.heap.size + 1 + 1 + 1 < w1.heap.size := hb.ltK; have n0 : w1.cell? ⟨w.heap.size, 0, none⟩ = some (.int .i64 p1) := hb.cellK; have n1 : w1.cell? ⟨w.heap.size, 1, none⟩ = some (.int .i64 q1) := hb.cellK; have n2 : w1.cell? ⟨w.heap.size, 2, none⟩ = some (.int .i64 r1) := hb.cellK; have n3 : w1.cell? ⟨w.heap.size + 1, 0, none⟩ = some (.int .i64 e) := hb.cellK; have n4 : w1.cell? ⟨w.heap.size + 1, 1, none⟩ = some (.int .i64 f) := hb.cellK; have n5 : w1.cell? ⟨w.heap.size + 1 + 1, 0, none⟩ = some (.int .i64 p1) := hb.cellK; have n6 : w1.cell? ⟨w.heap.size + 1 + 1, 1, none⟩ = some (.int .i64 q2) := hb.cellK; have n7 : w1.cell? ⟨w.heap.size + 1 + 1, 2, none⟩ = some (.int .i64 r2) := hb.cellK; have n8 : w1.cell? ⟨w.heap.size + 1 + 1 + 1, 0, none⟩ = some (.int .i64 0) := hb.cellK; have n9 : w1.cell? ⟨w.heap.size + 1 + 1 + 1, 1, none⟩ = some (.int .i64 0) := hb.cellK; have n10 : w1.cell? ⟨w.heap.size + 1 + 1 + 1, 2, none⟩ = some (.int .i64 0) := hb.cellK; have nz0 : w1.frozen? ⟨w.heap.size + 1 + 1 + 1, 0, none⟩ = false := hb.frzK; have nz1 : w1.frozen? ⟨w.heap.size + 1 + 1 + 1, 1, none⟩ = false := hb.frzK; have nz2 : w1.frozen? ⟨w.heap.size + 1 + 1 + 1, 2, none⟩ = false := hb.frzK; (first | (have nx := Ext.trans hx hb; clear hx) | (have nx := Ext.trans (hx.alloc _) hb; clear hx) | (have nx := Ext.trans hx.drew hb; clear hx) | have nx := hb); clear hb; try clear hs; try clear g0; try clear g1; try clear g2; try clear g3; try clear g4; try clear g5; try clear g6; try clear g7; try clear g8; try clear g9; try clear g10; try clear z0; try clear z1; try clear z2; have hx := nx; clear nx; have hs := ns; clear ns; have g0 := n0; clear n0; have g1 := n1; clear n1; have g2 := n2; clear n2; have g3 := n3; clear n3; have g4 := n4; clear n4; have g5 := n5; clear n5; have g6 := n6; clear n6; have g7 := n7; clear n7; have g8 := n8; clear n8; have g9 := n9; clear n9; have g10 := n10; clear n10; have z0 := nz0; clear nz0; have z1 := nz1; clear nz1; have z2 := nz2; clear nz2) | (go_at_call 150; refine (QP.out _).mono ?_; rintro rv w1 ⟨rfl, hb⟩; have ns : w.heap.size + 1 + 1 + 1 < w1.heap.size := hb.ltK; have n0 : w1.cell? ⟨w.heap.size, 0, none⟩ = some (.int .i64 p1) := hb.cellK; have n1 : w1.cell? ⟨w.heap.size, 1, none⟩ = some (.int .i64 q1) := hb.cellK; have n2 : w1.cell? ⟨w.heap.size, 2, none⟩ = some (.int .i64 r1) := hb.cellK; have n3 : w1.cell? ⟨w.heap.size + 1, 0, none⟩ = some (.int .i64 e) := hb.cellK; have n4 : w1.cell? ⟨w.heap.size + 1, 1, none⟩ = some (.int .i64 f) := hb.cellK; have n5 : w1.cell? ⟨w.heap.size + 1 + 1, 0, none⟩ = some (.int .i64 p1) := hb.cellK; have n6 : w1.cell? ⟨w.heap.size + 1 + 1, 1, none⟩ = some (.int .i64 q2) := hb.cellK; have n7 : w1.cell? ⟨w.heap.size + 1 + 1, 2, none⟩ = some (.int .i64 r2) := hb.cellK; have n8 : w1.cell? ⟨w.heap.size + 1 + 1 + 1, 0, none⟩ = some (.int .i64 0) := hb.cellK; have n9 : w1.cell? ⟨w.heap.size + 1 + 1 + 1, 1, none⟩ = some (.int .i64 0) := hb.cellK; have n10 : w1.cell? ⟨w.heap.size + 1 + 1 + 1, 2, none⟩ = some (.int .i64 0) := hb.cellK; have nz0 : w1.frozen? ⟨w.heap.size + 1 + 1 + 1, 0, none⟩ = false := hb.frzK; have nz1 : w1.frozen? ⟨w.heap.size + 1 + 1 + 1, 1, none⟩ = false := hb.frzK; have nz2 : w1.frozen? ⟨w.heap.size + 1 + 1 + 1, 2, none⟩ = false := hb.frzK; (first | (have nx := Ext.trans hx hb; clear hx) | (have nx := Ext.trans (hx.alloc _) hb; clear hx) | (have nx := Ext.trans hx.drew hb; clear hx) | have nx := hb); clear hb; try clear hs; try clear g0; try clear g1; try clear g2; try clear g3; try clear g4; try clear g5; try clear g6; try clear g7; try clear g8; try clear g9; try clear g10; try clear z0; try clear z1; try clear z2; have hx := nx; clear nx; have hs := ns; clear ns; have g0 := n0; clear n0; have g1 := n1; clear n1; have g2 := n2; clear n2; have g3 := n3; clear n3; have g4 := n4; clear n4; have g5 := n5; clear n5; have g6 := n6; clear n6; have g7 := n7; clear n7; have g8 := n8; clear n8; have g9 := n9; clear n9; have g10 := n10; clear n10; have z0 := nz0; clear nz0; have z1 := nz1; clear nz1; have z2 := nz2; clear nz2) | (go_at_call 148; refine (FO.out _).mono ?_; rintro rv w1 ⟨rfl, hb⟩; have ns : w.heap.size + 1 + 1 + 1 < w1.heap.size := hb.ltK; have n0 : w1.cell? ⟨w.heap.size, 0, none⟩ = some (.int .i64 p1) := hb.cellK; have n1 : w1.cell? ⟨w.heap.size, 1, none⟩ = some (.int .i64 q1) := hb.cellK; have n2 : w1.cell? ⟨w.heap.size, 2, none⟩ = some (.int .i64 r1) := hb.cellK; have n3 : w1.cell? ⟨w.heap.size + 1, 0, none⟩ = some (.int .i64 e) := hb.cellK; have n4 : w1.cell? ⟨w.heap.size + 1, 1, none⟩ = some (.int .i64 f) := hb.cellK; have n5 : w1.cell? ⟨w.heap.size + 1 + 1, 0, none⟩ = some (.int .i64 p1) := hb.cellK; have n6 : w1.cell? ⟨w.heap.size + 1 + 1, 1, none⟩ = some (.int .i64 q2) := hb.cellK; have n7 : w1.cell? ⟨w.heap.size + 1 + 1, 2, none⟩ = some (.int .i64 r2) := hb.cellK; have n8 : w1.cell? ⟨w.heap.size + 1 + 1 + 1, 0, none⟩ = some (.int .i64 0) := hb.cellK; have n9 : w1.cell? ⟨w.heap.size + 1 + 1 + 1, 1, none⟩ = some (.int .i64 0) := hb.cellK; have n10 : w1.cell? ⟨w.heap.size + 1 + 1 + 1, 2, none⟩ = some (.int .i64 0) := hb.cellK; have nz0 : w1.frozen? ⟨w.heap.size + 1 + 1 + 1, 0, none⟩ = false := hb.frzK; have nz1 : w1.frozen? ⟨w.heap.size + 1 + 1 + 1, 1, none⟩ = false := hb.frzK; have nz2 : w1.frozen? ⟨w.heap.size + 1 + 1 + 1, 2, none⟩ = false := hb.frzK; (first | (have nx := Ext.trans hx hb; clear hx) | (have nx := Ext.trans (hx.alloc _) hb; clear hx) | (have nx := Ext.trans hx.drew hb; clear hx) | have nx := hb); clear hb; try clear hs; try clear g0; try clear g1; try clear g2; try clear g3; try clear g4; try clear g5; try clear g6; try clear g7; try clear g8; try clear g9; try clear g10; try clear z0; try clear z1; try clear z2; have hx := nx; clear nx; have hs := ns; clear ns; have g0 := n0; clear n0; have g1 := n1; clear n1; have g2 := n2; clear n2; have g3 := n3; clear n3; have g4 := n4; clear n4; have g5 := n5; clear n5; have g6 := n6; clear n6; have g7 := n7; clear n7; have g8 := n8; clear n8; have g9 := n9; clear n9; have g10 := n10; clear n10; have z0 := nz0; clear nz0; have z1 := nz1; clear nz1; have z2 := nz2; clear nz2)))
  go_wp2_with fail
  all_goals (exact bodyPost_ret (v := .agg #[.int .i64 z1, .int .i64 z2, .int .i64 z3]) (by simp [results, Tryz.results113, go_sem, *]) rfl ⟨rfl, Ext.auK⟩)

theorem fplus_d (e f p1 q1 r1 p2 q2 r2 mode A B z1 z2 z3 : Int) (hG : goodB e f = true) (h : ¬ p1 = p2) (h2 : mode = 4)
    (QX : ∀ w, Calls Tryz.prog 149 #[.agg #[.int .i64 p1, .int .i64 q1, .int .i64 r1], fmt e f] w fun rv w' => rv = .returned (.int .i64 A) ∧ Ext w w') (QY : ∀ w, Calls Tryz.prog 149 #[.agg #[.int .i64 p2, .int .i64 q2, .int .i64 r2], fmt e f] w fun rv w' => rv = .returned (.int .i64 B) ∧ Ext w w')
    (ks : IntKind.i64.wrap (A + B) = A + B) (FO : ∀ w, Calls Tryz.prog 148 #[.int .i64 (A + B), .int .i64 (unV e f - 2), .int .i64 1] w fun rv w' => rv = .returned (.agg #[.int .i64 z1, .int .i64 z2, .int .i64 z3]) ∧ Ext w w') (w : World) :
    Calls Tryz.prog 113 #[.agg #[.int .i64 p1, .int .i64 q1, .int .i64 r1], fmt e f, .agg #[.int .i64 p2, .int .i64 q2, .int .i64 r2], .int .i64 mode] w fun rv w' => rv = .returned (.agg #[.int .i64 z1, .int .i64 z2, .int .i64 z3]) ∧ Ext w w' := by
  replace QX := Lib.hid QX
  replace QY := Lib.hid QY
  replace FO := Lib.hid FO
  have QP := Lib.hid (fun w => quarterPower_any e f hG w)
  generalize unV e f = u at *
  go_enter Tryz.func113, Tryz.ntmps113
  go_wp2_with fail
  go_region_held3 (fun w' => w'.cell? ⟨w.heap.size, 0, none⟩ = some (.int .i64 p1) ∧ w'.cell? ⟨w.heap.size, 1, none⟩ = some (.int .i64 q1) ∧ w'.cell? ⟨w.heap.size, 2, none⟩ = some (.int .i64 r1) ∧ w'.cell? ⟨w.heap.size + 1, 0, none⟩ = some (.int .i64 e) ∧ w'.cell? ⟨w.heap.size + 1, 1, none⟩ = some (.int .i64 f) ∧ w'.cell? ⟨w.heap.size + 1 + 1, 0, none⟩ = some (.int .i64 p2) ∧ w'.cell? ⟨w.heap.size + 1 + 1, 1, none⟩ = some (.int .i64 q2) ∧ w'.cell? ⟨w.heap.size + 1 + 1, 2, none⟩ = some (.int .i64 r2) ∧ w.heap.size + 1 + 1 + 1 < w'.heap.size) ((refine ⟨?_, ?_, ?_, ?_, ?_, ?_, ?_, ?_, ?_⟩ <;> first | with_reducible assumption | ((repeat first | rw [cell_set_far _ _ _ _ _ _ (by omega)] | rw [cell_alloc_before _ _ _ _ (by omega)] | rw [cell_alloc_drew _ _ _ _ (by omega)] | rw [cell_drew]); with_reducible assumption) | ((rw [cell_setRow_far _ _ _ _ _ (by omega)]); with_reducible assumption) | ((rw [setRow_size]); with_reducible assumption) | (simp; done) | (simp [World.setCell]; first | done | omega) | (simp [go_sem, World.cell?_alloc_past, World.cell?_setCell_far, *]; done))) ((first | (go_at_call 149; (with_reducible refine (QX.out _).mono ?_); rintro rv w1 ⟨rfl, hb⟩; have ns : w.heap.size + 1 + 1 + 1 < w1.heap.size := hb.ltK; have n0 : w1.cell? ⟨w.heap.size, 0, none⟩ = some (.int .i64 p1) := hb.cellK; have n1 : w1.cell? ⟨w.heap.size, 1, none⟩ = some (.int .i64 q1) := hb.cellK; have n2 : w1.cell? ⟨w.heap.size, 2, none⟩ = some (.int .i64 r1) := hb.cellK; have n3 : w1.cell? ⟨w.heap.size + 1, 0, none⟩ = some (.int .i64 e) := hb.cellK; have n4 : w1.cell? ⟨w.heap.size + 1, 1, none⟩ = some (.int .i64 f) := hb.cellK; have n5 : w1.cell? ⟨w.heap.size + 1 + 1, 0, none⟩ = some (.int .i64 p2) := hb.cellK; have n6 : w1.cell? ⟨w.heap.size + 1 + 1, 1, none⟩ = some (.int .i64 q2) := hb.cellK; have n7 : w1.cell? ⟨w.heap.size + 1 + 1, 2, none⟩ = some (.int .i64 r2) := hb.cellK; have n8 : w1.cell? ⟨w.heap.size + 1 + 1 + 1, 0, none⟩ = some (.int .i64 0) := hb.cellK; have n9 : w1.cell? ⟨w.heap.size + 1 + 1 + 1, 1, none⟩ = some (.int .i64 0) := hb.cellK; have n10 : w1.cell? ⟨w.heap.size + 1 + 1 + 1, 2, none⟩ = some (.int .i64 0) := hb.cellK; have nz0 : w1.frozen? ⟨w.heap.size + 1 + 1 + 1, 0, none⟩ = false := hb.frzK; have nz1 : w1.frozen? ⟨w.heap.size + 1 + 1 + 1, 1, none⟩ = false := hb.frzK; have nz2 : w1.frozen? ⟨w.heap.size + 1 + 1 + 1, 2, none⟩ = false := hb.frzK; (first | (have nx := Ext.trans hx hb; clear hx) | (have nx := Ext.trans (hx.alloc _) hb; clear hx) | (have nx := Ext.trans hx.drew hb; clear hx) | have nx := hb); clear hb; try clear hs; try clear g0; try clear g1; try clear g2; try clear g3; try clear g4; try clear g5; try clear g6; try clear g7; try clear g8; try clear g9; try clear g10; try clear z0; try clear z1; try clear z2; have hx := nx; clear nx; have hs := ns; clear ns; have g0 := n0; clear n0; have g1 := n1; clear n1; have g2 := n2; clear n2; have g3 := n3; clear n3; have g4 := n4; clear n4; have g5 := n5; clear n5; have g6 := n6; clear n6; have g7 := n7; clear n7; have g8 := n8; clear n8; have g9 := n9; clear n9; have g10 := n10; clear n10; have z0 := nz0; clear nz0; have z1 := nz1; clear nz1; have z2 := nz2; clear nz2) | (go_at_call 149; (with_reducible refine (QY.out _).mono ?_); rintro rv w1 ⟨rfl, hb⟩; have ns : w.heap.size + 1 + 1 + 1 < w1.heap.size := hb.ltK; have n0 : w1.cell? ⟨w.heap.size, 0, none⟩ = some (.int .i64 p1) := hb.cellK; have n1 : w1.cell? ⟨w.heap.size, 1, none⟩ = some (.int .i64 q1) := hb.cellK; have n2 : w1.cell? ⟨w.heap.size, 2, none⟩ = some (.int .i64 r1) := hb.cellK; have n3 : w1.cell? ⟨w.heap.size + 1, 0, none⟩ = some (.int .i64 e) := hb.cellK; have n4 : w1.cell? ⟨w.heap.size + 1, 1, none⟩ = some (.int .i64 f) := hb.cellK; have n5 : w1.cell? ⟨w.heap.size + 1 + 1, 0, none⟩ = some (.int .i64 p2) := hb.cellK; have n6 : w1.cell? ⟨w.heap.size + 1 + 1, 1, none⟩ = some (.int .i64 q2) := hb.cellK; have n7 : w1.cell? ⟨w.heap.size + 1 + 1, 2, none⟩ = some (.int .i64 r2) := hb.cellK; have n8 : w1.cell? ⟨w.heap.size + 1 + 1 + 1, 0, none⟩ = some (.int .i64 0) := hb.cellK; have n9 : w1.cell? ⟨w.heap.size + 1 + 1 + 1, 1, none⟩ = some (.int .i64 0) := hb.cellK; have n10 : w1.cell? ⟨w.heap.size + 1 + 1 + 1, 2, none⟩ = some (.int .i64 0) := hb.cellK; have nz0 : w1.frozen? ⟨w.heap.size + 1 + 1 + 1, 0, none⟩ = false := hb.frzK; have nz1 : w1.frozen? ⟨w.heap.size + 1 + 1 + 1, 1, none⟩ = false := hb.frzK; have nz2 : w1.frozen? ⟨w.heap.size + 1 + 1 + 1, 2, none⟩ = false := hb.frzK; (first | (have nx := Ext.trans hx hb; clear hx) | (have nx := Ext.trans (hx.alloc _) hb; clear hx) | (have nx := Ext.trans hx.drew hb; clear hx) | have nx := hb); clear hb; try clear hs; try clear g0; try clear g1; try clear g2; try clear g3; try clear g4; try clear g5; try clear g6; try clear g7; try clear g8; try clear g9; try clear g10; try clear z0; try clear z1; try clear z2; have hx := nx; clear nx; have hs := ns; clear ns; have g0 := n0; clear n0; have g1 := n1; clear n1; have g2 := n2; clear n2; have g3 := n3; clear n3; have g4 := n4; clear n4; have g5 := n5; clear n5; have g6 := n6; clear n6; have g7 := n7; clear n7; have g8 := n8; clear n8; have g9 := n9; clear n9; have g10 := n10; clear n10; have z0 := nz0; clear nz0; have z1 := nz1; clear nz1; have z2 := nz2; clear nz2) | (go_at_call 150; refine (QP.out _).mono ?_; rintro rv w1 ⟨rfl, hb⟩; have ns : w.heap.size + 1 + 1 + 1 < w1.heap.size := hb.ltK; have n0 : w1.cell? ⟨w.heap.size, 0, none⟩ = some (.int .i64 p1) := hb.cellK; have n1 : w1.cell? ⟨w.heap.size, 1, none⟩ = some (.int .i64 q1) := hb.cellK; have n2 : w1.cell? ⟨w.heap.size, 2, none⟩ = some (.int .i64 r1) := hb.cellK; have n3 : w1.cell? ⟨w.heap.size + 1, 0, none⟩ = some (.int .i64 e) := hb.cellK; have n4 : w1.cell? ⟨w.heap.size + 1, 1, none⟩ = some (.int .i64 f) := hb.cellK; have n5 : w1.cell? ⟨w.heap.size + 1 + 1, 0, none⟩ = some (.int .i64 p2) := hb.cellK; have n6 : w1.cell? ⟨w.heap.size + 1 + 1, 1, none⟩ = some (.int .i64 q2) := hb.cellK; have n7 : w1.cell? ⟨w.heap.size + 1 + 1, 2, none⟩ = some (.int .i64 r2) := hb.cellK; have n8 : w1.cell? ⟨w.heap.size + 1 + 1 + 1, 0, none⟩ = some (.int .i64 0) := hb.cellK; have n9 : w1.cell? ⟨w.heap.size + 1 + 1 + 1, 1, none⟩ = some (.int .i64 0) := hb.cellK; have n10 : w1.cell? ⟨w.heap.size + 1 + 1 + 1, 2, none⟩ = some (.int .i64 0) := hb.cellK; have nz0 : w1.frozen? ⟨w.heap.size + 1 + 1 + 1, 0, none⟩ = false := hb.frzK; have nz1 : w1.frozen? ⟨w.heap.size + 1 + 1 + 1, 1, none⟩ = false := hb.frzK; have nz2 : w1.frozen? ⟨w.heap.size + 1 + 1 + 1, 2, none⟩ = false := hb.frzK; (first | (have nx := Ext.trans hx hb; clear hx) | (have nx := Ext.trans (hx.alloc _) hb; clear hx) | (have nx := Ext.trans hx.drew hb; clear hx) | have nx := hb); clear hb; try clear hs; try clear g0; try clear g1; try clear g2; try clear g3; try clear g4; try clear g5; try clear g6; try clear g7; try clear g8; try clear g9; try clear g10; try clear z0; try clear z1; try clear z2; have hx := nx; clear nx; have hs := ns; clear ns; have g0 := n0; clear n0; have g1 := n1; clear n1; have g2 := n2; clear n2; have g3 := n3; clear n3; have g4 := n4; clear n4; have g5 := n5; clear n5; have g6 := n6; clear n6; have g7 := n7; clear n7; have g8 := n8; clear n8; have g9 := n9; clear n9; have g10 := n10; clear n10; have z0 := nz0; clear nz0; have z1 := nz1; clear nz1; have z2 := nz2; clear nz2) | (go_at_call 148; refine (FO.out _).mono ?_; rintro rv w1 ⟨rfl, hb⟩; have ns : w.heap.size + 1 + 1 + 1 < w1.heap.size := hb.ltK; have n0 : w1.cell? ⟨w.heap.size, 0, none⟩ = some (.int .i64 p1) := hb.cellK; have n1 : w1.cell? ⟨w.heap.size, 1, none⟩ = some (.int .i64 q1) := hb.cellK; have n2 : w1.cell? ⟨w.heap.size, 2, none⟩ = some (.int .i64 r1) := hb.cellK; have n3 : w1.cell? ⟨w.heap.size + 1, 0, none⟩ = some (.int .i64 e) := hb.cellK; have n4 : w1.cell? ⟨w.heap.size + 1, 1, none⟩ = some (.int .i64 f) := hb.cellK; have n5 : w1.cell? ⟨w.heap.size + 1 + 1, 0, none⟩ = some (.int .i64 p2) := hb.cellK; have n6 : w1.cell? ⟨w.heap.size + 1 + 1, 1, none⟩ = some (.int .i64 q2) := hb.cellK; have n7 : w1.cell? ⟨w.heap.size + 1 + 1, 2, none⟩ = some (.int .i64 r2) := hb.cellK; have n8 : w1.cell? ⟨w.heap.size + 1 + 1 + 1, 0, none⟩ = some (.int .i64 0) := hb.cellK; have n9 : w1.cell? ⟨w.heap.size + 1 + 1 + 1, 1, none⟩ = some (.int .i64 0) := hb.cellK; have n10 : w1.cell? ⟨w.heap.size + 1 + 1 + 1, 2, none⟩ = some (.int .i64 0) := hb.cellK; have nz0 : w1.frozen? ⟨w.heap.size + 1 + 1 + 1, 0, none⟩ = false := hb.frzK; have nz1 : w1.frozen? ⟨w.heap.size + 1 + 1 + 1, 1, none⟩ = false := hb.frzK; have nz2 : w1.frozen? ⟨w.heap.size + 1 + 1 + 1, 2, none⟩ = false := hb.frzK; (first | (have nx := Ext.trans hx hb; clear hx) | (have nx := Ext.trans (hx.alloc _) hb; clear hx) | (have nx := Ext.trans hx.drew hb; clear hx) | have nx := hb); clear hb; try clear hs; try clear g0; try clear g1; try clear g2; try clear g3; try clear g4; try clear g5; try clear g6; try clear g7; try clear g8; try clear g9; try clear g10; try clear z0; try clear z1; try clear z2; have hx := nx; clear nx; have hs := ns; clear ns; have g0 := n0; clear n0; have g1 := n1; clear n1; have g2 := n2; clear n2; have g3 := n3; clear n3; have g4 := n4; clear n4; have g5 := n5; clear n5; have g6 := n6; clear n6; have g7 := n7; clear n7; have g8 := n8; clear n8; have g9 := n9; clear n9; have g10 := n10; clear n10; have z0 := nz0; clear nz0; have z1 := nz1; clear nz1; have z2 := nz2; clear nz2)))
  go_wp2_with fail
  all_goals (exact bodyPost_ret (v := .agg #[.int .i64 z1, .int .i64 z2, .int .i64 z3]) (by simp [results, Tryz.results113, go_sem, *]) rfl ⟨rfl, Ext.auK⟩)

theorem fplus_o (e f p1 q1 r1 p2 q2 r2 mode A B z1 z2 z3 : Int) (hG : goodB e f = true) (h : ¬ p1 = p2) (h2 : ¬ mode = 4)
    (QX : ∀ w, Calls Tryz.prog 149 #[.agg #[.int .i64 p1, .int .i64 q1, .int .i64 r1], fmt e f] w fun rv w' => rv = .returned (.int .i64 A) ∧ Ext w w') (QY : ∀ w, Calls Tryz.prog 149 #[.agg #[.int .i64 p2, .int .i64 q2, .int .i64 r2], fmt e f] w fun rv w' => rv = .returned (.int .i64 B) ∧ Ext w w')
    (ks : IntKind.i64.wrap (A + B) = A + B) (FO : ∀ w, Calls Tryz.prog 148 #[.int .i64 (A + B), .int .i64 (unV e f - 2), .int .i64 0] w fun rv w' => rv = .returned (.agg #[.int .i64 z1, .int .i64 z2, .int .i64 z3]) ∧ Ext w w') (w : World) :
    Calls Tryz.prog 113 #[.agg #[.int .i64 p1, .int .i64 q1, .int .i64 r1], fmt e f, .agg #[.int .i64 p2, .int .i64 q2, .int .i64 r2], .int .i64 mode] w fun rv w' => rv = .returned (.agg #[.int .i64 z1, .int .i64 z2, .int .i64 z3]) ∧ Ext w w' := by
  replace QX := Lib.hid QX
  replace QY := Lib.hid QY
  replace FO := Lib.hid FO
  have QP := Lib.hid (fun w => quarterPower_any e f hG w)
  generalize unV e f = u at *
  go_enter Tryz.func113, Tryz.ntmps113
  go_wp2_with fail
  go_region_held3 (fun w' => w'.cell? ⟨w.heap.size, 0, none⟩ = some (.int .i64 p1) ∧ w'.cell? ⟨w.heap.size, 1, none⟩ = some (.int .i64 q1) ∧ w'.cell? ⟨w.heap.size, 2, none⟩ = some (.int .i64 r1) ∧ w'.cell? ⟨w.heap.size + 1, 0, none⟩ = some (.int .i64 e) ∧ w'.cell? ⟨w.heap.size + 1, 1, none⟩ = some (.int .i64 f) ∧ w'.cell? ⟨w.heap.size + 1 + 1, 0, none⟩ = some (.int .i64 p2) ∧ w'.cell? ⟨w.heap.size + 1 + 1, 1, none⟩ = some (.int .i64 q2) ∧ w'.cell? ⟨w.heap.size + 1 + 1, 2, none⟩ = some (.int .i64 r2) ∧ w.heap.size + 1 + 1 + 1 < w'.heap.size) ((refine ⟨?_, ?_, ?_, ?_, ?_, ?_, ?_, ?_, ?_⟩ <;> first | with_reducible assumption | ((repeat first | rw [cell_set_far _ _ _ _ _ _ (by omega)] | rw [cell_alloc_before _ _ _ _ (by omega)] | rw [cell_alloc_drew _ _ _ _ (by omega)] | rw [cell_drew]); with_reducible assumption) | ((rw [cell_setRow_far _ _ _ _ _ (by omega)]); with_reducible assumption) | ((rw [setRow_size]); with_reducible assumption) | (simp; done) | (simp [World.setCell]; first | done | omega) | (simp [go_sem, World.cell?_alloc_past, World.cell?_setCell_far, *]; done))) ((first | (go_at_call 149; (with_reducible refine (QX.out _).mono ?_); rintro rv w1 ⟨rfl, hb⟩; have ns : w.heap.size + 1 + 1 + 1 < w1.heap.size := hb.ltK; have n0 : w1.cell? ⟨w.heap.size, 0, none⟩ = some (.int .i64 p1) := hb.cellK; have n1 : w1.cell? ⟨w.heap.size, 1, none⟩ = some (.int .i64 q1) := hb.cellK; have n2 : w1.cell? ⟨w.heap.size, 2, none⟩ = some (.int .i64 r1) := hb.cellK; have n3 : w1.cell? ⟨w.heap.size + 1, 0, none⟩ = some (.int .i64 e) := hb.cellK; have n4 : w1.cell? ⟨w.heap.size + 1, 1, none⟩ = some (.int .i64 f) := hb.cellK; have n5 : w1.cell? ⟨w.heap.size + 1 + 1, 0, none⟩ = some (.int .i64 p2) := hb.cellK; have n6 : w1.cell? ⟨w.heap.size + 1 + 1, 1, none⟩ = some (.int .i64 q2) := hb.cellK; have n7 : w1.cell? ⟨w.heap.size + 1 + 1, 2, none⟩ = some (.int .i64 r2) := hb.cellK; have n8 : w1.cell? ⟨w.heap.size + 1 + 1 + 1, 0, none⟩ = some (.int .i64 0) := hb.cellK; have n9 : w1.cell? ⟨w.heap.size + 1 + 1 + 1, 1, none⟩ = some (.int .i64 0) := hb.cellK; have n10 : w1.cell? ⟨w.heap.size + 1 + 1 + 1, 2, none⟩ = some (.int .i64 0) := hb.cellK; have nz0 : w1.frozen? ⟨w.heap.size + 1 + 1 + 1, 0, none⟩ = false := hb.frzK; have nz1 : w1.frozen? ⟨w.heap.size + 1 + 1 + 1, 1, none⟩ = false := hb.frzK; have nz2 : w1.frozen? ⟨w.heap.size + 1 + 1 + 1, 2, none⟩ = false := hb.frzK; (first | (have nx := Ext.trans hx hb; clear hx) | (have nx := Ext.trans (hx.alloc _) hb; clear hx) | (have nx := Ext.trans hx.drew hb; clear hx) | have nx := hb); clear hb; try clear hs; try clear g0; try clear g1; try clear g2; try clear g3; try clear g4; try clear g5; try clear g6; try clear g7; try clear g8; try clear g9; try clear g10; try clear z0; try clear z1; try clear z2; have hx := nx; clear nx; have hs := ns; clear ns; have g0 := n0; clear n0; have g1 := n1; clear n1; have g2 := n2; clear n2; have g3 := n3; clear n3; have g4 := n4; clear n4; have g5 := n5; clear n5; have g6 := n6; clear n6; have g7 := n7; clear n7; have g8 := n8; clear n8; have g9 := n9; clear n9; have g10 := n10; clear n10; have z0 := nz0; clear nz0; have z1 := nz1; clear nz1; have z2 := nz2; clear nz2) | (go_at_call 149; (with_reducible refine (QY.out _).mono ?_); rintro rv w1 ⟨rfl, hb⟩; have ns : w.heap.size + 1 + 1 + 1 < w1.heap.size := hb.ltK; have n0 : w1.cell? ⟨w.heap.size, 0, none⟩ = some (.int .i64 p1) := hb.cellK; have n1 : w1.cell? ⟨w.heap.size, 1, none⟩ = some (.int .i64 q1) := hb.cellK; have n2 : w1.cell? ⟨w.heap.size, 2, none⟩ = some (.int .i64 r1) := hb.cellK; have n3 : w1.cell? ⟨w.heap.size + 1, 0, none⟩ = some (.int .i64 e) := hb.cellK; have n4 : w1.cell? ⟨w.heap.size + 1, 1, none⟩ = some (.int .i64 f) := hb.cellK; have n5 : w1.cell? ⟨w.heap.size + 1 + 1, 0, none⟩ = some (.int .i64 p2) := hb.cellK; have n6 : w1.cell? ⟨w.heap.size + 1 + 1, 1, none⟩ = some (.int .i64 q2) := hb.cellK; have n7 : w1.cell? ⟨w.heap.size + 1 + 1, 2, none⟩ = some (.int .i64 r2) := hb.cellK; have n8 : w1.cell? ⟨w.heap.size + 1 + 1 + 1, 0, none⟩ = some (.int .i64 0) := hb.cellK; have n9 : w1.cell? ⟨w.heap.size + 1 + 1 + 1, 1, none⟩ = some (.int .i64 0) := hb.cellK; have n10 : w1.cell? ⟨w.heap.size + 1 + 1 + 1, 2, none⟩ = some (.int .i64 0) := hb.cellK; have nz0 : w1.frozen? ⟨w.heap.size + 1 + 1 + 1, 0, none⟩ = false := hb.frzK; have nz1 : w1.frozen? ⟨w.heap.size + 1 + 1 + 1, 1, none⟩ = false := hb.frzK; have nz2 : w1.frozen? ⟨w.heap.size + 1 + 1 + 1, 2, none⟩ = false := hb.frzK; (first | (have nx := Ext.trans hx hb; clear hx) | (have nx := Ext.trans (hx.alloc _) hb; clear hx) | (have nx := Ext.trans hx.drew hb; clear hx) | have nx := hb); clear hb; try clear hs; try clear g0; try clear g1; try clear g2; try clear g3; try clear g4; try clear g5; try clear g6; try clear g7; try clear g8; try clear g9; try clear g10; try clear z0; try clear z1; try clear z2; have hx := nx; clear nx; have hs := ns; clear ns; have g0 := n0; clear n0; have g1 := n1; clear n1; have g2 := n2; clear n2; have g3 := n3; clear n3; have g4 := n4; clear n4; have g5 := n5; clear n5; have g6 := n6; clear n6; have g7 := n7; clear n7; have g8 := n8; clear n8; have g9 := n9; clear n9; have g10 := n10; clear n10; have z0 := nz0; clear nz0; have z1 := nz1; clear nz1; have z2 := nz2; clear nz2) | (go_at_call 150; refine (QP.out _).mono ?_; rintro rv w1 ⟨rfl, hb⟩; have ns : w.heap.size + 1 + 1 + 1 < w1.heap.size := hb.ltK; have n0 : w1.cell? ⟨w.heap.size, 0, none⟩ = some (.int .i64 p1) := hb.cellK; have n1 : w1.cell? ⟨w.heap.size, 1, none⟩ = some (.int .i64 q1) := hb.cellK; have n2 : w1.cell? ⟨w.heap.size, 2, none⟩ = some (.int .i64 r1) := hb.cellK; have n3 : w1.cell? ⟨w.heap.size + 1, 0, none⟩ = some (.int .i64 e) := hb.cellK; have n4 : w1.cell? ⟨w.heap.size + 1, 1, none⟩ = some (.int .i64 f) := hb.cellK; have n5 : w1.cell? ⟨w.heap.size + 1 + 1, 0, none⟩ = some (.int .i64 p2) := hb.cellK; have n6 : w1.cell? ⟨w.heap.size + 1 + 1, 1, none⟩ = some (.int .i64 q2) := hb.cellK; have n7 : w1.cell? ⟨w.heap.size + 1 + 1, 2, none⟩ = some (.int .i64 r2) := hb.cellK; have n8 : w1.cell? ⟨w.heap.size + 1 + 1 + 1, 0, none⟩ = some (.int .i64 0) := hb.cellK; have n9 : w1.cell? ⟨w.heap.size + 1 + 1 + 1, 1, none⟩ = some (.int .i64 0) := hb.cellK; have n10 : w1.cell? ⟨w.heap.size + 1 + 1 + 1, 2, none⟩ = some (.int .i64 0) := hb.cellK; have nz0 : w1.frozen? ⟨w.heap.size + 1 + 1 + 1, 0, none⟩ = false := hb.frzK; have nz1 : w1.frozen? ⟨w.heap.size + 1 + 1 + 1, 1, none⟩ = false := hb.frzK; have nz2 : w1.frozen? ⟨w.heap.size + 1 + 1 + 1, 2, none⟩ = false := hb.frzK; (first | (have nx := Ext.trans hx hb; clear hx) | (have nx := Ext.trans (hx.alloc _) hb; clear hx) | (have nx := Ext.trans hx.drew hb; clear hx) | have nx := hb); clear hb; try clear hs; try clear g0; try clear g1; try clear g2; try clear g3; try clear g4; try clear g5; try clear g6; try clear g7; try clear g8; try clear g9; try clear g10; try clear z0; try clear z1; try clear z2; have hx := nx; clear nx; have hs := ns; clear ns; have g0 := n0; clear n0; have g1 := n1; clear n1; have g2 := n2; clear n2; have g3 := n3; clear n3; have g4 := n4; clear n4; have g5 := n5; clear n5; have g6 := n6; clear n6; have g7 := n7; clear n7; have g8 := n8; clear n8; have g9 := n9; clear n9; have g10 := n10; clear n10; have z0 := nz0; clear nz0; have z1 := nz1; clear nz1; have z2 := nz2; clear nz2) | (go_at_call 148; refine (FO.out _).mono ?_; rintro rv w1 ⟨rfl, hb⟩; have ns : w.heap.size + 1 + 1 + 1 < w1.heap.size := hb.ltK; have n0 : w1.cell? ⟨w.heap.size, 0, none⟩ = some (.int .i64 p1) := hb.cellK; have n1 : w1.cell? ⟨w.heap.size, 1, none⟩ = some (.int .i64 q1) := hb.cellK; have n2 : w1.cell? ⟨w.heap.size, 2, none⟩ = some (.int .i64 r1) := hb.cellK; have n3 : w1.cell? ⟨w.heap.size + 1, 0, none⟩ = some (.int .i64 e) := hb.cellK; have n4 : w1.cell? ⟨w.heap.size + 1, 1, none⟩ = some (.int .i64 f) := hb.cellK; have n5 : w1.cell? ⟨w.heap.size + 1 + 1, 0, none⟩ = some (.int .i64 p2) := hb.cellK; have n6 : w1.cell? ⟨w.heap.size + 1 + 1, 1, none⟩ = some (.int .i64 q2) := hb.cellK; have n7 : w1.cell? ⟨w.heap.size + 1 + 1, 2, none⟩ = some (.int .i64 r2) := hb.cellK; have n8 : w1.cell? ⟨w.heap.size + 1 + 1 + 1, 0, none⟩ = some (.int .i64 0) := hb.cellK; have n9 : w1.cell? ⟨w.heap.size + 1 + 1 + 1, 1, none⟩ = some (.int .i64 0) := hb.cellK; have n10 : w1.cell? ⟨w.heap.size + 1 + 1 + 1, 2, none⟩ = some (.int .i64 0) := hb.cellK; have nz0 : w1.frozen? ⟨w.heap.size + 1 + 1 + 1, 0, none⟩ = false := hb.frzK; have nz1 : w1.frozen? ⟨w.heap.size + 1 + 1 + 1, 1, none⟩ = false := hb.frzK; have nz2 : w1.frozen? ⟨w.heap.size + 1 + 1 + 1, 2, none⟩ = false := hb.frzK; (first | (have nx := Ext.trans hx hb; clear hx) | (have nx := Ext.trans (hx.alloc _) hb; clear hx) | (have nx := Ext.trans hx.drew hb; clear hx) | have nx := hb); clear hb; try clear hs; try clear g0; try clear g1; try clear g2; try clear g3; try clear g4; try clear g5; try clear g6; try clear g7; try clear g8; try clear g9; try clear g10; try clear z0; try clear z1; try clear z2; have hx := nx; clear nx; have hs := ns; clear ns; have g0 := n0; clear n0; have g1 := n1; clear n1; have g2 := n2; clear n2; have g3 := n3; clear n3; have g4 := n4; clear n4; have g5 := n5; clear n5; have g6 := n6; clear n6; have g7 := n7; clear n7; have g8 := n8; clear n8; have g9 := n9; clear n9; have g10 := n10; clear n10; have z0 := nz0; clear nz0; have z1 := nz1; clear nz1; have z2 := nz2; clear nz2)))
  go_wp2_with fail
  all_goals (exact bodyPost_ret (v := .agg #[.int .i64 z1, .int .i64 z2, .int .i64 z3]) (by simp [results, Tryz.results113, go_sem, *]) rfl ⟨rfl, Ext.auK⟩)
end Go.Proofs.YtfgbndjhaiigbaaGreatDoor

namespace Go.Proofs.YtfgbndjhaiigbaaGreatDoor
open Go Go.RowKit
set_option linter.unusedSimpArgs false
set_option linter.unusedVariables false

attribute [local go_sem] ta_finite_finite ta_finite_infinite ta_finite_noNumber ta_infinite_finite ta_infinite_infinite ta_infinite_noNumber ta_noNumber_finite ta_noNumber_infinite ta_noNumber_noNumber

set_option maxRecDepth 100000

theorem plus_ff (e f m1 n1 x1 m2 n2 x2 mode z1 z2 z3 : Int) (FC : ∀ w, Calls Tryz.prog 113 #[.agg #[.int .i64 m1, .int .i64 n1, .int .i64 x1], fmt e f, .agg #[.int .i64 m2, .int .i64 n2, .int .i64 x2], .int .i64 mode] w fun rv w' => rv = .returned (.agg #[.int .i64 z1, .int .i64 z2, .int .i64 z3]) ∧ Ext w w') (w : World) :
    Calls Tryz.prog 66 #[fmt e f, .iface 82 (.agg #[.int .i64 m1, .int .i64 n1, .int .i64 x1]), .iface 82 (.agg #[.int .i64 m2, .int .i64 n2, .int .i64 x2]), .int .i64 mode] w fun rv w' => rv = .returned (.iface 82 (.agg #[.int .i64 z1, .int .i64 z2, .int .i64 z3])) ∧ Ext w w' := by
  replace FC := Lib.hid FC
  go_enter Tryz.func66, Tryz.ntmps66
  have hx := Ext.refl w
  go_wp2_with (first | (go_at_call 113; refine (FC.out _).mono ?_; rintro rv w1 ⟨rfl, hb⟩; have hx2 := Ext.trans (by repeat (first | exact Ext.refl _ | apply Ext.alloc | apply Ext.drew)) hb; clear hb hx))
  go_ret
  exact ⟨rfl, Ext.auK⟩
end Go.Proofs.YtfgbndjhaiigbaaGreatDoor

