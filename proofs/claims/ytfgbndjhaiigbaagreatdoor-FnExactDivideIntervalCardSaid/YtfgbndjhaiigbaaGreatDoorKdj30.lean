/-
  Contracts of the functions that the laws reach, and the plain facts that they rest on, each under the conditions that its line names; part 30.
-/
import Derived.Test.YtfgbndjhaiigbaaGreatDoorKdj1
import Derived.Test.YtfgbndjhaiigbaaGreatDoorKdj2
import Derived.Test.YtfgbndjhaiigbaaGreatDoorKdj3
import Derived.Test.YtfgbndjhaiigbaaGreatDoorKdj4
import Derived.Test.YtfgbndjhaiigbaaGreatDoorKdj5
import Derived.Test.YtfgbndjhaiigbaaGreatDoorKdj6
import Derived.Test.YtfgbndjhaiigbaaGreatDoorKdj7
import Derived.Test.YtfgbndjhaiigbaaGreatDoorKdj8
import Derived.Test.YtfgbndjhaiigbaaGreatDoorKdj9
import Derived.Test.YtfgbndjhaiigbaaGreatDoorKdj10
import Derived.Test.YtfgbndjhaiigbaaGreatDoorKdj11
import Derived.Test.YtfgbndjhaiigbaaGreatDoorKdj12
import Derived.Test.YtfgbndjhaiigbaaGreatDoorKdj13
import Derived.Test.YtfgbndjhaiigbaaGreatDoorKdj14
import Derived.Test.YtfgbndjhaiigbaaGreatDoorKdj15
import Derived.Test.YtfgbndjhaiigbaaGreatDoorKdj16
import Derived.Test.YtfgbndjhaiigbaaGreatDoorKdj17
import Derived.Test.YtfgbndjhaiigbaaGreatDoorKdj18
import Derived.Test.YtfgbndjhaiigbaaGreatDoorKdj19
import Derived.Test.YtfgbndjhaiigbaaGreatDoorKdj20
import Derived.Test.YtfgbndjhaiigbaaGreatDoorKdj21
import Derived.Test.YtfgbndjhaiigbaaGreatDoorKdj22
import Derived.Test.YtfgbndjhaiigbaaGreatDoorKdj23
import Derived.Test.YtfgbndjhaiigbaaGreatDoorKdj24
import Derived.Test.YtfgbndjhaiigbaaGreatDoorKdj25
import Derived.Test.YtfgbndjhaiigbaaGreatDoorKdj26
import Derived.Test.YtfgbndjhaiigbaaGreatDoorRows
import Derived.WalkKit
import Derived.Handy
import Derived.LoopTactic
import Derived.Laws.Bits64b
import Derived.WalkSpells
import Derived.WalkLawsBesides
import Derived.StillTactics
import Derived.Laws.Pointers
import Derived.Deep.RegionHeld3
import Derived.Deep.QuietTactic
import Derived.BigQuiet
import Derived.Outline
import Derived.Lib.Hide
import Derived.RowKit3
import Derived.Carry
import Derived.IntWalk
namespace Go.Proofs.YtfgbndjhaiigbaaGreatDoor
open Go Go.RowKit
set_option linter.unusedSimpArgs false
set_option linter.unusedVariables false

theorem ta_finite_finite (m n x : Int) (w : World) : (Instr.typeAssert (.iface 82 (.agg #[.int .i64 m, .int .i64 n, .int .i64 x])) 67 82 true).run Tryz.prog w = .ok (.tuple #[.agg #[.int .i64 m, .int .i64 n, .int .i64 x], .bool true]) w := by kernel_rfl

theorem ta_finite_infinite (m n x : Int) (w : World) : (Instr.typeAssert (.iface 82 (.agg #[.int .i64 m, .int .i64 n, .int .i64 x])) 67 104 true).run Tryz.prog w = .ok (.tuple #[.agg #[.int .i64 0], .bool false]) w := by kernel_rfl

theorem ta_finite_noNumber (m n x : Int) (w : World) : (Instr.typeAssert (.iface 82 (.agg #[.int .i64 m, .int .i64 n, .int .i64 x])) 67 107 true).run Tryz.prog w = .ok (.tuple #[.agg #[], .bool false]) w := by kernel_rfl

theorem ta_infinite_finite (m : Int) (w : World) : (Instr.typeAssert (.iface 104 (.agg #[.int .i64 m])) 67 82 true).run Tryz.prog w = .ok (.tuple #[.agg #[.int .i64 0, .int .i64 0, .int .i64 0], .bool false]) w := by kernel_rfl

theorem ta_infinite_infinite (m : Int) (w : World) : (Instr.typeAssert (.iface 104 (.agg #[.int .i64 m])) 67 104 true).run Tryz.prog w = .ok (.tuple #[.agg #[.int .i64 m], .bool true]) w := by kernel_rfl

theorem ta_infinite_noNumber (m : Int) (w : World) : (Instr.typeAssert (.iface 104 (.agg #[.int .i64 m])) 67 107 true).run Tryz.prog w = .ok (.tuple #[.agg #[], .bool false]) w := by kernel_rfl

theorem ta_noNumber_finite  (w : World) : (Instr.typeAssert (.iface 107 (.agg #[])) 67 82 true).run Tryz.prog w = .ok (.tuple #[.agg #[.int .i64 0, .int .i64 0, .int .i64 0], .bool false]) w := by kernel_rfl

theorem ta_noNumber_infinite  (w : World) : (Instr.typeAssert (.iface 107 (.agg #[])) 67 104 true).run Tryz.prog w = .ok (.tuple #[.agg #[.int .i64 0], .bool false]) w := by kernel_rfl

theorem ta_noNumber_noNumber  (w : World) : (Instr.typeAssert (.iface 107 (.agg #[])) 67 107 true).run Tryz.prog w = .ok (.tuple #[.agg #[], .bool true]) w := by kernel_rfl

attribute [local go_sem] ta_finite_finite ta_finite_infinite ta_finite_noNumber ta_infinite_finite ta_infinite_infinite ta_infinite_noNumber ta_noNumber_finite ta_noNumber_infinite ta_noNumber_noNumber

set_option maxRecDepth 100000

theorem finZero_t (m n x : Int) (h : n = 0) (w : World) : Calls Tryz.prog 152 #[.agg #[.int .i64 m, .int .i64 n, .int .i64 x]] w fun rv w' => rv = .returned (.bool true) ∧ Ext w w' := by
  have := finZero_any m n x w
  rwa [show (n == 0) = true from by simp [h]] at this

theorem finZero_f (m n x : Int) (h : ¬ n = 0) (w : World) : Calls Tryz.prog 152 #[.agg #[.int .i64 m, .int .i64 n, .int .i64 x]] w fun rv w' => rv = .returned (.bool false) ∧ Ext w w' := by
  have := finZero_any m n x w
  rwa [show (n == 0) = false from by simp [h]] at this
end Go.Proofs.YtfgbndjhaiigbaaGreatDoor

namespace Go.Proofs.YtfgbndjhaiigbaaGreatDoor
open Go Go.RowKit
set_option linter.unusedSimpArgs false
set_option linter.unusedVariables false

attribute [local go_sem] ta_finite_finite ta_finite_infinite ta_finite_noNumber ta_infinite_finite ta_infinite_infinite ta_infinite_noNumber ta_noNumber_finite ta_noNumber_infinite ta_noNumber_noNumber

set_option maxRecDepth 100000

theorem over_if (m1 m2 n2 x2 sx : Int) (hs : bits .xor .i64 m1 m2 = sx)  (w : World) :
    Calls Tryz.prog 72 #[.iface 104 (.agg #[.int .i64 m1]), .iface 82 (.agg #[.int .i64 m2, .int .i64 n2, .int .i64 x2])] w fun rv w' => rv = .returned (.iface 104 (.agg #[.int .i64 sx])) ∧ Ext w w' := by
  go_enter Tryz.func72, Tryz.ntmps72
  go_wp2_with (first | (go_at_call 224; (with_reducible refine (infSign_any m1 _).mono ?_); rintro rv w1 ⟨rfl, hb⟩; (first | (have nx := Ext.trans hx hb; clear hx) | (have nx := Ext.trans (hx.alloc _) hb; clear hx) | (have nx := Ext.trans ((hx.alloc _).alloc _) hb; clear hx) | (have nx := Ext.trans (((hx.alloc _).alloc _).alloc _) hb; clear hx) | have nx := hb); clear hb; have hx := nx; clear nx) | (go_at_call 221; (with_reducible refine (finSign_any m2 n2 x2 _).mono ?_); rintro rv w1 ⟨rfl, hb⟩; (first | (have nx := Ext.trans hx hb; clear hx) | (have nx := Ext.trans (hx.alloc _) hb; clear hx) | (have nx := Ext.trans ((hx.alloc _).alloc _) hb; clear hx) | (have nx := Ext.trans (((hx.alloc _).alloc _).alloc _) hb; clear hx) | have nx := hb); clear hb; have hx := nx; clear nx))
  go_ret
  exact ⟨rfl, Ext.auK⟩

theorem over_ii (m1 m2 sx : Int) (hs : bits .xor .i64 m1 m2 = sx)  (w : World) :
    Calls Tryz.prog 72 #[.iface 104 (.agg #[.int .i64 m1]), .iface 104 (.agg #[.int .i64 m2])] w fun rv w' => rv = .returned (.iface 107 (.agg #[])) ∧ Ext w w' := by
  go_enter Tryz.func72, Tryz.ntmps72
  go_wp2_with (first | (go_at_call 224; (with_reducible refine (infSign_any m1 _).mono ?_); rintro rv w1 ⟨rfl, hb⟩; (first | (have nx := Ext.trans hx hb; clear hx) | (have nx := Ext.trans (hx.alloc _) hb; clear hx) | (have nx := Ext.trans ((hx.alloc _).alloc _) hb; clear hx) | (have nx := Ext.trans (((hx.alloc _).alloc _).alloc _) hb; clear hx) | have nx := hb); clear hb; have hx := nx; clear nx) | (go_at_call 224; (with_reducible refine (infSign_any m2 _).mono ?_); rintro rv w1 ⟨rfl, hb⟩; (first | (have nx := Ext.trans hx hb; clear hx) | (have nx := Ext.trans (hx.alloc _) hb; clear hx) | (have nx := Ext.trans ((hx.alloc _).alloc _) hb; clear hx) | (have nx := Ext.trans (((hx.alloc _).alloc _).alloc _) hb; clear hx) | have nx := hb); clear hb; have hx := nx; clear nx))
  go_ret
  exact ⟨rfl, Ext.auK⟩

theorem over_in (m1  sx : Int) (hs : bits .xor .i64 m1 0 = sx)  (w : World) :
    Calls Tryz.prog 72 #[.iface 104 (.agg #[.int .i64 m1]), .iface 107 (.agg #[])] w fun rv w' => rv = .returned (.iface 107 (.agg #[])) ∧ Ext w w' := by
  go_enter Tryz.func72, Tryz.ntmps72
  go_wp2_with (first | (go_at_call 224; (with_reducible refine (infSign_any m1 _).mono ?_); rintro rv w1 ⟨rfl, hb⟩; (first | (have nx := Ext.trans hx hb; clear hx) | (have nx := Ext.trans (hx.alloc _) hb; clear hx) | (have nx := Ext.trans ((hx.alloc _).alloc _) hb; clear hx) | (have nx := Ext.trans (((hx.alloc _).alloc _).alloc _) hb; clear hx) | have nx := hb); clear hb; have hx := nx; clear nx) | (go_at_call 227; (with_reducible refine (noSign_any _).mono ?_); rintro rv w1 ⟨rfl, hb⟩; (first | (have nx := Ext.trans hx hb; clear hx) | (have nx := Ext.trans (hx.alloc _) hb; clear hx) | (have nx := Ext.trans ((hx.alloc _).alloc _) hb; clear hx) | (have nx := Ext.trans (((hx.alloc _).alloc _).alloc _) hb; clear hx) | have nx := hb); clear hb; have hx := nx; clear nx))
  go_ret
  exact ⟨rfl, Ext.auK⟩

theorem over_fi (m1 n1 x1 m2 sx : Int) (hs : bits .xor .i64 m1 m2 = sx)  (w : World) :
    Calls Tryz.prog 72 #[.iface 82 (.agg #[.int .i64 m1, .int .i64 n1, .int .i64 x1]), .iface 104 (.agg #[.int .i64 m2])] w fun rv w' => rv = .returned (.iface 82 (.agg #[.int .i64 sx, .int .i64 0, .int .i64 0])) ∧ Ext w w' := by
  go_enter Tryz.func72, Tryz.ntmps72
  go_wp2_with (first | (go_at_call 221; (with_reducible refine (finSign_any m1 n1 x1 _).mono ?_); rintro rv w1 ⟨rfl, hb⟩; (first | (have nx := Ext.trans hx hb; clear hx) | (have nx := Ext.trans (hx.alloc _) hb; clear hx) | (have nx := Ext.trans ((hx.alloc _).alloc _) hb; clear hx) | (have nx := Ext.trans (((hx.alloc _).alloc _).alloc _) hb; clear hx) | have nx := hb); clear hb; have hx := nx; clear nx) | (go_at_call 224; (with_reducible refine (infSign_any m2 _).mono ?_); rintro rv w1 ⟨rfl, hb⟩; (first | (have nx := Ext.trans hx hb; clear hx) | (have nx := Ext.trans (hx.alloc _) hb; clear hx) | (have nx := Ext.trans ((hx.alloc _).alloc _) hb; clear hx) | (have nx := Ext.trans (((hx.alloc _).alloc _).alloc _) hb; clear hx) | have nx := hb); clear hb; have hx := nx; clear nx))
  go_ret
  exact ⟨rfl, Ext.auK⟩

theorem over_fn (m1 n1 x1  sx : Int) (hs : bits .xor .i64 m1 0 = sx)  (w : World) :
    Calls Tryz.prog 72 #[.iface 82 (.agg #[.int .i64 m1, .int .i64 n1, .int .i64 x1]), .iface 107 (.agg #[])] w fun rv w' => rv = .returned (.iface 107 (.agg #[])) ∧ Ext w w' := by
  go_enter Tryz.func72, Tryz.ntmps72
  go_wp2_with (first | (go_at_call 221; (with_reducible refine (finSign_any m1 n1 x1 _).mono ?_); rintro rv w1 ⟨rfl, hb⟩; (first | (have nx := Ext.trans hx hb; clear hx) | (have nx := Ext.trans (hx.alloc _) hb; clear hx) | (have nx := Ext.trans ((hx.alloc _).alloc _) hb; clear hx) | (have nx := Ext.trans (((hx.alloc _).alloc _).alloc _) hb; clear hx) | have nx := hb); clear hb; have hx := nx; clear nx) | (go_at_call 227; (with_reducible refine (noSign_any _).mono ?_); rintro rv w1 ⟨rfl, hb⟩; (first | (have nx := Ext.trans hx hb; clear hx) | (have nx := Ext.trans (hx.alloc _) hb; clear hx) | (have nx := Ext.trans ((hx.alloc _).alloc _) hb; clear hx) | (have nx := Ext.trans (((hx.alloc _).alloc _).alloc _) hb; clear hx) | have nx := hb); clear hb; have hx := nx; clear nx))
  go_ret
  exact ⟨rfl, Ext.auK⟩

theorem over_nf (m2 n2 x2 sx : Int) (hs : bits .xor .i64 0 m2 = sx)  (w : World) :
    Calls Tryz.prog 72 #[.iface 107 (.agg #[]), .iface 82 (.agg #[.int .i64 m2, .int .i64 n2, .int .i64 x2])] w fun rv w' => rv = .returned (.iface 107 (.agg #[])) ∧ Ext w w' := by
  go_enter Tryz.func72, Tryz.ntmps72
  go_wp2_with (first | (go_at_call 227; (with_reducible refine (noSign_any _).mono ?_); rintro rv w1 ⟨rfl, hb⟩; (first | (have nx := Ext.trans hx hb; clear hx) | (have nx := Ext.trans (hx.alloc _) hb; clear hx) | (have nx := Ext.trans ((hx.alloc _).alloc _) hb; clear hx) | (have nx := Ext.trans (((hx.alloc _).alloc _).alloc _) hb; clear hx) | have nx := hb); clear hb; have hx := nx; clear nx) | (go_at_call 221; (with_reducible refine (finSign_any m2 n2 x2 _).mono ?_); rintro rv w1 ⟨rfl, hb⟩; (first | (have nx := Ext.trans hx hb; clear hx) | (have nx := Ext.trans (hx.alloc _) hb; clear hx) | (have nx := Ext.trans ((hx.alloc _).alloc _) hb; clear hx) | (have nx := Ext.trans (((hx.alloc _).alloc _).alloc _) hb; clear hx) | have nx := hb); clear hb; have hx := nx; clear nx))
  go_ret
  exact ⟨rfl, Ext.auK⟩

theorem over_ni (m2 sx : Int) (hs : bits .xor .i64 0 m2 = sx)  (w : World) :
    Calls Tryz.prog 72 #[.iface 107 (.agg #[]), .iface 104 (.agg #[.int .i64 m2])] w fun rv w' => rv = .returned (.iface 107 (.agg #[])) ∧ Ext w w' := by
  go_enter Tryz.func72, Tryz.ntmps72
  go_wp2_with (first | (go_at_call 227; (with_reducible refine (noSign_any _).mono ?_); rintro rv w1 ⟨rfl, hb⟩; (first | (have nx := Ext.trans hx hb; clear hx) | (have nx := Ext.trans (hx.alloc _) hb; clear hx) | (have nx := Ext.trans ((hx.alloc _).alloc _) hb; clear hx) | (have nx := Ext.trans (((hx.alloc _).alloc _).alloc _) hb; clear hx) | have nx := hb); clear hb; have hx := nx; clear nx) | (go_at_call 224; (with_reducible refine (infSign_any m2 _).mono ?_); rintro rv w1 ⟨rfl, hb⟩; (first | (have nx := Ext.trans hx hb; clear hx) | (have nx := Ext.trans (hx.alloc _) hb; clear hx) | (have nx := Ext.trans ((hx.alloc _).alloc _) hb; clear hx) | (have nx := Ext.trans (((hx.alloc _).alloc _).alloc _) hb; clear hx) | have nx := hb); clear hb; have hx := nx; clear nx))
  go_ret
  exact ⟨rfl, Ext.auK⟩

theorem over_nn (sx : Int) (hs : bits .xor .i64 0 0 = sx)  (w : World) :
    Calls Tryz.prog 72 #[.iface 107 (.agg #[]), .iface 107 (.agg #[])] w fun rv w' => rv = .returned (.iface 107 (.agg #[])) ∧ Ext w w' := by
  go_enter Tryz.func72, Tryz.ntmps72
  go_wp2_with (first | (go_at_call 227; (with_reducible refine (noSign_any _).mono ?_); rintro rv w1 ⟨rfl, hb⟩; (first | (have nx := Ext.trans hx hb; clear hx) | (have nx := Ext.trans (hx.alloc _) hb; clear hx) | (have nx := Ext.trans ((hx.alloc _).alloc _) hb; clear hx) | (have nx := Ext.trans (((hx.alloc _).alloc _).alloc _) hb; clear hx) | have nx := hb); clear hb; have hx := nx; clear nx) | (go_at_call 227; (with_reducible refine (noSign_any _).mono ?_); rintro rv w1 ⟨rfl, hb⟩; (first | (have nx := Ext.trans hx hb; clear hx) | (have nx := Ext.trans (hx.alloc _) hb; clear hx) | (have nx := Ext.trans ((hx.alloc _).alloc _) hb; clear hx) | (have nx := Ext.trans (((hx.alloc _).alloc _).alloc _) hb; clear hx) | have nx := hb); clear hb; have hx := nx; clear nx))
  go_ret
  exact ⟨rfl, Ext.auK⟩
end Go.Proofs.YtfgbndjhaiigbaaGreatDoor

namespace Go.Proofs.YtfgbndjhaiigbaaGreatDoor
open Go Go.RowKit
set_option linter.unusedSimpArgs false
set_option linter.unusedVariables false
set_option maxRecDepth 100000

theorem fover_zz (p1 q1 r1 p2 q2 r2 sx : Int) (hX : bits .xor .i64 p1 p2 = sx) (h1 : q1 = 0) (h2 : q2 = 0) (w : World) : Calls Tryz.prog 118 #[.agg #[.int .i64 p1, .int .i64 q1, .int .i64 r1], .agg #[.int .i64 p2, .int .i64 q2, .int .i64 r2]] w fun rv w' => rv = .returned (.iface 107 (.agg #[])) ∧ Ext w w' := by
  have za := Lib.hid (fun w => finZero_t p1 q1 r1 h1 w)
  have zb := Lib.hid (fun w => finZero_t p2 q2 r2 h2 w)
  clear h1 h2
  go_enter Tryz.func118, Tryz.ntmps118
  go_wp2_with (first | first | (go_at_call 152; refine (za.out _).mono ?_; rintro rv w1 ⟨rfl, hb⟩; have ns : w.heap.size + 1 < w1.heap.size := hb.ltK; have n0 : w1.cell? ⟨w.heap.size, 0, none⟩ = some (.int .i64 p1) := hb.cellK; have n1 : w1.cell? ⟨w.heap.size, 1, none⟩ = some (.int .i64 q1) := hb.cellK; have n2 : w1.cell? ⟨w.heap.size, 2, none⟩ = some (.int .i64 r1) := hb.cellK; have n3 : w1.cell? ⟨w.heap.size + 1, 0, none⟩ = some (.int .i64 p2) := hb.cellK; have n4 : w1.cell? ⟨w.heap.size + 1, 1, none⟩ = some (.int .i64 q2) := hb.cellK; have n5 : w1.cell? ⟨w.heap.size + 1, 2, none⟩ = some (.int .i64 r2) := hb.cellK; (first | (have nx := hx.trK hb; clear hx) | have nx := hb); clear hb; try clear hs; try clear g0; try clear g1; try clear g2; try clear g3; try clear g4; try clear g5; have hx := nx; clear nx; have hs := ns; clear ns; have g0 := n0; clear n0; have g1 := n1; clear n1; have g2 := n2; clear n2; have g3 := n3; clear n3; have g4 := n4; clear n4; have g5 := n5; clear n5) | (go_at_call 152; refine (zb.out _).mono ?_; rintro rv w1 ⟨rfl, hb⟩; have ns : w.heap.size + 1 < w1.heap.size := hb.ltK; have n0 : w1.cell? ⟨w.heap.size, 0, none⟩ = some (.int .i64 p1) := hb.cellK; have n1 : w1.cell? ⟨w.heap.size, 1, none⟩ = some (.int .i64 q1) := hb.cellK; have n2 : w1.cell? ⟨w.heap.size, 2, none⟩ = some (.int .i64 r1) := hb.cellK; have n3 : w1.cell? ⟨w.heap.size + 1, 0, none⟩ = some (.int .i64 p2) := hb.cellK; have n4 : w1.cell? ⟨w.heap.size + 1, 1, none⟩ = some (.int .i64 q2) := hb.cellK; have n5 : w1.cell? ⟨w.heap.size + 1, 2, none⟩ = some (.int .i64 r2) := hb.cellK; (first | (have nx := hx.trK hb; clear hx) | have nx := hb); clear hb; try clear hs; try clear g0; try clear g1; try clear g2; try clear g3; try clear g4; try clear g5; have hx := nx; clear nx; have hs := ns; clear ns; have g0 := n0; clear n0; have g1 := n1; clear n1; have g2 := n2; clear n2; have g3 := n3; clear n3; have g4 := n4; clear n4; have g5 := n5; clear n5))
  go_ret
  exact ⟨rfl, Ext.auK⟩

theorem fover_xz (p1 q1 r1 p2 q2 r2 sx : Int) (hX : bits .xor .i64 p1 p2 = sx) (h1 : ¬ q1 = 0) (h2 : q2 = 0) (w : World) : Calls Tryz.prog 118 #[.agg #[.int .i64 p1, .int .i64 q1, .int .i64 r1], .agg #[.int .i64 p2, .int .i64 q2, .int .i64 r2]] w fun rv w' => rv = .returned (.iface 104 (.agg #[.int .i64 sx])) ∧ Ext w w' := by
  have za := Lib.hid (fun w => finZero_f p1 q1 r1 h1 w)
  have zb := Lib.hid (fun w => finZero_t p2 q2 r2 h2 w)
  clear h1 h2
  go_enter Tryz.func118, Tryz.ntmps118
  go_wp2_with (first | first | (go_at_call 152; refine (za.out _).mono ?_; rintro rv w1 ⟨rfl, hb⟩; have ns : w.heap.size + 1 < w1.heap.size := hb.ltK; have n0 : w1.cell? ⟨w.heap.size, 0, none⟩ = some (.int .i64 p1) := hb.cellK; have n1 : w1.cell? ⟨w.heap.size, 1, none⟩ = some (.int .i64 q1) := hb.cellK; have n2 : w1.cell? ⟨w.heap.size, 2, none⟩ = some (.int .i64 r1) := hb.cellK; have n3 : w1.cell? ⟨w.heap.size + 1, 0, none⟩ = some (.int .i64 p2) := hb.cellK; have n4 : w1.cell? ⟨w.heap.size + 1, 1, none⟩ = some (.int .i64 q2) := hb.cellK; have n5 : w1.cell? ⟨w.heap.size + 1, 2, none⟩ = some (.int .i64 r2) := hb.cellK; (first | (have nx := hx.trK hb; clear hx) | have nx := hb); clear hb; try clear hs; try clear g0; try clear g1; try clear g2; try clear g3; try clear g4; try clear g5; have hx := nx; clear nx; have hs := ns; clear ns; have g0 := n0; clear n0; have g1 := n1; clear n1; have g2 := n2; clear n2; have g3 := n3; clear n3; have g4 := n4; clear n4; have g5 := n5; clear n5) | (go_at_call 152; refine (zb.out _).mono ?_; rintro rv w1 ⟨rfl, hb⟩; have ns : w.heap.size + 1 < w1.heap.size := hb.ltK; have n0 : w1.cell? ⟨w.heap.size, 0, none⟩ = some (.int .i64 p1) := hb.cellK; have n1 : w1.cell? ⟨w.heap.size, 1, none⟩ = some (.int .i64 q1) := hb.cellK; have n2 : w1.cell? ⟨w.heap.size, 2, none⟩ = some (.int .i64 r1) := hb.cellK; have n3 : w1.cell? ⟨w.heap.size + 1, 0, none⟩ = some (.int .i64 p2) := hb.cellK; have n4 : w1.cell? ⟨w.heap.size + 1, 1, none⟩ = some (.int .i64 q2) := hb.cellK; have n5 : w1.cell? ⟨w.heap.size + 1, 2, none⟩ = some (.int .i64 r2) := hb.cellK; (first | (have nx := hx.trK hb; clear hx) | have nx := hb); clear hb; try clear hs; try clear g0; try clear g1; try clear g2; try clear g3; try clear g4; try clear g5; have hx := nx; clear nx; have hs := ns; clear ns; have g0 := n0; clear n0; have g1 := n1; clear n1; have g2 := n2; clear n2; have g3 := n3; clear n3; have g4 := n4; clear n4; have g5 := n5; clear n5))
  go_ret
  exact ⟨rfl, Ext.auK⟩

theorem fover_qt (p1 q1 r1 p2 q2 r2 sx : Int) (hX : bits .xor .i64 p1 p2 = sx) (h1 : q1 = 0) (h2 : ¬ q2 = 0) (g1 : 0 ≤ q1) (g2 : q1 ≤ 8589934592) (g3 : 0 < q2) (g4 : -1000 ≤ r1) (g5 : r1 ≤ 1000) (g6 : -1000 ≤ r2) (g7 : r2 ≤ 1000) (w : World) : Calls Tryz.prog 118 #[.agg #[.int .i64 p1, .int .i64 q1, .int .i64 r1], .agg #[.int .i64 p2, .int .i64 q2, .int .i64 r2]] w fun rv w' => rv = .returned (.iface 82 (.agg #[.int .i64 sx, .int .i64 (oqV (q1 * 268435456) q2), .int .i64 (r1 - r2 - 28 - 1)])) ∧ Ext w w' := by
  have za := Lib.hid (fun w => finZero_t p1 q1 r1 h1 w)
  have zb := Lib.hid (fun w => finZero_f p2 q2 r2 h2 w)
  have OQ := Lib.hid (fun w => oddQuotient_any (q1 * 268435456) q2 g3 (by omega) (by omega) w)
  have ks : IntKind.i64.wrap (q1 * 268435456) = q1 * 268435456 := IntWalk.i64_in _ (by omega)
  have kx : IntKind.i64.wrap (r1 - r2) = r1 - r2 := IntWalk.i64_in _ (by omega)
  have ky : IntKind.i64.wrap (r1 - r2 - 28) = r1 - r2 - 28 := IntWalk.i64_in _ (by omega)
  have kz : IntKind.i64.wrap (r1 - r2 - 28 - 1) = r1 - r2 - 28 - 1 := IntWalk.i64_in _ (by omega)
  clear h1 h2 g1 g2 g3 g4 g5 g6 g7
  go_enter Tryz.func118, Tryz.ntmps118
  go_wp2_with (first | first | (go_at_call 152; refine (za.out _).mono ?_; rintro rv w1 ⟨rfl, hb⟩; have ns : w.heap.size + 1 < w1.heap.size := hb.ltK; have n0 : w1.cell? ⟨w.heap.size, 0, none⟩ = some (.int .i64 p1) := hb.cellK; have n1 : w1.cell? ⟨w.heap.size, 1, none⟩ = some (.int .i64 q1) := hb.cellK; have n2 : w1.cell? ⟨w.heap.size, 2, none⟩ = some (.int .i64 r1) := hb.cellK; have n3 : w1.cell? ⟨w.heap.size + 1, 0, none⟩ = some (.int .i64 p2) := hb.cellK; have n4 : w1.cell? ⟨w.heap.size + 1, 1, none⟩ = some (.int .i64 q2) := hb.cellK; have n5 : w1.cell? ⟨w.heap.size + 1, 2, none⟩ = some (.int .i64 r2) := hb.cellK; (first | (have nx := hx.trK hb; clear hx) | have nx := hb); clear hb; try clear hs; try clear g0; try clear g1; try clear g2; try clear g3; try clear g4; try clear g5; have hx := nx; clear nx; have hs := ns; clear ns; have g0 := n0; clear n0; have g1 := n1; clear n1; have g2 := n2; clear n2; have g3 := n3; clear n3; have g4 := n4; clear n4; have g5 := n5; clear n5) | (go_at_call 152; refine (zb.out _).mono ?_; rintro rv w1 ⟨rfl, hb⟩; have ns : w.heap.size + 1 < w1.heap.size := hb.ltK; have n0 : w1.cell? ⟨w.heap.size, 0, none⟩ = some (.int .i64 p1) := hb.cellK; have n1 : w1.cell? ⟨w.heap.size, 1, none⟩ = some (.int .i64 q1) := hb.cellK; have n2 : w1.cell? ⟨w.heap.size, 2, none⟩ = some (.int .i64 r1) := hb.cellK; have n3 : w1.cell? ⟨w.heap.size + 1, 0, none⟩ = some (.int .i64 p2) := hb.cellK; have n4 : w1.cell? ⟨w.heap.size + 1, 1, none⟩ = some (.int .i64 q2) := hb.cellK; have n5 : w1.cell? ⟨w.heap.size + 1, 2, none⟩ = some (.int .i64 r2) := hb.cellK; (first | (have nx := hx.trK hb; clear hx) | have nx := hb); clear hb; try clear hs; try clear g0; try clear g1; try clear g2; try clear g3; try clear g4; try clear g5; have hx := nx; clear nx; have hs := ns; clear ns; have g0 := n0; clear n0; have g1 := n1; clear n1; have g2 := n2; clear n2; have g3 := n3; clear n3; have g4 := n4; clear n4; have g5 := n5; clear n5) | (go_at_call 153; refine (OQ.out _).mono ?_; rintro rv w1 ⟨rfl, hb⟩; have ns : w.heap.size + 1 < w1.heap.size := hb.ltK; have n0 : w1.cell? ⟨w.heap.size, 0, none⟩ = some (.int .i64 p1) := hb.cellK; have n1 : w1.cell? ⟨w.heap.size, 1, none⟩ = some (.int .i64 q1) := hb.cellK; have n2 : w1.cell? ⟨w.heap.size, 2, none⟩ = some (.int .i64 r1) := hb.cellK; have n3 : w1.cell? ⟨w.heap.size + 1, 0, none⟩ = some (.int .i64 p2) := hb.cellK; have n4 : w1.cell? ⟨w.heap.size + 1, 1, none⟩ = some (.int .i64 q2) := hb.cellK; have n5 : w1.cell? ⟨w.heap.size + 1, 2, none⟩ = some (.int .i64 r2) := hb.cellK; (first | (have nx := hx.trK hb; clear hx) | have nx := hb); clear hb; try clear hs; try clear g0; try clear g1; try clear g2; try clear g3; try clear g4; try clear g5; have hx := nx; clear nx; have hs := ns; clear ns; have g0 := n0; clear n0; have g1 := n1; clear n1; have g2 := n2; clear n2; have g3 := n3; clear n3; have g4 := n4; clear n4; have g5 := n5; clear n5))
  go_ret
  exact ⟨rfl, Ext.auK⟩

theorem fover_qf (p1 q1 r1 p2 q2 r2 sx : Int) (hX : bits .xor .i64 p1 p2 = sx) (h1 : ¬ q1 = 0) (h2 : ¬ q2 = 0) (g1 : 0 ≤ q1) (g2 : q1 ≤ 8589934592) (g3 : 0 < q2) (g4 : -1000 ≤ r1) (g5 : r1 ≤ 1000) (g6 : -1000 ≤ r2) (g7 : r2 ≤ 1000) (w : World) : Calls Tryz.prog 118 #[.agg #[.int .i64 p1, .int .i64 q1, .int .i64 r1], .agg #[.int .i64 p2, .int .i64 q2, .int .i64 r2]] w fun rv w' => rv = .returned (.iface 82 (.agg #[.int .i64 sx, .int .i64 (oqV (q1 * 268435456) q2), .int .i64 (r1 - r2 - 28 - 1)])) ∧ Ext w w' := by
  have za := Lib.hid (fun w => finZero_f p1 q1 r1 h1 w)
  have zb := Lib.hid (fun w => finZero_f p2 q2 r2 h2 w)
  have OQ := Lib.hid (fun w => oddQuotient_any (q1 * 268435456) q2 g3 (by omega) (by omega) w)
  have ks : IntKind.i64.wrap (q1 * 268435456) = q1 * 268435456 := IntWalk.i64_in _ (by omega)
  have kx : IntKind.i64.wrap (r1 - r2) = r1 - r2 := IntWalk.i64_in _ (by omega)
  have ky : IntKind.i64.wrap (r1 - r2 - 28) = r1 - r2 - 28 := IntWalk.i64_in _ (by omega)
  have kz : IntKind.i64.wrap (r1 - r2 - 28 - 1) = r1 - r2 - 28 - 1 := IntWalk.i64_in _ (by omega)
  clear h1 h2 g1 g2 g3 g4 g5 g6 g7
  go_enter Tryz.func118, Tryz.ntmps118
  go_wp2_with (first | first | (go_at_call 152; refine (za.out _).mono ?_; rintro rv w1 ⟨rfl, hb⟩; have ns : w.heap.size + 1 < w1.heap.size := hb.ltK; have n0 : w1.cell? ⟨w.heap.size, 0, none⟩ = some (.int .i64 p1) := hb.cellK; have n1 : w1.cell? ⟨w.heap.size, 1, none⟩ = some (.int .i64 q1) := hb.cellK; have n2 : w1.cell? ⟨w.heap.size, 2, none⟩ = some (.int .i64 r1) := hb.cellK; have n3 : w1.cell? ⟨w.heap.size + 1, 0, none⟩ = some (.int .i64 p2) := hb.cellK; have n4 : w1.cell? ⟨w.heap.size + 1, 1, none⟩ = some (.int .i64 q2) := hb.cellK; have n5 : w1.cell? ⟨w.heap.size + 1, 2, none⟩ = some (.int .i64 r2) := hb.cellK; (first | (have nx := hx.trK hb; clear hx) | have nx := hb); clear hb; try clear hs; try clear g0; try clear g1; try clear g2; try clear g3; try clear g4; try clear g5; have hx := nx; clear nx; have hs := ns; clear ns; have g0 := n0; clear n0; have g1 := n1; clear n1; have g2 := n2; clear n2; have g3 := n3; clear n3; have g4 := n4; clear n4; have g5 := n5; clear n5) | (go_at_call 152; refine (zb.out _).mono ?_; rintro rv w1 ⟨rfl, hb⟩; have ns : w.heap.size + 1 < w1.heap.size := hb.ltK; have n0 : w1.cell? ⟨w.heap.size, 0, none⟩ = some (.int .i64 p1) := hb.cellK; have n1 : w1.cell? ⟨w.heap.size, 1, none⟩ = some (.int .i64 q1) := hb.cellK; have n2 : w1.cell? ⟨w.heap.size, 2, none⟩ = some (.int .i64 r1) := hb.cellK; have n3 : w1.cell? ⟨w.heap.size + 1, 0, none⟩ = some (.int .i64 p2) := hb.cellK; have n4 : w1.cell? ⟨w.heap.size + 1, 1, none⟩ = some (.int .i64 q2) := hb.cellK; have n5 : w1.cell? ⟨w.heap.size + 1, 2, none⟩ = some (.int .i64 r2) := hb.cellK; (first | (have nx := hx.trK hb; clear hx) | have nx := hb); clear hb; try clear hs; try clear g0; try clear g1; try clear g2; try clear g3; try clear g4; try clear g5; have hx := nx; clear nx; have hs := ns; clear ns; have g0 := n0; clear n0; have g1 := n1; clear n1; have g2 := n2; clear n2; have g3 := n3; clear n3; have g4 := n4; clear n4; have g5 := n5; clear n5) | (go_at_call 153; refine (OQ.out _).mono ?_; rintro rv w1 ⟨rfl, hb⟩; have ns : w.heap.size + 1 < w1.heap.size := hb.ltK; have n0 : w1.cell? ⟨w.heap.size, 0, none⟩ = some (.int .i64 p1) := hb.cellK; have n1 : w1.cell? ⟨w.heap.size, 1, none⟩ = some (.int .i64 q1) := hb.cellK; have n2 : w1.cell? ⟨w.heap.size, 2, none⟩ = some (.int .i64 r1) := hb.cellK; have n3 : w1.cell? ⟨w.heap.size + 1, 0, none⟩ = some (.int .i64 p2) := hb.cellK; have n4 : w1.cell? ⟨w.heap.size + 1, 1, none⟩ = some (.int .i64 q2) := hb.cellK; have n5 : w1.cell? ⟨w.heap.size + 1, 2, none⟩ = some (.int .i64 r2) := hb.cellK; (first | (have nx := hx.trK hb; clear hx) | have nx := hb); clear hb; try clear hs; try clear g0; try clear g1; try clear g2; try clear g3; try clear g4; try clear g5; have hx := nx; clear nx; have hs := ns; clear ns; have g0 := n0; clear n0; have g1 := n1; clear n1; have g2 := n2; clear n2; have g3 := n3; clear n3; have g4 := n4; clear n4; have g5 := n5; clear n5))
  go_ret
  exact ⟨rfl, Ext.auK⟩
end Go.Proofs.YtfgbndjhaiigbaaGreatDoor

namespace Go.Proofs.YtfgbndjhaiigbaaGreatDoor
open Go Go.RowKit
set_option linter.unusedSimpArgs false
set_option linter.unusedVariables false

attribute [local go_sem] ta_finite_finite ta_finite_infinite ta_finite_noNumber ta_infinite_finite ta_infinite_infinite ta_infinite_noNumber ta_noNumber_finite ta_noNumber_infinite ta_noNumber_noNumber

set_option maxRecDepth 100000

theorem over_ff (m1 n1 x1 m2 n2 x2 sx : Int) (v : Value) (hs : bits .xor .i64 m1 m2 = sx) (FC : ∀ w, Calls Tryz.prog 118 #[.agg #[.int .i64 m1, .int .i64 n1, .int .i64 x1], .agg #[.int .i64 m2, .int .i64 n2, .int .i64 x2]] w fun rv w' => rv = .returned (v) ∧ Ext w w') (w : World) :
    Calls Tryz.prog 72 #[.iface 82 (.agg #[.int .i64 m1, .int .i64 n1, .int .i64 x1]), .iface 82 (.agg #[.int .i64 m2, .int .i64 n2, .int .i64 x2])] w fun rv w' => rv = .returned (v) ∧ Ext w w' := by
  replace FC := Lib.hid FC
  go_enter Tryz.func72, Tryz.ntmps72
  go_wp2_with (first | (go_at_call 221; (with_reducible refine (finSign_any m1 n1 x1 _).mono ?_); rintro rv w1 ⟨rfl, hb⟩; (first | (have nx := Ext.trans hx hb; clear hx) | (have nx := Ext.trans (hx.alloc _) hb; clear hx) | (have nx := Ext.trans ((hx.alloc _).alloc _) hb; clear hx) | (have nx := Ext.trans (((hx.alloc _).alloc _).alloc _) hb; clear hx) | have nx := hb); clear hb; have hx := nx; clear nx) | (go_at_call 221; (with_reducible refine (finSign_any m2 n2 x2 _).mono ?_); rintro rv w1 ⟨rfl, hb⟩; (first | (have nx := Ext.trans hx hb; clear hx) | (have nx := Ext.trans (hx.alloc _) hb; clear hx) | (have nx := Ext.trans ((hx.alloc _).alloc _) hb; clear hx) | (have nx := Ext.trans (((hx.alloc _).alloc _).alloc _) hb; clear hx) | have nx := hb); clear hb; have hx := nx; clear nx) | (go_at_call 118; (with_reducible refine (FC.out _).mono ?_); rintro rv w1 ⟨rfl, hb⟩; (first | (have nx := Ext.trans hx hb; clear hx) | (have nx := Ext.trans (hx.alloc _) hb; clear hx) | (have nx := Ext.trans ((hx.alloc _).alloc _) hb; clear hx) | (have nx := Ext.trans (((hx.alloc _).alloc _).alloc _) hb; clear hx) | have nx := hb); clear hb; have hx := nx; clear nx))
  go_ret
  exact ⟨rfl, Ext.auK⟩
end Go.Proofs.YtfgbndjhaiigbaaGreatDoor

