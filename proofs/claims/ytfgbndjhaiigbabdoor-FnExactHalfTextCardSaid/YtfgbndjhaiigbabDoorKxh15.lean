/-
  Contracts of the functions that the laws reach, and the plain facts that they rest on, each under the conditions that its line names; part 15.
-/
import Derived.Test.YtfgbndjhaiigbabDoorKxh1
import Derived.Test.YtfgbndjhaiigbabDoorKxh2
import Derived.Test.YtfgbndjhaiigbabDoorKxh3
import Derived.Test.YtfgbndjhaiigbabDoorKxh4
import Derived.Test.YtfgbndjhaiigbabDoorKxh5
import Derived.Test.YtfgbndjhaiigbabDoorKxh6
import Derived.Test.YtfgbndjhaiigbabDoorKxh7
import Derived.Test.YtfgbndjhaiigbabDoorKxh8
import Derived.Test.YtfgbndjhaiigbabDoorKxh9
import Derived.Test.YtfgbndjhaiigbabDoorKxh10
import Derived.Test.YtfgbndjhaiigbabDoorKxh11
import Derived.Test.YtfgbndjhaiigbabDoorKxh12
import Derived.Test.YtfgbndjhaiigbabDoorKxh13
import Derived.Test.YtfgbndjhaiigbabDoorKxh14
import Derived.Test.YtfgbndjhaiigbabDoorRows
import Derived.WalkKit
import Derived.LoopTactic
import Derived.Laws.Bits64b
import Derived.WalkSpells
import Derived.WalkLawsBesides
import Derived.StillTactics
import Derived.Laws.Pointers
import Derived.Deep.RegionHeld3
import Derived.Deep.QuietTactic
import Derived.BigQuiet
import Derived.Outline
import Derived.Lib.Hide
import Derived.RowKit3
import Derived.Carry
import Derived.IntWalk
import Derived.Laws.BitsAllLaws
import Ieee.Arith
import Derived.Laws.FloatArith
import Derived.ScopeJumps
import Derived.WalkMore
namespace Go.Proofs.YtfgbndjhaiigbabDoor
open Go Go.RowKit
set_option linter.unusedSimpArgs false
set_option linter.unusedVariables false

theorem pat_16 {e f p : Int} (h : patB e f p = true) : goodB e f = true ∧ 0 ≤ p ∧ p ≤ 65535 := by
  obtain ⟨hg, p0, p1⟩ := pat_iff.1 h
  obtain ⟨h1, h2, h3, h4⟩ := good_iff.1 hg
  have := pw_le (a := e + f) 15 32768 rfl (by omega)
  exact ⟨hg, p0, by omega⟩

set_option maxHeartbeats 1600000 in
theorem operandOf_fin (e f p : Int) (hf : finB e f p = true) (w : World) (hT : TW w) : Calls Tryd.prog 113 #[fmt e f, .int .i64 p] w fun rv w' => rv = .returned (.iface 74 (.agg #[.int .i64 (p / pw (e + f)), .int .i64 (((odV (unitsV e f p)).natAbs : Int)), .int .i64 (shE (unitsV e f p) (unV e f))])) ∧ Ext w w' := by
  obtain ⟨hp, hx⟩ := fin_pat hf
  obtain ⟨g0, p0, p1⟩ := pat_16 hp
  obtain ⟨ua0, ua1⟩ := units_bd e f p hp
  have ob := od_bd (unitsV e f p) 4398046511104 (by decide) ua0 ua1
  have kn : IntKind.i64.wrap (-odV (unitsV e f p)) = -odV (unitsV e f p) := IntWalk.i64_in _ (by omega)
  have km : max (odV (unitsV e f p)) (-odV (unitsV e f p)) = ((odV (unitsV e f p)).natAbs : Int) := by omega
  go_enter Tryd.func113, Tryd.ntmps113
  go_wp2_with (first | (go_at_call 110; refine (shapeOf_any e f p g0 p0 p1 _).mono ?_; rintro rv w1 ⟨rfl, hb⟩; have ns : w.heap.size < w1.heap.size := hb.ltK; have n0 : w1.cell? ⟨w.heap.size, 0, none⟩ = some (.int .i64 e) := hb.cellK; have n1 : w1.cell? ⟨w.heap.size, 1, none⟩ = some (.int .i64 f) := hb.cellK; (first | (have nx := hx.trK hb; clear hx) | have nx := hb); clear hb; try clear hs; try clear g0; try clear g1; have hx := nx; clear nx; have hs := ns; clear ns; have g0 := n0; clear n0; have g1 := n1; clear n1) | (go_at_call 57; refine (shFinite_any _ _ _ _ _).mono ?_; rintro rv w2 ⟨rfl, hb⟩; have ns : w1.heap.size < w2.heap.size := hb.ltK; have n0 : w2.cell? ⟨w.heap.size, 0, none⟩ = some (.int .i64 e) := hb.cellK; have n1 : w2.cell? ⟨w.heap.size, 1, none⟩ = some (.int .i64 f) := hb.cellK; have n2 : w2.cell? ⟨w1.heap.size, 0, none⟩ = some (.int .i64 (p / pw (e + f))) := hb.cellK; have n3 : w2.cell? ⟨w1.heap.size, 1, none⟩ = some (.int .i64 (p % pw (e + f) / pw f)) := hb.cellK; have n4 : w2.cell? ⟨w1.heap.size, 2, none⟩ = some (.int .i64 (p % pw f)) := hb.cellK; have n5 : w2.cell? ⟨w1.heap.size, 3, none⟩ = some (.int .i64 (pw e - 1)) := hb.cellK; (first | (have nx := hx.trK hb; clear hx) | have nx := hb); clear hb; try clear hs; try clear g0; try clear g1; try clear g2; try clear g3; try clear g4; try clear g5; have hx := nx; clear nx; have hs := ns; clear ns; have g0 := n0; clear n0; have g1 := n1; clear n1; have g2 := n2; clear n2; have g3 := n3; clear n3; have g4 := n4; clear n4; have g5 := n5; clear n5) | (go_at_call 136; refine (iValueOf_yes e f p hf _ (hT.ext Ext.auK)).mono ?_; rintro rv w2 ⟨rfl, hb⟩; have ns : w1.heap.size < w2.heap.size := hb.ltK; have n0 : w2.cell? ⟨w.heap.size, 0, none⟩ = some (.int .i64 e) := hb.cellK; have n1 : w2.cell? ⟨w.heap.size, 1, none⟩ = some (.int .i64 f) := hb.cellK; have n2 : w2.cell? ⟨w1.heap.size, 0, none⟩ = some (.int .i64 (p / pw (e + f))) := hb.cellK; have n3 : w2.cell? ⟨w1.heap.size, 1, none⟩ = some (.int .i64 (p % pw (e + f) / pw f)) := hb.cellK; have n4 : w2.cell? ⟨w1.heap.size, 2, none⟩ = some (.int .i64 (p % pw f)) := hb.cellK; have n5 : w2.cell? ⟨w1.heap.size, 3, none⟩ = some (.int .i64 (pw e - 1)) := hb.cellK; (first | (have nx := hx.trK hb; clear hx) | have nx := hb); clear hb; try clear hs; try clear g0; try clear g1; try clear g2; try clear g3; try clear g4; try clear g5; have hx := nx; clear nx; have hs := ns; clear ns; have g0 := n0; clear n0; have g1 := n1; clear n1; have g2 := n2; clear n2; have g3 := n3; clear n3; have g4 := n4; clear n4; have g5 := n5; clear n5))
  go_ret
  exact ⟨rfl, Ext.auK⟩

theorem operandOf_inf (e f p : Int) (hp : patB e f p = true) (hf : finB e f p = false) (hn : numB e f p = true) (w : World) : Calls Tryd.prog 113 #[fmt e f, .int .i64 p] w fun rv w' => rv = .returned (.iface 136 (.agg #[.int .i64 (p / pw (e + f))])) ∧ Ext w w' := by
  obtain ⟨g0, p0, p1⟩ := pat_16 hp
  have hx : decide (p % pw (e + f) / pw f < pw e - 1) = false := by unfold finB at hf; rw [hp] at hf; simpa using hf
  have hy : (p % pw (e + f) / pw f == pw e - 1 && p % pw f == 0) = true := by unfold numB at hn; rw [hp, hx] at hn; simpa using hn
  clear hn hf
  go_enter Tryd.func113, Tryd.ntmps113
  go_wp2_with (first | (go_at_call 110; refine (shapeOf_any e f p g0 p0 p1 _).mono ?_; rintro rv w1 ⟨rfl, hb⟩; have ns : w.heap.size < w1.heap.size := hb.ltK; have n0 : w1.cell? ⟨w.heap.size, 0, none⟩ = some (.int .i64 e) := hb.cellK; have n1 : w1.cell? ⟨w.heap.size, 1, none⟩ = some (.int .i64 f) := hb.cellK; (first | (have nx := hx.trK hb; clear hx) | have nx := hb); clear hb; try clear hs; try clear g0; try clear g1; have hx := nx; clear nx; have hs := ns; clear ns; have g0 := n0; clear n0; have g1 := n1; clear n1) | (go_at_call 57; refine (shFinite_any _ _ _ _ _).mono ?_; rintro rv w2 ⟨rfl, hb⟩; have ns : w1.heap.size < w2.heap.size := hb.ltK; have n0 : w2.cell? ⟨w.heap.size, 0, none⟩ = some (.int .i64 e) := hb.cellK; have n1 : w2.cell? ⟨w.heap.size, 1, none⟩ = some (.int .i64 f) := hb.cellK; have n2 : w2.cell? ⟨w1.heap.size, 0, none⟩ = some (.int .i64 (p / pw (e + f))) := hb.cellK; have n3 : w2.cell? ⟨w1.heap.size, 1, none⟩ = some (.int .i64 (p % pw (e + f) / pw f)) := hb.cellK; have n4 : w2.cell? ⟨w1.heap.size, 2, none⟩ = some (.int .i64 (p % pw f)) := hb.cellK; have n5 : w2.cell? ⟨w1.heap.size, 3, none⟩ = some (.int .i64 (pw e - 1)) := hb.cellK; (first | (have nx := hx.trK hb; clear hx) | have nx := hb); clear hb; try clear hs; try clear g0; try clear g1; try clear g2; try clear g3; try clear g4; try clear g5; have hx := nx; clear nx; have hs := ns; clear ns; have g0 := n0; clear n0; have g1 := n1; clear n1; have g2 := n2; clear n2; have g3 := n3; clear n3; have g4 := n4; clear n4; have g5 := n5; clear n5) | (go_at_call 144; refine (shInfinite_any _ _ _ _ _).mono ?_; rintro rv w2 ⟨rfl, hb⟩; have ns : w1.heap.size < w2.heap.size := hb.ltK; have n0 : w2.cell? ⟨w.heap.size, 0, none⟩ = some (.int .i64 e) := hb.cellK; have n1 : w2.cell? ⟨w.heap.size, 1, none⟩ = some (.int .i64 f) := hb.cellK; have n2 : w2.cell? ⟨w1.heap.size, 0, none⟩ = some (.int .i64 (p / pw (e + f))) := hb.cellK; have n3 : w2.cell? ⟨w1.heap.size, 1, none⟩ = some (.int .i64 (p % pw (e + f) / pw f)) := hb.cellK; have n4 : w2.cell? ⟨w1.heap.size, 2, none⟩ = some (.int .i64 (p % pw f)) := hb.cellK; have n5 : w2.cell? ⟨w1.heap.size, 3, none⟩ = some (.int .i64 (pw e - 1)) := hb.cellK; (first | (have nx := hx.trK hb; clear hx) | have nx := hb); clear hb; try clear hs; try clear g0; try clear g1; try clear g2; try clear g3; try clear g4; try clear g5; have hx := nx; clear nx; have hs := ns; clear ns; have g0 := n0; clear n0; have g1 := n1; clear n1; have g2 := n2; clear n2; have g3 := n3; clear n3; have g4 := n4; clear n4; have g5 := n5; clear n5))
  go_ret
  exact ⟨rfl, Ext.auK⟩

theorem operandOf_no (e f p : Int) (hp : patB e f p = true) (hn : numB e f p = false) (w : World) : Calls Tryd.prog 113 #[fmt e f, .int .i64 p] w fun rv w' => rv = .returned (.iface 138 (.agg #[])) ∧ Ext w w' := by
  obtain ⟨g0, p0, p1⟩ := pat_16 hp
  have hz : decide (p % pw (e + f) / pw f < pw e - 1) = false ∧ (p % pw (e + f) / pw f == pw e - 1 && p % pw f == 0) = false := by
    unfold numB at hn
    rw [hp, Bool.true_and, Bool.or_eq_false_iff] at hn
    exact hn
  obtain ⟨hx, hy⟩ := hz
  clear hn
  go_enter Tryd.func113, Tryd.ntmps113
  go_wp2_with (first | (go_at_call 110; refine (shapeOf_any e f p g0 p0 p1 _).mono ?_; rintro rv w1 ⟨rfl, hb⟩; have ns : w.heap.size < w1.heap.size := hb.ltK; have n0 : w1.cell? ⟨w.heap.size, 0, none⟩ = some (.int .i64 e) := hb.cellK; have n1 : w1.cell? ⟨w.heap.size, 1, none⟩ = some (.int .i64 f) := hb.cellK; (first | (have nx := hx.trK hb; clear hx) | have nx := hb); clear hb; try clear hs; try clear g0; try clear g1; have hx := nx; clear nx; have hs := ns; clear ns; have g0 := n0; clear n0; have g1 := n1; clear n1) | (go_at_call 57; refine (shFinite_any _ _ _ _ _).mono ?_; rintro rv w2 ⟨rfl, hb⟩; have ns : w1.heap.size < w2.heap.size := hb.ltK; have n0 : w2.cell? ⟨w.heap.size, 0, none⟩ = some (.int .i64 e) := hb.cellK; have n1 : w2.cell? ⟨w.heap.size, 1, none⟩ = some (.int .i64 f) := hb.cellK; have n2 : w2.cell? ⟨w1.heap.size, 0, none⟩ = some (.int .i64 (p / pw (e + f))) := hb.cellK; have n3 : w2.cell? ⟨w1.heap.size, 1, none⟩ = some (.int .i64 (p % pw (e + f) / pw f)) := hb.cellK; have n4 : w2.cell? ⟨w1.heap.size, 2, none⟩ = some (.int .i64 (p % pw f)) := hb.cellK; have n5 : w2.cell? ⟨w1.heap.size, 3, none⟩ = some (.int .i64 (pw e - 1)) := hb.cellK; (first | (have nx := hx.trK hb; clear hx) | have nx := hb); clear hb; try clear hs; try clear g0; try clear g1; try clear g2; try clear g3; try clear g4; try clear g5; have hx := nx; clear nx; have hs := ns; clear ns; have g0 := n0; clear n0; have g1 := n1; clear n1; have g2 := n2; clear n2; have g3 := n3; clear n3; have g4 := n4; clear n4; have g5 := n5; clear n5) | (go_at_call 144; refine (shInfinite_any _ _ _ _ _).mono ?_; rintro rv w2 ⟨rfl, hb⟩; have ns : w1.heap.size < w2.heap.size := hb.ltK; have n0 : w2.cell? ⟨w.heap.size, 0, none⟩ = some (.int .i64 e) := hb.cellK; have n1 : w2.cell? ⟨w.heap.size, 1, none⟩ = some (.int .i64 f) := hb.cellK; have n2 : w2.cell? ⟨w1.heap.size, 0, none⟩ = some (.int .i64 (p / pw (e + f))) := hb.cellK; have n3 : w2.cell? ⟨w1.heap.size, 1, none⟩ = some (.int .i64 (p % pw (e + f) / pw f)) := hb.cellK; have n4 : w2.cell? ⟨w1.heap.size, 2, none⟩ = some (.int .i64 (p % pw f)) := hb.cellK; have n5 : w2.cell? ⟨w1.heap.size, 3, none⟩ = some (.int .i64 (pw e - 1)) := hb.cellK; (first | (have nx := hx.trK hb; clear hx) | have nx := hb); clear hb; try clear hs; try clear g0; try clear g1; try clear g2; try clear g3; try clear g4; try clear g5; have hx := nx; clear nx; have hs := ns; clear ns; have g0 := n0; clear n0; have g1 := n1; clear n1; have g2 := n2; clear n2; have g3 := n3; clear n3; have g4 := n4; clear n4; have g5 := n5; clear n5))
  go_ret
  exact ⟨rfl, Ext.auK⟩
end Go.Proofs.YtfgbndjhaiigbabDoor

