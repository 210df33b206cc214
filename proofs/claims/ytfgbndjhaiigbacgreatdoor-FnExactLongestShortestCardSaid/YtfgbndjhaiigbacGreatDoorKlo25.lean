/-
  Contracts of the functions that the laws reach, and the plain facts that they rest on, each under the conditions that its line names; part 25.
-/
import Derived.Test.YtfgbndjhaiigbacGreatDoorKlo1
import Derived.Test.YtfgbndjhaiigbacGreatDoorKlo2
import Derived.Test.YtfgbndjhaiigbacGreatDoorKlo3
import Derived.Test.YtfgbndjhaiigbacGreatDoorKlo4
import Derived.Test.YtfgbndjhaiigbacGreatDoorKlo5
import Derived.Test.YtfgbndjhaiigbacGreatDoorKlo6
import Derived.Test.YtfgbndjhaiigbacGreatDoorKlo7
import Derived.Test.YtfgbndjhaiigbacGreatDoorKlo8
import Derived.Test.YtfgbndjhaiigbacGreatDoorKlo9
import Derived.Test.YtfgbndjhaiigbacGreatDoorKlo10
import Derived.Test.YtfgbndjhaiigbacGreatDoorKlo11
import Derived.Test.YtfgbndjhaiigbacGreatDoorKlo12
import Derived.Test.YtfgbndjhaiigbacGreatDoorKlo13
import Derived.Test.YtfgbndjhaiigbacGreatDoorKlo14
import Derived.Test.YtfgbndjhaiigbacGreatDoorKlo15
import Derived.Test.YtfgbndjhaiigbacGreatDoorKlo16
import Derived.Test.YtfgbndjhaiigbacGreatDoorKlo17
import Derived.Test.YtfgbndjhaiigbacGreatDoorKlo18
import Derived.Test.YtfgbndjhaiigbacGreatDoorKlo19
import Derived.Test.YtfgbndjhaiigbacGreatDoorKlo20
import Derived.Test.YtfgbndjhaiigbacGreatDoorKlo21
import Derived.Test.YtfgbndjhaiigbacGreatDoorKlo22
import Derived.Test.YtfgbndjhaiigbacGreatDoorKlo23
import Derived.Test.YtfgbndjhaiigbacGreatDoorKlo24
import Derived.Test.YtfgbndjhaiigbacGreatDoorRows
import Derived.WalkKit
import Derived.LoopTactic
import Derived.Laws.Bits64b
import Derived.WalkSpells
import Derived.WalkLawsBesides
import Derived.StillTactics
import Derived.Laws.Pointers
import Derived.Deep.RegionHeld3
import Derived.Deep.QuietTactic
import Derived.BigQuiet
import Derived.Outline
import Derived.Lib.Hide
import Derived.RowKit3
import Derived.Carry
import Derived.IntWalk
namespace Go.Proofs.YtfgbndjhaiigbacGreatDoor
open Go Go.RowKit
set_option linter.unusedSimpArgs false
set_option linter.unusedVariables false

theorem pat_16 {e f p : Int} (h : patB e f p = true) : goodB e f = true ∧ 0 ≤ p ∧ p ≤ 65535 := by
  obtain ⟨hg, p0, p1⟩ := pat_iff.1 h
  obtain ⟨h1, h2, h3, h4⟩ := good_iff.1 hg
  have := pw_le (a := e + f) 15 32768 rfl (by omega)
  exact ⟨hg, p0, by omega⟩

set_option maxHeartbeats 1600000 in
theorem operandOf_fin (e f p : Int) (hf : finB e f p = true) (w : World) (hT : TW w) : Calls Tryz.prog 61 #[fmt e f, .int .i64 p] w fun rv w' => rv = .returned (.iface 74 (.agg #[.int .i64 (p / pw (e + f)), .int .i64 (((odV (unitsV e f p)).natAbs : Int)), .int .i64 (shE (unitsV e f p) (unV e f))])) ∧ Ext w w' := by
  obtain ⟨hp, hx⟩ := fin_pat hf
  obtain ⟨g0, p0, p1⟩ := pat_16 hp
  obtain ⟨ua0, ua1⟩ := units_bd e f p hp
  have ob := od_bd (unitsV e f p) 4398046511104 (by decide) ua0 ua1
  have kn : IntKind.i64.wrap (-odV (unitsV e f p)) = -odV (unitsV e f p) := IntWalk.i64_in _ (by omega)
  have km : max (odV (unitsV e f p)) (-odV (unitsV e f p)) = ((odV (unitsV e f p)).natAbs : Int) := by omega
  go_enter Tryz.func61, Tryz.ntmps61
  go_wp2_with (first | (go_at_call 107; refine (shapeOf_any e f p g0 p0 p1 _).mono ?_; rintro rv w1 ⟨rfl, hb⟩; have ns : w.heap.size < w1.heap.size := hb.ltK; have n0 : w1.cell? ⟨w.heap.size, 0, none⟩ = some (.int .i64 e) := hb.cellK; have n1 : w1.cell? ⟨w.heap.size, 1, none⟩ = some (.int .i64 f) := hb.cellK; (first | (have nx := hx.trK hb; clear hx) | have nx := hb); clear hb; try clear hs; try clear g0; try clear g1; have hx := nx; clear nx; have hs := ns; clear ns; have g0 := n0; clear n0; have g1 := n1; clear n1) | (go_at_call 108; refine (shFinite_any _ _ _ _ _).mono ?_; rintro rv w2 ⟨rfl, hb⟩; have ns : w1.heap.size < w2.heap.size := hb.ltK; have n0 : w2.cell? ⟨w.heap.size, 0, none⟩ = some (.int .i64 e) := hb.cellK; have n1 : w2.cell? ⟨w.heap.size, 1, none⟩ = some (.int .i64 f) := hb.cellK; have n2 : w2.cell? ⟨w1.heap.size, 0, none⟩ = some (.int .i64 (p / pw (e + f))) := hb.cellK; have n3 : w2.cell? ⟨w1.heap.size, 1, none⟩ = some (.int .i64 (p % pw (e + f) / pw f)) := hb.cellK; have n4 : w2.cell? ⟨w1.heap.size, 2, none⟩ = some (.int .i64 (p % pw f)) := hb.cellK; have n5 : w2.cell? ⟨w1.heap.size, 3, none⟩ = some (.int .i64 (pw e - 1)) := hb.cellK; (first | (have nx := hx.trK hb; clear hx) | have nx := hb); clear hb; try clear hs; try clear g0; try clear g1; try clear g2; try clear g3; try clear g4; try clear g5; have hx := nx; clear nx; have hs := ns; clear ns; have g0 := n0; clear n0; have g1 := n1; clear n1; have g2 := n2; clear n2; have g3 := n3; clear n3; have g4 := n4; clear n4; have g5 := n5; clear n5) | (go_at_call 80; refine (iValueOf_yes e f p hf _ (hT.ext Ext.auK)).mono ?_; rintro rv w2 ⟨rfl, hb⟩; have ns : w1.heap.size < w2.heap.size := hb.ltK; have n0 : w2.cell? ⟨w.heap.size, 0, none⟩ = some (.int .i64 e) := hb.cellK; have n1 : w2.cell? ⟨w.heap.size, 1, none⟩ = some (.int .i64 f) := hb.cellK; have n2 : w2.cell? ⟨w1.heap.size, 0, none⟩ = some (.int .i64 (p / pw (e + f))) := hb.cellK; have n3 : w2.cell? ⟨w1.heap.size, 1, none⟩ = some (.int .i64 (p % pw (e + f) / pw f)) := hb.cellK; have n4 : w2.cell? ⟨w1.heap.size, 2, none⟩ = some (.int .i64 (p % pw f)) := hb.cellK; have n5 : w2.cell? ⟨w1.heap.size, 3, none⟩ = some (.int .i64 (pw e - 1)) := hb.cellK; (first | (have nx := hx.trK hb; clear hx) | have nx := hb); clear hb; try clear hs; try clear g0; try clear g1; try clear g2; try clear g3; try clear g4; try clear g5; have hx := nx; clear nx; have hs := ns; clear ns; have g0 := n0; clear n0; have g1 := n1; clear n1; have g2 := n2; clear n2; have g3 := n3; clear n3; have g4 := n4; clear n4; have g5 := n5; clear n5))
  go_ret
  exact ⟨rfl, Ext.auK⟩

theorem operandOf_inf (e f p : Int) (hp : patB e f p = true) (hf : finB e f p = false) (hn : numB e f p = true) (w : World) : Calls Tryz.prog 61 #[fmt e f, .int .i64 p] w fun rv w' => rv = .returned (.iface 106 (.agg #[.int .i64 (p / pw (e + f))])) ∧ Ext w w' := by
  obtain ⟨g0, p0, p1⟩ := pat_16 hp
  have hx : decide (p % pw (e + f) / pw f < pw e - 1) = false := by unfold finB at hf; rw [hp] at hf; simpa using hf
  have hy : (p % pw (e + f) / pw f == pw e - 1 && p % pw f == 0) = true := by unfold numB at hn; rw [hp, hx] at hn; simpa using hn
  clear hn hf
  go_enter Tryz.func61, Tryz.ntmps61
  go_wp2_with (first | (go_at_call 107; refine (shapeOf_any e f p g0 p0 p1 _).mono ?_; rintro rv w1 ⟨rfl, hb⟩; have ns : w.heap.size < w1.heap.size := hb.ltK; have n0 : w1.cell? ⟨w.heap.size, 0, none⟩ = some (.int .i64 e) := hb.cellK; have n1 : w1.cell? ⟨w.heap.size, 1, none⟩ = some (.int .i64 f) := hb.cellK; (first | (have nx := hx.trK hb; clear hx) | have nx := hb); clear hb; try clear hs; try clear g0; try clear g1; have hx := nx; clear nx; have hs := ns; clear ns; have g0 := n0; clear n0; have g1 := n1; clear n1) | (go_at_call 108; refine (shFinite_any _ _ _ _ _).mono ?_; rintro rv w2 ⟨rfl, hb⟩; have ns : w1.heap.size < w2.heap.size := hb.ltK; have n0 : w2.cell? ⟨w.heap.size, 0, none⟩ = some (.int .i64 e) := hb.cellK; have n1 : w2.cell? ⟨w.heap.size, 1, none⟩ = some (.int .i64 f) := hb.cellK; have n2 : w2.cell? ⟨w1.heap.size, 0, none⟩ = some (.int .i64 (p / pw (e + f))) := hb.cellK; have n3 : w2.cell? ⟨w1.heap.size, 1, none⟩ = some (.int .i64 (p % pw (e + f) / pw f)) := hb.cellK; have n4 : w2.cell? ⟨w1.heap.size, 2, none⟩ = some (.int .i64 (p % pw f)) := hb.cellK; have n5 : w2.cell? ⟨w1.heap.size, 3, none⟩ = some (.int .i64 (pw e - 1)) := hb.cellK; (first | (have nx := hx.trK hb; clear hx) | have nx := hb); clear hb; try clear hs; try clear g0; try clear g1; try clear g2; try clear g3; try clear g4; try clear g5; have hx := nx; clear nx; have hs := ns; clear ns; have g0 := n0; clear n0; have g1 := n1; clear n1; have g2 := n2; clear n2; have g3 := n3; clear n3; have g4 := n4; clear n4; have g5 := n5; clear n5) | (go_at_call 109; refine (shInfinite_any _ _ _ _ _).mono ?_; rintro rv w2 ⟨rfl, hb⟩; have ns : w1.heap.size < w2.heap.size := hb.ltK; have n0 : w2.cell? ⟨w.heap.size, 0, none⟩ = some (.int .i64 e) := hb.cellK; have n1 : w2.cell? ⟨w.heap.size, 1, none⟩ = some (.int .i64 f) := hb.cellK; have n2 : w2.cell? ⟨w1.heap.size, 0, none⟩ = some (.int .i64 (p / pw (e + f))) := hb.cellK; have n3 : w2.cell? ⟨w1.heap.size, 1, none⟩ = some (.int .i64 (p % pw (e + f) / pw f)) := hb.cellK; have n4 : w2.cell? ⟨w1.heap.size, 2, none⟩ = some (.int .i64 (p % pw f)) := hb.cellK; have n5 : w2.cell? ⟨w1.heap.size, 3, none⟩ = some (.int .i64 (pw e - 1)) := hb.cellK; (first | (have nx := hx.trK hb; clear hx) | have nx := hb); clear hb; try clear hs; try clear g0; try clear g1; try clear g2; try clear g3; try clear g4; try clear g5; have hx := nx; clear nx; have hs := ns; clear ns; have g0 := n0; clear n0; have g1 := n1; clear n1; have g2 := n2; clear n2; have g3 := n3; clear n3; have g4 := n4; clear n4; have g5 := n5; clear n5))
  go_ret
  exact ⟨rfl, Ext.auK⟩

theorem operandOf_no (e f p : Int) (hp : patB e f p = true) (hn : numB e f p = false) (w : World) : Calls Tryz.prog 61 #[fmt e f, .int .i64 p] w fun rv w' => rv = .returned (.iface 128 (.agg #[])) ∧ Ext w w' := by
  obtain ⟨g0, p0, p1⟩ := pat_16 hp
  have hz : decide (p % pw (e + f) / pw f < pw e - 1) = false ∧ (p % pw (e + f) / pw f == pw e - 1 && p % pw f == 0) = false := by
    unfold numB at hn
    rw [hp, Bool.true_and, Bool.or_eq_false_iff] at hn
    exact hn
  obtain ⟨hx, hy⟩ := hz
  clear hn
  go_enter Tryz.func61, Tryz.ntmps61
  go_wp2_with (first | (go_at_call 107; refine (shapeOf_any e f p g0 p0 p1 _).mono ?_; rintro rv w1 ⟨rfl, hb⟩; have ns : w.heap.size < w1.heap.size := hb.ltK; have n0 : w1.cell? ⟨w.heap.size, 0, none⟩ = some (.int .i64 e) := hb.cellK; have n1 : w1.cell? ⟨w.heap.size, 1, none⟩ = some (.int .i64 f) := hb.cellK; (first | (have nx := hx.trK hb; clear hx) | have nx := hb); clear hb; try clear hs; try clear g0; try clear g1; have hx := nx; clear nx; have hs := ns; clear ns; have g0 := n0; clear n0; have g1 := n1; clear n1) | (go_at_call 108; refine (shFinite_any _ _ _ _ _).mono ?_; rintro rv w2 ⟨rfl, hb⟩; have ns : w1.heap.size < w2.heap.size := hb.ltK; have n0 : w2.cell? ⟨w.heap.size, 0, none⟩ = some (.int .i64 e) := hb.cellK; have n1 : w2.cell? ⟨w.heap.size, 1, none⟩ = some (.int .i64 f) := hb.cellK; have n2 : w2.cell? ⟨w1.heap.size, 0, none⟩ = some (.int .i64 (p / pw (e + f))) := hb.cellK; have n3 : w2.cell? ⟨w1.heap.size, 1, none⟩ = some (.int .i64 (p % pw (e + f) / pw f)) := hb.cellK; have n4 : w2.cell? ⟨w1.heap.size, 2, none⟩ = some (.int .i64 (p % pw f)) := hb.cellK; have n5 : w2.cell? ⟨w1.heap.size, 3, none⟩ = some (.int .i64 (pw e - 1)) := hb.cellK; (first | (have nx := hx.trK hb; clear hx) | have nx := hb); clear hb; try clear hs; try clear g0; try clear g1; try clear g2; try clear g3; try clear g4; try clear g5; have hx := nx; clear nx; have hs := ns; clear ns; have g0 := n0; clear n0; have g1 := n1; clear n1; have g2 := n2; clear n2; have g3 := n3; clear n3; have g4 := n4; clear n4; have g5 := n5; clear n5) | (go_at_call 109; refine (shInfinite_any _ _ _ _ _).mono ?_; rintro rv w2 ⟨rfl, hb⟩; have ns : w1.heap.size < w2.heap.size := hb.ltK; have n0 : w2.cell? ⟨w.heap.size, 0, none⟩ = some (.int .i64 e) := hb.cellK; have n1 : w2.cell? ⟨w.heap.size, 1, none⟩ = some (.int .i64 f) := hb.cellK; have n2 : w2.cell? ⟨w1.heap.size, 0, none⟩ = some (.int .i64 (p / pw (e + f))) := hb.cellK; have n3 : w2.cell? ⟨w1.heap.size, 1, none⟩ = some (.int .i64 (p % pw (e + f) / pw f)) := hb.cellK; have n4 : w2.cell? ⟨w1.heap.size, 2, none⟩ = some (.int .i64 (p % pw f)) := hb.cellK; have n5 : w2.cell? ⟨w1.heap.size, 3, none⟩ = some (.int .i64 (pw e - 1)) := hb.cellK; (first | (have nx := hx.trK hb; clear hx) | have nx := hb); clear hb; try clear hs; try clear g0; try clear g1; try clear g2; try clear g3; try clear g4; try clear g5; have hx := nx; clear nx; have hs := ns; clear ns; have g0 := n0; clear n0; have g1 := n1; clear n1; have g2 := n2; clear n2; have g3 := n3; clear n3; have g4 := n4; clear n4; have g5 := n5; clear n5))
  go_ret
  exact ⟨rfl, Ext.auK⟩
end Go.Proofs.YtfgbndjhaiigbacGreatDoor

namespace Go.Proofs.YtfgbndjhaiigbacGreatDoor
open Go Go.RowKit
set_option linter.unusedSimpArgs false
set_option linter.unusedVariables false

theorem finZero_any (m n x : Int) (w : World) : Calls Tryz.prog 113 #[.agg #[.int .i64 m, .int .i64 n, .int .i64 x]] w fun rv w' => rv = .returned (.bool (n == 0)) ∧ Ext w w' := by
  go_enter Tryz.func113, Tryz.ntmps113
  go_wp2
  go_ret
  exact ⟨rfl, Ext.auK⟩

theorem finRounded_any (e f m n x mode : Int) (hg : goodB e f = true) (hm : m = 0 ∨ m = 1) (v0 : 0 ≤ n) (v1 : n < 4611686018427387904) (k0 : -149 ≤ x - unV e f) (k1 : x - unV e f ≤ 149) (m0 : 0 ≤ mode) (m1 : mode ≤ 5) (w : World) :
    Calls Tryz.prog 105 #[.agg #[.int .i64 m, .int .i64 n, .int .i64 x], fmt e f, .int .i64 mode] w (RSout e f m n (x - unV e f) mode w) := by
  have RC := Lib.hid (fun w => roundSize_any e f m n x mode hg hm v0 v1 k0 k1 m0 m1 w)
  go_enter Tryz.func105, Tryz.ntmps105
  go_wp2_with (go_at_call 154; refine (RC.out _).mono ?_; rintro rv w1 ⟨s, rfl, hq, hb⟩; have HQ := Lib.hid hq; clear hq; have ns : w.heap.size + 1 < w1.heap.size := hb.ltK; have n0 : w1.cell? ⟨w.heap.size, 0, none⟩ = some (.int .i64 m) := hb.cellK; have n1 : w1.cell? ⟨w.heap.size, 1, none⟩ = some (.int .i64 n) := hb.cellK; have n2 : w1.cell? ⟨w.heap.size, 2, none⟩ = some (.int .i64 x) := hb.cellK; have n3 : w1.cell? ⟨w.heap.size + 1, 0, none⟩ = some (.int .i64 e) := hb.cellK; have n4 : w1.cell? ⟨w.heap.size + 1, 1, none⟩ = some (.int .i64 f) := hb.cellK; (first | (have nx := hx.trK hb; clear hx) | have nx := hb); clear hb; try clear hs; try clear g0; try clear g1; try clear g2; try clear g3; try clear g4; have hx := nx; clear nx; have hs := ns; clear ns; have g0 := n0; clear n0; have g1 := n1; clear n1; have g2 := n2; clear n2; have g3 := n3; clear n3; have g4 := n4; clear n4)
  go_ret
  exact ⟨s, rfl, HQ.out, Ext.auK⟩
end Go.Proofs.YtfgbndjhaiigbacGreatDoor

