/-
  Contracts of the functions that the laws reach, and the plain facts that they rest on, each under the conditions that its line names; part 26.
-/
import Derived.Test.YtfgbndjhaiigbaaGreatDoorKdj1
import Derived.Test.YtfgbndjhaiigbaaGreatDoorKdj2
import Derived.Test.YtfgbndjhaiigbaaGreatDoorKdj3
import Derived.Test.YtfgbndjhaiigbaaGreatDoorKdj4
import Derived.Test.YtfgbndjhaiigbaaGreatDoorKdj5
import Derived.Test.YtfgbndjhaiigbaaGreatDoorKdj6
import Derived.Test.YtfgbndjhaiigbaaGreatDoorKdj7
import Derived.Test.YtfgbndjhaiigbaaGreatDoorKdj8
import Derived.Test.YtfgbndjhaiigbaaGreatDoorKdj9
import Derived.Test.YtfgbndjhaiigbaaGreatDoorKdj10
import Derived.Test.YtfgbndjhaiigbaaGreatDoorKdj11
import Derived.Test.YtfgbndjhaiigbaaGreatDoorKdj12
import Derived.Test.YtfgbndjhaiigbaaGreatDoorKdj13
import Derived.Test.YtfgbndjhaiigbaaGreatDoorKdj14
import Derived.Test.YtfgbndjhaiigbaaGreatDoorKdj15
import Derived.Test.YtfgbndjhaiigbaaGreatDoorKdj16
import Derived.Test.YtfgbndjhaiigbaaGreatDoorKdj17
import Derived.Test.YtfgbndjhaiigbaaGreatDoorKdj18
import Derived.Test.YtfgbndjhaiigbaaGreatDoorKdj19
import Derived.Test.YtfgbndjhaiigbaaGreatDoorKdj20
import Derived.Test.YtfgbndjhaiigbaaGreatDoorKdj21
import Derived.Test.YtfgbndjhaiigbaaGreatDoorKdj22
import Derived.Test.YtfgbndjhaiigbaaGreatDoorKdj23
import Derived.Test.YtfgbndjhaiigbaaGreatDoorKdj24
import Derived.Test.YtfgbndjhaiigbaaGreatDoorKdj25
import Derived.Test.YtfgbndjhaiigbaaGreatDoorRows
import Derived.WalkKit
import Derived.LoopTactic
import Derived.Laws.Bits64b
import Derived.WalkSpells
import Derived.WalkLawsBesides
import Derived.StillTactics
import Derived.Laws.Pointers
import Derived.Deep.RegionHeld3
import Derived.Deep.QuietTactic
import Derived.BigQuiet
import Derived.Outline
import Derived.Lib.Hide
import Derived.RowKit3
import Derived.Carry
import Derived.IntWalk
namespace Go.Proofs.YtfgbndjhaiigbaaGreatDoor
open Go Go.RowKit
set_option linter.unusedSimpArgs false
set_option linter.unusedVariables false

theorem pat_16 {e f p : Int} (h : patB e f p = true) : goodB e f = true ∧ 0 ≤ p ∧ p ≤ 65535 := by
  obtain ⟨hg, p0, p1⟩ := pat_iff.1 h
  obtain ⟨h1, h2, h3, h4⟩ := good_iff.1 hg
  have := pw_le (a := e + f) 15 32768 rfl (by omega)
  exact ⟨hg, p0, by omega⟩

set_option maxHeartbeats 1600000 in
theorem operandOf_fin (e f p : Int) (hf : finB e f p = true) (w : World) (hT : TW w) : Calls Tryz.prog 120 #[fmt e f, .int .i64 p] w fun rv w' => rv = .returned (.iface 82 (.agg #[.int .i64 (p / pw (e + f)), .int .i64 (((odV (unitsV e f p)).natAbs : Int)), .int .i64 (shE (unitsV e f p) (unV e f))])) ∧ Ext w w' := by
  obtain ⟨hp, hx⟩ := fin_pat hf
  obtain ⟨g0, p0, p1⟩ := pat_16 hp
  obtain ⟨ua0, ua1⟩ := units_bd e f p hp
  have ob := od_bd (unitsV e f p) 4398046511104 (by decide) ua0 ua1
  have kn : IntKind.i64.wrap (-odV (unitsV e f p)) = -odV (unitsV e f p) := IntWalk.i64_in _ (by omega)
  have km : max (odV (unitsV e f p)) (-odV (unitsV e f p)) = ((odV (unitsV e f p)).natAbs : Int) := by omega
  go_enter Tryz.func120, Tryz.ntmps120
  go_wp2_with (first | (go_at_call 146; refine (shapeOf_any e f p g0 p0 p1 _).mono ?_; rintro rv w1 ⟨rfl, hb⟩; have ns : w.heap.size < w1.heap.size := hb.ltK; have n0 : w1.cell? ⟨w.heap.size, 0, none⟩ = some (.int .i64 e) := hb.cellK; have n1 : w1.cell? ⟨w.heap.size, 1, none⟩ = some (.int .i64 f) := hb.cellK; (first | (have nx := hx.trK hb; clear hx) | have nx := hb); clear hb; try clear hs; try clear g0; try clear g1; have hx := nx; clear nx; have hs := ns; clear ns; have g0 := n0; clear n0; have g1 := n1; clear n1) | (go_at_call 106; refine (shFinite_any _ _ _ _ _).mono ?_; rintro rv w2 ⟨rfl, hb⟩; have ns : w1.heap.size < w2.heap.size := hb.ltK; have n0 : w2.cell? ⟨w.heap.size, 0, none⟩ = some (.int .i64 e) := hb.cellK; have n1 : w2.cell? ⟨w.heap.size, 1, none⟩ = some (.int .i64 f) := hb.cellK; have n2 : w2.cell? ⟨w1.heap.size, 0, none⟩ = some (.int .i64 (p / pw (e + f))) := hb.cellK; have n3 : w2.cell? ⟨w1.heap.size, 1, none⟩ = some (.int .i64 (p % pw (e + f) / pw f)) := hb.cellK; have n4 : w2.cell? ⟨w1.heap.size, 2, none⟩ = some (.int .i64 (p % pw f)) := hb.cellK; have n5 : w2.cell? ⟨w1.heap.size, 3, none⟩ = some (.int .i64 (pw e - 1)) := hb.cellK; (first | (have nx := hx.trK hb; clear hx) | have nx := hb); clear hb; try clear hs; try clear g0; try clear g1; try clear g2; try clear g3; try clear g4; try clear g5; have hx := nx; clear nx; have hs := ns; clear ns; have g0 := n0; clear n0; have g1 := n1; clear n1; have g2 := n2; clear n2; have g3 := n3; clear n3; have g4 := n4; clear n4; have g5 := n5; clear n5) | (go_at_call 154; refine (iValueOf_yes e f p hf _ (hT.ext Ext.auK)).mono ?_; rintro rv w2 ⟨rfl, hb⟩; have ns : w1.heap.size < w2.heap.size := hb.ltK; have n0 : w2.cell? ⟨w.heap.size, 0, none⟩ = some (.int .i64 e) := hb.cellK; have n1 : w2.cell? ⟨w.heap.size, 1, none⟩ = some (.int .i64 f) := hb.cellK; have n2 : w2.cell? ⟨w1.heap.size, 0, none⟩ = some (.int .i64 (p / pw (e + f))) := hb.cellK; have n3 : w2.cell? ⟨w1.heap.size, 1, none⟩ = some (.int .i64 (p % pw (e + f) / pw f)) := hb.cellK; have n4 : w2.cell? ⟨w1.heap.size, 2, none⟩ = some (.int .i64 (p % pw f)) := hb.cellK; have n5 : w2.cell? ⟨w1.heap.size, 3, none⟩ = some (.int .i64 (pw e - 1)) := hb.cellK; (first | (have nx := hx.trK hb; clear hx) | have nx := hb); clear hb; try clear hs; try clear g0; try clear g1; try clear g2; try clear g3; try clear g4; try clear g5; have hx := nx; clear nx; have hs := ns; clear ns; have g0 := n0; clear n0; have g1 := n1; clear n1; have g2 := n2; clear n2; have g3 := n3; clear n3; have g4 := n4; clear n4; have g5 := n5; clear n5))
  go_ret
  exact ⟨rfl, Ext.auK⟩

theorem operandOf_inf (e f p : Int) (hp : patB e f p = true) (hf : finB e f p = false) (hn : numB e f p = true) (w : World) : Calls Tryz.prog 120 #[fmt e f, .int .i64 p] w fun rv w' => rv = .returned (.iface 104 (.agg #[.int .i64 (p / pw (e + f))])) ∧ Ext w w' := by
  obtain ⟨g0, p0, p1⟩ := pat_16 hp
  have hx : decide (p % pw (e + f) / pw f < pw e - 1) = false := by unfold finB at hf; rw [hp] at hf; simpa using hf
  have hy : (p % pw (e + f) / pw f == pw e - 1 && p % pw f == 0) = true := by unfold numB at hn; rw [hp, hx] at hn; simpa using hn
  clear hn hf
  go_enter Tryz.func120, Tryz.ntmps120
  go_wp2_with (first | (go_at_call 146; refine (shapeOf_any e f p g0 p0 p1 _).mono ?_; rintro rv w1 ⟨rfl, hb⟩; have ns : w.heap.size < w1.heap.size := hb.ltK; have n0 : w1.cell? ⟨w.heap.size, 0, none⟩ = some (.int .i64 e) := hb.cellK; have n1 : w1.cell? ⟨w.heap.size, 1, none⟩ = some (.int .i64 f) := hb.cellK; (first | (have nx := hx.trK hb; clear hx) | have nx := hb); clear hb; try clear hs; try clear g0; try clear g1; have hx := nx; clear nx; have hs := ns; clear ns; have g0 := n0; clear n0; have g1 := n1; clear n1) | (go_at_call 106; refine (shFinite_any _ _ _ _ _).mono ?_; rintro rv w2 ⟨rfl, hb⟩; have ns : w1.heap.size < w2.heap.size := hb.ltK; have n0 : w2.cell? ⟨w.heap.size, 0, none⟩ = some (.int .i64 e) := hb.cellK; have n1 : w2.cell? ⟨w.heap.size, 1, none⟩ = some (.int .i64 f) := hb.cellK; have n2 : w2.cell? ⟨w1.heap.size, 0, none⟩ = some (.int .i64 (p / pw (e + f))) := hb.cellK; have n3 : w2.cell? ⟨w1.heap.size, 1, none⟩ = some (.int .i64 (p % pw (e + f) / pw f)) := hb.cellK; have n4 : w2.cell? ⟨w1.heap.size, 2, none⟩ = some (.int .i64 (p % pw f)) := hb.cellK; have n5 : w2.cell? ⟨w1.heap.size, 3, none⟩ = some (.int .i64 (pw e - 1)) := hb.cellK; (first | (have nx := hx.trK hb; clear hx) | have nx := hb); clear hb; try clear hs; try clear g0; try clear g1; try clear g2; try clear g3; try clear g4; try clear g5; have hx := nx; clear nx; have hs := ns; clear ns; have g0 := n0; clear n0; have g1 := n1; clear n1; have g2 := n2; clear n2; have g3 := n3; clear n3; have g4 := n4; clear n4; have g5 := n5; clear n5) | (go_at_call 155; refine (shInfinite_any _ _ _ _ _).mono ?_; rintro rv w2 ⟨rfl, hb⟩; have ns : w1.heap.size < w2.heap.size := hb.ltK; have n0 : w2.cell? ⟨w.heap.size, 0, none⟩ = some (.int .i64 e) := hb.cellK; have n1 : w2.cell? ⟨w.heap.size, 1, none⟩ = some (.int .i64 f) := hb.cellK; have n2 : w2.cell? ⟨w1.heap.size, 0, none⟩ = some (.int .i64 (p / pw (e + f))) := hb.cellK; have n3 : w2.cell? ⟨w1.heap.size, 1, none⟩ = some (.int .i64 (p % pw (e + f) / pw f)) := hb.cellK; have n4 : w2.cell? ⟨w1.heap.size, 2, none⟩ = some (.int .i64 (p % pw f)) := hb.cellK; have n5 : w2.cell? ⟨w1.heap.size, 3, none⟩ = some (.int .i64 (pw e - 1)) := hb.cellK; (first | (have nx := hx.trK hb; clear hx) | have nx := hb); clear hb; try clear hs; try clear g0; try clear g1; try clear g2; try clear g3; try clear g4; try clear g5; have hx := nx; clear nx; have hs := ns; clear ns; have g0 := n0; clear n0; have g1 := n1; clear n1; have g2 := n2; clear n2; have g3 := n3; clear n3; have g4 := n4; clear n4; have g5 := n5; clear n5))
  go_ret
  exact ⟨rfl, Ext.auK⟩

theorem operandOf_no (e f p : Int) (hp : patB e f p = true) (hn : numB e f p = false) (w : World) : Calls Tryz.prog 120 #[fmt e f, .int .i64 p] w fun rv w' => rv = .returned (.iface 107 (.agg #[])) ∧ Ext w w' := by
  obtain ⟨g0, p0, p1⟩ := pat_16 hp
  have hz : decide (p % pw (e + f) / pw f < pw e - 1) = false ∧ (p % pw (e + f) / pw f == pw e - 1 && p % pw f == 0) = false := by
    unfold numB at hn
    rw [hp, Bool.true_and, Bool.or_eq_false_iff] at hn
    exact hn
  obtain ⟨hx, hy⟩ := hz
  clear hn
  go_enter Tryz.func120, Tryz.ntmps120
  go_wp2_with (first | (go_at_call 146; refine (shapeOf_any e f p g0 p0 p1 _).mono ?_; rintro rv w1 ⟨rfl, hb⟩; have ns : w.heap.size < w1.heap.size := hb.ltK; have n0 : w1.cell? ⟨w.heap.size, 0, none⟩ = some (.int .i64 e) := hb.cellK; have n1 : w1.cell? ⟨w.heap.size, 1, none⟩ = some (.int .i64 f) := hb.cellK; (first | (have nx := hx.trK hb; clear hx) | have nx := hb); clear hb; try clear hs; try clear g0; try clear g1; have hx := nx; clear nx; have hs := ns; clear ns; have g0 := n0; clear n0; have g1 := n1; clear n1) | (go_at_call 106; refine (shFinite_any _ _ _ _ _).mono ?_; rintro rv w2 ⟨rfl, hb⟩; have ns : w1.heap.size < w2.heap.size := hb.ltK; have n0 : w2.cell? ⟨w.heap.size, 0, none⟩ = some (.int .i64 e) := hb.cellK; have n1 : w2.cell? ⟨w.heap.size, 1, none⟩ = some (.int .i64 f) := hb.cellK; have n2 : w2.cell? ⟨w1.heap.size, 0, none⟩ = some (.int .i64 (p / pw (e + f))) := hb.cellK; have n3 : w2.cell? ⟨w1.heap.size, 1, none⟩ = some (.int .i64 (p % pw (e + f) / pw f)) := hb.cellK; have n4 : w2.cell? ⟨w1.heap.size, 2, none⟩ = some (.int .i64 (p % pw f)) := hb.cellK; have n5 : w2.cell? ⟨w1.heap.size, 3, none⟩ = some (.int .i64 (pw e - 1)) := hb.cellK; (first | (have nx := hx.trK hb; clear hx) | have nx := hb); clear hb; try clear hs; try clear g0; try clear g1; try clear g2; try clear g3; try clear g4; try clear g5; have hx := nx; clear nx; have hs := ns; clear ns; have g0 := n0; clear n0; have g1 := n1; clear n1; have g2 := n2; clear n2; have g3 := n3; clear n3; have g4 := n4; clear n4; have g5 := n5; clear n5) | (go_at_call 155; refine (shInfinite_any _ _ _ _ _).mono ?_; rintro rv w2 ⟨rfl, hb⟩; have ns : w1.heap.size < w2.heap.size := hb.ltK; have n0 : w2.cell? ⟨w.heap.size, 0, none⟩ = some (.int .i64 e) := hb.cellK; have n1 : w2.cell? ⟨w.heap.size, 1, none⟩ = some (.int .i64 f) := hb.cellK; have n2 : w2.cell? ⟨w1.heap.size, 0, none⟩ = some (.int .i64 (p / pw (e + f))) := hb.cellK; have n3 : w2.cell? ⟨w1.heap.size, 1, none⟩ = some (.int .i64 (p % pw (e + f) / pw f)) := hb.cellK; have n4 : w2.cell? ⟨w1.heap.size, 2, none⟩ = some (.int .i64 (p % pw f)) := hb.cellK; have n5 : w2.cell? ⟨w1.heap.size, 3, none⟩ = some (.int .i64 (pw e - 1)) := hb.cellK; (first | (have nx := hx.trK hb; clear hx) | have nx := hb); clear hb; try clear hs; try clear g0; try clear g1; try clear g2; try clear g3; try clear g4; try clear g5; have hx := nx; clear nx; have hs := ns; clear ns; have g0 := n0; clear n0; have g1 := n1; clear n1; have g2 := n2; clear n2; have g3 := n3; clear n3; have g4 := n4; clear n4; have g5 := n5; clear n5))
  go_ret
  exact ⟨rfl, Ext.auK⟩
end Go.Proofs.YtfgbndjhaiigbaaGreatDoor

namespace Go.Proofs.YtfgbndjhaiigbaaGreatDoor
open Go Go.RowKit
set_option linter.unusedSimpArgs false
set_option linter.unusedVariables false

theorem finSign_any (m n x : Int) (w : World) : Calls Tryz.prog 221 #[.agg #[.int .i64 m, .int .i64 n, .int .i64 x]] w fun rv w' => rv = .returned (.int .i64 m) ∧ Ext w w' := by
  go_enter Tryz.func221, Tryz.ntmps221
  go_wp2
  go_ret
  exact ⟨rfl, Ext.auK⟩

theorem infSign_any (m : Int) (w : World) : Calls Tryz.prog 224 #[.agg #[.int .i64 m]] w fun rv w' => rv = .returned (.int .i64 m) ∧ Ext w w' := by
  go_enter Tryz.func224, Tryz.ntmps224
  go_wp2
  go_ret
  exact ⟨rfl, Ext.auK⟩

theorem noSign_any  (w : World) : Calls Tryz.prog 227 #[.agg #[]] w fun rv w' => rv = .returned (.int .i64 0) ∧ Ext w w' := by
  go_enter Tryz.func227, Tryz.ntmps227
  go_wp2
  go_ret
  exact ⟨rfl, Ext.auK⟩

theorem finZero_any (m n x : Int) (w : World) : Calls Tryz.prog 152 #[.agg #[.int .i64 m, .int .i64 n, .int .i64 x]] w fun rv w' => rv = .returned (.bool (n == 0)) ∧ Ext w w' := by
  go_enter Tryz.func152, Tryz.ntmps152
  go_wp2
  go_ret
  exact ⟨rfl, Ext.auK⟩

theorem infRounded_any (e f m mode : Int) (hg : goodB e f = true) (hm : m = 0 ∨ m = 1) (w : World) : Calls Tryz.prog 223 #[.agg #[.int .i64 m], fmt e f, .int .i64 mode] w fun rv w' => rv = .returned (.int .i64 (m * pw (e + f) + (pw e - 1) * pw f)) ∧ Ext w w' := by
  obtain ⟨h1, h2, h3, h4⟩ := good_iff.1 hg
  obtain ⟨⟨a1, a2⟩, ⟨b1, b2⟩, ⟨c1, c2⟩, hmul⟩ := pw_facts h1 h2 h3 h4
  have Hmul := Lib.hid hmul; clear hmul
  have pc : ∀ w, Calls Tryz.prog 180 #[fmt e f, .agg #[.int .i64 m, .int .i64 (pw e - 1), .int .i64 0]] w fun rv w' => rv = .returned (.int .i64 (m * pw (e + f) + (pw e - 1) * pw f)) ∧ Ext w w' := by
    intro w
    have := patternOf_any e f m (pw e - 1) 0 hg (by omega) (by omega) (by omega) (by omega) (by omega) (by omega) w
    rwa [Int.add_zero] at this
  have PC := Lib.hid pc; clear pc
  go_enter Tryz.func223, Tryz.ntmps223
  go_wp2_with fail
  go_region_held3 (fun w' => w'.cell? ⟨w.heap.size, 0, none⟩ = some (.int .i64 m) ∧ w'.cell? ⟨w.heap.size + 1, 0, none⟩ = some (.int .i64 e) ∧ w'.cell? ⟨w.heap.size + 1, 1, none⟩ = some (.int .i64 f) ∧ w.heap.size + 1 < w'.heap.size) ((refine ⟨?_, ?_, ?_, ?_⟩ <;> first | with_reducible assumption | ((rw [cell_setRow_far _ _ _ _ _ (by omega)]); with_reducible assumption) | ((rw [setRow_size]); with_reducible assumption) | ((repeat rw [World.cell?_setCell_far _ _ _ _ (by simp)]); with_reducible assumption) | (simp; done) | (simp [World.setCell]; first | done | omega) | (simp [go_sem, World.cell?_alloc_past, World.cell?_setCell_far, *]; done))) ((first | (go_at_call 163; refine (exponentOnes_any e f hg _).mono ?_; rintro rv w1 ⟨rfl, hb⟩; have ns : w.heap.size + 1 < w1.heap.size := hb.ltK; have n0 : w1.cell? ⟨w.heap.size, 0, none⟩ = some (.int .i64 m) := hb.cellK; have n1 : w1.cell? ⟨w.heap.size + 1, 0, none⟩ = some (.int .i64 e) := hb.cellK; have n2 : w1.cell? ⟨w.heap.size + 1, 1, none⟩ = some (.int .i64 f) := hb.cellK; (first | (have nx := hx.trK hb; clear hx) | have nx := hb); clear hb; try clear hs; try clear g0; try clear g1; try clear g2; have hx := nx; clear nx; have hs := ns; clear ns; have g0 := n0; clear n0; have g1 := n1; clear n1; have g2 := n2; clear n2) | (go_at_call 180; refine (PC.out _).mono ?_; rintro rv w1 ⟨rfl, hb⟩; have ns : w.heap.size + 1 < w1.heap.size := hb.ltK; have n0 : w1.cell? ⟨w.heap.size, 0, none⟩ = some (.int .i64 m) := hb.cellK; have n1 : w1.cell? ⟨w.heap.size + 1, 0, none⟩ = some (.int .i64 e) := hb.cellK; have n2 : w1.cell? ⟨w.heap.size + 1, 1, none⟩ = some (.int .i64 f) := hb.cellK; (first | (have nx := hx.trK hb; clear hx) | have nx := hb); clear hb; try clear hs; try clear g0; try clear g1; try clear g2; have hx := nx; clear nx; have hs := ns; clear ns; have g0 := n0; clear n0; have g1 := n1; clear n1; have g2 := n2; clear n2)))
  go_wp2_with fail
  go_ret
  exact ⟨rfl, Ext.auK⟩

theorem finRounded_any (e f m n x mode : Int) (hg : goodB e f = true) (hm : m = 0 ∨ m = 1) (v0 : 0 ≤ n) (v1 : n < 4611686018427387904) (k0 : -149 ≤ x - unV e f) (k1 : x - unV e f ≤ 149) (m0 : 0 ≤ mode) (m1 : mode ≤ 5) (w : World) :
    Calls Tryz.prog 133 #[.agg #[.int .i64 m, .int .i64 n, .int .i64 x], fmt e f, .int .i64 mode] w (RSout e f m n (x - unV e f) mode w) := by
  have RC := Lib.hid (fun w => roundSize_any e f m n x mode hg hm v0 v1 k0 k1 m0 m1 w)
  go_enter Tryz.func133, Tryz.ntmps133
  go_wp2_with (go_at_call 159; refine (RC.out _).mono ?_; rintro rv w1 ⟨s, rfl, hq, hb⟩; have HQ := Lib.hid hq; clear hq; have ns : w.heap.size + 1 < w1.heap.size := hb.ltK; have n0 : w1.cell? ⟨w.heap.size, 0, none⟩ = some (.int .i64 m) := hb.cellK; have n1 : w1.cell? ⟨w.heap.size, 1, none⟩ = some (.int .i64 n) := hb.cellK; have n2 : w1.cell? ⟨w.heap.size, 2, none⟩ = some (.int .i64 x) := hb.cellK; have n3 : w1.cell? ⟨w.heap.size + 1, 0, none⟩ = some (.int .i64 e) := hb.cellK; have n4 : w1.cell? ⟨w.heap.size + 1, 1, none⟩ = some (.int .i64 f) := hb.cellK; (first | (have nx := hx.trK hb; clear hx) | have nx := hb); clear hb; try clear hs; try clear g0; try clear g1; try clear g2; try clear g3; try clear g4; have hx := nx; clear nx; have hs := ns; clear ns; have g0 := n0; clear n0; have g1 := n1; clear n1; have g2 := n2; clear n2; have g3 := n3; clear n3; have g4 := n4; clear n4)
  go_ret
  exact ⟨s, rfl, HQ.out, Ext.auK⟩
end Go.Proofs.YtfgbndjhaiigbaaGreatDoor

