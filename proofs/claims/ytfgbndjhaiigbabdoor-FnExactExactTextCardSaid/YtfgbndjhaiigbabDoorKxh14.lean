/-
  Contracts of the functions that the laws reach, and the plain facts that they rest on, each under the conditions that its line names; part 14.
-/
import Derived.Test.YtfgbndjhaiigbabDoorKxh1
import Derived.Test.YtfgbndjhaiigbabDoorKxh2
import Derived.Test.YtfgbndjhaiigbabDoorKxh3
import Derived.Test.YtfgbndjhaiigbabDoorKxh4
import Derived.Test.YtfgbndjhaiigbabDoorKxh5
import Derived.Test.YtfgbndjhaiigbabDoorKxh6
import Derived.Test.YtfgbndjhaiigbabDoorKxh7
import Derived.Test.YtfgbndjhaiigbabDoorKxh8
import Derived.Test.YtfgbndjhaiigbabDoorKxh10
import Derived.Test.YtfgbndjhaiigbabDoorKxh12
import Derived.Test.YtfgbndjhaiigbabDoorKxh13
import Derived.Test.YtfgbndjhaiigbabDoorRows
import Derived.WalkKit
import Derived.LoopTactic
import Derived.Laws.Bits64b
import Derived.WalkSpells
import Derived.WalkLawsBesides
import Derived.StillTactics
import Derived.Laws.Pointers
import Derived.Deep.RegionHeld3
import Derived.Deep.QuietTactic
import Derived.BigQuiet
import Derived.Outline
import Derived.Lib.Hide
import Derived.RowKit3
import Derived.Carry
import Derived.IntWalk
namespace Go.Proofs.YtfgbndjhaiigbabDoor
open Go Go.RowKit
set_option linter.unusedSimpArgs false
set_option linter.unusedVariables false

theorem units_bd (e f p : Int) (hp : patB e f p = true) : -4398046511104 ≤ unitsV e f p ∧ unitsV e f p ≤ 4398046511104 := by
  obtain ⟨m0, m1⟩ := mag_bd e f p hp
  unfold unitsV
  split <;> omega

set_option maxHeartbeats 1600000 in
theorem iValueOf_yes (e f p : Int) (hg : finB e f p = true) (w : World) (hT : TW w) : Calls Tryd.prog 136 #[fmt e f, .int .i64 p] w fun rv w' => rv = .returned (.tuple #[two (odV (unitsV e f p)) (shE (unitsV e f p) (unV e f)), .bool true]) ∧ Ext w w' := by
  have hp := (fin_pat hg).1
  obtain ⟨hg0, p0, p1⟩ := pat_iff.1 hp
  obtain ⟨u1, u2, u3, u4⟩ := un_bd hg0
  obtain ⟨m0, m1⟩ := units_bd e f p hp
  obtain ⟨e1, e2, e3⟩ := nf_small (S := unitsV e f p) (l := unV e f) (by omega) (by omega) (by omega) (by omega)
  have E := Lib.hid (show _ ∧ _ ∧ _ from ⟨e1, e2, e3⟩); clear e1 e2 e3
  go_enter Tryd.func136, Tryd.ntmps136
  go_wp2_with (first | (go_at_call 101; refine (iUnitsOf_yes e f p hg _).mono ?_; rintro rv w1 ⟨rfl, hb⟩; have ns : w.heap.size + 1 < w1.heap.size := hb.ltK; have n0 : w1.cell? ⟨w.heap.size, 0, none⟩ = some (.int .i64 e) := hb.cellK; have n1 : w1.cell? ⟨w.heap.size, 1, none⟩ = some (.int .i64 f) := hb.cellK; have n2 : w1.cell? ⟨w.heap.size + 1, 0, none⟩ = some (.int .i64 0) := hb.cellK; have n3 : w1.cell? ⟨w.heap.size + 1, 1, none⟩ = some (.int .i64 0) := hb.cellK; have nz0 : w1.frozen? ⟨w.heap.size + 1, 0, none⟩ = false := hb.frzK; have nz1 : w1.frozen? ⟨w.heap.size + 1, 1, none⟩ = false := hb.frzK; (first | (have nx := hx.trK hb; clear hx) | have nx := hb); clear hb; try clear hs; try clear g0; try clear g1; try clear g2; try clear g3; try clear z0; try clear z1; have hx := nx; clear nx; have hs := ns; clear ns; have g0 := n0; clear n0; have g1 := n1; clear n1; have g2 := n2; clear n2; have g3 := n3; clear n3; have z0 := nz0; clear nz0; have z1 := nz1; clear nz1) | (go_at_call 52; refine (unitPower_any e f hg0 _).mono ?_; rintro rv w1 ⟨rfl, hb⟩; have ns : w.heap.size + 1 < w1.heap.size := hb.ltK; have n0 : w1.cell? ⟨w.heap.size, 0, none⟩ = some (.int .i64 e) := hb.cellK; have n1 : w1.cell? ⟨w.heap.size, 1, none⟩ = some (.int .i64 f) := hb.cellK; have n2 : w1.cell? ⟨w.heap.size + 1, 0, none⟩ = some (.int .i64 0) := hb.cellK; have n3 : w1.cell? ⟨w.heap.size + 1, 1, none⟩ = some (.int .i64 0) := hb.cellK; have nz0 : w1.frozen? ⟨w.heap.size + 1, 0, none⟩ = false := hb.frzK; have nz1 : w1.frozen? ⟨w.heap.size + 1, 1, none⟩ = false := hb.frzK; (first | (have nx := hx.trK hb; clear hx) | have nx := hb); clear hb; try clear hs; try clear g0; try clear g1; try clear g2; try clear g3; try clear z0; try clear z1; have hx := nx; clear nx; have hs := ns; clear ns; have g0 := n0; clear n0; have g1 := n1; clear n1; have g2 := n2; clear n2; have g3 := n3; clear n3; have z0 := nz0; clear nz0; have z1 := nz1; clear nz1) | (go_at_call 51; refine (lowest_any _ _ (by omega) (by omega) (by omega) (by omega) _ (hT.ext Ext.auK)).mono ?_; rintro rv w1 ⟨rfl, hb⟩; have ns : w.heap.size + 1 < w1.heap.size := hb.ltK; have n0 : w1.cell? ⟨w.heap.size, 0, none⟩ = some (.int .i64 e) := hb.cellK; have n1 : w1.cell? ⟨w.heap.size, 1, none⟩ = some (.int .i64 f) := hb.cellK; have n2 : w1.cell? ⟨w.heap.size + 1, 0, none⟩ = some (.int .i64 0) := hb.cellK; have n3 : w1.cell? ⟨w.heap.size + 1, 1, none⟩ = some (.int .i64 0) := hb.cellK; have nz0 : w1.frozen? ⟨w.heap.size + 1, 0, none⟩ = false := hb.frzK; have nz1 : w1.frozen? ⟨w.heap.size + 1, 1, none⟩ = false := hb.frzK; (first | (have nx := hx.trK hb; clear hx) | have nx := hb); clear hb; try clear hs; try clear g0; try clear g1; try clear g2; try clear g3; try clear z0; try clear z1; have hx := nx; clear nx; have hs := ns; clear ns; have g0 := n0; clear n0; have g1 := n1; clear n1; have g2 := n2; clear n2; have g3 := n3; clear n3; have z0 := nz0; clear nz0; have z1 := nz1; clear nz1))
  exact bodyPost_ret (v := .tuple #[two (nfN (unitsV e f p) (unV e f)) (nfE (unitsV e f p) (unV e f)), .bool (nfB (unitsV e f p) (unV e f))]) (by simp [results, Tryd.results136, go_sem, *]) rfl ⟨by rw [E.out.1, E.out.2.1, E.out.2.2], Ext.auK⟩
end Go.Proofs.YtfgbndjhaiigbabDoor

