/-
  Contracts of the functions that the laws reach, and the plain facts that they rest on, each under the conditions that its line names; part 21.
-/
import Derived.Test.YtfgbndjhaiigbabDoorKxh1
import Derived.Test.YtfgbndjhaiigbabDoorKxh2
import Derived.Test.YtfgbndjhaiigbabDoorKxh3
import Derived.Test.YtfgbndjhaiigbabDoorKxh4
import Derived.Test.YtfgbndjhaiigbabDoorKxh5
import Derived.Test.YtfgbndjhaiigbabDoorKxh6
import Derived.Test.YtfgbndjhaiigbabDoorKxh7
import Derived.Test.YtfgbndjhaiigbabDoorKxh8
import Derived.Test.YtfgbndjhaiigbabDoorKxh9
import Derived.Test.YtfgbndjhaiigbabDoorKxh10
import Derived.Test.YtfgbndjhaiigbabDoorKxh11
import Derived.Test.YtfgbndjhaiigbabDoorKxh12
import Derived.Test.YtfgbndjhaiigbabDoorKxh13
import Derived.Test.YtfgbndjhaiigbabDoorKxh14
import Derived.Test.YtfgbndjhaiigbabDoorKxh15
import Derived.Test.YtfgbndjhaiigbabDoorKxh16
import Derived.Test.YtfgbndjhaiigbabDoorKxh17
import Derived.Test.YtfgbndjhaiigbabDoorKxh18
import Derived.Test.YtfgbndjhaiigbabDoorKxh19
import Derived.Test.YtfgbndjhaiigbabDoorKxh20
import Derived.Test.YtfgbndjhaiigbabDoorRows
import Derived.WalkKit
import Derived.Handy
import Derived.LoopTactic
import Derived.LoopN
import Derived.Laws.OwnMore
import Derived.OwnWalk
import Derived.Deep.AppendLies
import Derived.Laws.Bits64b
import Derived.WalkSpells
import Derived.WalkLawsBesides
import Derived.StillTactics
import Derived.Laws.Pointers
import Derived.Deep.RegionHeld3
import Derived.Deep.QuietTactic
import Derived.BigQuiet
import Derived.Outline
import Derived.Lib.Hide
import Derived.RowKit3
import Derived.Carry
import Derived.IntWalk
import Derived.Deep.LoopGhost
import Derived.Laws.BitsAllLaws
import Ieee.Arith
import Derived.Laws.FloatArith
import Derived.ScopeJumps
import Derived.WalkMore
import Derived.Laws.EntriesVeiled
namespace Go.Proofs.YtfgbndjhaiigbabDoor
open Go Go.RowKit
set_option linter.unusedSimpArgs false
set_option linter.unusedVariables false
set_option maxRecDepth 100000

attribute [local go_sem] ta_finite_finite ta_finite_infinite ta_finite_noNumber ta_infinite_finite ta_infinite_infinite ta_infinite_noNumber ta_noNumber_finite ta_noNumber_infinite ta_noNumber_noNumber

theorem xa_bd {e f a : Int} (hf : finB e f a = true) : -24 ≤ (shE (unitsV e f a) (unV e f)) ∧ (shE (unitsV e f a) (unV e f)) ≤ 41 := by
  have hap := (fin_pat hf).1
  obtain ⟨ua1, ua2, ua3, ua4, ua5⟩ := un_small hap
  have u1 := un_bd (pat_iff.1 hap).1
  by_cases h : (unitsV e f a) = 0
  · have := ua5 h; omega
  · have := ua4 h; omega

theorem txUnits_any (e f a : Int) (hf : finB e f a = true) (w : World) : Calls Tryd.prog 117 #[fmt e f, .int .i64 a] w fun rv w' => rv = .returned (.int .i64 ((unitsV e f a).natAbs : Int)) ∧ Ext w w' := by
  obtain ⟨hg, s0, s1, hu⟩ := fin_size hf
  have hap := (fin_pat hf).1
  obtain ⟨gg0, gg1, gg2⟩ := gr_bd2 hg
  have FS := Lib.hid (fun w => fmSize_any e f a hg (pat_iff.1 hap).2.1 w)
  have FU := Lib.hid (fun w => fmUnits_size e f (a % pw (e + f)) (pat_iff.2 ⟨hg, s0, by omega⟩) (by omega) w)
  rw [hu]
  generalize mgV f (a % pw (e + f)) = M at *
  generalize a % pw (e + f) = P at *
  go_enter Tryd.func117, Tryd.ntmps117
  go_wp2_with (first | (go_at_call 75; refine (FS.out _).mono ?_; rintro rv w1 ⟨rfl, hb⟩; have ns : w.heap.size < w1.heap.size := hb.ltK; have n0 : w1.cell? ⟨w.heap.size, 0, none⟩ = some (.int .i64 e) := hb.cellK; have n1 : w1.cell? ⟨w.heap.size, 1, none⟩ = some (.int .i64 f) := hb.cellK; (first | (have nx := hx.trK hb; clear hx) | have nx := hb); clear hb; try clear hs; try clear g0; try clear g1; have hx := nx; clear nx; have hs := ns; clear ns; have g0 := n0; clear n0; have g1 := n1; clear n1) | (go_at_call 42; refine (FU.out _).mono ?_; rintro rv w1 ⟨rfl, hb⟩; have ns : w.heap.size < w1.heap.size := hb.ltK; have n0 : w1.cell? ⟨w.heap.size, 0, none⟩ = some (.int .i64 e) := hb.cellK; have n1 : w1.cell? ⟨w.heap.size, 1, none⟩ = some (.int .i64 f) := hb.cellK; (first | (have nx := hx.trK hb; clear hx) | have nx := hb); clear hb; try clear hs; try clear g0; try clear g1; have hx := nx; clear nx; have hs := ns; clear ns; have g0 := n0; clear n0; have g1 := n1; clear n1))
  try (go_region_held3 (fun w' => w'.cell? ⟨w.heap.size, 0, none⟩ = some (.int .i64 e) ∧ w'.cell? ⟨w.heap.size, 1, none⟩ = some (.int .i64 f) ∧ w.heap.size < w'.heap.size) ((refine ⟨?_, ?_, ?_⟩ <;> first | with_reducible assumption | ((rw [cell_setRow_far _ _ _ _ _ (by omega)]); with_reducible assumption) | ((rw [setRow_size]); with_reducible assumption) | ((repeat rw [World.cell?_setCell_far _ _ _ _ (by simp)]); with_reducible assumption) | (simp; done) | (simp [World.setCell]; first | done | omega) | (simp [go_sem, World.cell?_alloc_past, World.cell?_setCell_far, *]; done))) ((first | (go_at_call 75; refine (FS.out _).mono ?_; rintro rv w1 ⟨rfl, hb⟩; have ns : w.heap.size < w1.heap.size := hb.ltK; have n0 : w1.cell? ⟨w.heap.size, 0, none⟩ = some (.int .i64 e) := hb.cellK; have n1 : w1.cell? ⟨w.heap.size, 1, none⟩ = some (.int .i64 f) := hb.cellK; (first | (have nx := hx.trK hb; clear hx) | have nx := hb); clear hb; try clear hs; try clear g0; try clear g1; have hx := nx; clear nx; have hs := ns; clear ns; have g0 := n0; clear n0; have g1 := n1; clear n1) | (go_at_call 42; refine (FU.out _).mono ?_; rintro rv w1 ⟨rfl, hb⟩; have ns : w.heap.size < w1.heap.size := hb.ltK; have n0 : w1.cell? ⟨w.heap.size, 0, none⟩ = some (.int .i64 e) := hb.cellK; have n1 : w1.cell? ⟨w.heap.size, 1, none⟩ = some (.int .i64 f) := hb.cellK; (first | (have nx := hx.trK hb; clear hx) | have nx := hb); clear hb; try clear hs; try clear g0; try clear g1; have hx := nx; clear nx; have hs := ns; clear ns; have g0 := n0; clear n0; have g1 := n1; clear n1))))
  all_goals (try go_wp2_with fail)
  all_goals go_ret
  all_goals exact ⟨rfl, Ext.auK⟩
end Go.Proofs.YtfgbndjhaiigbabDoor

