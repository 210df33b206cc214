/-
  The function IntervalText answers as its model at every argument; there are no conditions beside the tables of the library as the row lists them.
-/
import Derived.Test.YtfgbndjhaiigbacGreatDoorRows
import Derived.Test.YtfgbndjhaiigbacGreatDoorKs31
import Derived.Test.YtfgbndjhaiigbacGreatDoorKs32
import Derived.Test.YtfgbndjhaiigbacGreatDoorKs33
import Derived.Test.YtfgbndjhaiigbacGreatDoorKs34
import Derived.Test.YtfgbndjhaiigbacGreatDoorKs35
import Derived.Test.YtfgbndjhaiigbacGreatDoorKs36
import Derived.Test.YtfgbndjhaiigbacGreatDoorKs37
import Derived.Test.YtfgbndjhaiigbacGreatDoorKs38
import Derived.Test.YtfgbndjhaiigbacGreatDoorKs39
import Derived.Test.YtfgbndjhaiigbacGreatDoorKs310
import Derived.Test.YtfgbndjhaiigbacGreatDoorKs311
import Derived.Test.YtfgbndjhaiigbacGreatDoorKs312
import Derived.Test.YtfgbndjhaiigbacGreatDoorKs313
import Derived.Test.YtfgbndjhaiigbacGreatDoorKs314
import Derived.Test.YtfgbndjhaiigbacGreatDoorKs315
import Derived.Test.YtfgbndjhaiigbacGreatDoorKs316
import Derived.Test.YtfgbndjhaiigbacGreatDoorKs317
import Derived.Test.YtfgbndjhaiigbacGreatDoorKs318
import Derived.Test.YtfgbndjhaiigbacGreatDoorKs319
import Derived.Test.YtfgbndjhaiigbacGreatDoorKs320
import Derived.Test.YtfgbndjhaiigbacGreatDoorKs321
import Derived.Test.YtfgbndjhaiigbacGreatDoorKs322
import Derived.Test.YtfgbndjhaiigbacGreatDoorKs323
import Derived.Test.YtfgbndjhaiigbacGreatDoorKs324
import Derived.Test.YtfgbndjhaiigbacGreatDoorKs325
import Derived.Test.YtfgbndjhaiigbacGreatDoorKs326
import Derived.Test.YtfgbndjhaiigbacGreatDoorKs327
import Derived.Test.YtfgbndjhaiigbacGreatDoorKs328
import Derived.Test.YtfgbndjhaiigbacGreatDoorKs329
import Derived.Test.YtfgbndjhaiigbacGreatDoorKs330
import Derived.Test.YtfgbndjhaiigbacGreatDoorKs331
import Derived.Test.YtfgbndjhaiigbacGreatDoorKs332
import Derived.Test.YtfgbndjhaiigbacGreatDoorKs333
import Derived.Test.YtfgbndjhaiigbacGreatDoorKs334
import Derived.Test.YtfgbndjhaiigbacGreatDoorKs335
import Derived.Test.YtfgbndjhaiigbacGreatDoorKs336
import Derived.Test.YtfgbndjhaiigbacGreatDoorKs337
import Derived.Test.YtfgbndjhaiigbacGreatDoorKs338
import Derived.Test.YtfgbndjhaiigbacGreatDoorKs339
import Derived.Test.YtfgbndjhaiigbacGreatDoorKs340
import Derived.Test.YtfgbndjhaiigbacGreatDoorKs341
import Derived.Test.YtfgbndjhaiigbacGreatDoorSeatA
import Derived.Test.YtfgbndjhaiigbacGreatDoorSeatB
import Derived.Test.YtfgbndjhaiigbacGreatDoorSeatC
import Derived.WalkKit
import Derived.ProofKit
import Derived.OpenShut
import Derived.Lib.Hide
import Derived.Deep.RegionHeld3
import Derived.Deep.DeepCutAuto
import Derived.Deep.CutBlock
import Derived.Lib.SmallJoins
import Derived.LaidMore
import Derived.Stop.Joined
import Derived.SevenTiedAt
import Derived.Test.YtfgbndjhaiigbacGreatDoorCards
import Derived.Test.YtfgbndjhaiigbacGreatDoorTie
namespace Go.Proofs.YtfgbndjhaiigbacGreatDoor.lIntervalText
open Go.ChangeShapes Go.WideShapes Go.ChangeAt Go.RowKit Go.Joins
set_option linter.unusedVariables false
set_option linter.unusedSimpArgs false

set_option maxHeartbeats 6400000 in
theorem walk (e f a b : Int) (xe : (Lit.int .i64 e).wf = true) (xf : (Lit.int .i64 f).wf = true) (xa : (Lit.int .i64 a).wf = true) (xb : (Lit.int .i64 b).wf = true) (w : World) (hT : TT w) : Calls Tryz.prog 13 #[fmt e f, two a b] w fun rv w' => rv = .returned (.bool true) ∧ Ext w w' := by
  cases hg : ivB e f a b
  · have SC := Lib.hid (fun w => sIntervalText_no e f a b hg w)
    have IC := Lib.hid (fun w => iIntervalText_no e f a b hg w)
    clear hg
    go_enter Tryz.func13, Tryz.ntmps13
    go_wp2_with fail
    go_region_held3 (fun w' => w'.cell? ⟨w.heap.size, 0, none⟩ = some (.int .i64 e) ∧ w'.cell? ⟨w.heap.size, 1, none⟩ = some (.int .i64 f) ∧ w'.cell? ⟨w.heap.size + 1, 0, none⟩ = some (.int .i64 a) ∧ w'.cell? ⟨w.heap.size + 1, 1, none⟩ = some (.int .i64 b) ∧ w.heap.size + 1 < w'.heap.size) ((refine ⟨?_, ?_, ?_, ?_, ?_⟩ <;> first | with_reducible assumption | ((rw [cell_setRow_far _ _ _ _ _ (by omega)]); with_reducible assumption) | ((rw [setRow_size]); with_reducible assumption) | ((repeat rw [World.cell?_setCell_far _ _ _ _ (by simp)]); with_reducible assumption) | (simp; done) | (simp [World.setCell]; first | done | omega) | (simp [go_sem, World.cell?_alloc_past, World.cell?_setCell_far, *]; done))) ((first | (go_at_call 15; (with_reducible refine (toFormat_any e f _).mono ?_); rintro rv w1 ⟨rfl, hb⟩; have ns : w.heap.size + 1 < w1.heap.size := hb.ltK; have n0 : w1.cell? ⟨w.heap.size, 0, none⟩ = some (.int .i64 e) := hb.cellK; have n1 : w1.cell? ⟨w.heap.size, 1, none⟩ = some (.int .i64 f) := hb.cellK; have n2 : w1.cell? ⟨w.heap.size + 1, 0, none⟩ = some (.int .i64 a) := hb.cellK; have n3 : w1.cell? ⟨w.heap.size + 1, 1, none⟩ = some (.int .i64 b) := hb.cellK; (first | (have nx := hx.trK hb; clear hx) | have nx := hb); clear hb; try clear hs; try clear g0; try clear g1; try clear g2; try clear g3; have hx := nx; clear nx; have hs := ns; clear ns; have g0 := n0; clear n0; have g1 := n1; clear n1; have g2 := n2; clear n2; have g3 := n3; clear n3) | (go_at_call 41; (with_reducible refine (toInterval_any a b _).mono ?_); rintro rv w1 ⟨rfl, hb⟩; have ns : w.heap.size + 1 < w1.heap.size := hb.ltK; have n0 : w1.cell? ⟨w.heap.size, 0, none⟩ = some (.int .i64 e) := hb.cellK; have n1 : w1.cell? ⟨w.heap.size, 1, none⟩ = some (.int .i64 f) := hb.cellK; have n2 : w1.cell? ⟨w.heap.size + 1, 0, none⟩ = some (.int .i64 a) := hb.cellK; have n3 : w1.cell? ⟨w.heap.size + 1, 1, none⟩ = some (.int .i64 b) := hb.cellK; (first | (have nx := hx.trK hb; clear hx) | have nx := hb); clear hb; try clear hs; try clear g0; try clear g1; try clear g2; try clear g3; have hx := nx; clear nx; have hs := ns; clear ns; have g0 := n0; clear n0; have g1 := n1; clear n1; have g2 := n2; clear n2; have g3 := n3; clear n3) | (go_at_call 40; (with_reducible refine (SC.out _).mono ?_); rintro rv w1 ⟨rfl, hb⟩; have ns : w.heap.size + 1 < w1.heap.size := hb.ltK; have n0 : w1.cell? ⟨w.heap.size, 0, none⟩ = some (.int .i64 e) := hb.cellK; have n1 : w1.cell? ⟨w.heap.size, 1, none⟩ = some (.int .i64 f) := hb.cellK; have n2 : w1.cell? ⟨w.heap.size + 1, 0, none⟩ = some (.int .i64 a) := hb.cellK; have n3 : w1.cell? ⟨w.heap.size + 1, 1, none⟩ = some (.int .i64 b) := hb.cellK; (first | (have nx := hx.trK hb; clear hx) | have nx := hb); clear hb; try clear hs; try clear g0; try clear g1; try clear g2; try clear g3; have hx := nx; clear nx; have hs := ns; clear ns; have g0 := n0; clear n0; have g1 := n1; clear n1; have g2 := n2; clear n2; have g3 := n3; clear n3)))
    all_goals go_wp2_with fail
    all_goals go_region_held3 (fun w' => w'.cell? ⟨w.heap.size, 0, none⟩ = some (.int .i64 e) ∧ w'.cell? ⟨w.heap.size, 1, none⟩ = some (.int .i64 f) ∧ w'.cell? ⟨w.heap.size + 1, 0, none⟩ = some (.int .i64 a) ∧ w'.cell? ⟨w.heap.size + 1, 1, none⟩ = some (.int .i64 b) ∧ w.heap.size + 1 < w'.heap.size) ((refine ⟨?_, ?_, ?_, ?_, ?_⟩ <;> first | with_reducible assumption | ((rw [cell_setRow_far _ _ _ _ _ (by omega)]); with_reducible assumption) | ((rw [setRow_size]); with_reducible assumption) | ((repeat rw [World.cell?_setCell_far _ _ _ _ (by simp)]); with_reducible assumption) | (simp; done) | (simp [World.setCell]; first | done | omega) | (simp [go_sem, World.cell?_alloc_past, World.cell?_setCell_far, *]; done))) ((first | (go_at_call 15; (with_reducible refine (toFormat_any e f _).mono ?_); rintro rv w1 ⟨rfl, hb⟩; have ns : w.heap.size + 1 < w1.heap.size := hb.ltK; have n0 : w1.cell? ⟨w.heap.size, 0, none⟩ = some (.int .i64 e) := hb.cellK; have n1 : w1.cell? ⟨w.heap.size, 1, none⟩ = some (.int .i64 f) := hb.cellK; have n2 : w1.cell? ⟨w.heap.size + 1, 0, none⟩ = some (.int .i64 a) := hb.cellK; have n3 : w1.cell? ⟨w.heap.size + 1, 1, none⟩ = some (.int .i64 b) := hb.cellK; (first | (have nx := hx.trK hb; clear hx) | have nx := hb); clear hb; try clear hs; try clear g0; try clear g1; try clear g2; try clear g3; have hx := nx; clear nx; have hs := ns; clear ns; have g0 := n0; clear n0; have g1 := n1; clear n1; have g2 := n2; clear n2; have g3 := n3; clear n3) | (go_at_call 41; (with_reducible refine (toInterval_any a b _).mono ?_); rintro rv w1 ⟨rfl, hb⟩; have ns : w.heap.size + 1 < w1.heap.size := hb.ltK; have n0 : w1.cell? ⟨w.heap.size, 0, none⟩ = some (.int .i64 e) := hb.cellK; have n1 : w1.cell? ⟨w.heap.size, 1, none⟩ = some (.int .i64 f) := hb.cellK; have n2 : w1.cell? ⟨w.heap.size + 1, 0, none⟩ = some (.int .i64 a) := hb.cellK; have n3 : w1.cell? ⟨w.heap.size + 1, 1, none⟩ = some (.int .i64 b) := hb.cellK; (first | (have nx := hx.trK hb; clear hx) | have nx := hb); clear hb; try clear hs; try clear g0; try clear g1; try clear g2; try clear g3; have hx := nx; clear nx; have hs := ns; clear ns; have g0 := n0; clear n0; have g1 := n1; clear n1; have g2 := n2; clear n2; have g3 := n3; clear n3) | (go_at_call 42; (with_reducible refine (IC.out _).mono ?_); rintro rv w1 ⟨rfl, hb⟩; have ns : w.heap.size + 1 < w1.heap.size := hb.ltK; have n0 : w1.cell? ⟨w.heap.size, 0, none⟩ = some (.int .i64 e) := hb.cellK; have n1 : w1.cell? ⟨w.heap.size, 1, none⟩ = some (.int .i64 f) := hb.cellK; have n2 : w1.cell? ⟨w.heap.size + 1, 0, none⟩ = some (.int .i64 a) := hb.cellK; have n3 : w1.cell? ⟨w.heap.size + 1, 1, none⟩ = some (.int .i64 b) := hb.cellK; (first | (have nx := hx.trK hb; clear hx) | have nx := hb); clear hb; try clear hs; try clear g0; try clear g1; try clear g2; try clear g3; have hx := nx; clear nx; have hs := ns; clear ns; have g0 := n0; clear n0; have g1 := n1; clear n1; have g2 := n2; clear n2; have g3 := n3; clear n3)))
    all_goals go_wp2_with fail
    all_goals go_ret
    all_goals exact ⟨rfl, Ext.auK⟩
  · have SC := Lib.hid (fun w => sIntervalText_yes e f a b hg w)
    have IC := Lib.hid (fun w hT => iIntervalText_yes e f a b hg w hT)
    clear hg
    generalize [91] ++ shTx e f a ++ [44] ++ shTx e f b ++ [93] = tx at *
    go_enter Tryz.func13, Tryz.ntmps13
    go_wp2_with fail
    go_region_held3 (fun w' => w'.cell? ⟨w.heap.size, 0, none⟩ = some (.int .i64 e) ∧ w'.cell? ⟨w.heap.size, 1, none⟩ = some (.int .i64 f) ∧ w'.cell? ⟨w.heap.size + 1, 0, none⟩ = some (.int .i64 a) ∧ w'.cell? ⟨w.heap.size + 1, 1, none⟩ = some (.int .i64 b) ∧ w.heap.size + 1 < w'.heap.size) ((refine ⟨?_, ?_, ?_, ?_, ?_⟩ <;> first | with_reducible assumption | ((rw [cell_setRow_far _ _ _ _ _ (by omega)]); with_reducible assumption) | ((rw [setRow_size]); with_reducible assumption) | ((repeat rw [World.cell?_setCell_far _ _ _ _ (by simp)]); with_reducible assumption) | (simp; done) | (simp [World.setCell]; first | done | omega) | (simp [go_sem, World.cell?_alloc_past, World.cell?_setCell_far, *]; done))) ((first | (go_at_call 15; (with_reducible refine (toFormat_any e f _).mono ?_); rintro rv w1 ⟨rfl, hb⟩; have ns : w.heap.size + 1 < w1.heap.size := hb.ltK; have n0 : w1.cell? ⟨w.heap.size, 0, none⟩ = some (.int .i64 e) := hb.cellK; have n1 : w1.cell? ⟨w.heap.size, 1, none⟩ = some (.int .i64 f) := hb.cellK; have n2 : w1.cell? ⟨w.heap.size + 1, 0, none⟩ = some (.int .i64 a) := hb.cellK; have n3 : w1.cell? ⟨w.heap.size + 1, 1, none⟩ = some (.int .i64 b) := hb.cellK; (first | (have nx := hx.trK hb; clear hx) | have nx := hb); clear hb; try clear hs; try clear g0; try clear g1; try clear g2; try clear g3; have hx := nx; clear nx; have hs := ns; clear ns; have g0 := n0; clear n0; have g1 := n1; clear n1; have g2 := n2; clear n2; have g3 := n3; clear n3) | (go_at_call 41; (with_reducible refine (toInterval_any a b _).mono ?_); rintro rv w1 ⟨rfl, hb⟩; have ns : w.heap.size + 1 < w1.heap.size := hb.ltK; have n0 : w1.cell? ⟨w.heap.size, 0, none⟩ = some (.int .i64 e) := hb.cellK; have n1 : w1.cell? ⟨w.heap.size, 1, none⟩ = some (.int .i64 f) := hb.cellK; have n2 : w1.cell? ⟨w.heap.size + 1, 0, none⟩ = some (.int .i64 a) := hb.cellK; have n3 : w1.cell? ⟨w.heap.size + 1, 1, none⟩ = some (.int .i64 b) := hb.cellK; (first | (have nx := hx.trK hb; clear hx) | have nx := hb); clear hb; try clear hs; try clear g0; try clear g1; try clear g2; try clear g3; have hx := nx; clear nx; have hs := ns; clear ns; have g0 := n0; clear n0; have g1 := n1; clear n1; have g2 := n2; clear n2; have g3 := n3; clear n3) | (go_at_call 40; (with_reducible refine (SC.out _).mono ?_); rintro rv w1 ⟨rfl, hb⟩; have ns : w.heap.size + 1 < w1.heap.size := hb.ltK; have n0 : w1.cell? ⟨w.heap.size, 0, none⟩ = some (.int .i64 e) := hb.cellK; have n1 : w1.cell? ⟨w.heap.size, 1, none⟩ = some (.int .i64 f) := hb.cellK; have n2 : w1.cell? ⟨w.heap.size + 1, 0, none⟩ = some (.int .i64 a) := hb.cellK; have n3 : w1.cell? ⟨w.heap.size + 1, 1, none⟩ = some (.int .i64 b) := hb.cellK; (first | (have nx := hx.trK hb; clear hx) | have nx := hb); clear hb; try clear hs; try clear g0; try clear g1; try clear g2; try clear g3; have hx := nx; clear nx; have hs := ns; clear ns; have g0 := n0; clear n0; have g1 := n1; clear n1; have g2 := n2; clear n2; have g3 := n3; clear n3)))
    all_goals go_wp2_with fail
    all_goals go_region_held3 (fun w' => w'.cell? ⟨w.heap.size, 0, none⟩ = some (.int .i64 e) ∧ w'.cell? ⟨w.heap.size, 1, none⟩ = some (.int .i64 f) ∧ w'.cell? ⟨w.heap.size + 1, 0, none⟩ = some (.int .i64 a) ∧ w'.cell? ⟨w.heap.size + 1, 1, none⟩ = some (.int .i64 b) ∧ w.heap.size + 1 < w'.heap.size) ((refine ⟨?_, ?_, ?_, ?_, ?_⟩ <;> first | with_reducible assumption | ((rw [cell_setRow_far _ _ _ _ _ (by omega)]); with_reducible assumption) | ((rw [setRow_size]); with_reducible assumption) | ((repeat rw [World.cell?_setCell_far _ _ _ _ (by simp)]); with_reducible assumption) | (simp; done) | (simp [World.setCell]; first | done | omega) | (simp [go_sem, World.cell?_alloc_past, World.cell?_setCell_far, *]; done))) ((first | (go_at_call 15; (with_reducible refine (toFormat_any e f _).mono ?_); rintro rv w1 ⟨rfl, hb⟩; have ns : w.heap.size + 1 < w1.heap.size := hb.ltK; have n0 : w1.cell? ⟨w.heap.size, 0, none⟩ = some (.int .i64 e) := hb.cellK; have n1 : w1.cell? ⟨w.heap.size, 1, none⟩ = some (.int .i64 f) := hb.cellK; have n2 : w1.cell? ⟨w.heap.size + 1, 0, none⟩ = some (.int .i64 a) := hb.cellK; have n3 : w1.cell? ⟨w.heap.size + 1, 1, none⟩ = some (.int .i64 b) := hb.cellK; (first | (have nx := hx.trK hb; clear hx) | have nx := hb); clear hb; try clear hs; try clear g0; try clear g1; try clear g2; try clear g3; have hx := nx; clear nx; have hs := ns; clear ns; have g0 := n0; clear n0; have g1 := n1; clear n1; have g2 := n2; clear n2; have g3 := n3; clear n3) | (go_at_call 41; (with_reducible refine (toInterval_any a b _).mono ?_); rintro rv w1 ⟨rfl, hb⟩; have ns : w.heap.size + 1 < w1.heap.size := hb.ltK; have n0 : w1.cell? ⟨w.heap.size, 0, none⟩ = some (.int .i64 e) := hb.cellK; have n1 : w1.cell? ⟨w.heap.size, 1, none⟩ = some (.int .i64 f) := hb.cellK; have n2 : w1.cell? ⟨w.heap.size + 1, 0, none⟩ = some (.int .i64 a) := hb.cellK; have n3 : w1.cell? ⟨w.heap.size + 1, 1, none⟩ = some (.int .i64 b) := hb.cellK; (first | (have nx := hx.trK hb; clear hx) | have nx := hb); clear hb; try clear hs; try clear g0; try clear g1; try clear g2; try clear g3; have hx := nx; clear nx; have hs := ns; clear ns; have g0 := n0; clear n0; have g1 := n1; clear n1; have g2 := n2; clear n2; have g3 := n3; clear n3) | (go_at_call 42; (with_reducible refine (IC.out _ (hT.ext Ext.auK)).mono ?_); rintro rv w1 ⟨rfl, hb⟩; have ns : w.heap.size + 1 < w1.heap.size := hb.ltK; have n0 : w1.cell? ⟨w.heap.size, 0, none⟩ = some (.int .i64 e) := hb.cellK; have n1 : w1.cell? ⟨w.heap.size, 1, none⟩ = some (.int .i64 f) := hb.cellK; have n2 : w1.cell? ⟨w.heap.size + 1, 0, none⟩ = some (.int .i64 a) := hb.cellK; have n3 : w1.cell? ⟨w.heap.size + 1, 1, none⟩ = some (.int .i64 b) := hb.cellK; (first | (have nx := hx.trK hb; clear hx) | have nx := hb); clear hb; try clear hs; try clear g0; try clear g1; try clear g2; try clear g3; have hx := nx; clear nx; have hs := ns; clear ns; have g0 := n0; clear n0; have g1 := n1; clear n1; have g2 := n2; clear n2; have g3 := n3; clear n3)))
    all_goals go_wp2_with fail
    all_goals go_ret
    all_goals exact ⟨rfl, Ext.auK⟩
end Go.Proofs.YtfgbndjhaiigbacGreatDoor.lIntervalText
