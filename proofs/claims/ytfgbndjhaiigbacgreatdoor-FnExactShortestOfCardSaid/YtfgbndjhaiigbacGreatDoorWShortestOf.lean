/-
  The function ShortestOf answers as its model at every argument; there are no conditions beside the tables of the library as the row lists them.
-/
import Derived.Test.YtfgbndjhaiigbacGreatDoorRows
import Derived.Test.YtfgbndjhaiigbacGreatDoorKs31
import Derived.Test.YtfgbndjhaiigbacGreatDoorKs32
import Derived.Test.YtfgbndjhaiigbacGreatDoorKs33
import Derived.Test.YtfgbndjhaiigbacGreatDoorKs34
import Derived.Test.YtfgbndjhaiigbacGreatDoorKs35
import Derived.Test.YtfgbndjhaiigbacGreatDoorKs36
import Derived.Test.YtfgbndjhaiigbacGreatDoorKs37
import Derived.Test.YtfgbndjhaiigbacGreatDoorKs38
import Derived.Test.YtfgbndjhaiigbacGreatDoorKs39
import Derived.Test.YtfgbndjhaiigbacGreatDoorKs310
import Derived.Test.YtfgbndjhaiigbacGreatDoorKs311
import Derived.Test.YtfgbndjhaiigbacGreatDoorKs312
import Derived.Test.YtfgbndjhaiigbacGreatDoorKs313
import Derived.Test.YtfgbndjhaiigbacGreatDoorKs314
import Derived.Test.YtfgbndjhaiigbacGreatDoorKs315
import Derived.Test.YtfgbndjhaiigbacGreatDoorKs316
import Derived.Test.YtfgbndjhaiigbacGreatDoorKs317
import Derived.Test.YtfgbndjhaiigbacGreatDoorKs318
import Derived.Test.YtfgbndjhaiigbacGreatDoorKs319
import Derived.Test.YtfgbndjhaiigbacGreatDoorKs320
import Derived.Test.YtfgbndjhaiigbacGreatDoorKs321
import Derived.Test.YtfgbndjhaiigbacGreatDoorKs322
import Derived.Test.YtfgbndjhaiigbacGreatDoorKs323
import Derived.Test.YtfgbndjhaiigbacGreatDoorKs324
import Derived.Test.YtfgbndjhaiigbacGreatDoorKs325
import Derived.Test.YtfgbndjhaiigbacGreatDoorKs326
import Derived.Test.YtfgbndjhaiigbacGreatDoorKs327
import Derived.Test.YtfgbndjhaiigbacGreatDoorKs328
import Derived.Test.YtfgbndjhaiigbacGreatDoorKs329
import Derived.Test.YtfgbndjhaiigbacGreatDoorKs330
import Derived.Test.YtfgbndjhaiigbacGreatDoorKs331
import Derived.Test.YtfgbndjhaiigbacGreatDoorKs332
import Derived.Test.YtfgbndjhaiigbacGreatDoorKs333
import Derived.Test.YtfgbndjhaiigbacGreatDoorKs334
import Derived.Test.YtfgbndjhaiigbacGreatDoorKs335
import Derived.Test.YtfgbndjhaiigbacGreatDoorKs336
import Derived.Test.YtfgbndjhaiigbacGreatDoorKs337
import Derived.Test.YtfgbndjhaiigbacGreatDoorKs338
import Derived.Test.YtfgbndjhaiigbacGreatDoorKs339
import Derived.Test.YtfgbndjhaiigbacGreatDoorKs340
import Derived.Test.YtfgbndjhaiigbacGreatDoorKs341
import Derived.Test.YtfgbndjhaiigbacGreatDoorSeatA
import Derived.Test.YtfgbndjhaiigbacGreatDoorSeatB
import Derived.Test.YtfgbndjhaiigbacGreatDoorSeatC
import Derived.WalkKit
import Derived.ProofKit
import Derived.OpenShut
import Derived.Lib.Hide
import Derived.Deep.RegionHeld3
import Derived.Lib.SmallJoins
import Derived.LaidMore
import Derived.Stop.Joined
import Derived.SevenTiedAt
import Derived.Test.YtfgbndjhaiigbacGreatDoorCards
import Derived.Test.YtfgbndjhaiigbacGreatDoorTie
namespace Go.Proofs.YtfgbndjhaiigbacGreatDoor.lShortestOf
open Go.ChangeShapes Go.WideShapes Go.ChangeAt Go.RowKit Go.Joins
set_option linter.unusedVariables false
set_option linter.unusedSimpArgs false

set_option maxHeartbeats 3200000 in
theorem walk (e f a : Int) (xe : (Lit.int .i64 e).wf = true) (xf : (Lit.int .i64 f).wf = true) (xa : (Lit.int .i64 a).wf = true) (w : World) (hT : TW w) : Calls Tryz.prog 8 #[fmt e f, .int .i64 a] w fun rv w' => rv = .returned (.bool true) ∧ Ext w w' := by
  cases hg : finB e f a
  · go_enter Tryz.func8, Tryz.ntmps8
    go_wp2_with (first | (go_at_call 15; refine (toFormat_any e f _).mono ?_; rintro rv w1 ⟨rfl, hb⟩; have ns : w.heap.size < w1.heap.size := hb.ltK; have n0 : w1.cell? ⟨w.heap.size, 0, none⟩ = some (.int .i64 e) := hb.cellK; have n1 : w1.cell? ⟨w.heap.size, 1, none⟩ = some (.int .i64 f) := hb.cellK; (first | (have nx := hx.trK hb; clear hx) | have nx := hb); clear hb; try clear hs; try clear g0; try clear g1; have hx := nx; clear nx; have hs := ns; clear ns; have g0 := n0; clear n0; have g1 := n1; clear n1) | (go_at_call 25; refine (sShortestOf_no e f a hg _).mono ?_; rintro rv w1 ⟨rfl, hb⟩; have ns : w.heap.size < w1.heap.size := hb.ltK; have n0 : w1.cell? ⟨w.heap.size, 0, none⟩ = some (.int .i64 e) := hb.cellK; have n1 : w1.cell? ⟨w.heap.size, 1, none⟩ = some (.int .i64 f) := hb.cellK; (first | (have nx := hx.trK hb; clear hx) | have nx := hb); clear hb; try clear hs; try clear g0; try clear g1; have hx := nx; clear nx; have hs := ns; clear ns; have g0 := n0; clear n0; have g1 := n1; clear n1) | (go_at_call 26; refine (iShortestOf_no e f a hg _ (hT.ext Ext.auK)).mono ?_; rintro rv w1 ⟨rfl, hb⟩; have ns : w.heap.size < w1.heap.size := hb.ltK; have n0 : w1.cell? ⟨w.heap.size, 0, none⟩ = some (.int .i64 e) := hb.cellK; have n1 : w1.cell? ⟨w.heap.size, 1, none⟩ = some (.int .i64 f) := hb.cellK; (first | (have nx := hx.trK hb; clear hx) | have nx := hb); clear hb; try clear hs; try clear g0; try clear g1; have hx := nx; clear nx; have hs := ns; clear ns; have g0 := n0; clear n0; have g1 := n1; clear n1))
    go_ret
    exact ⟨rfl, Ext.auK⟩
  · have SA := Lib.hid (fun w => sShortestOf_yes e f a hg w)
    have IA := Lib.hid (fun w hT => iShortestOf_yes e f a hg w hT)
    generalize soD e f a = G0 at *
    generalize soT e f a = G1 at *
    go_enter Tryz.func8, Tryz.ntmps8
    go_wp2_with (first | (go_at_call 15; refine (toFormat_any e f _).mono ?_; rintro rv w1 ⟨rfl, hb⟩; have ns : w.heap.size < w1.heap.size := hb.ltK; have n0 : w1.cell? ⟨w.heap.size, 0, none⟩ = some (.int .i64 e) := hb.cellK; have n1 : w1.cell? ⟨w.heap.size, 1, none⟩ = some (.int .i64 f) := hb.cellK; (first | (have nx := hx.trK hb; clear hx) | have nx := hb); clear hb; try clear hs; try clear g0; try clear g1; have hx := nx; clear nx; have hs := ns; clear ns; have g0 := n0; clear n0; have g1 := n1; clear n1) | (go_at_call 25; refine (SA.out _).mono ?_; rintro rv w1 ⟨rfl, hb⟩; have ns : w.heap.size < w1.heap.size := hb.ltK; have n0 : w1.cell? ⟨w.heap.size, 0, none⟩ = some (.int .i64 e) := hb.cellK; have n1 : w1.cell? ⟨w.heap.size, 1, none⟩ = some (.int .i64 f) := hb.cellK; (first | (have nx := hx.trK hb; clear hx) | have nx := hb); clear hb; try clear hs; try clear g0; try clear g1; have hx := nx; clear nx; have hs := ns; clear ns; have g0 := n0; clear n0; have g1 := n1; clear n1) | (go_at_call 26; refine (IA.out _ (hT.ext Ext.auK)).mono ?_; rintro rv w1 ⟨rfl, hb⟩; have ns : w.heap.size < w1.heap.size := hb.ltK; have n0 : w1.cell? ⟨w.heap.size, 0, none⟩ = some (.int .i64 e) := hb.cellK; have n1 : w1.cell? ⟨w.heap.size, 1, none⟩ = some (.int .i64 f) := hb.cellK; (first | (have nx := hx.trK hb; clear hx) | have nx := hb); clear hb; try clear hs; try clear g0; try clear g1; have hx := nx; clear nx; have hs := ns; clear ns; have g0 := n0; clear n0; have g1 := n1; clear n1))
    go_ret
    exact ⟨rfl, Ext.auK⟩
end Go.Proofs.YtfgbndjhaiigbacGreatDoor.lShortestOf
