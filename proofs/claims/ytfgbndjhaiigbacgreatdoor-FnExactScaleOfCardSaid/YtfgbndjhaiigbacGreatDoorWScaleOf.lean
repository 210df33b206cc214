/-
  The function ScaleOf answers as its model at every argument; there are no conditions beside the tables of the library as the row lists them.
-/
import Derived.Test.YtfgbndjhaiigbacGreatDoorRows
import Derived.Test.YtfgbndjhaiigbacGreatDoorSeatA
import Derived.Test.YtfgbndjhaiigbacGreatDoorSeatB
import Derived.Test.YtfgbndjhaiigbacGreatDoorSeatC
import Derived.Test.YtfgbndjhaiigbacGreatDoorKsc1
import Derived.Test.YtfgbndjhaiigbacGreatDoorKsc2
import Derived.Test.YtfgbndjhaiigbacGreatDoorKsc3
import Derived.Test.YtfgbndjhaiigbacGreatDoorKsc4
import Derived.Test.YtfgbndjhaiigbacGreatDoorKsc5
import Derived.Test.YtfgbndjhaiigbacGreatDoorKsc6
import Derived.Test.YtfgbndjhaiigbacGreatDoorKsc7
import Derived.Test.YtfgbndjhaiigbacGreatDoorKsc8
import Derived.Test.YtfgbndjhaiigbacGreatDoorKsc9
import Derived.Test.YtfgbndjhaiigbacGreatDoorKsc10
import Derived.Test.YtfgbndjhaiigbacGreatDoorKsc11
import Derived.Test.YtfgbndjhaiigbacGreatDoorKsc12
import Derived.Test.YtfgbndjhaiigbacGreatDoorKsc13
import Derived.Test.YtfgbndjhaiigbacGreatDoorKsc14
import Derived.Test.YtfgbndjhaiigbacGreatDoorKsc15
import Derived.Test.YtfgbndjhaiigbacGreatDoorKsc16
import Derived.Test.YtfgbndjhaiigbacGreatDoorKsc17
import Derived.Test.YtfgbndjhaiigbacGreatDoorKsc18
import Derived.Test.YtfgbndjhaiigbacGreatDoorKsc19
import Derived.Test.YtfgbndjhaiigbacGreatDoorKsc20
import Derived.Test.YtfgbndjhaiigbacGreatDoorKsc21
import Derived.Test.YtfgbndjhaiigbacGreatDoorKsc22
import Derived.Test.YtfgbndjhaiigbacGreatDoorKsc23
import Derived.Test.YtfgbndjhaiigbacGreatDoorKsc24
import Derived.Test.YtfgbndjhaiigbacGreatDoorKsc25
import Derived.Test.YtfgbndjhaiigbacGreatDoorKsc26
import Derived.Test.YtfgbndjhaiigbacGreatDoorKsc27
import Derived.Test.YtfgbndjhaiigbacGreatDoorKsc28
import Derived.Test.YtfgbndjhaiigbacGreatDoorKsc29
import Derived.Test.YtfgbndjhaiigbacGreatDoorKsc30
import Derived.Test.YtfgbndjhaiigbacGreatDoorKsc31
import Derived.Test.YtfgbndjhaiigbacGreatDoorKsc32
import Derived.Test.YtfgbndjhaiigbacGreatDoorKsc33
import Derived.Test.YtfgbndjhaiigbacGreatDoorKsc34
import Derived.Test.YtfgbndjhaiigbacGreatDoorKsc35
import Derived.WalkKit
import Derived.ProofKit
import Derived.OpenShut
import Derived.Lib.Hide
import Derived.Deep.RegionHeld3
import Derived.Lib.SmallJoins
import Derived.LaidMore
import Derived.Stop.Joined
import Derived.SevenTiedAt
import Derived.Test.YtfgbndjhaiigbacGreatDoorCards
import Derived.Test.YtfgbndjhaiigbacGreatDoorTie
namespace Go.Proofs.YtfgbndjhaiigbacGreatDoor.lScaleOf
open Go.ChangeShapes Go.WideShapes Go.ChangeAt Go.RowKit Go.Joins
set_option linter.unusedVariables false
set_option linter.unusedSimpArgs false

set_option maxHeartbeats 3200000 in
theorem walk (e f a k mode : Int) (xe : (Lit.int .i64 e).wf = true) (xf : (Lit.int .i64 f).wf = true) (xa : (Lit.int .i64 a).wf = true) (xk : (Lit.int .i64 k).wf = true) (xmode : (Lit.int .i64 mode).wf = true) (w : World) (hT : TW w) : Calls Tryz.prog 3 #[fmt e f, .int .i64 a, .int .i64 k, .int .i64 mode] w fun rv w' => rv = .returned (.bool true) ∧ Ext w w' := by
  cases hg : scB e f a k mode
  · go_enter Tryz.func3, Tryz.ntmps3
    go_wp2_with (first | (go_at_call 15; refine (toFormat_any e f _).mono ?_; rintro rv w1 ⟨rfl, hb⟩; have ns : w.heap.size < w1.heap.size := hb.ltK; have n0 : w1.cell? ⟨w.heap.size, 0, none⟩ = some (.int .i64 e) := hb.cellK; have n1 : w1.cell? ⟨w.heap.size, 1, none⟩ = some (.int .i64 f) := hb.cellK; (first | (have nx := Ext.trans hx hb; clear hx) | (have nx := Ext.trans (hx.alloc _) hb; clear hx) | (have nx := Ext.trans hx.drew hb; clear hx) | have nx := hb); clear hb; try clear hs; try clear g0; try clear g1; have hx := nx; clear nx; have hs := ns; clear ns; have g0 := n0; clear n0; have g1 := n1; clear n1) | (go_at_call 14; refine (sScaleOf_no e f a k mode hg _).mono ?_; rintro rv w1 ⟨rfl, hb⟩; have ns : w.heap.size < w1.heap.size := hb.ltK; have n0 : w1.cell? ⟨w.heap.size, 0, none⟩ = some (.int .i64 e) := hb.cellK; have n1 : w1.cell? ⟨w.heap.size, 1, none⟩ = some (.int .i64 f) := hb.cellK; (first | (have nx := Ext.trans hx hb; clear hx) | (have nx := Ext.trans (hx.alloc _) hb; clear hx) | (have nx := Ext.trans hx.drew hb; clear hx) | have nx := hb); clear hb; try clear hs; try clear g0; try clear g1; have hx := nx; clear nx; have hs := ns; clear ns; have g0 := n0; clear n0; have g1 := n1; clear n1) | (go_at_call 16; refine (iScaleOf_no e f a k mode hg _ (hT.ext Ext.auK)).mono ?_; rintro rv w1 ⟨rfl, hb⟩; have ns : w.heap.size < w1.heap.size := hb.ltK; have n0 : w1.cell? ⟨w.heap.size, 0, none⟩ = some (.int .i64 e) := hb.cellK; have n1 : w1.cell? ⟨w.heap.size, 1, none⟩ = some (.int .i64 f) := hb.cellK; (first | (have nx := Ext.trans hx hb; clear hx) | (have nx := Ext.trans (hx.alloc _) hb; clear hx) | (have nx := Ext.trans hx.drew hb; clear hx) | have nx := hb); clear hb; try clear hs; try clear g0; try clear g1; have hx := nx; clear nx; have hs := ns; clear ns; have g0 := n0; clear n0; have g1 := n1; clear n1))
    go_ret
    exact ⟨rfl, Ext.auK⟩
  · have hg1 := (pat_iff.1 (sc_iff.1 hg).1).1
    go_enter Tryz.func3, Tryz.ntmps3
    go_wp2_with (first | (go_at_call 15; refine (toFormat_any e f _).mono ?_; rintro rv w1 ⟨rfl, hb⟩; have ns : w.heap.size < w1.heap.size := hb.ltK; have n0 : w1.cell? ⟨w.heap.size, 0, none⟩ = some (.int .i64 e) := hb.cellK; have n1 : w1.cell? ⟨w.heap.size, 1, none⟩ = some (.int .i64 f) := hb.cellK; (first | (have nx := Ext.trans hx hb; clear hx) | (have nx := Ext.trans (hx.alloc _) hb; clear hx) | (have nx := Ext.trans hx.drew hb; clear hx) | have nx := hb); clear hb; try clear hs; try clear g0; try clear g1; have hx := nx; clear nx; have hs := ns; clear ns; have g0 := n0; clear n0; have g1 := n1; clear n1) | (go_at_call 14; refine (sScaleOf_yes e f a k mode hg _).mono ?_; rintro rv w1 ⟨r, rfl, hq, hb⟩; have HQ := Lib.hid hq; clear hq; have ns : w.heap.size < w1.heap.size := hb.ltK; have n0 : w1.cell? ⟨w.heap.size, 0, none⟩ = some (.int .i64 e) := hb.cellK; have n1 : w1.cell? ⟨w.heap.size, 1, none⟩ = some (.int .i64 f) := hb.cellK; (first | (have nx := Ext.trans hx hb; clear hx) | (have nx := Ext.trans (hx.alloc _) hb; clear hx) | (have nx := Ext.trans hx.drew hb; clear hx) | have nx := hb); clear hb; try clear hs; try clear g0; try clear g1; have hx := nx; clear nx; have hs := ns; clear ns; have g0 := n0; clear n0; have g1 := n1; clear n1) | (go_at_call 16; refine (iScaleOf_yes e f a k mode hg _ (hT.ext Ext.auK)).mono ?_; rintro rv w1 ⟨r2, rfl, hq2, hb⟩; obtain rfl := sc_one hg1 HQ.out hq2; clear hq2; have ns : w.heap.size < w1.heap.size := hb.ltK; have n0 : w1.cell? ⟨w.heap.size, 0, none⟩ = some (.int .i64 e) := hb.cellK; have n1 : w1.cell? ⟨w.heap.size, 1, none⟩ = some (.int .i64 f) := hb.cellK; (first | (have nx := Ext.trans hx hb; clear hx) | (have nx := Ext.trans (hx.alloc _) hb; clear hx) | (have nx := Ext.trans hx.drew hb; clear hx) | have nx := hb); clear hb; try clear hs; try clear g0; try clear g1; have hx := nx; clear nx; have hs := ns; clear ns; have g0 := n0; clear n0; have g1 := n1; clear n1))
    go_ret
    exact ⟨rfl, Ext.auK⟩
end Go.Proofs.YtfgbndjhaiigbacGreatDoor.lScaleOf
