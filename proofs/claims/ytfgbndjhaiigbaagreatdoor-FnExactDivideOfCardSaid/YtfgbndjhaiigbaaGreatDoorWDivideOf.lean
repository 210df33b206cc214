/-
  The function DivideOf answers as its model at every argument; there are no conditions beside the tables of the library as the row lists them.
-/
import Derived.Test.YtfgbndjhaiigbaaGreatDoorRows
import Derived.Test.YtfgbndjhaiigbaaGreatDoorSeatA
import Derived.Test.YtfgbndjhaiigbaaGreatDoorSeatB
import Derived.Test.YtfgbndjhaiigbaaGreatDoorSeatC
import Derived.Test.YtfgbndjhaiigbaaGreatDoorKpb1
import Derived.Test.YtfgbndjhaiigbaaGreatDoorKpb2
import Derived.Test.YtfgbndjhaiigbaaGreatDoorKpb3
import Derived.Test.YtfgbndjhaiigbaaGreatDoorKpb4
import Derived.Test.YtfgbndjhaiigbaaGreatDoorKpb5
import Derived.Test.YtfgbndjhaiigbaaGreatDoorKpb6
import Derived.Test.YtfgbndjhaiigbaaGreatDoorKpb7
import Derived.Test.YtfgbndjhaiigbaaGreatDoorKpb8
import Derived.Test.YtfgbndjhaiigbaaGreatDoorKpb9
import Derived.Test.YtfgbndjhaiigbaaGreatDoorKpb10
import Derived.Test.YtfgbndjhaiigbaaGreatDoorKpb11
import Derived.Test.YtfgbndjhaiigbaaGreatDoorKpb12
import Derived.Test.YtfgbndjhaiigbaaGreatDoorKpb13
import Derived.Test.YtfgbndjhaiigbaaGreatDoorKpb14
import Derived.Test.YtfgbndjhaiigbaaGreatDoorKpb15
import Derived.Test.YtfgbndjhaiigbaaGreatDoorKpb16
import Derived.Test.YtfgbndjhaiigbaaGreatDoorKpb17
import Derived.Test.YtfgbndjhaiigbaaGreatDoorKpb18
import Derived.Test.YtfgbndjhaiigbaaGreatDoorKpb19
import Derived.Test.YtfgbndjhaiigbaaGreatDoorKpb20
import Derived.Test.YtfgbndjhaiigbaaGreatDoorKpb21
import Derived.Test.YtfgbndjhaiigbaaGreatDoorKpb22
import Derived.Test.YtfgbndjhaiigbaaGreatDoorKpb23
import Derived.Test.YtfgbndjhaiigbaaGreatDoorKpb24
import Derived.Test.YtfgbndjhaiigbaaGreatDoorKpb25
import Derived.Test.YtfgbndjhaiigbaaGreatDoorKpb26
import Derived.Test.YtfgbndjhaiigbaaGreatDoorKpb27
import Derived.Test.YtfgbndjhaiigbaaGreatDoorKpb28
import Derived.Test.YtfgbndjhaiigbaaGreatDoorKpb29
import Derived.Test.YtfgbndjhaiigbaaGreatDoorKpb30
import Derived.Test.YtfgbndjhaiigbaaGreatDoorKpb31
import Derived.Test.YtfgbndjhaiigbaaGreatDoorKpb32
import Derived.Test.YtfgbndjhaiigbaaGreatDoorKpb33
import Derived.WalkKit
import Derived.ProofKit
import Derived.OpenShut
import Derived.Lib.Hide
import Derived.Deep.RegionHeld3
import Derived.Lib.SmallJoins
import Derived.LaidMore
import Derived.Stop.Joined
import Derived.SevenTiedAt
import Derived.Test.YtfgbndjhaiigbaaGreatDoorCards
import Derived.Test.YtfgbndjhaiigbaaGreatDoorTie
namespace Go.Proofs.YtfgbndjhaiigbaaGreatDoor.lDivideOf
open Go.ChangeShapes Go.WideShapes Go.ChangeAt Go.RowKit Go.Joins
set_option linter.unusedVariables false
set_option linter.unusedSimpArgs false

set_option maxHeartbeats 3200000 in
theorem walk (e f a b mode : Int) (xe : (Lit.int .i64 e).wf = true) (xf : (Lit.int .i64 f).wf = true) (xa : (Lit.int .i64 a).wf = true) (xb : (Lit.int .i64 b).wf = true) (xmode : (Lit.int .i64 mode).wf = true) (w : World) (hT : TW w) : Calls Tryz.prog 10 #[fmt e f, .int .i64 a, .int .i64 b, .int .i64 mode] w fun rv w' => rv = .returned (.bool true) ∧ Ext w w' := by
  cases hg : abB e f a b mode
  · go_enter Tryz.func10, Tryz.ntmps10
    go_wp2_with (first | (go_at_call 16; refine (toFormat_any e f _).mono ?_; rintro rv w1 ⟨rfl, hb⟩; have ns : w.heap.size < w1.heap.size := hb.ltK; have n0 : w1.cell? ⟨w.heap.size, 0, none⟩ = some (.int .i64 e) := hb.cellK; have n1 : w1.cell? ⟨w.heap.size, 1, none⟩ = some (.int .i64 f) := hb.cellK; (first | (have nx := Ext.trans hx hb; clear hx) | (have nx := Ext.trans (hx.alloc _) hb; clear hx) | (have nx := Ext.trans hx.drew hb; clear hx) | have nx := hb); clear hb; try clear hs; try clear g0; try clear g1; have hx := nx; clear nx; have hs := ns; clear ns; have g0 := n0; clear n0; have g1 := n1; clear n1) | (go_at_call 34; refine (sDivideOf_no e f a b mode hg _).mono ?_; rintro rv w1 ⟨rfl, hb⟩; have ns : w.heap.size < w1.heap.size := hb.ltK; have n0 : w1.cell? ⟨w.heap.size, 0, none⟩ = some (.int .i64 e) := hb.cellK; have n1 : w1.cell? ⟨w.heap.size, 1, none⟩ = some (.int .i64 f) := hb.cellK; (first | (have nx := Ext.trans hx hb; clear hx) | (have nx := Ext.trans (hx.alloc _) hb; clear hx) | (have nx := Ext.trans hx.drew hb; clear hx) | have nx := hb); clear hb; try clear hs; try clear g0; try clear g1; have hx := nx; clear nx; have hs := ns; clear ns; have g0 := n0; clear n0; have g1 := n1; clear n1) | (go_at_call 35; refine (iDivideOf_no e f a b mode hg _ (hT.ext Ext.auK)).mono ?_; rintro rv w1 ⟨rfl, hb⟩; have ns : w.heap.size < w1.heap.size := hb.ltK; have n0 : w1.cell? ⟨w.heap.size, 0, none⟩ = some (.int .i64 e) := hb.cellK; have n1 : w1.cell? ⟨w.heap.size, 1, none⟩ = some (.int .i64 f) := hb.cellK; (first | (have nx := Ext.trans hx hb; clear hx) | (have nx := Ext.trans (hx.alloc _) hb; clear hx) | (have nx := Ext.trans hx.drew hb; clear hx) | have nx := hb); clear hb; try clear hs; try clear g0; try clear g1; have hx := nx; clear nx; have hs := ns; clear ns; have g0 := n0; clear n0; have g1 := n1; clear n1))
    go_ret
    exact ⟨rfl, Ext.auK⟩
  · have hg1 := (pat_iff.1 (ab_iff.1 hg).1).1
    go_enter Tryz.func10, Tryz.ntmps10
    go_wp2_with (first | (go_at_call 16; refine (toFormat_any e f _).mono ?_; rintro rv w1 ⟨rfl, hb⟩; have ns : w.heap.size < w1.heap.size := hb.ltK; have n0 : w1.cell? ⟨w.heap.size, 0, none⟩ = some (.int .i64 e) := hb.cellK; have n1 : w1.cell? ⟨w.heap.size, 1, none⟩ = some (.int .i64 f) := hb.cellK; (first | (have nx := Ext.trans hx hb; clear hx) | (have nx := Ext.trans (hx.alloc _) hb; clear hx) | (have nx := Ext.trans hx.drew hb; clear hx) | have nx := hb); clear hb; try clear hs; try clear g0; try clear g1; have hx := nx; clear nx; have hs := ns; clear ns; have g0 := n0; clear n0; have g1 := n1; clear n1) | (go_at_call 34; refine (sDivideOf_yes e f a b mode hg _).mono ?_; rintro rv w1 ⟨r, rfl, hq, hb⟩; have HQ := Lib.hid hq; clear hq; have ns : w.heap.size < w1.heap.size := hb.ltK; have n0 : w1.cell? ⟨w.heap.size, 0, none⟩ = some (.int .i64 e) := hb.cellK; have n1 : w1.cell? ⟨w.heap.size, 1, none⟩ = some (.int .i64 f) := hb.cellK; (first | (have nx := Ext.trans hx hb; clear hx) | (have nx := Ext.trans (hx.alloc _) hb; clear hx) | (have nx := Ext.trans hx.drew hb; clear hx) | have nx := hb); clear hb; try clear hs; try clear g0; try clear g1; have hx := nx; clear nx; have hs := ns; clear ns; have g0 := n0; clear n0; have g1 := n1; clear n1) | (go_at_call 35; refine (iDivideOf_yes e f a b mode hg _ (hT.ext Ext.auK)).mono ?_; rintro rv w1 ⟨r2, rfl, hq2, hb⟩; obtain rfl := dv_one hg1 HQ.out hq2; clear hq2; have ns : w.heap.size < w1.heap.size := hb.ltK; have n0 : w1.cell? ⟨w.heap.size, 0, none⟩ = some (.int .i64 e) := hb.cellK; have n1 : w1.cell? ⟨w.heap.size, 1, none⟩ = some (.int .i64 f) := hb.cellK; (first | (have nx := Ext.trans hx hb; clear hx) | (have nx := Ext.trans (hx.alloc _) hb; clear hx) | (have nx := Ext.trans hx.drew hb; clear hx) | have nx := hb); clear hb; try clear hs; try clear g0; try clear g1; have hx := nx; clear nx; have hs := ns; clear ns; have g0 := n0; clear n0; have g1 := n1; clear n1))
    go_ret
    exact ⟨rfl, Ext.auK⟩
end Go.Proofs.YtfgbndjhaiigbaaGreatDoor.lDivideOf
