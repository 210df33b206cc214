/-
  The function FusedOf answers as its model at every argument; there are no conditions beside the tables of the library as the row lists them.
-/
import Derived.Test.YtfgbndjhaiigbaaGreatDoorRows
import Derived.Test.YtfgbndjhaiigbaaGreatDoorSeatA
import Derived.Test.YtfgbndjhaiigbaaGreatDoorSeatB
import Derived.Test.YtfgbndjhaiigbaaGreatDoorSeatC
import Derived.Test.YtfgbndjhaiigbaaGreatDoorKfu1
import Derived.Test.YtfgbndjhaiigbaaGreatDoorKfu2
import Derived.Test.YtfgbndjhaiigbaaGreatDoorKfu3
import Derived.Test.YtfgbndjhaiigbaaGreatDoorKfu4
import Derived.Test.YtfgbndjhaiigbaaGreatDoorKfu5
import Derived.Test.YtfgbndjhaiigbaaGreatDoorKfu6
import Derived.Test.YtfgbndjhaiigbaaGreatDoorKfu7
import Derived.Test.YtfgbndjhaiigbaaGreatDoorKfu8
import Derived.Test.YtfgbndjhaiigbaaGreatDoorKfu9
import Derived.Test.YtfgbndjhaiigbaaGreatDoorKfu10
import Derived.Test.YtfgbndjhaiigbaaGreatDoorKfu11
import Derived.Test.YtfgbndjhaiigbaaGreatDoorKfu12
import Derived.Test.YtfgbndjhaiigbaaGreatDoorKfu13
import Derived.Test.YtfgbndjhaiigbaaGreatDoorKfu14
import Derived.Test.YtfgbndjhaiigbaaGreatDoorKfu15
import Derived.Test.YtfgbndjhaiigbaaGreatDoorKfu16
import Derived.Test.YtfgbndjhaiigbaaGreatDoorKfu17
import Derived.Test.YtfgbndjhaiigbaaGreatDoorKfu18
import Derived.Test.YtfgbndjhaiigbaaGreatDoorKfu19
import Derived.Test.YtfgbndjhaiigbaaGreatDoorKfu20
import Derived.Test.YtfgbndjhaiigbaaGreatDoorKfu21
import Derived.Test.YtfgbndjhaiigbaaGreatDoorKfu22
import Derived.Test.YtfgbndjhaiigbaaGreatDoorKfu23
import Derived.Test.YtfgbndjhaiigbaaGreatDoorKfu24
import Derived.Test.YtfgbndjhaiigbaaGreatDoorKfu25
import Derived.Test.YtfgbndjhaiigbaaGreatDoorKfu26
import Derived.Test.YtfgbndjhaiigbaaGreatDoorKfu27
import Derived.Test.YtfgbndjhaiigbaaGreatDoorKfu28
import Derived.Test.YtfgbndjhaiigbaaGreatDoorKfu29
import Derived.Test.YtfgbndjhaiigbaaGreatDoorKfu30
import Derived.Test.YtfgbndjhaiigbaaGreatDoorKfu31
import Derived.Test.YtfgbndjhaiigbaaGreatDoorKfu32
import Derived.Test.YtfgbndjhaiigbaaGreatDoorKfu33
import Derived.Test.YtfgbndjhaiigbaaGreatDoorKfu34
import Derived.Test.YtfgbndjhaiigbaaGreatDoorKfu35
import Derived.Test.YtfgbndjhaiigbaaGreatDoorKfu36
import Derived.WalkKit
import Derived.ProofKit
import Derived.OpenShut
import Derived.Lib.Hide
import Derived.Deep.RegionHeld3
import Derived.Lib.SmallJoins
import Derived.LaidMore
import Derived.Stop.Joined
import Derived.SevenTiedAt
import Derived.Test.YtfgbndjhaiigbaaGreatDoorCards
import Derived.Test.YtfgbndjhaiigbaaGreatDoorTie
namespace Go.Proofs.YtfgbndjhaiigbaaGreatDoor.lFusedOf
open Go.ChangeShapes Go.WideShapes Go.ChangeAt Go.RowKit Go.Joins
set_option linter.unusedVariables false
set_option linter.unusedSimpArgs false

set_option maxHeartbeats 3200000 in
theorem walk (e f a b c mode : Int) (xe : (Lit.int .i64 e).wf = true) (xf : (Lit.int .i64 f).wf = true) (xa : (Lit.int .i64 a).wf = true) (xb : (Lit.int .i64 b).wf = true) (xc : (Lit.int .i64 c).wf = true) (xmode : (Lit.int .i64 mode).wf = true) (w : World) (hT : TW w) : Calls Tryz.prog 12 #[fmt e f, .int .i64 a, .int .i64 b, .int .i64 c, .int .i64 mode] w fun rv w' => rv = .returned (.bool true) ∧ Ext w w' := by
  cases hg : fuB e f a b c mode
  · go_enter Tryz.func12, Tryz.ntmps12
    go_wp2_with (first | (go_at_call 16; refine (toFormat_any e f _).mono ?_; rintro rv w1 ⟨rfl, hb⟩; have ns : w.heap.size < w1.heap.size := hb.ltK; have n0 : w1.cell? ⟨w.heap.size, 0, none⟩ = some (.int .i64 e) := hb.cellK; have n1 : w1.cell? ⟨w.heap.size, 1, none⟩ = some (.int .i64 f) := hb.cellK; (first | (have nx := Ext.trans hx hb; clear hx) | (have nx := Ext.trans (hx.alloc _) hb; clear hx) | (have nx := Ext.trans hx.drew hb; clear hx) | have nx := hb); clear hb; try clear hs; try clear g0; try clear g1; have hx := nx; clear nx; have hs := ns; clear ns; have g0 := n0; clear n0; have g1 := n1; clear n1) | (go_at_call 38; refine (sFusedOf_no e f a b c mode hg _).mono ?_; rintro rv w1 ⟨rfl, hb⟩; have ns : w.heap.size < w1.heap.size := hb.ltK; have n0 : w1.cell? ⟨w.heap.size, 0, none⟩ = some (.int .i64 e) := hb.cellK; have n1 : w1.cell? ⟨w.heap.size, 1, none⟩ = some (.int .i64 f) := hb.cellK; (first | (have nx := Ext.trans hx hb; clear hx) | (have nx := Ext.trans (hx.alloc _) hb; clear hx) | (have nx := Ext.trans hx.drew hb; clear hx) | have nx := hb); clear hb; try clear hs; try clear g0; try clear g1; have hx := nx; clear nx; have hs := ns; clear ns; have g0 := n0; clear n0; have g1 := n1; clear n1) | (go_at_call 39; refine (iFusedOf_no e f a b c mode hg _ (hT.ext Ext.auK)).mono ?_; rintro rv w1 ⟨rfl, hb⟩; have ns : w.heap.size < w1.heap.size := hb.ltK; have n0 : w1.cell? ⟨w.heap.size, 0, none⟩ = some (.int .i64 e) := hb.cellK; have n1 : w1.cell? ⟨w.heap.size, 1, none⟩ = some (.int .i64 f) := hb.cellK; (first | (have nx := Ext.trans hx hb; clear hx) | (have nx := Ext.trans (hx.alloc _) hb; clear hx) | (have nx := Ext.trans hx.drew hb; clear hx) | have nx := hb); clear hb; try clear hs; try clear g0; try clear g1; have hx := nx; clear nx; have hs := ns; clear ns; have g0 := n0; clear n0; have g1 := n1; clear n1))
    go_ret
    exact ⟨rfl, Ext.auK⟩
  · have hg1 := (pat_iff.1 (fuB_iff.1 hg).1.1).1
    go_enter Tryz.func12, Tryz.ntmps12
    go_wp2_with (first | (go_at_call 16; refine (toFormat_any e f _).mono ?_; rintro rv w1 ⟨rfl, hb⟩; have ns : w.heap.size < w1.heap.size := hb.ltK; have n0 : w1.cell? ⟨w.heap.size, 0, none⟩ = some (.int .i64 e) := hb.cellK; have n1 : w1.cell? ⟨w.heap.size, 1, none⟩ = some (.int .i64 f) := hb.cellK; (first | (have nx := Ext.trans hx hb; clear hx) | (have nx := Ext.trans (hx.alloc _) hb; clear hx) | (have nx := Ext.trans hx.drew hb; clear hx) | have nx := hb); clear hb; try clear hs; try clear g0; try clear g1; have hx := nx; clear nx; have hs := ns; clear ns; have g0 := n0; clear n0; have g1 := n1; clear n1) | (go_at_call 38; refine (sFusedOf_yes e f a b c mode hg _).mono ?_; rintro rv w1 ⟨r, rfl, hq, hb⟩; have HQ := Lib.hid hq; clear hq; have ns : w.heap.size < w1.heap.size := hb.ltK; have n0 : w1.cell? ⟨w.heap.size, 0, none⟩ = some (.int .i64 e) := hb.cellK; have n1 : w1.cell? ⟨w.heap.size, 1, none⟩ = some (.int .i64 f) := hb.cellK; (first | (have nx := Ext.trans hx hb; clear hx) | (have nx := Ext.trans (hx.alloc _) hb; clear hx) | (have nx := Ext.trans hx.drew hb; clear hx) | have nx := hb); clear hb; try clear hs; try clear g0; try clear g1; have hx := nx; clear nx; have hs := ns; clear ns; have g0 := n0; clear n0; have g1 := n1; clear n1) | (go_at_call 39; refine (iFusedOf_yes e f a b c mode hg _ (hT.ext Ext.auK)).mono ?_; rintro rv w1 ⟨r2, rfl, hq2, hb⟩; obtain rfl := fu_one hg1 HQ.out hq2; clear hq2; have ns : w.heap.size < w1.heap.size := hb.ltK; have n0 : w1.cell? ⟨w.heap.size, 0, none⟩ = some (.int .i64 e) := hb.cellK; have n1 : w1.cell? ⟨w.heap.size, 1, none⟩ = some (.int .i64 f) := hb.cellK; (first | (have nx := Ext.trans hx hb; clear hx) | (have nx := Ext.trans (hx.alloc _) hb; clear hx) | (have nx := Ext.trans hx.drew hb; clear hx) | have nx := hb); clear hb; try clear hs; try clear g0; try clear g1; have hx := nx; clear nx; have hs := ns; clear ns; have g0 := n0; clear n0; have g1 := n1; clear n1))
    go_ret
    exact ⟨rfl, Ext.auK⟩
end Go.Proofs.YtfgbndjhaiigbaaGreatDoor.lFusedOf
