/-
  The function LongestShortest answers as its model at every format; there are no conditions beside the tables of the library as the row lists them.
-/
import Derived.Test.YtfgbndjhaiigbacGreatDoorRows
import Derived.Test.YtfgbndjhaiigbacGreatDoorKlo1
import Derived.Test.YtfgbndjhaiigbacGreatDoorKlo2
import Derived.Test.YtfgbndjhaiigbacGreatDoorKlo3
import Derived.Test.YtfgbndjhaiigbacGreatDoorKlo4
import Derived.Test.YtfgbndjhaiigbacGreatDoorKlo5
import Derived.Test.YtfgbndjhaiigbacGreatDoorKlo6
import Derived.Test.YtfgbndjhaiigbacGreatDoorKlo7
import Derived.Test.YtfgbndjhaiigbacGreatDoorKlo8
import Derived.Test.YtfgbndjhaiigbacGreatDoorKlo9
import Derived.Test.YtfgbndjhaiigbacGreatDoorKlo10
import Derived.Test.YtfgbndjhaiigbacGreatDoorKlo11
import Derived.Test.YtfgbndjhaiigbacGreatDoorKlo12
import Derived.Test.YtfgbndjhaiigbacGreatDoorKlo13
import Derived.Test.YtfgbndjhaiigbacGreatDoorKlo14
import Derived.Test.YtfgbndjhaiigbacGreatDoorKlo15
import Derived.Test.YtfgbndjhaiigbacGreatDoorKlo16
import Derived.Test.YtfgbndjhaiigbacGreatDoorKlo17
import Derived.Test.YtfgbndjhaiigbacGreatDoorKlo18
import Derived.Test.YtfgbndjhaiigbacGreatDoorKlo19
import Derived.Test.YtfgbndjhaiigbacGreatDoorKlo20
import Derived.Test.YtfgbndjhaiigbacGreatDoorKlo21
import Derived.Test.YtfgbndjhaiigbacGreatDoorKlo22
import Derived.Test.YtfgbndjhaiigbacGreatDoorKlo23
import Derived.Test.YtfgbndjhaiigbacGreatDoorKlo24
import Derived.Test.YtfgbndjhaiigbacGreatDoorKlo25
import Derived.Test.YtfgbndjhaiigbacGreatDoorKlo26
import Derived.Test.YtfgbndjhaiigbacGreatDoorKlo27
import Derived.Test.YtfgbndjhaiigbacGreatDoorKlo28
import Derived.Test.YtfgbndjhaiigbacGreatDoorKlo29
import Derived.Test.YtfgbndjhaiigbacGreatDoorKlo30
import Derived.Test.YtfgbndjhaiigbacGreatDoorKlo31
import Derived.Test.YtfgbndjhaiigbacGreatDoorKlo32
import Derived.Test.YtfgbndjhaiigbacGreatDoorKlo33
import Derived.Test.YtfgbndjhaiigbacGreatDoorKlo34
import Derived.Test.YtfgbndjhaiigbacGreatDoorKlo35
import Derived.Test.YtfgbndjhaiigbacGreatDoorKlo36
import Derived.Test.YtfgbndjhaiigbacGreatDoorKlo37
import Derived.Test.YtfgbndjhaiigbacGreatDoorSeatA
import Derived.Test.YtfgbndjhaiigbacGreatDoorSeatB
import Derived.Test.YtfgbndjhaiigbacGreatDoorSeatC
import Derived.WalkKit
import Derived.ProofKit
import Derived.OpenShut
import Derived.Lib.SmallJoins
import Derived.LaidMore
import Derived.Stop.Joined
import Derived.SevenTiedAt
import Derived.Test.YtfgbndjhaiigbacGreatDoorCards
import Derived.Test.YtfgbndjhaiigbacGreatDoorTie
namespace Go.Proofs.YtfgbndjhaiigbacGreatDoor.lLongestShortest
open Go.ChangeShapes Go.WideShapes Go.ChangeAt Go.RowKit Go.Joins
set_option linter.unusedVariables false
set_option linter.unusedSimpArgs false

set_option maxHeartbeats 1600000 in
theorem walk (e f : Int) (xe : (Lit.int .i64 e).wf = true) (xf : (Lit.int .i64 f).wf = true) (w : World) (hT : TT w) : Calls Tryz.prog 9 #[fmt e f] w fun rv w' => rv = .returned (.bool true) ∧ Ext w w' := by
  cases hg : lsB e f
  · have H1 := Lib.hid (fun w => sLongest_no e f hg w)
    have H2 := Lib.hid (fun w => iLongest_no e f hg w)
    clear hg
    go_enter Tryz.func9, Tryz.ntmps9
    go_wp2_with (first | (go_at_call 15; refine (toFormat_any e f _).mono ?_; rintro rv w1 ⟨rfl, hb⟩; have ns : w.heap.size < w1.heap.size := hb.ltK; have n0 : w1.cell? ⟨w.heap.size, 0, none⟩ = some (.int .i64 e) := hb.cellK; have n1 : w1.cell? ⟨w.heap.size, 1, none⟩ = some (.int .i64 f) := hb.cellK; (first | (have nx := hx.trK hb; clear hx) | have nx := hb); clear hb; try clear hs; try clear g0; try clear g1; have hx := nx; clear nx; have hs := ns; clear ns; have g0 := n0; clear n0; have g1 := n1; clear n1) | (go_at_call 27; refine (H1.out _).mono ?_; rintro rv w1 ⟨rfl, hb⟩; have ns : w.heap.size < w1.heap.size := hb.ltK; have n0 : w1.cell? ⟨w.heap.size, 0, none⟩ = some (.int .i64 e) := hb.cellK; have n1 : w1.cell? ⟨w.heap.size, 1, none⟩ = some (.int .i64 f) := hb.cellK; (first | (have nx := hx.trK hb; clear hx) | have nx := hb); clear hb; try clear hs; try clear g0; try clear g1; have hx := nx; clear nx; have hs := ns; clear ns; have g0 := n0; clear n0; have g1 := n1; clear n1) | (go_at_call 28; refine (H2.out _).mono ?_; rintro rv w1 ⟨rfl, hb⟩; have ns : w.heap.size < w1.heap.size := hb.ltK; have n0 : w1.cell? ⟨w.heap.size, 0, none⟩ = some (.int .i64 e) := hb.cellK; have n1 : w1.cell? ⟨w.heap.size, 1, none⟩ = some (.int .i64 f) := hb.cellK; (first | (have nx := hx.trK hb; clear hx) | have nx := hb); clear hb; try clear hs; try clear g0; try clear g1; have hx := nx; clear nx; have hs := ns; clear ns; have g0 := n0; clear n0; have g1 := n1; clear n1))
    go_ret
    exact ⟨rfl, Ext.auK⟩
  · obtain ⟨K, hK⟩ : ∃ K : Nat, pw (e + f) = (K : Int) := ⟨(pw (e + f)).toNat, by have := pw_pos (e + f); omega⟩
    have H1 := Lib.hid (fun w => sLongest_yes e f K hg hK w)
    have H2 := Lib.hid (fun w hT => iLongest_yes e f K hg hK w hT)
    clear hg hK
    generalize ((lgM e f K : Nat) : Int) = R at *
    go_enter Tryz.func9, Tryz.ntmps9
    go_wp2_with (first | (go_at_call 15; refine (toFormat_any e f _).mono ?_; rintro rv w1 ⟨rfl, hb⟩; have ns : w.heap.size < w1.heap.size := hb.ltK; have n0 : w1.cell? ⟨w.heap.size, 0, none⟩ = some (.int .i64 e) := hb.cellK; have n1 : w1.cell? ⟨w.heap.size, 1, none⟩ = some (.int .i64 f) := hb.cellK; (first | (have nx := hx.trK hb; clear hx) | have nx := hb); clear hb; try clear hs; try clear g0; try clear g1; have hx := nx; clear nx; have hs := ns; clear ns; have g0 := n0; clear n0; have g1 := n1; clear n1) | (go_at_call 27; refine (H1.out _).mono ?_; rintro rv w1 ⟨rfl, hb⟩; have ns : w.heap.size < w1.heap.size := hb.ltK; have n0 : w1.cell? ⟨w.heap.size, 0, none⟩ = some (.int .i64 e) := hb.cellK; have n1 : w1.cell? ⟨w.heap.size, 1, none⟩ = some (.int .i64 f) := hb.cellK; (first | (have nx := hx.trK hb; clear hx) | have nx := hb); clear hb; try clear hs; try clear g0; try clear g1; have hx := nx; clear nx; have hs := ns; clear ns; have g0 := n0; clear n0; have g1 := n1; clear n1) | (go_at_call 28; refine (H2.out _ (hT.ext Ext.auK)).mono ?_; rintro rv w1 ⟨rfl, hb⟩; have ns : w.heap.size < w1.heap.size := hb.ltK; have n0 : w1.cell? ⟨w.heap.size, 0, none⟩ = some (.int .i64 e) := hb.cellK; have n1 : w1.cell? ⟨w.heap.size, 1, none⟩ = some (.int .i64 f) := hb.cellK; (first | (have nx := hx.trK hb; clear hx) | have nx := hb); clear hb; try clear hs; try clear g0; try clear g1; have hx := nx; clear nx; have hs := ns; clear ns; have g0 := n0; clear n0; have g1 := n1; clear n1))
    go_ret
    exact ⟨rfl, Ext.auK⟩
end Go.Proofs.YtfgbndjhaiigbacGreatDoor.lLongestShortest
