/-
  The function LeastHolding answers as its model at every argument; there are no conditions beside the tables of the library as the row lists them.
-/
import Derived.Test.YtcbkhlaiefiieabDoorRows
import Derived.Test.YtcbkhlaiefiieabDoorKxb1
import Derived.Test.YtcbkhlaiefiieabDoorKxb2
import Derived.Test.YtcbkhlaiefiieabDoorKxb3
import Derived.Test.YtcbkhlaiefiieabDoorKxb4
import Derived.Test.YtcbkhlaiefiieabDoorKxb5
import Derived.Test.YtcbkhlaiefiieabDoorKxb6
import Derived.Test.YtcbkhlaiefiieabDoorKxb7
import Derived.Test.YtcbkhlaiefiieabDoorKxb8
import Derived.Test.YtcbkhlaiefiieabDoorKxb9
import Derived.Test.YtcbkhlaiefiieabDoorKxb10
import Derived.Test.YtcbkhlaiefiieabDoorKxb11
import Derived.Test.YtcbkhlaiefiieabDoorKxb12
import Derived.Test.YtcbkhlaiefiieabDoorKxb13
import Derived.Test.YtcbkhlaiefiieabDoorKxb14
import Derived.Test.YtcbkhlaiefiieabDoorKxb15
import Derived.Test.YtcbkhlaiefiieabDoorKxb16
import Derived.Test.YtcbkhlaiefiieabDoorKxb17
import Derived.Test.YtcbkhlaiefiieabDoorKxb18
import Derived.Test.YtcbkhlaiefiieabDoorKxb19
import Derived.Test.YtcbkhlaiefiieabDoorKxb20
import Derived.Test.YtcbkhlaiefiieabDoorKxb21
import Derived.Test.YtcbkhlaiefiieabDoorKxb22
import Derived.Test.YtcbkhlaiefiieabDoorKxb23
import Derived.Test.YtcbkhlaiefiieabDoorKxb24
import Derived.Test.YtcbkhlaiefiieabDoorKxb25
import Derived.Test.YtcbkhlaiefiieabDoorKxb26
import Derived.Test.YtcbkhlaiefiieabDoorKxb27
import Derived.Test.YtcbkhlaiefiieabDoorKxb28
import Derived.Test.YtcbkhlaiefiieabDoorKxb29
import Derived.Test.YtcbkhlaiefiieabDoorKxb30
import Derived.Test.YtcbkhlaiefiieabDoorKxb31
import Derived.WalkKit
import Derived.ProofKit
import Derived.OpenShut
import Derived.Lib.Hide
import Derived.Deep.RegionHeld3
import Derived.Deep.DeepCutAuto
import Derived.Deep.CutBlock
import Derived.Lib.SmallJoins
import Derived.LaidMore
import Derived.Stop.Joined
import Derived.SevenTiedAt
import Derived.Test.YtcbkhlaiefiieabDoorCards
import Derived.Test.YtcbkhlaiefiieabDoorTie
namespace Go.Proofs.YtcbkhlaiefiieabDoor.lLeastHolding
open Go.ChangeShapes Go.WideShapes Go.ChangeAt Go.RowKit Go.Joins
set_option linter.unusedVariables false
set_option linter.unusedSimpArgs false

set_option maxHeartbeats 6400000 in
theorem walk (e f e2 f2 : Int) (xe : (Lit.int .i64 e).wf = true) (xf : (Lit.int .i64 f).wf = true) (xe2 : (Lit.int .i64 e2).wf = true) (xf2 : (Lit.int .i64 f2).wf = true) (w : World) (hT : TW w) : Calls Tryd.prog 16 #[fmt e f, fmt e2 f2] w fun rv w' => rv = .returned (.bool true) ∧ Ext w w' := by
  go_enter Tryd.func16, Tryd.ntmps16
  go_upto_region 1 with fail
  go_cut [5, 6] (fun s6 s7 wx => ∃ (g : Nat) (E X : Int) (ok : Bool), LhD e f e2 f2 E X ok ∧ s6 = .pointer (some ⟨g, 0, none⟩) ∧ s7 = .bool ok ∧ wx.cell? ⟨g, 0, none⟩ = some (.int .i64 E) ∧ wx.cell? ⟨g, 1, none⟩ = some (.int .i64 X) ∧ wx.cell? ⟨w.heap.size, 0, none⟩ = some (.int .i64 e) ∧ wx.cell? ⟨w.heap.size, 1, none⟩ = some (.int .i64 f) ∧ wx.cell? ⟨w.heap.size + 1, 0, none⟩ = some (.int .i64 e2) ∧ wx.cell? ⟨w.heap.size + 1, 1, none⟩ = some (.int .i64 f2) ∧ w.heap.size + 1 < wx.heap.size ∧ g < wx.heap.size ∧ Ext w wx)
  case first =>
    go_region_held3 (fun w' => w'.cell? ⟨w.heap.size, 0, none⟩ = some (.int .i64 e) ∧ w'.cell? ⟨w.heap.size, 1, none⟩ = some (.int .i64 f) ∧ w'.cell? ⟨w.heap.size + 1, 0, none⟩ = some (.int .i64 e2) ∧ w'.cell? ⟨w.heap.size + 1, 1, none⟩ = some (.int .i64 f2) ∧ w.heap.size + 1 < w'.heap.size) ((refine ⟨?_, ?_, ?_, ?_, ?_⟩ <;> first | with_reducible assumption | ((repeat first | rw [cell_set_far _ _ _ _ _ _ (by omega)] | rw [cell_alloc_before _ _ _ _ (by omega)] | rw [cell_alloc_drew _ _ _ _ (by omega)] | rw [cell_drew]); with_reducible assumption) | ((rw [cell_setRow_far _ _ _ _ _ (by omega)]); with_reducible assumption) | ((rw [setRow_size]); with_reducible assumption) | (simp; done) | (simp [World.setCell]; first | done | omega) | (simp [go_sem, World.cell?_alloc_past, World.cell?_setCell_far, *]; done))) ((first | (go_at_call 21; (with_reducible refine (toFormat_any e f _).mono ?_); rintro rv w1 ⟨rfl, hb⟩; (first | (have o0 := (hb.cells _ _ mt).trans m0; have o1 := (hb.cells _ _ mt).trans m1; have oz0 := (hb.frz _ _ mt).trans mz0; have oz1 := (hb.frz _ _ mt).trans mz1; have ot := hb.lt mt; clear m0 m1 mz0 mz1 mt; have m0 := o0; have m1 := o1; have mz0 := oz0; have mz1 := oz1; have mt := ot; clear o0 o1 oz0 oz1 ot) | (have q2 := Ext.new2 hb; obtain ⟨m0, m1, mz0, mz1, mt⟩ := q2; try simp only [World.size_alloc, World.size_drew, Nat.add_assoc, Nat.reduceAdd] at m0 m1 mz0 mz1 mt) | (have q2 := Ext.new2d hb; obtain ⟨m0, m1, mz0, mz1, mt⟩ := q2; try simp only [World.size_alloc, World.size_drew, Nat.add_assoc, Nat.reduceAdd] at m0 m1 mz0 mz1 mt) | skip); have ns : w.heap.size + 1 < w1.heap.size := hb.ltK; have n0 : w1.cell? ⟨w.heap.size, 0, none⟩ = some (.int .i64 e) := hb.cellK; have n1 : w1.cell? ⟨w.heap.size, 1, none⟩ = some (.int .i64 f) := hb.cellK; have n2 : w1.cell? ⟨w.heap.size + 1, 0, none⟩ = some (.int .i64 e2) := hb.cellK; have n3 : w1.cell? ⟨w.heap.size + 1, 1, none⟩ = some (.int .i64 f2) := hb.cellK; (first | (have nx := Ext.trans hx hb; clear hx) | (have nx := Ext.trans (hx.alloc _) hb; clear hx) | (have nx := Ext.trans hx.drew hb; clear hx) | have nx := hb); clear hb; try clear hs; try clear g0; try clear g1; try clear g2; try clear g3; have hx := nx; clear nx; have hs := ns; clear ns; have g0 := n0; clear n0; have g1 := n1; clear n1; have g2 := n2; clear n2; have g3 := n3; clear n3) | (go_at_call 21; (with_reducible refine (toFormat_any e2 f2 _).mono ?_); rintro rv w1 ⟨rfl, hb⟩; (first | (have o0 := (hb.cells _ _ mt).trans m0; have o1 := (hb.cells _ _ mt).trans m1; have oz0 := (hb.frz _ _ mt).trans mz0; have oz1 := (hb.frz _ _ mt).trans mz1; have ot := hb.lt mt; clear m0 m1 mz0 mz1 mt; have m0 := o0; have m1 := o1; have mz0 := oz0; have mz1 := oz1; have mt := ot; clear o0 o1 oz0 oz1 ot) | (have q2 := Ext.new2 hb; obtain ⟨m0, m1, mz0, mz1, mt⟩ := q2; try simp only [World.size_alloc, World.size_drew, Nat.add_assoc, Nat.reduceAdd] at m0 m1 mz0 mz1 mt) | (have q2 := Ext.new2d hb; obtain ⟨m0, m1, mz0, mz1, mt⟩ := q2; try simp only [World.size_alloc, World.size_drew, Nat.add_assoc, Nat.reduceAdd] at m0 m1 mz0 mz1 mt) | skip); have ns : w.heap.size + 1 < w1.heap.size := hb.ltK; have n0 : w1.cell? ⟨w.heap.size, 0, none⟩ = some (.int .i64 e) := hb.cellK; have n1 : w1.cell? ⟨w.heap.size, 1, none⟩ = some (.int .i64 f) := hb.cellK; have n2 : w1.cell? ⟨w.heap.size + 1, 0, none⟩ = some (.int .i64 e2) := hb.cellK; have n3 : w1.cell? ⟨w.heap.size + 1, 1, none⟩ = some (.int .i64 f2) := hb.cellK; (first | (have nx := Ext.trans hx hb; clear hx) | (have nx := Ext.trans (hx.alloc _) hb; clear hx) | (have nx := Ext.trans hx.drew hb; clear hx) | have nx := hb); clear hb; try clear hs; try clear g0; try clear g1; try clear g2; try clear g3; have hx := nx; clear nx; have hs := ns; clear ns; have g0 := n0; clear n0; have g1 := n1; clear n1; have g2 := n2; clear n2; have g3 := n3; clear n3) | (go_at_call 46; refine (sLeastHolding_any e f e2 f2 _).mono ?_; rintro rv w1 ⟨E, X, ok, rfl, hq, hb⟩; have HQ := Lib.hid hq; clear hq; (first | (have o0 := (hb.cells _ _ mt).trans m0; have o1 := (hb.cells _ _ mt).trans m1; have oz0 := (hb.frz _ _ mt).trans mz0; have oz1 := (hb.frz _ _ mt).trans mz1; have ot := hb.lt mt; clear m0 m1 mz0 mz1 mt; have m0 := o0; have m1 := o1; have mz0 := oz0; have mz1 := oz1; have mt := ot; clear o0 o1 oz0 oz1 ot) | (have q2 := Ext.new2 hb; obtain ⟨m0, m1, mz0, mz1, mt⟩ := q2; try simp only [World.size_alloc, World.size_drew, Nat.add_assoc, Nat.reduceAdd] at m0 m1 mz0 mz1 mt) | (have q2 := Ext.new2d hb; obtain ⟨m0, m1, mz0, mz1, mt⟩ := q2; try simp only [World.size_alloc, World.size_drew, Nat.add_assoc, Nat.reduceAdd] at m0 m1 mz0 mz1 mt) | skip); have ns : w.heap.size + 1 < w1.heap.size := hb.ltK; have n0 : w1.cell? ⟨w.heap.size, 0, none⟩ = some (.int .i64 e) := hb.cellK; have n1 : w1.cell? ⟨w.heap.size, 1, none⟩ = some (.int .i64 f) := hb.cellK; have n2 : w1.cell? ⟨w.heap.size + 1, 0, none⟩ = some (.int .i64 e2) := hb.cellK; have n3 : w1.cell? ⟨w.heap.size + 1, 1, none⟩ = some (.int .i64 f2) := hb.cellK; (first | (have nx := Ext.trans hx hb; clear hx) | (have nx := Ext.trans (hx.alloc _) hb; clear hx) | (have nx := Ext.trans hx.drew hb; clear hx) | have nx := hb); clear hb; try clear hs; try clear g0; try clear g1; try clear g2; try clear g3; have hx := nx; clear nx; have hs := ns; clear ns; have g0 := n0; clear n0; have g1 := n1; clear n1; have g2 := n2; clear n2; have g3 := n3; clear n3)))
    all_goals (go_wp2_with fail; go_meet; exact ⟨_, E, X, ok, HQ.out, rfl, rfl, (by first | with_reducible assumption | (simp [go_sem, *]; done) | ((repeat first | rw [cell_set_far _ _ _ _ _ _ (by omega)] | rw [cell_alloc_before _ _ _ _ (by omega)] | rw [cell_alloc_drew _ _ _ _ (by omega)] | rw [cell_drew]); with_reducible assumption)), (by first | with_reducible assumption | (simp [go_sem, *]; done) | ((repeat first | rw [cell_set_far _ _ _ _ _ _ (by omega)] | rw [cell_alloc_before _ _ _ _ (by omega)] | rw [cell_alloc_drew _ _ _ _ (by omega)] | rw [cell_drew]); with_reducible assumption)), (by first | with_reducible assumption | (simp [go_sem, *]; done) | ((repeat first | rw [cell_set_far _ _ _ _ _ _ (by omega)] | rw [cell_alloc_before _ _ _ _ (by omega)] | rw [cell_alloc_drew _ _ _ _ (by omega)] | rw [cell_drew]); with_reducible assumption)), (by first | with_reducible assumption | (simp [go_sem, *]; done) | ((repeat first | rw [cell_set_far _ _ _ _ _ _ (by omega)] | rw [cell_alloc_before _ _ _ _ (by omega)] | rw [cell_alloc_drew _ _ _ _ (by omega)] | rw [cell_drew]); with_reducible assumption)), (by first | with_reducible assumption | (simp [go_sem, *]; done) | ((repeat first | rw [cell_set_far _ _ _ _ _ _ (by omega)] | rw [cell_alloc_before _ _ _ _ (by omega)] | rw [cell_alloc_drew _ _ _ _ (by omega)] | rw [cell_drew]); with_reducible assumption)), (by first | with_reducible assumption | (simp [go_sem, *]; done) | ((repeat first | rw [cell_set_far _ _ _ _ _ _ (by omega)] | rw [cell_alloc_before _ _ _ _ (by omega)] | rw [cell_alloc_drew _ _ _ _ (by omega)] | rw [cell_drew]); with_reducible assumption)), (by first | (simp [World.setCell]; done) | (simp [World.setCell]; omega)), (by first | (simp [World.setCell]; done) | (simp [World.setCell]; omega)), Ext.auK⟩)
  case rest =>
    obtain ⟨g, E, X, ok, hq0, rfl, rfl, l0, l1, g0, g1, g2, g3, hs1, hg2, hx⟩ := hcut
    have hs : max (w.heap.size + 1) g < wc.heap.size := by omega
    have HQ0 := Lib.hid hq0; clear hq0
    go_wp2_with fail
    go_region_held3 (fun w' => w'.cell? ⟨w.heap.size, 0, none⟩ = some (.int .i64 e) ∧ w'.cell? ⟨w.heap.size, 1, none⟩ = some (.int .i64 f) ∧ w'.cell? ⟨w.heap.size + 1, 0, none⟩ = some (.int .i64 e2) ∧ w'.cell? ⟨w.heap.size + 1, 1, none⟩ = some (.int .i64 f2) ∧ w'.cell? ⟨g, 0, none⟩ = some (.int .i64 E) ∧ w'.cell? ⟨g, 1, none⟩ = some (.int .i64 X) ∧ max (w.heap.size + 1) g < w'.heap.size) ((refine ⟨?_, ?_, ?_, ?_, ?_, ?_, ?_⟩ <;> first | with_reducible assumption | ((repeat first | rw [cell_set_far _ _ _ _ _ _ (by omega)] | rw [cell_alloc_before _ _ _ _ (by omega)] | rw [cell_alloc_drew _ _ _ _ (by omega)] | rw [cell_drew]); with_reducible assumption) | ((rw [cell_setRow_far _ _ _ _ _ (by omega)]); with_reducible assumption) | ((rw [setRow_size]); with_reducible assumption) | (simp; done) | (simp [World.setCell]; first | done | omega) | (simp [go_sem, World.cell?_alloc_past, World.cell?_setCell_far, *]; done))) ((first | (go_at_call 21; (with_reducible refine (toFormat_any e f _).mono ?_); rintro rv w1 ⟨rfl, hb⟩; (first | (have o0 := (hb.cells _ _ mt).trans m0; have o1 := (hb.cells _ _ mt).trans m1; have oz0 := (hb.frz _ _ mt).trans mz0; have oz1 := (hb.frz _ _ mt).trans mz1; have ot := hb.lt mt; clear m0 m1 mz0 mz1 mt; have m0 := o0; have m1 := o1; have mz0 := oz0; have mz1 := oz1; have mt := ot; clear o0 o1 oz0 oz1 ot) | (have q2 := Ext.new2 hb; obtain ⟨m0, m1, mz0, mz1, mt⟩ := q2; try simp only [World.size_alloc, World.size_drew, Nat.add_assoc, Nat.reduceAdd] at m0 m1 mz0 mz1 mt) | (have q2 := Ext.new2d hb; obtain ⟨m0, m1, mz0, mz1, mt⟩ := q2; try simp only [World.size_alloc, World.size_drew, Nat.add_assoc, Nat.reduceAdd] at m0 m1 mz0 mz1 mt) | skip); have ns : max (w.heap.size + 1) g < w1.heap.size := hb.ltK; have n0 : w1.cell? ⟨w.heap.size, 0, none⟩ = some (.int .i64 e) := hb.cellK; have n1 : w1.cell? ⟨w.heap.size, 1, none⟩ = some (.int .i64 f) := hb.cellK; have n2 : w1.cell? ⟨w.heap.size + 1, 0, none⟩ = some (.int .i64 e2) := hb.cellK; have n3 : w1.cell? ⟨w.heap.size + 1, 1, none⟩ = some (.int .i64 f2) := hb.cellK; have n4 : w1.cell? ⟨g, 0, none⟩ = some (.int .i64 E) := hb.cellK; have n5 : w1.cell? ⟨g, 1, none⟩ = some (.int .i64 X) := hb.cellK; (first | (have nx := Ext.trans hx hb; clear hx) | (have nx := Ext.trans (hx.alloc _) hb; clear hx) | (have nx := Ext.trans hx.drew hb; clear hx) | have nx := hb); clear hb; try clear hs; try clear g0; try clear g1; try clear g2; try clear g3; try clear g4; try clear g5; have hx := nx; clear nx; have hs := ns; clear ns; have g0 := n0; clear n0; have g1 := n1; clear n1; have g2 := n2; clear n2; have g3 := n3; clear n3; have g4 := n4; clear n4; have g5 := n5; clear n5) | (go_at_call 21; (with_reducible refine (toFormat_any e2 f2 _).mono ?_); rintro rv w1 ⟨rfl, hb⟩; (first | (have o0 := (hb.cells _ _ mt).trans m0; have o1 := (hb.cells _ _ mt).trans m1; have oz0 := (hb.frz _ _ mt).trans mz0; have oz1 := (hb.frz _ _ mt).trans mz1; have ot := hb.lt mt; clear m0 m1 mz0 mz1 mt; have m0 := o0; have m1 := o1; have mz0 := oz0; have mz1 := oz1; have mt := ot; clear o0 o1 oz0 oz1 ot) | (have q2 := Ext.new2 hb; obtain ⟨m0, m1, mz0, mz1, mt⟩ := q2; try simp only [World.size_alloc, World.size_drew, Nat.add_assoc, Nat.reduceAdd] at m0 m1 mz0 mz1 mt) | (have q2 := Ext.new2d hb; obtain ⟨m0, m1, mz0, mz1, mt⟩ := q2; try simp only [World.size_alloc, World.size_drew, Nat.add_assoc, Nat.reduceAdd] at m0 m1 mz0 mz1 mt) | skip); have ns : max (w.heap.size + 1) g < w1.heap.size := hb.ltK; have n0 : w1.cell? ⟨w.heap.size, 0, none⟩ = some (.int .i64 e) := hb.cellK; have n1 : w1.cell? ⟨w.heap.size, 1, none⟩ = some (.int .i64 f) := hb.cellK; have n2 : w1.cell? ⟨w.heap.size + 1, 0, none⟩ = some (.int .i64 e2) := hb.cellK; have n3 : w1.cell? ⟨w.heap.size + 1, 1, none⟩ = some (.int .i64 f2) := hb.cellK; have n4 : w1.cell? ⟨g, 0, none⟩ = some (.int .i64 E) := hb.cellK; have n5 : w1.cell? ⟨g, 1, none⟩ = some (.int .i64 X) := hb.cellK; (first | (have nx := Ext.trans hx hb; clear hx) | (have nx := Ext.trans (hx.alloc _) hb; clear hx) | (have nx := Ext.trans hx.drew hb; clear hx) | have nx := hb); clear hb; try clear hs; try clear g0; try clear g1; try clear g2; try clear g3; try clear g4; try clear g5; have hx := nx; clear nx; have hs := ns; clear ns; have g0 := n0; clear n0; have g1 := n1; clear n1; have g2 := n2; clear n2; have g3 := n3; clear n3; have g4 := n4; clear n4; have g5 := n5; clear n5) | (go_at_call 47; refine (iLeastHolding_any e f e2 f2 _ (hT.ext Ext.auK)).mono ?_; rintro rv w1 ⟨E2, X2, ok2, rfl, hq2, hb⟩; have HQ2 := Lib.hid hq2; clear hq2; (first | (have o0 := (hb.cells _ _ mt).trans m0; have o1 := (hb.cells _ _ mt).trans m1; have oz0 := (hb.frz _ _ mt).trans mz0; have oz1 := (hb.frz _ _ mt).trans mz1; have ot := hb.lt mt; clear m0 m1 mz0 mz1 mt; have m0 := o0; have m1 := o1; have mz0 := oz0; have mz1 := oz1; have mt := ot; clear o0 o1 oz0 oz1 ot) | (have q2 := Ext.new2 hb; obtain ⟨m0, m1, mz0, mz1, mt⟩ := q2; try simp only [World.size_alloc, World.size_drew, Nat.add_assoc, Nat.reduceAdd] at m0 m1 mz0 mz1 mt) | (have q2 := Ext.new2d hb; obtain ⟨m0, m1, mz0, mz1, mt⟩ := q2; try simp only [World.size_alloc, World.size_drew, Nat.add_assoc, Nat.reduceAdd] at m0 m1 mz0 mz1 mt) | skip); have ns : max (w.heap.size + 1) g < w1.heap.size := hb.ltK; have n0 : w1.cell? ⟨w.heap.size, 0, none⟩ = some (.int .i64 e) := hb.cellK; have n1 : w1.cell? ⟨w.heap.size, 1, none⟩ = some (.int .i64 f) := hb.cellK; have n2 : w1.cell? ⟨w.heap.size + 1, 0, none⟩ = some (.int .i64 e2) := hb.cellK; have n3 : w1.cell? ⟨w.heap.size + 1, 1, none⟩ = some (.int .i64 f2) := hb.cellK; have n4 : w1.cell? ⟨g, 0, none⟩ = some (.int .i64 E) := hb.cellK; have n5 : w1.cell? ⟨g, 1, none⟩ = some (.int .i64 X) := hb.cellK; (first | (have nx := Ext.trans hx hb; clear hx) | (have nx := Ext.trans (hx.alloc _) hb; clear hx) | (have nx := Ext.trans hx.drew hb; clear hx) | have nx := hb); clear hb; try clear hs; try clear g0; try clear g1; try clear g2; try clear g3; try clear g4; try clear g5; have hx := nx; clear nx; have hs := ns; clear ns; have g0 := n0; clear n0; have g1 := n1; clear n1; have g2 := n2; clear n2; have g3 := n3; clear n3; have g4 := n4; clear n4; have g5 := n5; clear n5)))
    all_goals obtain ⟨rfl, rfl, rfl⟩ := lh_one HQ0.out HQ2.out
    all_goals go_wp2_with (go_at_call 48; refine (eqFormat_same _ _ _).mono ?_; rintro rv w9 ⟨rfl, hb⟩)
    all_goals go_ret
    all_goals exact ⟨rfl, Ext.auK⟩

set_option maxRecDepth 100000 in
theorem lifted (os : Os) (started : os.Started) (H : Type) (enc : TypeId × Value → H) :
    ReturnsInHanded {} Tryd.checked os 16 .any (fun w args => (Rows.fnExactLeastHoldingSpec.pre enc Tryd.prog Tryd.f16 [] false w args ∧ laidMetH Tryd.prog laidU w) ∧ sizedMet enc Tryd.prog Tryd.f16 (OpenSpec.ofChange Rows.fnExactLeastHoldingSpec) false w args) (Rows.fnExactLeastHoldingSpec.post enc Tryd.prog Tryd.f16 false true false false) := by
  refine returnsInHanded_of_change_and (C := Tryd.checked) (X := fun w _ => laidMetH Tryd.prog laidU w) (fun _ _ _ hh h => h.of_heap hh) own started (by kernel_rfl) Tryd.func16
    (ChangeSpec.witness_shaped (enc := enc) (C := Tryd.checked) (os := os) (X := fun w _ => laidMetH Tryd.prog laidU w) false (World.doorLaid Tryd.prog 400 os) #[.agg #[.int .i64 0, .int .i64 0], .agg #[.int .i64 0, .int .i64 0]] 8 rfl (World.shaped_of_RefB (by kernel_rfl) (by kernel_rfl)) (by kernel_rfl) (by kernel_rfl) (by kernel_rfl) (door_met os _)) ?_
  intro W base args ds gs before hval0 hW _ _ hL _
  have hval : ∀ (j : Nat) t v, Tryd.f16.params[j]? = some t → args[j]? = some v → Value.okWide Tryd.prog W .any base t v := hval0
  have hW' := hW
  obtain ⟨p, q, hA0, hV, rfl, hfz, hnd⟩ := hW
  have hA : DataW.TrodAll enc Tryd.prog W 0 (fun _ => true) true Tryd.f16.params.toList args.toList ds p := hA0
  rw [Tryd.params16] at hA hval
  obtain ⟨v0, vs0, d0, ds0, p0, q0, hargs, rfl, rfl, h0, r0⟩ := trodAll_cons hA
  obtain ⟨v1, vs1, d1, ds1, p1, q1, rfl, rfl, rfl, h1, r1⟩ := trodAll_cons r0
  obtain ⟨rfl, rfl, rfl⟩ := trodAll_nil r1
  obtain rfl : args = #[v0, v1] := by cases args; simp_all
  obtain ⟨rfl, rfl⟩ := trodVars_none hV
  obtain ⟨c00, c01, y00, y01, m0, rfl, rfl, rfl, hy00, hy01⟩ := open_agg2 Tryd.underlying29 (by kernel_rfl) (by kernel_rfl) (hval 0 29 v0 rfl rfl) h0
  obtain ⟨a0, e00, rfl, wa0⟩ := DataW.trod_int Tryd.underlying3 hy00
  obtain ⟨b0, e01, rfl, wb0⟩ := DataW.trod_int Tryd.underlying3 hy01
  simp at e00 e01
  subst e00 e01
  obtain ⟨c10, c11, y10, y11, m1, rfl, rfl, rfl, hy10, hy11⟩ := open_agg2 Tryd.underlying29 (by kernel_rfl) (by kernel_rfl) (hval 1 29 v1 rfl rfl) h1
  obtain ⟨a1, e10, rfl, wa1⟩ := DataW.trod_int Tryd.underlying3 hy10
  obtain ⟨b1, e11, rfl, wb1⟩ := DataW.trod_int Tryd.underlying3 hy11
  simp at e10 e11
  subst e10 e11
  clear hA0 hval0
  simp only [List.append_nil] at hW'
  have sr0 : ∀ (W' : World) (sp : Nat → Bool), DataW.Trod enc Tryd.prog W' 0 sp true 29 (.agg #[.int .i64 a0, .int .i64 b0]) (.agg [.lit (.int .i64 a0), .lit (.int .i64 b0)]) [] := fun W' sp =>
    shut_agg2 (y0 := (.lit (.int .i64 a0), [])) (y1 := (.lit (.int .i64 b0), [])) Tryd.underlying29 (by kernel_rfl) (by kernel_rfl) ⟨1, by simp [DataW.trod, Tryd.underlying3, wa0]⟩ ⟨1, by simp [DataW.trod, Tryd.underlying3, wb0]⟩
  have sr1 : ∀ (W' : World) (sp : Nat → Bool), DataW.Trod enc Tryd.prog W' 0 sp true 29 (.agg #[.int .i64 a1, .int .i64 b1]) (.agg [.lit (.int .i64 a1), .lit (.int .i64 b1)]) [] := fun W' sp =>
    shut_agg2 (y0 := (.lit (.int .i64 a1), [])) (y1 := (.lit (.int .i64 b1), [])) Tryd.underlying29 (by kernel_rfl) (by kernel_rfl) ⟨1, by simp [DataW.trod, Tryd.underlying3, wa1]⟩ ⟨1, by simp [DataW.trod, Tryd.underlying3, wb1]⟩
  refine (walk a0 b0 a1 b1 wa0 wb0 wa1 wb1 W (of_laid hL)).mono fun e W' ⟨he, hb⟩ => ?_
  subst he
  have hg : Below W.heap.size W W' := hb
  exact ⟨_, rfl, ⟨_, _, _, [], _, [], hW', (trodAll_cons_mk (shut_bool Tryd.underlying4 _) trodAll_mk0), (trodAll_cons_mk (sr0 _ _) (trodAll_cons_mk (sr1 _ _) trodAll_mk0)), rfl, hg.frame _, fun h => by cases h⟩⟩

theorem row_holds : Rows.FnExactLeastHoldingSaid :=
  OpenClaim.holds_of_wide 16 Tryd.f16 rfl rfl rfl rfl rfl rfl rfl ⟨rfl, rfl, rfl, rfl, rfl⟩ rfl rfl rfl rfl rfl (by kernel_rfl) Tryd.func16 (by kernel_rfl)
    (of_decide_eq_true (by kernel_rfl)) (by unfold Func.isWrapper; first | (rw [if_pos (by decide +kernel)]; kernel_rfl) | (rw [if_neg (by decide +kernel)]; exact ⟨rfl, rfl⟩))
    (fun os started H enc _ => lifted os started H enc)
/-- The given statement: the card. -/
theorem proved : Rows.FnExactLeastHoldingCardSaid :=
  Claim7.holds_tied_plain_at .later [] [.data, .data] true (true, "77eb8531e552528d1a106b537ce7471ced4dd3ab79b2a0248d6d6400cb3a06ee") false
    row_holds (fun _ h => by cases h) (by kernel_rfl) (fun _ h => by cases h) fnExactLeastHolding_row_tie rfl ⟨rfl, rfl⟩ (by kernel_rfl) rfl
    (fun f fn hf hfn => by
      obtain rfl : f = 16 := Option.some.inj ((show Tryd.prog.funcNamed "loop.example/g01178/laws.FnExactLeastHolding" = some 16 by kernel_rfl).symm.trans hf) |>.symm
      obtain rfl : fn = Tryd.f16 := (Option.some.inj (Tryd.func16.symm.trans hfn)).symm
      exact ⟨by kernel_rfl, fun j t ht => by
        rw [Tryd.params16] at ht
        have hm : t ∈ [29,29] := by simpa using Array.mem_of_getElem? ht
        have hall : ([29,29].all fun u => !Tryd.prog.wantsStandIn u) = true := by kernel_rfl
        exact (show Tryd.prog.wantsStandIn t = false by simpa using List.all_eq_true.1 hall t hm)⟩)
    (by kernel_rfl)
#print axioms proved
end Go.Proofs.YtcbkhlaiefiieabDoor.lLeastHolding
