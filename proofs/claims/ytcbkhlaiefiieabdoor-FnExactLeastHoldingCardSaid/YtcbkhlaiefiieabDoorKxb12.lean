/-
  Contracts of the functions that the laws reach, and the plain facts that they rest on, each under the conditions that its line names; part 12.
-/
import Derived.Test.YtcbkhlaiefiieabDoorKxb1
import Derived.Test.YtcbkhlaiefiieabDoorKxb2
import Derived.Test.YtcbkhlaiefiieabDoorKxb3
import Derived.Test.YtcbkhlaiefiieabDoorKxb4
import Derived.Test.YtcbkhlaiefiieabDoorKxb5
import Derived.Test.YtcbkhlaiefiieabDoorKxb6
import Derived.Test.YtcbkhlaiefiieabDoorKxb7
import Derived.Test.YtcbkhlaiefiieabDoorKxb8
import Derived.Test.YtcbkhlaiefiieabDoorKxb9
import Derived.Test.YtcbkhlaiefiieabDoorKxb11
import Derived.Test.YtcbkhlaiefiieabDoorRows
import Derived.WalkKit
import Derived.LoopTactic
import Derived.Laws.Bits64b
import Derived.WalkSpells
import Derived.WalkLawsBesides
import Derived.StillTactics
import Derived.Laws.Pointers
import Derived.Deep.RegionHeld3
import Derived.Deep.QuietTactic
import Derived.BigQuiet
import Derived.Outline
import Derived.Lib.Hide
import Derived.RowKit3
import Derived.Carry
import Derived.IntWalk
namespace Go.Proofs.YtcbkhlaiefiieabDoor
open Go Go.RowKit
set_option linter.unusedSimpArgs false
set_option linter.unusedVariables false

theorem sUnitOf_no (e f : Int) (hg : goodB e f = false) (w : World) : Calls Tryd.prog 23 #[fmt e f] w fun rv w' => rv = .returned (.tuple #[two 0 0, .bool false]) ∧ Ext w w' := by
  go_enter Tryd.func23, Tryd.ntmps23
  go_wp2_with (go_at_call 58; refine (fmGood_any e f _).mono ?_; rintro rv w1 ⟨rfl, hb⟩; have ns : w.heap.size + 1 < w1.heap.size := hb.ltK; have n0 : w1.cell? ⟨w.heap.size, 0, none⟩ = some (.int .i64 e) := hb.cellK; have n1 : w1.cell? ⟨w.heap.size, 1, none⟩ = some (.int .i64 f) := hb.cellK; have n2 : w1.cell? ⟨w.heap.size + 1, 0, none⟩ = some (.int .i64 0) := hb.cellK; have n3 : w1.cell? ⟨w.heap.size + 1, 1, none⟩ = some (.int .i64 0) := hb.cellK; have nz0 : w1.frozen? ⟨w.heap.size + 1, 0, none⟩ = false := hb.frzK; have nz1 : w1.frozen? ⟨w.heap.size + 1, 1, none⟩ = false := hb.frzK; (first | (have nx := Ext.trans hx hb; clear hx) | (have nx := Ext.trans (hx.alloc _) hb; clear hx) | (have nx := Ext.trans hx.drew hb; clear hx) | have nx := hb); clear hb; try clear hs; try clear g0; try clear g1; try clear g2; try clear g3; try clear z0; try clear z1; have hx := nx; clear nx; have hs := ns; clear ns; have g0 := n0; clear n0; have g1 := n1; clear n1; have g2 := n2; clear n2; have g3 := n3; clear n3; have z0 := nz0; clear nz0; have z1 := nz1; clear nz1)
  exact bodyPost_ret (v := .tuple #[two 0 0, .bool false]) (by simp [results, Tryd.results23, go_sem, *]) rfl ⟨rfl, Ext.auK⟩

theorem sUnitOf_yes (e f : Int) (hg : goodB e f = true) (w : World) : Calls Tryd.prog 23 #[fmt e f] w fun rv w' => rv = .returned (.tuple #[two (1) (unV e f), .bool true]) ∧ Ext w w' := by
  have q := buildDy 1 (unV e f)
  go_enter Tryd.func23, Tryd.ntmps23
  go_wp2_with (first | (go_at_call 58; refine (fmGood_any e f _).mono ?_; rintro rv w1 ⟨rfl, hb⟩; have ns : w.heap.size + 1 < w1.heap.size := hb.ltK; have n0 : w1.cell? ⟨w.heap.size, 0, none⟩ = some (.int .i64 e) := hb.cellK; have n1 : w1.cell? ⟨w.heap.size, 1, none⟩ = some (.int .i64 f) := hb.cellK; have n2 : w1.cell? ⟨w.heap.size + 1, 0, none⟩ = some (.int .i64 0) := hb.cellK; have n3 : w1.cell? ⟨w.heap.size + 1, 1, none⟩ = some (.int .i64 0) := hb.cellK; have nz0 : w1.frozen? ⟨w.heap.size + 1, 0, none⟩ = false := hb.frzK; have nz1 : w1.frozen? ⟨w.heap.size + 1, 1, none⟩ = false := hb.frzK; (first | (have nx := Ext.trans hx hb; clear hx) | (have nx := Ext.trans (hx.alloc _) hb; clear hx) | (have nx := Ext.trans hx.drew hb; clear hx) | have nx := hb); clear hb; try clear hs; try clear g0; try clear g1; try clear g2; try clear g3; try clear z0; try clear z1; have hx := nx; clear nx; have hs := ns; clear ns; have g0 := n0; clear n0; have g1 := n1; clear n1; have g2 := n2; clear n2; have g3 := n3; clear n3; have z0 := nz0; clear nz0; have z1 := nz1; clear nz1) | (go_at_call 59; refine (rdUnit_any e f hg _).mono ?_; rintro rv w1 ⟨rfl, hb⟩; have ns : w.heap.size + 1 < w1.heap.size := hb.ltK; have n0 : w1.cell? ⟨w.heap.size, 0, none⟩ = some (.int .i64 e) := hb.cellK; have n1 : w1.cell? ⟨w.heap.size, 1, none⟩ = some (.int .i64 f) := hb.cellK; have n2 : w1.cell? ⟨w.heap.size + 1, 0, none⟩ = some (.int .i64 0) := hb.cellK; have n3 : w1.cell? ⟨w.heap.size + 1, 1, none⟩ = some (.int .i64 0) := hb.cellK; have nz0 : w1.frozen? ⟨w.heap.size + 1, 0, none⟩ = false := hb.frzK; have nz1 : w1.frozen? ⟨w.heap.size + 1, 1, none⟩ = false := hb.frzK; (first | (have nx := Ext.trans hx hb; clear hx) | (have nx := Ext.trans (hx.alloc _) hb; clear hx) | (have nx := Ext.trans hx.drew hb; clear hx) | have nx := hb); clear hb; try clear hs; try clear g0; try clear g1; try clear g2; try clear g3; try clear z0; try clear z1; have hx := nx; clear nx; have hs := ns; clear ns; have g0 := n0; clear n0; have g1 := n1; clear n1; have g2 := n2; clear n2; have g3 := n3; clear n3; have z0 := nz0; clear nz0; have z1 := nz1; clear nz1))
  exact bodyPost_ret (v := .tuple #[two (1) (unV e f), .bool true]) (by simp [results, Tryd.results23, go_sem, *]) rfl ⟨rfl, Ext.auK⟩

theorem iUnitOf_no (e f : Int) (hg : goodB e f = false) (w : World) : Calls Tryd.prog 24 #[fmt e f] w fun rv w' => rv = .returned (.tuple #[two 0 0, .bool false]) ∧ Ext w w' := by
  go_enter Tryd.func24, Tryd.ntmps24
  go_wp2_with (go_at_call 60; refine (isFormat_any e f _).mono ?_; rintro rv w1 ⟨rfl, hb⟩; have ns : w.heap.size + 1 < w1.heap.size := hb.ltK; have n0 : w1.cell? ⟨w.heap.size, 0, none⟩ = some (.int .i64 e) := hb.cellK; have n1 : w1.cell? ⟨w.heap.size, 1, none⟩ = some (.int .i64 f) := hb.cellK; have n2 : w1.cell? ⟨w.heap.size + 1, 0, none⟩ = some (.int .i64 0) := hb.cellK; have n3 : w1.cell? ⟨w.heap.size + 1, 1, none⟩ = some (.int .i64 0) := hb.cellK; have nz0 : w1.frozen? ⟨w.heap.size + 1, 0, none⟩ = false := hb.frzK; have nz1 : w1.frozen? ⟨w.heap.size + 1, 1, none⟩ = false := hb.frzK; (first | (have nx := Ext.trans hx hb; clear hx) | (have nx := Ext.trans (hx.alloc _) hb; clear hx) | (have nx := Ext.trans hx.drew hb; clear hx) | have nx := hb); clear hb; try clear hs; try clear g0; try clear g1; try clear g2; try clear g3; try clear z0; try clear z1; have hx := nx; clear nx; have hs := ns; clear ns; have g0 := n0; clear n0; have g1 := n1; clear n1; have g2 := n2; clear n2; have g3 := n3; clear n3; have z0 := nz0; clear nz0; have z1 := nz1; clear nz1)
  exact bodyPost_ret (v := .tuple #[two 0 0, .bool false]) (by simp [results, Tryd.results24, go_sem, *]) rfl ⟨rfl, Ext.auK⟩

theorem iUnitOf_yes (e f : Int) (hg : goodB e f = true) (w : World) (hT : TW w) : Calls Tryd.prog 24 #[fmt e f] w fun rv w' => rv = .returned (.tuple #[two (1) (unV e f), .bool true]) ∧ Ext w w' := by
  obtain ⟨u1, u2, u3, u4⟩ := un_bd hg
  obtain ⟨e1, e2, e3⟩ := nf_self (n := 1) (e := unV e f) (dy_iff.2 ⟨by omega, by omega⟩)
  have E := Lib.hid (show _ ∧ _ ∧ _ from ⟨e1, e2, e3⟩); clear e1 e2 e3
  go_enter Tryd.func24, Tryd.ntmps24
  go_wp2_with (first | (go_at_call 60; refine (isFormat_any e f _).mono ?_; rintro rv w1 ⟨rfl, hb⟩; have ns : w.heap.size + 1 < w1.heap.size := hb.ltK; have n0 : w1.cell? ⟨w.heap.size, 0, none⟩ = some (.int .i64 e) := hb.cellK; have n1 : w1.cell? ⟨w.heap.size, 1, none⟩ = some (.int .i64 f) := hb.cellK; have n2 : w1.cell? ⟨w.heap.size + 1, 0, none⟩ = some (.int .i64 0) := hb.cellK; have n3 : w1.cell? ⟨w.heap.size + 1, 1, none⟩ = some (.int .i64 0) := hb.cellK; have nz0 : w1.frozen? ⟨w.heap.size + 1, 0, none⟩ = false := hb.frzK; have nz1 : w1.frozen? ⟨w.heap.size + 1, 1, none⟩ = false := hb.frzK; (first | (have nx := Ext.trans hx hb; clear hx) | (have nx := Ext.trans (hx.alloc _) hb; clear hx) | (have nx := Ext.trans hx.drew hb; clear hx) | have nx := hb); clear hb; try clear hs; try clear g0; try clear g1; try clear g2; try clear g3; try clear z0; try clear z1; have hx := nx; clear nx; have hs := ns; clear ns; have g0 := n0; clear n0; have g1 := n1; clear n1; have g2 := n2; clear n2; have g3 := n3; clear n3; have z0 := nz0; clear nz0; have z1 := nz1; clear nz1) | (go_at_call 57; refine (unitPower_any e f hg _).mono ?_; rintro rv w1 ⟨rfl, hb⟩; have ns : w.heap.size + 1 < w1.heap.size := hb.ltK; have n0 : w1.cell? ⟨w.heap.size, 0, none⟩ = some (.int .i64 e) := hb.cellK; have n1 : w1.cell? ⟨w.heap.size, 1, none⟩ = some (.int .i64 f) := hb.cellK; have n2 : w1.cell? ⟨w.heap.size + 1, 0, none⟩ = some (.int .i64 0) := hb.cellK; have n3 : w1.cell? ⟨w.heap.size + 1, 1, none⟩ = some (.int .i64 0) := hb.cellK; have nz0 : w1.frozen? ⟨w.heap.size + 1, 0, none⟩ = false := hb.frzK; have nz1 : w1.frozen? ⟨w.heap.size + 1, 1, none⟩ = false := hb.frzK; (first | (have nx := Ext.trans hx hb; clear hx) | (have nx := Ext.trans (hx.alloc _) hb; clear hx) | (have nx := Ext.trans hx.drew hb; clear hx) | have nx := hb); clear hb; try clear hs; try clear g0; try clear g1; try clear g2; try clear g3; try clear z0; try clear z1; have hx := nx; clear nx; have hs := ns; clear ns; have g0 := n0; clear n0; have g1 := n1; clear n1; have g2 := n2; clear n2; have g3 := n3; clear n3; have z0 := nz0; clear nz0; have z1 := nz1; clear nz1) | (go_at_call 53; refine (lowest_any _ _ (by omega) (by omega) (by omega) (by omega) _ (hT.ext Ext.auK)).mono ?_; rintro rv w1 ⟨rfl, hb⟩; have ns : w.heap.size + 1 < w1.heap.size := hb.ltK; have n0 : w1.cell? ⟨w.heap.size, 0, none⟩ = some (.int .i64 e) := hb.cellK; have n1 : w1.cell? ⟨w.heap.size, 1, none⟩ = some (.int .i64 f) := hb.cellK; have n2 : w1.cell? ⟨w.heap.size + 1, 0, none⟩ = some (.int .i64 0) := hb.cellK; have n3 : w1.cell? ⟨w.heap.size + 1, 1, none⟩ = some (.int .i64 0) := hb.cellK; have nz0 : w1.frozen? ⟨w.heap.size + 1, 0, none⟩ = false := hb.frzK; have nz1 : w1.frozen? ⟨w.heap.size + 1, 1, none⟩ = false := hb.frzK; (first | (have nx := Ext.trans hx hb; clear hx) | (have nx := Ext.trans (hx.alloc _) hb; clear hx) | (have nx := Ext.trans hx.drew hb; clear hx) | have nx := hb); clear hb; try clear hs; try clear g0; try clear g1; try clear g2; try clear g3; try clear z0; try clear z1; have hx := nx; clear nx; have hs := ns; clear ns; have g0 := n0; clear n0; have g1 := n1; clear n1; have g2 := n2; clear n2; have g3 := n3; clear n3; have z0 := nz0; clear nz0; have z1 := nz1; clear nz1))
  exact bodyPost_ret (v := .tuple #[two (nfN 1 (unV e f)) (nfE 1 (unV e f)), .bool (nfB 1 (unV e f))]) (by simp [results, Tryd.results24, go_sem, *]) rfl ⟨by rw [E.out.1, E.out.2.1, E.out.2.2], Ext.auK⟩
end Go.Proofs.YtcbkhlaiefiieabDoor

namespace Go.Proofs.YtcbkhlaiefiieabDoor
open Go Go.RowKit
set_option linter.unusedSimpArgs false
set_option linter.unusedVariables false

theorem pr_no {na ea nb eb : Int} (h : ¬ plV na + plV nb ≤ 60) : prB na ea nb eb = false ∧ prN na ea nb eb = 0 ∧ prE na ea nb eb = 0 := by
  unfold prB prN prE; rw [if_neg h, if_neg h]; simp [h]

theorem pr_yes {na ea nb eb : Int} (h : plV na + plV nb ≤ 60) : prB na ea nb eb = nfB (na * nb) (ea + eb) ∧ prN na ea nb eb = nfN (na * nb) (ea + eb) ∧ prE na ea nb eb = nfE (na * nb) (ea + eb) := by
  unfold prB prN prE; rw [if_pos h, if_pos h]; simp [h]

theorem ret_d {a b a' b' : Int} {c c' : Bool} (hc : c = c') (ha : a = a') (hb : b = b') : Ending.returned (.tuple #[two a b, .bool c]) = .returned (.tuple #[two a' b', .bool c']) := by rw [ha, hb, hc]

set_option maxHeartbeats 1600000 in
theorem rdTimes_any (na ea nb eb : Int) (ha : dyB na ea = true) (hb : dyB nb eb = true) (w : World) : Calls Tryd.prog 65 #[two na ea, two nb eb] w fun rv w' => rv = .returned (.tuple #[two (prN na ea nb eb) (prE na ea nb eb), .bool (prB na ea nb eb)]) ∧ Ext w w' := by
  obtain ⟨⟨a1, a2, a3, a4⟩, _⟩ := dy_iff.1 ha
  obtain ⟨⟨b1, b2, b3, b4⟩, _⟩ := dy_iff.1 hb
  have pa := (top_bd ha).2.2
  have pb := (top_bd hb).2.2
  have pa1 := pa.1; have pa2 := pa.2; have pb1 := pb.1; have pb2 := pb.2
  clear pa pb
  have k1 : IntKind.i64.wrap (plV na + plV nb) = plV na + plV nb := IntWalk.i64_in _ (by omega)
  by_cases h : plV na + plV nb ≤ 60
  · obtain ⟨e1, e2, e3⟩ := pr_yes (ea := ea) (eb := eb) h
    have E1 := Lib.hid e1; have E2 := Lib.hid e2; have E3 := Lib.hid e3; clear e1 e2 e3
    have bd := pr_bd a1 a2 b1 b2 (by omega)
    have bd1 := bd.1; have bd2 := bd.2; clear bd
    have k2 : IntKind.i64.wrap (na * nb) = na * nb := IntWalk.i64_in _ (by omega)
    have k3 : IntKind.i64.wrap (ea + eb) = ea + eb := IntWalk.i64_in _ (by omega)
    go_enter Tryd.func65, Tryd.ntmps65
    go_wp2_with fail
    go_region_held3 (fun w' => w'.cell? ⟨w.heap.size, 0, none⟩ = some (.int .i64 na) ∧ w'.cell? ⟨w.heap.size, 1, none⟩ = some (.int .i64 ea) ∧ w'.cell? ⟨w.heap.size + 1, 0, none⟩ = some (.int .i64 nb) ∧ w'.cell? ⟨w.heap.size + 1, 1, none⟩ = some (.int .i64 eb) ∧ w.heap.size + 2 < w'.heap.size) ((refine ⟨?_, ?_, ?_, ?_, ?_⟩ <;> first | with_reducible assumption | ((rw [cell_setRow_far _ _ _ _ _ (by omega)]); with_reducible assumption) | ((rw [setRow_size]); with_reducible assumption) | ((repeat rw [World.cell?_setCell_far _ _ _ _ (by simp)]); with_reducible assumption) | (simp; done) | (simp [World.setCell]; first | done | omega) | (simp [go_sem, World.cell?_alloc_past, World.cell?_setCell_far, *]; done))) ((first | (go_at_call 79; refine (l1Abs_nat _ (by omega) (by omega) _).mono ?_; rintro rv w1 ⟨rfl, rfl⟩) | (go_at_call 95; refine (rdBits_any _ (by omega) (by omega) _).mono ?_; rintro rv w1 ⟨rfl, rfl⟩; (try rw [plV_abs]))))
    go_wp2_with (first | (go_at_call 51; refine (rdShort_any _ _ (by omega) (by omega) (by omega) (by omega) _).mono ?_; rintro rv w1 ⟨rfl, hb⟩; have ns : w.heap.size + 2 < w1.heap.size := hb.ltK; have n0 : w1.cell? ⟨w.heap.size, 0, none⟩ = some (.int .i64 na) := hb.cellK; have n1 : w1.cell? ⟨w.heap.size, 1, none⟩ = some (.int .i64 ea) := hb.cellK; have n2 : w1.cell? ⟨w.heap.size + 1, 0, none⟩ = some (.int .i64 nb) := hb.cellK; have n3 : w1.cell? ⟨w.heap.size + 1, 1, none⟩ = some (.int .i64 eb) := hb.cellK; have n4 : w1.cell? ⟨w.heap.size + 2, 0, none⟩ = some (.int .i64 0) := hb.cellK; have n5 : w1.cell? ⟨w.heap.size + 2, 1, none⟩ = some (.int .i64 0) := hb.cellK; have nz0 : w1.frozen? ⟨w.heap.size + 2, 0, none⟩ = false := hb.frzK; have nz1 : w1.frozen? ⟨w.heap.size + 2, 1, none⟩ = false := hb.frzK; (first | (have nx := Ext.trans hx hb; clear hx) | (have nx := Ext.trans (hx.alloc _) hb; clear hx) | (have nx := Ext.trans hx.drew hb; clear hx) | have nx := hb); clear hb; try clear hs; try clear g0; try clear g1; try clear g2; try clear g3; try clear g4; try clear g5; try clear z0; try clear z1; have hx := nx; clear nx; have hs := ns; clear ns; have g0 := n0; clear n0; have g1 := n1; clear n1; have g2 := n2; clear n2; have g3 := n3; clear n3; have g4 := n4; clear n4; have g5 := n5; clear n5; have z0 := nz0; clear nz0; have z1 := nz1; clear nz1) | (go_at_call 50; refine (rdIf_any _ _ _).mono ?_; rintro rv w1 ⟨rfl, hb⟩; have ns : w.heap.size + 2 < w1.heap.size := hb.ltK; have n0 : w1.cell? ⟨w.heap.size, 0, none⟩ = some (.int .i64 na) := hb.cellK; have n1 : w1.cell? ⟨w.heap.size, 1, none⟩ = some (.int .i64 ea) := hb.cellK; have n2 : w1.cell? ⟨w.heap.size + 1, 0, none⟩ = some (.int .i64 nb) := hb.cellK; have n3 : w1.cell? ⟨w.heap.size + 1, 1, none⟩ = some (.int .i64 eb) := hb.cellK; have n4 : w1.cell? ⟨w.heap.size + 2, 0, none⟩ = some (.int .i64 0) := hb.cellK; have n5 : w1.cell? ⟨w.heap.size + 2, 1, none⟩ = some (.int .i64 0) := hb.cellK; have nz0 : w1.frozen? ⟨w.heap.size + 2, 0, none⟩ = false := hb.frzK; have nz1 : w1.frozen? ⟨w.heap.size + 2, 1, none⟩ = false := hb.frzK; (first | (have nx := Ext.trans hx hb; clear hx) | (have nx := Ext.trans (hx.alloc _) hb; clear hx) | (have nx := Ext.trans hx.drew hb; clear hx) | have nx := hb); clear hb; try clear hs; try clear g0; try clear g1; try clear g2; try clear g3; try clear g4; try clear g5; try clear z0; try clear z1; have hx := nx; clear nx; have hs := ns; clear ns; have g0 := n0; clear n0; have g1 := n1; clear n1; have g2 := n2; clear n2; have g3 := n3; clear n3; have g4 := n4; clear n4; have g5 := n5; clear n5; have z0 := nz0; clear nz0; have z1 := nz1; clear nz1))
    exact bodyPost_ret (v := .tuple #[two (nfN (na * nb) (ea + eb)) (nfE (na * nb) (ea + eb)), .bool (nfB (na * nb) (ea + eb))]) (by simp [results, Tryd.results65, go_sem, *]) rfl ⟨ret_d E1.out.symm E2.out.symm E3.out.symm, Ext.auK⟩
  · obtain ⟨e1, e2, e3⟩ := pr_no (ea := ea) (eb := eb) h
    have E1 := Lib.hid e1; have E2 := Lib.hid e2; have E3 := Lib.hid e3; clear e1 e2 e3
    go_enter Tryd.func65, Tryd.ntmps65
    go_wp2_with fail
    go_region_held3 (fun w' => w'.cell? ⟨w.heap.size, 0, none⟩ = some (.int .i64 na) ∧ w'.cell? ⟨w.heap.size, 1, none⟩ = some (.int .i64 ea) ∧ w'.cell? ⟨w.heap.size + 1, 0, none⟩ = some (.int .i64 nb) ∧ w'.cell? ⟨w.heap.size + 1, 1, none⟩ = some (.int .i64 eb) ∧ w.heap.size + 2 < w'.heap.size) ((refine ⟨?_, ?_, ?_, ?_, ?_⟩ <;> first | with_reducible assumption | ((rw [cell_setRow_far _ _ _ _ _ (by omega)]); with_reducible assumption) | ((rw [setRow_size]); with_reducible assumption) | ((repeat rw [World.cell?_setCell_far _ _ _ _ (by simp)]); with_reducible assumption) | (simp; done) | (simp [World.setCell]; first | done | omega) | (simp [go_sem, World.cell?_alloc_past, World.cell?_setCell_far, *]; done))) ((first | (go_at_call 79; refine (l1Abs_nat _ (by omega) (by omega) _).mono ?_; rintro rv w1 ⟨rfl, rfl⟩) | (go_at_call 95; refine (rdBits_any _ (by omega) (by omega) _).mono ?_; rintro rv w1 ⟨rfl, rfl⟩; (try rw [plV_abs]))))
    go_wp2_with fail
    exact bodyPost_ret (v := .tuple #[two 0 0, .bool false]) (by simp [results, Tryd.results65, go_sem, *]) rfl ⟨ret_d E1.out.symm E2.out.symm E3.out.symm, Ext.auK⟩

theorem sTimesDyadic_no (na ea nb eb : Int) (hg : dy2B na ea nb eb = false) (w : World) : Calls Tryd.prog 28 #[two na ea, two nb eb] w fun rv w' => rv = .returned (.tuple #[two 0 0, .bool false]) ∧ Ext w w' := by
  cases ha : dyB na ea
  · go_enter Tryd.func28, Tryd.ntmps28
    go_wp2_with (go_at_call 61; refine (rdGood_any _ _ _).mono ?_; rintro rv w1 ⟨rfl, hb⟩; have ns : w.heap.size + 2 < w1.heap.size := hb.ltK; have n0 : w1.cell? ⟨w.heap.size, 0, none⟩ = some (.int .i64 na) := hb.cellK; have n1 : w1.cell? ⟨w.heap.size, 1, none⟩ = some (.int .i64 ea) := hb.cellK; have n2 : w1.cell? ⟨w.heap.size + 1, 0, none⟩ = some (.int .i64 nb) := hb.cellK; have n3 : w1.cell? ⟨w.heap.size + 1, 1, none⟩ = some (.int .i64 eb) := hb.cellK; have n4 : w1.cell? ⟨w.heap.size + 2, 0, none⟩ = some (.int .i64 0) := hb.cellK; have n5 : w1.cell? ⟨w.heap.size + 2, 1, none⟩ = some (.int .i64 0) := hb.cellK; have nz0 : w1.frozen? ⟨w.heap.size + 2, 0, none⟩ = false := hb.frzK; have nz1 : w1.frozen? ⟨w.heap.size + 2, 1, none⟩ = false := hb.frzK; (first | (have nx := Ext.trans hx hb; clear hx) | (have nx := Ext.trans (hx.alloc _) hb; clear hx) | (have nx := Ext.trans hx.drew hb; clear hx) | have nx := hb); clear hb; try clear hs; try clear g0; try clear g1; try clear g2; try clear g3; try clear g4; try clear g5; try clear z0; try clear z1; have hx := nx; clear nx; have hs := ns; clear ns; have g0 := n0; clear n0; have g1 := n1; clear n1; have g2 := n2; clear n2; have g3 := n3; clear n3; have g4 := n4; clear n4; have g5 := n5; clear n5; have z0 := nz0; clear nz0; have z1 := nz1; clear nz1)
    exact bodyPost_ret (v := .tuple #[two 0 0, .bool false]) (by simp [results, Tryd.results28, go_sem, *]) rfl ⟨rfl, Ext.auK⟩
  · have hb0 : dyB nb eb = false := by unfold dy2B at hg; rw [ha] at hg; simpa using hg
    clear hg
    go_enter Tryd.func28, Tryd.ntmps28
    go_wp2_with (go_at_call 61; refine (rdGood_any _ _ _).mono ?_; rintro rv w1 ⟨rfl, hb⟩; have ns : w.heap.size + 2 < w1.heap.size := hb.ltK; have n0 : w1.cell? ⟨w.heap.size, 0, none⟩ = some (.int .i64 na) := hb.cellK; have n1 : w1.cell? ⟨w.heap.size, 1, none⟩ = some (.int .i64 ea) := hb.cellK; have n2 : w1.cell? ⟨w.heap.size + 1, 0, none⟩ = some (.int .i64 nb) := hb.cellK; have n3 : w1.cell? ⟨w.heap.size + 1, 1, none⟩ = some (.int .i64 eb) := hb.cellK; have n4 : w1.cell? ⟨w.heap.size + 2, 0, none⟩ = some (.int .i64 0) := hb.cellK; have n5 : w1.cell? ⟨w.heap.size + 2, 1, none⟩ = some (.int .i64 0) := hb.cellK; have nz0 : w1.frozen? ⟨w.heap.size + 2, 0, none⟩ = false := hb.frzK; have nz1 : w1.frozen? ⟨w.heap.size + 2, 1, none⟩ = false := hb.frzK; (first | (have nx := Ext.trans hx hb; clear hx) | (have nx := Ext.trans (hx.alloc _) hb; clear hx) | (have nx := Ext.trans hx.drew hb; clear hx) | have nx := hb); clear hb; try clear hs; try clear g0; try clear g1; try clear g2; try clear g3; try clear g4; try clear g5; try clear z0; try clear z1; have hx := nx; clear nx; have hs := ns; clear ns; have g0 := n0; clear n0; have g1 := n1; clear n1; have g2 := n2; clear n2; have g3 := n3; clear n3; have g4 := n4; clear n4; have g5 := n5; clear n5; have z0 := nz0; clear nz0; have z1 := nz1; clear nz1)
    exact bodyPost_ret (v := .tuple #[two 0 0, .bool false]) (by simp [results, Tryd.results28, go_sem, *]) rfl ⟨rfl, Ext.auK⟩

theorem sTimesDyadic_yes (na ea nb eb : Int) (hg : dy2B na ea nb eb = true) (w : World) : Calls Tryd.prog 28 #[two na ea, two nb eb] w fun rv w' => rv = .returned (.tuple #[two (prN na ea nb eb) (prE na ea nb eb), .bool (prB na ea nb eb)]) ∧ Ext w w' := by
  obtain ⟨ha, hb⟩ := dy2_iff.1 hg
  go_enter Tryd.func28, Tryd.ntmps28
  go_wp2_with (first | (go_at_call 61; refine (rdGood_any _ _ _).mono ?_; rintro rv w1 ⟨rfl, hb⟩; have ns : w.heap.size + 2 < w1.heap.size := hb.ltK; have n0 : w1.cell? ⟨w.heap.size, 0, none⟩ = some (.int .i64 na) := hb.cellK; have n1 : w1.cell? ⟨w.heap.size, 1, none⟩ = some (.int .i64 ea) := hb.cellK; have n2 : w1.cell? ⟨w.heap.size + 1, 0, none⟩ = some (.int .i64 nb) := hb.cellK; have n3 : w1.cell? ⟨w.heap.size + 1, 1, none⟩ = some (.int .i64 eb) := hb.cellK; have n4 : w1.cell? ⟨w.heap.size + 2, 0, none⟩ = some (.int .i64 0) := hb.cellK; have n5 : w1.cell? ⟨w.heap.size + 2, 1, none⟩ = some (.int .i64 0) := hb.cellK; have nz0 : w1.frozen? ⟨w.heap.size + 2, 0, none⟩ = false := hb.frzK; have nz1 : w1.frozen? ⟨w.heap.size + 2, 1, none⟩ = false := hb.frzK; (first | (have nx := Ext.trans hx hb; clear hx) | (have nx := Ext.trans (hx.alloc _) hb; clear hx) | (have nx := Ext.trans hx.drew hb; clear hx) | have nx := hb); clear hb; try clear hs; try clear g0; try clear g1; try clear g2; try clear g3; try clear g4; try clear g5; try clear z0; try clear z1; have hx := nx; clear nx; have hs := ns; clear ns; have g0 := n0; clear n0; have g1 := n1; clear n1; have g2 := n2; clear n2; have g3 := n3; clear n3; have g4 := n4; clear n4; have g5 := n5; clear n5; have z0 := nz0; clear nz0; have z1 := nz1; clear nz1) | (go_at_call 65; refine (rdTimes_any na ea nb eb ha hb _).mono ?_; rintro rv w1 ⟨rfl, hb⟩; have ns : w.heap.size + 2 < w1.heap.size := hb.ltK; have n0 : w1.cell? ⟨w.heap.size, 0, none⟩ = some (.int .i64 na) := hb.cellK; have n1 : w1.cell? ⟨w.heap.size, 1, none⟩ = some (.int .i64 ea) := hb.cellK; have n2 : w1.cell? ⟨w.heap.size + 1, 0, none⟩ = some (.int .i64 nb) := hb.cellK; have n3 : w1.cell? ⟨w.heap.size + 1, 1, none⟩ = some (.int .i64 eb) := hb.cellK; have n4 : w1.cell? ⟨w.heap.size + 2, 0, none⟩ = some (.int .i64 0) := hb.cellK; have n5 : w1.cell? ⟨w.heap.size + 2, 1, none⟩ = some (.int .i64 0) := hb.cellK; have nz0 : w1.frozen? ⟨w.heap.size + 2, 0, none⟩ = false := hb.frzK; have nz1 : w1.frozen? ⟨w.heap.size + 2, 1, none⟩ = false := hb.frzK; (first | (have nx := Ext.trans hx hb; clear hx) | (have nx := Ext.trans (hx.alloc _) hb; clear hx) | (have nx := Ext.trans hx.drew hb; clear hx) | have nx := hb); clear hb; try clear hs; try clear g0; try clear g1; try clear g2; try clear g3; try clear g4; try clear g5; try clear z0; try clear z1; have hx := nx; clear nx; have hs := ns; clear ns; have g0 := n0; clear n0; have g1 := n1; clear n1; have g2 := n2; clear n2; have g3 := n3; clear n3; have g4 := n4; clear n4; have g5 := n5; clear n5; have z0 := nz0; clear nz0; have z1 := nz1; clear nz1))
  exact bodyPost_ret (v := .tuple #[two (prN na ea nb eb) (prE na ea nb eb), .bool (prB na ea nb eb)]) (by simp [results, Tryd.results28, go_sem, *]) rfl ⟨rfl, Ext.auK⟩

set_option maxHeartbeats 4000000 in
theorem iTimesDyadic_no (na ea nb eb : Int) (hg : dy2B na ea nb eb = false) (w : World) : Calls Tryd.prog 29 #[two na ea, two nb eb] w fun rv w' => rv = .returned (.tuple #[two 0 0, .bool false]) ∧ Ext w w' := by
  cases ha : dyB na ea
  · go_enter Tryd.func29, Tryd.ntmps29
    go_wp2_with fail
    first | (go_region_with ((go_at_call 63; refine (iIsDyadic_any _ _ _).mono ?_; rintro rv w1 ⟨rfl, hb⟩; have ns : w.heap.size + 2 < w1.heap.size := hb.ltK; have n0 : w1.cell? ⟨w.heap.size, 0, none⟩ = some (.int .i64 na) := hb.cellK; have n1 : w1.cell? ⟨w.heap.size, 1, none⟩ = some (.int .i64 ea) := hb.cellK; have n2 : w1.cell? ⟨w.heap.size + 1, 0, none⟩ = some (.int .i64 nb) := hb.cellK; have n3 : w1.cell? ⟨w.heap.size + 1, 1, none⟩ = some (.int .i64 eb) := hb.cellK; have n4 : w1.cell? ⟨w.heap.size + 2, 0, none⟩ = some (.int .i64 0) := hb.cellK; have n5 : w1.cell? ⟨w.heap.size + 2, 1, none⟩ = some (.int .i64 0) := hb.cellK; have nz0 : w1.frozen? ⟨w.heap.size + 2, 0, none⟩ = false := hb.frzK; have nz1 : w1.frozen? ⟨w.heap.size + 2, 1, none⟩ = false := hb.frzK; (first | (have nx := Ext.trans hx hb; clear hx) | (have nx := Ext.trans (hx.alloc _) hb; clear hx) | (have nx := Ext.trans hx.drew hb; clear hx) | have nx := hb); clear hb; try clear hs; try clear g0; try clear g1; try clear g2; try clear g3; try clear g4; try clear g5; try clear z0; try clear z1; have hx := nx; clear nx; have hs := ns; clear ns; have g0 := n0; clear n0; have g1 := n1; clear n1; have g2 := n2; clear n2; have g3 := n3; clear n3; have g4 := n4; clear n4; have g5 := n5; clear n5; have z0 := nz0; clear nz0; have z1 := nz1; clear nz1))) | fail
    all_goals
      go_wp2_with fail
      exact bodyPost_ret (v := .tuple #[two 0 0, .bool false]) (by simp [results, Tryd.results29, go_sem, *]) rfl ⟨rfl, Ext.auK⟩
  · have hb0 : dyB nb eb = false := by unfold dy2B at hg; rw [ha] at hg; simpa using hg
    clear hg
    go_enter Tryd.func29, Tryd.ntmps29
    go_wp2_with fail
    first | (go_region_with ((go_at_call 63; refine (iIsDyadic_any _ _ _).mono ?_; rintro rv w1 ⟨rfl, hb⟩; have ns : w.heap.size + 2 < w1.heap.size := hb.ltK; have n0 : w1.cell? ⟨w.heap.size, 0, none⟩ = some (.int .i64 na) := hb.cellK; have n1 : w1.cell? ⟨w.heap.size, 1, none⟩ = some (.int .i64 ea) := hb.cellK; have n2 : w1.cell? ⟨w.heap.size + 1, 0, none⟩ = some (.int .i64 nb) := hb.cellK; have n3 : w1.cell? ⟨w.heap.size + 1, 1, none⟩ = some (.int .i64 eb) := hb.cellK; have n4 : w1.cell? ⟨w.heap.size + 2, 0, none⟩ = some (.int .i64 0) := hb.cellK; have n5 : w1.cell? ⟨w.heap.size + 2, 1, none⟩ = some (.int .i64 0) := hb.cellK; have nz0 : w1.frozen? ⟨w.heap.size + 2, 0, none⟩ = false := hb.frzK; have nz1 : w1.frozen? ⟨w.heap.size + 2, 1, none⟩ = false := hb.frzK; (first | (have nx := Ext.trans hx hb; clear hx) | (have nx := Ext.trans (hx.alloc _) hb; clear hx) | (have nx := Ext.trans hx.drew hb; clear hx) | have nx := hb); clear hb; try clear hs; try clear g0; try clear g1; try clear g2; try clear g3; try clear g4; try clear g5; try clear z0; try clear z1; have hx := nx; clear nx; have hs := ns; clear ns; have g0 := n0; clear n0; have g1 := n1; clear n1; have g2 := n2; clear n2; have g3 := n3; clear n3; have g4 := n4; clear n4; have g5 := n5; clear n5; have z0 := nz0; clear nz0; have z1 := nz1; clear nz1))) | fail
    all_goals
      go_wp2_with fail
      exact bodyPost_ret (v := .tuple #[two 0 0, .bool false]) (by simp [results, Tryd.results29, go_sem, *]) rfl ⟨rfl, Ext.auK⟩

set_option maxHeartbeats 1600000 in
theorem iTimesDyadic_yes (na ea nb eb : Int) (hg : dy2B na ea nb eb = true) (w : World) (hT : TW w) : Calls Tryd.prog 29 #[two na ea, two nb eb] w fun rv w' => rv = .returned (.tuple #[two (prN na ea nb eb) (prE na ea nb eb), .bool (prB na ea nb eb)]) ∧ Ext w w' := by
  obtain ⟨ha, hb⟩ := dy2_iff.1 hg
  obtain ⟨⟨a1, a2, a3, a4⟩, _⟩ := dy_iff.1 ha
  obtain ⟨⟨b1, b2, b3, b4⟩, _⟩ := dy_iff.1 hb
  have pa := (top_bd ha).2.2
  have pb := (top_bd hb).2.2
  have pa1 := pa.1; have pa2 := pa.2; have pb1 := pb.1; have pb2 := pb.2
  clear pa pb
  have k1 : IntKind.i64.wrap (plV na + plV nb) = plV na + plV nb := IntWalk.i64_in _ (by omega)
  by_cases h : plV na + plV nb ≤ 62
  · have hv : nfB (na * nb) (ea + eb) = prB na ea nb eb ∧ nfN (na * nb) (ea + eb) = prN na ea nb eb ∧ nfE (na * nb) (ea + eb) = prE na ea nb eb := by
      by_cases h6 : plV na + plV nb ≤ 60
      · obtain ⟨e1, e2, e3⟩ := pr_yes (ea := ea) (eb := eb) h6
        exact ⟨e1.symm, e2.symm, e3.symm⟩
      · obtain ⟨e1, e2, e3⟩ := pr_no (ea := ea) (eb := eb) h6
        have f1 := pr_far ha hb h h6
        have f0 : na * nb ≠ 0 := by
          intro hz
          rw [hz] at f1
          have := (nf_zero (S := 0) (l := ea + eb) rfl).1
          rw [this] at f1; cases f1
        rw [e1, e2, e3]
        have f2 : dyB (odV (na * nb)) (ea + eb + tzV (na * nb)) = false := by
          unfold nfB at f1
          simp at f1
          exact f1.2
        exact nf_no f0 f2
    have HV := Lib.hid hv; clear hv
    have bd := pr_bd a1 a2 b1 b2 h
    have bd1 := bd.1; have bd2 := bd.2; clear bd
    have k2 : IntKind.i64.wrap (na * nb) = na * nb := IntWalk.i64_in _ (by omega)
    have k3 : IntKind.i64.wrap (ea + eb) = ea + eb := IntWalk.i64_in _ (by omega)
    go_enter Tryd.func29, Tryd.ntmps29
    go_wp2_with fail
    go_region_held3 (fun w' => w'.cell? ⟨w.heap.size, 0, none⟩ = some (.int .i64 na) ∧ w'.cell? ⟨w.heap.size, 1, none⟩ = some (.int .i64 ea) ∧ w'.cell? ⟨w.heap.size + 1, 0, none⟩ = some (.int .i64 nb) ∧ w'.cell? ⟨w.heap.size + 1, 1, none⟩ = some (.int .i64 eb) ∧ w.heap.size + 2 < w'.heap.size) ((refine ⟨?_, ?_, ?_, ?_, ?_⟩ <;> first | with_reducible assumption | ((rw [cell_setRow_far _ _ _ _ _ (by omega)]); with_reducible assumption) | ((rw [setRow_size]); with_reducible assumption) | ((repeat rw [World.cell?_setCell_far _ _ _ _ (by simp)]); with_reducible assumption) | (simp; done) | (simp [World.setCell]; first | done | omega) | (simp [go_sem, World.cell?_alloc_past, World.cell?_setCell_far, *]; done))) ((first | (go_at_call 63; refine (iIsDyadic_any _ _ _).mono ?_; rintro rv w1 ⟨rfl, hb⟩; have ns : w.heap.size + 2 < w1.heap.size := hb.ltK; have n0 : w1.cell? ⟨w.heap.size, 0, none⟩ = some (.int .i64 na) := hb.cellK; have n1 : w1.cell? ⟨w.heap.size, 1, none⟩ = some (.int .i64 ea) := hb.cellK; have n2 : w1.cell? ⟨w.heap.size + 1, 0, none⟩ = some (.int .i64 nb) := hb.cellK; have n3 : w1.cell? ⟨w.heap.size + 1, 1, none⟩ = some (.int .i64 eb) := hb.cellK; have n4 : w1.cell? ⟨w.heap.size + 2, 0, none⟩ = some (.int .i64 0) := hb.cellK; have n5 : w1.cell? ⟨w.heap.size + 2, 1, none⟩ = some (.int .i64 0) := hb.cellK; have nz0 : w1.frozen? ⟨w.heap.size + 2, 0, none⟩ = false := hb.frzK; have nz1 : w1.frozen? ⟨w.heap.size + 2, 1, none⟩ = false := hb.frzK; (first | (have nx := Ext.trans hx hb; clear hx) | (have nx := Ext.trans (hx.alloc _) hb; clear hx) | (have nx := Ext.trans hx.drew hb; clear hx) | have nx := hb); clear hb; try clear hs; try clear g0; try clear g1; try clear g2; try clear g3; try clear g4; try clear g5; try clear z0; try clear z1; have hx := nx; clear nx; have hs := ns; clear ns; have g0 := n0; clear n0; have g1 := n1; clear n1; have g2 := n2; clear n2; have g3 := n3; clear n3; have g4 := n4; clear n4; have g5 := n5; clear n5; have z0 := nz0; clear nz0; have z1 := nz1; clear nz1) | (go_at_call 66; refine (placesOf_any _ (by omega) (by omega) _).mono ?_; rintro rv w1 ⟨rfl, rfl⟩)))
    go_wp2_with (go_at_call 53; refine (lowest_any _ _ (by omega) (by omega) (by omega) (by omega) _ (hT.ext Ext.auK)).mono ?_; rintro rv w1 ⟨rfl, hb⟩; have ns : w.heap.size + 2 < w1.heap.size := hb.ltK; have n0 : w1.cell? ⟨w.heap.size, 0, none⟩ = some (.int .i64 na) := hb.cellK; have n1 : w1.cell? ⟨w.heap.size, 1, none⟩ = some (.int .i64 ea) := hb.cellK; have n2 : w1.cell? ⟨w.heap.size + 1, 0, none⟩ = some (.int .i64 nb) := hb.cellK; have n3 : w1.cell? ⟨w.heap.size + 1, 1, none⟩ = some (.int .i64 eb) := hb.cellK; have n4 : w1.cell? ⟨w.heap.size + 2, 0, none⟩ = some (.int .i64 0) := hb.cellK; have n5 : w1.cell? ⟨w.heap.size + 2, 1, none⟩ = some (.int .i64 0) := hb.cellK; have nz0 : w1.frozen? ⟨w.heap.size + 2, 0, none⟩ = false := hb.frzK; have nz1 : w1.frozen? ⟨w.heap.size + 2, 1, none⟩ = false := hb.frzK; (first | (have nx := Ext.trans hx hb; clear hx) | (have nx := Ext.trans (hx.alloc _) hb; clear hx) | (have nx := Ext.trans hx.drew hb; clear hx) | have nx := hb); clear hb; try clear hs; try clear g0; try clear g1; try clear g2; try clear g3; try clear g4; try clear g5; try clear z0; try clear z1; have hx := nx; clear nx; have hs := ns; clear ns; have g0 := n0; clear n0; have g1 := n1; clear n1; have g2 := n2; clear n2; have g3 := n3; clear n3; have g4 := n4; clear n4; have g5 := n5; clear n5; have z0 := nz0; clear nz0; have z1 := nz1; clear nz1)
    exact bodyPost_ret (v := .tuple #[two (nfN (na * nb) (ea + eb)) (nfE (na * nb) (ea + eb)), .bool (nfB (na * nb) (ea + eb))]) (by simp [results, Tryd.results29, go_sem, *]) rfl ⟨ret_d HV.out.1 HV.out.2.1 HV.out.2.2, Ext.auK⟩
  · obtain ⟨e1, e2, e3⟩ := pr_no (ea := ea) (eb := eb) (na := na) (nb := nb) (by omega)
    have E1 := Lib.hid e1; have E2 := Lib.hid e2; have E3 := Lib.hid e3; clear e1 e2 e3
    go_enter Tryd.func29, Tryd.ntmps29
    go_wp2_with fail
    go_region_held3 (fun w' => w'.cell? ⟨w.heap.size, 0, none⟩ = some (.int .i64 na) ∧ w'.cell? ⟨w.heap.size, 1, none⟩ = some (.int .i64 ea) ∧ w'.cell? ⟨w.heap.size + 1, 0, none⟩ = some (.int .i64 nb) ∧ w'.cell? ⟨w.heap.size + 1, 1, none⟩ = some (.int .i64 eb) ∧ w.heap.size + 2 < w'.heap.size) ((refine ⟨?_, ?_, ?_, ?_, ?_⟩ <;> first | with_reducible assumption | ((rw [cell_setRow_far _ _ _ _ _ (by omega)]); with_reducible assumption) | ((rw [setRow_size]); with_reducible assumption) | ((repeat rw [World.cell?_setCell_far _ _ _ _ (by simp)]); with_reducible assumption) | (simp; done) | (simp [World.setCell]; first | done | omega) | (simp [go_sem, World.cell?_alloc_past, World.cell?_setCell_far, *]; done))) ((first | (go_at_call 63; refine (iIsDyadic_any _ _ _).mono ?_; rintro rv w1 ⟨rfl, hb⟩; have ns : w.heap.size + 2 < w1.heap.size := hb.ltK; have n0 : w1.cell? ⟨w.heap.size, 0, none⟩ = some (.int .i64 na) := hb.cellK; have n1 : w1.cell? ⟨w.heap.size, 1, none⟩ = some (.int .i64 ea) := hb.cellK; have n2 : w1.cell? ⟨w.heap.size + 1, 0, none⟩ = some (.int .i64 nb) := hb.cellK; have n3 : w1.cell? ⟨w.heap.size + 1, 1, none⟩ = some (.int .i64 eb) := hb.cellK; have n4 : w1.cell? ⟨w.heap.size + 2, 0, none⟩ = some (.int .i64 0) := hb.cellK; have n5 : w1.cell? ⟨w.heap.size + 2, 1, none⟩ = some (.int .i64 0) := hb.cellK; have nz0 : w1.frozen? ⟨w.heap.size + 2, 0, none⟩ = false := hb.frzK; have nz1 : w1.frozen? ⟨w.heap.size + 2, 1, none⟩ = false := hb.frzK; (first | (have nx := Ext.trans hx hb; clear hx) | (have nx := Ext.trans (hx.alloc _) hb; clear hx) | (have nx := Ext.trans hx.drew hb; clear hx) | have nx := hb); clear hb; try clear hs; try clear g0; try clear g1; try clear g2; try clear g3; try clear g4; try clear g5; try clear z0; try clear z1; have hx := nx; clear nx; have hs := ns; clear ns; have g0 := n0; clear n0; have g1 := n1; clear n1; have g2 := n2; clear n2; have g3 := n3; clear n3; have g4 := n4; clear n4; have g5 := n5; clear n5; have z0 := nz0; clear nz0; have z1 := nz1; clear nz1) | (go_at_call 66; refine (placesOf_any _ (by omega) (by omega) _).mono ?_; rintro rv w1 ⟨rfl, rfl⟩)))
    go_wp2_with fail
    exact bodyPost_ret (v := .tuple #[two 0 0, .bool false]) (by simp [results, Tryd.results29, go_sem, *]) rfl ⟨ret_d E1.out.symm E2.out.symm E3.out.symm, Ext.auK⟩
end Go.Proofs.YtcbkhlaiefiieabDoor

namespace Go.Proofs.YtcbkhlaiefiieabDoor
open Go Go.RowKit
set_option linter.unusedSimpArgs false
set_option linter.unusedVariables false

theorem su_za {na ea nb eb : Int} (h : na = 0) : suB na ea nb eb = true ∧ suN na ea nb eb = nb ∧ suE na ea nb eb = eb := by
  unfold suB suN suE; rw [if_pos h, if_pos h]; simp [h]

theorem su_zb {na ea nb eb : Int} (h0 : na ≠ 0) (h : nb = 0) : suB na ea nb eb = true ∧ suN na ea nb eb = na ∧ suE na ea nb eb = ea := by
  unfold suB suN suE; rw [if_neg h0, if_neg h0, if_pos h, if_pos h]; simp [h]

theorem su_no {na ea nb eb : Int} (h0 : na ≠ 0) (h1 : nb ≠ 0) (h : rmB 60 na ea nb eb = false) : suB na ea nb eb = false ∧ suN na ea nb eb = 0 ∧ suE na ea nb eb = 0 := by
  unfold suB suN suE; rw [if_neg h0, if_neg h0, if_neg h1, if_neg h1, h]; simp [h0, h1]

theorem su_yes {na ea nb eb : Int} (h0 : na ≠ 0) (h1 : nb ≠ 0) (h : rmB 60 na ea nb eb = true) : suB na ea nb eb = nfB (suS na ea nb eb) (suL ea eb) ∧ suN na ea nb eb = nfN (suS na ea nb eb) (suL ea eb) ∧ suE na ea nb eb = nfE (suS na ea nb eb) (suL ea eb) := by
  unfold suB suN suE; rw [if_neg h0, if_neg h0, if_neg h1, if_neg h1, h]; simp [h0, h1]

theorem su_off {na ea nb eb : Int} (ha : dyB na ea = true) (hb : dyB nb eb = true) (h0 : na ≠ 0) (h1 : nb ≠ 0) (h : rmB 62 na ea nb eb = true) : suB na ea nb eb = nfB (suS na ea nb eb) (suL ea eb) ∧ suN na ea nb eb = nfN (suS na ea nb eb) (suL ea eb) ∧ suE na ea nb eb = nfE (suS na ea nb eb) (suL ea eb) := by
  cases h6 : rmB 60 na ea nb eb
  · obtain ⟨e1, e2, e3⟩ := su_no h0 h1 h6
    have f1 := su_far ha hb h0 h1 h h6
    have f0 : suS na ea nb eb ≠ 0 := by
      intro hz
      rw [hz] at f1
      have := (nf_zero (S := 0) (l := suL ea eb) rfl).1
      rw [this] at f1; cases f1
    have f2 : dyB (odV (suS na ea nb eb)) (suL ea eb + tzV (suS na ea nb eb)) = false := by
      unfold nfB at f1
      simp at f1
      exact f1.2
    obtain ⟨n1, n2, n3⟩ := nf_no f0 f2
    rw [e1, e2, e3, n1, n2, n3]
    exact ⟨rfl, rfl, rfl⟩
  · exact su_yes h0 h1 h6

theorem su_none {na ea nb eb : Int} (h0 : na ≠ 0) (h1 : nb ≠ 0) (h : rmB 62 na ea nb eb = false) : suB na ea nb eb = false ∧ suN na ea nb eb = 0 ∧ suE na ea nb eb = 0 := by
  refine su_no h0 h1 ?_
  cases h6 : rmB 60 na ea nb eb
  · rfl
  · have := room_any.1 h6
    rw [room_any.2 (show plV na + (ea - suL ea eb) ≤ 62 ∧ plV nb + (eb - suL ea eb) ≤ 62 by omega)] at h
    cases h

theorem shifted_no (n d k : Int) (hg : dyB n d = true) (hk : -100 ≤ k) (hk2 : k ≤ d) (h : 62 < plV n + (d - k)) (w : World) : Calls Tryd.prog 97 #[two n d, .int .i64 k] w fun rv w' => rv = .returned (.tuple #[.int .i64 0, .bool false]) ∧ Ext w w' := by
  obtain ⟨⟨h1, h2, h3, h4⟩, _⟩ := dy_iff.1 hg
  have p1 := (top_bd hg).2.2.1
  have p2 := (top_bd hg).2.2.2
  go_enter Tryd.func97, Tryd.ntmps97
  go_wp2_with (go_at_call 66; refine (placesOf_any _ (by omega) (by omega) _).mono ?_; rintro rv w1 ⟨rfl, rfl⟩)
  go_ret2
  exact ⟨rfl, Ext.auK⟩

theorem shifted_yes (n d k : Int) (hg : dyB n d = true) (hk : -100 ≤ k) (hk2 : k ≤ d) (h : plV n + (d - k) ≤ 62) (w : World) : Calls Tryd.prog 97 #[two n d, .int .i64 k] w fun rv w' => rv = .returned (.tuple #[.int .i64 (n * pw (d - k)), .bool true]) ∧ Ext w w' := by
  obtain ⟨⟨h1, h2, h3, h4⟩, _⟩ := dy_iff.1 hg
  have p1 := (top_bd hg).2.2.1
  have p2 := (top_bd hg).2.2.2
  have b := mul_bd (n := n) (j := d - k) (k := 62) (by omega) h (by decide) (by omega) (by omega)
  rw [show pw 62 = 4611686018427387904 from rfl] at b
  have b1 : -4611686018427387904 < n * pw (d - k) := by omega
  have b2 : n * pw (d - k) < 4611686018427387904 := by omega
  clear b
  have k1 := pw_of (d - k)
  have k2 : IntKind.i64.wrap (n * pw (d - k)) = n * pw (d - k) := IntWalk.i64_in _ (by omega)
  have k3 : IntKind.i64.wrap (d - k) = d - k := IntWalk.i64_in _ (by omega)
  go_enter Tryd.func97, Tryd.ntmps97
  go_wp2_with (go_at_call 66; refine (placesOf_any _ (by omega) (by omega) _).mono ?_; rintro rv w1 ⟨rfl, rfl⟩)
  go_ret2
  exact ⟨rfl, Ext.auK⟩

theorem rdIf_self (n d : Int) (hg : dyB n d = true) (w : World) : Calls Tryd.prog 50 #[two n d] w fun rv w' => rv = .returned (.tuple #[two (n) (d), .bool true]) ∧ Ext w w' := rdIf_yes n d hg w

set_option maxHeartbeats 1600000 in
theorem rdPlus_za (na ea nb eb : Int) (ha : dyB na ea = true) (hb : dyB nb eb = true) (h0 : na = 0) (w : World) : Calls Tryd.prog 62 #[two na ea, two nb eb] w fun rv w' => rv = .returned (.tuple #[two (suN na ea nb eb) (suE na ea nb eb), .bool (suB na ea nb eb)]) ∧ Ext w w' := by
  obtain ⟨e1, e2, e3⟩ := su_za (ea := ea) (nb := nb) (eb := eb) h0
  have E1 := Lib.hid e1; have E2 := Lib.hid e2; have E3 := Lib.hid e3; clear e1 e2 e3
  have k0 : (na == 0) = true := by simpa using h0
  clear h0
  go_enter Tryd.func62, Tryd.ntmps62
  go_wp2_with (go_at_call 50; refine (rdIf_self _ _ (by assumption) _).mono ?_; rintro rv w1 ⟨rfl, hb⟩; have ns : w.heap.size + 2 < w1.heap.size := hb.ltK; have n0 : w1.cell? ⟨w.heap.size, 0, none⟩ = some (.int .i64 na) := hb.cellK; have n1 : w1.cell? ⟨w.heap.size, 1, none⟩ = some (.int .i64 ea) := hb.cellK; have n2 : w1.cell? ⟨w.heap.size + 1, 0, none⟩ = some (.int .i64 nb) := hb.cellK; have n3 : w1.cell? ⟨w.heap.size + 1, 1, none⟩ = some (.int .i64 eb) := hb.cellK; have n4 : w1.cell? ⟨w.heap.size + 2, 0, none⟩ = some (.int .i64 0) := hb.cellK; have n5 : w1.cell? ⟨w.heap.size + 2, 1, none⟩ = some (.int .i64 0) := hb.cellK; have nz0 : w1.frozen? ⟨w.heap.size + 2, 0, none⟩ = false := hb.frzK; have nz1 : w1.frozen? ⟨w.heap.size + 2, 1, none⟩ = false := hb.frzK; (first | (have nx := Ext.trans hx hb; clear hx) | (have nx := Ext.trans (hx.alloc _) hb; clear hx) | (have nx := Ext.trans hx.drew hb; clear hx) | have nx := hb); clear hb; try clear hs; try clear g0; try clear g1; try clear g2; try clear g3; try clear g4; try clear g5; try clear z0; try clear z1; have hx := nx; clear nx; have hs := ns; clear ns; have g0 := n0; clear n0; have g1 := n1; clear n1; have g2 := n2; clear n2; have g3 := n3; clear n3; have g4 := n4; clear n4; have g5 := n5; clear n5; have z0 := nz0; clear nz0; have z1 := nz1; clear nz1)
  exact bodyPost_ret (v := .tuple #[two (nb) (eb), .bool true]) (by simp [results, Tryd.results62, go_sem, *]) rfl ⟨ret_d E1.out.symm E2.out.symm E3.out.symm, Ext.auK⟩

set_option maxHeartbeats 1600000 in
theorem rdPlus_zb (na ea nb eb : Int) (ha : dyB na ea = true) (hb : dyB nb eb = true) (h0 : na ≠ 0) (h1 : nb = 0) (w : World) : Calls Tryd.prog 62 #[two na ea, two nb eb] w fun rv w' => rv = .returned (.tuple #[two (suN na ea nb eb) (suE na ea nb eb), .bool (suB na ea nb eb)]) ∧ Ext w w' := by
  obtain ⟨e1, e2, e3⟩ := su_zb (ea := ea) (eb := eb) h0 h1
  have E1 := Lib.hid e1; have E2 := Lib.hid e2; have E3 := Lib.hid e3; clear e1 e2 e3
  have k0 : (na == 0) = false := by simpa using h0
  have k1 : (nb == 0) = true := by simpa using h1
  clear h0 h1
  go_enter Tryd.func62, Tryd.ntmps62
  go_wp2_with (go_at_call 50; refine (rdIf_self _ _ (by assumption) _).mono ?_; rintro rv w1 ⟨rfl, hb⟩; have ns : w.heap.size + 2 < w1.heap.size := hb.ltK; have n0 : w1.cell? ⟨w.heap.size, 0, none⟩ = some (.int .i64 na) := hb.cellK; have n1 : w1.cell? ⟨w.heap.size, 1, none⟩ = some (.int .i64 ea) := hb.cellK; have n2 : w1.cell? ⟨w.heap.size + 1, 0, none⟩ = some (.int .i64 nb) := hb.cellK; have n3 : w1.cell? ⟨w.heap.size + 1, 1, none⟩ = some (.int .i64 eb) := hb.cellK; have n4 : w1.cell? ⟨w.heap.size + 2, 0, none⟩ = some (.int .i64 0) := hb.cellK; have n5 : w1.cell? ⟨w.heap.size + 2, 1, none⟩ = some (.int .i64 0) := hb.cellK; have nz0 : w1.frozen? ⟨w.heap.size + 2, 0, none⟩ = false := hb.frzK; have nz1 : w1.frozen? ⟨w.heap.size + 2, 1, none⟩ = false := hb.frzK; (first | (have nx := Ext.trans hx hb; clear hx) | (have nx := Ext.trans (hx.alloc _) hb; clear hx) | (have nx := Ext.trans hx.drew hb; clear hx) | have nx := hb); clear hb; try clear hs; try clear g0; try clear g1; try clear g2; try clear g3; try clear g4; try clear g5; try clear z0; try clear z1; have hx := nx; clear nx; have hs := ns; clear ns; have g0 := n0; clear n0; have g1 := n1; clear n1; have g2 := n2; clear n2; have g3 := n3; clear n3; have g4 := n4; clear n4; have g5 := n5; clear n5; have z0 := nz0; clear nz0; have z1 := nz1; clear nz1)
  exact bodyPost_ret (v := .tuple #[two (na) (ea), .bool true]) (by simp [results, Tryd.results62, go_sem, *]) rfl ⟨ret_d E1.out.symm E2.out.symm E3.out.symm, Ext.auK⟩

set_option maxHeartbeats 3200000 in
theorem rdPlus_sn (na ea nb eb : Int) (ha : dyB na ea = true) (hb : dyB nb eb = true) (h0 : na ≠ 0) (h1 : nb ≠ 0) (hl : ea < eb) (hr : rmB 60 na ea nb eb = false) (w : World) : Calls Tryd.prog 62 #[two na ea, two nb eb] w fun rv w' => rv = .returned (.tuple #[two (suN na ea nb eb) (suE na ea nb eb), .bool (suB na ea nb eb)]) ∧ Ext w w' := by
  obtain ⟨⟨a1, a2, a3, a4⟩, _⟩ := dy_iff.1 ha
  obtain ⟨⟨b1, b2, b3, b4⟩, _⟩ := dy_iff.1 hb
  have pa := (top_bd ha).2.2
  have pb := (top_bd hb).2.2
  have pa1 := pa.1; have pa2 := pa.2; have pb1 := pb.1; have pb2 := pb.2
  clear pa pb
  obtain ⟨e1, e2, e3⟩ := su_no h0 h1 hr
  have E1 := Lib.hid e1; have E2 := Lib.hid e2; have E3 := Lib.hid e3; clear e1 e2 e3
  have k0 : (na == 0) = false := by simpa using h0
  have k1 : (nb == 0) = false := by simpa using h1
  have sl : suL ea eb = ea := by unfold suL; omega
  have k2 : IntKind.i64.wrap (plV nb + eb) = plV nb + eb := IntWalk.i64_in _ (by omega)
  have k3 : IntKind.i64.wrap (plV nb + eb - ea) = plV nb + eb - ea := IntWalk.i64_in _ (by omega)
  have r1 : ¬ plV nb + eb - ea ≤ 60 := by
    intro h
    rw [room_any.2 (by rw [sl]; omega)] at hr
    cases hr
  clear hr h0 h1 sl
  go_enter Tryd.func62, Tryd.ntmps62
  go_wp2_with fail
  go_region_held3 (fun w' => w'.cell? ⟨w.heap.size, 0, none⟩ = some (.int .i64 nb) ∧ w'.cell? ⟨w.heap.size, 1, none⟩ = some (.int .i64 eb) ∧ w'.cell? ⟨w.heap.size + 1, 0, none⟩ = some (.int .i64 na) ∧ w'.cell? ⟨w.heap.size + 1, 1, none⟩ = some (.int .i64 ea) ∧ w.heap.size + 2 < w'.heap.size) ((refine ⟨?_, ?_, ?_, ?_, ?_⟩ <;> first | with_reducible assumption | ((rw [cell_setRow_far _ _ _ _ _ (by omega)]); with_reducible assumption) | ((rw [setRow_size]); with_reducible assumption) | ((repeat rw [World.cell?_setCell_far _ _ _ _ (by simp)]); with_reducible assumption) | (simp; done) | (simp [World.setCell]; first | done | omega) | (simp [go_sem, World.cell?_alloc_past, World.cell?_setCell_far, *]; done))) ((first | (go_at_call 79; refine (l1Abs_nat _ (by omega) (by omega) _).mono ?_; rintro rv w1 ⟨rfl, rfl⟩) | (go_at_call 95; refine (rdBits_any _ (by omega) (by omega) _).mono ?_; rintro rv w1 ⟨rfl, rfl⟩; (try rw [plV_abs]))))
  go_wp2_with fail
  exact bodyPost_ret (v := .tuple #[two 0 0, .bool false]) (by simp [results, Tryd.results62, go_sem, *]) rfl ⟨ret_d E1.out.symm E2.out.symm E3.out.symm, Ext.auK⟩

set_option maxHeartbeats 3200000 in
theorem rdPlus_sy (na ea nb eb : Int) (ha : dyB na ea = true) (hb : dyB nb eb = true) (h0 : na ≠ 0) (h1 : nb ≠ 0) (hl : ea < eb) (hr : rmB 60 na ea nb eb = true) (w : World) : Calls Tryd.prog 62 #[two na ea, two nb eb] w fun rv w' => rv = .returned (.tuple #[two (suN na ea nb eb) (suE na ea nb eb), .bool (suB na ea nb eb)]) ∧ Ext w w' := by
  obtain ⟨⟨a1, a2, a3, a4⟩, _⟩ := dy_iff.1 ha
  obtain ⟨⟨b1, b2, b3, b4⟩, _⟩ := dy_iff.1 hb
  have pa := (top_bd ha).2.2
  have pb := (top_bd hb).2.2
  have pa1 := pa.1; have pa2 := pa.2; have pb1 := pb.1; have pb2 := pb.2
  clear pa pb
  obtain ⟨e1, e2, e3⟩ := su_yes h0 h1 hr
  have E1 := Lib.hid e1; have E2 := Lib.hid e2; have E3 := Lib.hid e3; clear e1 e2 e3
  have k0 : (na == 0) = false := by simpa using h0
  have k1 : (nb == 0) = false := by simpa using h1
  have sl : suL ea eb = ea := by unfold suL; omega
  have k2 : IntKind.i64.wrap (plV nb + eb) = plV nb + eb := IntWalk.i64_in _ (by omega)
  have k3 : IntKind.i64.wrap (plV nb + eb - ea) = plV nb + eb - ea := IntWalk.i64_in _ (by omega)
  have r0 := room_any.1 hr
  rw [sl] at r0
  have r1 : plV nb + eb - ea ≤ 60 := by omega
  have bd := su_bd ha hb (by decide) hr
  have es : suS na ea nb eb = nb * pw (eb - ea) + na := by
    unfold suS; rw [sl]
    rw [show eb - ea = eb - ea from rfl, show ea - ea = 0 by omega, show na * pw 0 = na from Int.mul_one _, Int.add_comm]
  rw [sl] at bd
  have b1 := bd.2.1
  have b2 := bd.2.2
  have j1 : 0 ≤ eb - ea := by omega
  have j2 : eb - ea ≤ 62 := by omega
  have k4 : IntKind.i64.wrap (eb - ea) = eb - ea := IntWalk.i64_in _ (by omega)
  have k5 : IntKind.i64.wrap (nb * pw (eb - ea)) = nb * pw (eb - ea) := IntWalk.i64_in _ (by omega)
  have k6 : IntKind.i64.wrap (nb * pw (eb - ea) + na) = nb * pw (eb - ea) + na := IntWalk.i64_in _ (by omega)
  have ES := Lib.hid es; have SL := Lib.hid sl; clear es sl bd hr r0 h0 h1
  go_enter Tryd.func62, Tryd.ntmps62
  go_wp2_with fail
  go_region_held3 (fun w' => w'.cell? ⟨w.heap.size, 0, none⟩ = some (.int .i64 nb) ∧ w'.cell? ⟨w.heap.size, 1, none⟩ = some (.int .i64 eb) ∧ w'.cell? ⟨w.heap.size + 1, 0, none⟩ = some (.int .i64 na) ∧ w'.cell? ⟨w.heap.size + 1, 1, none⟩ = some (.int .i64 ea) ∧ w.heap.size + 2 < w'.heap.size) ((refine ⟨?_, ?_, ?_, ?_, ?_⟩ <;> first | with_reducible assumption | ((repeat first | rw [cell_set_far _ _ _ _ _ _ (by omega)] | rw [cell_alloc_before _ _ _ _ (by omega)] | rw [cell_alloc_drew _ _ _ _ (by omega)] | rw [cell_drew]); with_reducible assumption) | ((rw [cell_setRow_far _ _ _ _ _ (by omega)]); with_reducible assumption) | ((rw [setRow_size]); with_reducible assumption) | (simp; done) | (simp [World.setCell]; first | done | omega) | (simp [go_sem, World.cell?_alloc_past, World.cell?_setCell_far, *]; done))) ((first | (go_at_call 79; refine (l1Abs_nat _ (by omega) (by omega) _).mono ?_; rintro rv w1 ⟨rfl, rfl⟩) | (go_at_call 95; refine (rdBits_any _ (by omega) (by omega) _).mono ?_; rintro rv w1 ⟨rfl, rfl⟩; (try rw [plV_abs]))))
  go_wp2_with fail
  go_region_held3 (fun w' => w'.cell? ⟨w.heap.size, 0, none⟩ = some (.int .i64 nb) ∧ w'.cell? ⟨w.heap.size, 1, none⟩ = some (.int .i64 eb) ∧ w'.cell? ⟨w.heap.size + 1, 0, none⟩ = some (.int .i64 na) ∧ w'.cell? ⟨w.heap.size + 1, 1, none⟩ = some (.int .i64 ea) ∧ w.heap.size + 2 < w'.heap.size) ((refine ⟨?_, ?_, ?_, ?_, ?_⟩ <;> first | with_reducible assumption | ((repeat first | rw [cell_set_far _ _ _ _ _ _ (by omega)] | rw [cell_alloc_before _ _ _ _ (by omega)] | rw [cell_alloc_drew _ _ _ _ (by omega)] | rw [cell_drew]); with_reducible assumption) | ((rw [cell_setRow_far _ _ _ _ _ (by omega)]); with_reducible assumption) | ((rw [setRow_size]); with_reducible assumption) | (simp; done) | (simp [World.setCell]; first | done | omega) | (simp [go_sem, World.cell?_alloc_past, World.cell?_setCell_far, *]; done))) ((first | (go_at_call 96; refine (rdPower_any _ (by omega) (by omega) _).mono ?_; rintro rv w1 ⟨rfl, rfl⟩) | (go_at_call 51; refine (rdShort_any _ _ (by omega) (by omega) (by omega) (by omega) _).mono ?_; rintro rv w1 ⟨rfl, hb⟩; have ns : w.heap.size + 2 < w1.heap.size := hb.ltK; have n0 : w1.cell? ⟨w.heap.size, 0, none⟩ = some (.int .i64 nb) := hb.cellK; have n1 : w1.cell? ⟨w.heap.size, 1, none⟩ = some (.int .i64 eb) := hb.cellK; have n2 : w1.cell? ⟨w.heap.size + 1, 0, none⟩ = some (.int .i64 na) := hb.cellK; have n3 : w1.cell? ⟨w.heap.size + 1, 1, none⟩ = some (.int .i64 ea) := hb.cellK; have n4 : w1.cell? ⟨w.heap.size + 2, 0, none⟩ = some (.int .i64 0) := hb.cellK; have n5 : w1.cell? ⟨w.heap.size + 2, 1, none⟩ = some (.int .i64 0) := hb.cellK; have nz0 : w1.frozen? ⟨w.heap.size + 2, 0, none⟩ = false := hb.frzK; have nz1 : w1.frozen? ⟨w.heap.size + 2, 1, none⟩ = false := hb.frzK; (first | (have nx := Ext.trans hx hb; clear hx) | (have nx := Ext.trans (hx.alloc _) hb; clear hx) | (have nx := Ext.trans hx.drew hb; clear hx) | have nx := hb); clear hb; try clear hs; try clear g0; try clear g1; try clear g2; try clear g3; try clear g4; try clear g5; try clear z0; try clear z1; have hx := nx; clear nx; have hs := ns; clear ns; have g0 := n0; clear n0; have g1 := n1; clear n1; have g2 := n2; clear n2; have g3 := n3; clear n3; have g4 := n4; clear n4; have g5 := n5; clear n5; have z0 := nz0; clear nz0; have z1 := nz1; clear nz1) | (go_at_call 50; refine (rdIf_any _ _ _).mono ?_; rintro rv w1 ⟨rfl, hb⟩; have ns : w.heap.size + 2 < w1.heap.size := hb.ltK; have n0 : w1.cell? ⟨w.heap.size, 0, none⟩ = some (.int .i64 nb) := hb.cellK; have n1 : w1.cell? ⟨w.heap.size, 1, none⟩ = some (.int .i64 eb) := hb.cellK; have n2 : w1.cell? ⟨w.heap.size + 1, 0, none⟩ = some (.int .i64 na) := hb.cellK; have n3 : w1.cell? ⟨w.heap.size + 1, 1, none⟩ = some (.int .i64 ea) := hb.cellK; have n4 : w1.cell? ⟨w.heap.size + 2, 0, none⟩ = some (.int .i64 0) := hb.cellK; have n5 : w1.cell? ⟨w.heap.size + 2, 1, none⟩ = some (.int .i64 0) := hb.cellK; have nz0 : w1.frozen? ⟨w.heap.size + 2, 0, none⟩ = false := hb.frzK; have nz1 : w1.frozen? ⟨w.heap.size + 2, 1, none⟩ = false := hb.frzK; (first | (have nx := Ext.trans hx hb; clear hx) | (have nx := Ext.trans (hx.alloc _) hb; clear hx) | (have nx := Ext.trans hx.drew hb; clear hx) | have nx := hb); clear hb; try clear hs; try clear g0; try clear g1; try clear g2; try clear g3; try clear g4; try clear g5; try clear z0; try clear z1; have hx := nx; clear nx; have hs := ns; clear ns; have g0 := n0; clear n0; have g1 := n1; clear n1; have g2 := n2; clear n2; have g3 := n3; clear n3; have g4 := n4; clear n4; have g5 := n5; clear n5; have z0 := nz0; clear nz0; have z1 := nz1; clear nz1)))
  go_wp2_with fail
  exact bodyPost_ret (v := .tuple #[two (nfN (nb * pw (eb - ea) + na) ea) (nfE (nb * pw (eb - ea) + na) ea), .bool (nfB (nb * pw (eb - ea) + na) ea)]) (by simp [results, Tryd.results62, go_sem, *]) rfl ⟨ret_d (by rw [E1.out, ES.out, SL.out]) (by rw [E2.out, ES.out, SL.out]) (by rw [E3.out, ES.out, SL.out]), Ext.auK⟩

set_option maxHeartbeats 3200000 in
theorem rdPlus_nn (na ea nb eb : Int) (ha : dyB na ea = true) (hb : dyB nb eb = true) (h0 : na ≠ 0) (h1 : nb ≠ 0) (hl : ¬ ea < eb) (hr : rmB 60 na ea nb eb = false) (w : World) : Calls Tryd.prog 62 #[two na ea, two nb eb] w fun rv w' => rv = .returned (.tuple #[two (suN na ea nb eb) (suE na ea nb eb), .bool (suB na ea nb eb)]) ∧ Ext w w' := by
  obtain ⟨⟨a1, a2, a3, a4⟩, _⟩ := dy_iff.1 ha
  obtain ⟨⟨b1, b2, b3, b4⟩, _⟩ := dy_iff.1 hb
  have pa := (top_bd ha).2.2
  have pb := (top_bd hb).2.2
  have pa1 := pa.1; have pa2 := pa.2; have pb1 := pb.1; have pb2 := pb.2
  clear pa pb
  obtain ⟨e1, e2, e3⟩ := su_no h0 h1 hr
  have E1 := Lib.hid e1; have E2 := Lib.hid e2; have E3 := Lib.hid e3; clear e1 e2 e3
  have k0 : (na == 0) = false := by simpa using h0
  have k1 : (nb == 0) = false := by simpa using h1
  have sl : suL ea eb = eb := by unfold suL; omega
  have k2 : IntKind.i64.wrap (plV na + ea) = plV na + ea := IntWalk.i64_in _ (by omega)
  have k3 : IntKind.i64.wrap (plV na + ea - eb) = plV na + ea - eb := IntWalk.i64_in _ (by omega)
  have r1 : ¬ plV na + ea - eb ≤ 60 := by
    intro h
    rw [room_any.2 (by rw [sl]; omega)] at hr
    cases hr
  clear hr h0 h1 sl
  go_enter Tryd.func62, Tryd.ntmps62
  go_wp2_with fail
  go_region_held3 (fun w' => w'.cell? ⟨w.heap.size, 0, none⟩ = some (.int .i64 na) ∧ w'.cell? ⟨w.heap.size, 1, none⟩ = some (.int .i64 ea) ∧ w'.cell? ⟨w.heap.size + 1, 0, none⟩ = some (.int .i64 nb) ∧ w'.cell? ⟨w.heap.size + 1, 1, none⟩ = some (.int .i64 eb) ∧ w.heap.size + 2 < w'.heap.size) ((refine ⟨?_, ?_, ?_, ?_, ?_⟩ <;> first | with_reducible assumption | ((rw [cell_setRow_far _ _ _ _ _ (by omega)]); with_reducible assumption) | ((rw [setRow_size]); with_reducible assumption) | ((repeat rw [World.cell?_setCell_far _ _ _ _ (by simp)]); with_reducible assumption) | (simp; done) | (simp [World.setCell]; first | done | omega) | (simp [go_sem, World.cell?_alloc_past, World.cell?_setCell_far, *]; done))) ((first | (go_at_call 79; refine (l1Abs_nat _ (by omega) (by omega) _).mono ?_; rintro rv w1 ⟨rfl, rfl⟩) | (go_at_call 95; refine (rdBits_any _ (by omega) (by omega) _).mono ?_; rintro rv w1 ⟨rfl, rfl⟩; (try rw [plV_abs]))))
  go_wp2_with fail
  exact bodyPost_ret (v := .tuple #[two 0 0, .bool false]) (by simp [results, Tryd.results62, go_sem, *]) rfl ⟨ret_d E1.out.symm E2.out.symm E3.out.symm, Ext.auK⟩

set_option maxHeartbeats 3200000 in
theorem rdPlus_ny (na ea nb eb : Int) (ha : dyB na ea = true) (hb : dyB nb eb = true) (h0 : na ≠ 0) (h1 : nb ≠ 0) (hl : ¬ ea < eb) (hr : rmB 60 na ea nb eb = true) (w : World) : Calls Tryd.prog 62 #[two na ea, two nb eb] w fun rv w' => rv = .returned (.tuple #[two (suN na ea nb eb) (suE na ea nb eb), .bool (suB na ea nb eb)]) ∧ Ext w w' := by
  obtain ⟨⟨a1, a2, a3, a4⟩, _⟩ := dy_iff.1 ha
  obtain ⟨⟨b1, b2, b3, b4⟩, _⟩ := dy_iff.1 hb
  have pa := (top_bd ha).2.2
  have pb := (top_bd hb).2.2
  have pa1 := pa.1; have pa2 := pa.2; have pb1 := pb.1; have pb2 := pb.2
  clear pa pb
  obtain ⟨e1, e2, e3⟩ := su_yes h0 h1 hr
  have E1 := Lib.hid e1; have E2 := Lib.hid e2; have E3 := Lib.hid e3; clear e1 e2 e3
  have k0 : (na == 0) = false := by simpa using h0
  have k1 : (nb == 0) = false := by simpa using h1
  have sl : suL ea eb = eb := by unfold suL; omega
  have k2 : IntKind.i64.wrap (plV na + ea) = plV na + ea := IntWalk.i64_in _ (by omega)
  have k3 : IntKind.i64.wrap (plV na + ea - eb) = plV na + ea - eb := IntWalk.i64_in _ (by omega)
  have r0 := room_any.1 hr
  rw [sl] at r0
  have r1 : plV na + ea - eb ≤ 60 := by omega
  have bd := su_bd ha hb (by decide) hr
  have es : suS na ea nb eb = na * pw (ea - eb) + nb := by
    unfold suS; rw [sl]
    rw [show eb - eb = 0 by omega, show nb * pw 0 = nb from Int.mul_one _]
  rw [sl] at bd
  have b1 := bd.1.1
  have b2 := bd.1.2
  have j1 : 0 ≤ ea - eb := by omega
  have j2 : ea - eb ≤ 62 := by omega
  have k4 : IntKind.i64.wrap (ea - eb) = ea - eb := IntWalk.i64_in _ (by omega)
  have k5 : IntKind.i64.wrap (na * pw (ea - eb)) = na * pw (ea - eb) := IntWalk.i64_in _ (by omega)
  have k6 : IntKind.i64.wrap (na * pw (ea - eb) + nb) = na * pw (ea - eb) + nb := IntWalk.i64_in _ (by omega)
  have ES := Lib.hid es; have SL := Lib.hid sl; clear es sl bd hr r0 h0 h1
  go_enter Tryd.func62, Tryd.ntmps62
  go_wp2_with fail
  go_region_held3 (fun w' => w'.cell? ⟨w.heap.size, 0, none⟩ = some (.int .i64 na) ∧ w'.cell? ⟨w.heap.size, 1, none⟩ = some (.int .i64 ea) ∧ w'.cell? ⟨w.heap.size + 1, 0, none⟩ = some (.int .i64 nb) ∧ w'.cell? ⟨w.heap.size + 1, 1, none⟩ = some (.int .i64 eb) ∧ w.heap.size + 2 < w'.heap.size) ((refine ⟨?_, ?_, ?_, ?_, ?_⟩ <;> first | with_reducible assumption | ((repeat first | rw [cell_set_far _ _ _ _ _ _ (by omega)] | rw [cell_alloc_before _ _ _ _ (by omega)] | rw [cell_alloc_drew _ _ _ _ (by omega)] | rw [cell_drew]); with_reducible assumption) | ((rw [cell_setRow_far _ _ _ _ _ (by omega)]); with_reducible assumption) | ((rw [setRow_size]); with_reducible assumption) | (simp; done) | (simp [World.setCell]; first | done | omega) | (simp [go_sem, World.cell?_alloc_past, World.cell?_setCell_far, *]; done))) ((first | (go_at_call 79; refine (l1Abs_nat _ (by omega) (by omega) _).mono ?_; rintro rv w1 ⟨rfl, rfl⟩) | (go_at_call 95; refine (rdBits_any _ (by omega) (by omega) _).mono ?_; rintro rv w1 ⟨rfl, rfl⟩; (try rw [plV_abs]))))
  go_wp2_with fail
  go_region_held3 (fun w' => w'.cell? ⟨w.heap.size, 0, none⟩ = some (.int .i64 na) ∧ w'.cell? ⟨w.heap.size, 1, none⟩ = some (.int .i64 ea) ∧ w'.cell? ⟨w.heap.size + 1, 0, none⟩ = some (.int .i64 nb) ∧ w'.cell? ⟨w.heap.size + 1, 1, none⟩ = some (.int .i64 eb) ∧ w.heap.size + 2 < w'.heap.size) ((refine ⟨?_, ?_, ?_, ?_, ?_⟩ <;> first | with_reducible assumption | ((repeat first | rw [cell_set_far _ _ _ _ _ _ (by omega)] | rw [cell_alloc_before _ _ _ _ (by omega)] | rw [cell_alloc_drew _ _ _ _ (by omega)] | rw [cell_drew]); with_reducible assumption) | ((rw [cell_setRow_far _ _ _ _ _ (by omega)]); with_reducible assumption) | ((rw [setRow_size]); with_reducible assumption) | (simp; done) | (simp [World.setCell]; first | done | omega) | (simp [go_sem, World.cell?_alloc_past, World.cell?_setCell_far, *]; done))) ((first | (go_at_call 96; refine (rdPower_any _ (by omega) (by omega) _).mono ?_; rintro rv w1 ⟨rfl, rfl⟩) | (go_at_call 51; refine (rdShort_any _ _ (by omega) (by omega) (by omega) (by omega) _).mono ?_; rintro rv w1 ⟨rfl, hb⟩; have ns : w.heap.size + 2 < w1.heap.size := hb.ltK; have n0 : w1.cell? ⟨w.heap.size, 0, none⟩ = some (.int .i64 na) := hb.cellK; have n1 : w1.cell? ⟨w.heap.size, 1, none⟩ = some (.int .i64 ea) := hb.cellK; have n2 : w1.cell? ⟨w.heap.size + 1, 0, none⟩ = some (.int .i64 nb) := hb.cellK; have n3 : w1.cell? ⟨w.heap.size + 1, 1, none⟩ = some (.int .i64 eb) := hb.cellK; have n4 : w1.cell? ⟨w.heap.size + 2, 0, none⟩ = some (.int .i64 0) := hb.cellK; have n5 : w1.cell? ⟨w.heap.size + 2, 1, none⟩ = some (.int .i64 0) := hb.cellK; have nz0 : w1.frozen? ⟨w.heap.size + 2, 0, none⟩ = false := hb.frzK; have nz1 : w1.frozen? ⟨w.heap.size + 2, 1, none⟩ = false := hb.frzK; (first | (have nx := Ext.trans hx hb; clear hx) | (have nx := Ext.trans (hx.alloc _) hb; clear hx) | (have nx := Ext.trans hx.drew hb; clear hx) | have nx := hb); clear hb; try clear hs; try clear g0; try clear g1; try clear g2; try clear g3; try clear g4; try clear g5; try clear z0; try clear z1; have hx := nx; clear nx; have hs := ns; clear ns; have g0 := n0; clear n0; have g1 := n1; clear n1; have g2 := n2; clear n2; have g3 := n3; clear n3; have g4 := n4; clear n4; have g5 := n5; clear n5; have z0 := nz0; clear nz0; have z1 := nz1; clear nz1) | (go_at_call 50; refine (rdIf_any _ _ _).mono ?_; rintro rv w1 ⟨rfl, hb⟩; have ns : w.heap.size + 2 < w1.heap.size := hb.ltK; have n0 : w1.cell? ⟨w.heap.size, 0, none⟩ = some (.int .i64 na) := hb.cellK; have n1 : w1.cell? ⟨w.heap.size, 1, none⟩ = some (.int .i64 ea) := hb.cellK; have n2 : w1.cell? ⟨w.heap.size + 1, 0, none⟩ = some (.int .i64 nb) := hb.cellK; have n3 : w1.cell? ⟨w.heap.size + 1, 1, none⟩ = some (.int .i64 eb) := hb.cellK; have n4 : w1.cell? ⟨w.heap.size + 2, 0, none⟩ = some (.int .i64 0) := hb.cellK; have n5 : w1.cell? ⟨w.heap.size + 2, 1, none⟩ = some (.int .i64 0) := hb.cellK; have nz0 : w1.frozen? ⟨w.heap.size + 2, 0, none⟩ = false := hb.frzK; have nz1 : w1.frozen? ⟨w.heap.size + 2, 1, none⟩ = false := hb.frzK; (first | (have nx := Ext.trans hx hb; clear hx) | (have nx := Ext.trans (hx.alloc _) hb; clear hx) | (have nx := Ext.trans hx.drew hb; clear hx) | have nx := hb); clear hb; try clear hs; try clear g0; try clear g1; try clear g2; try clear g3; try clear g4; try clear g5; try clear z0; try clear z1; have hx := nx; clear nx; have hs := ns; clear ns; have g0 := n0; clear n0; have g1 := n1; clear n1; have g2 := n2; clear n2; have g3 := n3; clear n3; have g4 := n4; clear n4; have g5 := n5; clear n5; have z0 := nz0; clear nz0; have z1 := nz1; clear nz1)))
  go_wp2_with fail
  exact bodyPost_ret (v := .tuple #[two (nfN (na * pw (ea - eb) + nb) eb) (nfE (na * pw (ea - eb) + nb) eb), .bool (nfB (na * pw (ea - eb) + nb) eb)]) (by simp [results, Tryd.results62, go_sem, *]) rfl ⟨ret_d (by rw [E1.out, ES.out, SL.out]) (by rw [E2.out, ES.out, SL.out]) (by rw [E3.out, ES.out, SL.out]), Ext.auK⟩
end Go.Proofs.YtcbkhlaiefiieabDoor

namespace Go.Proofs.YtcbkhlaiefiieabDoor
open Go Go.RowKit
set_option linter.unusedSimpArgs false
set_option linter.unusedVariables false

theorem rdPlus_any (na ea nb eb : Int) (ha : dyB na ea = true) (hb : dyB nb eb = true) (w : World) : Calls Tryd.prog 62 #[two na ea, two nb eb] w fun rv w' => rv = .returned (.tuple #[two (suN na ea nb eb) (suE na ea nb eb), .bool (suB na ea nb eb)]) ∧ Ext w w' := by
  by_cases h0 : na = 0
  · exact rdPlus_za na ea nb eb ha hb h0 w
  · by_cases h1 : nb = 0
    · exact rdPlus_zb na ea nb eb ha hb h0 h1 w
    · by_cases hl : ea < eb
      · cases hr : rmB 60 na ea nb eb
        · exact rdPlus_sn na ea nb eb ha hb h0 h1 hl hr w
        · exact rdPlus_sy na ea nb eb ha hb h0 h1 hl hr w
      · cases hr : rmB 60 na ea nb eb
        · exact rdPlus_nn na ea nb eb ha hb h0 h1 hl hr w
        · exact rdPlus_ny na ea nb eb ha hb h0 h1 hl hr w

theorem sPlusDyadic_no (na ea nb eb : Int) (hg : dy2B na ea nb eb = false) (w : World) : Calls Tryd.prog 25 #[two na ea, two nb eb] w fun rv w' => rv = .returned (.tuple #[two 0 0, .bool false]) ∧ Ext w w' := by
  cases ha : dyB na ea
  · go_enter Tryd.func25, Tryd.ntmps25
    go_wp2_with (go_at_call 61; refine (rdGood_any _ _ _).mono ?_; rintro rv w1 ⟨rfl, hb⟩; have ns : w.heap.size + 2 < w1.heap.size := hb.ltK; have n0 : w1.cell? ⟨w.heap.size, 0, none⟩ = some (.int .i64 na) := hb.cellK; have n1 : w1.cell? ⟨w.heap.size, 1, none⟩ = some (.int .i64 ea) := hb.cellK; have n2 : w1.cell? ⟨w.heap.size + 1, 0, none⟩ = some (.int .i64 nb) := hb.cellK; have n3 : w1.cell? ⟨w.heap.size + 1, 1, none⟩ = some (.int .i64 eb) := hb.cellK; have n4 : w1.cell? ⟨w.heap.size + 2, 0, none⟩ = some (.int .i64 0) := hb.cellK; have n5 : w1.cell? ⟨w.heap.size + 2, 1, none⟩ = some (.int .i64 0) := hb.cellK; have nz0 : w1.frozen? ⟨w.heap.size + 2, 0, none⟩ = false := hb.frzK; have nz1 : w1.frozen? ⟨w.heap.size + 2, 1, none⟩ = false := hb.frzK; (first | (have nx := Ext.trans hx hb; clear hx) | (have nx := Ext.trans (hx.alloc _) hb; clear hx) | (have nx := Ext.trans hx.drew hb; clear hx) | have nx := hb); clear hb; try clear hs; try clear g0; try clear g1; try clear g2; try clear g3; try clear g4; try clear g5; try clear z0; try clear z1; have hx := nx; clear nx; have hs := ns; clear ns; have g0 := n0; clear n0; have g1 := n1; clear n1; have g2 := n2; clear n2; have g3 := n3; clear n3; have g4 := n4; clear n4; have g5 := n5; clear n5; have z0 := nz0; clear nz0; have z1 := nz1; clear nz1)
    exact bodyPost_ret (v := .tuple #[two 0 0, .bool false]) (by simp [results, Tryd.results25, go_sem, *]) rfl ⟨rfl, Ext.auK⟩
  · have hb0 : dyB nb eb = false := by unfold dy2B at hg; rw [ha] at hg; simpa using hg
    clear hg
    go_enter Tryd.func25, Tryd.ntmps25
    go_wp2_with (go_at_call 61; refine (rdGood_any _ _ _).mono ?_; rintro rv w1 ⟨rfl, hb⟩; have ns : w.heap.size + 2 < w1.heap.size := hb.ltK; have n0 : w1.cell? ⟨w.heap.size, 0, none⟩ = some (.int .i64 na) := hb.cellK; have n1 : w1.cell? ⟨w.heap.size, 1, none⟩ = some (.int .i64 ea) := hb.cellK; have n2 : w1.cell? ⟨w.heap.size + 1, 0, none⟩ = some (.int .i64 nb) := hb.cellK; have n3 : w1.cell? ⟨w.heap.size + 1, 1, none⟩ = some (.int .i64 eb) := hb.cellK; have n4 : w1.cell? ⟨w.heap.size + 2, 0, none⟩ = some (.int .i64 0) := hb.cellK; have n5 : w1.cell? ⟨w.heap.size + 2, 1, none⟩ = some (.int .i64 0) := hb.cellK; have nz0 : w1.frozen? ⟨w.heap.size + 2, 0, none⟩ = false := hb.frzK; have nz1 : w1.frozen? ⟨w.heap.size + 2, 1, none⟩ = false := hb.frzK; (first | (have nx := Ext.trans hx hb; clear hx) | (have nx := Ext.trans (hx.alloc _) hb; clear hx) | (have nx := Ext.trans hx.drew hb; clear hx) | have nx := hb); clear hb; try clear hs; try clear g0; try clear g1; try clear g2; try clear g3; try clear g4; try clear g5; try clear z0; try clear z1; have hx := nx; clear nx; have hs := ns; clear ns; have g0 := n0; clear n0; have g1 := n1; clear n1; have g2 := n2; clear n2; have g3 := n3; clear n3; have g4 := n4; clear n4; have g5 := n5; clear n5; have z0 := nz0; clear nz0; have z1 := nz1; clear nz1)
    exact bodyPost_ret (v := .tuple #[two 0 0, .bool false]) (by simp [results, Tryd.results25, go_sem, *]) rfl ⟨rfl, Ext.auK⟩

theorem sPlusDyadic_yes (na ea nb eb : Int) (hg : dy2B na ea nb eb = true) (w : World) : Calls Tryd.prog 25 #[two na ea, two nb eb] w fun rv w' => rv = .returned (.tuple #[two (suN na ea nb eb) (suE na ea nb eb), .bool (suB na ea nb eb)]) ∧ Ext w w' := by
  obtain ⟨ha, hb⟩ := dy2_iff.1 hg
  go_enter Tryd.func25, Tryd.ntmps25
  go_wp2_with (first | (go_at_call 61; refine (rdGood_any _ _ _).mono ?_; rintro rv w1 ⟨rfl, hb⟩; have ns : w.heap.size + 2 < w1.heap.size := hb.ltK; have n0 : w1.cell? ⟨w.heap.size, 0, none⟩ = some (.int .i64 na) := hb.cellK; have n1 : w1.cell? ⟨w.heap.size, 1, none⟩ = some (.int .i64 ea) := hb.cellK; have n2 : w1.cell? ⟨w.heap.size + 1, 0, none⟩ = some (.int .i64 nb) := hb.cellK; have n3 : w1.cell? ⟨w.heap.size + 1, 1, none⟩ = some (.int .i64 eb) := hb.cellK; have n4 : w1.cell? ⟨w.heap.size + 2, 0, none⟩ = some (.int .i64 0) := hb.cellK; have n5 : w1.cell? ⟨w.heap.size + 2, 1, none⟩ = some (.int .i64 0) := hb.cellK; have nz0 : w1.frozen? ⟨w.heap.size + 2, 0, none⟩ = false := hb.frzK; have nz1 : w1.frozen? ⟨w.heap.size + 2, 1, none⟩ = false := hb.frzK; (first | (have nx := Ext.trans hx hb; clear hx) | (have nx := Ext.trans (hx.alloc _) hb; clear hx) | (have nx := Ext.trans hx.drew hb; clear hx) | have nx := hb); clear hb; try clear hs; try clear g0; try clear g1; try clear g2; try clear g3; try clear g4; try clear g5; try clear z0; try clear z1; have hx := nx; clear nx; have hs := ns; clear ns; have g0 := n0; clear n0; have g1 := n1; clear n1; have g2 := n2; clear n2; have g3 := n3; clear n3; have g4 := n4; clear n4; have g5 := n5; clear n5; have z0 := nz0; clear nz0; have z1 := nz1; clear nz1) | (go_at_call 62; refine (rdPlus_any na ea nb eb ha hb _).mono ?_; rintro rv w1 ⟨rfl, hb⟩; have ns : w.heap.size + 2 < w1.heap.size := hb.ltK; have n0 : w1.cell? ⟨w.heap.size, 0, none⟩ = some (.int .i64 na) := hb.cellK; have n1 : w1.cell? ⟨w.heap.size, 1, none⟩ = some (.int .i64 ea) := hb.cellK; have n2 : w1.cell? ⟨w.heap.size + 1, 0, none⟩ = some (.int .i64 nb) := hb.cellK; have n3 : w1.cell? ⟨w.heap.size + 1, 1, none⟩ = some (.int .i64 eb) := hb.cellK; have n4 : w1.cell? ⟨w.heap.size + 2, 0, none⟩ = some (.int .i64 0) := hb.cellK; have n5 : w1.cell? ⟨w.heap.size + 2, 1, none⟩ = some (.int .i64 0) := hb.cellK; have nz0 : w1.frozen? ⟨w.heap.size + 2, 0, none⟩ = false := hb.frzK; have nz1 : w1.frozen? ⟨w.heap.size + 2, 1, none⟩ = false := hb.frzK; (first | (have nx := Ext.trans hx hb; clear hx) | (have nx := Ext.trans (hx.alloc _) hb; clear hx) | (have nx := Ext.trans hx.drew hb; clear hx) | have nx := hb); clear hb; try clear hs; try clear g0; try clear g1; try clear g2; try clear g3; try clear g4; try clear g5; try clear z0; try clear z1; have hx := nx; clear nx; have hs := ns; clear ns; have g0 := n0; clear n0; have g1 := n1; clear n1; have g2 := n2; clear n2; have g3 := n3; clear n3; have g4 := n4; clear n4; have g5 := n5; clear n5; have z0 := nz0; clear nz0; have z1 := nz1; clear nz1))
  exact bodyPost_ret (v := .tuple #[two (suN na ea nb eb) (suE na ea nb eb), .bool (suB na ea nb eb)]) (by simp [results, Tryd.results25, go_sem, *]) rfl ⟨rfl, Ext.auK⟩

theorem iPlusDyadic_no (na ea nb eb : Int) (hg : dy2B na ea nb eb = false) (w : World) : Calls Tryd.prog 27 #[two na ea, two nb eb] w fun rv w' => rv = .returned (.tuple #[two 0 0, .bool false]) ∧ Ext w w' := by
  cases ha : dyB na ea
  · go_enter Tryd.func27, Tryd.ntmps27
    go_wp2_with (go_at_call 63; refine (iIsDyadic_any _ _ _).mono ?_; rintro rv w1 ⟨rfl, hb⟩; have ns : w.heap.size + 2 < w1.heap.size := hb.ltK; have n0 : w1.cell? ⟨w.heap.size, 0, none⟩ = some (.int .i64 na) := hb.cellK; have n1 : w1.cell? ⟨w.heap.size, 1, none⟩ = some (.int .i64 ea) := hb.cellK; have n2 : w1.cell? ⟨w.heap.size + 1, 0, none⟩ = some (.int .i64 nb) := hb.cellK; have n3 : w1.cell? ⟨w.heap.size + 1, 1, none⟩ = some (.int .i64 eb) := hb.cellK; have n4 : w1.cell? ⟨w.heap.size + 2, 0, none⟩ = some (.int .i64 0) := hb.cellK; have n5 : w1.cell? ⟨w.heap.size + 2, 1, none⟩ = some (.int .i64 0) := hb.cellK; have nz0 : w1.frozen? ⟨w.heap.size + 2, 0, none⟩ = false := hb.frzK; have nz1 : w1.frozen? ⟨w.heap.size + 2, 1, none⟩ = false := hb.frzK; (first | (have nx := Ext.trans hx hb; clear hx) | (have nx := Ext.trans (hx.alloc _) hb; clear hx) | (have nx := Ext.trans hx.drew hb; clear hx) | have nx := hb); clear hb; try clear hs; try clear g0; try clear g1; try clear g2; try clear g3; try clear g4; try clear g5; try clear z0; try clear z1; have hx := nx; clear nx; have hs := ns; clear ns; have g0 := n0; clear n0; have g1 := n1; clear n1; have g2 := n2; clear n2; have g3 := n3; clear n3; have g4 := n4; clear n4; have g5 := n5; clear n5; have z0 := nz0; clear nz0; have z1 := nz1; clear nz1)
    exact bodyPost_ret (v := .tuple #[two 0 0, .bool false]) (by simp [results, Tryd.results27, go_sem, *]) rfl ⟨rfl, Ext.auK⟩
  · have hb0 : dyB nb eb = false := by unfold dy2B at hg; rw [ha] at hg; simpa using hg
    clear hg
    go_enter Tryd.func27, Tryd.ntmps27
    go_wp2_with (go_at_call 63; refine (iIsDyadic_any _ _ _).mono ?_; rintro rv w1 ⟨rfl, hb⟩; have ns : w.heap.size + 2 < w1.heap.size := hb.ltK; have n0 : w1.cell? ⟨w.heap.size, 0, none⟩ = some (.int .i64 na) := hb.cellK; have n1 : w1.cell? ⟨w.heap.size, 1, none⟩ = some (.int .i64 ea) := hb.cellK; have n2 : w1.cell? ⟨w.heap.size + 1, 0, none⟩ = some (.int .i64 nb) := hb.cellK; have n3 : w1.cell? ⟨w.heap.size + 1, 1, none⟩ = some (.int .i64 eb) := hb.cellK; have n4 : w1.cell? ⟨w.heap.size + 2, 0, none⟩ = some (.int .i64 0) := hb.cellK; have n5 : w1.cell? ⟨w.heap.size + 2, 1, none⟩ = some (.int .i64 0) := hb.cellK; have nz0 : w1.frozen? ⟨w.heap.size + 2, 0, none⟩ = false := hb.frzK; have nz1 : w1.frozen? ⟨w.heap.size + 2, 1, none⟩ = false := hb.frzK; (first | (have nx := Ext.trans hx hb; clear hx) | (have nx := Ext.trans (hx.alloc _) hb; clear hx) | (have nx := Ext.trans hx.drew hb; clear hx) | have nx := hb); clear hb; try clear hs; try clear g0; try clear g1; try clear g2; try clear g3; try clear g4; try clear g5; try clear z0; try clear z1; have hx := nx; clear nx; have hs := ns; clear ns; have g0 := n0; clear n0; have g1 := n1; clear n1; have g2 := n2; clear n2; have g3 := n3; clear n3; have g4 := n4; clear n4; have g5 := n5; clear n5; have z0 := nz0; clear nz0; have z1 := nz1; clear nz1)
    exact bodyPost_ret (v := .tuple #[two 0 0, .bool false]) (by simp [results, Tryd.results27, go_sem, *]) rfl ⟨rfl, Ext.auK⟩

theorem dy_zero {n d : Int} (h : dyB n d = true) : (n == 0 && d == 0) = (n == 0) := by
  obtain ⟨_, h5⟩ := dy_iff.1 h
  by_cases h0 : n = 0
  · subst h0; simp; omega
  · simp [h0]

set_option maxHeartbeats 1600000 in
theorem sumOf_za (na ea nb eb : Int) (ha : dyB na ea = true) (hb : dyB nb eb = true) (h0 : na = 0) (w : World) (hT : TW w) : Calls Tryd.prog 64 #[two na ea, two nb eb] w fun rv w' => rv = .returned (.tuple #[two (suN na ea nb eb) (suE na ea nb eb), .bool (suB na ea nb eb)]) ∧ Ext w w' := by
  obtain ⟨e1, e2, e3⟩ := su_za (ea := ea) (nb := nb) (eb := eb) h0
  have E1 := Lib.hid e1; have E2 := Lib.hid e2; have E3 := Lib.hid e3; clear e1 e2 e3
  have kz : ∀ w, (Instr.build 23 #[]).run Tryd.prog w = .ok (two 0 0) w := fun w => run_build w _ _ _ (by kernel_rfl)
  have q := eqDy na ea 0 0
  rw [dy_zero ha, show (na == 0) = true by simpa using h0] at q
  obtain ⟨⟨b1, b2, b3, b4⟩, _⟩ := dy_iff.1 hb
  have LW := fun (w : World) (hT : TW w) => lowest_any nb eb (by omega) (by omega) (by omega) (by omega) w hT
  obtain ⟨n1, n2, n3⟩ := nf_self hb
  rw [n1, n2, n3] at LW
  have LW := Lib.hid LW
  clear h0 b1 b2 b3 b4 n1 n2 n3
  go_enter Tryd.func64, Tryd.ntmps64
  go_wp2_with (go_at_call 53; refine (LW.out _ (hT.ext Ext.auK)).mono ?_; rintro rv w1 ⟨rfl, hb⟩; have ns : w.heap.size + 2 < w1.heap.size := hb.ltK; have n0 : w1.cell? ⟨w.heap.size, 0, none⟩ = some (.int .i64 na) := hb.cellK; have n1 : w1.cell? ⟨w.heap.size, 1, none⟩ = some (.int .i64 ea) := hb.cellK; have n2 : w1.cell? ⟨w.heap.size + 1, 0, none⟩ = some (.int .i64 nb) := hb.cellK; have n3 : w1.cell? ⟨w.heap.size + 1, 1, none⟩ = some (.int .i64 eb) := hb.cellK; have n4 : w1.cell? ⟨w.heap.size + 2, 0, none⟩ = some (.int .i64 0) := hb.cellK; have n5 : w1.cell? ⟨w.heap.size + 2, 1, none⟩ = some (.int .i64 0) := hb.cellK; have nz0 : w1.frozen? ⟨w.heap.size + 2, 0, none⟩ = false := hb.frzK; have nz1 : w1.frozen? ⟨w.heap.size + 2, 1, none⟩ = false := hb.frzK; (first | (have nx := Ext.trans hx hb; clear hx) | (have nx := Ext.trans (hx.alloc _) hb; clear hx) | (have nx := Ext.trans hx.drew hb; clear hx) | have nx := hb); clear hb; try clear hs; try clear g0; try clear g1; try clear g2; try clear g3; try clear g4; try clear g5; try clear z0; try clear z1; have hx := nx; clear nx; have hs := ns; clear ns; have g0 := n0; clear n0; have g1 := n1; clear n1; have g2 := n2; clear n2; have g3 := n3; clear n3; have g4 := n4; clear n4; have g5 := n5; clear n5; have z0 := nz0; clear nz0; have z1 := nz1; clear nz1)
  exact bodyPost_ret (v := .tuple #[two (nb) (eb), .bool true]) (by simp [results, Tryd.results64, go_sem, *]) rfl ⟨ret_d E1.out.symm E2.out.symm E3.out.symm, Ext.auK⟩

set_option maxHeartbeats 1600000 in
theorem sumOf_zb (na ea nb eb : Int) (ha : dyB na ea = true) (hb : dyB nb eb = true) (h0 : na ≠ 0) (h1 : nb = 0) (w : World) : Calls Tryd.prog 64 #[two na ea, two nb eb] w fun rv w' => rv = .returned (.tuple #[two (suN na ea nb eb) (suE na ea nb eb), .bool (suB na ea nb eb)]) ∧ Ext w w' := by
  obtain ⟨e1, e2, e3⟩ := su_zb (ea := ea) (eb := eb) h0 h1
  have E1 := Lib.hid e1; have E2 := Lib.hid e2; have E3 := Lib.hid e3; clear e1 e2 e3
  have kz : ∀ w, (Instr.build 23 #[]).run Tryd.prog w = .ok (two 0 0) w := fun w => run_build w _ _ _ (by kernel_rfl)
  have q := eqDy na ea 0 0
  rw [dy_zero ha, show (na == 0) = false by simpa using h0] at q
  have q2 := eqDy nb eb 0 0
  rw [dy_zero hb, show (nb == 0) = true by simpa using h1] at q2
  clear h0 h1
  go_enter Tryd.func64, Tryd.ntmps64
  go_wp2_with fail
  exact bodyPost_ret (v := .tuple #[two (na) (ea), .bool true]) (by simp [results, Tryd.results64, go_sem, *]) rfl ⟨ret_d E1.out.symm E2.out.symm E3.out.symm, Ext.auK⟩

set_option maxHeartbeats 3200000 in
theorem sumOf_no1 (na ea nb eb : Int) (ha : dyB na ea = true) (hb : dyB nb eb = true) (h0 : na ≠ 0) (h1 : nb ≠ 0) (hr : rmB 62 na ea nb eb = false) (hq : 62 < plV na + (ea - min ea eb)) (w : World) : Calls Tryd.prog 64 #[two na ea, two nb eb] w fun rv w' => rv = .returned (.tuple #[two (suN na ea nb eb) (suE na ea nb eb), .bool (suB na ea nb eb)]) ∧ Ext w w' := by
  obtain ⟨⟨a1, a2, a3, a4⟩, _⟩ := dy_iff.1 ha
  obtain ⟨⟨b1, b2, b3, b4⟩, _⟩ := dy_iff.1 hb
  obtain ⟨e1, e2, e3⟩ := su_none (ea := ea) (eb := eb) h0 h1 hr
  have E1 := Lib.hid e1; have E2 := Lib.hid e2; have E3 := Lib.hid e3; clear e1 e2 e3
  have kz : ∀ w, (Instr.build 23 #[]).run Tryd.prog w = .ok (two 0 0) w := fun w => run_build w _ _ _ (by kernel_rfl)
  have q := eqDy na ea 0 0
  rw [dy_zero ha, show (na == 0) = false by simpa using h0] at q
  have q2 := eqDy nb eb 0 0
  rw [dy_zero hb, show (nb == 0) = false by simpa using h1] at q2
  clear h0 h1 hr
  go_enter Tryd.func64, Tryd.ntmps64
  go_wp2_with (first | (go_at_call 97; (with_reducible refine (shifted_no na ea _ ha (by omega) (by omega) (by omega) _).mono ?_); rintro rv w1 ⟨rfl, hb⟩; have ns : w.heap.size + 2 < w1.heap.size := hb.ltK; have n0 : w1.cell? ⟨w.heap.size, 0, none⟩ = some (.int .i64 na) := hb.cellK; have n1 : w1.cell? ⟨w.heap.size, 1, none⟩ = some (.int .i64 ea) := hb.cellK; have n2 : w1.cell? ⟨w.heap.size + 1, 0, none⟩ = some (.int .i64 nb) := hb.cellK; have n3 : w1.cell? ⟨w.heap.size + 1, 1, none⟩ = some (.int .i64 eb) := hb.cellK; have n4 : w1.cell? ⟨w.heap.size + 2, 0, none⟩ = some (.int .i64 0) := hb.cellK; have n5 : w1.cell? ⟨w.heap.size + 2, 1, none⟩ = some (.int .i64 0) := hb.cellK; have nz0 : w1.frozen? ⟨w.heap.size + 2, 0, none⟩ = false := hb.frzK; have nz1 : w1.frozen? ⟨w.heap.size + 2, 1, none⟩ = false := hb.frzK; (first | (have nx := Ext.trans hx hb; clear hx) | (have nx := Ext.trans (hx.alloc _) hb; clear hx) | (have nx := Ext.trans hx.drew hb; clear hx) | have nx := hb); clear hb; try clear hs; try clear g0; try clear g1; try clear g2; try clear g3; try clear g4; try clear g5; try clear z0; try clear z1; have hx := nx; clear nx; have hs := ns; clear ns; have g0 := n0; clear n0; have g1 := n1; clear n1; have g2 := n2; clear n2; have g3 := n3; clear n3; have g4 := n4; clear n4; have g5 := n5; clear n5; have z0 := nz0; clear nz0; have z1 := nz1; clear nz1))
  exact bodyPost_ret (v := .tuple #[two 0 0, .bool false]) (by simp [results, Tryd.results64, go_sem, *]) rfl ⟨ret_d E1.out.symm E2.out.symm E3.out.symm, Ext.auK⟩

set_option maxHeartbeats 3200000 in
theorem sumOf_no2 (na ea nb eb : Int) (ha : dyB na ea = true) (hb : dyB nb eb = true) (h0 : na ≠ 0) (h1 : nb ≠ 0) (hr : rmB 62 na ea nb eb = false) (hq : plV na + (ea - min ea eb) ≤ 62) (hq2 : 62 < plV nb + (eb - min ea eb)) (w : World) : Calls Tryd.prog 64 #[two na ea, two nb eb] w fun rv w' => rv = .returned (.tuple #[two (suN na ea nb eb) (suE na ea nb eb), .bool (suB na ea nb eb)]) ∧ Ext w w' := by
  obtain ⟨⟨a1, a2, a3, a4⟩, _⟩ := dy_iff.1 ha
  obtain ⟨⟨b1, b2, b3, b4⟩, _⟩ := dy_iff.1 hb
  obtain ⟨e1, e2, e3⟩ := su_none (ea := ea) (eb := eb) h0 h1 hr
  have E1 := Lib.hid e1; have E2 := Lib.hid e2; have E3 := Lib.hid e3; clear e1 e2 e3
  have kz : ∀ w, (Instr.build 23 #[]).run Tryd.prog w = .ok (two 0 0) w := fun w => run_build w _ _ _ (by kernel_rfl)
  have q := eqDy na ea 0 0
  rw [dy_zero ha, show (na == 0) = false by simpa using h0] at q
  have q2 := eqDy nb eb 0 0
  rw [dy_zero hb, show (nb == 0) = false by simpa using h1] at q2
  clear h0 h1 hr
  go_enter Tryd.func64, Tryd.ntmps64
  go_wp2_with (first | (go_at_call 97; (with_reducible refine (shifted_yes na ea _ ha (by omega) (by omega) (by omega) _).mono ?_); rintro rv w1 ⟨rfl, hb⟩; have ns : w.heap.size + 2 < w1.heap.size := hb.ltK; have n0 : w1.cell? ⟨w.heap.size, 0, none⟩ = some (.int .i64 na) := hb.cellK; have n1 : w1.cell? ⟨w.heap.size, 1, none⟩ = some (.int .i64 ea) := hb.cellK; have n2 : w1.cell? ⟨w.heap.size + 1, 0, none⟩ = some (.int .i64 nb) := hb.cellK; have n3 : w1.cell? ⟨w.heap.size + 1, 1, none⟩ = some (.int .i64 eb) := hb.cellK; have n4 : w1.cell? ⟨w.heap.size + 2, 0, none⟩ = some (.int .i64 0) := hb.cellK; have n5 : w1.cell? ⟨w.heap.size + 2, 1, none⟩ = some (.int .i64 0) := hb.cellK; have nz0 : w1.frozen? ⟨w.heap.size + 2, 0, none⟩ = false := hb.frzK; have nz1 : w1.frozen? ⟨w.heap.size + 2, 1, none⟩ = false := hb.frzK; (first | (have nx := Ext.trans hx hb; clear hx) | (have nx := Ext.trans (hx.alloc _) hb; clear hx) | (have nx := Ext.trans hx.drew hb; clear hx) | have nx := hb); clear hb; try clear hs; try clear g0; try clear g1; try clear g2; try clear g3; try clear g4; try clear g5; try clear z0; try clear z1; have hx := nx; clear nx; have hs := ns; clear ns; have g0 := n0; clear n0; have g1 := n1; clear n1; have g2 := n2; clear n2; have g3 := n3; clear n3; have g4 := n4; clear n4; have g5 := n5; clear n5; have z0 := nz0; clear nz0; have z1 := nz1; clear nz1) | (go_at_call 97; (with_reducible refine (shifted_no nb eb _ hb (by omega) (by omega) (by omega) _).mono ?_); rintro rv w1 ⟨rfl, hb⟩; have ns : w.heap.size + 2 < w1.heap.size := hb.ltK; have n0 : w1.cell? ⟨w.heap.size, 0, none⟩ = some (.int .i64 na) := hb.cellK; have n1 : w1.cell? ⟨w.heap.size, 1, none⟩ = some (.int .i64 ea) := hb.cellK; have n2 : w1.cell? ⟨w.heap.size + 1, 0, none⟩ = some (.int .i64 nb) := hb.cellK; have n3 : w1.cell? ⟨w.heap.size + 1, 1, none⟩ = some (.int .i64 eb) := hb.cellK; have n4 : w1.cell? ⟨w.heap.size + 2, 0, none⟩ = some (.int .i64 0) := hb.cellK; have n5 : w1.cell? ⟨w.heap.size + 2, 1, none⟩ = some (.int .i64 0) := hb.cellK; have nz0 : w1.frozen? ⟨w.heap.size + 2, 0, none⟩ = false := hb.frzK; have nz1 : w1.frozen? ⟨w.heap.size + 2, 1, none⟩ = false := hb.frzK; (first | (have nx := Ext.trans hx hb; clear hx) | (have nx := Ext.trans (hx.alloc _) hb; clear hx) | (have nx := Ext.trans hx.drew hb; clear hx) | have nx := hb); clear hb; try clear hs; try clear g0; try clear g1; try clear g2; try clear g3; try clear g4; try clear g5; try clear z0; try clear z1; have hx := nx; clear nx; have hs := ns; clear ns; have g0 := n0; clear n0; have g1 := n1; clear n1; have g2 := n2; clear n2; have g3 := n3; clear n3; have g4 := n4; clear n4; have g5 := n5; clear n5; have z0 := nz0; clear nz0; have z1 := nz1; clear nz1))
  exact bodyPost_ret (v := .tuple #[two 0 0, .bool false]) (by simp [results, Tryd.results64, go_sem, *]) rfl ⟨ret_d E1.out.symm E2.out.symm E3.out.symm, Ext.auK⟩

set_option maxHeartbeats 3200000 in
theorem sumOf_sum (na ea nb eb : Int) (ha : dyB na ea = true) (hb : dyB nb eb = true) (h0 : na ≠ 0) (h1 : nb ≠ 0) (hr : rmB 62 na ea nb eb = true) (w : World) (hT : TW w) : Calls Tryd.prog 64 #[two na ea, two nb eb] w fun rv w' => rv = .returned (.tuple #[two (suN na ea nb eb) (suE na ea nb eb), .bool (suB na ea nb eb)]) ∧ Ext w w' := by
  obtain ⟨⟨a1, a2, a3, a4⟩, _⟩ := dy_iff.1 ha
  obtain ⟨⟨b1, b2, b3, b4⟩, _⟩ := dy_iff.1 hb
  obtain ⟨e1, e2, e3⟩ := su_off ha hb h0 h1 hr
  have E1 := Lib.hid e1; have E2 := Lib.hid e2; have E3 := Lib.hid e3; clear e1 e2 e3
  obtain ⟨⟨p1, p2⟩, ⟨p3, p4⟩⟩ := su_bd ha hb (by decide) hr
  obtain ⟨hq, hq2⟩ := room_any.1 hr
  unfold suL at hq hq2 p1 p2 p3 p4
  have kz : ∀ w, (Instr.build 23 #[]).run Tryd.prog w = .ok (two 0 0) w := fun w => run_build w _ _ _ (by kernel_rfl)
  have q := eqDy na ea 0 0
  rw [dy_zero ha, show (na == 0) = false by simpa using h0] at q
  have q2 := eqDy nb eb 0 0
  rw [dy_zero hb, show (nb == 0) = false by simpa using h1] at q2
  have k1 : IntKind.i64.wrap (na * pw (ea - min ea eb) + nb * pw (eb - min ea eb)) = na * pw (ea - min ea eb) + nb * pw (eb - min ea eb) := IntWalk.i64_in _ (by omega)
  clear h0 h1 hr
  go_enter Tryd.func64, Tryd.ntmps64
  go_wp2_with (first | (go_at_call 97; (with_reducible refine (shifted_yes na ea _ ha (by omega) (by omega) (by omega) _).mono ?_); rintro rv w1 ⟨rfl, hb⟩; have ns : w.heap.size + 2 < w1.heap.size := hb.ltK; have n0 : w1.cell? ⟨w.heap.size, 0, none⟩ = some (.int .i64 na) := hb.cellK; have n1 : w1.cell? ⟨w.heap.size, 1, none⟩ = some (.int .i64 ea) := hb.cellK; have n2 : w1.cell? ⟨w.heap.size + 1, 0, none⟩ = some (.int .i64 nb) := hb.cellK; have n3 : w1.cell? ⟨w.heap.size + 1, 1, none⟩ = some (.int .i64 eb) := hb.cellK; have n4 : w1.cell? ⟨w.heap.size + 2, 0, none⟩ = some (.int .i64 0) := hb.cellK; have n5 : w1.cell? ⟨w.heap.size + 2, 1, none⟩ = some (.int .i64 0) := hb.cellK; have nz0 : w1.frozen? ⟨w.heap.size + 2, 0, none⟩ = false := hb.frzK; have nz1 : w1.frozen? ⟨w.heap.size + 2, 1, none⟩ = false := hb.frzK; (first | (have nx := Ext.trans hx hb; clear hx) | (have nx := Ext.trans (hx.alloc _) hb; clear hx) | (have nx := Ext.trans hx.drew hb; clear hx) | have nx := hb); clear hb; try clear hs; try clear g0; try clear g1; try clear g2; try clear g3; try clear g4; try clear g5; try clear z0; try clear z1; have hx := nx; clear nx; have hs := ns; clear ns; have g0 := n0; clear n0; have g1 := n1; clear n1; have g2 := n2; clear n2; have g3 := n3; clear n3; have g4 := n4; clear n4; have g5 := n5; clear n5; have z0 := nz0; clear nz0; have z1 := nz1; clear nz1) | (go_at_call 97; (with_reducible refine (shifted_yes nb eb _ hb (by omega) (by omega) (by omega) _).mono ?_); rintro rv w1 ⟨rfl, hb⟩; have ns : w.heap.size + 2 < w1.heap.size := hb.ltK; have n0 : w1.cell? ⟨w.heap.size, 0, none⟩ = some (.int .i64 na) := hb.cellK; have n1 : w1.cell? ⟨w.heap.size, 1, none⟩ = some (.int .i64 ea) := hb.cellK; have n2 : w1.cell? ⟨w.heap.size + 1, 0, none⟩ = some (.int .i64 nb) := hb.cellK; have n3 : w1.cell? ⟨w.heap.size + 1, 1, none⟩ = some (.int .i64 eb) := hb.cellK; have n4 : w1.cell? ⟨w.heap.size + 2, 0, none⟩ = some (.int .i64 0) := hb.cellK; have n5 : w1.cell? ⟨w.heap.size + 2, 1, none⟩ = some (.int .i64 0) := hb.cellK; have nz0 : w1.frozen? ⟨w.heap.size + 2, 0, none⟩ = false := hb.frzK; have nz1 : w1.frozen? ⟨w.heap.size + 2, 1, none⟩ = false := hb.frzK; (first | (have nx := Ext.trans hx hb; clear hx) | (have nx := Ext.trans (hx.alloc _) hb; clear hx) | (have nx := Ext.trans hx.drew hb; clear hx) | have nx := hb); clear hb; try clear hs; try clear g0; try clear g1; try clear g2; try clear g3; try clear g4; try clear g5; try clear z0; try clear z1; have hx := nx; clear nx; have hs := ns; clear ns; have g0 := n0; clear n0; have g1 := n1; clear n1; have g2 := n2; clear n2; have g3 := n3; clear n3; have g4 := n4; clear n4; have g5 := n5; clear n5; have z0 := nz0; clear nz0; have z1 := nz1; clear nz1) | (go_at_call 53; refine (lowest_any _ _ (by omega) (by omega) (by omega) (by omega) _ (hT.ext Ext.auK)).mono ?_; rintro rv w1 ⟨rfl, hb⟩; have ns : w.heap.size + 2 < w1.heap.size := hb.ltK; have n0 : w1.cell? ⟨w.heap.size, 0, none⟩ = some (.int .i64 na) := hb.cellK; have n1 : w1.cell? ⟨w.heap.size, 1, none⟩ = some (.int .i64 ea) := hb.cellK; have n2 : w1.cell? ⟨w.heap.size + 1, 0, none⟩ = some (.int .i64 nb) := hb.cellK; have n3 : w1.cell? ⟨w.heap.size + 1, 1, none⟩ = some (.int .i64 eb) := hb.cellK; have n4 : w1.cell? ⟨w.heap.size + 2, 0, none⟩ = some (.int .i64 0) := hb.cellK; have n5 : w1.cell? ⟨w.heap.size + 2, 1, none⟩ = some (.int .i64 0) := hb.cellK; have nz0 : w1.frozen? ⟨w.heap.size + 2, 0, none⟩ = false := hb.frzK; have nz1 : w1.frozen? ⟨w.heap.size + 2, 1, none⟩ = false := hb.frzK; (first | (have nx := Ext.trans hx hb; clear hx) | (have nx := Ext.trans (hx.alloc _) hb; clear hx) | (have nx := Ext.trans hx.drew hb; clear hx) | have nx := hb); clear hb; try clear hs; try clear g0; try clear g1; try clear g2; try clear g3; try clear g4; try clear g5; try clear z0; try clear z1; have hx := nx; clear nx; have hs := ns; clear ns; have g0 := n0; clear n0; have g1 := n1; clear n1; have g2 := n2; clear n2; have g3 := n3; clear n3; have g4 := n4; clear n4; have g5 := n5; clear n5; have z0 := nz0; clear nz0; have z1 := nz1; clear nz1))
  exact bodyPost_ret (v := .tuple #[two (nfN (na * pw (ea - min ea eb) + nb * pw (eb - min ea eb)) (min ea eb)) (nfE (na * pw (ea - min ea eb) + nb * pw (eb - min ea eb)) (min ea eb)), .bool (nfB (na * pw (ea - min ea eb) + nb * pw (eb - min ea eb)) (min ea eb))]) (by simp [results, Tryd.results64, go_sem, *]) rfl ⟨ret_d E1.out.symm E2.out.symm E3.out.symm, Ext.auK⟩

theorem sumOf_any (na ea nb eb : Int) (ha : dyB na ea = true) (hb : dyB nb eb = true) (w : World) (hT : TW w) : Calls Tryd.prog 64 #[two na ea, two nb eb] w fun rv w' => rv = .returned (.tuple #[two (suN na ea nb eb) (suE na ea nb eb), .bool (suB na ea nb eb)]) ∧ Ext w w' := by
  by_cases h0 : na = 0
  · exact sumOf_za na ea nb eb ha hb h0 w hT
  · by_cases h1 : nb = 0
    · exact sumOf_zb na ea nb eb ha hb h0 h1 w
    · cases hr : rmB 62 na ea nb eb
      · by_cases hq : 62 < plV na + (ea - min ea eb)
        · exact sumOf_no1 na ea nb eb ha hb h0 h1 hr hq w
        · by_cases hq2 : 62 < plV nb + (eb - min ea eb)
          · exact sumOf_no2 na ea nb eb ha hb h0 h1 hr (by omega) hq2 w
          · rw [room_any.2 (show plV na + (ea - suL ea eb) ≤ 62 ∧ plV nb + (eb - suL ea eb) ≤ 62 by unfold suL; omega)] at hr
            cases hr
      · exact sumOf_sum na ea nb eb ha hb h0 h1 hr w hT

theorem iPlusDyadic_yes (na ea nb eb : Int) (hg : dy2B na ea nb eb = true) (w : World) (hT : TW w) : Calls Tryd.prog 27 #[two na ea, two nb eb] w fun rv w' => rv = .returned (.tuple #[two (suN na ea nb eb) (suE na ea nb eb), .bool (suB na ea nb eb)]) ∧ Ext w w' := by
  obtain ⟨ha, hb⟩ := dy2_iff.1 hg
  have SC := Lib.hid (fun (w : World) (hT : TW w) => sumOf_any na ea nb eb ha hb w hT)
  have hi := dy2_iff.2 ⟨ha, hb⟩
  clear hg
  go_enter Tryd.func27, Tryd.ntmps27
  go_wp2_with (first | (go_at_call 63; refine (iIsDyadic_any _ _ _).mono ?_; rintro rv w1 ⟨rfl, hb⟩; have ns : w.heap.size + 2 < w1.heap.size := hb.ltK; have n0 : w1.cell? ⟨w.heap.size, 0, none⟩ = some (.int .i64 na) := hb.cellK; have n1 : w1.cell? ⟨w.heap.size, 1, none⟩ = some (.int .i64 ea) := hb.cellK; have n2 : w1.cell? ⟨w.heap.size + 1, 0, none⟩ = some (.int .i64 nb) := hb.cellK; have n3 : w1.cell? ⟨w.heap.size + 1, 1, none⟩ = some (.int .i64 eb) := hb.cellK; have n4 : w1.cell? ⟨w.heap.size + 2, 0, none⟩ = some (.int .i64 0) := hb.cellK; have n5 : w1.cell? ⟨w.heap.size + 2, 1, none⟩ = some (.int .i64 0) := hb.cellK; have nz0 : w1.frozen? ⟨w.heap.size + 2, 0, none⟩ = false := hb.frzK; have nz1 : w1.frozen? ⟨w.heap.size + 2, 1, none⟩ = false := hb.frzK; (first | (have nx := Ext.trans hx hb; clear hx) | (have nx := Ext.trans (hx.alloc _) hb; clear hx) | (have nx := Ext.trans hx.drew hb; clear hx) | have nx := hb); clear hb; try clear hs; try clear g0; try clear g1; try clear g2; try clear g3; try clear g4; try clear g5; try clear z0; try clear z1; have hx := nx; clear nx; have hs := ns; clear ns; have g0 := n0; clear n0; have g1 := n1; clear n1; have g2 := n2; clear n2; have g3 := n3; clear n3; have g4 := n4; clear n4; have g5 := n5; clear n5; have z0 := nz0; clear nz0; have z1 := nz1; clear nz1) | (go_at_call 64; refine (SC.out _ (hT.ext Ext.auK)).mono ?_; rintro rv w1 ⟨rfl, hb⟩; have ns : w.heap.size + 2 < w1.heap.size := hb.ltK; have n0 : w1.cell? ⟨w.heap.size, 0, none⟩ = some (.int .i64 na) := hb.cellK; have n1 : w1.cell? ⟨w.heap.size, 1, none⟩ = some (.int .i64 ea) := hb.cellK; have n2 : w1.cell? ⟨w.heap.size + 1, 0, none⟩ = some (.int .i64 nb) := hb.cellK; have n3 : w1.cell? ⟨w.heap.size + 1, 1, none⟩ = some (.int .i64 eb) := hb.cellK; have n4 : w1.cell? ⟨w.heap.size + 2, 0, none⟩ = some (.int .i64 0) := hb.cellK; have n5 : w1.cell? ⟨w.heap.size + 2, 1, none⟩ = some (.int .i64 0) := hb.cellK; have nz0 : w1.frozen? ⟨w.heap.size + 2, 0, none⟩ = false := hb.frzK; have nz1 : w1.frozen? ⟨w.heap.size + 2, 1, none⟩ = false := hb.frzK; (first | (have nx := Ext.trans hx hb; clear hx) | (have nx := Ext.trans (hx.alloc _) hb; clear hx) | (have nx := Ext.trans hx.drew hb; clear hx) | have nx := hb); clear hb; try clear hs; try clear g0; try clear g1; try clear g2; try clear g3; try clear g4; try clear g5; try clear z0; try clear z1; have hx := nx; clear nx; have hs := ns; clear ns; have g0 := n0; clear n0; have g1 := n1; clear n1; have g2 := n2; clear n2; have g3 := n3; clear n3; have g4 := n4; clear n4; have g5 := n5; clear n5; have z0 := nz0; clear nz0; have z1 := nz1; clear nz1))
  exact bodyPost_ret (v := .tuple #[two (suN na ea nb eb) (suE na ea nb eb), .bool (suB na ea nb eb)]) (by simp [results, Tryd.results27, go_sem, *]) rfl ⟨rfl, Ext.auK⟩
end Go.Proofs.YtcbkhlaiefiieabDoor

namespace Go.Proofs.YtcbkhlaiefiieabDoor
open Go

theorem od_scale {x j : Int} (hj : 0 ≤ j) (h0 : x ≠ 0) (h1 : -9223372036854775808 < x * pw j) (h2 : x * pw j < 9223372036854775808) : odV (x * pw j) = odV x ∧ tzV (x * pw j) = tzV x + j := by
  have hp := pw_pos j
  have hx1 : -9223372036854775808 < x ∧ x < 9223372036854775808 := by
    have e : ((x * pw j).natAbs : Int) = x.natAbs * (pw j).natAbs := by rw [Int.natAbs_mul, Int.natCast_mul]
    have := Int.mul_le_mul_of_nonneg_left (show 1 ≤ ((pw j).natAbs : Int) by omega) (show 0 ≤ (x.natAbs : Int) by omega)
    omega
  obtain ⟨t0, t1, t2, t3⟩ := tz_spec x h0 hx1.1 hx1.2
  have e : x * pw j = odV x * pw (tzV x + j) := by
    rw [pw_add _ _ t0 hj, ← Int.mul_assoc, ← t2]
  have := tz_of (x * pw j) (odV x) (tzV x + j) (by omega) t3 e h1 h2
  exact ⟨this.2, this.1⟩

theorem od_odd {x : Int} (h : x % 2 = 1) (h1 : -9223372036854775808 < x) (h2 : x < 9223372036854775808) : odV x = x ∧ tzV x = 0 := by
  have := tz_of x x 0 (by decide) h (by rw [show pw 0 = 1 from rfl, Int.mul_one]) h1 h2
  exact ⟨this.2, this.1⟩

theorem mul_top {n : Int} (h1 : -4398046511104 ≤ n) (h2 : n ≤ 4398046511104) (h0 : n ≠ 0) : plV (odV n) + tzV n ≤ 43 := by
  obtain ⟨t0, t1, t2, t3⟩ := tz_spec n h0 (by omega) (by omega)
  have b := od_bd n 4398046511104 (by decide) h1 h2
  have o0 : odV n ≠ 0 := by omega
  have lo := mul_lo (n := odV n) (j := tzV n) t0 o0 (by omega) (by omega)
  rw [← t2] at lo
  apply Int.le_of_not_gt
  intro hgt
  have hm := pw_mono (a := 43) (b := plV (odV n) - 1 + tzV n) (by omega)
  rw [show pw 43 = 8796093022208 from rfl] at hm
  omega

/-- The sum of two numbers of units, each in lowest terms. -/
theorem su_units {a b u : Int} (a1 : -4398046511104 ≤ a) (a2 : a ≤ 4398046511104) (b1 : -4398046511104 ≤ b) (b2 : b ≤ 4398046511104) (u1 : -40 ≤ u) (u2 : u ≤ 0) :
    suB (odV a) (shE a u) (odV b) (shE b u) = true ∧ suN (odV a) (shE a u) (odV b) (shE b u) = odV (a + b) ∧ suE (odV a) (shE a u) (odV b) (shE b u) = shE (a + b) u := by
  by_cases za : a = 0
  · subst za
    rw [od_zero, Int.zero_add]
    exact su_za rfl
  · by_cases zb : b = 0
    · subst zb
      obtain ⟨s1, s2⟩ := od_sign (S := a) (by omega) (by omega)
      rw [od_zero, Int.add_zero]
      exact su_zb (fun h => za (s2.1 h)) rfl
    · obtain ⟨_, sa⟩ := od_sign (S := a) (by omega) (by omega)
      obtain ⟨_, sb⟩ := od_sign (S := b) (by omega) (by omega)
      obtain ⟨ta0, ta1, ta2, ta3⟩ := tz_spec a za (by omega) (by omega)
      obtain ⟨tb0, tb1, tb2, tb3⟩ := tz_spec b zb (by omega) (by omega)
      have la := tz_lt (S := a) (b := 43) za (by omega) (by omega) (by rw [show pw 43 = 8796093022208 from rfl]; omega)
      have lb := tz_lt (S := b) (b := 43) zb (by omega) (by omega) (by rw [show pw 43 = 8796093022208 from rfl]; omega)
      have ea : shE a u = u + tzV a := if_neg za
      have eb : shE b u = u + tzV b := if_neg zb
      have da := dy_low (m := a) (u := u) (by omega) (by omega) u1 (by omega)
      have db := dy_low (m := b) (u := u) (by omega) (by omega) u1 (by omega)
      obtain ⟨j, hj⟩ : ∃ j, j = min (tzV a) (tzV b) := ⟨_, rfl⟩
      have hl : suL (shE a u) (shE b u) = u + j := by unfold suL; omega
      have hS : suS (odV a) (shE a u) (odV b) (shE b u) * pw j = a + b := by
        unfold suS
        rw [hl, ea, eb, Int.add_mul, Int.mul_assoc, Int.mul_assoc, ← pw_add _ _ (by omega) (by omega), ← pw_add _ _ (by omega) (by omega),
          show u + tzV a - (u + j) + j = tzV a by omega, show u + tzV b - (u + j) + j = tzV b by omega, ← ta2, ← tb2]
      have pj := pw_pos j
      have hSb : ((suS (odV a) (shE a u) (odV b) (shE b u)).natAbs : Int) ≤ 8796093022208 := by
        have : ((suS (odV a) (shE a u) (odV b) (shE b u) * pw j).natAbs : Int) ≤ 8796093022208 := by rw [hS]; omega
        rw [Int.natAbs_mul, Int.natCast_mul] at this
        have := Int.mul_le_mul_of_nonneg_left (show 1 ≤ ((pw j).natAbs : Int) by omega) (show 0 ≤ ((suS (odV a) (shE a u) (odV b) (shE b u)).natAbs : Int) by omega)
        omega
      have hr : rmB 60 (odV a) (shE a u) (odV b) (shE b u) = true := by
        rw [room_any, hl, ea, eb]
        have oa := mul_top (n := a) (by omega) (by omega) za
        have ob := mul_top (n := b) (by omega) (by omega) zb
        omega
      obtain ⟨e1, e2, e3⟩ := su_yes (fun h => za (sa.1 h)) (fun h => zb (sb.1 h)) hr
      rw [e1, e2, e3, hl]
      generalize suS (odV a) (shE a u) (odV b) (shE b u) = S at *
      by_cases hz : S = 0
      · subst hz
        rw [Int.zero_mul] at hS
        rw [← hS, od_zero]
        exact nf_zero rfl
      · obtain ⟨o1, o2⟩ := od_scale (x := S) (j := j) (by omega) hz (by rw [hS]; omega) (by rw [hS]; omega)
        rw [hS] at o1 o2
        have hab : a + b ≠ 0 := by
          intro h0
          rw [h0] at hS
          rcases Int.mul_eq_zero.1 hS with g | g
          · exact hz g
          · omega
        have dd := dy_low (m := a + b) (u := u) (by omega) (by omega) u1 (by omega)
        rw [show shE (a + b) u = u + tzV (a + b) from if_neg hab, o1, o2] at dd
        have := nf_yes (S := S) (l := u + j) hz (by rw [show u + j + tzV S = u + (tzV S + j) by omega]; exact dd)
        rw [this.1, this.2.1, this.2.2, show shE (a + b) u = u + tzV (a + b) from if_neg hab, o1, o2]
        exact ⟨rfl, rfl, by omega⟩
end Go.Proofs.YtcbkhlaiefiieabDoor

