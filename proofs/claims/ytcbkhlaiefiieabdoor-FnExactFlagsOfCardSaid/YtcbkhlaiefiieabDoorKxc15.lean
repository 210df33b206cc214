/-
  Contracts of the functions that the laws reach, and the plain facts that they rest on, each under the conditions that its line names; part 15.
-/
import Derived.Test.YtcbkhlaiefiieabDoorKxc1
import Derived.Test.YtcbkhlaiefiieabDoorKxc2
import Derived.Test.YtcbkhlaiefiieabDoorKxc3
import Derived.Test.YtcbkhlaiefiieabDoorKxc4
import Derived.Test.YtcbkhlaiefiieabDoorKxc5
import Derived.Test.YtcbkhlaiefiieabDoorKxc6
import Derived.Test.YtcbkhlaiefiieabDoorKxc7
import Derived.Test.YtcbkhlaiefiieabDoorKxc14
import Derived.Test.YtcbkhlaiefiieabDoorRows
import Derived.WalkKit
import Derived.LoopTactic
import Derived.Laws.Bits64b
import Derived.WalkSpells
import Derived.WalkLawsBesides
import Derived.StillTactics
import Derived.Laws.Pointers
import Derived.Deep.RegionHeld3
import Derived.Deep.QuietTactic
import Derived.BigQuiet
import Derived.Outline
import Derived.Lib.Hide
import Derived.RowKit3
import Derived.Carry
import Derived.IntWalk
namespace Go.Proofs.YtcbkhlaiefiieabDoor
open Go Go.RowKit
set_option linter.unusedSimpArgs false
set_option linter.unusedVariables false

set_option maxRecDepth 100000 in
set_option maxHeartbeats 1600000 in
theorem rdOf_zero (e f n d : Int) (hg : goodB e f = true) (hd : RdIn n (d - unV e f)) (h0 : n = 0) (w : World) : Calls Tryd.prog 69 #[fmt e f, two n d] w fun rv w' => rv = .returned (.agg #[.int .i64 (0), .int .i64 (0), .int .i64 (1)]) ∧ Ext w w' := by
  obtain ⟨⟨h1, h2⟩, ⟨h3, h4⟩, h5⟩ := hd
  obtain ⟨u1, u2, u3, u4⟩ := un_bd hg
  have k0 : IntKind.i64.wrap (d - unV e f) = (d - unV e f) := IntWalk.i64_in _ (by omega)
  have z2 : ((n.natAbs : Int) == 0) = true := by simpa using h0
  clear h0
  have q : ∀ a b c : Int, ∀ w, (Instr.build 66 #[(0, .int .i64 a), (1, .int .i64 b), (2, .int .i64 c)]).run Tryd.prog w = .ok (.agg #[.int .i64 (a), .int .i64 (b), .int .i64 (c)]) w := fun a b c w => run_build w _ _ _ (by kernel_rfl)
  go_enter Tryd.func69, Tryd.ntmps69
  go_wp2_with fail
  go_region_held3 (fun w' => w'.cell? ⟨w.heap.size, 0, none⟩ = some (.int .i64 e) ∧ w'.cell? ⟨w.heap.size, 1, none⟩ = some (.int .i64 f) ∧ w'.cell? ⟨w.heap.size + 1, 0, none⟩ = some (.int .i64 n) ∧ w'.cell? ⟨w.heap.size + 1, 1, none⟩ = some (.int .i64 d) ∧ w.heap.size + 2 < w'.heap.size) ((refine ⟨?_, ?_, ?_, ?_, ?_⟩ <;> first | with_reducible assumption | ((repeat first | rw [cell_set_far _ _ _ _ _ _ (by omega)] | rw [cell_alloc_before _ _ _ _ (by omega)] | rw [cell_alloc_drew _ _ _ _ (by omega)] | rw [cell_drew]); with_reducible assumption) | ((rw [cell_setRow_far _ _ _ _ _ (by omega)]); with_reducible assumption) | ((rw [setRow_size]); with_reducible assumption) | (simp; done) | (simp [World.setCell]; first | done | omega) | (simp [go_sem, World.cell?_alloc_past, World.cell?_setCell_far, *]; done))) ((first | (go_at_call 79; refine (l1Abs_nat n (by omega) (by omega) _).mono ?_; rintro rv w1 ⟨rfl, rfl⟩) | (go_at_call 59; refine (rdUnit_any e f hg _).mono ?_; rintro rv w1 ⟨rfl, hb⟩; have ns : w.heap.size + 2 < w1.heap.size := hb.lt (by first | with_reducible assumption | omega | (simp; done) | (simp; omega)); have n0 : w1.cell? ⟨w.heap.size, 0, none⟩ = some (.int .i64 e) := (hb.cells _ _ (by first | with_reducible assumption | omega | (simp; done) | (simp; omega))).trans (by first | with_reducible assumption | (simp; done) | (simp; with_reducible assumption) | (rw [cell_alloc_before _ _ _ _ (by omega)]; with_reducible assumption) | (simp [go_sem, *]; done)); have n1 : w1.cell? ⟨w.heap.size, 1, none⟩ = some (.int .i64 f) := (hb.cells _ _ (by first | with_reducible assumption | omega | (simp; done) | (simp; omega))).trans (by first | with_reducible assumption | (simp; done) | (simp; with_reducible assumption) | (rw [cell_alloc_before _ _ _ _ (by omega)]; with_reducible assumption) | (simp [go_sem, *]; done)); have n2 : w1.cell? ⟨w.heap.size + 1, 0, none⟩ = some (.int .i64 n) := (hb.cells _ _ (by first | with_reducible assumption | omega | (simp; done) | (simp; omega))).trans (by first | with_reducible assumption | (simp; done) | (simp; with_reducible assumption) | (rw [cell_alloc_before _ _ _ _ (by omega)]; with_reducible assumption) | (simp [go_sem, *]; done)); have n3 : w1.cell? ⟨w.heap.size + 1, 1, none⟩ = some (.int .i64 d) := (hb.cells _ _ (by first | with_reducible assumption | omega | (simp; done) | (simp; omega))).trans (by first | with_reducible assumption | (simp; done) | (simp; with_reducible assumption) | (rw [cell_alloc_before _ _ _ _ (by omega)]; with_reducible assumption) | (simp [go_sem, *]; done)); have n4 : w1.cell? ⟨w.heap.size + 2, 0, none⟩ = some (.int .i64 0) := (hb.cells _ _ (by first | with_reducible assumption | omega | (simp; done) | (simp; omega))).trans (by first | with_reducible assumption | (simp; done) | (simp; with_reducible assumption) | (rw [cell_alloc_before _ _ _ _ (by omega)]; with_reducible assumption) | (simp [go_sem, *]; done)); have n5 : w1.cell? ⟨w.heap.size + 2, 1, none⟩ = some (.int .i64 0) := (hb.cells _ _ (by first | with_reducible assumption | omega | (simp; done) | (simp; omega))).trans (by first | with_reducible assumption | (simp; done) | (simp; with_reducible assumption) | (rw [cell_alloc_before _ _ _ _ (by omega)]; with_reducible assumption) | (simp [go_sem, *]; done)); have n6 : w1.cell? ⟨w.heap.size + 2, 2, none⟩ = some (.int .i64 0) := (hb.cells _ _ (by first | with_reducible assumption | omega | (simp; done) | (simp; omega))).trans (by first | with_reducible assumption | (simp; done) | (simp; with_reducible assumption) | (rw [cell_alloc_before _ _ _ _ (by omega)]; with_reducible assumption) | (simp [go_sem, *]; done)); have nz0 : w1.frozen? ⟨w.heap.size + 2, 0, none⟩ = false := (hb.frz _ _ (by first | with_reducible assumption | omega | (simp; done) | (simp; omega))).trans (by first | with_reducible assumption | (simp [go_sem]; done) | (simp [go_sem]; with_reducible assumption)); have nz1 : w1.frozen? ⟨w.heap.size + 2, 1, none⟩ = false := (hb.frz _ _ (by first | with_reducible assumption | omega | (simp; done) | (simp; omega))).trans (by first | with_reducible assumption | (simp [go_sem]; done) | (simp [go_sem]; with_reducible assumption)); have nz2 : w1.frozen? ⟨w.heap.size + 2, 2, none⟩ = false := (hb.frz _ _ (by first | with_reducible assumption | omega | (simp; done) | (simp; omega))).trans (by first | with_reducible assumption | (simp [go_sem]; done) | (simp [go_sem]; with_reducible assumption)); (first | (have nx := Ext.trans hx hb; clear hx) | (have nx := Ext.trans (hx.alloc _) hb; clear hx) | (have nx := Ext.trans hx.drew hb; clear hx) | have nx := hb); clear hb; try clear hs; try clear g0; try clear g1; try clear g2; try clear g3; try clear g4; try clear g5; try clear g6; try clear z0; try clear z1; try clear z2; have hx := nx; clear nx; have hs := ns; clear ns; have g0 := n0; clear n0; have g1 := n1; clear n1; have g2 := n2; clear n2; have g3 := n3; clear n3; have g4 := n4; clear n4; have g5 := n5; clear n5; have g6 := n6; clear n6; have z0 := nz0; clear nz0; have z1 := nz1; clear nz1; have z2 := nz2; clear nz2)))
  go_wp2_with fail
  exact bodyPost_ret (v := .agg #[.int .i64 (0), .int .i64 (0), .int .i64 (1)]) (by simp [results, Tryd.results69, go_sem, *]) rfl ⟨rfl, (by repeat (first | exact Ext.refl _ | with_reducible assumption | apply Ext.alloc | apply Ext.drew | apply Ext.drewN | (refine Ext.setRow ?_ (by first | (simp; done) | (simp; omega) | omega) _) | (refine Ext.setCell ?_ (by first | (simp; done) | (simp; omega) | omega) _) | (refine Ext.trans ?_ (by with_reducible assumption))))⟩

set_option maxRecDepth 100000 in
set_option maxHeartbeats 1600000 in
theorem rdOf_great (e f n d : Int) (hg : goodB e f = true) (hd : RdIn n (d - unV e f)) (h0 : n ≠ 0) (hk : 0 ≤ (d - unV e f)) (hb : 44 < plV n + (d - unV e f)) (w : World) : Calls Tryd.prog 69 #[fmt e f, two n d] w fun rv w' => rv = .returned (.agg #[.int .i64 (pw 44), .int .i64 (0), .int .i64 (1)]) ∧ Ext w w' := by
  obtain ⟨⟨h1, h2⟩, ⟨h3, h4⟩, h5⟩ := hd
  obtain ⟨u1, u2, u3, u4⟩ := un_bd hg
  have k0 : IntKind.i64.wrap (d - unV e f) = (d - unV e f) := IntWalk.i64_in _ (by omega)
  have z1 : ¬ (n.natAbs : Int) = 0 := by omega
  have z2 : ((n.natAbs : Int) == 0) = false := by simpa using h0
  have pl0 := pl_nn n
  have pl1 := pl_60 h1 h2
  have k1 : IntKind.i64.wrap (plV n + (d - unV e f)) = plV n + (d - unV e f) := IntWalk.i64_in _ (by omega)
  have q : ∀ a b c : Int, ∀ w, (Instr.build 66 #[(0, .int .i64 a), (1, .int .i64 b), (2, .int .i64 c)]).run Tryd.prog w = .ok (.agg #[.int .i64 (a), .int .i64 (b), .int .i64 (c)]) w := fun a b c w => run_build w _ _ _ (by kernel_rfl)
  go_enter Tryd.func69, Tryd.ntmps69
  go_wp2_with fail
  go_region_held3 (fun w' => w'.cell? ⟨w.heap.size, 0, none⟩ = some (.int .i64 e) ∧ w'.cell? ⟨w.heap.size, 1, none⟩ = some (.int .i64 f) ∧ w'.cell? ⟨w.heap.size + 1, 0, none⟩ = some (.int .i64 n) ∧ w'.cell? ⟨w.heap.size + 1, 1, none⟩ = some (.int .i64 d) ∧ w.heap.size + 2 < w'.heap.size) ((refine ⟨?_, ?_, ?_, ?_, ?_⟩ <;> first | with_reducible assumption | ((repeat first | rw [cell_set_far _ _ _ _ _ _ (by omega)] | rw [cell_alloc_before _ _ _ _ (by omega)] | rw [cell_alloc_drew _ _ _ _ (by omega)] | rw [cell_drew]); with_reducible assumption) | ((rw [cell_setRow_far _ _ _ _ _ (by omega)]); with_reducible assumption) | ((rw [setRow_size]); with_reducible assumption) | (simp; done) | (simp [World.setCell]; first | done | omega) | (simp [go_sem, World.cell?_alloc_past, World.cell?_setCell_far, *]; done))) ((first | (go_at_call 79; refine (l1Abs_nat n (by omega) (by omega) _).mono ?_; rintro rv w1 ⟨rfl, rfl⟩) | (go_at_call 59; refine (rdUnit_any e f hg _).mono ?_; rintro rv w1 ⟨rfl, hb⟩; have ns : w.heap.size + 2 < w1.heap.size := hb.lt (by first | with_reducible assumption | omega | (simp; done) | (simp; omega)); have n0 : w1.cell? ⟨w.heap.size, 0, none⟩ = some (.int .i64 e) := (hb.cells _ _ (by first | with_reducible assumption | omega | (simp; done) | (simp; omega))).trans (by first | with_reducible assumption | (simp; done) | (simp; with_reducible assumption) | (rw [cell_alloc_before _ _ _ _ (by omega)]; with_reducible assumption) | (simp [go_sem, *]; done)); have n1 : w1.cell? ⟨w.heap.size, 1, none⟩ = some (.int .i64 f) := (hb.cells _ _ (by first | with_reducible assumption | omega | (simp; done) | (simp; omega))).trans (by first | with_reducible assumption | (simp; done) | (simp; with_reducible assumption) | (rw [cell_alloc_before _ _ _ _ (by omega)]; with_reducible assumption) | (simp [go_sem, *]; done)); have n2 : w1.cell? ⟨w.heap.size + 1, 0, none⟩ = some (.int .i64 n) := (hb.cells _ _ (by first | with_reducible assumption | omega | (simp; done) | (simp; omega))).trans (by first | with_reducible assumption | (simp; done) | (simp; with_reducible assumption) | (rw [cell_alloc_before _ _ _ _ (by omega)]; with_reducible assumption) | (simp [go_sem, *]; done)); have n3 : w1.cell? ⟨w.heap.size + 1, 1, none⟩ = some (.int .i64 d) := (hb.cells _ _ (by first | with_reducible assumption | omega | (simp; done) | (simp; omega))).trans (by first | with_reducible assumption | (simp; done) | (simp; with_reducible assumption) | (rw [cell_alloc_before _ _ _ _ (by omega)]; with_reducible assumption) | (simp [go_sem, *]; done)); have n4 : w1.cell? ⟨w.heap.size + 2, 0, none⟩ = some (.int .i64 0) := (hb.cells _ _ (by first | with_reducible assumption | omega | (simp; done) | (simp; omega))).trans (by first | with_reducible assumption | (simp; done) | (simp; with_reducible assumption) | (rw [cell_alloc_before _ _ _ _ (by omega)]; with_reducible assumption) | (simp [go_sem, *]; done)); have n5 : w1.cell? ⟨w.heap.size + 2, 1, none⟩ = some (.int .i64 0) := (hb.cells _ _ (by first | with_reducible assumption | omega | (simp; done) | (simp; omega))).trans (by first | with_reducible assumption | (simp; done) | (simp; with_reducible assumption) | (rw [cell_alloc_before _ _ _ _ (by omega)]; with_reducible assumption) | (simp [go_sem, *]; done)); have n6 : w1.cell? ⟨w.heap.size + 2, 2, none⟩ = some (.int .i64 0) := (hb.cells _ _ (by first | with_reducible assumption | omega | (simp; done) | (simp; omega))).trans (by first | with_reducible assumption | (simp; done) | (simp; with_reducible assumption) | (rw [cell_alloc_before _ _ _ _ (by omega)]; with_reducible assumption) | (simp [go_sem, *]; done)); have nz0 : w1.frozen? ⟨w.heap.size + 2, 0, none⟩ = false := (hb.frz _ _ (by first | with_reducible assumption | omega | (simp; done) | (simp; omega))).trans (by first | with_reducible assumption | (simp [go_sem]; done) | (simp [go_sem]; with_reducible assumption)); have nz1 : w1.frozen? ⟨w.heap.size + 2, 1, none⟩ = false := (hb.frz _ _ (by first | with_reducible assumption | omega | (simp; done) | (simp; omega))).trans (by first | with_reducible assumption | (simp [go_sem]; done) | (simp [go_sem]; with_reducible assumption)); have nz2 : w1.frozen? ⟨w.heap.size + 2, 2, none⟩ = false := (hb.frz _ _ (by first | with_reducible assumption | omega | (simp; done) | (simp; omega))).trans (by first | with_reducible assumption | (simp [go_sem]; done) | (simp [go_sem]; with_reducible assumption)); (first | (have nx := Ext.trans hx hb; clear hx) | (have nx := Ext.trans (hx.alloc _) hb; clear hx) | (have nx := Ext.trans hx.drew hb; clear hx) | have nx := hb); clear hb; try clear hs; try clear g0; try clear g1; try clear g2; try clear g3; try clear g4; try clear g5; try clear g6; try clear z0; try clear z1; try clear z2; have hx := nx; clear nx; have hs := ns; clear ns; have g0 := n0; clear n0; have g1 := n1; clear n1; have g2 := n2; clear n2; have g3 := n3; clear n3; have g4 := n4; clear n4; have g5 := n5; clear n5; have g6 := n6; clear n6; have z0 := nz0; clear nz0; have z1 := nz1; clear nz1; have z2 := nz2; clear nz2)))
  go_wp2_with (first | (go_at_call 95; refine (rdBits_any _ (by omega) (by omega) _).mono ?_; rintro rv w1 ⟨rfl, rfl⟩; (try rw [plV_abs])) | (go_at_call 96; refine (rdPower_any _ (by omega) (by omega) _).mono ?_; rintro rv w1 ⟨rfl, rfl⟩))
  exact bodyPost_ret (v := .agg #[.int .i64 (pw 44), .int .i64 (0), .int .i64 (1)]) (by simp [results, Tryd.results69, go_sem, *]) rfl ⟨rfl, (by repeat (first | exact Ext.refl _ | with_reducible assumption | apply Ext.alloc | apply Ext.drew | apply Ext.drewN | (refine Ext.setRow ?_ (by first | (simp; done) | (simp; omega) | omega) _) | (refine Ext.setCell ?_ (by first | (simp; done) | (simp; omega) | omega) _) | (refine Ext.trans ?_ (by with_reducible assumption))))⟩

set_option maxRecDepth 100000 in
set_option maxHeartbeats 1600000 in
theorem rdOf_whole (e f n d : Int) (hg : goodB e f = true) (hd : RdIn n (d - unV e f)) (h0 : n ≠ 0) (hk : 0 ≤ (d - unV e f)) (hb : plV n + (d - unV e f) ≤ 44) (w : World) : Calls Tryd.prog 69 #[fmt e f, two n d] w fun rv w' => rv = .returned (.agg #[.int .i64 ((n.natAbs : Int) * pw (d - unV e f)), .int .i64 (0), .int .i64 (1)]) ∧ Ext w w' := by
  obtain ⟨⟨h1, h2⟩, ⟨h3, h4⟩, h5⟩ := hd
  obtain ⟨u1, u2, u3, u4⟩ := un_bd hg
  have k0 : IntKind.i64.wrap (d - unV e f) = (d - unV e f) := IntWalk.i64_in _ (by omega)
  have z1 : ¬ (n.natAbs : Int) = 0 := by omega
  have z2 : ((n.natAbs : Int) == 0) = false := by simpa using h0
  have pl0 := pl_nn n
  have pl1 := pl_60 h1 h2
  have k1 : IntKind.i64.wrap (plV n + (d - unV e f)) = plV n + (d - unV e f) := IntWalk.i64_in _ (by omega)
  have pl2 := (pl_bd n h0 (by omega) (by omega)).1
  have b := mul_bd (n := n) (j := (d - unV e f)) (k := 44) hk hb (by decide) (by omega) (by omega)
  have b2 : (n.natAbs : Int) * pw (d - unV e f) = (n * pw (d - unV e f)).natAbs := by rw [Int.natAbs_mul, Int.natCast_mul]; congr 1
  rw [← b2, show pw 44 = 17592186044416 from rfl] at b
  have b3 : 0 ≤ (n.natAbs : Int) * pw (d - unV e f) := by rw [b2]; omega
  clear b2
  have k2 : IntKind.i64.wrap ((n.natAbs : Int) * pw (d - unV e f)) = (n.natAbs : Int) * pw (d - unV e f) := IntWalk.i64_in _ (by omega)
  clear b b3
  have q : ∀ a b c : Int, ∀ w, (Instr.build 66 #[(0, .int .i64 a), (1, .int .i64 b), (2, .int .i64 c)]).run Tryd.prog w = .ok (.agg #[.int .i64 (a), .int .i64 (b), .int .i64 (c)]) w := fun a b c w => run_build w _ _ _ (by kernel_rfl)
  go_enter Tryd.func69, Tryd.ntmps69
  go_wp2_with fail
  go_region_held3 (fun w' => w'.cell? ⟨w.heap.size, 0, none⟩ = some (.int .i64 e) ∧ w'.cell? ⟨w.heap.size, 1, none⟩ = some (.int .i64 f) ∧ w'.cell? ⟨w.heap.size + 1, 0, none⟩ = some (.int .i64 n) ∧ w'.cell? ⟨w.heap.size + 1, 1, none⟩ = some (.int .i64 d) ∧ w.heap.size + 2 < w'.heap.size) ((refine ⟨?_, ?_, ?_, ?_, ?_⟩ <;> first | with_reducible assumption | ((repeat first | rw [cell_set_far _ _ _ _ _ _ (by omega)] | rw [cell_alloc_before _ _ _ _ (by omega)] | rw [cell_alloc_drew _ _ _ _ (by omega)] | rw [cell_drew]); with_reducible assumption) | ((rw [cell_setRow_far _ _ _ _ _ (by omega)]); with_reducible assumption) | ((rw [setRow_size]); with_reducible assumption) | (simp; done) | (simp [World.setCell]; first | done | omega) | (simp [go_sem, World.cell?_alloc_past, World.cell?_setCell_far, *]; done))) ((first | (go_at_call 79; refine (l1Abs_nat n (by omega) (by omega) _).mono ?_; rintro rv w1 ⟨rfl, rfl⟩) | (go_at_call 59; refine (rdUnit_any e f hg _).mono ?_; rintro rv w1 ⟨rfl, hb⟩; have ns : w.heap.size + 2 < w1.heap.size := hb.lt (by first | with_reducible assumption | omega | (simp; done) | (simp; omega)); have n0 : w1.cell? ⟨w.heap.size, 0, none⟩ = some (.int .i64 e) := (hb.cells _ _ (by first | with_reducible assumption | omega | (simp; done) | (simp; omega))).trans (by first | with_reducible assumption | (simp; done) | (simp; with_reducible assumption) | (rw [cell_alloc_before _ _ _ _ (by omega)]; with_reducible assumption) | (simp [go_sem, *]; done)); have n1 : w1.cell? ⟨w.heap.size, 1, none⟩ = some (.int .i64 f) := (hb.cells _ _ (by first | with_reducible assumption | omega | (simp; done) | (simp; omega))).trans (by first | with_reducible assumption | (simp; done) | (simp; with_reducible assumption) | (rw [cell_alloc_before _ _ _ _ (by omega)]; with_reducible assumption) | (simp [go_sem, *]; done)); have n2 : w1.cell? ⟨w.heap.size + 1, 0, none⟩ = some (.int .i64 n) := (hb.cells _ _ (by first | with_reducible assumption | omega | (simp; done) | (simp; omega))).trans (by first | with_reducible assumption | (simp; done) | (simp; with_reducible assumption) | (rw [cell_alloc_before _ _ _ _ (by omega)]; with_reducible assumption) | (simp [go_sem, *]; done)); have n3 : w1.cell? ⟨w.heap.size + 1, 1, none⟩ = some (.int .i64 d) := (hb.cells _ _ (by first | with_reducible assumption | omega | (simp; done) | (simp; omega))).trans (by first | with_reducible assumption | (simp; done) | (simp; with_reducible assumption) | (rw [cell_alloc_before _ _ _ _ (by omega)]; with_reducible assumption) | (simp [go_sem, *]; done)); have n4 : w1.cell? ⟨w.heap.size + 2, 0, none⟩ = some (.int .i64 0) := (hb.cells _ _ (by first | with_reducible assumption | omega | (simp; done) | (simp; omega))).trans (by first | with_reducible assumption | (simp; done) | (simp; with_reducible assumption) | (rw [cell_alloc_before _ _ _ _ (by omega)]; with_reducible assumption) | (simp [go_sem, *]; done)); have n5 : w1.cell? ⟨w.heap.size + 2, 1, none⟩ = some (.int .i64 0) := (hb.cells _ _ (by first | with_reducible assumption | omega | (simp; done) | (simp; omega))).trans (by first | with_reducible assumption | (simp; done) | (simp; with_reducible assumption) | (rw [cell_alloc_before _ _ _ _ (by omega)]; with_reducible assumption) | (simp [go_sem, *]; done)); have n6 : w1.cell? ⟨w.heap.size + 2, 2, none⟩ = some (.int .i64 0) := (hb.cells _ _ (by first | with_reducible assumption | omega | (simp; done) | (simp; omega))).trans (by first | with_reducible assumption | (simp; done) | (simp; with_reducible assumption) | (rw [cell_alloc_before _ _ _ _ (by omega)]; with_reducible assumption) | (simp [go_sem, *]; done)); have nz0 : w1.frozen? ⟨w.heap.size + 2, 0, none⟩ = false := (hb.frz _ _ (by first | with_reducible assumption | omega | (simp; done) | (simp; omega))).trans (by first | with_reducible assumption | (simp [go_sem]; done) | (simp [go_sem]; with_reducible assumption)); have nz1 : w1.frozen? ⟨w.heap.size + 2, 1, none⟩ = false := (hb.frz _ _ (by first | with_reducible assumption | omega | (simp; done) | (simp; omega))).trans (by first | with_reducible assumption | (simp [go_sem]; done) | (simp [go_sem]; with_reducible assumption)); have nz2 : w1.frozen? ⟨w.heap.size + 2, 2, none⟩ = false := (hb.frz _ _ (by first | with_reducible assumption | omega | (simp; done) | (simp; omega))).trans (by first | with_reducible assumption | (simp [go_sem]; done) | (simp [go_sem]; with_reducible assumption)); (first | (have nx := Ext.trans hx hb; clear hx) | (have nx := Ext.trans (hx.alloc _) hb; clear hx) | (have nx := Ext.trans hx.drew hb; clear hx) | have nx := hb); clear hb; try clear hs; try clear g0; try clear g1; try clear g2; try clear g3; try clear g4; try clear g5; try clear g6; try clear z0; try clear z1; try clear z2; have hx := nx; clear nx; have hs := ns; clear ns; have g0 := n0; clear n0; have g1 := n1; clear n1; have g2 := n2; clear n2; have g3 := n3; clear n3; have g4 := n4; clear n4; have g5 := n5; clear n5; have g6 := n6; clear n6; have z0 := nz0; clear nz0; have z1 := nz1; clear nz1; have z2 := nz2; clear nz2)))
  go_wp2_with (first | (go_at_call 95; refine (rdBits_any _ (by omega) (by omega) _).mono ?_; rintro rv w1 ⟨rfl, rfl⟩; (try rw [plV_abs])) | (go_at_call 96; refine (rdPower_any _ (by omega) (by omega) _).mono ?_; rintro rv w1 ⟨rfl, rfl⟩))
  exact bodyPost_ret (v := .agg #[.int .i64 ((n.natAbs : Int) * pw (d - unV e f)), .int .i64 (0), .int .i64 (1)]) (by simp [results, Tryd.results69, go_sem, *]) rfl ⟨rfl, (by repeat (first | exact Ext.refl _ | with_reducible assumption | apply Ext.alloc | apply Ext.drew | apply Ext.drewN | (refine Ext.setRow ?_ (by first | (simp; done) | (simp; omega) | omega) _) | (refine Ext.setCell ?_ (by first | (simp; done) | (simp; omega) | omega) _) | (refine Ext.trans ?_ (by with_reducible assumption))))⟩

set_option maxRecDepth 100000 in
set_option maxHeartbeats 1600000 in
theorem rdOf_tiny (e f n d : Int) (hg : goodB e f = true) (hd : RdIn n (d - unV e f)) (h0 : n ≠ 0) (hk : (d - unV e f) < -60) (w : World) : Calls Tryd.prog 69 #[fmt e f, two n d] w fun rv w' => rv = .returned (.agg #[.int .i64 (0), .int .i64 (1), .int .i64 (4)]) ∧ Ext w w' := by
  obtain ⟨⟨h1, h2⟩, ⟨h3, h4⟩, h5⟩ := hd
  obtain ⟨u1, u2, u3, u4⟩ := un_bd hg
  have k0 : IntKind.i64.wrap (d - unV e f) = (d - unV e f) := IntWalk.i64_in _ (by omega)
  have z1 : ¬ (n.natAbs : Int) = 0 := by omega
  have z2 : ((n.natAbs : Int) == 0) = false := by simpa using h0
  have pl0 := pl_nn n
  have pl1 := pl_60 h1 h2
  have q : ∀ a b c : Int, ∀ w, (Instr.build 66 #[(0, .int .i64 a), (1, .int .i64 b), (2, .int .i64 c)]).run Tryd.prog w = .ok (.agg #[.int .i64 (a), .int .i64 (b), .int .i64 (c)]) w := fun a b c w => run_build w _ _ _ (by kernel_rfl)
  go_enter Tryd.func69, Tryd.ntmps69
  go_wp2_with fail
  go_region_held3 (fun w' => w'.cell? ⟨w.heap.size, 0, none⟩ = some (.int .i64 e) ∧ w'.cell? ⟨w.heap.size, 1, none⟩ = some (.int .i64 f) ∧ w'.cell? ⟨w.heap.size + 1, 0, none⟩ = some (.int .i64 n) ∧ w'.cell? ⟨w.heap.size + 1, 1, none⟩ = some (.int .i64 d) ∧ w.heap.size + 2 < w'.heap.size) ((refine ⟨?_, ?_, ?_, ?_, ?_⟩ <;> first | with_reducible assumption | ((repeat first | rw [cell_set_far _ _ _ _ _ _ (by omega)] | rw [cell_alloc_before _ _ _ _ (by omega)] | rw [cell_alloc_drew _ _ _ _ (by omega)] | rw [cell_drew]); with_reducible assumption) | ((rw [cell_setRow_far _ _ _ _ _ (by omega)]); with_reducible assumption) | ((rw [setRow_size]); with_reducible assumption) | (simp; done) | (simp [World.setCell]; first | done | omega) | (simp [go_sem, World.cell?_alloc_past, World.cell?_setCell_far, *]; done))) ((first | (go_at_call 79; refine (l1Abs_nat n (by omega) (by omega) _).mono ?_; rintro rv w1 ⟨rfl, rfl⟩) | (go_at_call 59; refine (rdUnit_any e f hg _).mono ?_; rintro rv w1 ⟨rfl, hb⟩; have ns : w.heap.size + 2 < w1.heap.size := hb.lt (by first | with_reducible assumption | omega | (simp; done) | (simp; omega)); have n0 : w1.cell? ⟨w.heap.size, 0, none⟩ = some (.int .i64 e) := (hb.cells _ _ (by first | with_reducible assumption | omega | (simp; done) | (simp; omega))).trans (by first | with_reducible assumption | (simp; done) | (simp; with_reducible assumption) | (rw [cell_alloc_before _ _ _ _ (by omega)]; with_reducible assumption) | (simp [go_sem, *]; done)); have n1 : w1.cell? ⟨w.heap.size, 1, none⟩ = some (.int .i64 f) := (hb.cells _ _ (by first | with_reducible assumption | omega | (simp; done) | (simp; omega))).trans (by first | with_reducible assumption | (simp; done) | (simp; with_reducible assumption) | (rw [cell_alloc_before _ _ _ _ (by omega)]; with_reducible assumption) | (simp [go_sem, *]; done)); have n2 : w1.cell? ⟨w.heap.size + 1, 0, none⟩ = some (.int .i64 n) := (hb.cells _ _ (by first | with_reducible assumption | omega | (simp; done) | (simp; omega))).trans (by first | with_reducible assumption | (simp; done) | (simp; with_reducible assumption) | (rw [cell_alloc_before _ _ _ _ (by omega)]; with_reducible assumption) | (simp [go_sem, *]; done)); have n3 : w1.cell? ⟨w.heap.size + 1, 1, none⟩ = some (.int .i64 d) := (hb.cells _ _ (by first | with_reducible assumption | omega | (simp; done) | (simp; omega))).trans (by first | with_reducible assumption | (simp; done) | (simp; with_reducible assumption) | (rw [cell_alloc_before _ _ _ _ (by omega)]; with_reducible assumption) | (simp [go_sem, *]; done)); have n4 : w1.cell? ⟨w.heap.size + 2, 0, none⟩ = some (.int .i64 0) := (hb.cells _ _ (by first | with_reducible assumption | omega | (simp; done) | (simp; omega))).trans (by first | with_reducible assumption | (simp; done) | (simp; with_reducible assumption) | (rw [cell_alloc_before _ _ _ _ (by omega)]; with_reducible assumption) | (simp [go_sem, *]; done)); have n5 : w1.cell? ⟨w.heap.size + 2, 1, none⟩ = some (.int .i64 0) := (hb.cells _ _ (by first | with_reducible assumption | omega | (simp; done) | (simp; omega))).trans (by first | with_reducible assumption | (simp; done) | (simp; with_reducible assumption) | (rw [cell_alloc_before _ _ _ _ (by omega)]; with_reducible assumption) | (simp [go_sem, *]; done)); have n6 : w1.cell? ⟨w.heap.size + 2, 2, none⟩ = some (.int .i64 0) := (hb.cells _ _ (by first | with_reducible assumption | omega | (simp; done) | (simp; omega))).trans (by first | with_reducible assumption | (simp; done) | (simp; with_reducible assumption) | (rw [cell_alloc_before _ _ _ _ (by omega)]; with_reducible assumption) | (simp [go_sem, *]; done)); have nz0 : w1.frozen? ⟨w.heap.size + 2, 0, none⟩ = false := (hb.frz _ _ (by first | with_reducible assumption | omega | (simp; done) | (simp; omega))).trans (by first | with_reducible assumption | (simp [go_sem]; done) | (simp [go_sem]; with_reducible assumption)); have nz1 : w1.frozen? ⟨w.heap.size + 2, 1, none⟩ = false := (hb.frz _ _ (by first | with_reducible assumption | omega | (simp; done) | (simp; omega))).trans (by first | with_reducible assumption | (simp [go_sem]; done) | (simp [go_sem]; with_reducible assumption)); have nz2 : w1.frozen? ⟨w.heap.size + 2, 2, none⟩ = false := (hb.frz _ _ (by first | with_reducible assumption | omega | (simp; done) | (simp; omega))).trans (by first | with_reducible assumption | (simp [go_sem]; done) | (simp [go_sem]; with_reducible assumption)); (first | (have nx := Ext.trans hx hb; clear hx) | (have nx := Ext.trans (hx.alloc _) hb; clear hx) | (have nx := Ext.trans hx.drew hb; clear hx) | have nx := hb); clear hb; try clear hs; try clear g0; try clear g1; try clear g2; try clear g3; try clear g4; try clear g5; try clear g6; try clear z0; try clear z1; try clear z2; have hx := nx; clear nx; have hs := ns; clear ns; have g0 := n0; clear n0; have g1 := n1; clear n1; have g2 := n2; clear n2; have g3 := n3; clear n3; have g4 := n4; clear n4; have g5 := n5; clear n5; have g6 := n6; clear n6; have z0 := nz0; clear nz0; have z1 := nz1; clear nz1; have z2 := nz2; clear nz2)))
  go_wp2_with fail
  exact bodyPost_ret (v := .agg #[.int .i64 (0), .int .i64 (1), .int .i64 (4)]) (by simp [results, Tryd.results69, go_sem, *]) rfl ⟨rfl, (by repeat (first | exact Ext.refl _ | with_reducible assumption | apply Ext.alloc | apply Ext.drew | apply Ext.drewN | (refine Ext.setRow ?_ (by first | (simp; done) | (simp; omega) | omega) _) | (refine Ext.setCell ?_ (by first | (simp; done) | (simp; omega) | omega) _) | (refine Ext.trans ?_ (by with_reducible assumption))))⟩

set_option maxRecDepth 100000 in
set_option maxHeartbeats 1600000 in
theorem rdOf_part (e f n d : Int) (hg : goodB e f = true) (hd : RdIn n (d - unV e f)) (h0 : n ≠ 0) (hk : (d - unV e f) < 0) (hk2 : -60 ≤ (d - unV e f)) (w : World) : Calls Tryd.prog 69 #[fmt e f, two n d] w fun rv w' => rv = .returned (.agg #[.int .i64 ((n.natAbs : Int) / pw (-(d - unV e f))), .int .i64 ((n.natAbs : Int) % pw (-(d - unV e f))), .int .i64 (pw (-(d - unV e f)))]) ∧ Ext w w' := by
  obtain ⟨⟨h1, h2⟩, ⟨h3, h4⟩, h5⟩ := hd
  obtain ⟨u1, u2, u3, u4⟩ := un_bd hg
  have k0 : IntKind.i64.wrap (d - unV e f) = (d - unV e f) := IntWalk.i64_in _ (by omega)
  have z1 : ¬ (n.natAbs : Int) = 0 := by omega
  have z2 : ((n.natAbs : Int) == 0) = false := by simpa using h0
  have pl0 := pl_nn n
  have pl1 := pl_60 h1 h2
  have k1 : IntKind.i64.wrap (-(d - unV e f)) = -(d - unV e f) := IntWalk.i64_in _ (by omega)
  have p1 := pw_pos (-(d - unV e f))
  have p2 := pw_le (a := -(d - unV e f)) 60 1152921504606846976 rfl (by omega)
  have p3 := pw_of (-(d - unV e f))
  have p4 : ¬ pw (-(d - unV e f)) = 0 := by omega
  have p5 : (pw (-(d - unV e f)) == 0) = false := by simpa using p4
  have p6 : (n.natAbs : Int).tmod (pw (-(d - unV e f))) = (n.natAbs : Int) % pw (-(d - unV e f)) := Int.tmod_eq_emod_of_nonneg (by omega)
  have q : ∀ a b c : Int, ∀ w, (Instr.build 66 #[(0, .int .i64 a), (1, .int .i64 b), (2, .int .i64 c)]).run Tryd.prog w = .ok (.agg #[.int .i64 (a), .int .i64 (b), .int .i64 (c)]) w := fun a b c w => run_build w _ _ _ (by kernel_rfl)
  go_enter Tryd.func69, Tryd.ntmps69
  go_wp2_with fail
  go_region_held3 (fun w' => w'.cell? ⟨w.heap.size, 0, none⟩ = some (.int .i64 e) ∧ w'.cell? ⟨w.heap.size, 1, none⟩ = some (.int .i64 f) ∧ w'.cell? ⟨w.heap.size + 1, 0, none⟩ = some (.int .i64 n) ∧ w'.cell? ⟨w.heap.size + 1, 1, none⟩ = some (.int .i64 d) ∧ w.heap.size + 2 < w'.heap.size) ((refine ⟨?_, ?_, ?_, ?_, ?_⟩ <;> first | with_reducible assumption | ((repeat first | rw [cell_set_far _ _ _ _ _ _ (by omega)] | rw [cell_alloc_before _ _ _ _ (by omega)] | rw [cell_alloc_drew _ _ _ _ (by omega)] | rw [cell_drew]); with_reducible assumption) | ((rw [cell_setRow_far _ _ _ _ _ (by omega)]); with_reducible assumption) | ((rw [setRow_size]); with_reducible assumption) | (simp; done) | (simp [World.setCell]; first | done | omega) | (simp [go_sem, World.cell?_alloc_past, World.cell?_setCell_far, *]; done))) ((first | (go_at_call 79; refine (l1Abs_nat n (by omega) (by omega) _).mono ?_; rintro rv w1 ⟨rfl, rfl⟩) | (go_at_call 59; refine (rdUnit_any e f hg _).mono ?_; rintro rv w1 ⟨rfl, hb⟩; have ns : w.heap.size + 2 < w1.heap.size := hb.lt (by first | with_reducible assumption | omega | (simp; done) | (simp; omega)); have n0 : w1.cell? ⟨w.heap.size, 0, none⟩ = some (.int .i64 e) := (hb.cells _ _ (by first | with_reducible assumption | omega | (simp; done) | (simp; omega))).trans (by first | with_reducible assumption | (simp; done) | (simp; with_reducible assumption) | (rw [cell_alloc_before _ _ _ _ (by omega)]; with_reducible assumption) | (simp [go_sem, *]; done)); have n1 : w1.cell? ⟨w.heap.size, 1, none⟩ = some (.int .i64 f) := (hb.cells _ _ (by first | with_reducible assumption | omega | (simp; done) | (simp; omega))).trans (by first | with_reducible assumption | (simp; done) | (simp; with_reducible assumption) | (rw [cell_alloc_before _ _ _ _ (by omega)]; with_reducible assumption) | (simp [go_sem, *]; done)); have n2 : w1.cell? ⟨w.heap.size + 1, 0, none⟩ = some (.int .i64 n) := (hb.cells _ _ (by first | with_reducible assumption | omega | (simp; done) | (simp; omega))).trans (by first | with_reducible assumption | (simp; done) | (simp; with_reducible assumption) | (rw [cell_alloc_before _ _ _ _ (by omega)]; with_reducible assumption) | (simp [go_sem, *]; done)); have n3 : w1.cell? ⟨w.heap.size + 1, 1, none⟩ = some (.int .i64 d) := (hb.cells _ _ (by first | with_reducible assumption | omega | (simp; done) | (simp; omega))).trans (by first | with_reducible assumption | (simp; done) | (simp; with_reducible assumption) | (rw [cell_alloc_before _ _ _ _ (by omega)]; with_reducible assumption) | (simp [go_sem, *]; done)); have n4 : w1.cell? ⟨w.heap.size + 2, 0, none⟩ = some (.int .i64 0) := (hb.cells _ _ (by first | with_reducible assumption | omega | (simp; done) | (simp; omega))).trans (by first | with_reducible assumption | (simp; done) | (simp; with_reducible assumption) | (rw [cell_alloc_before _ _ _ _ (by omega)]; with_reducible assumption) | (simp [go_sem, *]; done)); have n5 : w1.cell? ⟨w.heap.size + 2, 1, none⟩ = some (.int .i64 0) := (hb.cells _ _ (by first | with_reducible assumption | omega | (simp; done) | (simp; omega))).trans (by first | with_reducible assumption | (simp; done) | (simp; with_reducible assumption) | (rw [cell_alloc_before _ _ _ _ (by omega)]; with_reducible assumption) | (simp [go_sem, *]; done)); have n6 : w1.cell? ⟨w.heap.size + 2, 2, none⟩ = some (.int .i64 0) := (hb.cells _ _ (by first | with_reducible assumption | omega | (simp; done) | (simp; omega))).trans (by first | with_reducible assumption | (simp; done) | (simp; with_reducible assumption) | (rw [cell_alloc_before _ _ _ _ (by omega)]; with_reducible assumption) | (simp [go_sem, *]; done)); have nz0 : w1.frozen? ⟨w.heap.size + 2, 0, none⟩ = false := (hb.frz _ _ (by first | with_reducible assumption | omega | (simp; done) | (simp; omega))).trans (by first | with_reducible assumption | (simp [go_sem]; done) | (simp [go_sem]; with_reducible assumption)); have nz1 : w1.frozen? ⟨w.heap.size + 2, 1, none⟩ = false := (hb.frz _ _ (by first | with_reducible assumption | omega | (simp; done) | (simp; omega))).trans (by first | with_reducible assumption | (simp [go_sem]; done) | (simp [go_sem]; with_reducible assumption)); have nz2 : w1.frozen? ⟨w.heap.size + 2, 2, none⟩ = false := (hb.frz _ _ (by first | with_reducible assumption | omega | (simp; done) | (simp; omega))).trans (by first | with_reducible assumption | (simp [go_sem]; done) | (simp [go_sem]; with_reducible assumption)); (first | (have nx := Ext.trans hx hb; clear hx) | (have nx := Ext.trans (hx.alloc _) hb; clear hx) | (have nx := Ext.trans hx.drew hb; clear hx) | have nx := hb); clear hb; try clear hs; try clear g0; try clear g1; try clear g2; try clear g3; try clear g4; try clear g5; try clear g6; try clear z0; try clear z1; try clear z2; have hx := nx; clear nx; have hs := ns; clear ns; have g0 := n0; clear n0; have g1 := n1; clear n1; have g2 := n2; clear n2; have g3 := n3; clear n3; have g4 := n4; clear n4; have g5 := n5; clear n5; have g6 := n6; clear n6; have z0 := nz0; clear nz0; have z1 := nz1; clear nz1; have z2 := nz2; clear nz2)))
  go_wp2_with fail
  go_region_held3 (fun w' => w'.cell? ⟨w.heap.size, 0, none⟩ = some (.int .i64 e) ∧ w'.cell? ⟨w.heap.size, 1, none⟩ = some (.int .i64 f) ∧ w'.cell? ⟨w.heap.size + 1, 0, none⟩ = some (.int .i64 n) ∧ w'.cell? ⟨w.heap.size + 1, 1, none⟩ = some (.int .i64 d) ∧ w.heap.size + 2 < w'.heap.size) ((refine ⟨?_, ?_, ?_, ?_, ?_⟩ <;> first | with_reducible assumption | ((repeat first | rw [cell_set_far _ _ _ _ _ _ (by omega)] | rw [cell_alloc_before _ _ _ _ (by omega)] | rw [cell_alloc_drew _ _ _ _ (by omega)] | rw [cell_drew]); with_reducible assumption) | ((rw [cell_setRow_far _ _ _ _ _ (by omega)]); with_reducible assumption) | ((rw [setRow_size]); with_reducible assumption) | (simp; done) | (simp [World.setCell]; first | done | omega) | (simp [go_sem, World.cell?_alloc_past, World.cell?_setCell_far, *]; done))) ((first | (go_at_call 96; refine (rdPower_any _ (by omega) (by omega) _).mono ?_; rintro rv w1 ⟨rfl, rfl⟩)))
  go_wp2_with fail
  exact bodyPost_ret (v := .agg #[.int .i64 ((n.natAbs : Int) / pw (-(d - unV e f))), .int .i64 ((n.natAbs : Int) % pw (-(d - unV e f))), .int .i64 (pw (-(d - unV e f)))]) (by simp [results, Tryd.results69, go_sem, *]) rfl ⟨rfl, (by repeat (first | exact Ext.refl _ | with_reducible assumption | apply Ext.alloc | apply Ext.drew | apply Ext.drewN | (refine Ext.setRow ?_ (by first | (simp; done) | (simp; omega) | omega) _) | (refine Ext.setCell ?_ (by first | (simp; done) | (simp; omega) | omega) _) | (refine Ext.trans ?_ (by with_reducible assumption))))⟩
end Go.Proofs.YtcbkhlaiefiieabDoor

namespace Go.Proofs.YtcbkhlaiefiieabDoor
open Go Go.RowKit
set_option linter.unusedSimpArgs false
set_option linter.unusedVariables false

theorem rdIf_no (n d : Int) (hg : dyB n d = false) (w : World) : Calls Tryd.prog 50 #[two n d] w fun rv w' => rv = .returned (.tuple #[two 0 0, .bool false]) ∧ Ext w w' := by
  go_enter Tryd.func50, Tryd.ntmps50
  go_wp2_with (go_at_call 61; refine (rdGood_any n d _).mono ?_; rintro rv w1 ⟨rfl, hb⟩; have ns : w.heap.size + 1 < w1.heap.size := hb.lt (by first | with_reducible assumption | omega | (simp; done) | (simp; omega)); have n0 : w1.cell? ⟨w.heap.size, 0, none⟩ = some (.int .i64 n) := (hb.cells _ _ (by first | with_reducible assumption | omega | (simp; done) | (simp; omega))).trans (by first | with_reducible assumption | (simp; done) | (simp; with_reducible assumption) | (rw [cell_alloc_before _ _ _ _ (by omega)]; with_reducible assumption) | (simp [go_sem, *]; done)); have n1 : w1.cell? ⟨w.heap.size, 1, none⟩ = some (.int .i64 d) := (hb.cells _ _ (by first | with_reducible assumption | omega | (simp; done) | (simp; omega))).trans (by first | with_reducible assumption | (simp; done) | (simp; with_reducible assumption) | (rw [cell_alloc_before _ _ _ _ (by omega)]; with_reducible assumption) | (simp [go_sem, *]; done)); have n2 : w1.cell? ⟨w.heap.size + 1, 0, none⟩ = some (.int .i64 0) := (hb.cells _ _ (by first | with_reducible assumption | omega | (simp; done) | (simp; omega))).trans (by first | with_reducible assumption | (simp; done) | (simp; with_reducible assumption) | (rw [cell_alloc_before _ _ _ _ (by omega)]; with_reducible assumption) | (simp [go_sem, *]; done)); have n3 : w1.cell? ⟨w.heap.size + 1, 1, none⟩ = some (.int .i64 0) := (hb.cells _ _ (by first | with_reducible assumption | omega | (simp; done) | (simp; omega))).trans (by first | with_reducible assumption | (simp; done) | (simp; with_reducible assumption) | (rw [cell_alloc_before _ _ _ _ (by omega)]; with_reducible assumption) | (simp [go_sem, *]; done)); have nz0 : w1.frozen? ⟨w.heap.size + 1, 0, none⟩ = false := (hb.frz _ _ (by first | with_reducible assumption | omega | (simp; done) | (simp; omega))).trans (by first | with_reducible assumption | (simp [go_sem]; done) | (simp [go_sem]; with_reducible assumption)); have nz1 : w1.frozen? ⟨w.heap.size + 1, 1, none⟩ = false := (hb.frz _ _ (by first | with_reducible assumption | omega | (simp; done) | (simp; omega))).trans (by first | with_reducible assumption | (simp [go_sem]; done) | (simp [go_sem]; with_reducible assumption)); (first | (have nx := Ext.trans hx hb; clear hx) | (have nx := Ext.trans (hx.alloc _) hb; clear hx) | (have nx := Ext.trans hx.drew hb; clear hx) | have nx := hb); clear hb; try clear hs; try clear g0; try clear g1; try clear g2; try clear g3; try clear z0; try clear z1; have hx := nx; clear nx; have hs := ns; clear ns; have g0 := n0; clear n0; have g1 := n1; clear n1; have g2 := n2; clear n2; have g3 := n3; clear n3; have z0 := nz0; clear nz0; have z1 := nz1; clear nz1)
  exact bodyPost_ret (v := .tuple #[two 0 0, .bool false]) (by simp [results, Tryd.results50, go_sem, *]) rfl ⟨rfl, (by repeat (first | exact Ext.refl _ | with_reducible assumption | apply Ext.alloc | apply Ext.drew | apply Ext.drewN | (refine Ext.setRow ?_ (by first | (simp; done) | (simp; omega) | omega) _) | (refine Ext.setCell ?_ (by first | (simp; done) | (simp; omega) | omega) _) | (refine Ext.trans ?_ (by with_reducible assumption))))⟩

theorem rdIf_yes (n d : Int) (hg : dyB n d = true) (w : World) : Calls Tryd.prog 50 #[two n d] w fun rv w' => rv = .returned (.tuple #[two (n) (d), .bool true]) ∧ Ext w w' := by
  go_enter Tryd.func50, Tryd.ntmps50
  go_wp2_with (go_at_call 61; refine (rdGood_any n d _).mono ?_; rintro rv w1 ⟨rfl, hb⟩; have ns : w.heap.size + 1 < w1.heap.size := hb.lt (by first | with_reducible assumption | omega | (simp; done) | (simp; omega)); have n0 : w1.cell? ⟨w.heap.size, 0, none⟩ = some (.int .i64 n) := (hb.cells _ _ (by first | with_reducible assumption | omega | (simp; done) | (simp; omega))).trans (by first | with_reducible assumption | (simp; done) | (simp; with_reducible assumption) | (rw [cell_alloc_before _ _ _ _ (by omega)]; with_reducible assumption) | (simp [go_sem, *]; done)); have n1 : w1.cell? ⟨w.heap.size, 1, none⟩ = some (.int .i64 d) := (hb.cells _ _ (by first | with_reducible assumption | omega | (simp; done) | (simp; omega))).trans (by first | with_reducible assumption | (simp; done) | (simp; with_reducible assumption) | (rw [cell_alloc_before _ _ _ _ (by omega)]; with_reducible assumption) | (simp [go_sem, *]; done)); have n2 : w1.cell? ⟨w.heap.size + 1, 0, none⟩ = some (.int .i64 0) := (hb.cells _ _ (by first | with_reducible assumption | omega | (simp; done) | (simp; omega))).trans (by first | with_reducible assumption | (simp; done) | (simp; with_reducible assumption) | (rw [cell_alloc_before _ _ _ _ (by omega)]; with_reducible assumption) | (simp [go_sem, *]; done)); have n3 : w1.cell? ⟨w.heap.size + 1, 1, none⟩ = some (.int .i64 0) := (hb.cells _ _ (by first | with_reducible assumption | omega | (simp; done) | (simp; omega))).trans (by first | with_reducible assumption | (simp; done) | (simp; with_reducible assumption) | (rw [cell_alloc_before _ _ _ _ (by omega)]; with_reducible assumption) | (simp [go_sem, *]; done)); have nz0 : w1.frozen? ⟨w.heap.size + 1, 0, none⟩ = false := (hb.frz _ _ (by first | with_reducible assumption | omega | (simp; done) | (simp; omega))).trans (by first | with_reducible assumption | (simp [go_sem]; done) | (simp [go_sem]; with_reducible assumption)); have nz1 : w1.frozen? ⟨w.heap.size + 1, 1, none⟩ = false := (hb.frz _ _ (by first | with_reducible assumption | omega | (simp; done) | (simp; omega))).trans (by first | with_reducible assumption | (simp [go_sem]; done) | (simp [go_sem]; with_reducible assumption)); (first | (have nx := Ext.trans hx hb; clear hx) | (have nx := Ext.trans (hx.alloc _) hb; clear hx) | (have nx := Ext.trans hx.drew hb; clear hx) | have nx := hb); clear hb; try clear hs; try clear g0; try clear g1; try clear g2; try clear g3; try clear z0; try clear z1; have hx := nx; clear nx; have hs := ns; clear ns; have g0 := n0; clear n0; have g1 := n1; clear n1; have g2 := n2; clear n2; have g3 := n3; clear n3; have z0 := nz0; clear nz0; have z1 := nz1; clear nz1)
  exact bodyPost_ret (v := .tuple #[two (n) (d), .bool true]) (by simp [results, Tryd.results50, go_sem, *]) rfl ⟨rfl, (by repeat (first | exact Ext.refl _ | with_reducible assumption | apply Ext.alloc | apply Ext.drew | apply Ext.drewN | (refine Ext.setRow ?_ (by first | (simp; done) | (simp; omega) | omega) _) | (refine Ext.setCell ?_ (by first | (simp; done) | (simp; omega) | omega) _) | (refine Ext.trans ?_ (by with_reducible assumption))))⟩

theorem rdShort_zero (d : Int) (w : World) : Calls Tryd.prog 51 #[.int .i64 0, .int .i64 d] w fun rv w' => rv = .returned (two 0 0) ∧ Ext w w' := by
  go_enter Tryd.func51, Tryd.ntmps51
  go_wp2
  exact bodyPost_ret (v := two 0 0) (by simp [results, Tryd.results51, go_sem, *]) rfl ⟨rfl, (by repeat (first | exact Ext.refl _ | with_reducible assumption | apply Ext.alloc | apply Ext.drew | apply Ext.drewN | (refine Ext.setRow ?_ (by first | (simp; done) | (simp; omega) | omega) _) | (refine Ext.setCell ?_ (by first | (simp; done) | (simp; omega) | omega) _) | (refine Ext.trans ?_ (by with_reducible assumption))))⟩

theorem tdiv_half (n : Int) (h : n % 2 = 0) : n.tdiv 2 = n / 2 := by
  obtain ⟨m, rfl⟩ : ∃ m, n = m * 2 := ⟨n / 2, by omega⟩
  rw [Int.mul_tdiv_cancel _ (by decide), Int.mul_ediv_cancel _ (by decide)]

set_option maxHeartbeats 800000 in
theorem rdShort_yes (n d : Int) (h0 : n ≠ 0) (h1 : -9223372036854775808 < n) (h2 : n < 9223372036854775808) (h3 : -1000000 ≤ d) (h4 : d ≤ 1000000) (w : World) : Calls Tryd.prog 51 #[.int .i64 n, .int .i64 d] w fun rv w' => rv = .returned (two (odV n) (d + tzV n)) ∧ Ext w w' := by
  have kz : (n == 0) = false := by simpa using h0
  go_enter Tryd.func51, Tryd.ntmps51
  go_wp2
  go_loop [0, 1] (fun x y => ∃ m j : Int, m ≠ 0 ∧ 0 ≤ j ∧ j ≤ 63 ∧ -9223372036854775808 < m ∧ m < 9223372036854775808 ∧ x = .int .i64 m ∧ y = .int .i64 (d + j) ∧ n = m * pw j) (fun x _ => (intOf x).natAbs)
  case atStart => exact ⟨n, 0, h0, by decide, by decide, h1, h2, rfl, by rw [Int.add_zero], (Int.mul_one n).symm⟩
  case round =>
    obtain ⟨m, j, m0, j0, j1, m1, m2, rfl, rfl, he⟩ := hrel
    have k := tmod_two m
    by_cases hm : m % 2 = 0
    · have k2 : (m.tmod 2 == 0) = true := by rw [k]; simpa using hm
      have k4 := tdiv_half m hm
      have he2 : n = m / 2 * pw (j + 1) := by
        rw [pw_succ j j0, ← Int.mul_assoc, show m / 2 * 2 = m by omega]; exact he
      have j2 : j + 1 ≤ 63 := by
        apply Int.le_of_not_gt
        intro hg
        have e63 : j = 63 := by omega
        subst e63
        have e1 : pw 63 = 9223372036854775808 := rfl
        rw [e1] at he
        rcases Int.lt_or_gt_of_ne m0 with g | g <;> omega
      have He := Lib.hid he2; clear he he2 k kz
      have j3 : IntKind.i64.wrap (d + j + 1) = d + (j + 1) := by rw [IntWalk.i64_in _ (by omega)]; omega
      go_wp2
      go_round
      case rel => exact ⟨m / 2, j + 1, by omega, by omega, j2, by omega, by omega, by first | rfl | (rw [k4]), by first | rfl | (rw [Int.add_assoc]), He.out⟩
      case measure => simp [intOf]; omega
    · have k2 : (m.tmod 2 == 0) = false := by rw [k]; simpa using hm
      obtain ⟨t1, t2⟩ := tz_of n m j j0 (by omega) he h1 h2
      have T1 := Lib.hid t1; have T2 := Lib.hid t2; clear t1 t2 he k kz
      have q := buildDy m (d + j)
      go_wp2
      exact bodyPost_ret (v := two m (d + j)) (by simp [results, Tryd.results51, go_sem, *]) rfl ⟨by rw [T1.out, T2.out], (by repeat (first | exact Ext.refl _ | with_reducible assumption | apply Ext.alloc | apply Ext.drew | apply Ext.drewN | (refine Ext.setRow ?_ (by first | (simp; done) | (simp; omega) | omega) _) | (refine Ext.setCell ?_ (by first | (simp; done) | (simp; omega) | omega) _) | (refine Ext.trans ?_ (by with_reducible assumption))))⟩

theorem rdShort_any (n d : Int) (h1 : -9223372036854775808 < n) (h2 : n < 9223372036854775808) (h3 : -1000000 ≤ d) (h4 : d ≤ 1000000) (w : World) : Calls Tryd.prog 51 #[.int .i64 n, .int .i64 d] w fun rv w' => rv = .returned (two (odV n) (shE n d)) ∧ Ext w w' := by
  by_cases h0 : n = 0
  · subst h0
    rw [od_zero, show shE 0 d = 0 from rfl]
    exact rdShort_zero d w
  · have := rdShort_yes n d h0 h1 h2 h3 h4 w
    rwa [show shE n d = d + tzV n from if_neg h0]
end Go.Proofs.YtcbkhlaiefiieabDoor

namespace Go.Proofs.YtcbkhlaiefiieabDoor
open Go Go.RowKit
set_option linter.unusedSimpArgs false
set_option linter.unusedVariables false

theorem low_few {na ea nb eb : Int} (ha : dyB na ea = true) (hb : dyB nb eb = true) (h0 : na ≠ 0) (h1 : nb ≠ 0) (h : plV na + ea = plV nb + eb) :
    0 ≤ ea - min ea eb ∧ ea - min ea eb ≤ 51 ∧ 0 ≤ eb - min ea eb ∧ eb - min ea eb ≤ 51 := by
  obtain ⟨⟨a1, a2, a3, a4⟩, _⟩ := dy_iff.1 ha
  obtain ⟨⟨b1, b2, b3, b4⟩, _⟩ := dy_iff.1 hb
  have := (top_bd ha).2.2; have := (top_bd hb).2.2
  have := (pl_bd na h0 (by omega) (by omega)).1
  have := (pl_bd nb h1 (by omega) (by omega)).1
  omega

theorem sg_nz {na nb : Int} (h : sgV na = sgV nb) (h0 : na ≠ 0) : nb ≠ 0 := by
  intro hb
  subst hb
  rcases Int.lt_or_gt_of_ne h0 with g | g
  · rw [sg_neg g] at h; cases h
  · rw [sg_pos g] at h; cases h
end Go.Proofs.YtcbkhlaiefiieabDoor

namespace Go.Proofs.YtcbkhlaiefiieabDoor
open Go Go.RowKit
set_option linter.unusedSimpArgs false
set_option linter.unusedVariables false

theorem rdNegate_any (n d : Int) (h1 : -9223372036854775808 < n) (h2 : n < 9223372036854775808) (w : World) : Calls Tryd.prog 84 #[two n d] w fun rv w' => rv = .returned (two (-n) d) ∧ Ext w w' := by
  have q := buildDy (-n) d
  go_enter Tryd.func84, Tryd.ntmps84
  go_wp2
  exact bodyPost_ret (v := two (-n) d) (by simp [results, Tryd.results84, go_sem, *]) rfl ⟨rfl, (by repeat (first | exact Ext.refl _ | with_reducible assumption | apply Ext.alloc | apply Ext.drew | apply Ext.drewN | (refine Ext.setRow ?_ (by first | (simp; done) | (simp; omega) | omega) _) | (refine Ext.setCell ?_ (by first | (simp; done) | (simp; omega) | omega) _) | (refine Ext.trans ?_ (by with_reducible assumption))))⟩

theorem iCompareDyadic_same (n d : Int) (hg : dyB n d = true) (w : World) : Calls Tryd.prog 106 #[two n d, two n d] w fun rv w' => rv = .returned (.tuple #[.int .i64 (cmpD n d n d), .bool true]) ∧ Ext w w' := by
  have q := eqDy n d n d
  have q2 : (n == n && d == d) = true := by simp
  rw [q2] at q
  have hk := cmp_same (na := n) (ea := d)
  have Hk := Lib.hid hk; clear hk q2
  go_enter Tryd.func106, Tryd.ntmps106
  go_wp2_with (go_at_call 63; refine (iIsDyadic_any _ _ _).mono ?_; rintro rv w1 ⟨rfl, hb⟩; have ns : w.heap.size + 1 < w1.heap.size := hb.lt (by first | with_reducible assumption | omega | (simp; done) | (simp; omega)); have n0 : w1.cell? ⟨w.heap.size, 0, none⟩ = some (.int .i64 n) := (hb.cells _ _ (by first | with_reducible assumption | omega | (simp; done) | (simp; omega))).trans (by first | with_reducible assumption | (simp; done) | (simp; with_reducible assumption) | (rw [cell_alloc_before _ _ _ _ (by omega)]; with_reducible assumption) | (simp [go_sem, *]; done)); have n1 : w1.cell? ⟨w.heap.size, 1, none⟩ = some (.int .i64 d) := (hb.cells _ _ (by first | with_reducible assumption | omega | (simp; done) | (simp; omega))).trans (by first | with_reducible assumption | (simp; done) | (simp; with_reducible assumption) | (rw [cell_alloc_before _ _ _ _ (by omega)]; with_reducible assumption) | (simp [go_sem, *]; done)); have n2 : w1.cell? ⟨w.heap.size + 1, 0, none⟩ = some (.int .i64 n) := (hb.cells _ _ (by first | with_reducible assumption | omega | (simp; done) | (simp; omega))).trans (by first | with_reducible assumption | (simp; done) | (simp; with_reducible assumption) | (rw [cell_alloc_before _ _ _ _ (by omega)]; with_reducible assumption) | (simp [go_sem, *]; done)); have n3 : w1.cell? ⟨w.heap.size + 1, 1, none⟩ = some (.int .i64 d) := (hb.cells _ _ (by first | with_reducible assumption | omega | (simp; done) | (simp; omega))).trans (by first | with_reducible assumption | (simp; done) | (simp; with_reducible assumption) | (rw [cell_alloc_before _ _ _ _ (by omega)]; with_reducible assumption) | (simp [go_sem, *]; done)); (first | (have nx := Ext.trans hx hb; clear hx) | (have nx := Ext.trans (hx.alloc _) hb; clear hx) | (have nx := Ext.trans hx.drew hb; clear hx) | have nx := hb); clear hb; try clear hs; try clear g0; try clear g1; try clear g2; try clear g3; have hx := nx; clear nx; have hs := ns; clear ns; have g0 := n0; clear n0; have g1 := n1; clear n1; have g2 := n2; clear n2; have g3 := n3; clear n3)
  go_ret2
  exact ⟨ret_i2 Hk.out.symm, (by repeat (first | exact Ext.refl _ | with_reducible assumption | apply Ext.alloc | apply Ext.drew | apply Ext.drewN | (refine Ext.setRow ?_ (by first | (simp; done) | (simp; omega) | omega) _) | (refine Ext.setCell ?_ (by first | (simp; done) | (simp; omega) | omega) _) | (refine Ext.trans ?_ (by with_reducible assumption))))⟩

theorem sg_top {n d : Int} (h : dyB n d = true) : sgV (topV n d) = sgV n := by
  obtain ⟨⟨h1, h2, h3, h4⟩, _⟩ := dy_iff.1 h
  have q := fun g => pl_bd n g (by omega) (by omega)
  unfold topV
  rcases Int.lt_trichotomy n 0 with g | g | g
  · have := q (by omega)
    rw [sg_neg g, sg_neg (by omega)]
  · rw [sg_zero g]; simp; rfl
  · have := q (by omega)
    rw [sg_pos g, sg_pos (by omega)]

theorem top_few {na ea nb eb : Int} (ha : dyB na ea = true) (hb : dyB nb eb = true) (hn : ¬ (na = nb ∧ ea = eb)) (h : topV na ea = topV nb eb) :
    0 ≤ ea - min ea eb ∧ ea - min ea eb ≤ 51 ∧ 0 ≤ eb - min ea eb ∧ eb - min ea eb ≤ 51 := by
  have hs : sgV na = sgV nb := by rw [← sg_top ha, ← sg_top hb, h]
  obtain ⟨⟨a1, a2, a3, a4⟩, a5⟩ := dy_iff.1 ha
  obtain ⟨⟨b1, b2, b3, b4⟩, b5⟩ := dy_iff.1 hb
  have h0 : na ≠ 0 := by
    intro h0
    have : nb = 0 := by
      subst h0
      rcases Int.lt_trichotomy nb 0 with g | g | g
      · rw [sg_neg g] at hs; cases hs
      · exact g
      · rw [sg_pos g] at hs; cases hs
    omega
  refine low_few ha hb h0 (sg_nz hs h0) ?_
  unfold topV at h
  rw [← hs] at h
  rcases Int.lt_or_gt_of_ne h0 with g | g
  · rw [sg_neg g] at h; omega
  · rw [sg_pos g] at h; omega

set_option maxHeartbeats 1600000 in
theorem iCompareDyadic_top (na ea nb eb : Int) (ha : dyB na ea = true) (hb : dyB nb eb = true) (hn : ¬ (na = nb ∧ ea = eb)) (h : topV na ea ≠ topV nb eb) (w : World) : Calls Tryd.prog 106 #[two na ea, two nb eb] w fun rv w' => rv = .returned (.tuple #[.int .i64 (cmpD na ea nb eb), .bool true]) ∧ Ext w w' := by
  have q := eqDy na ea nb eb
  have q2 : (na == nb && ea == eb) = false := by simpa using hn
  rw [q2] at q
  have hk := cmp_top ha hb h
  have Hk := Lib.hid hk; clear hk q2
  have s1 : ¬ sgV (topV na ea - topV nb eb) = 0 := by
    rcases Int.lt_or_gt_of_ne h with g | g
    · rw [sg_neg (by omega)]; decide
    · rw [sg_pos (by omega)]; decide
  have s2 : (sgV (topV na ea - topV nb eb) == 0) = false := by simpa using s1
  have s3 : (sgV (topV na ea - topV nb eb) != 0) = true := by simpa using s1
  clear h hn
  go_enter Tryd.func106, Tryd.ntmps106
  go_wp2_with (go_at_call 63; refine (iIsDyadic_any _ _ _).mono ?_; rintro rv w1 ⟨rfl, hb⟩; have ns : w.heap.size + 1 < w1.heap.size := hb.lt (by first | with_reducible assumption | omega | (simp; done) | (simp; omega)); have n0 : w1.cell? ⟨w.heap.size, 0, none⟩ = some (.int .i64 na) := (hb.cells _ _ (by first | with_reducible assumption | omega | (simp; done) | (simp; omega))).trans (by first | with_reducible assumption | (simp; done) | (simp; with_reducible assumption) | (rw [cell_alloc_before _ _ _ _ (by omega)]; with_reducible assumption) | (simp [go_sem, *]; done)); have n1 : w1.cell? ⟨w.heap.size, 1, none⟩ = some (.int .i64 ea) := (hb.cells _ _ (by first | with_reducible assumption | omega | (simp; done) | (simp; omega))).trans (by first | with_reducible assumption | (simp; done) | (simp; with_reducible assumption) | (rw [cell_alloc_before _ _ _ _ (by omega)]; with_reducible assumption) | (simp [go_sem, *]; done)); have n2 : w1.cell? ⟨w.heap.size + 1, 0, none⟩ = some (.int .i64 nb) := (hb.cells _ _ (by first | with_reducible assumption | omega | (simp; done) | (simp; omega))).trans (by first | with_reducible assumption | (simp; done) | (simp; with_reducible assumption) | (rw [cell_alloc_before _ _ _ _ (by omega)]; with_reducible assumption) | (simp [go_sem, *]; done)); have n3 : w1.cell? ⟨w.heap.size + 1, 1, none⟩ = some (.int .i64 eb) := (hb.cells _ _ (by first | with_reducible assumption | omega | (simp; done) | (simp; omega))).trans (by first | with_reducible assumption | (simp; done) | (simp; with_reducible assumption) | (rw [cell_alloc_before _ _ _ _ (by omega)]; with_reducible assumption) | (simp [go_sem, *]; done)); (first | (have nx := Ext.trans hx hb; clear hx) | (have nx := Ext.trans (hx.alloc _) hb; clear hx) | (have nx := Ext.trans hx.drew hb; clear hx) | have nx := hb); clear hb; try clear hs; try clear g0; try clear g1; try clear g2; try clear g3; have hx := nx; clear nx; have hs := ns; clear ns; have g0 := n0; clear n0; have g1 := n1; clear n1; have g2 := n2; clear n2; have g3 := n3; clear n3)
  go_region_held3 (fun w' => w'.cell? ⟨w.heap.size, 0, none⟩ = some (.int .i64 na) ∧ w'.cell? ⟨w.heap.size, 1, none⟩ = some (.int .i64 ea) ∧ w'.cell? ⟨w.heap.size + 1, 0, none⟩ = some (.int .i64 nb) ∧ w'.cell? ⟨w.heap.size + 1, 1, none⟩ = some (.int .i64 eb) ∧ w.heap.size + 1 < w'.heap.size) ((refine ⟨?_, ?_, ?_, ?_, ?_⟩ <;> first | with_reducible assumption | ((rw [cell_setRow_far _ _ _ _ _ (by omega)]); with_reducible assumption) | ((rw [setRow_size]); with_reducible assumption) | ((repeat rw [World.cell?_setCell_far _ _ _ _ (by simp)]); with_reducible assumption) | (simp; done) | (simp [World.setCell]; first | done | omega) | (simp [go_sem, World.cell?_alloc_past, World.cell?_setCell_far, *]; done))) ((first | (go_at_call 126; refine (topOf_any _ _ (by assumption) _).mono ?_; rintro rv w1 ⟨rfl, hb⟩; have ns : w.heap.size + 1 < w1.heap.size := hb.lt (by first | with_reducible assumption | omega | (simp; done) | (simp; omega)); have n0 : w1.cell? ⟨w.heap.size, 0, none⟩ = some (.int .i64 na) := (hb.cells _ _ (by first | with_reducible assumption | omega | (simp; done) | (simp; omega))).trans (by first | with_reducible assumption | (simp; done) | (simp; with_reducible assumption) | (rw [cell_alloc_before _ _ _ _ (by omega)]; with_reducible assumption) | (simp [go_sem, *]; done)); have n1 : w1.cell? ⟨w.heap.size, 1, none⟩ = some (.int .i64 ea) := (hb.cells _ _ (by first | with_reducible assumption | omega | (simp; done) | (simp; omega))).trans (by first | with_reducible assumption | (simp; done) | (simp; with_reducible assumption) | (rw [cell_alloc_before _ _ _ _ (by omega)]; with_reducible assumption) | (simp [go_sem, *]; done)); have n2 : w1.cell? ⟨w.heap.size + 1, 0, none⟩ = some (.int .i64 nb) := (hb.cells _ _ (by first | with_reducible assumption | omega | (simp; done) | (simp; omega))).trans (by first | with_reducible assumption | (simp; done) | (simp; with_reducible assumption) | (rw [cell_alloc_before _ _ _ _ (by omega)]; with_reducible assumption) | (simp [go_sem, *]; done)); have n3 : w1.cell? ⟨w.heap.size + 1, 1, none⟩ = some (.int .i64 eb) := (hb.cells _ _ (by first | with_reducible assumption | omega | (simp; done) | (simp; omega))).trans (by first | with_reducible assumption | (simp; done) | (simp; with_reducible assumption) | (rw [cell_alloc_before _ _ _ _ (by omega)]; with_reducible assumption) | (simp [go_sem, *]; done)); (first | (have nx := Ext.trans hx hb; clear hx) | (have nx := Ext.trans (hx.alloc _) hb; clear hx) | (have nx := Ext.trans hx.drew hb; clear hx) | have nx := hb); clear hb; try clear hs; try clear g0; try clear g1; try clear g2; try clear g3; have hx := nx; clear nx; have hs := ns; clear ns; have g0 := n0; clear n0; have g1 := n1; clear n1; have g2 := n2; clear n2; have g3 := n3; clear n3) | (go_at_call 125; refine (compare_sg _ _ _).mono ?_; rintro rv w1 ⟨rfl, rfl⟩)))
  go_wp2_with fail
  go_ret2
  exact ⟨ret_i2 Hk.out.symm, (by repeat (first | exact Ext.refl _ | with_reducible assumption | apply Ext.alloc | apply Ext.drew | apply Ext.drewN | (refine Ext.setRow ?_ (by first | (simp; done) | (simp; omega) | omega) _) | (refine Ext.setCell ?_ (by first | (simp; done) | (simp; omega) | omega) _) | (refine Ext.trans ?_ (by with_reducible assumption))))⟩

set_option maxHeartbeats 1600000 in
theorem iCompareDyadic_low (na ea nb eb : Int) (ha : dyB na ea = true) (hb : dyB nb eb = true) (hn : ¬ (na = nb ∧ ea = eb)) (h : topV na ea = topV nb eb) (w : World) : Calls Tryd.prog 106 #[two na ea, two nb eb] w fun rv w' => rv = .returned (.tuple #[.int .i64 (cmpD na ea nb eb), .bool true]) ∧ Ext w w' := by
  obtain ⟨⟨a1, a2, a3, a4⟩, _⟩ := dy_iff.1 ha
  obtain ⟨⟨b1, b2, b3, b4⟩, _⟩ := dy_iff.1 hb
  have q := eqDy na ea nb eb
  have q2 : (na == nb && ea == eb) = false := by simpa using hn
  rw [q2] at q
  have hk := cmp_low (na := na) (ea := ea) (nb := nb) (eb := eb) (l := min ea eb) (by omega) (by omega) (by omega)
  have Hk := Lib.hid hk; clear hk q2
  obtain ⟨f1, f2, f5⟩ := low_fits ha hb h
  obtain ⟨f3, f4, f6⟩ := low_fits hb ha h.symm
  rw [show min eb ea = min ea eb by omega] at f3 f4 f6
  have s1 : sgV (topV na ea - topV nb eb) = 0 := sg_zero (by omega)
  have H1 := Lib.hid s1; clear s1
  have s2 : (sgV (topV na ea - topV nb eb) == 0) = true := by simp [H1.out]
  have s3 : (sgV (topV na ea - topV nb eb) != 0) = false := by simp [H1.out]
  have k3 : IntKind.i64.wrap (ea - min ea eb) = ea - min ea eb := IntWalk.i64_in _ (by omega)
  have k4 : IntKind.i64.wrap (eb - min ea eb) = eb - min ea eb := IntWalk.i64_in _ (by omega)
  have p1 := pw_of (ea - min ea eb)
  have p2 := pw_of (eb - min ea eb)
  have k5 : IntKind.i64.wrap (na * pw (ea - min ea eb)) = na * pw (ea - min ea eb) := IntWalk.i64_in _ (by omega)
  have k6 : IntKind.i64.wrap (nb * pw (eb - min ea eb)) = nb * pw (eb - min ea eb) := IntWalk.i64_in _ (by omega)
  obtain ⟨j1, j2, j3, j4⟩ := top_few ha hb hn h
  clear h hn
  go_enter Tryd.func106, Tryd.ntmps106
  go_wp2_with (go_at_call 63; refine (iIsDyadic_any _ _ _).mono ?_; rintro rv w1 ⟨rfl, hb⟩; have ns : w.heap.size + 1 < w1.heap.size := hb.lt (by first | with_reducible assumption | omega | (simp; done) | (simp; omega)); have n0 : w1.cell? ⟨w.heap.size, 0, none⟩ = some (.int .i64 na) := (hb.cells _ _ (by first | with_reducible assumption | omega | (simp; done) | (simp; omega))).trans (by first | with_reducible assumption | (simp; done) | (simp; with_reducible assumption) | (rw [cell_alloc_before _ _ _ _ (by omega)]; with_reducible assumption) | (simp [go_sem, *]; done)); have n1 : w1.cell? ⟨w.heap.size, 1, none⟩ = some (.int .i64 ea) := (hb.cells _ _ (by first | with_reducible assumption | omega | (simp; done) | (simp; omega))).trans (by first | with_reducible assumption | (simp; done) | (simp; with_reducible assumption) | (rw [cell_alloc_before _ _ _ _ (by omega)]; with_reducible assumption) | (simp [go_sem, *]; done)); have n2 : w1.cell? ⟨w.heap.size + 1, 0, none⟩ = some (.int .i64 nb) := (hb.cells _ _ (by first | with_reducible assumption | omega | (simp; done) | (simp; omega))).trans (by first | with_reducible assumption | (simp; done) | (simp; with_reducible assumption) | (rw [cell_alloc_before _ _ _ _ (by omega)]; with_reducible assumption) | (simp [go_sem, *]; done)); have n3 : w1.cell? ⟨w.heap.size + 1, 1, none⟩ = some (.int .i64 eb) := (hb.cells _ _ (by first | with_reducible assumption | omega | (simp; done) | (simp; omega))).trans (by first | with_reducible assumption | (simp; done) | (simp; with_reducible assumption) | (rw [cell_alloc_before _ _ _ _ (by omega)]; with_reducible assumption) | (simp [go_sem, *]; done)); (first | (have nx := Ext.trans hx hb; clear hx) | (have nx := Ext.trans (hx.alloc _) hb; clear hx) | (have nx := Ext.trans hx.drew hb; clear hx) | have nx := hb); clear hb; try clear hs; try clear g0; try clear g1; try clear g2; try clear g3; have hx := nx; clear nx; have hs := ns; clear ns; have g0 := n0; clear n0; have g1 := n1; clear n1; have g2 := n2; clear n2; have g3 := n3; clear n3)
  go_region_held3 (fun w' => w'.cell? ⟨w.heap.size, 0, none⟩ = some (.int .i64 na) ∧ w'.cell? ⟨w.heap.size, 1, none⟩ = some (.int .i64 ea) ∧ w'.cell? ⟨w.heap.size + 1, 0, none⟩ = some (.int .i64 nb) ∧ w'.cell? ⟨w.heap.size + 1, 1, none⟩ = some (.int .i64 eb) ∧ w.heap.size + 1 < w'.heap.size) ((refine ⟨?_, ?_, ?_, ?_, ?_⟩ <;> first | with_reducible assumption | ((rw [cell_setRow_far _ _ _ _ _ (by omega)]); with_reducible assumption) | ((rw [setRow_size]); with_reducible assumption) | ((repeat rw [World.cell?_setCell_far _ _ _ _ (by simp)]); with_reducible assumption) | (simp; done) | (simp [World.setCell]; first | done | omega) | (simp [go_sem, World.cell?_alloc_past, World.cell?_setCell_far, *]; done))) ((first | (go_at_call 126; refine (topOf_any _ _ (by assumption) _).mono ?_; rintro rv w1 ⟨rfl, hb⟩; have ns : w.heap.size + 1 < w1.heap.size := hb.lt (by first | with_reducible assumption | omega | (simp; done) | (simp; omega)); have n0 : w1.cell? ⟨w.heap.size, 0, none⟩ = some (.int .i64 na) := (hb.cells _ _ (by first | with_reducible assumption | omega | (simp; done) | (simp; omega))).trans (by first | with_reducible assumption | (simp; done) | (simp; with_reducible assumption) | (rw [cell_alloc_before _ _ _ _ (by omega)]; with_reducible assumption) | (simp [go_sem, *]; done)); have n1 : w1.cell? ⟨w.heap.size, 1, none⟩ = some (.int .i64 ea) := (hb.cells _ _ (by first | with_reducible assumption | omega | (simp; done) | (simp; omega))).trans (by first | with_reducible assumption | (simp; done) | (simp; with_reducible assumption) | (rw [cell_alloc_before _ _ _ _ (by omega)]; with_reducible assumption) | (simp [go_sem, *]; done)); have n2 : w1.cell? ⟨w.heap.size + 1, 0, none⟩ = some (.int .i64 nb) := (hb.cells _ _ (by first | with_reducible assumption | omega | (simp; done) | (simp; omega))).trans (by first | with_reducible assumption | (simp; done) | (simp; with_reducible assumption) | (rw [cell_alloc_before _ _ _ _ (by omega)]; with_reducible assumption) | (simp [go_sem, *]; done)); have n3 : w1.cell? ⟨w.heap.size + 1, 1, none⟩ = some (.int .i64 eb) := (hb.cells _ _ (by first | with_reducible assumption | omega | (simp; done) | (simp; omega))).trans (by first | with_reducible assumption | (simp; done) | (simp; with_reducible assumption) | (rw [cell_alloc_before _ _ _ _ (by omega)]; with_reducible assumption) | (simp [go_sem, *]; done)); (first | (have nx := Ext.trans hx hb; clear hx) | (have nx := Ext.trans (hx.alloc _) hb; clear hx) | (have nx := Ext.trans hx.drew hb; clear hx) | have nx := hb); clear hb; try clear hs; try clear g0; try clear g1; try clear g2; try clear g3; have hx := nx; clear nx; have hs := ns; clear ns; have g0 := n0; clear n0; have g1 := n1; clear n1; have g2 := n2; clear n2; have g3 := n3; clear n3) | (go_at_call 125; refine (compare_sg _ _ _).mono ?_; rintro rv w1 ⟨rfl, rfl⟩)))
  go_wp2_with fail
  go_region_held3 (fun w' => w'.cell? ⟨w.heap.size, 0, none⟩ = some (.int .i64 na) ∧ w'.cell? ⟨w.heap.size, 1, none⟩ = some (.int .i64 ea) ∧ w'.cell? ⟨w.heap.size + 1, 0, none⟩ = some (.int .i64 nb) ∧ w'.cell? ⟨w.heap.size + 1, 1, none⟩ = some (.int .i64 eb) ∧ w.heap.size + 1 < w'.heap.size) ((refine ⟨?_, ?_, ?_, ?_, ?_⟩ <;> first | with_reducible assumption | ((rw [cell_setRow_far _ _ _ _ _ (by omega)]); with_reducible assumption) | ((rw [setRow_size]); with_reducible assumption) | ((repeat rw [World.cell?_setCell_far _ _ _ _ (by simp)]); with_reducible assumption) | (simp; done) | (simp [World.setCell]; first | done | omega) | (simp [go_sem, World.cell?_alloc_past, World.cell?_setCell_far, *]; done))) ((first | (go_at_call 125; refine (compare_sg _ _ _).mono ?_; rintro rv w1 ⟨rfl, rfl⟩)))
  go_wp2_with fail
  go_ret2
  exact ⟨ret_i2 Hk.out.symm, (by repeat (first | exact Ext.refl _ | with_reducible assumption | apply Ext.alloc | apply Ext.drew | apply Ext.drewN | (refine Ext.setRow ?_ (by first | (simp; done) | (simp; omega) | omega) _) | (refine Ext.setCell ?_ (by first | (simp; done) | (simp; omega) | omega) _) | (refine Ext.trans ?_ (by with_reducible assumption))))⟩

theorem iCompareDyadic_yes (na ea nb eb : Int) (hg : dy2B na ea nb eb = true) (w : World) : Calls Tryd.prog 106 #[two na ea, two nb eb] w fun rv w' => rv = .returned (.tuple #[.int .i64 (cmpD na ea nb eb), .bool true]) ∧ Ext w w' := by
  obtain ⟨ha, hb⟩ := dy2_iff.1 hg
  by_cases hn : na = nb ∧ ea = eb
  · obtain ⟨rfl, rfl⟩ := hn
    exact iCompareDyadic_same na ea ha w
  · by_cases h : topV na ea = topV nb eb
    · exact iCompareDyadic_low na ea nb eb ha hb hn h w
    · exact iCompareDyadic_top na ea nb eb ha hb hn h w
end Go.Proofs.YtcbkhlaiefiieabDoor

