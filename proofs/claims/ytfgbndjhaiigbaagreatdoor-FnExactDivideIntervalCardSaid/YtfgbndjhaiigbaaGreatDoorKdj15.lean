/-
  Contracts of the functions that the laws reach, and the plain facts that they rest on, each under the conditions that its line names; part 15.
-/
import Derived.Test.YtfgbndjhaiigbaaGreatDoorKdj1
import Derived.Test.YtfgbndjhaiigbaaGreatDoorKdj2
import Derived.Test.YtfgbndjhaiigbaaGreatDoorKdj3
import Derived.Test.YtfgbndjhaiigbaaGreatDoorKdj4
import Derived.Test.YtfgbndjhaiigbaaGreatDoorKdj5
import Derived.Test.YtfgbndjhaiigbaaGreatDoorKdj6
import Derived.Test.YtfgbndjhaiigbaaGreatDoorKdj7
import Derived.Test.YtfgbndjhaiigbaaGreatDoorKdj14
import Derived.Test.YtfgbndjhaiigbaaGreatDoorRows
import Derived.WalkKit
import Derived.LoopTactic
import Derived.Laws.Bits64b
import Derived.WalkSpells
import Derived.WalkLawsBesides
import Derived.StillTactics
import Derived.Laws.Pointers
import Derived.Deep.RegionHeld3
import Derived.Deep.QuietTactic
import Derived.BigQuiet
import Derived.Outline
import Derived.Lib.Hide
import Derived.RowKit3
import Derived.Carry
import Derived.IntWalk
namespace Go.Proofs.YtfgbndjhaiigbaaGreatDoor
open Go Go.RowKit
set_option linter.unusedSimpArgs false
set_option linter.unusedVariables false

set_option maxRecDepth 100000 in
set_option maxHeartbeats 1600000 in
theorem rdOf_zero (e f n d : Int) (hg : goodB e f = true) (hd : RdIn n (d - unV e f)) (h0 : n = 0) (w : World) : Calls Tryz.prog 158 #[fmt e f, two n d] w fun rv w' => rv = .returned (.agg #[.int .i64 (0), .int .i64 (0), .int .i64 (1)]) ∧ Ext w w' := by
  obtain ⟨⟨h1, h2⟩, ⟨h3, h4⟩, h5⟩ := hd
  obtain ⟨u1, u2, u3, u4⟩ := un_bd hg
  have k0 : IntKind.i64.wrap (d - unV e f) = (d - unV e f) := IntWalk.i64_in _ (by omega)
  have z2 : ((n.natAbs : Int) == 0) = true := by simpa using h0
  clear h0
  have q : ∀ a b c : Int, ∀ w, (Instr.build 92 #[(0, .int .i64 a), (1, .int .i64 b), (2, .int .i64 c)]).run Tryz.prog w = .ok (.agg #[.int .i64 (a), .int .i64 (b), .int .i64 (c)]) w := fun a b c w => run_build w _ _ _ (by kernel_rfl)
  go_enter Tryz.func158, Tryz.ntmps158
  go_wp2_with fail
  go_region_held3 (fun w' => w'.cell? ⟨w.heap.size, 0, none⟩ = some (.int .i64 e) ∧ w'.cell? ⟨w.heap.size, 1, none⟩ = some (.int .i64 f) ∧ w'.cell? ⟨w.heap.size + 1, 0, none⟩ = some (.int .i64 n) ∧ w'.cell? ⟨w.heap.size + 1, 1, none⟩ = some (.int .i64 d) ∧ w.heap.size + 2 < w'.heap.size) ((refine ⟨?_, ?_, ?_, ?_, ?_⟩ <;> first | with_reducible assumption | ((repeat first | rw [cell_set_far _ _ _ _ _ _ (by omega)] | rw [cell_alloc_before _ _ _ _ (by omega)] | rw [cell_alloc_drew _ _ _ _ (by omega)] | rw [cell_drew]); with_reducible assumption) | ((rw [cell_setRow_far _ _ _ _ _ (by omega)]); with_reducible assumption) | ((rw [setRow_size]); with_reducible assumption) | (simp; done) | (simp [World.setCell]; first | done | omega) | (simp [go_sem, World.cell?_alloc_past, World.cell?_setCell_far, *]; done))) ((first | (go_at_call 82; refine (l1Abs_nat n (by omega) (by omega) _).mono ?_; rintro rv w1 ⟨rfl, rfl⟩) | (go_at_call 87; refine (rdUnit_any e f hg _).mono ?_; rintro rv w1 ⟨rfl, hb⟩; have ns : w.heap.size + 2 < w1.heap.size := hb.ltK; have n0 : w1.cell? ⟨w.heap.size, 0, none⟩ = some (.int .i64 e) := hb.cellK; have n1 : w1.cell? ⟨w.heap.size, 1, none⟩ = some (.int .i64 f) := hb.cellK; have n2 : w1.cell? ⟨w.heap.size + 1, 0, none⟩ = some (.int .i64 n) := hb.cellK; have n3 : w1.cell? ⟨w.heap.size + 1, 1, none⟩ = some (.int .i64 d) := hb.cellK; have n4 : w1.cell? ⟨w.heap.size + 2, 0, none⟩ = some (.int .i64 0) := hb.cellK; have n5 : w1.cell? ⟨w.heap.size + 2, 1, none⟩ = some (.int .i64 0) := hb.cellK; have n6 : w1.cell? ⟨w.heap.size + 2, 2, none⟩ = some (.int .i64 0) := hb.cellK; have nz0 : w1.frozen? ⟨w.heap.size + 2, 0, none⟩ = false := hb.frzK; have nz1 : w1.frozen? ⟨w.heap.size + 2, 1, none⟩ = false := hb.frzK; have nz2 : w1.frozen? ⟨w.heap.size + 2, 2, none⟩ = false := hb.frzK; (first | (have nx := hx.trK hb; clear hx) | have nx := hb); clear hb; try clear hs; try clear g0; try clear g1; try clear g2; try clear g3; try clear g4; try clear g5; try clear g6; try clear z0; try clear z1; try clear z2; have hx := nx; clear nx; have hs := ns; clear ns; have g0 := n0; clear n0; have g1 := n1; clear n1; have g2 := n2; clear n2; have g3 := n3; clear n3; have g4 := n4; clear n4; have g5 := n5; clear n5; have g6 := n6; clear n6; have z0 := nz0; clear nz0; have z1 := nz1; clear nz1; have z2 := nz2; clear nz2)))
  go_wp2_with fail
  exact bodyPost_ret (v := .agg #[.int .i64 (0), .int .i64 (0), .int .i64 (1)]) (by simp [results, Tryz.results158, go_sem, *]) rfl ⟨rfl, Ext.auK⟩

set_option maxRecDepth 100000 in
set_option maxHeartbeats 1600000 in
theorem rdOf_great (e f n d : Int) (hg : goodB e f = true) (hd : RdIn n (d - unV e f)) (h0 : n ≠ 0) (hk : 0 ≤ (d - unV e f)) (hb : 44 < plV n + (d - unV e f)) (w : World) : Calls Tryz.prog 158 #[fmt e f, two n d] w fun rv w' => rv = .returned (.agg #[.int .i64 (pw 44), .int .i64 (0), .int .i64 (1)]) ∧ Ext w w' := by
  obtain ⟨⟨h1, h2⟩, ⟨h3, h4⟩, h5⟩ := hd
  obtain ⟨u1, u2, u3, u4⟩ := un_bd hg
  have k0 : IntKind.i64.wrap (d - unV e f) = (d - unV e f) := IntWalk.i64_in _ (by omega)
  have z1 : ¬ (n.natAbs : Int) = 0 := by omega
  have z2 : ((n.natAbs : Int) == 0) = false := by simpa using h0
  have pl0 := pl_nn n
  have pl1 := pl_60 h1 h2
  have k1 : IntKind.i64.wrap (plV n + (d - unV e f)) = plV n + (d - unV e f) := IntWalk.i64_in _ (by omega)
  have q : ∀ a b c : Int, ∀ w, (Instr.build 92 #[(0, .int .i64 a), (1, .int .i64 b), (2, .int .i64 c)]).run Tryz.prog w = .ok (.agg #[.int .i64 (a), .int .i64 (b), .int .i64 (c)]) w := fun a b c w => run_build w _ _ _ (by kernel_rfl)
  go_enter Tryz.func158, Tryz.ntmps158
  go_wp2_with fail
  go_region_held3 (fun w' => w'.cell? ⟨w.heap.size, 0, none⟩ = some (.int .i64 e) ∧ w'.cell? ⟨w.heap.size, 1, none⟩ = some (.int .i64 f) ∧ w'.cell? ⟨w.heap.size + 1, 0, none⟩ = some (.int .i64 n) ∧ w'.cell? ⟨w.heap.size + 1, 1, none⟩ = some (.int .i64 d) ∧ w.heap.size + 2 < w'.heap.size) ((refine ⟨?_, ?_, ?_, ?_, ?_⟩ <;> first | with_reducible assumption | ((repeat first | rw [cell_set_far _ _ _ _ _ _ (by omega)] | rw [cell_alloc_before _ _ _ _ (by omega)] | rw [cell_alloc_drew _ _ _ _ (by omega)] | rw [cell_drew]); with_reducible assumption) | ((rw [cell_setRow_far _ _ _ _ _ (by omega)]); with_reducible assumption) | ((rw [setRow_size]); with_reducible assumption) | (simp; done) | (simp [World.setCell]; first | done | omega) | (simp [go_sem, World.cell?_alloc_past, World.cell?_setCell_far, *]; done))) ((first | (go_at_call 82; refine (l1Abs_nat n (by omega) (by omega) _).mono ?_; rintro rv w1 ⟨rfl, rfl⟩) | (go_at_call 87; refine (rdUnit_any e f hg _).mono ?_; rintro rv w1 ⟨rfl, hb⟩; have ns : w.heap.size + 2 < w1.heap.size := hb.ltK; have n0 : w1.cell? ⟨w.heap.size, 0, none⟩ = some (.int .i64 e) := hb.cellK; have n1 : w1.cell? ⟨w.heap.size, 1, none⟩ = some (.int .i64 f) := hb.cellK; have n2 : w1.cell? ⟨w.heap.size + 1, 0, none⟩ = some (.int .i64 n) := hb.cellK; have n3 : w1.cell? ⟨w.heap.size + 1, 1, none⟩ = some (.int .i64 d) := hb.cellK; have n4 : w1.cell? ⟨w.heap.size + 2, 0, none⟩ = some (.int .i64 0) := hb.cellK; have n5 : w1.cell? ⟨w.heap.size + 2, 1, none⟩ = some (.int .i64 0) := hb.cellK; have n6 : w1.cell? ⟨w.heap.size + 2, 2, none⟩ = some (.int .i64 0) := hb.cellK; have nz0 : w1.frozen? ⟨w.heap.size + 2, 0, none⟩ = false := hb.frzK; have nz1 : w1.frozen? ⟨w.heap.size + 2, 1, none⟩ = false := hb.frzK; have nz2 : w1.frozen? ⟨w.heap.size + 2, 2, none⟩ = false := hb.frzK; (first | (have nx := hx.trK hb; clear hx) | have nx := hb); clear hb; try clear hs; try clear g0; try clear g1; try clear g2; try clear g3; try clear g4; try clear g5; try clear g6; try clear z0; try clear z1; try clear z2; have hx := nx; clear nx; have hs := ns; clear ns; have g0 := n0; clear n0; have g1 := n1; clear n1; have g2 := n2; clear n2; have g3 := n3; clear n3; have g4 := n4; clear n4; have g5 := n5; clear n5; have g6 := n6; clear n6; have z0 := nz0; clear nz0; have z1 := nz1; clear nz1; have z2 := nz2; clear nz2)))
  go_wp2_with (first | (go_at_call 100; refine (rdBits_any _ (by omega) (by omega) _).mono ?_; rintro rv w1 ⟨rfl, rfl⟩; (try rw [plV_abs])) | (go_at_call 101; refine (rdPower_any _ (by omega) (by omega) _).mono ?_; rintro rv w1 ⟨rfl, rfl⟩))
  exact bodyPost_ret (v := .agg #[.int .i64 (pw 44), .int .i64 (0), .int .i64 (1)]) (by simp [results, Tryz.results158, go_sem, *]) rfl ⟨rfl, Ext.auK⟩

set_option maxRecDepth 100000 in
set_option maxHeartbeats 1600000 in
theorem rdOf_whole (e f n d : Int) (hg : goodB e f = true) (hd : RdIn n (d - unV e f)) (h0 : n ≠ 0) (hk : 0 ≤ (d - unV e f)) (hb : plV n + (d - unV e f) ≤ 44) (w : World) : Calls Tryz.prog 158 #[fmt e f, two n d] w fun rv w' => rv = .returned (.agg #[.int .i64 ((n.natAbs : Int) * pw (d - unV e f)), .int .i64 (0), .int .i64 (1)]) ∧ Ext w w' := by
  obtain ⟨⟨h1, h2⟩, ⟨h3, h4⟩, h5⟩ := hd
  obtain ⟨u1, u2, u3, u4⟩ := un_bd hg
  have k0 : IntKind.i64.wrap (d - unV e f) = (d - unV e f) := IntWalk.i64_in _ (by omega)
  have z1 : ¬ (n.natAbs : Int) = 0 := by omega
  have z2 : ((n.natAbs : Int) == 0) = false := by simpa using h0
  have pl0 := pl_nn n
  have pl1 := pl_60 h1 h2
  have k1 : IntKind.i64.wrap (plV n + (d - unV e f)) = plV n + (d - unV e f) := IntWalk.i64_in _ (by omega)
  have pl2 := (pl_bd n h0 (by omega) (by omega)).1
  have b := mul_bd (n := n) (j := (d - unV e f)) (k := 44) hk hb (by decide) (by omega) (by omega)
  have b2 : (n.natAbs : Int) * pw (d - unV e f) = (n * pw (d - unV e f)).natAbs := by rw [Int.natAbs_mul, Int.natCast_mul]; congr 1
  rw [← b2, show pw 44 = 17592186044416 from rfl] at b
  have b3 : 0 ≤ (n.natAbs : Int) * pw (d - unV e f) := by rw [b2]; omega
  clear b2
  have k2 : IntKind.i64.wrap ((n.natAbs : Int) * pw (d - unV e f)) = (n.natAbs : Int) * pw (d - unV e f) := IntWalk.i64_in _ (by omega)
  clear b b3
  have q : ∀ a b c : Int, ∀ w, (Instr.build 92 #[(0, .int .i64 a), (1, .int .i64 b), (2, .int .i64 c)]).run Tryz.prog w = .ok (.agg #[.int .i64 (a), .int .i64 (b), .int .i64 (c)]) w := fun a b c w => run_build w _ _ _ (by kernel_rfl)
  go_enter Tryz.func158, Tryz.ntmps158
  go_wp2_with fail
  go_region_held3 (fun w' => w'.cell? ⟨w.heap.size, 0, none⟩ = some (.int .i64 e) ∧ w'.cell? ⟨w.heap.size, 1, none⟩ = some (.int .i64 f) ∧ w'.cell? ⟨w.heap.size + 1, 0, none⟩ = some (.int .i64 n) ∧ w'.cell? ⟨w.heap.size + 1, 1, none⟩ = some (.int .i64 d) ∧ w.heap.size + 2 < w'.heap.size) ((refine ⟨?_, ?_, ?_, ?_, ?_⟩ <;> first | with_reducible assumption | ((repeat first | rw [cell_set_far _ _ _ _ _ _ (by omega)] | rw [cell_alloc_before _ _ _ _ (by omega)] | rw [cell_alloc_drew _ _ _ _ (by omega)] | rw [cell_drew]); with_reducible assumption) | ((rw [cell_setRow_far _ _ _ _ _ (by omega)]); with_reducible assumption) | ((rw [setRow_size]); with_reducible assumption) | (simp; done) | (simp [World.setCell]; first | done | omega) | (simp [go_sem, World.cell?_alloc_past, World.cell?_setCell_far, *]; done))) ((first | (go_at_call 82; refine (l1Abs_nat n (by omega) (by omega) _).mono ?_; rintro rv w1 ⟨rfl, rfl⟩) | (go_at_call 87; refine (rdUnit_any e f hg _).mono ?_; rintro rv w1 ⟨rfl, hb⟩; have ns : w.heap.size + 2 < w1.heap.size := hb.ltK; have n0 : w1.cell? ⟨w.heap.size, 0, none⟩ = some (.int .i64 e) := hb.cellK; have n1 : w1.cell? ⟨w.heap.size, 1, none⟩ = some (.int .i64 f) := hb.cellK; have n2 : w1.cell? ⟨w.heap.size + 1, 0, none⟩ = some (.int .i64 n) := hb.cellK; have n3 : w1.cell? ⟨w.heap.size + 1, 1, none⟩ = some (.int .i64 d) := hb.cellK; have n4 : w1.cell? ⟨w.heap.size + 2, 0, none⟩ = some (.int .i64 0) := hb.cellK; have n5 : w1.cell? ⟨w.heap.size + 2, 1, none⟩ = some (.int .i64 0) := hb.cellK; have n6 : w1.cell? ⟨w.heap.size + 2, 2, none⟩ = some (.int .i64 0) := hb.cellK; have nz0 : w1.frozen? ⟨w.heap.size + 2, 0, none⟩ = false := hb.frzK; have nz1 : w1.frozen? ⟨w.heap.size + 2, 1, none⟩ = false := hb.frzK; have nz2 : w1.frozen? ⟨w.heap.size + 2, 2, none⟩ = false := hb.frzK; (first | (have nx := hx.trK hb; clear hx) | have nx := hb); clear hb; try clear hs; try clear g0; try clear g1; try clear g2; try clear g3; try clear g4; try clear g5; try clear g6; try clear z0; try clear z1; try clear z2; have hx := nx; clear nx; have hs := ns; clear ns; have g0 := n0; clear n0; have g1 := n1; clear n1; have g2 := n2; clear n2; have g3 := n3; clear n3; have g4 := n4; clear n4; have g5 := n5; clear n5; have g6 := n6; clear n6; have z0 := nz0; clear nz0; have z1 := nz1; clear nz1; have z2 := nz2; clear nz2)))
  go_wp2_with (first | (go_at_call 100; refine (rdBits_any _ (by omega) (by omega) _).mono ?_; rintro rv w1 ⟨rfl, rfl⟩; (try rw [plV_abs])) | (go_at_call 101; refine (rdPower_any _ (by omega) (by omega) _).mono ?_; rintro rv w1 ⟨rfl, rfl⟩))
  exact bodyPost_ret (v := .agg #[.int .i64 ((n.natAbs : Int) * pw (d - unV e f)), .int .i64 (0), .int .i64 (1)]) (by simp [results, Tryz.results158, go_sem, *]) rfl ⟨rfl, Ext.auK⟩

set_option maxRecDepth 100000 in
set_option maxHeartbeats 1600000 in
theorem rdOf_tiny (e f n d : Int) (hg : goodB e f = true) (hd : RdIn n (d - unV e f)) (h0 : n ≠ 0) (hk : (d - unV e f) < -60) (w : World) : Calls Tryz.prog 158 #[fmt e f, two n d] w fun rv w' => rv = .returned (.agg #[.int .i64 (0), .int .i64 (1), .int .i64 (4)]) ∧ Ext w w' := by
  obtain ⟨⟨h1, h2⟩, ⟨h3, h4⟩, h5⟩ := hd
  obtain ⟨u1, u2, u3, u4⟩ := un_bd hg
  have k0 : IntKind.i64.wrap (d - unV e f) = (d - unV e f) := IntWalk.i64_in _ (by omega)
  have z1 : ¬ (n.natAbs : Int) = 0 := by omega
  have z2 : ((n.natAbs : Int) == 0) = false := by simpa using h0
  have pl0 := pl_nn n
  have pl1 := pl_60 h1 h2
  have q : ∀ a b c : Int, ∀ w, (Instr.build 92 #[(0, .int .i64 a), (1, .int .i64 b), (2, .int .i64 c)]).run Tryz.prog w = .ok (.agg #[.int .i64 (a), .int .i64 (b), .int .i64 (c)]) w := fun a b c w => run_build w _ _ _ (by kernel_rfl)
  go_enter Tryz.func158, Tryz.ntmps158
  go_wp2_with fail
  go_region_held3 (fun w' => w'.cell? ⟨w.heap.size, 0, none⟩ = some (.int .i64 e) ∧ w'.cell? ⟨w.heap.size, 1, none⟩ = some (.int .i64 f) ∧ w'.cell? ⟨w.heap.size + 1, 0, none⟩ = some (.int .i64 n) ∧ w'.cell? ⟨w.heap.size + 1, 1, none⟩ = some (.int .i64 d) ∧ w.heap.size + 2 < w'.heap.size) ((refine ⟨?_, ?_, ?_, ?_, ?_⟩ <;> first | with_reducible assumption | ((repeat first | rw [cell_set_far _ _ _ _ _ _ (by omega)] | rw [cell_alloc_before _ _ _ _ (by omega)] | rw [cell_alloc_drew _ _ _ _ (by omega)] | rw [cell_drew]); with_reducible assumption) | ((rw [cell_setRow_far _ _ _ _ _ (by omega)]); with_reducible assumption) | ((rw [setRow_size]); with_reducible assumption) | (simp; done) | (simp [World.setCell]; first | done | omega) | (simp [go_sem, World.cell?_alloc_past, World.cell?_setCell_far, *]; done))) ((first | (go_at_call 82; refine (l1Abs_nat n (by omega) (by omega) _).mono ?_; rintro rv w1 ⟨rfl, rfl⟩) | (go_at_call 87; refine (rdUnit_any e f hg _).mono ?_; rintro rv w1 ⟨rfl, hb⟩; have ns : w.heap.size + 2 < w1.heap.size := hb.ltK; have n0 : w1.cell? ⟨w.heap.size, 0, none⟩ = some (.int .i64 e) := hb.cellK; have n1 : w1.cell? ⟨w.heap.size, 1, none⟩ = some (.int .i64 f) := hb.cellK; have n2 : w1.cell? ⟨w.heap.size + 1, 0, none⟩ = some (.int .i64 n) := hb.cellK; have n3 : w1.cell? ⟨w.heap.size + 1, 1, none⟩ = some (.int .i64 d) := hb.cellK; have n4 : w1.cell? ⟨w.heap.size + 2, 0, none⟩ = some (.int .i64 0) := hb.cellK; have n5 : w1.cell? ⟨w.heap.size + 2, 1, none⟩ = some (.int .i64 0) := hb.cellK; have n6 : w1.cell? ⟨w.heap.size + 2, 2, none⟩ = some (.int .i64 0) := hb.cellK; have nz0 : w1.frozen? ⟨w.heap.size + 2, 0, none⟩ = false := hb.frzK; have nz1 : w1.frozen? ⟨w.heap.size + 2, 1, none⟩ = false := hb.frzK; have nz2 : w1.frozen? ⟨w.heap.size + 2, 2, none⟩ = false := hb.frzK; (first | (have nx := hx.trK hb; clear hx) | have nx := hb); clear hb; try clear hs; try clear g0; try clear g1; try clear g2; try clear g3; try clear g4; try clear g5; try clear g6; try clear z0; try clear z1; try clear z2; have hx := nx; clear nx; have hs := ns; clear ns; have g0 := n0; clear n0; have g1 := n1; clear n1; have g2 := n2; clear n2; have g3 := n3; clear n3; have g4 := n4; clear n4; have g5 := n5; clear n5; have g6 := n6; clear n6; have z0 := nz0; clear nz0; have z1 := nz1; clear nz1; have z2 := nz2; clear nz2)))
  go_wp2_with fail
  exact bodyPost_ret (v := .agg #[.int .i64 (0), .int .i64 (1), .int .i64 (4)]) (by simp [results, Tryz.results158, go_sem, *]) rfl ⟨rfl, Ext.auK⟩

set_option maxRecDepth 100000 in
set_option maxHeartbeats 1600000 in
theorem rdOf_part (e f n d : Int) (hg : goodB e f = true) (hd : RdIn n (d - unV e f)) (h0 : n ≠ 0) (hk : (d - unV e f) < 0) (hk2 : -60 ≤ (d - unV e f)) (w : World) : Calls Tryz.prog 158 #[fmt e f, two n d] w fun rv w' => rv = .returned (.agg #[.int .i64 ((n.natAbs : Int) / pw (-(d - unV e f))), .int .i64 ((n.natAbs : Int) % pw (-(d - unV e f))), .int .i64 (pw (-(d - unV e f)))]) ∧ Ext w w' := by
  obtain ⟨⟨h1, h2⟩, ⟨h3, h4⟩, h5⟩ := hd
  obtain ⟨u1, u2, u3, u4⟩ := un_bd hg
  have k0 : IntKind.i64.wrap (d - unV e f) = (d - unV e f) := IntWalk.i64_in _ (by omega)
  have z1 : ¬ (n.natAbs : Int) = 0 := by omega
  have z2 : ((n.natAbs : Int) == 0) = false := by simpa using h0
  have pl0 := pl_nn n
  have pl1 := pl_60 h1 h2
  have k1 : IntKind.i64.wrap (-(d - unV e f)) = -(d - unV e f) := IntWalk.i64_in _ (by omega)
  have p1 := pw_pos (-(d - unV e f))
  have p2 := pw_le (a := -(d - unV e f)) 60 1152921504606846976 rfl (by omega)
  have p3 := pw_of (-(d - unV e f))
  have p4 : ¬ pw (-(d - unV e f)) = 0 := by omega
  have p5 : (pw (-(d - unV e f)) == 0) = false := by simpa using p4
  have p6 : (n.natAbs : Int).tmod (pw (-(d - unV e f))) = (n.natAbs : Int) % pw (-(d - unV e f)) := Int.tmod_eq_emod_of_nonneg (by omega)
  have q : ∀ a b c : Int, ∀ w, (Instr.build 92 #[(0, .int .i64 a), (1, .int .i64 b), (2, .int .i64 c)]).run Tryz.prog w = .ok (.agg #[.int .i64 (a), .int .i64 (b), .int .i64 (c)]) w := fun a b c w => run_build w _ _ _ (by kernel_rfl)
  go_enter Tryz.func158, Tryz.ntmps158
  go_wp2_with fail
  go_region_held3 (fun w' => w'.cell? ⟨w.heap.size, 0, none⟩ = some (.int .i64 e) ∧ w'.cell? ⟨w.heap.size, 1, none⟩ = some (.int .i64 f) ∧ w'.cell? ⟨w.heap.size + 1, 0, none⟩ = some (.int .i64 n) ∧ w'.cell? ⟨w.heap.size + 1, 1, none⟩ = some (.int .i64 d) ∧ w.heap.size + 2 < w'.heap.size) ((refine ⟨?_, ?_, ?_, ?_, ?_⟩ <;> first | with_reducible assumption | ((repeat first | rw [cell_set_far _ _ _ _ _ _ (by omega)] | rw [cell_alloc_before _ _ _ _ (by omega)] | rw [cell_alloc_drew _ _ _ _ (by omega)] | rw [cell_drew]); with_reducible assumption) | ((rw [cell_setRow_far _ _ _ _ _ (by omega)]); with_reducible assumption) | ((rw [setRow_size]); with_reducible assumption) | (simp; done) | (simp [World.setCell]; first | done | omega) | (simp [go_sem, World.cell?_alloc_past, World.cell?_setCell_far, *]; done))) ((first | (go_at_call 82; refine (l1Abs_nat n (by omega) (by omega) _).mono ?_; rintro rv w1 ⟨rfl, rfl⟩) | (go_at_call 87; refine (rdUnit_any e f hg _).mono ?_; rintro rv w1 ⟨rfl, hb⟩; have ns : w.heap.size + 2 < w1.heap.size := hb.ltK; have n0 : w1.cell? ⟨w.heap.size, 0, none⟩ = some (.int .i64 e) := hb.cellK; have n1 : w1.cell? ⟨w.heap.size, 1, none⟩ = some (.int .i64 f) := hb.cellK; have n2 : w1.cell? ⟨w.heap.size + 1, 0, none⟩ = some (.int .i64 n) := hb.cellK; have n3 : w1.cell? ⟨w.heap.size + 1, 1, none⟩ = some (.int .i64 d) := hb.cellK; have n4 : w1.cell? ⟨w.heap.size + 2, 0, none⟩ = some (.int .i64 0) := hb.cellK; have n5 : w1.cell? ⟨w.heap.size + 2, 1, none⟩ = some (.int .i64 0) := hb.cellK; have n6 : w1.cell? ⟨w.heap.size + 2, 2, none⟩ = some (.int .i64 0) := hb.cellK; have nz0 : w1.frozen? ⟨w.heap.size + 2, 0, none⟩ = false := hb.frzK; have nz1 : w1.frozen? ⟨w.heap.size + 2, 1, none⟩ = false := hb.frzK; have nz2 : w1.frozen? ⟨w.heap.size + 2, 2, none⟩ = false := hb.frzK; (first | (have nx := hx.trK hb; clear hx) | have nx := hb); clear hb; try clear hs; try clear g0; try clear g1; try clear g2; try clear g3; try clear g4; try clear g5; try clear g6; try clear z0; try clear z1; try clear z2; have hx := nx; clear nx; have hs := ns; clear ns; have g0 := n0; clear n0; have g1 := n1; clear n1; have g2 := n2; clear n2; have g3 := n3; clear n3; have g4 := n4; clear n4; have g5 := n5; clear n5; have g6 := n6; clear n6; have z0 := nz0; clear nz0; have z1 := nz1; clear nz1; have z2 := nz2; clear nz2)))
  go_wp2_with fail
  go_region_held3 (fun w' => w'.cell? ⟨w.heap.size, 0, none⟩ = some (.int .i64 e) ∧ w'.cell? ⟨w.heap.size, 1, none⟩ = some (.int .i64 f) ∧ w'.cell? ⟨w.heap.size + 1, 0, none⟩ = some (.int .i64 n) ∧ w'.cell? ⟨w.heap.size + 1, 1, none⟩ = some (.int .i64 d) ∧ w.heap.size + 2 < w'.heap.size) ((refine ⟨?_, ?_, ?_, ?_, ?_⟩ <;> first | with_reducible assumption | ((repeat first | rw [cell_set_far _ _ _ _ _ _ (by omega)] | rw [cell_alloc_before _ _ _ _ (by omega)] | rw [cell_alloc_drew _ _ _ _ (by omega)] | rw [cell_drew]); with_reducible assumption) | ((rw [cell_setRow_far _ _ _ _ _ (by omega)]); with_reducible assumption) | ((rw [setRow_size]); with_reducible assumption) | (simp; done) | (simp [World.setCell]; first | done | omega) | (simp [go_sem, World.cell?_alloc_past, World.cell?_setCell_far, *]; done))) ((first | (go_at_call 101; refine (rdPower_any _ (by omega) (by omega) _).mono ?_; rintro rv w1 ⟨rfl, rfl⟩)))
  go_wp2_with fail
  exact bodyPost_ret (v := .agg #[.int .i64 ((n.natAbs : Int) / pw (-(d - unV e f))), .int .i64 ((n.natAbs : Int) % pw (-(d - unV e f))), .int .i64 (pw (-(d - unV e f)))]) (by simp [results, Tryz.results158, go_sem, *]) rfl ⟨rfl, Ext.auK⟩
end Go.Proofs.YtfgbndjhaiigbaaGreatDoor

namespace Go.Proofs.YtfgbndjhaiigbaaGreatDoor
open Go Go.RowKit
set_option linter.unusedSimpArgs false
set_option linter.unusedVariables false

theorem rdShort_zero (d : Int) (w : World) : Calls Tryz.prog 130 #[.int .i64 0, .int .i64 d] w fun rv w' => rv = .returned (two 0 0) ∧ Ext w w' := by
  go_enter Tryz.func130, Tryz.ntmps130
  go_wp2
  exact bodyPost_ret (v := two 0 0) (by simp [results, Tryz.results130, go_sem, *]) rfl ⟨rfl, Ext.auK⟩

theorem tdiv_half (n : Int) (h : n % 2 = 0) : n.tdiv 2 = n / 2 := by
  obtain ⟨m, rfl⟩ : ∃ m, n = m * 2 := ⟨n / 2, by omega⟩
  rw [Int.mul_tdiv_cancel _ (by decide), Int.mul_ediv_cancel _ (by decide)]

set_option maxHeartbeats 800000 in
theorem rdShort_yes (n d : Int) (h0 : n ≠ 0) (h1 : -9223372036854775808 < n) (h2 : n < 9223372036854775808) (h3 : -1000000 ≤ d) (h4 : d ≤ 1000000) (w : World) : Calls Tryz.prog 130 #[.int .i64 n, .int .i64 d] w fun rv w' => rv = .returned (two (odV n) (d + tzV n)) ∧ Ext w w' := by
  have kz : (n == 0) = false := by simpa using h0
  go_enter Tryz.func130, Tryz.ntmps130
  go_wp2
  go_loop [0, 1] (fun x y => ∃ m j : Int, m ≠ 0 ∧ 0 ≤ j ∧ j ≤ 63 ∧ -9223372036854775808 < m ∧ m < 9223372036854775808 ∧ x = .int .i64 m ∧ y = .int .i64 (d + j) ∧ n = m * pw j) (fun x _ => (intOf x).natAbs)
  case atStart => exact ⟨n, 0, h0, by decide, by decide, h1, h2, rfl, by rw [Int.add_zero], (Int.mul_one n).symm⟩
  case round =>
    obtain ⟨m, j, m0, j0, j1, m1, m2, rfl, rfl, he⟩ := hrel
    have k := tmod_two m
    by_cases hm : m % 2 = 0
    · have k2 : (m.tmod 2 == 0) = true := by rw [k]; simpa using hm
      have k4 := tdiv_half m hm
      have he2 : n = m / 2 * pw (j + 1) := by
        rw [pw_succ j j0, ← Int.mul_assoc, show m / 2 * 2 = m by omega]; exact he
      have j2 : j + 1 ≤ 63 := by
        apply Int.le_of_not_gt
        intro hg
        have e63 : j = 63 := by omega
        subst e63
        have e1 : pw 63 = 9223372036854775808 := rfl
        rw [e1] at he
        rcases Int.lt_or_gt_of_ne m0 with g | g <;> omega
      have He := Lib.hid he2; clear he he2 k kz
      have j3 : IntKind.i64.wrap (d + j + 1) = d + (j + 1) := by rw [IntWalk.i64_in _ (by omega)]; omega
      go_wp2
      go_round
      case rel => exact ⟨m / 2, j + 1, by omega, by omega, j2, by omega, by omega, by first | rfl | (rw [k4]), by first | rfl | (rw [Int.add_assoc]), He.out⟩
      case measure => simp [intOf]; omega
    · have k2 : (m.tmod 2 == 0) = false := by rw [k]; simpa using hm
      obtain ⟨t1, t2⟩ := tz_of n m j j0 (by omega) he h1 h2
      have T1 := Lib.hid t1; have T2 := Lib.hid t2; clear t1 t2 he k kz
      have q := buildDy m (d + j)
      go_wp2
      exact bodyPost_ret (v := two m (d + j)) (by simp [results, Tryz.results130, go_sem, *]) rfl ⟨by rw [T1.out, T2.out], Ext.auK⟩

theorem rdShort_any (n d : Int) (h1 : -9223372036854775808 < n) (h2 : n < 9223372036854775808) (h3 : -1000000 ≤ d) (h4 : d ≤ 1000000) (w : World) : Calls Tryz.prog 130 #[.int .i64 n, .int .i64 d] w fun rv w' => rv = .returned (two (odV n) (shE n d)) ∧ Ext w w' := by
  by_cases h0 : n = 0
  · subst h0
    rw [od_zero, show shE 0 d = 0 from rfl]
    exact rdShort_zero d w
  · have := rdShort_yes n d h0 h1 h2 h3 h4 w
    rwa [show shE n d = d + tzV n from if_neg h0]
end Go.Proofs.YtfgbndjhaiigbaaGreatDoor

namespace Go.Proofs.YtfgbndjhaiigbaaGreatDoor
open Go Go.RowKit
set_option linter.unusedSimpArgs false
set_option linter.unusedVariables false

/-- The quiet pattern. -/
def quV (e f : Int) : Int := (pw e - 1) * pw f + pw (f - 1)

theorem arQuiet_any (e f : Int) (hg : goodB e f = true) (w : World) : Calls Tryz.prog 80 #[fmt e f] w fun rv w' => rv = .returned (.int .i64 (quV e f)) ∧ Ext w w' := by
  obtain ⟨h1, h2, h3, h4⟩ := good_iff.1 hg
  obtain ⟨⟨a1, a2⟩, ⟨b1, b2⟩, ⟨c1, c2⟩, hmul⟩ := pw_facts h1 h2 h3 h4
  have Hmul := Lib.hid hmul; clear hmul
  have q1 : pw (f - 1 + 1) = 2 * pw (f - 1) := pw_succ (f - 1) (by omega)
  rw [show f - 1 + 1 = f by omega] at q1
  have q2 := pw_pos (f - 1)
  have k1 : (2 : Int) ^ (f.toNat - 1) = pw (f - 1) := by unfold pw; congr 1; omega
  have q3 : pw (f - 1) ≤ 512 := pw_le 9 512 rfl (by omega)
  have k2 : IntKind.i64.wrap (f - 1) = f - 1 := IntWalk.i64_in _ (by omega)
  have k3 : min (f - 1).toNat 64 = (f - 1).toNat := by omega
  have k4 : min (f.toNat - 1) 64 = f.toNat - 1 := by omega
  have k5 := pw_of (f - 1)
  have k6 : IntKind.i64.wrap (pw (f - 1)) = pw (f - 1) := IntWalk.i64_in _ (by omega)
  have k7 : 0 ≤ f - 1 := by omega
  have Q1 := Lib.hid q1; clear q1
  have m0 : 0 ≤ (pw e - 1) * pw f := Int.mul_nonneg (by omega) (by omega)
  have m1 : (pw e - 1) * pw f ≤ 31 * pw f := Int.mul_le_mul_of_nonneg_right (by omega) (by omega)
  have kq : IntKind.i64.wrap ((pw e - 1) * pw f + pw (f - 1)) = (pw e - 1) * pw f + pw (f - 1) := IntWalk.i64_in _ (by omega)
  have hk : quV e f = (pw e - 1) * pw f + pw (f - 1) := rfl
  have Hk := Lib.hid hk; clear hk
  go_enter Tryz.func80, Tryz.ntmps80
  go_wp2_with fail
  go_region_held3 (fun w' => w'.cell? ⟨w.heap.size, 0, none⟩ = some (.int .i64 e) ∧ w'.cell? ⟨w.heap.size, 1, none⟩ = some (.int .i64 f) ∧ w.heap.size < w'.heap.size) ((refine ⟨?_, ?_, ?_⟩ <;> first | with_reducible assumption | ((rw [cell_setRow_far _ _ _ _ _ (by omega)]); with_reducible assumption) | ((rw [setRow_size]); with_reducible assumption) | ((repeat rw [World.cell?_setCell_far _ _ _ _ (by simp)]); with_reducible assumption) | (simp; done) | (simp [World.setCell]; first | done | omega) | (simp [go_sem, World.cell?_alloc_past, World.cell?_setCell_far, *]; done))) ((first | (go_at_call 97; refine (fmInfinite_any e f hg _).mono ?_; rintro rv w1 ⟨rfl, hb⟩; have ns : w.heap.size < w1.heap.size := hb.ltK; have n0 : w1.cell? ⟨w.heap.size, 0, none⟩ = some (.int .i64 e) := hb.cellK; have n1 : w1.cell? ⟨w.heap.size, 1, none⟩ = some (.int .i64 f) := hb.cellK; (first | (have nx := hx.trK hb; clear hx) | have nx := hb); clear hb; try clear hs; try clear g0; try clear g1; have hx := nx; clear nx; have hs := ns; clear ns; have g0 := n0; clear n0; have g1 := n1; clear n1)))
  go_wp2_with fail
  go_ret
  exact ⟨ret_int (by rw [Hk.out]), Ext.auK⟩

set_option maxHeartbeats 1600000 in
theorem noRounded_any (e f m : Int) (hg : goodB e f = true) (w : World) : Calls Tryz.prog 226 #[.agg #[], fmt e f, .int .i64 m] w fun rv w' => rv = .returned (.int .i64 (quV e f)) ∧ Ext w w' := by
  obtain ⟨h1, h2, h3, h4⟩ := good_iff.1 hg
  obtain ⟨⟨a1, a2⟩, ⟨b1, b2⟩, ⟨c1, c2⟩, hmul⟩ := pw_facts h1 h2 h3 h4
  have Hmul := Lib.hid hmul; clear hmul
  have q1 : pw (f - 1 + 1) = 2 * pw (f - 1) := pw_succ (f - 1) (by omega)
  rw [show f - 1 + 1 = f by omega] at q1
  have q2 := pw_pos (f - 1)
  have k1 : (2 : Int) ^ (f.toNat - 1) = pw (f - 1) := by unfold pw; congr 1; omega
  have q3 : pw (f - 1) ≤ 512 := pw_le 9 512 rfl (by omega)
  have k2 : IntKind.i64.wrap (f - 1) = f - 1 := IntWalk.i64_in _ (by omega)
  have k3 : min (f - 1).toNat 64 = (f - 1).toNat := by omega
  have k4 : min (f.toNat - 1) 64 = f.toNat - 1 := by omega
  have k5 := pw_of (f - 1)
  have k6 : IntKind.i64.wrap (pw (f - 1)) = pw (f - 1) := IntWalk.i64_in _ (by omega)
  have k7 : 0 ≤ f - 1 := by omega
  have Q1 := Lib.hid q1; clear q1
  have pc : ∀ w, Calls Tryz.prog 180 #[fmt e f, .agg #[.int .i64 0, .int .i64 (pw e - 1), .int .i64 (pw (f - 1))]] w fun rv w' => rv = .returned (.int .i64 (quV e f)) ∧ Ext w w' := by
    intro w
    have := patternOf_any e f 0 (pw e - 1) (pw (f - 1)) hg (by decide) (by decide) (by omega) (by omega) (by omega) (by have := Q1.out; omega) w
    unfold quV
    rwa [Int.zero_mul, Int.zero_add] at this
  have PC := Lib.hid pc; clear pc
  go_enter Tryz.func226, Tryz.ntmps226
  go_wp2_with fail
  go_region_held3 (fun w' => w'.cell? ⟨w.heap.size + 1, 0, none⟩ = some (.int .i64 e) ∧ w'.cell? ⟨w.heap.size + 1, 1, none⟩ = some (.int .i64 f) ∧ w.heap.size + 1 < w'.heap.size) ((refine ⟨?_, ?_, ?_⟩ <;> first | with_reducible assumption | ((rw [cell_setRow_far _ _ _ _ _ (by omega)]); with_reducible assumption) | ((rw [setRow_size]); with_reducible assumption) | ((repeat rw [World.cell?_setCell_far _ _ _ _ (by simp)]); with_reducible assumption) | (simp; done) | (simp [World.setCell]; first | done | omega) | (simp [go_sem, World.cell?_alloc_past, World.cell?_setCell_far, *]; done))) ((first | (go_at_call 163; refine (exponentOnes_any e f hg _).mono ?_; rintro rv w1 ⟨rfl, hb⟩; have ns : w.heap.size + 1 < w1.heap.size := hb.ltK; have n0 : w1.cell? ⟨w.heap.size + 1, 0, none⟩ = some (.int .i64 e) := hb.cellK; have n1 : w1.cell? ⟨w.heap.size + 1, 1, none⟩ = some (.int .i64 f) := hb.cellK; (first | (have nx := hx.trK hb; clear hx) | have nx := hb); clear hb; try clear hs; try clear g0; try clear g1; have hx := nx; clear nx; have hs := ns; clear ns; have g0 := n0; clear n0; have g1 := n1; clear n1) | (go_at_call 180; refine (PC.out _).mono ?_; rintro rv w1 ⟨rfl, hb⟩; have ns : w.heap.size + 1 < w1.heap.size := hb.ltK; have n0 : w1.cell? ⟨w.heap.size + 1, 0, none⟩ = some (.int .i64 e) := hb.cellK; have n1 : w1.cell? ⟨w.heap.size + 1, 1, none⟩ = some (.int .i64 f) := hb.cellK; (first | (have nx := hx.trK hb; clear hx) | have nx := hb); clear hb; try clear hs; try clear g0; try clear g1; have hx := nx; clear nx; have hs := ns; clear ns; have g0 := n0; clear n0; have g1 := n1; clear n1)))
  go_wp2_with fail
  go_ret
  exact ⟨rfl, Ext.auK⟩
end Go.Proofs.YtfgbndjhaiigbaaGreatDoor

