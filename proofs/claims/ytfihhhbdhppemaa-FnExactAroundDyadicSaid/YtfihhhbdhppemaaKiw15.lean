/-
  Contracts of the functions that the laws reach, and the plain facts that they rest on, each under the conditions that its line names; part 15.
-/
import Derived.Test.YtfihhhbdhppemaaKiw1
import Derived.Test.YtfihhhbdhppemaaKiw2
import Derived.Test.YtfihhhbdhppemaaKiw3
import Derived.Test.YtfihhhbdhppemaaKiw4
import Derived.Test.YtfihhhbdhppemaaKiw5
import Derived.Test.YtfihhhbdhppemaaKiw6
import Derived.Test.YtfihhhbdhppemaaKiw7
import Derived.Test.YtfihhhbdhppemaaKiw14
import Derived.Test.YtfihhhbdhppemaaRows
import Derived.WalkKit
import Derived.LoopTactic
import Derived.Laws.Bits64b
import Derived.WalkSpells
import Derived.WalkLawsBesides
import Derived.StillTactics
import Derived.Laws.Pointers
import Derived.Deep.RegionHeld3
import Derived.Deep.QuietTactic
import Derived.BigQuiet
import Derived.Outline
import Derived.Lib.Hide
import Derived.RowKit3
import Derived.Carry
import Derived.IntWalk
namespace Go.Proofs.Ytfihhhbdhppemaa
open Go Go.RowKit
set_option linter.unusedSimpArgs false
set_option linter.unusedVariables false

set_option maxRecDepth 100000 in
set_option maxHeartbeats 1600000 in
theorem rdOf_zero (e f n d : Int) (hg : goodB e f = true) (hd : RdIn n (d - unV e f)) (h0 : n = 0) (w : World) : Calls Try.prog 73 #[fmt e f, two n d] w fun rv w' => rv = .returned (.agg #[.int .i64 (0), .int .i64 (0), .int .i64 (1)]) ∧ Ext w w' := by
  obtain ⟨⟨h1, h2⟩, ⟨h3, h4⟩, h5⟩ := hd
  obtain ⟨u1, u2, u3, u4⟩ := un_bd hg
  have k0 : IntKind.i64.wrap (d - unV e f) = (d - unV e f) := IntWalk.i64_in _ (by omega)
  have z2 : ((n.natAbs : Int) == 0) = true := by simpa using h0
  clear h0
  have q : ∀ a b c : Int, ∀ w, (Instr.build 92 #[(0, .int .i64 a), (1, .int .i64 b), (2, .int .i64 c)]).run Try.prog w = .ok (.agg #[.int .i64 (a), .int .i64 (b), .int .i64 (c)]) w := fun a b c w => run_build w _ _ _ (by kernel_rfl)
  go_enter Try.func73, Try.ntmps73
  go_wp2_with fail
  go_region_held3 (fun w' => w'.cell? ⟨w.heap.size, 0, none⟩ = some (.int .i64 e) ∧ w'.cell? ⟨w.heap.size, 1, none⟩ = some (.int .i64 f) ∧ w'.cell? ⟨w.heap.size + 1, 0, none⟩ = some (.int .i64 n) ∧ w'.cell? ⟨w.heap.size + 1, 1, none⟩ = some (.int .i64 d) ∧ w.heap.size + 2 < w'.heap.size) ((refine ⟨?_, ?_, ?_, ?_, ?_⟩ <;> first | with_reducible assumption | ((repeat first | rw [cell_set_far _ _ _ _ _ _ (by omega)] | rw [cell_alloc_before _ _ _ _ (by omega)] | rw [cell_alloc_drew _ _ _ _ (by omega)] | rw [cell_drew]); with_reducible assumption) | ((rw [cell_setRow_far _ _ _ _ _ (by omega)]); with_reducible assumption) | ((rw [setRow_size]); with_reducible assumption) | (simp; done) | (simp [World.setCell]; first | done | omega) | (simp [go_sem, World.cell?_alloc_past, World.cell?_setCell_far, *]; done))) ((first | (go_at_call 116; refine (l1Abs_nat n (by omega) (by omega) _).mono ?_; rintro rv w1 ⟨rfl, rfl⟩) | (go_at_call 117; refine (rdUnit_any e f hg _).mono ?_; rintro rv w1 ⟨rfl, hb⟩; have ns : w.heap.size + 2 < w1.heap.size := hb.ltK; have n0 : w1.cell? ⟨w.heap.size, 0, none⟩ = some (.int .i64 e) := hb.cellK; have n1 : w1.cell? ⟨w.heap.size, 1, none⟩ = some (.int .i64 f) := hb.cellK; have n2 : w1.cell? ⟨w.heap.size + 1, 0, none⟩ = some (.int .i64 n) := hb.cellK; have n3 : w1.cell? ⟨w.heap.size + 1, 1, none⟩ = some (.int .i64 d) := hb.cellK; have n4 : w1.cell? ⟨w.heap.size + 2, 0, none⟩ = some (.int .i64 0) := hb.cellK; have n5 : w1.cell? ⟨w.heap.size + 2, 1, none⟩ = some (.int .i64 0) := hb.cellK; have n6 : w1.cell? ⟨w.heap.size + 2, 2, none⟩ = some (.int .i64 0) := hb.cellK; have nz0 : w1.frozen? ⟨w.heap.size + 2, 0, none⟩ = false := hb.frzK; have nz1 : w1.frozen? ⟨w.heap.size + 2, 1, none⟩ = false := hb.frzK; have nz2 : w1.frozen? ⟨w.heap.size + 2, 2, none⟩ = false := hb.frzK; (first | (have nx := Ext.trans hx hb; clear hx) | (have nx := Ext.trans (hx.alloc _) hb; clear hx) | (have nx := Ext.trans hx.drew hb; clear hx) | have nx := hb); clear hb; try clear hs; try clear g0; try clear g1; try clear g2; try clear g3; try clear g4; try clear g5; try clear g6; try clear z0; try clear z1; try clear z2; have hx := nx; clear nx; have hs := ns; clear ns; have g0 := n0; clear n0; have g1 := n1; clear n1; have g2 := n2; clear n2; have g3 := n3; clear n3; have g4 := n4; clear n4; have g5 := n5; clear n5; have g6 := n6; clear n6; have z0 := nz0; clear nz0; have z1 := nz1; clear nz1; have z2 := nz2; clear nz2)))
  go_wp2_with fail
  exact bodyPost_ret (v := .agg #[.int .i64 (0), .int .i64 (0), .int .i64 (1)]) (by simp [results, Try.results73, go_sem, *]) rfl ⟨rfl, Ext.auK⟩

set_option maxRecDepth 100000 in
set_option maxHeartbeats 1600000 in
theorem rdOf_great (e f n d : Int) (hg : goodB e f = true) (hd : RdIn n (d - unV e f)) (h0 : n ≠ 0) (hk : 0 ≤ (d - unV e f)) (hb : 44 < plV n + (d - unV e f)) (w : World) : Calls Try.prog 73 #[fmt e f, two n d] w fun rv w' => rv = .returned (.agg #[.int .i64 (pw 44), .int .i64 (0), .int .i64 (1)]) ∧ Ext w w' := by
  obtain ⟨⟨h1, h2⟩, ⟨h3, h4⟩, h5⟩ := hd
  obtain ⟨u1, u2, u3, u4⟩ := un_bd hg
  have k0 : IntKind.i64.wrap (d - unV e f) = (d - unV e f) := IntWalk.i64_in _ (by omega)
  have z1 : ¬ (n.natAbs : Int) = 0 := by omega
  have z2 : ((n.natAbs : Int) == 0) = false := by simpa using h0
  have pl0 := pl_nn n
  have pl1 := pl_60 h1 h2
  have k1 : IntKind.i64.wrap (plV n + (d - unV e f)) = plV n + (d - unV e f) := IntWalk.i64_in _ (by omega)
  have q : ∀ a b c : Int, ∀ w, (Instr.build 92 #[(0, .int .i64 a), (1, .int .i64 b), (2, .int .i64 c)]).run Try.prog w = .ok (.agg #[.int .i64 (a), .int .i64 (b), .int .i64 (c)]) w := fun a b c w => run_build w _ _ _ (by kernel_rfl)
  go_enter Try.func73, Try.ntmps73
  go_wp2_with fail
  go_region_held3 (fun w' => w'.cell? ⟨w.heap.size, 0, none⟩ = some (.int .i64 e) ∧ w'.cell? ⟨w.heap.size, 1, none⟩ = some (.int .i64 f) ∧ w'.cell? ⟨w.heap.size + 1, 0, none⟩ = some (.int .i64 n) ∧ w'.cell? ⟨w.heap.size + 1, 1, none⟩ = some (.int .i64 d) ∧ w.heap.size + 2 < w'.heap.size) ((refine ⟨?_, ?_, ?_, ?_, ?_⟩ <;> first | with_reducible assumption | ((repeat first | rw [cell_set_far _ _ _ _ _ _ (by omega)] | rw [cell_alloc_before _ _ _ _ (by omega)] | rw [cell_alloc_drew _ _ _ _ (by omega)] | rw [cell_drew]); with_reducible assumption) | ((rw [cell_setRow_far _ _ _ _ _ (by omega)]); with_reducible assumption) | ((rw [setRow_size]); with_reducible assumption) | (simp; done) | (simp [World.setCell]; first | done | omega) | (simp [go_sem, World.cell?_alloc_past, World.cell?_setCell_far, *]; done))) ((first | (go_at_call 116; refine (l1Abs_nat n (by omega) (by omega) _).mono ?_; rintro rv w1 ⟨rfl, rfl⟩) | (go_at_call 117; refine (rdUnit_any e f hg _).mono ?_; rintro rv w1 ⟨rfl, hb⟩; have ns : w.heap.size + 2 < w1.heap.size := hb.ltK; have n0 : w1.cell? ⟨w.heap.size, 0, none⟩ = some (.int .i64 e) := hb.cellK; have n1 : w1.cell? ⟨w.heap.size, 1, none⟩ = some (.int .i64 f) := hb.cellK; have n2 : w1.cell? ⟨w.heap.size + 1, 0, none⟩ = some (.int .i64 n) := hb.cellK; have n3 : w1.cell? ⟨w.heap.size + 1, 1, none⟩ = some (.int .i64 d) := hb.cellK; have n4 : w1.cell? ⟨w.heap.size + 2, 0, none⟩ = some (.int .i64 0) := hb.cellK; have n5 : w1.cell? ⟨w.heap.size + 2, 1, none⟩ = some (.int .i64 0) := hb.cellK; have n6 : w1.cell? ⟨w.heap.size + 2, 2, none⟩ = some (.int .i64 0) := hb.cellK; have nz0 : w1.frozen? ⟨w.heap.size + 2, 0, none⟩ = false := hb.frzK; have nz1 : w1.frozen? ⟨w.heap.size + 2, 1, none⟩ = false := hb.frzK; have nz2 : w1.frozen? ⟨w.heap.size + 2, 2, none⟩ = false := hb.frzK; (first | (have nx := Ext.trans hx hb; clear hx) | (have nx := Ext.trans (hx.alloc _) hb; clear hx) | (have nx := Ext.trans hx.drew hb; clear hx) | have nx := hb); clear hb; try clear hs; try clear g0; try clear g1; try clear g2; try clear g3; try clear g4; try clear g5; try clear g6; try clear z0; try clear z1; try clear z2; have hx := nx; clear nx; have hs := ns; clear ns; have g0 := n0; clear n0; have g1 := n1; clear n1; have g2 := n2; clear n2; have g3 := n3; clear n3; have g4 := n4; clear n4; have g5 := n5; clear n5; have g6 := n6; clear n6; have z0 := nz0; clear nz0; have z1 := nz1; clear nz1; have z2 := nz2; clear nz2)))
  go_wp2_with (first | (go_at_call 118; refine (rdBits_any _ (by omega) (by omega) _).mono ?_; rintro rv w1 ⟨rfl, rfl⟩; (try rw [plV_abs])) | (go_at_call 119; refine (rdPower_any _ (by omega) (by omega) _).mono ?_; rintro rv w1 ⟨rfl, rfl⟩))
  exact bodyPost_ret (v := .agg #[.int .i64 (pw 44), .int .i64 (0), .int .i64 (1)]) (by simp [results, Try.results73, go_sem, *]) rfl ⟨rfl, Ext.auK⟩

set_option maxRecDepth 100000 in
set_option maxHeartbeats 1600000 in
theorem rdOf_whole (e f n d : Int) (hg : goodB e f = true) (hd : RdIn n (d - unV e f)) (h0 : n ≠ 0) (hk : 0 ≤ (d - unV e f)) (hb : plV n + (d - unV e f) ≤ 44) (w : World) : Calls Try.prog 73 #[fmt e f, two n d] w fun rv w' => rv = .returned (.agg #[.int .i64 ((n.natAbs : Int) * pw (d - unV e f)), .int .i64 (0), .int .i64 (1)]) ∧ Ext w w' := by
  obtain ⟨⟨h1, h2⟩, ⟨h3, h4⟩, h5⟩ := hd
  obtain ⟨u1, u2, u3, u4⟩ := un_bd hg
  have k0 : IntKind.i64.wrap (d - unV e f) = (d - unV e f) := IntWalk.i64_in _ (by omega)
  have z1 : ¬ (n.natAbs : Int) = 0 := by omega
  have z2 : ((n.natAbs : Int) == 0) = false := by simpa using h0
  have pl0 := pl_nn n
  have pl1 := pl_60 h1 h2
  have k1 : IntKind.i64.wrap (plV n + (d - unV e f)) = plV n + (d - unV e f) := IntWalk.i64_in _ (by omega)
  have pl2 := (pl_bd n h0 (by omega) (by omega)).1
  have b := mul_bd (n := n) (j := (d - unV e f)) (k := 44) hk hb (by decide) (by omega) (by omega)
  have b2 : (n.natAbs : Int) * pw (d - unV e f) = (n * pw (d - unV e f)).natAbs := by rw [Int.natAbs_mul, Int.natCast_mul]; congr 1
  rw [← b2, show pw 44 = 17592186044416 from rfl] at b
  have b3 : 0 ≤ (n.natAbs : Int) * pw (d - unV e f) := by rw [b2]; omega
  clear b2
  have k2 : IntKind.i64.wrap ((n.natAbs : Int) * pw (d - unV e f)) = (n.natAbs : Int) * pw (d - unV e f) := IntWalk.i64_in _ (by omega)
  clear b b3
  have q : ∀ a b c : Int, ∀ w, (Instr.build 92 #[(0, .int .i64 a), (1, .int .i64 b), (2, .int .i64 c)]).run Try.prog w = .ok (.agg #[.int .i64 (a), .int .i64 (b), .int .i64 (c)]) w := fun a b c w => run_build w _ _ _ (by kernel_rfl)
  go_enter Try.func73, Try.ntmps73
  go_wp2_with fail
  go_region_held3 (fun w' => w'.cell? ⟨w.heap.size, 0, none⟩ = some (.int .i64 e) ∧ w'.cell? ⟨w.heap.size, 1, none⟩ = some (.int .i64 f) ∧ w'.cell? ⟨w.heap.size + 1, 0, none⟩ = some (.int .i64 n) ∧ w'.cell? ⟨w.heap.size + 1, 1, none⟩ = some (.int .i64 d) ∧ w.heap.size + 2 < w'.heap.size) ((refine ⟨?_, ?_, ?_, ?_, ?_⟩ <;> first | with_reducible assumption | ((repeat first | rw [cell_set_far _ _ _ _ _ _ (by omega)] | rw [cell_alloc_before _ _ _ _ (by omega)] | rw [cell_alloc_drew _ _ _ _ (by omega)] | rw [cell_drew]); with_reducible assumption) | ((rw [cell_setRow_far _ _ _ _ _ (by omega)]); with_reducible assumption) | ((rw [setRow_size]); with_reducible assumption) | (simp; done) | (simp [World.setCell]; first | done | omega) | (simp [go_sem, World.cell?_alloc_past, World.cell?_setCell_far, *]; done))) ((first | (go_at_call 116; refine (l1Abs_nat n (by omega) (by omega) _).mono ?_; rintro rv w1 ⟨rfl, rfl⟩) | (go_at_call 117; refine (rdUnit_any e f hg _).mono ?_; rintro rv w1 ⟨rfl, hb⟩; have ns : w.heap.size + 2 < w1.heap.size := hb.ltK; have n0 : w1.cell? ⟨w.heap.size, 0, none⟩ = some (.int .i64 e) := hb.cellK; have n1 : w1.cell? ⟨w.heap.size, 1, none⟩ = some (.int .i64 f) := hb.cellK; have n2 : w1.cell? ⟨w.heap.size + 1, 0, none⟩ = some (.int .i64 n) := hb.cellK; have n3 : w1.cell? ⟨w.heap.size + 1, 1, none⟩ = some (.int .i64 d) := hb.cellK; have n4 : w1.cell? ⟨w.heap.size + 2, 0, none⟩ = some (.int .i64 0) := hb.cellK; have n5 : w1.cell? ⟨w.heap.size + 2, 1, none⟩ = some (.int .i64 0) := hb.cellK; have n6 : w1.cell? ⟨w.heap.size + 2, 2, none⟩ = some (.int .i64 0) := hb.cellK; have nz0 : w1.frozen? ⟨w.heap.size + 2, 0, none⟩ = false := hb.frzK; have nz1 : w1.frozen? ⟨w.heap.size + 2, 1, none⟩ = false := hb.frzK; have nz2 : w1.frozen? ⟨w.heap.size + 2, 2, none⟩ = false := hb.frzK; (first | (have nx := Ext.trans hx hb; clear hx) | (have nx := Ext.trans (hx.alloc _) hb; clear hx) | (have nx := Ext.trans hx.drew hb; clear hx) | have nx := hb); clear hb; try clear hs; try clear g0; try clear g1; try clear g2; try clear g3; try clear g4; try clear g5; try clear g6; try clear z0; try clear z1; try clear z2; have hx := nx; clear nx; have hs := ns; clear ns; have g0 := n0; clear n0; have g1 := n1; clear n1; have g2 := n2; clear n2; have g3 := n3; clear n3; have g4 := n4; clear n4; have g5 := n5; clear n5; have g6 := n6; clear n6; have z0 := nz0; clear nz0; have z1 := nz1; clear nz1; have z2 := nz2; clear nz2)))
  go_wp2_with (first | (go_at_call 118; refine (rdBits_any _ (by omega) (by omega) _).mono ?_; rintro rv w1 ⟨rfl, rfl⟩; (try rw [plV_abs])) | (go_at_call 119; refine (rdPower_any _ (by omega) (by omega) _).mono ?_; rintro rv w1 ⟨rfl, rfl⟩))
  exact bodyPost_ret (v := .agg #[.int .i64 ((n.natAbs : Int) * pw (d - unV e f)), .int .i64 (0), .int .i64 (1)]) (by simp [results, Try.results73, go_sem, *]) rfl ⟨rfl, Ext.auK⟩

set_option maxRecDepth 100000 in
set_option maxHeartbeats 1600000 in
theorem rdOf_tiny (e f n d : Int) (hg : goodB e f = true) (hd : RdIn n (d - unV e f)) (h0 : n ≠ 0) (hk : (d - unV e f) < -60) (w : World) : Calls Try.prog 73 #[fmt e f, two n d] w fun rv w' => rv = .returned (.agg #[.int .i64 (0), .int .i64 (1), .int .i64 (4)]) ∧ Ext w w' := by
  obtain ⟨⟨h1, h2⟩, ⟨h3, h4⟩, h5⟩ := hd
  obtain ⟨u1, u2, u3, u4⟩ := un_bd hg
  have k0 : IntKind.i64.wrap (d - unV e f) = (d - unV e f) := IntWalk.i64_in _ (by omega)
  have z1 : ¬ (n.natAbs : Int) = 0 := by omega
  have z2 : ((n.natAbs : Int) == 0) = false := by simpa using h0
  have pl0 := pl_nn n
  have pl1 := pl_60 h1 h2
  have q : ∀ a b c : Int, ∀ w, (Instr.build 92 #[(0, .int .i64 a), (1, .int .i64 b), (2, .int .i64 c)]).run Try.prog w = .ok (.agg #[.int .i64 (a), .int .i64 (b), .int .i64 (c)]) w := fun a b c w => run_build w _ _ _ (by kernel_rfl)
  go_enter Try.func73, Try.ntmps73
  go_wp2_with fail
  go_region_held3 (fun w' => w'.cell? ⟨w.heap.size, 0, none⟩ = some (.int .i64 e) ∧ w'.cell? ⟨w.heap.size, 1, none⟩ = some (.int .i64 f) ∧ w'.cell? ⟨w.heap.size + 1, 0, none⟩ = some (.int .i64 n) ∧ w'.cell? ⟨w.heap.size + 1, 1, none⟩ = some (.int .i64 d) ∧ w.heap.size + 2 < w'.heap.size) ((refine ⟨?_, ?_, ?_, ?_, ?_⟩ <;> first | with_reducible assumption | ((repeat first | rw [cell_set_far _ _ _ _ _ _ (by omega)] | rw [cell_alloc_before _ _ _ _ (by omega)] | rw [cell_alloc_drew _ _ _ _ (by omega)] | rw [cell_drew]); with_reducible assumption) | ((rw [cell_setRow_far _ _ _ _ _ (by omega)]); with_reducible assumption) | ((rw [setRow_size]); with_reducible assumption) | (simp; done) | (simp [World.setCell]; first | done | omega) | (simp [go_sem, World.cell?_alloc_past, World.cell?_setCell_far, *]; done))) ((first | (go_at_call 116; refine (l1Abs_nat n (by omega) (by omega) _).mono ?_; rintro rv w1 ⟨rfl, rfl⟩) | (go_at_call 117; refine (rdUnit_any e f hg _).mono ?_; rintro rv w1 ⟨rfl, hb⟩; have ns : w.heap.size + 2 < w1.heap.size := hb.ltK; have n0 : w1.cell? ⟨w.heap.size, 0, none⟩ = some (.int .i64 e) := hb.cellK; have n1 : w1.cell? ⟨w.heap.size, 1, none⟩ = some (.int .i64 f) := hb.cellK; have n2 : w1.cell? ⟨w.heap.size + 1, 0, none⟩ = some (.int .i64 n) := hb.cellK; have n3 : w1.cell? ⟨w.heap.size + 1, 1, none⟩ = some (.int .i64 d) := hb.cellK; have n4 : w1.cell? ⟨w.heap.size + 2, 0, none⟩ = some (.int .i64 0) := hb.cellK; have n5 : w1.cell? ⟨w.heap.size + 2, 1, none⟩ = some (.int .i64 0) := hb.cellK; have n6 : w1.cell? ⟨w.heap.size + 2, 2, none⟩ = some (.int .i64 0) := hb.cellK; have nz0 : w1.frozen? ⟨w.heap.size + 2, 0, none⟩ = false := hb.frzK; have nz1 : w1.frozen? ⟨w.heap.size + 2, 1, none⟩ = false := hb.frzK; have nz2 : w1.frozen? ⟨w.heap.size + 2, 2, none⟩ = false := hb.frzK; (first | (have nx := Ext.trans hx hb; clear hx) | (have nx := Ext.trans (hx.alloc _) hb; clear hx) | (have nx := Ext.trans hx.drew hb; clear hx) | have nx := hb); clear hb; try clear hs; try clear g0; try clear g1; try clear g2; try clear g3; try clear g4; try clear g5; try clear g6; try clear z0; try clear z1; try clear z2; have hx := nx; clear nx; have hs := ns; clear ns; have g0 := n0; clear n0; have g1 := n1; clear n1; have g2 := n2; clear n2; have g3 := n3; clear n3; have g4 := n4; clear n4; have g5 := n5; clear n5; have g6 := n6; clear n6; have z0 := nz0; clear nz0; have z1 := nz1; clear nz1; have z2 := nz2; clear nz2)))
  go_wp2_with fail
  exact bodyPost_ret (v := .agg #[.int .i64 (0), .int .i64 (1), .int .i64 (4)]) (by simp [results, Try.results73, go_sem, *]) rfl ⟨rfl, Ext.auK⟩

set_option maxRecDepth 100000 in
set_option maxHeartbeats 1600000 in
theorem rdOf_part (e f n d : Int) (hg : goodB e f = true) (hd : RdIn n (d - unV e f)) (h0 : n ≠ 0) (hk : (d - unV e f) < 0) (hk2 : -60 ≤ (d - unV e f)) (w : World) : Calls Try.prog 73 #[fmt e f, two n d] w fun rv w' => rv = .returned (.agg #[.int .i64 ((n.natAbs : Int) / pw (-(d - unV e f))), .int .i64 ((n.natAbs : Int) % pw (-(d - unV e f))), .int .i64 (pw (-(d - unV e f)))]) ∧ Ext w w' := by
  obtain ⟨⟨h1, h2⟩, ⟨h3, h4⟩, h5⟩ := hd
  obtain ⟨u1, u2, u3, u4⟩ := un_bd hg
  have k0 : IntKind.i64.wrap (d - unV e f) = (d - unV e f) := IntWalk.i64_in _ (by omega)
  have z1 : ¬ (n.natAbs : Int) = 0 := by omega
  have z2 : ((n.natAbs : Int) == 0) = false := by simpa using h0
  have pl0 := pl_nn n
  have pl1 := pl_60 h1 h2
  have k1 : IntKind.i64.wrap (-(d - unV e f)) = -(d - unV e f) := IntWalk.i64_in _ (by omega)
  have p1 := pw_pos (-(d - unV e f))
  have p2 := pw_le (a := -(d - unV e f)) 60 1152921504606846976 rfl (by omega)
  have p3 := pw_of (-(d - unV e f))
  have p4 : ¬ pw (-(d - unV e f)) = 0 := by omega
  have p5 : (pw (-(d - unV e f)) == 0) = false := by simpa using p4
  have p6 : (n.natAbs : Int).tmod (pw (-(d - unV e f))) = (n.natAbs : Int) % pw (-(d - unV e f)) := Int.tmod_eq_emod_of_nonneg (by omega)
  have q : ∀ a b c : Int, ∀ w, (Instr.build 92 #[(0, .int .i64 a), (1, .int .i64 b), (2, .int .i64 c)]).run Try.prog w = .ok (.agg #[.int .i64 (a), .int .i64 (b), .int .i64 (c)]) w := fun a b c w => run_build w _ _ _ (by kernel_rfl)
  go_enter Try.func73, Try.ntmps73
  go_wp2_with fail
  go_region_held3 (fun w' => w'.cell? ⟨w.heap.size, 0, none⟩ = some (.int .i64 e) ∧ w'.cell? ⟨w.heap.size, 1, none⟩ = some (.int .i64 f) ∧ w'.cell? ⟨w.heap.size + 1, 0, none⟩ = some (.int .i64 n) ∧ w'.cell? ⟨w.heap.size + 1, 1, none⟩ = some (.int .i64 d) ∧ w.heap.size + 2 < w'.heap.size) ((refine ⟨?_, ?_, ?_, ?_, ?_⟩ <;> first | with_reducible assumption | ((repeat first | rw [cell_set_far _ _ _ _ _ _ (by omega)] | rw [cell_alloc_before _ _ _ _ (by omega)] | rw [cell_alloc_drew _ _ _ _ (by omega)] | rw [cell_drew]); with_reducible assumption) | ((rw [cell_setRow_far _ _ _ _ _ (by omega)]); with_reducible assumption) | ((rw [setRow_size]); with_reducible assumption) | (simp; done) | (simp [World.setCell]; first | done | omega) | (simp [go_sem, World.cell?_alloc_past, World.cell?_setCell_far, *]; done))) ((first | (go_at_call 116; refine (l1Abs_nat n (by omega) (by omega) _).mono ?_; rintro rv w1 ⟨rfl, rfl⟩) | (go_at_call 117; refine (rdUnit_any e f hg _).mono ?_; rintro rv w1 ⟨rfl, hb⟩; have ns : w.heap.size + 2 < w1.heap.size := hb.ltK; have n0 : w1.cell? ⟨w.heap.size, 0, none⟩ = some (.int .i64 e) := hb.cellK; have n1 : w1.cell? ⟨w.heap.size, 1, none⟩ = some (.int .i64 f) := hb.cellK; have n2 : w1.cell? ⟨w.heap.size + 1, 0, none⟩ = some (.int .i64 n) := hb.cellK; have n3 : w1.cell? ⟨w.heap.size + 1, 1, none⟩ = some (.int .i64 d) := hb.cellK; have n4 : w1.cell? ⟨w.heap.size + 2, 0, none⟩ = some (.int .i64 0) := hb.cellK; have n5 : w1.cell? ⟨w.heap.size + 2, 1, none⟩ = some (.int .i64 0) := hb.cellK; have n6 : w1.cell? ⟨w.heap.size + 2, 2, none⟩ = some (.int .i64 0) := hb.cellK; have nz0 : w1.frozen? ⟨w.heap.size + 2, 0, none⟩ = false := hb.frzK; have nz1 : w1.frozen? ⟨w.heap.size + 2, 1, none⟩ = false := hb.frzK; have nz2 : w1.frozen? ⟨w.heap.size + 2, 2, none⟩ = false := hb.frzK; (first | (have nx := Ext.trans hx hb; clear hx) | (have nx := Ext.trans (hx.alloc _) hb; clear hx) | (have nx := Ext.trans hx.drew hb; clear hx) | have nx := hb); clear hb; try clear hs; try clear g0; try clear g1; try clear g2; try clear g3; try clear g4; try clear g5; try clear g6; try clear z0; try clear z1; try clear z2; have hx := nx; clear nx; have hs := ns; clear ns; have g0 := n0; clear n0; have g1 := n1; clear n1; have g2 := n2; clear n2; have g3 := n3; clear n3; have g4 := n4; clear n4; have g5 := n5; clear n5; have g6 := n6; clear n6; have z0 := nz0; clear nz0; have z1 := nz1; clear nz1; have z2 := nz2; clear nz2)))
  go_wp2_with fail
  go_region_held3 (fun w' => w'.cell? ⟨w.heap.size, 0, none⟩ = some (.int .i64 e) ∧ w'.cell? ⟨w.heap.size, 1, none⟩ = some (.int .i64 f) ∧ w'.cell? ⟨w.heap.size + 1, 0, none⟩ = some (.int .i64 n) ∧ w'.cell? ⟨w.heap.size + 1, 1, none⟩ = some (.int .i64 d) ∧ w.heap.size + 2 < w'.heap.size) ((refine ⟨?_, ?_, ?_, ?_, ?_⟩ <;> first | with_reducible assumption | ((repeat first | rw [cell_set_far _ _ _ _ _ _ (by omega)] | rw [cell_alloc_before _ _ _ _ (by omega)] | rw [cell_alloc_drew _ _ _ _ (by omega)] | rw [cell_drew]); with_reducible assumption) | ((rw [cell_setRow_far _ _ _ _ _ (by omega)]); with_reducible assumption) | ((rw [setRow_size]); with_reducible assumption) | (simp; done) | (simp [World.setCell]; first | done | omega) | (simp [go_sem, World.cell?_alloc_past, World.cell?_setCell_far, *]; done))) ((first | (go_at_call 119; refine (rdPower_any _ (by omega) (by omega) _).mono ?_; rintro rv w1 ⟨rfl, rfl⟩)))
  go_wp2_with fail
  exact bodyPost_ret (v := .agg #[.int .i64 ((n.natAbs : Int) / pw (-(d - unV e f))), .int .i64 ((n.natAbs : Int) % pw (-(d - unV e f))), .int .i64 (pw (-(d - unV e f)))]) (by simp [results, Try.results73, go_sem, *]) rfl ⟨rfl, Ext.auK⟩
end Go.Proofs.Ytfihhhbdhppemaa

