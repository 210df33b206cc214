/-
  Contracts of the functions that the laws reach, and the plain facts that they rest on, each under the conditions that its line names; part 27.
-/
import Derived.Test.YtfgbndjhaiigbabDoorKyd1
import Derived.Test.YtfgbndjhaiigbabDoorKyd2
import Derived.Test.YtfgbndjhaiigbabDoorKyd3
import Derived.Test.YtfgbndjhaiigbabDoorKyd4
import Derived.Test.YtfgbndjhaiigbabDoorKyd5
import Derived.Test.YtfgbndjhaiigbabDoorKyd6
import Derived.Test.YtfgbndjhaiigbabDoorKyd7
import Derived.Test.YtfgbndjhaiigbabDoorKyd8
import Derived.Test.YtfgbndjhaiigbabDoorKyd9
import Derived.Test.YtfgbndjhaiigbabDoorKyd10
import Derived.Test.YtfgbndjhaiigbabDoorKyd11
import Derived.Test.YtfgbndjhaiigbabDoorKyd12
import Derived.Test.YtfgbndjhaiigbabDoorKyd13
import Derived.Test.YtfgbndjhaiigbabDoorKyd14
import Derived.Test.YtfgbndjhaiigbabDoorKyd15
import Derived.Test.YtfgbndjhaiigbabDoorKyd16
import Derived.Test.YtfgbndjhaiigbabDoorKyd17
import Derived.Test.YtfgbndjhaiigbabDoorKyd18
import Derived.Test.YtfgbndjhaiigbabDoorKyd19
import Derived.Test.YtfgbndjhaiigbabDoorKyd20
import Derived.Test.YtfgbndjhaiigbabDoorKyd21
import Derived.Test.YtfgbndjhaiigbabDoorKyd22
import Derived.Test.YtfgbndjhaiigbabDoorKyd23
import Derived.Test.YtfgbndjhaiigbabDoorKyd24
import Derived.Test.YtfgbndjhaiigbabDoorRows
import Derived.WalkKit
import Derived.Handy
import Derived.LoopTactic
import Derived.Laws.Bits64b
import Derived.WalkSpells
import Derived.WalkLawsBesides
import Derived.StillTactics
import Derived.Laws.Pointers
import Derived.Deep.RegionHeld3
import Derived.Deep.QuietTactic
import Derived.BigQuiet
import Derived.Outline
import Derived.Lib.Hide
import Derived.RowKit3
import Derived.Carry
import Derived.IntWalk
namespace Go.Proofs.YtfgbndjhaiigbabDoor
open Go Go.RowKit
set_option linter.unusedSimpArgs false
set_option linter.unusedVariables false

theorem ta_finite_finite (m n x : Int) (w : World) : (Instr.typeAssert (.iface 74 (.agg #[.int .i64 m, .int .i64 n, .int .i64 x])) 108 74 true).run Tryd.prog w = .ok (.tuple #[.agg #[.int .i64 m, .int .i64 n, .int .i64 x], .bool true]) w := by kernel_rfl

theorem ta_finite_infinite (m n x : Int) (w : World) : (Instr.typeAssert (.iface 74 (.agg #[.int .i64 m, .int .i64 n, .int .i64 x])) 108 136 true).run Tryd.prog w = .ok (.tuple #[.agg #[.int .i64 0], .bool false]) w := by kernel_rfl

theorem ta_finite_noNumber (m n x : Int) (w : World) : (Instr.typeAssert (.iface 74 (.agg #[.int .i64 m, .int .i64 n, .int .i64 x])) 108 138 true).run Tryd.prog w = .ok (.tuple #[.agg #[], .bool false]) w := by kernel_rfl

theorem ta_infinite_finite (m : Int) (w : World) : (Instr.typeAssert (.iface 136 (.agg #[.int .i64 m])) 108 74 true).run Tryd.prog w = .ok (.tuple #[.agg #[.int .i64 0, .int .i64 0, .int .i64 0], .bool false]) w := by kernel_rfl

theorem ta_infinite_infinite (m : Int) (w : World) : (Instr.typeAssert (.iface 136 (.agg #[.int .i64 m])) 108 136 true).run Tryd.prog w = .ok (.tuple #[.agg #[.int .i64 m], .bool true]) w := by kernel_rfl

theorem ta_infinite_noNumber (m : Int) (w : World) : (Instr.typeAssert (.iface 136 (.agg #[.int .i64 m])) 108 138 true).run Tryd.prog w = .ok (.tuple #[.agg #[], .bool false]) w := by kernel_rfl

theorem ta_noNumber_finite  (w : World) : (Instr.typeAssert (.iface 138 (.agg #[])) 108 74 true).run Tryd.prog w = .ok (.tuple #[.agg #[.int .i64 0, .int .i64 0, .int .i64 0], .bool false]) w := by kernel_rfl

theorem ta_noNumber_infinite  (w : World) : (Instr.typeAssert (.iface 138 (.agg #[])) 108 136 true).run Tryd.prog w = .ok (.tuple #[.agg #[.int .i64 0], .bool false]) w := by kernel_rfl

theorem ta_noNumber_noNumber  (w : World) : (Instr.typeAssert (.iface 138 (.agg #[])) 108 138 true).run Tryd.prog w = .ok (.tuple #[.agg #[], .bool true]) w := by kernel_rfl

attribute [local go_sem] ta_finite_finite ta_finite_infinite ta_finite_noNumber ta_infinite_finite ta_infinite_infinite ta_infinite_noNumber ta_noNumber_finite ta_noNumber_infinite ta_noNumber_noNumber

set_option maxRecDepth 100000

theorem finZero_t (m n x : Int) (h : n = 0) (w : World) : Calls Tryd.prog 79 #[.agg #[.int .i64 m, .int .i64 n, .int .i64 x]] w fun rv w' => rv = .returned (.bool true) ∧ Ext w w' := by
  have := finZero_any m n x w
  rwa [show (n == 0) = true from by simp [h]] at this

theorem finZero_f (m n x : Int) (h : ¬ n = 0) (w : World) : Calls Tryd.prog 79 #[.agg #[.int .i64 m, .int .i64 n, .int .i64 x]] w fun rv w' => rv = .returned (.bool false) ∧ Ext w w' := by
  have := finZero_any m n x w
  rwa [show (n == 0) = false from by simp [h]] at this
end Go.Proofs.YtfgbndjhaiigbabDoor

namespace Go.Proofs.YtfgbndjhaiigbabDoor
open Go Go.RowKit
set_option linter.unusedSimpArgs false
set_option linter.unusedVariables false
set_option maxRecDepth 100000

theorem quarters_p0 (e f n x : Int) (hG : goodB e f = true) (v0 : 0 ≤ n) (k0 : unV e f - 2 ≤ x) (k1 : x ≤ unV e f + 58) (kb : n * pw (x - (unV e f - 2)) ≤ 2305843009213693952) (w : World) : Calls Tryd.prog 71 #[.agg #[.int .i64 0, .int .i64 n, .int .i64 x], fmt e f] w fun rv w' => rv = .returned (.int .i64 ((oqV (n * pw (x - (unV e f - 2))) 2))) ∧ Ext w w' := by
  obtain ⟨h1, h2, h3, h4⟩ := good_iff.1 hG
  obtain ⟨⟨a1, a2⟩, ⟨b1, b2⟩, ⟨c1, c2⟩, hmul⟩ := pw_facts h1 h2 h3 h4
  have Hmul := Lib.hid hmul; clear hmul
  have QP := Lib.hid (fun w => quarterPower_any e f hG w)
  generalize unV e f = u at *
  generalize hd : x - (u - 2) = d at *
  have d0 : 0 ≤ d := by omega
  have d1 : d ≤ 60 := by omega
  have kx : IntKind.i64.wrap d = d := IntWalk.i64_in _ (by omega)
  clear k0 k1
  have pp := pw_pos d
  have nn : 0 ≤ n * pw d := Int.mul_nonneg v0 (by omega)
  have OQ := Lib.hid (fun w => oddQuotient_any (n * pw d) 2 (by omega) (by omega) kb w)
  have ky : IntKind.i64.wrap (-d) = -d := IntWalk.i64_in _ (by omega)
  have kz : max d 0 = d := by omega
  have kv : max (-d) 0 = 0 := by omega
  have kw : min d.toNat 64 = d.toNat := by omega
  have ks : IntKind.i64.wrap (n * pw d) = n * pw d := IntWalk.i64_in _ (by omega)
  have kp := pw_of d
  go_enter Tryd.func71, Tryd.ntmps71
  go_wp2_with fail
  go_region_held3 (fun w' => w'.cell? ⟨w.heap.size, 0, none⟩ = some (.int .i64 0) ∧ w'.cell? ⟨w.heap.size, 1, none⟩ = some (.int .i64 n) ∧ w'.cell? ⟨w.heap.size, 2, none⟩ = some (.int .i64 x) ∧ w'.cell? ⟨w.heap.size + 1, 0, none⟩ = some (.int .i64 e) ∧ w'.cell? ⟨w.heap.size + 1, 1, none⟩ = some (.int .i64 f) ∧ w.heap.size + 1 < w'.heap.size) ((refine ⟨?_, ?_, ?_, ?_, ?_, ?_⟩ <;> first | with_reducible assumption | ((rw [cell_setRow_far _ _ _ _ _ (by omega)]); with_reducible assumption) | ((rw [setRow_size]); with_reducible assumption) | ((repeat rw [World.cell?_setCell_far _ _ _ _ (by simp)]); with_reducible assumption) | (simp; done) | (simp [World.setCell]; first | done | omega) | (simp [go_sem, World.cell?_alloc_past, World.cell?_setCell_far, *]; done))) ((first | (go_at_call 119; refine (QP.out _).mono ?_; rintro rv w1 ⟨rfl, hb⟩; have ns : w.heap.size + 1 < w1.heap.size := hb.lt (by first | with_reducible assumption | omega | (simp; done) | (simp; omega)); have n0 : w1.cell? ⟨w.heap.size, 0, none⟩ = some (.int .i64 0) := (hb.cells _ _ (by first | with_reducible assumption | omega | (simp; done) | (simp; omega))).trans (by first | with_reducible assumption | (simp; done) | (simp; with_reducible assumption) | (rw [cell_alloc_before _ _ _ _ (by omega)]; with_reducible assumption) | (simp [go_sem, *]; done)); have n1 : w1.cell? ⟨w.heap.size, 1, none⟩ = some (.int .i64 n) := (hb.cells _ _ (by first | with_reducible assumption | omega | (simp; done) | (simp; omega))).trans (by first | with_reducible assumption | (simp; done) | (simp; with_reducible assumption) | (rw [cell_alloc_before _ _ _ _ (by omega)]; with_reducible assumption) | (simp [go_sem, *]; done)); have n2 : w1.cell? ⟨w.heap.size, 2, none⟩ = some (.int .i64 x) := (hb.cells _ _ (by first | with_reducible assumption | omega | (simp; done) | (simp; omega))).trans (by first | with_reducible assumption | (simp; done) | (simp; with_reducible assumption) | (rw [cell_alloc_before _ _ _ _ (by omega)]; with_reducible assumption) | (simp [go_sem, *]; done)); have n3 : w1.cell? ⟨w.heap.size + 1, 0, none⟩ = some (.int .i64 e) := (hb.cells _ _ (by first | with_reducible assumption | omega | (simp; done) | (simp; omega))).trans (by first | with_reducible assumption | (simp; done) | (simp; with_reducible assumption) | (rw [cell_alloc_before _ _ _ _ (by omega)]; with_reducible assumption) | (simp [go_sem, *]; done)); have n4 : w1.cell? ⟨w.heap.size + 1, 1, none⟩ = some (.int .i64 f) := (hb.cells _ _ (by first | with_reducible assumption | omega | (simp; done) | (simp; omega))).trans (by first | with_reducible assumption | (simp; done) | (simp; with_reducible assumption) | (rw [cell_alloc_before _ _ _ _ (by omega)]; with_reducible assumption) | (simp [go_sem, *]; done)); (first | (have nx := Ext.trans hx hb; clear hx) | (have nx := Ext.trans (hx.alloc _) hb; clear hx) | (have nx := Ext.trans hx.drew hb; clear hx) | have nx := hb); clear hb; try clear hs; try clear g0; try clear g1; try clear g2; try clear g3; try clear g4; have hx := nx; clear nx; have hs := ns; clear ns; have g0 := n0; clear n0; have g1 := n1; clear n1; have g2 := n2; clear n2; have g3 := n3; clear n3; have g4 := n4; clear n4)))
  go_wp2_with fail
  go_region_held3 (fun w' => w'.cell? ⟨w.heap.size, 0, none⟩ = some (.int .i64 0) ∧ w'.cell? ⟨w.heap.size, 1, none⟩ = some (.int .i64 n) ∧ w'.cell? ⟨w.heap.size, 2, none⟩ = some (.int .i64 x) ∧ w'.cell? ⟨w.heap.size + 1, 0, none⟩ = some (.int .i64 e) ∧ w'.cell? ⟨w.heap.size + 1, 1, none⟩ = some (.int .i64 f) ∧ w.heap.size + 1 < w'.heap.size) ((refine ⟨?_, ?_, ?_, ?_, ?_, ?_⟩ <;> first | with_reducible assumption | ((rw [cell_setRow_far _ _ _ _ _ (by omega)]); with_reducible assumption) | ((rw [setRow_size]); with_reducible assumption) | ((repeat rw [World.cell?_setCell_far _ _ _ _ (by simp)]); with_reducible assumption) | (simp; done) | (simp [World.setCell]; first | done | omega) | (simp [go_sem, World.cell?_alloc_past, World.cell?_setCell_far, *]; done))) ((first | (go_at_call 120; refine (OQ.out _).mono ?_; rintro rv w1 ⟨rfl, hb⟩; have ns : w.heap.size + 1 < w1.heap.size := hb.lt (by first | with_reducible assumption | omega | (simp; done) | (simp; omega)); have n0 : w1.cell? ⟨w.heap.size, 0, none⟩ = some (.int .i64 0) := (hb.cells _ _ (by first | with_reducible assumption | omega | (simp; done) | (simp; omega))).trans (by first | with_reducible assumption | (simp; done) | (simp; with_reducible assumption) | (rw [cell_alloc_before _ _ _ _ (by omega)]; with_reducible assumption) | (simp [go_sem, *]; done)); have n1 : w1.cell? ⟨w.heap.size, 1, none⟩ = some (.int .i64 n) := (hb.cells _ _ (by first | with_reducible assumption | omega | (simp; done) | (simp; omega))).trans (by first | with_reducible assumption | (simp; done) | (simp; with_reducible assumption) | (rw [cell_alloc_before _ _ _ _ (by omega)]; with_reducible assumption) | (simp [go_sem, *]; done)); have n2 : w1.cell? ⟨w.heap.size, 2, none⟩ = some (.int .i64 x) := (hb.cells _ _ (by first | with_reducible assumption | omega | (simp; done) | (simp; omega))).trans (by first | with_reducible assumption | (simp; done) | (simp; with_reducible assumption) | (rw [cell_alloc_before _ _ _ _ (by omega)]; with_reducible assumption) | (simp [go_sem, *]; done)); have n3 : w1.cell? ⟨w.heap.size + 1, 0, none⟩ = some (.int .i64 e) := (hb.cells _ _ (by first | with_reducible assumption | omega | (simp; done) | (simp; omega))).trans (by first | with_reducible assumption | (simp; done) | (simp; with_reducible assumption) | (rw [cell_alloc_before _ _ _ _ (by omega)]; with_reducible assumption) | (simp [go_sem, *]; done)); have n4 : w1.cell? ⟨w.heap.size + 1, 1, none⟩ = some (.int .i64 f) := (hb.cells _ _ (by first | with_reducible assumption | omega | (simp; done) | (simp; omega))).trans (by first | with_reducible assumption | (simp; done) | (simp; with_reducible assumption) | (rw [cell_alloc_before _ _ _ _ (by omega)]; with_reducible assumption) | (simp [go_sem, *]; done)); (first | (have nx := Ext.trans hx hb; clear hx) | (have nx := Ext.trans (hx.alloc _) hb; clear hx) | (have nx := Ext.trans hx.drew hb; clear hx) | have nx := hb); clear hb; try clear hs; try clear g0; try clear g1; try clear g2; try clear g3; try clear g4; have hx := nx; clear nx; have hs := ns; clear ns; have g0 := n0; clear n0; have g1 := n1; clear n1; have g2 := n2; clear n2; have g3 := n3; clear n3; have g4 := n4; clear n4)))
  go_wp2_with fail
  all_goals (go_ret; exact ⟨rfl, (by repeat (first | exact Ext.refl _ | with_reducible assumption | apply Ext.alloc | apply Ext.drew | apply Ext.drewN | (refine Ext.setRow ?_ (by first | (simp; done) | (simp; omega) | omega) _) | (refine Ext.setCell ?_ (by first | (simp; done) | (simp; omega) | omega) _) | (refine Ext.trans ?_ (by with_reducible assumption))))⟩)
end Go.Proofs.YtfgbndjhaiigbabDoor

