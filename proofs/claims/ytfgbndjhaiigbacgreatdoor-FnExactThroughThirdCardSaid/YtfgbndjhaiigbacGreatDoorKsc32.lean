/-
  Contracts of the functions that the laws reach, and the plain facts that they rest on, each under the conditions that its line names; part 32.
-/
import Derived.Test.YtfgbndjhaiigbacGreatDoorKsc1
import Derived.Test.YtfgbndjhaiigbacGreatDoorKsc2
import Derived.Test.YtfgbndjhaiigbacGreatDoorKsc3
import Derived.Test.YtfgbndjhaiigbacGreatDoorKsc4
import Derived.Test.YtfgbndjhaiigbacGreatDoorKsc5
import Derived.Test.YtfgbndjhaiigbacGreatDoorKsc6
import Derived.Test.YtfgbndjhaiigbacGreatDoorKsc7
import Derived.Test.YtfgbndjhaiigbacGreatDoorKsc8
import Derived.Test.YtfgbndjhaiigbacGreatDoorKsc9
import Derived.Test.YtfgbndjhaiigbacGreatDoorKsc10
import Derived.Test.YtfgbndjhaiigbacGreatDoorKsc11
import Derived.Test.YtfgbndjhaiigbacGreatDoorKsc12
import Derived.Test.YtfgbndjhaiigbacGreatDoorKsc13
import Derived.Test.YtfgbndjhaiigbacGreatDoorKsc14
import Derived.Test.YtfgbndjhaiigbacGreatDoorKsc15
import Derived.Test.YtfgbndjhaiigbacGreatDoorKsc16
import Derived.Test.YtfgbndjhaiigbacGreatDoorKsc17
import Derived.Test.YtfgbndjhaiigbacGreatDoorKsc18
import Derived.Test.YtfgbndjhaiigbacGreatDoorKsc19
import Derived.Test.YtfgbndjhaiigbacGreatDoorKsc20
import Derived.Test.YtfgbndjhaiigbacGreatDoorKsc21
import Derived.Test.YtfgbndjhaiigbacGreatDoorKsc22
import Derived.Test.YtfgbndjhaiigbacGreatDoorKsc23
import Derived.Test.YtfgbndjhaiigbacGreatDoorKsc24
import Derived.Test.YtfgbndjhaiigbacGreatDoorKsc25
import Derived.Test.YtfgbndjhaiigbacGreatDoorKsc26
import Derived.Test.YtfgbndjhaiigbacGreatDoorKsc27
import Derived.Test.YtfgbndjhaiigbacGreatDoorKsc28
import Derived.Test.YtfgbndjhaiigbacGreatDoorKsc29
import Derived.Test.YtfgbndjhaiigbacGreatDoorKsc30
import Derived.Test.YtfgbndjhaiigbacGreatDoorRows
import Derived.WalkKit
import Derived.Handy
import Derived.LoopTactic
import Derived.LoopN
import Derived.Laws.OwnMore
import Derived.OwnWalk
import Derived.Deep.AppendLies
import Derived.Laws.Bits64b
import Derived.WalkSpells
import Derived.WalkLawsBesides
import Derived.StillTactics
import Derived.Laws.Pointers
import Derived.Deep.RegionHeld3
import Derived.Deep.QuietTactic
import Derived.BigQuiet
import Derived.Outline
import Derived.Lib.Hide
import Derived.RowKit3
import Derived.Carry
import Derived.IntWalk
import Derived.Laws.EntriesVeiled
namespace Go.Proofs.YtfgbndjhaiigbacGreatDoor
open Go Go.RowKit
set_option linter.unusedSimpArgs false
set_option linter.unusedVariables false
set_option maxRecDepth 100000

attribute [local go_sem] ta_finite_finite ta_finite_infinite ta_finite_noNumber ta_infinite_finite ta_infinite_infinite ta_infinite_noNumber ta_noNumber_finite ta_noNumber_infinite ta_noNumber_noNumber

set_option maxHeartbeats 3200000 in
theorem ofFinite_inf (e f a mode : Int) (fv : Value) (hap : patB e f a = true) (m0 : 0 ≤ mode) (m1 : mode ≤ 5) (fa : finB e f a = false) (na : numB e f a = true) (w : World) (hT : TW w) :
    Calls Tryz.prog 52 #[fmt e f, .int .i64 a, .int .i64 mode, fv] w fun rv w' => rv = .returned (.tuple #[.int .i64 ((a / pw (e + f)) * pw (e + f) + (pw e - 1) * pw f), .bool true]) ∧ Ext w w' := by
  have hg := (pat_iff.1 hap).1
  have sga := sign_01 hap
  have hmo : moB mode = true := mo_iff.2 ⟨m0, m1⟩
  have OA := Lib.hid (op_inf fa na)
  go_enter Tryz.func52, Tryz.ntmps52
  go_wp2_with (go_at_call 104; (with_reducible refine (operandsOf1 e f mode a (w.heap.size + 1) hmo hap _ (hT.ext Ext.auK) (by first | with_reducible assumption | (simp; done) | (simp [go_sem]; done)) (by simp; try omega)).mono ?_); rintro rv w1 ⟨v, rfl, how, hb⟩; obtain ⟨gl, cap, rfl, hg1, hg2⟩ := how.form (by omega); have c0 := how.cellAt 0 (by omega); simp only [List.getElem?_cons_zero] at c0; rw [OA.out] at c0; clear how; have ns : w.heap.size < w1.heap.size := hb.lt (by first | (simp; done) | (simp; omega)); have g0 : w1.cell? ⟨w.heap.size, 0, none⟩ = some (.int .i64 e) := (hb.cells _ _ (by first | (simp; done) | (simp; omega))).trans (by first | (simp; done) | (simp [go_sem, *]; done)); have g1 : w1.cell? ⟨w.heap.size, 1, none⟩ = some (.int .i64 f) := (hb.cells _ _ (by first | (simp; done) | (simp; omega))).trans (by first | (simp; done) | (simp [go_sem, *]; done)); have hx : Ext w w1 := Ext.trans Ext.auK hb; clear hb)
  have hs : max w.heap.size gl < w1.heap.size := by omega
  go_wp2_with (first | (go_at_call 143; refine (infRounded_any e f (a / pw (e + f)) mode hg sga _).mono ?_; rintro rv w1 ⟨rfl, hb⟩; have ns : max w.heap.size gl < w1.heap.size := hb.ltK; have n0 : w1.cell? ⟨w.heap.size, 0, none⟩ = some (.int .i64 e) := hb.cellK; have n1 : w1.cell? ⟨w.heap.size, 1, none⟩ = some (.int .i64 f) := hb.cellK; have n2 : w1.cell? ⟨gl, 0, none⟩ = some ((.iface 106 (.agg #[.int .i64 (a / pw (e + f))]))) := hb.cellK; (first | (have nx := Ext.trans hx hb; clear hx) | (have nx := Ext.trans (hx.alloc _) hb; clear hx) | (have nx := Ext.trans hx.drew hb; clear hx) | have nx := hb); clear hb; try clear hs; try clear g0; try clear g1; try clear g2; have hx := nx; clear nx; have hs := ns; clear ns; have g0 := n0; clear n0; have g1 := n1; clear n1; have g2 := n2; clear n2))
  try (go_region_held3 (fun w' => w'.cell? ⟨w.heap.size, 0, none⟩ = some (.int .i64 e) ∧ w'.cell? ⟨w.heap.size, 1, none⟩ = some (.int .i64 f) ∧ w'.cell? ⟨gl, 0, none⟩ = some ((.iface 106 (.agg #[.int .i64 (a / pw (e + f))]))) ∧ max w.heap.size gl < w'.heap.size) ((refine ⟨?_, ?_, ?_, ?_⟩ <;> first | with_reducible assumption | ((rw [cell_setRow_far _ _ _ _ _ (by omega)]); with_reducible assumption) | ((rw [setRow_size]); with_reducible assumption) | ((repeat rw [World.cell?_setCell_far _ _ _ _ (by simp)]); with_reducible assumption) | (simp; done) | (simp [World.setCell]; first | done | omega) | (simp [go_sem, World.cell?_alloc_past, World.cell?_setCell_far, *]; done))) ((first | (go_at_call 143; refine (infRounded_any e f (a / pw (e + f)) mode hg sga _).mono ?_; rintro rv w1 ⟨rfl, hb⟩; have ns : max w.heap.size gl < w1.heap.size := hb.ltK; have n0 : w1.cell? ⟨w.heap.size, 0, none⟩ = some (.int .i64 e) := hb.cellK; have n1 : w1.cell? ⟨w.heap.size, 1, none⟩ = some (.int .i64 f) := hb.cellK; have n2 : w1.cell? ⟨gl, 0, none⟩ = some ((.iface 106 (.agg #[.int .i64 (a / pw (e + f))]))) := hb.cellK; (first | (have nx := Ext.trans hx hb; clear hx) | (have nx := Ext.trans (hx.alloc _) hb; clear hx) | (have nx := Ext.trans hx.drew hb; clear hx) | have nx := hb); clear hb; try clear hs; try clear g0; try clear g1; try clear g2; have hx := nx; clear nx; have hs := ns; clear ns; have g0 := n0; clear n0; have g1 := n1; clear n1; have g2 := n2; clear n2))))
  try go_wp2_with (first | (go_at_call 143; refine (infRounded_any e f (a / pw (e + f)) mode hg sga _).mono ?_; rintro rv w1 ⟨rfl, hb⟩; have ns : max w.heap.size gl < w1.heap.size := hb.ltK; have n0 : w1.cell? ⟨w.heap.size, 0, none⟩ = some (.int .i64 e) := hb.cellK; have n1 : w1.cell? ⟨w.heap.size, 1, none⟩ = some (.int .i64 f) := hb.cellK; have n2 : w1.cell? ⟨gl, 0, none⟩ = some ((.iface 106 (.agg #[.int .i64 (a / pw (e + f))]))) := hb.cellK; (first | (have nx := Ext.trans hx hb; clear hx) | (have nx := Ext.trans (hx.alloc _) hb; clear hx) | (have nx := Ext.trans hx.drew hb; clear hx) | have nx := hb); clear hb; try clear hs; try clear g0; try clear g1; try clear g2; have hx := nx; clear nx; have hs := ns; clear ns; have g0 := n0; clear n0; have g1 := n1; clear n1; have g2 := n2; clear n2))
  try (go_region_held3 (fun w' => w'.cell? ⟨w.heap.size, 0, none⟩ = some (.int .i64 e) ∧ w'.cell? ⟨w.heap.size, 1, none⟩ = some (.int .i64 f) ∧ w'.cell? ⟨gl, 0, none⟩ = some ((.iface 106 (.agg #[.int .i64 (a / pw (e + f))]))) ∧ max w.heap.size gl < w'.heap.size) ((refine ⟨?_, ?_, ?_, ?_⟩ <;> first | with_reducible assumption | ((rw [cell_setRow_far _ _ _ _ _ (by omega)]); with_reducible assumption) | ((rw [setRow_size]); with_reducible assumption) | ((repeat rw [World.cell?_setCell_far _ _ _ _ (by simp)]); with_reducible assumption) | (simp; done) | (simp [World.setCell]; first | done | omega) | (simp [go_sem, World.cell?_alloc_past, World.cell?_setCell_far, *]; done))) ((first | (go_at_call 143; refine (infRounded_any e f (a / pw (e + f)) mode hg sga _).mono ?_; rintro rv w1 ⟨rfl, hb⟩; have ns : max w.heap.size gl < w1.heap.size := hb.ltK; have n0 : w1.cell? ⟨w.heap.size, 0, none⟩ = some (.int .i64 e) := hb.cellK; have n1 : w1.cell? ⟨w.heap.size, 1, none⟩ = some (.int .i64 f) := hb.cellK; have n2 : w1.cell? ⟨gl, 0, none⟩ = some ((.iface 106 (.agg #[.int .i64 (a / pw (e + f))]))) := hb.cellK; (first | (have nx := Ext.trans hx hb; clear hx) | (have nx := Ext.trans (hx.alloc _) hb; clear hx) | (have nx := Ext.trans hx.drew hb; clear hx) | have nx := hb); clear hb; try clear hs; try clear g0; try clear g1; try clear g2; have hx := nx; clear nx; have hs := ns; clear ns; have g0 := n0; clear n0; have g1 := n1; clear n1; have g2 := n2; clear n2))))
  try go_wp2_with (first | (go_at_call 143; refine (infRounded_any e f (a / pw (e + f)) mode hg sga _).mono ?_; rintro rv w1 ⟨rfl, hb⟩; have ns : max w.heap.size gl < w1.heap.size := hb.ltK; have n0 : w1.cell? ⟨w.heap.size, 0, none⟩ = some (.int .i64 e) := hb.cellK; have n1 : w1.cell? ⟨w.heap.size, 1, none⟩ = some (.int .i64 f) := hb.cellK; have n2 : w1.cell? ⟨gl, 0, none⟩ = some ((.iface 106 (.agg #[.int .i64 (a / pw (e + f))]))) := hb.cellK; (first | (have nx := Ext.trans hx hb; clear hx) | (have nx := Ext.trans (hx.alloc _) hb; clear hx) | (have nx := Ext.trans hx.drew hb; clear hx) | have nx := hb); clear hb; try clear hs; try clear g0; try clear g1; try clear g2; have hx := nx; clear nx; have hs := ns; clear ns; have g0 := n0; clear n0; have g1 := n1; clear n1; have g2 := n2; clear n2))
  go_ret2
  exact ⟨rfl, Ext.auK⟩

set_option maxHeartbeats 3200000 in
theorem ofFinite_no (e f a mode : Int) (fv : Value) (hap : patB e f a = true) (m0 : 0 ≤ mode) (m1 : mode ≤ 5) (fa : finB e f a = false) (na : numB e f a = false) (w : World) (hT : TW w) :
    Calls Tryz.prog 52 #[fmt e f, .int .i64 a, .int .i64 mode, fv] w fun rv w' => rv = .returned (.tuple #[.int .i64 (quV e f), .bool true]) ∧ Ext w w' := by
  have hg := (pat_iff.1 hap).1
  have sga := sign_01 hap
  have hmo : moB mode = true := mo_iff.2 ⟨m0, m1⟩
  have OA := Lib.hid (op_no fa na)
  go_enter Tryz.func52, Tryz.ntmps52
  go_wp2_with (go_at_call 104; (with_reducible refine (operandsOf1 e f mode a (w.heap.size + 1) hmo hap _ (hT.ext Ext.auK) (by first | with_reducible assumption | (simp; done) | (simp [go_sem]; done)) (by simp; try omega)).mono ?_); rintro rv w1 ⟨v, rfl, how, hb⟩; obtain ⟨gl, cap, rfl, hg1, hg2⟩ := how.form (by omega); have c0 := how.cellAt 0 (by omega); simp only [List.getElem?_cons_zero] at c0; rw [OA.out] at c0; clear how; have ns : w.heap.size < w1.heap.size := hb.lt (by first | (simp; done) | (simp; omega)); have g0 : w1.cell? ⟨w.heap.size, 0, none⟩ = some (.int .i64 e) := (hb.cells _ _ (by first | (simp; done) | (simp; omega))).trans (by first | (simp; done) | (simp [go_sem, *]; done)); have g1 : w1.cell? ⟨w.heap.size, 1, none⟩ = some (.int .i64 f) := (hb.cells _ _ (by first | (simp; done) | (simp; omega))).trans (by first | (simp; done) | (simp [go_sem, *]; done)); have hx : Ext w w1 := Ext.trans Ext.auK hb; clear hb)
  have hs : max w.heap.size gl < w1.heap.size := by omega
  go_wp2_with (first | (go_at_call 134; refine (noRounded_any e f mode hg _).mono ?_; rintro rv w1 ⟨rfl, hb⟩; have ns : max w.heap.size gl < w1.heap.size := hb.ltK; have n0 : w1.cell? ⟨w.heap.size, 0, none⟩ = some (.int .i64 e) := hb.cellK; have n1 : w1.cell? ⟨w.heap.size, 1, none⟩ = some (.int .i64 f) := hb.cellK; have n2 : w1.cell? ⟨gl, 0, none⟩ = some ((.iface 128 (.agg #[]))) := hb.cellK; (first | (have nx := Ext.trans hx hb; clear hx) | (have nx := Ext.trans (hx.alloc _) hb; clear hx) | (have nx := Ext.trans hx.drew hb; clear hx) | have nx := hb); clear hb; try clear hs; try clear g0; try clear g1; try clear g2; have hx := nx; clear nx; have hs := ns; clear ns; have g0 := n0; clear n0; have g1 := n1; clear n1; have g2 := n2; clear n2))
  try (go_region_held3 (fun w' => w'.cell? ⟨w.heap.size, 0, none⟩ = some (.int .i64 e) ∧ w'.cell? ⟨w.heap.size, 1, none⟩ = some (.int .i64 f) ∧ w'.cell? ⟨gl, 0, none⟩ = some ((.iface 128 (.agg #[]))) ∧ max w.heap.size gl < w'.heap.size) ((refine ⟨?_, ?_, ?_, ?_⟩ <;> first | with_reducible assumption | ((rw [cell_setRow_far _ _ _ _ _ (by omega)]); with_reducible assumption) | ((rw [setRow_size]); with_reducible assumption) | ((repeat rw [World.cell?_setCell_far _ _ _ _ (by simp)]); with_reducible assumption) | (simp; done) | (simp [World.setCell]; first | done | omega) | (simp [go_sem, World.cell?_alloc_past, World.cell?_setCell_far, *]; done))) ((first | (go_at_call 134; refine (noRounded_any e f mode hg _).mono ?_; rintro rv w1 ⟨rfl, hb⟩; have ns : max w.heap.size gl < w1.heap.size := hb.ltK; have n0 : w1.cell? ⟨w.heap.size, 0, none⟩ = some (.int .i64 e) := hb.cellK; have n1 : w1.cell? ⟨w.heap.size, 1, none⟩ = some (.int .i64 f) := hb.cellK; have n2 : w1.cell? ⟨gl, 0, none⟩ = some ((.iface 128 (.agg #[]))) := hb.cellK; (first | (have nx := Ext.trans hx hb; clear hx) | (have nx := Ext.trans (hx.alloc _) hb; clear hx) | (have nx := Ext.trans hx.drew hb; clear hx) | have nx := hb); clear hb; try clear hs; try clear g0; try clear g1; try clear g2; have hx := nx; clear nx; have hs := ns; clear ns; have g0 := n0; clear n0; have g1 := n1; clear n1; have g2 := n2; clear n2))))
  try go_wp2_with (first | (go_at_call 134; refine (noRounded_any e f mode hg _).mono ?_; rintro rv w1 ⟨rfl, hb⟩; have ns : max w.heap.size gl < w1.heap.size := hb.ltK; have n0 : w1.cell? ⟨w.heap.size, 0, none⟩ = some (.int .i64 e) := hb.cellK; have n1 : w1.cell? ⟨w.heap.size, 1, none⟩ = some (.int .i64 f) := hb.cellK; have n2 : w1.cell? ⟨gl, 0, none⟩ = some ((.iface 128 (.agg #[]))) := hb.cellK; (first | (have nx := Ext.trans hx hb; clear hx) | (have nx := Ext.trans (hx.alloc _) hb; clear hx) | (have nx := Ext.trans hx.drew hb; clear hx) | have nx := hb); clear hb; try clear hs; try clear g0; try clear g1; try clear g2; have hx := nx; clear nx; have hs := ns; clear ns; have g0 := n0; clear n0; have g1 := n1; clear n1; have g2 := n2; clear n2))
  try (go_region_held3 (fun w' => w'.cell? ⟨w.heap.size, 0, none⟩ = some (.int .i64 e) ∧ w'.cell? ⟨w.heap.size, 1, none⟩ = some (.int .i64 f) ∧ w'.cell? ⟨gl, 0, none⟩ = some ((.iface 128 (.agg #[]))) ∧ max w.heap.size gl < w'.heap.size) ((refine ⟨?_, ?_, ?_, ?_⟩ <;> first | with_reducible assumption | ((rw [cell_setRow_far _ _ _ _ _ (by omega)]); with_reducible assumption) | ((rw [setRow_size]); with_reducible assumption) | ((repeat rw [World.cell?_setCell_far _ _ _ _ (by simp)]); with_reducible assumption) | (simp; done) | (simp [World.setCell]; first | done | omega) | (simp [go_sem, World.cell?_alloc_past, World.cell?_setCell_far, *]; done))) ((first | (go_at_call 134; refine (noRounded_any e f mode hg _).mono ?_; rintro rv w1 ⟨rfl, hb⟩; have ns : max w.heap.size gl < w1.heap.size := hb.ltK; have n0 : w1.cell? ⟨w.heap.size, 0, none⟩ = some (.int .i64 e) := hb.cellK; have n1 : w1.cell? ⟨w.heap.size, 1, none⟩ = some (.int .i64 f) := hb.cellK; have n2 : w1.cell? ⟨gl, 0, none⟩ = some ((.iface 128 (.agg #[]))) := hb.cellK; (first | (have nx := Ext.trans hx hb; clear hx) | (have nx := Ext.trans (hx.alloc _) hb; clear hx) | (have nx := Ext.trans hx.drew hb; clear hx) | have nx := hb); clear hb; try clear hs; try clear g0; try clear g1; try clear g2; have hx := nx; clear nx; have hs := ns; clear ns; have g0 := n0; clear n0; have g1 := n1; clear n1; have g2 := n2; clear n2))))
  try go_wp2_with (first | (go_at_call 134; refine (noRounded_any e f mode hg _).mono ?_; rintro rv w1 ⟨rfl, hb⟩; have ns : max w.heap.size gl < w1.heap.size := hb.ltK; have n0 : w1.cell? ⟨w.heap.size, 0, none⟩ = some (.int .i64 e) := hb.cellK; have n1 : w1.cell? ⟨w.heap.size, 1, none⟩ = some (.int .i64 f) := hb.cellK; have n2 : w1.cell? ⟨gl, 0, none⟩ = some ((.iface 128 (.agg #[]))) := hb.cellK; (first | (have nx := Ext.trans hx hb; clear hx) | (have nx := Ext.trans (hx.alloc _) hb; clear hx) | (have nx := Ext.trans hx.drew hb; clear hx) | have nx := hb); clear hb; try clear hs; try clear g0; try clear g1; try clear g2; have hx := nx; clear nx; have hs := ns; clear ns; have g0 := n0; clear n0; have g1 := n1; clear n1; have g2 := n2; clear n2))
  go_ret2
  exact ⟨rfl, Ext.auK⟩

theorem ofFinite_bad0 (e f a mode : Int) (fv : Value) (h0 : moB mode = false) (w : World) (hT : TW w) : Calls Tryz.prog 52 #[fmt e f, .int .i64 a, .int .i64 mode, fv] w fun rv w' => rv = .returned (.tuple #[.int .i64 0, .bool false]) ∧ Ext w w' := by
  go_enter Tryz.func52, Tryz.ntmps52
  go_wp2_with (go_at_call 104; (with_reducible refine (operandsOf_mode e f mode _ h0 _).mono ?_); rintro rv w1 ⟨rfl, hb⟩; have hx : Ext w w1 := Ext.trans Ext.auK hb; clear hb)
  go_ret2
  exact ⟨rfl, hx⟩

theorem ofFinite_bad1 (e f a mode : Int) (fv : Value) (h0 : moB mode = true) (h1 : patB e f a = false) (w : World) (hT : TW w) : Calls Tryz.prog 52 #[fmt e f, .int .i64 a, .int .i64 mode, fv] w fun rv w' => rv = .returned (.tuple #[.int .i64 0, .bool false]) ∧ Ext w w' := by
  go_enter Tryz.func52, Tryz.ntmps52
  go_wp2_with (go_at_call 104; (with_reducible refine (operandsOf1_na e f mode a (w.heap.size + 1) h0 h1 _ (hT.ext Ext.auK) (by first | with_reducible assumption | (simp; done) | (simp [go_sem]; done)) (by simp; try omega)).mono ?_); rintro rv w1 ⟨rfl, hb⟩; have hx : Ext w w1 := Ext.trans Ext.auK hb; clear hb)
  go_ret2
  exact ⟨rfl, hx⟩

theorem cl_scale (m n x k : Int) (gK : Nat) (kx : IntKind.i64.wrap (x + k) = x + k) (w : World) (lK : gK < w.heap.size) (c : w.cell? ⟨gK, 0, none⟩ = some (.int .i64 k)) :
    Calls Tryz.prog 53 #[.agg #[.int .i64 m, .int .i64 n, .int .i64 x], .pointer (some ⟨gK, 0, none⟩)] w fun rv w' => rv = .returned (.agg #[.int .i64 m, .int .i64 n, .int .i64 (x + k)]) ∧ Ext w w' := by
  have c1 : ∀ A B, ((w.alloc A).alloc B).cell? ⟨gK, 0, none⟩ = some (.int .i64 k) := fun A B => (cell_alloc_before _ _ _ _ (by simp; omega)).trans ((cell_alloc_before _ _ _ _ lK).trans c)
  go_enter Tryz.func53, Tryz.ntmps53
  go_wp2
  go_returns
  exact ⟨rfl, Ext.auK⟩

set_option maxHeartbeats 3200000 in
theorem ofScale_fin (e f a k mode z1 z2 z3 : Int) (gK : Nat) (hap : patB e f a = true) (m0 : 0 ≤ mode) (m1 : mode ≤ 5) (fa : finB e f a = true) (hm : z1 = 0 ∨ z1 = 1) (v0 : 0 ≤ z2) (v1 : z2 < 4611686018427387904) (j0 : -149 ≤ z3 - unV e f) (j1 : z3 - unV e f ≤ 149)
    (clc : ∀ w, gK < w.heap.size → w.cell? ⟨gK, 0, none⟩ = some (.int .i64 k) → Calls Tryz.prog 53 #[.agg #[.int .i64 (a / pw (e + f)), .int .i64 ((odV (unitsV e f a)).natAbs : Int), .int .i64 (shE (unitsV e f a) (unV e f))], .pointer (some ⟨gK, 0, none⟩)] w fun rv w' => rv = .returned (.agg #[.int .i64 z1, .int .i64 z2, .int .i64 z3]) ∧ Ext w w') (w : World) (hT : TW w) (q0 : w.cell? ⟨gK, 0, none⟩ = some (.int .i64 k)) (lK : gK < w.heap.size) :
    Calls Tryz.prog 52 #[fmt e f, .int .i64 a, .int .i64 mode, .func (.func 53) #[] #[.pointer (some ⟨gK, 0, none⟩)]] w (OTout e f z1 z2 (z3 - unV e f) mode w) := by
  have hg := (pat_iff.1 hap).1
  have hmo : moB mode = true := mo_iff.2 ⟨m0, m1⟩
  have CLC := Lib.hid clc; clear clc
  have OA := Lib.hid (op_fin fa)
  go_enter Tryz.func52, Tryz.ntmps52
  go_wp2_with (go_at_call 104; (with_reducible refine (operandsOf1 e f mode a (w.heap.size + 1) hmo hap _ (hT.ext Ext.auK) (by first | with_reducible assumption | (simp; done) | (simp [go_sem]; done)) (by simp; try omega)).mono ?_); rintro rv w1 ⟨v, rfl, how, hb⟩; obtain ⟨gl, cap, rfl, hg1, hg2⟩ := how.form (by omega); have c0 := how.cellAt 0 (by omega); simp only [List.getElem?_cons_zero] at c0; rw [OA.out] at c0; clear how; have ns : w.heap.size < w1.heap.size := hb.lt (by first | (simp; done) | (simp; omega)); have g0 : w1.cell? ⟨w.heap.size, 0, none⟩ = some (.int .i64 e) := (hb.cells _ _ (by first | (simp; done) | (simp; omega))).trans (by first | (simp; done) | (simp [go_sem, *]; done)); have g1 : w1.cell? ⟨w.heap.size, 1, none⟩ = some (.int .i64 f) := (hb.cells _ _ (by first | (simp; done) | (simp; omega))).trans (by first | (simp; done) | (simp [go_sem, *]; done)); have k0 : w1.cell? ⟨gK, 0, none⟩ = some (.int .i64 k) := (hb.cells _ _ (by simp; omega)).trans (by first | (simp [go_sem, *]; done) | (rw [cell_alloc_before _ _ _ _ (by simp; omega), cell_alloc_before _ _ _ _ (by omega)]; with_reducible assumption)); have hx : Ext w w1 := Ext.trans Ext.auK hb; clear hb)
  clear q0
  have hK : max w.heap.size (max gl gK) < w1.heap.size := by have := hx.le; omega
  go_wp2_with fail
  go_region_held3 (fun w' => w'.cell? ⟨w.heap.size, 0, none⟩ = some (.int .i64 e) ∧ w'.cell? ⟨w.heap.size, 1, none⟩ = some (.int .i64 f) ∧ w'.cell? ⟨gl, 0, none⟩ = some ((.iface 74 (.agg #[.int .i64 (a / pw (e + f)), .int .i64 ((odV (unitsV e f a)).natAbs : Int), .int .i64 (shE (unitsV e f a) (unV e f))]))) ∧ w'.cell? ⟨gK, 0, none⟩ = some (.int .i64 k) ∧ w'.cell? ⟨w1.heap.size, 0, none⟩ = some (.int .i64 (a / pw (e + f))) ∧ w'.cell? ⟨w1.heap.size, 1, none⟩ = some (.int .i64 ((odV (unitsV e f a)).natAbs : Int)) ∧ w'.cell? ⟨w1.heap.size, 2, none⟩ = some (.int .i64 (shE (unitsV e f a) (unV e f))) ∧ w1.heap.size < w'.heap.size) ((refine ⟨?_, ?_, ?_, ?_, ?_, ?_, ?_, ?_⟩ <;> first | with_reducible assumption | ((repeat first | rw [cell_set_far _ _ _ _ _ _ (by omega)] | rw [cell_alloc_before _ _ _ _ (by omega)] | rw [cell_alloc_drew _ _ _ _ (by omega)] | rw [cell_drew]); with_reducible assumption) | ((rw [cell_setRow_far _ _ _ _ _ (by omega)]); with_reducible assumption) | ((rw [setRow_size]); with_reducible assumption) | (simp; done) | (simp [World.setCell]; first | done | omega) | (simp [go_sem, World.cell?_alloc_past, World.cell?_setCell_far, *]; done))) ((first | (go_at_call 53; refine (CLC.out _ (by omega) (by first | with_reducible assumption | (simp [go_sem, *]; done))).mono ?_; rintro rv w3 ⟨rfl, hb⟩; have ns : w1.heap.size < w3.heap.size := hb.ltK; have n0 : w3.cell? ⟨w.heap.size, 0, none⟩ = some (.int .i64 e) := hb.cellK; have n1 : w3.cell? ⟨w.heap.size, 1, none⟩ = some (.int .i64 f) := hb.cellK; have n2 : w3.cell? ⟨gl, 0, none⟩ = some ((.iface 74 (.agg #[.int .i64 (a / pw (e + f)), .int .i64 ((odV (unitsV e f a)).natAbs : Int), .int .i64 (shE (unitsV e f a) (unV e f))]))) := hb.cellK; have n3 : w3.cell? ⟨gK, 0, none⟩ = some (.int .i64 k) := hb.cellK; have n4 : w3.cell? ⟨w1.heap.size, 0, none⟩ = some (.int .i64 (a / pw (e + f))) := hb.cellK; have n5 : w3.cell? ⟨w1.heap.size, 1, none⟩ = some (.int .i64 ((odV (unitsV e f a)).natAbs : Int)) := hb.cellK; have n6 : w3.cell? ⟨w1.heap.size, 2, none⟩ = some (.int .i64 (shE (unitsV e f a) (unV e f))) := hb.cellK; (first | (have nx := Ext.trans hx hb; clear hx) | (have nx := Ext.trans (hx.alloc _) hb; clear hx) | (have nx := Ext.trans hx.drew hb; clear hx) | have nx := hb); clear hb; try clear hs; try clear g0; try clear g1; try clear g2; try clear g3; try clear g4; try clear g5; try clear g6; have hx := nx; clear nx; have hs := ns; clear ns; have g0 := n0; clear n0; have g1 := n1; clear n1; have g2 := n2; clear n2; have g3 := n3; clear n3; have g4 := n4; clear n4; have g5 := n5; clear n5; have g6 := n6; clear n6) | (go_at_call 105; refine (finRounded_any e f z1 z2 z3 mode hg hm v0 v1 j0 j1 m0 m1 _).mono ?_; rintro rv w3 ⟨s, rfl, hq, hb⟩; have HQ := Lib.hid hq; clear hq; have ns : w1.heap.size < w3.heap.size := hb.ltK; have n0 : w3.cell? ⟨w.heap.size, 0, none⟩ = some (.int .i64 e) := hb.cellK; have n1 : w3.cell? ⟨w.heap.size, 1, none⟩ = some (.int .i64 f) := hb.cellK; have n2 : w3.cell? ⟨gl, 0, none⟩ = some ((.iface 74 (.agg #[.int .i64 (a / pw (e + f)), .int .i64 ((odV (unitsV e f a)).natAbs : Int), .int .i64 (shE (unitsV e f a) (unV e f))]))) := hb.cellK; have n3 : w3.cell? ⟨gK, 0, none⟩ = some (.int .i64 k) := hb.cellK; have n4 : w3.cell? ⟨w1.heap.size, 0, none⟩ = some (.int .i64 (a / pw (e + f))) := hb.cellK; have n5 : w3.cell? ⟨w1.heap.size, 1, none⟩ = some (.int .i64 ((odV (unitsV e f a)).natAbs : Int)) := hb.cellK; have n6 : w3.cell? ⟨w1.heap.size, 2, none⟩ = some (.int .i64 (shE (unitsV e f a) (unV e f))) := hb.cellK; (first | (have nx := Ext.trans hx hb; clear hx) | (have nx := Ext.trans (hx.alloc _) hb; clear hx) | (have nx := Ext.trans hx.drew hb; clear hx) | have nx := hb); clear hb; try clear hs; try clear g0; try clear g1; try clear g2; try clear g3; try clear g4; try clear g5; try clear g6; have hx := nx; clear nx; have hs := ns; clear ns; have g0 := n0; clear n0; have g1 := n1; clear n1; have g2 := n2; clear n2; have g3 := n3; clear n3; have g4 := n4; clear n4; have g5 := n5; clear n5; have g6 := n6; clear n6)))
  go_wp2_with fail
  go_ret2
  exact ⟨s, rfl, HQ.out, Ext.auK⟩
end Go.Proofs.YtfgbndjhaiigbacGreatDoor

