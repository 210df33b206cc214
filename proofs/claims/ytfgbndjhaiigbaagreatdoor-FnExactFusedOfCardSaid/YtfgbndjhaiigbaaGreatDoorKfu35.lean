/-
  Contracts of the functions that the laws reach, and the plain facts that they rest on, each under the conditions that its line names; part 35.
-/
import Derived.Test.YtfgbndjhaiigbaaGreatDoorKfu1
import Derived.Test.YtfgbndjhaiigbaaGreatDoorKfu2
import Derived.Test.YtfgbndjhaiigbaaGreatDoorKfu3
import Derived.Test.YtfgbndjhaiigbaaGreatDoorKfu4
import Derived.Test.YtfgbndjhaiigbaaGreatDoorKfu5
import Derived.Test.YtfgbndjhaiigbaaGreatDoorKfu6
import Derived.Test.YtfgbndjhaiigbaaGreatDoorKfu7
import Derived.Test.YtfgbndjhaiigbaaGreatDoorKfu8
import Derived.Test.YtfgbndjhaiigbaaGreatDoorKfu9
import Derived.Test.YtfgbndjhaiigbaaGreatDoorKfu10
import Derived.Test.YtfgbndjhaiigbaaGreatDoorKfu11
import Derived.Test.YtfgbndjhaiigbaaGreatDoorKfu12
import Derived.Test.YtfgbndjhaiigbaaGreatDoorKfu13
import Derived.Test.YtfgbndjhaiigbaaGreatDoorKfu14
import Derived.Test.YtfgbndjhaiigbaaGreatDoorKfu15
import Derived.Test.YtfgbndjhaiigbaaGreatDoorKfu16
import Derived.Test.YtfgbndjhaiigbaaGreatDoorKfu17
import Derived.Test.YtfgbndjhaiigbaaGreatDoorKfu18
import Derived.Test.YtfgbndjhaiigbaaGreatDoorKfu19
import Derived.Test.YtfgbndjhaiigbaaGreatDoorKfu20
import Derived.Test.YtfgbndjhaiigbaaGreatDoorKfu21
import Derived.Test.YtfgbndjhaiigbaaGreatDoorKfu22
import Derived.Test.YtfgbndjhaiigbaaGreatDoorKfu23
import Derived.Test.YtfgbndjhaiigbaaGreatDoorKfu24
import Derived.Test.YtfgbndjhaiigbaaGreatDoorKfu25
import Derived.Test.YtfgbndjhaiigbaaGreatDoorKfu26
import Derived.Test.YtfgbndjhaiigbaaGreatDoorKfu27
import Derived.Test.YtfgbndjhaiigbaaGreatDoorKfu28
import Derived.Test.YtfgbndjhaiigbaaGreatDoorKfu29
import Derived.Test.YtfgbndjhaiigbaaGreatDoorKfu30
import Derived.Test.YtfgbndjhaiigbaaGreatDoorKfu31
import Derived.Test.YtfgbndjhaiigbaaGreatDoorKfu33
import Derived.Test.YtfgbndjhaiigbaaGreatDoorKfu34
import Derived.Test.YtfgbndjhaiigbaaGreatDoorRows
import Derived.WalkKit
import Derived.Handy
import Derived.LoopTactic
import Derived.LoopN
import Derived.Laws.OwnMore
import Derived.OwnWalk
import Derived.Deep.AppendLies
import Derived.Laws.Bits64b
import Derived.WalkSpells
import Derived.WalkLawsBesides
import Derived.StillTactics
import Derived.Laws.Pointers
import Derived.Deep.RegionHeld3
import Derived.Deep.QuietTactic
import Derived.BigQuiet
import Derived.Outline
import Derived.Lib.Hide
import Derived.RowKit3
import Derived.Carry
import Derived.IntWalk
import Derived.Laws.EntriesVeiled
namespace Go.Proofs.YtfgbndjhaiigbaaGreatDoor
open Go Go.RowKit
set_option linter.unusedSimpArgs false
set_option linter.unusedVariables false
set_option maxRecDepth 100000

set_option maxHeartbeats 3200000 in
theorem fusedG_fin (e f a b c mode m n x : Int) (tT : TypeId) (tX : Value) (hap : patB e f a = true) (hbp : patB e f b = true) (hcp : patB e f c = true) (mo0 : 0 ≤ mode) (mo1 : mode ≤ 5) (hm : m = 0 ∨ m = 1) (v0 : 0 ≤ n) (v1 : n < 4611686018427387904) (k0 : -149 ≤ x - unV e f) (k1 : x - unV e f ≤ 149) 
    (op1 : ∀ w, Calls Tryz.prog 70 #[(Value.iface (opT e f a) (opX e f a)), (Value.iface (opT e f b) (opX e f b))] w fun rv w' => rv = .returned (.iface tT tX) ∧ Ext w w') (op2 : ∀ w, Calls Tryz.prog 66 #[fmt e f, .iface tT tX, (Value.iface (opT e f c) (opX e f c)), .int .i64 mode] w fun rv w' => rv = .returned (.iface 82 (.agg #[.int .i64 m, .int .i64 n, .int .i64 x])) ∧ Ext w w') (w : World) (hT : TW w) :
    Calls Tryz.prog 39 #[fmt e f, .int .i64 a, .int .i64 b, .int .i64 c, .int .i64 mode] w (OTout e f m n (x - unV e f) mode w) := by
  have hg := (pat_iff.1 hap).1
  have hmo : moB mode = true := mo_iff.2 ⟨mo0, mo1⟩
  have OP1 := Lib.hid op1; clear op1
  have OP2 := Lib.hid op2; clear op2
  go_enter Tryz.func39, Tryz.ntmps39
  go_wp2_with (go_at_call 73; (with_reducible refine (operandsOf3 e f mode a b c (w.heap.size + 1) hmo hap hbp hcp _ (hT.ext Ext.auK) (by first | with_reducible assumption | (simp; done) | (simp [go_sem]; done)) (by first | with_reducible assumption | (simp; done) | (simp [go_sem]; done)) (by first | with_reducible assumption | (simp; done) | (simp [go_sem]; done)) (by simp; try omega)).mono ?_); rintro rv w1 ⟨v, rfl, how, hb⟩; obtain ⟨gl, cap, rfl, hg1, hg2⟩ := how.form (by omega); have c0 := how.cellAt 0 (by omega); have c1 := how.cellAt 1 (by omega); have c2 := how.cellAt 2 (by omega); simp only [List.getElem?_cons_zero, List.getElem?_cons_succ] at c0 c1 c2; have c0 := c0; have c1 := c1; have c2 := c2; clear how; have ns : w.heap.size < w1.heap.size := hb.lt (by first | (simp; done) | (simp; omega)); have g0 : w1.cell? ⟨w.heap.size, 0, none⟩ = some (.int .i64 e) := (hb.cells _ _ (by first | (simp; done) | (simp; omega))).trans (by first | (simp; done) | (simp [go_sem, *]; done)); have g1 : w1.cell? ⟨w.heap.size, 1, none⟩ = some (.int .i64 f) := (hb.cells _ _ (by first | (simp; done) | (simp; omega))).trans (by first | (simp; done) | (simp [go_sem, *]; done)); have hx : Ext w w1 := Ext.trans Ext.auK hb; clear hb)
  have hs : max w.heap.size gl < w1.heap.size := by omega
  go_region_held3 (fun w' => w'.cell? ⟨w.heap.size, 0, none⟩ = some (.int .i64 e) ∧ w'.cell? ⟨w.heap.size, 1, none⟩ = some (.int .i64 f) ∧ w'.cell? ⟨gl, 0, none⟩ = some ((Value.iface (opT e f a) (opX e f a))) ∧ w'.cell? ⟨gl, 1, none⟩ = some ((Value.iface (opT e f b) (opX e f b))) ∧ w'.cell? ⟨gl, 2, none⟩ = some ((Value.iface (opT e f c) (opX e f c))) ∧ max w.heap.size gl < w'.heap.size) ((refine ⟨?_, ?_, ?_, ?_, ?_, ?_⟩ <;> first | with_reducible assumption | ((repeat first | rw [cell_set_far _ _ _ _ _ _ (by omega)] | rw [cell_alloc_before _ _ _ _ (by omega)] | rw [cell_alloc_drew _ _ _ _ (by omega)] | rw [cell_drew]); with_reducible assumption) | ((rw [cell_setRow_far _ _ _ _ _ (by omega)]); with_reducible assumption) | ((rw [setRow_size]); with_reducible assumption) | (simp; done) | (simp [World.setCell]; first | done | omega) | (simp [go_sem, World.cell?_alloc_past, World.cell?_setCell_far, *]; done))) ((first | (go_at_call 70; refine (OP1.out _).mono ?_; rintro rv w1 ⟨rfl, hb⟩; have ns : max w.heap.size gl < w1.heap.size := hb.ltK; have n0 : w1.cell? ⟨w.heap.size, 0, none⟩ = some (.int .i64 e) := hb.cellK; have n1 : w1.cell? ⟨w.heap.size, 1, none⟩ = some (.int .i64 f) := hb.cellK; have n2 : w1.cell? ⟨gl, 0, none⟩ = some ((Value.iface (opT e f a) (opX e f a))) := hb.cellK; have n3 : w1.cell? ⟨gl, 1, none⟩ = some ((Value.iface (opT e f b) (opX e f b))) := hb.cellK; have n4 : w1.cell? ⟨gl, 2, none⟩ = some ((Value.iface (opT e f c) (opX e f c))) := hb.cellK; (first | (have nx := Ext.trans hx hb; clear hx) | (have nx := Ext.trans (hx.alloc _) hb; clear hx) | (have nx := Ext.trans hx.drew hb; clear hx) | have nx := hb); clear hb; try clear hs; try clear g0; try clear g1; try clear g2; try clear g3; try clear g4; have hx := nx; clear nx; have hs := ns; clear ns; have g0 := n0; clear n0; have g1 := n1; clear n1; have g2 := n2; clear n2; have g3 := n3; clear n3; have g4 := n4; clear n4) | (go_at_call 66; refine (OP2.out _).mono ?_; rintro rv w1 ⟨rfl, hb⟩; have ns : max w.heap.size gl < w1.heap.size := hb.ltK; have n0 : w1.cell? ⟨w.heap.size, 0, none⟩ = some (.int .i64 e) := hb.cellK; have n1 : w1.cell? ⟨w.heap.size, 1, none⟩ = some (.int .i64 f) := hb.cellK; have n2 : w1.cell? ⟨gl, 0, none⟩ = some ((Value.iface (opT e f a) (opX e f a))) := hb.cellK; have n3 : w1.cell? ⟨gl, 1, none⟩ = some ((Value.iface (opT e f b) (opX e f b))) := hb.cellK; have n4 : w1.cell? ⟨gl, 2, none⟩ = some ((Value.iface (opT e f c) (opX e f c))) := hb.cellK; (first | (have nx := Ext.trans hx hb; clear hx) | (have nx := Ext.trans (hx.alloc _) hb; clear hx) | (have nx := Ext.trans hx.drew hb; clear hx) | have nx := hb); clear hb; try clear hs; try clear g0; try clear g1; try clear g2; try clear g3; try clear g4; have hx := nx; clear nx; have hs := ns; clear ns; have g0 := n0; clear n0; have g1 := n1; clear n1; have g2 := n2; clear n2; have g3 := n3; clear n3; have g4 := n4; clear n4) | (go_at_call 133; refine (finRounded_any e f m n x mode hg hm v0 v1 k0 k1 mo0 mo1 _).mono ?_; rintro rv w1 ⟨s, rfl, hq, hb⟩; have HQ := Lib.hid hq; clear hq; have ns : max w.heap.size gl < w1.heap.size := hb.ltK; have n0 : w1.cell? ⟨w.heap.size, 0, none⟩ = some (.int .i64 e) := hb.cellK; have n1 : w1.cell? ⟨w.heap.size, 1, none⟩ = some (.int .i64 f) := hb.cellK; have n2 : w1.cell? ⟨gl, 0, none⟩ = some ((Value.iface (opT e f a) (opX e f a))) := hb.cellK; have n3 : w1.cell? ⟨gl, 1, none⟩ = some ((Value.iface (opT e f b) (opX e f b))) := hb.cellK; have n4 : w1.cell? ⟨gl, 2, none⟩ = some ((Value.iface (opT e f c) (opX e f c))) := hb.cellK; (first | (have nx := Ext.trans hx hb; clear hx) | (have nx := Ext.trans (hx.alloc _) hb; clear hx) | (have nx := Ext.trans hx.drew hb; clear hx) | have nx := hb); clear hb; try clear hs; try clear g0; try clear g1; try clear g2; try clear g3; try clear g4; have hx := nx; clear nx; have hs := ns; clear ns; have g0 := n0; clear n0; have g1 := n1; clear n1; have g2 := n2; clear n2; have g3 := n3; clear n3; have g4 := n4; clear n4)))
  go_wp2_with fail
  go_ret2
  exact ⟨s, rfl, HQ.out, Ext.auK⟩

set_option maxHeartbeats 3200000 in
theorem fusedG_inf (e f a b c mode m : Int) (tT : TypeId) (tX : Value) (hap : patB e f a = true) (hbp : patB e f b = true) (hcp : patB e f c = true) (mo0 : 0 ≤ mode) (mo1 : mode ≤ 5) (hm : m = 0 ∨ m = 1) 
    (op1 : ∀ w, Calls Tryz.prog 70 #[(Value.iface (opT e f a) (opX e f a)), (Value.iface (opT e f b) (opX e f b))] w fun rv w' => rv = .returned (.iface tT tX) ∧ Ext w w') (op2 : ∀ w, Calls Tryz.prog 66 #[fmt e f, .iface tT tX, (Value.iface (opT e f c) (opX e f c)), .int .i64 mode] w fun rv w' => rv = .returned (.iface 104 (.agg #[.int .i64 m])) ∧ Ext w w') (w : World) (hT : TW w) :
    Calls Tryz.prog 39 #[fmt e f, .int .i64 a, .int .i64 b, .int .i64 c, .int .i64 mode] w (fun rv w' => rv = .returned (.tuple #[.int .i64 (m * pw (e + f) + (pw e - 1) * pw f), .bool true]) ∧ Ext w w') := by
  have hg := (pat_iff.1 hap).1
  have hmo : moB mode = true := mo_iff.2 ⟨mo0, mo1⟩
  have OP1 := Lib.hid op1; clear op1
  have OP2 := Lib.hid op2; clear op2
  go_enter Tryz.func39, Tryz.ntmps39
  go_wp2_with (go_at_call 73; (with_reducible refine (operandsOf3 e f mode a b c (w.heap.size + 1) hmo hap hbp hcp _ (hT.ext Ext.auK) (by first | with_reducible assumption | (simp; done) | (simp [go_sem]; done)) (by first | with_reducible assumption | (simp; done) | (simp [go_sem]; done)) (by first | with_reducible assumption | (simp; done) | (simp [go_sem]; done)) (by simp; try omega)).mono ?_); rintro rv w1 ⟨v, rfl, how, hb⟩; obtain ⟨gl, cap, rfl, hg1, hg2⟩ := how.form (by omega); have c0 := how.cellAt 0 (by omega); have c1 := how.cellAt 1 (by omega); have c2 := how.cellAt 2 (by omega); simp only [List.getElem?_cons_zero, List.getElem?_cons_succ] at c0 c1 c2; have c0 := c0; have c1 := c1; have c2 := c2; clear how; have ns : w.heap.size < w1.heap.size := hb.lt (by first | (simp; done) | (simp; omega)); have g0 : w1.cell? ⟨w.heap.size, 0, none⟩ = some (.int .i64 e) := (hb.cells _ _ (by first | (simp; done) | (simp; omega))).trans (by first | (simp; done) | (simp [go_sem, *]; done)); have g1 : w1.cell? ⟨w.heap.size, 1, none⟩ = some (.int .i64 f) := (hb.cells _ _ (by first | (simp; done) | (simp; omega))).trans (by first | (simp; done) | (simp [go_sem, *]; done)); have hx : Ext w w1 := Ext.trans Ext.auK hb; clear hb)
  have hs : max w.heap.size gl < w1.heap.size := by omega
  go_region_held3 (fun w' => w'.cell? ⟨w.heap.size, 0, none⟩ = some (.int .i64 e) ∧ w'.cell? ⟨w.heap.size, 1, none⟩ = some (.int .i64 f) ∧ w'.cell? ⟨gl, 0, none⟩ = some ((Value.iface (opT e f a) (opX e f a))) ∧ w'.cell? ⟨gl, 1, none⟩ = some ((Value.iface (opT e f b) (opX e f b))) ∧ w'.cell? ⟨gl, 2, none⟩ = some ((Value.iface (opT e f c) (opX e f c))) ∧ max w.heap.size gl < w'.heap.size) ((refine ⟨?_, ?_, ?_, ?_, ?_, ?_⟩ <;> first | with_reducible assumption | ((repeat first | rw [cell_set_far _ _ _ _ _ _ (by omega)] | rw [cell_alloc_before _ _ _ _ (by omega)] | rw [cell_alloc_drew _ _ _ _ (by omega)] | rw [cell_drew]); with_reducible assumption) | ((rw [cell_setRow_far _ _ _ _ _ (by omega)]); with_reducible assumption) | ((rw [setRow_size]); with_reducible assumption) | (simp; done) | (simp [World.setCell]; first | done | omega) | (simp [go_sem, World.cell?_alloc_past, World.cell?_setCell_far, *]; done))) ((first | (go_at_call 70; refine (OP1.out _).mono ?_; rintro rv w1 ⟨rfl, hb⟩; have ns : max w.heap.size gl < w1.heap.size := hb.ltK; have n0 : w1.cell? ⟨w.heap.size, 0, none⟩ = some (.int .i64 e) := hb.cellK; have n1 : w1.cell? ⟨w.heap.size, 1, none⟩ = some (.int .i64 f) := hb.cellK; have n2 : w1.cell? ⟨gl, 0, none⟩ = some ((Value.iface (opT e f a) (opX e f a))) := hb.cellK; have n3 : w1.cell? ⟨gl, 1, none⟩ = some ((Value.iface (opT e f b) (opX e f b))) := hb.cellK; have n4 : w1.cell? ⟨gl, 2, none⟩ = some ((Value.iface (opT e f c) (opX e f c))) := hb.cellK; (first | (have nx := Ext.trans hx hb; clear hx) | (have nx := Ext.trans (hx.alloc _) hb; clear hx) | (have nx := Ext.trans hx.drew hb; clear hx) | have nx := hb); clear hb; try clear hs; try clear g0; try clear g1; try clear g2; try clear g3; try clear g4; have hx := nx; clear nx; have hs := ns; clear ns; have g0 := n0; clear n0; have g1 := n1; clear n1; have g2 := n2; clear n2; have g3 := n3; clear n3; have g4 := n4; clear n4) | (go_at_call 66; refine (OP2.out _).mono ?_; rintro rv w1 ⟨rfl, hb⟩; have ns : max w.heap.size gl < w1.heap.size := hb.ltK; have n0 : w1.cell? ⟨w.heap.size, 0, none⟩ = some (.int .i64 e) := hb.cellK; have n1 : w1.cell? ⟨w.heap.size, 1, none⟩ = some (.int .i64 f) := hb.cellK; have n2 : w1.cell? ⟨gl, 0, none⟩ = some ((Value.iface (opT e f a) (opX e f a))) := hb.cellK; have n3 : w1.cell? ⟨gl, 1, none⟩ = some ((Value.iface (opT e f b) (opX e f b))) := hb.cellK; have n4 : w1.cell? ⟨gl, 2, none⟩ = some ((Value.iface (opT e f c) (opX e f c))) := hb.cellK; (first | (have nx := Ext.trans hx hb; clear hx) | (have nx := Ext.trans (hx.alloc _) hb; clear hx) | (have nx := Ext.trans hx.drew hb; clear hx) | have nx := hb); clear hb; try clear hs; try clear g0; try clear g1; try clear g2; try clear g3; try clear g4; have hx := nx; clear nx; have hs := ns; clear ns; have g0 := n0; clear n0; have g1 := n1; clear n1; have g2 := n2; clear n2; have g3 := n3; clear n3; have g4 := n4; clear n4) | (go_at_call 223; refine (infRounded_any e f m mode hg hm _).mono ?_; rintro rv w1 ⟨rfl, hb⟩; have ns : max w.heap.size gl < w1.heap.size := hb.ltK; have n0 : w1.cell? ⟨w.heap.size, 0, none⟩ = some (.int .i64 e) := hb.cellK; have n1 : w1.cell? ⟨w.heap.size, 1, none⟩ = some (.int .i64 f) := hb.cellK; have n2 : w1.cell? ⟨gl, 0, none⟩ = some ((Value.iface (opT e f a) (opX e f a))) := hb.cellK; have n3 : w1.cell? ⟨gl, 1, none⟩ = some ((Value.iface (opT e f b) (opX e f b))) := hb.cellK; have n4 : w1.cell? ⟨gl, 2, none⟩ = some ((Value.iface (opT e f c) (opX e f c))) := hb.cellK; (first | (have nx := Ext.trans hx hb; clear hx) | (have nx := Ext.trans (hx.alloc _) hb; clear hx) | (have nx := Ext.trans hx.drew hb; clear hx) | have nx := hb); clear hb; try clear hs; try clear g0; try clear g1; try clear g2; try clear g3; try clear g4; have hx := nx; clear nx; have hs := ns; clear ns; have g0 := n0; clear n0; have g1 := n1; clear n1; have g2 := n2; clear n2; have g3 := n3; clear n3; have g4 := n4; clear n4)))
  go_wp2_with fail
  go_ret2
  exact ⟨rfl, Ext.auK⟩

set_option maxHeartbeats 3200000 in
theorem fusedG_no (e f a b c mode  : Int) (tT : TypeId) (tX : Value) (hap : patB e f a = true) (hbp : patB e f b = true) (hcp : patB e f c = true) (mo0 : 0 ≤ mode) (mo1 : mode ≤ 5) 
    (op1 : ∀ w, Calls Tryz.prog 70 #[(Value.iface (opT e f a) (opX e f a)), (Value.iface (opT e f b) (opX e f b))] w fun rv w' => rv = .returned (.iface tT tX) ∧ Ext w w') (op2 : ∀ w, Calls Tryz.prog 66 #[fmt e f, .iface tT tX, (Value.iface (opT e f c) (opX e f c)), .int .i64 mode] w fun rv w' => rv = .returned (.iface 107 (.agg #[])) ∧ Ext w w') (w : World) (hT : TW w) :
    Calls Tryz.prog 39 #[fmt e f, .int .i64 a, .int .i64 b, .int .i64 c, .int .i64 mode] w (fun rv w' => rv = .returned (.tuple #[.int .i64 (quV e f), .bool true]) ∧ Ext w w') := by
  have hg := (pat_iff.1 hap).1
  have hmo : moB mode = true := mo_iff.2 ⟨mo0, mo1⟩
  have OP1 := Lib.hid op1; clear op1
  have OP2 := Lib.hid op2; clear op2
  go_enter Tryz.func39, Tryz.ntmps39
  go_wp2_with (go_at_call 73; (with_reducible refine (operandsOf3 e f mode a b c (w.heap.size + 1) hmo hap hbp hcp _ (hT.ext Ext.auK) (by first | with_reducible assumption | (simp; done) | (simp [go_sem]; done)) (by first | with_reducible assumption | (simp; done) | (simp [go_sem]; done)) (by first | with_reducible assumption | (simp; done) | (simp [go_sem]; done)) (by simp; try omega)).mono ?_); rintro rv w1 ⟨v, rfl, how, hb⟩; obtain ⟨gl, cap, rfl, hg1, hg2⟩ := how.form (by omega); have c0 := how.cellAt 0 (by omega); have c1 := how.cellAt 1 (by omega); have c2 := how.cellAt 2 (by omega); simp only [List.getElem?_cons_zero, List.getElem?_cons_succ] at c0 c1 c2; have c0 := c0; have c1 := c1; have c2 := c2; clear how; have ns : w.heap.size < w1.heap.size := hb.lt (by first | (simp; done) | (simp; omega)); have g0 : w1.cell? ⟨w.heap.size, 0, none⟩ = some (.int .i64 e) := (hb.cells _ _ (by first | (simp; done) | (simp; omega))).trans (by first | (simp; done) | (simp [go_sem, *]; done)); have g1 : w1.cell? ⟨w.heap.size, 1, none⟩ = some (.int .i64 f) := (hb.cells _ _ (by first | (simp; done) | (simp; omega))).trans (by first | (simp; done) | (simp [go_sem, *]; done)); have hx : Ext w w1 := Ext.trans Ext.auK hb; clear hb)
  have hs : max w.heap.size gl < w1.heap.size := by omega
  go_region_held3 (fun w' => w'.cell? ⟨w.heap.size, 0, none⟩ = some (.int .i64 e) ∧ w'.cell? ⟨w.heap.size, 1, none⟩ = some (.int .i64 f) ∧ w'.cell? ⟨gl, 0, none⟩ = some ((Value.iface (opT e f a) (opX e f a))) ∧ w'.cell? ⟨gl, 1, none⟩ = some ((Value.iface (opT e f b) (opX e f b))) ∧ w'.cell? ⟨gl, 2, none⟩ = some ((Value.iface (opT e f c) (opX e f c))) ∧ max w.heap.size gl < w'.heap.size) ((refine ⟨?_, ?_, ?_, ?_, ?_, ?_⟩ <;> first | with_reducible assumption | ((repeat first | rw [cell_set_far _ _ _ _ _ _ (by omega)] | rw [cell_alloc_before _ _ _ _ (by omega)] | rw [cell_alloc_drew _ _ _ _ (by omega)] | rw [cell_drew]); with_reducible assumption) | ((rw [cell_setRow_far _ _ _ _ _ (by omega)]); with_reducible assumption) | ((rw [setRow_size]); with_reducible assumption) | (simp; done) | (simp [World.setCell]; first | done | omega) | (simp [go_sem, World.cell?_alloc_past, World.cell?_setCell_far, *]; done))) ((first | (go_at_call 70; refine (OP1.out _).mono ?_; rintro rv w1 ⟨rfl, hb⟩; have ns : max w.heap.size gl < w1.heap.size := hb.ltK; have n0 : w1.cell? ⟨w.heap.size, 0, none⟩ = some (.int .i64 e) := hb.cellK; have n1 : w1.cell? ⟨w.heap.size, 1, none⟩ = some (.int .i64 f) := hb.cellK; have n2 : w1.cell? ⟨gl, 0, none⟩ = some ((Value.iface (opT e f a) (opX e f a))) := hb.cellK; have n3 : w1.cell? ⟨gl, 1, none⟩ = some ((Value.iface (opT e f b) (opX e f b))) := hb.cellK; have n4 : w1.cell? ⟨gl, 2, none⟩ = some ((Value.iface (opT e f c) (opX e f c))) := hb.cellK; (first | (have nx := Ext.trans hx hb; clear hx) | (have nx := Ext.trans (hx.alloc _) hb; clear hx) | (have nx := Ext.trans hx.drew hb; clear hx) | have nx := hb); clear hb; try clear hs; try clear g0; try clear g1; try clear g2; try clear g3; try clear g4; have hx := nx; clear nx; have hs := ns; clear ns; have g0 := n0; clear n0; have g1 := n1; clear n1; have g2 := n2; clear n2; have g3 := n3; clear n3; have g4 := n4; clear n4) | (go_at_call 66; refine (OP2.out _).mono ?_; rintro rv w1 ⟨rfl, hb⟩; have ns : max w.heap.size gl < w1.heap.size := hb.ltK; have n0 : w1.cell? ⟨w.heap.size, 0, none⟩ = some (.int .i64 e) := hb.cellK; have n1 : w1.cell? ⟨w.heap.size, 1, none⟩ = some (.int .i64 f) := hb.cellK; have n2 : w1.cell? ⟨gl, 0, none⟩ = some ((Value.iface (opT e f a) (opX e f a))) := hb.cellK; have n3 : w1.cell? ⟨gl, 1, none⟩ = some ((Value.iface (opT e f b) (opX e f b))) := hb.cellK; have n4 : w1.cell? ⟨gl, 2, none⟩ = some ((Value.iface (opT e f c) (opX e f c))) := hb.cellK; (first | (have nx := Ext.trans hx hb; clear hx) | (have nx := Ext.trans (hx.alloc _) hb; clear hx) | (have nx := Ext.trans hx.drew hb; clear hx) | have nx := hb); clear hb; try clear hs; try clear g0; try clear g1; try clear g2; try clear g3; try clear g4; have hx := nx; clear nx; have hs := ns; clear ns; have g0 := n0; clear n0; have g1 := n1; clear n1; have g2 := n2; clear n2; have g3 := n3; clear n3; have g4 := n4; clear n4) | (go_at_call 226; refine (noRounded_any e f mode hg _).mono ?_; rintro rv w1 ⟨rfl, hb⟩; have ns : max w.heap.size gl < w1.heap.size := hb.ltK; have n0 : w1.cell? ⟨w.heap.size, 0, none⟩ = some (.int .i64 e) := hb.cellK; have n1 : w1.cell? ⟨w.heap.size, 1, none⟩ = some (.int .i64 f) := hb.cellK; have n2 : w1.cell? ⟨gl, 0, none⟩ = some ((Value.iface (opT e f a) (opX e f a))) := hb.cellK; have n3 : w1.cell? ⟨gl, 1, none⟩ = some ((Value.iface (opT e f b) (opX e f b))) := hb.cellK; have n4 : w1.cell? ⟨gl, 2, none⟩ = some ((Value.iface (opT e f c) (opX e f c))) := hb.cellK; (first | (have nx := Ext.trans hx hb; clear hx) | (have nx := Ext.trans (hx.alloc _) hb; clear hx) | (have nx := Ext.trans hx.drew hb; clear hx) | have nx := hb); clear hb; try clear hs; try clear g0; try clear g1; try clear g2; try clear g3; try clear g4; have hx := nx; clear nx; have hs := ns; clear ns; have g0 := n0; clear n0; have g1 := n1; clear n1; have g2 := n2; clear n2; have g3 := n3; clear n3; have g4 := n4; clear n4)))
  go_wp2_with fail
  go_ret2
  exact ⟨rfl, Ext.auK⟩

theorem iFusedOf_no (e f a b c mode : Int) (hg : fuB e f a b c mode = false) (w : World) (hT : TW w) : Calls Tryz.prog 39 #[fmt e f, .int .i64 a, .int .i64 b, .int .i64 c, .int .i64 mode] w fun rv w' => rv = .returned (.tuple #[.int .i64 0, .bool false]) ∧ Ext w w' := by
  cases hm : moB mode
  · have := trivial
    go_enter Tryz.func39, Tryz.ntmps39
    go_wp2_with (go_at_call 73; (with_reducible refine (operandsOf_mode e f mode _ hm _).mono ?_); rintro rv w1 ⟨rfl, hb⟩; have hx : Ext w w1 := Ext.trans Ext.auK hb; clear hb)
    go_ret2
    exact ⟨rfl, Ext.auK⟩
  · cases ha : patB e f a
    · have := trivial
      go_enter Tryz.func39, Tryz.ntmps39
      go_wp2_with (go_at_call 73; (with_reducible refine (operandsOf3_na e f mode a b c (w.heap.size + 1) hm ha _ (hT.ext Ext.auK) (by first | with_reducible assumption | (simp; done) | (simp [go_sem]; done)) (by first | with_reducible assumption | (simp; done) | (simp [go_sem]; done)) (by first | with_reducible assumption | (simp; done) | (simp [go_sem]; done)) (by simp; try omega)).mono ?_); rintro rv w1 ⟨rfl, hb⟩; have hx : Ext w w1 := Ext.trans Ext.auK hb; clear hb)
      go_ret2
      exact ⟨rfl, Ext.auK⟩
    · cases hb2 : patB e f b
      · have := trivial
        go_enter Tryz.func39, Tryz.ntmps39
        go_wp2_with (go_at_call 73; (with_reducible refine (operandsOf3_nb e f mode a b c (w.heap.size + 1) hm ha hb2 _ (hT.ext Ext.auK) (by first | with_reducible assumption | (simp; done) | (simp [go_sem]; done)) (by first | with_reducible assumption | (simp; done) | (simp [go_sem]; done)) (by first | with_reducible assumption | (simp; done) | (simp [go_sem]; done)) (by simp; try omega)).mono ?_); rintro rv w1 ⟨rfl, hb⟩; have hx : Ext w w1 := Ext.trans Ext.auK hb; clear hb)
        go_ret2
        exact ⟨rfl, Ext.auK⟩
      · have hc : patB e f c = false := by
          unfold fuB at hg
          rw [ab_iff.2 ⟨ha, hb2, mo_iff.1 hm⟩] at hg
          simpa using hg
        go_enter Tryz.func39, Tryz.ntmps39
        go_wp2_with (go_at_call 73; (with_reducible refine (operandsOf3_nc e f mode a b c (w.heap.size + 1) hm ha hb2 hc _ (hT.ext Ext.auK) (by first | with_reducible assumption | (simp; done) | (simp [go_sem]; done)) (by first | with_reducible assumption | (simp; done) | (simp [go_sem]; done)) (by first | with_reducible assumption | (simp; done) | (simp [go_sem]; done)) (by simp; try omega)).mono ?_); rintro rv w1 ⟨rfl, hb⟩; have hx : Ext w w1 := Ext.trans Ext.auK hb; clear hb)
        go_ret2
        exact ⟨rfl, Ext.auK⟩

theorem od_nz {e f p : Int} (hp : patB e f p = true) : ((odV (unitsV e f p)).natAbs : Int) = 0 ↔ unitsV e f p = 0 := by
  have ub := units_bd e f p hp
  have := (od_sign (S := unitsV e f p) (by omega) (by omega)).2
  omega

theorem xor_sw {e f a b : Int} (hap : patB e f a = true) (hbp : patB e f b = true) : bits .xor .i64 (b / pw (e + f)) (a / pw (e + f)) = (sxV e f a b) := by
  rw [(sx_xor hbp hap).1]
  unfold sxV
  rw [Int.add_comm]

/-- What the product of two operands is. -/
theorem times_cases (e f a b : Int) (hap : patB e f a = true) (hbp : patB e f b = true) :
    (tqP e f a b ∧ ∀ w, Calls Tryz.prog 70 #[(Value.iface (opT e f a) (opX e f a)), (Value.iface (opT e f b) (opX e f b))] w fun rv w' => rv = .returned (.iface 107 (.agg #[])) ∧ Ext w w') ∨
    (¬ tqP e f a b ∧ (kindV e f a = 3 ∨ kindV e f b = 3) ∧ ∀ w, Calls Tryz.prog 70 #[(Value.iface (opT e f a) (opX e f a)), (Value.iface (opT e f b) (opX e f b))] w fun rv w' => rv = .returned (.iface 104 (.agg #[.int .i64 (sxV e f a b)])) ∧ Ext w w') ∨
    (kindV e f a < 3 ∧ kindV e f b < 3 ∧ ∀ w, Calls Tryz.prog 70 #[(Value.iface (opT e f a) (opX e f a)), (Value.iface (opT e f b) (opX e f b))] w fun rv w' => rv = .returned (.iface 82 (.agg #[.int .i64 (sxV e f a b), .int .i64 (((odV (unitsV e f a)).natAbs : Int) * ((odV (unitsV e f b)).natAbs : Int)), .int .i64 ((shE (unitsV e f a) (unV e f)) + (shE (unitsV e f b) (unV e f)))])) ∧ Ext w w') := by
  have hx := (sx_xor hap hbp).1
  have hy := xor_sw hap hbp
  have za := od_nz hap
  have zb := od_nz hbp
  obtain ⟨ua1, ua2, ua3, ua4, ua5⟩ := un_small hap
  obtain ⟨ub1, ub2, ub3, ub4, ub5⟩ := un_small hbp
  have u1 := un_bd (pat_iff.1 hap).1
  have xa : unV e f ≤ (shE (unitsV e f a) (unV e f)) ∧ (shE (unitsV e f a) (unV e f)) ≤ unV e f + 42 := by
    by_cases h : (unitsV e f a) = 0
    · have := ua5 h; omega
    · have := ua4 h; omega
  have xb : unV e f ≤ (shE (unitsV e f b) (unV e f)) ∧ (shE (unitsV e f b) (unV e f)) ≤ unV e f + 42 := by
    by_cases h : (unitsV e f b) = 0
    · have := ub5 h; omega
    · have := ub4 h; omega
  have n0 : 0 ≤ (((odV (unitsV e f a)).natAbs : Int) * ((odV (unitsV e f b)).natAbs : Int)) ∧ (((odV (unitsV e f a)).natAbs : Int) * ((odV (unitsV e f b)).natAbs : Int)) ≤ 4194304 := by
    refine ⟨Int.mul_nonneg (by omega) (by omega), ?_⟩
    exact Int.mul_le_mul (c := 2048) (d := 2048) (by omega) (by omega) (by omega) (by omega)
  have kn : IntKind.i64.wrap (((odV (unitsV e f a)).natAbs : Int) * ((odV (unitsV e f b)).natAbs : Int)) = (((odV (unitsV e f a)).natAbs : Int) * ((odV (unitsV e f b)).natAbs : Int)) := IntWalk.i64_in _ (by omega)
  have kx : IntKind.i64.wrap ((shE (unitsV e f a) (unV e f)) + (shE (unitsV e f b) (unV e f))) = ((shE (unitsV e f a) (unV e f)) + (shE (unitsV e f b) (unV e f))) := IntWalk.i64_in _ (by omega)
  rcases kind_parts hap with ⟨ka, f1, g1⟩ | ⟨ka, f1, g1⟩ | ⟨ka, f1, w1⟩ | ⟨ka, f1, w1⟩ <;> rcases kind_parts hbp with ⟨kb, f2, g2⟩ | ⟨kb, f2, g2⟩ | ⟨kb, f2, w2⟩ | ⟨kb, f2, w2⟩
  · exact Or.inl ⟨by unfold tqP; omega, fun w => by rw [op_no f1 g1, op_no f2 g2]; exact times_nn _ rfl w⟩
  · exact Or.inl ⟨by unfold tqP; omega, fun w => by rw [op_no f1 g1, op_inf f2 g2]; exact times_ni _ _ rfl w⟩
  · exact Or.inl ⟨by unfold tqP; omega, fun w => by rw [op_no f1 g1, op_fin f2]; exact times_nf _ _ _ _ rfl w⟩
  · exact Or.inl ⟨by unfold tqP; omega, fun w => by rw [op_no f1 g1, op_fin f2]; exact times_nf _ _ _ _ rfl w⟩
  · exact Or.inl ⟨by unfold tqP; omega, fun w => by rw [op_inf f1 g1, op_no f2 g2]; exact times_in _ _ rfl w⟩
  · exact Or.inr (Or.inl ⟨by unfold tqP; omega, by omega, fun w => by rw [op_inf f1 g1, op_inf f2 g2]; exact times_ii _ _ _ hx w⟩)
  · exact Or.inl ⟨by unfold tqP; omega, fun w => by rw [op_inf f1 g1, op_fin f2]; exact times_if_t _ _ _ _ _ hx (zb.2 w2) w⟩
  · exact Or.inr (Or.inl ⟨by unfold tqP; omega, by omega, fun w => by rw [op_inf f1 g1, op_fin f2]; exact times_if_f _ _ _ _ _ hx (fun h => w2 (zb.1 h)) w⟩)
  · exact Or.inl ⟨by unfold tqP; omega, fun w => by rw [op_fin f1, op_no f2 g2]; exact times_fn _ _ _ _ rfl w⟩
  · exact Or.inl ⟨by unfold tqP; omega, fun w => by rw [op_fin f1, op_inf f2 g2]; exact times_fi_t _ _ _ _ _ hx (za.2 w1) hy w⟩
  · exact Or.inr (Or.inr ⟨by omega, by omega, fun w => by rw [op_fin f1, op_fin f2]; exact times_ff _ _ _ _ _ _ _ hx kn kx w⟩)
  · exact Or.inr (Or.inr ⟨by omega, by omega, fun w => by rw [op_fin f1, op_fin f2]; exact times_ff _ _ _ _ _ _ _ hx kn kx w⟩)
  · exact Or.inl ⟨by unfold tqP; omega, fun w => by rw [op_fin f1, op_no f2 g2]; exact times_fn _ _ _ _ rfl w⟩
  · exact Or.inr (Or.inl ⟨by unfold tqP; omega, by omega, fun w => by rw [op_fin f1, op_inf f2 g2]; exact times_fi_f _ _ _ _ _ hx (fun h => w1 (za.1 h)) hy w⟩)
  · exact Or.inr (Or.inr ⟨by omega, by omega, fun w => by rw [op_fin f1, op_fin f2]; exact times_ff _ _ _ _ _ _ _ hx kn kx w⟩)
  · exact Or.inr (Or.inr ⟨by omega, by omega, fun w => by rw [op_fin f1, op_fin f2]; exact times_ff _ _ _ _ _ _ _ hx kn kx w⟩)

/-- A sum with no number. -/
theorem plus_no_any (e f c mode : Int) (hcp : patB e f c = true) (w : World) : Calls Tryz.prog 66 #[fmt e f, .iface 107 (.agg #[]), (Value.iface (opT e f c) (opX e f c)), .int .i64 mode] w fun rv w' => rv = .returned (.iface 107 (.agg #[])) ∧ Ext w w' := by
  rcases kind_parts hcp with ⟨k, f1, g1⟩ | ⟨k, f1, g1⟩ | ⟨k, f1, _⟩ | ⟨k, f1, _⟩
  · rw [op_no f1 g1]; exact plus_nn e f mode w
  · rw [op_inf f1 g1]; exact plus_ni e f mode _ w
  · rw [op_fin f1]; exact plus_nf e f mode _ _ _ w
  · rw [op_fin f1]; exact plus_nf e f mode _ _ _ w

theorem iFused_no (e f a b c mode : Int) (hap : patB e f a = true) (hbp : patB e f b = true) (hcp : patB e f c = true) (m0 : 0 ≤ mode) (m1 : mode ≤ 5) (h : tqP e f a b) (op : ∀ w, Calls Tryz.prog 70 #[(Value.iface (opT e f a) (opX e f a)), (Value.iface (opT e f b) (opX e f b))] w fun rv w' => rv = .returned (.iface 107 (.agg #[])) ∧ Ext w w') (w : World) (hT : TW w) :
    Calls Tryz.prog 39 #[fmt e f, .int .i64 a, .int .i64 b, .int .i64 c, .int .i64 mode] w (ARboth (FuD e f a b c mode) w) := by
  refine (fusedG_no e f a b c mode _ _ hap hbp hcp m0 m1 op (fun w => plus_no_any e f c mode hcp w) w hT).mono ?_
  rintro rv w' ⟨rfl, hb⟩
  exact ⟨_, rfl, Or.inl ⟨by unfold fqP; unfold tqP at h; omega, rfl⟩, hb⟩

theorem iFused_inf (e f a b c mode : Int) (hap : patB e f a = true) (hbp : patB e f b = true) (hcp : patB e f c = true) (m0 : 0 ≤ mode) (m1 : mode ≤ 5) (h : ¬ tqP e f a b) (h2 : kindV e f a = 3 ∨ kindV e f b = 3) (op : ∀ w, Calls Tryz.prog 70 #[(Value.iface (opT e f a) (opX e f a)), (Value.iface (opT e f b) (opX e f b))] w fun rv w' => rv = .returned (.iface 104 (.agg #[.int .i64 (sxV e f a b)])) ∧ Ext w w') (w : World) (hT : TW w) :
    Calls Tryz.prog 39 #[fmt e f, .int .i64 a, .int .i64 b, .int .i64 c, .int .i64 mode] w (ARboth (FuD e f a b c mode) w) := by
  have sx := (sx_xor hap hbp).2
  have hnq : kindV e f a ≠ 4 ∧ kindV e f b ≠ 4 ∧ ¬ (kindV e f a = 3 ∧ kindV e f b = 0) ∧ ¬ (kindV e f a = 0 ∧ kindV e f b = 3) := by unfold tqP at h; omega
  rcases kind_parts hcp with ⟨k, f1, g1⟩ | ⟨k, f1, g1⟩ | ⟨k, f1, _⟩ | ⟨k, f1, _⟩
  · refine (fusedG_no e f a b c mode _ _ hap hbp hcp m0 m1 op (fun w => by rw [op_no f1 g1]; exact plus_in e f mode _ w) w hT).mono ?_
    rintro rv w' ⟨rfl, hb⟩
    exact ⟨_, rfl, Or.inl ⟨by unfold fqP; omega, rfl⟩, hb⟩
  · by_cases hs : (sxV e f a b) = (c / pw (e + f))
    · refine (fusedG_inf e f a b c mode _ _ _ hap hbp hcp m0 m1 sx op (fun w => by rw [op_inf f1 g1]; exact plus_ii_t e f mode _ _ hs w) w hT).mono ?_
      rintro rv w' ⟨rfl, hb⟩
      exact ⟨_, rfl, Or.inr (Or.inl ⟨by unfold fqP; omega, h2, rfl⟩), hb⟩
    · refine (fusedG_no e f a b c mode _ _ hap hbp hcp m0 m1 op (fun w => by rw [op_inf f1 g1]; exact plus_ii_f e f mode _ _ hs w) w hT).mono ?_
      rintro rv w' ⟨rfl, hb⟩
      exact ⟨_, rfl, Or.inl ⟨by unfold fqP; omega, rfl⟩, hb⟩
  · refine (fusedG_inf e f a b c mode _ _ _ hap hbp hcp m0 m1 sx op (fun w => by rw [op_fin f1]; exact plus_if e f mode _ _ _ _ w) w hT).mono ?_
    rintro rv w' ⟨rfl, hb⟩
    exact ⟨_, rfl, Or.inr (Or.inl ⟨by unfold fqP; omega, h2, rfl⟩), hb⟩
  · refine (fusedG_inf e f a b c mode _ _ _ hap hbp hcp m0 m1 sx op (fun w => by rw [op_fin f1]; exact plus_if e f mode _ _ _ _ w) w hT).mono ?_
    rintro rv w' ⟨rfl, hb⟩
    exact ⟨_, rfl, Or.inr (Or.inl ⟨by unfold fqP; omega, h2, rfl⟩), hb⟩

/-- A product that is finite, and a last operand that is not. -/
theorem iFused_fx (e f a b c mode : Int) (hap : patB e f a = true) (hbp : patB e f b = true) (hcp : patB e f c = true) (m0 : 0 ≤ mode) (m1 : mode ≤ 5) (ka : kindV e f a < 3) (kb : kindV e f b < 3) (hc : ¬ kindV e f c < 3) (op : ∀ w, Calls Tryz.prog 70 #[(Value.iface (opT e f a) (opX e f a)), (Value.iface (opT e f b) (opX e f b))] w fun rv w' => rv = .returned (.iface 82 (.agg #[.int .i64 (sxV e f a b), .int .i64 (((odV (unitsV e f a)).natAbs : Int) * ((odV (unitsV e f b)).natAbs : Int)), .int .i64 ((shE (unitsV e f a) (unV e f)) + (shE (unitsV e f b) (unV e f)))])) ∧ Ext w w') (w : World) (hT : TW w) :
    Calls Tryz.prog 39 #[fmt e f, .int .i64 a, .int .i64 b, .int .i64 c, .int .i64 mode] w (ARboth (FuD e f a b c mode) w) := by
  rcases kind_parts hcp with ⟨k, f1, g1⟩ | ⟨k, f1, g1⟩ | ⟨k, f1, _⟩ | ⟨k, f1, _⟩
  · refine (fusedG_no e f a b c mode _ _ hap hbp hcp m0 m1 op (fun w => by rw [op_no f1 g1]; exact plus_fn e f mode _ _ _ w) w hT).mono ?_
    rintro rv w' ⟨rfl, hb⟩
    exact ⟨_, rfl, Or.inl ⟨by unfold fqP; omega, rfl⟩, hb⟩
  · refine (fusedG_inf e f a b c mode _ _ _ hap hbp hcp m0 m1 (sign_01 hcp) op (fun w => by rw [op_inf f1 g1]; exact plus_fi e f mode _ _ _ _ w) w hT).mono ?_
    rintro rv w' ⟨rfl, hb⟩
    exact ⟨_, rfl, Or.inr (Or.inr (Or.inl ⟨by unfold fqP; omega, by omega, by omega, k, inf_form hcp k⟩)), hb⟩
  · omega
  · omega
end Go.Proofs.YtfgbndjhaiigbaaGreatDoor

namespace Go.Proofs.YtfgbndjhaiigbaaGreatDoor
open Go Go.RowKit
set_option linter.unusedSimpArgs false
set_option linter.unusedVariables false
set_option maxRecDepth 100000

theorem fplus_all (e f p1 q1 r1 p2 q2 r2 mode A B z1 z2 z3 : Int) (hG : goodB e f = true)
    (QX : ∀ w, Calls Tryz.prog 149 #[.agg #[.int .i64 p1, .int .i64 q1, .int .i64 r1], fmt e f] w fun rv w' => rv = .returned (.int .i64 A) ∧ Ext w w') (QY : ∀ w, Calls Tryz.prog 149 #[.agg #[.int .i64 p2, .int .i64 q2, .int .i64 r2], fmt e f] w fun rv w' => rv = .returned (.int .i64 B) ∧ Ext w w')
    (ks : IntKind.i64.wrap (A + B) = A + B) (FO : ∀ w, Calls Tryz.prog 148 #[.int .i64 (A + B), .int .i64 (unV e f - 2), .int .i64 (if p1 = p2 then p1 else if mode = 4 then 1 else 0)] w fun rv w' => rv = .returned (.agg #[.int .i64 z1, .int .i64 z2, .int .i64 z3]) ∧ Ext w w') (w : World) :
    Calls Tryz.prog 113 #[.agg #[.int .i64 p1, .int .i64 q1, .int .i64 r1], fmt e f, .agg #[.int .i64 p2, .int .i64 q2, .int .i64 r2], .int .i64 mode] w fun rv w' => rv = .returned (.agg #[.int .i64 z1, .int .i64 z2, .int .i64 z3]) ∧ Ext w w' := by
  by_cases h : p1 = p2
  · subst h
    rw [if_pos rfl] at FO
    exact fplus_s e f _ _ _ _ _ mode _ _ z1 z2 z3 hG QX QY ks FO w
  · rw [if_neg h] at FO
    by_cases h2 : mode = 4
    · rw [if_pos h2] at FO
      exact fplus_d e f _ _ _ _ _ _ mode _ _ z1 z2 z3 hG h h2 QX QY ks FO w
    · rw [if_neg h2] at FO
      exact fplus_o e f _ _ _ _ _ _ mode _ _ z1 z2 z3 hG h h2 QX QY ks FO w

/-- The sum behind a finite product, by how many quarters this has. -/
theorem iFused_ff (e f a b c mode Q z1 z2 z3 : Int) (hap : patB e f a = true) (hbp : patB e f b = true) (hcp : patB e f c = true) (m0 : 0 ≤ mode) (m1 : mode ≤ 5) (fc : finB e f c = true) (op : ∀ w, Calls Tryz.prog 70 #[(Value.iface (opT e f a) (opX e f a)), (Value.iface (opT e f b) (opX e f b))] w fun rv w' => rv = .returned (.iface 82 (.agg #[.int .i64 (sxV e f a b), .int .i64 (((odV (unitsV e f a)).natAbs : Int) * ((odV (unitsV e f b)).natAbs : Int)), .int .i64 ((shE (unitsV e f a) (unV e f)) + (shE (unitsV e f b) (unV e f)))])) ∧ Ext w w')
    (QX : ∀ w, Calls Tryz.prog 149 #[.agg #[.int .i64 (sxV e f a b), .int .i64 (((odV (unitsV e f a)).natAbs : Int) * ((odV (unitsV e f b)).natAbs : Int)), .int .i64 ((shE (unitsV e f a) (unV e f)) + (shE (unitsV e f b) (unV e f)))], fmt e f] w fun rv w' => rv = .returned (.int .i64 Q) ∧ Ext w w') (q0 : -1152921504606846976 < Q) (q1 : Q < 1152921504606846976)
    (H : z1 = 0 ∨ z1 = 1) (v0 : 0 ≤ z2) (v1 : z2 < 4611686018427387904) (k0 : -149 ≤ z3 - unV e f) (k1 : z3 - unV e f ≤ 149)
    (FO : ∀ w, Calls Tryz.prog 148 #[.int .i64 (Q + 4 * (unitsV e f c)), .int .i64 (unV e f - 2), .int .i64 (if (sxV e f a b) = (c / pw (e + f)) then (sxV e f a b) else if mode = 4 then 1 else 0)] w fun rv w' => rv = .returned (.agg #[.int .i64 z1, .int .i64 z2, .int .i64 z3]) ∧ Ext w w') (w : World) (hT : TW w) :
    Calls Tryz.prog 39 #[fmt e f, .int .i64 a, .int .i64 b, .int .i64 c, .int .i64 mode] w (OTout e f z1 z2 (z3 - unV e f) mode w) := by
  have hG := (pat_iff.1 hap).1
  have cb := units_bd e f c hcp
  have ks : IntKind.i64.wrap (Q + 4 * (unitsV e f c)) = Q + 4 * (unitsV e f c) := IntWalk.i64_in _ (by omega)
  have QY := fun w => quarters_op e f c hcp w
  refine fusedG_fin e f a b c mode _ _ _ _ _ hap hbp hcp m0 m1 H v0 v1 k0 k1 op (fun w => ?_) w hT
  rw [op_fin fc]
  exact plus_ff e f _ _ _ _ _ _ mode _ _ _ (fun w => fplus_all e f _ _ _ _ _ _ mode _ _ z1 z2 z3 hG QX QY ks FO w) w

/-- FusedOf by the sign of the sum in quarters. -/
theorem iFused_q (e f a b c mode Q : Int) (hap : patB e f a = true) (hbp : patB e f b = true) (hcp : patB e f c = true) (m0 : 0 ≤ mode) (m1 : mode ≤ 5) (fc : finB e f c = true) (op : ∀ w, Calls Tryz.prog 70 #[(Value.iface (opT e f a) (opX e f a)), (Value.iface (opT e f b) (opX e f b))] w fun rv w' => rv = .returned (.iface 82 (.agg #[.int .i64 (sxV e f a b), .int .i64 (((odV (unitsV e f a)).natAbs : Int) * ((odV (unitsV e f b)).natAbs : Int)), .int .i64 ((shE (unitsV e f a) (unV e f)) + (shE (unitsV e f b) (unV e f)))])) ∧ Ext w w')
    (QX : ∀ w, Calls Tryz.prog 149 #[.agg #[.int .i64 (sxV e f a b), .int .i64 (((odV (unitsV e f a)).natAbs : Int) * ((odV (unitsV e f b)).natAbs : Int)), .int .i64 ((shE (unitsV e f a) (unV e f)) + (shE (unitsV e f b) (unV e f)))], fmt e f] w fun rv w' => rv = .returned (.int .i64 Q) ∧ Ext w w') (q0 : -1152921504606846976 < Q) (q1 : Q < 1152921504606846976) (w : World) (hT : TW w) :
    Calls Tryz.prog 39 #[fmt e f, .int .i64 a, .int .i64 b, .int .i64 c, .int .i64 mode] w fun rv w' => ∃ r, rv = .returned (.tuple #[.int .i64 r, .bool true]) ∧ ((Q + 4 * (unitsV e f c) = 0 ∧ r = (if (sxV e f a b) = (c / pw (e + f)) then (sxV e f a b) else if mode = 4 then 1 else 0) * pw (e + f)) ∨ (Q + 4 * (unitsV e f c) ≠ 0 ∧ ∃ s, r = (if Q + 4 * (unitsV e f c) < 0 then pw (e + f) + s else s) ∧ RndD e f ((Q + 4 * (unitsV e f c)).natAbs : Int) (-2) mode (decide (Q + 4 * (unitsV e f c) < 0)) s)) ∧ Ext w w' := by
  have hG := (pat_iff.1 hap).1
  have cb := units_bd e f c hcp
  have u1 := un_bd hG
  have sx := (sx_xor hap hbp).2
  rcases Int.lt_trichotomy (Q + 4 * (unitsV e f c)) 0 with g | g | g
  · refine (iFused_ff e f a b c mode Q 1 _ _ hap hbp hcp m0 m1 fc op QX q0 q1 (Or.inr rfl) (by omega) (by omega) (by omega) (by omega) (fun w => finiteOf_n _ _ _ g (IntWalk.i64_in _ (by omega)) w) w hT).mono ?_
    rintro rv w' ⟨s, rfl, hq, hb⟩
    rw [show unV e f - 2 - unV e f = -2 by omega] at hq
    refine ⟨_, rfl, Or.inr ⟨by omega, s, ?_, ?_⟩, hb⟩
    · rw [if_pos g]; omega
    · rw [decide_eq_true g, show ((Q + 4 * (unitsV e f c)).natAbs : Int) = -(Q + 4 * (unitsV e f c)) by omega]
      exact hq
  · refine (iFused_ff e f a b c mode Q (if (sxV e f a b) = (c / pw (e + f)) then (sxV e f a b) else if mode = 4 then 1 else 0) 0 0 hap hbp hcp m0 m1 fc op QX q0 q1 (by split; exact sx; split; exact Or.inr rfl; exact Or.inl rfl) (by omega) (by omega) (by omega) (by omega) (fun w => finiteOf_z _ _ _ g w) w hT).mono ?_
    rintro rv w' ⟨s, rfl, hq, hb⟩
    have := pls_zero hG hq
    subst this
    exact ⟨_, rfl, Or.inl ⟨g, by rw [Int.zero_add]⟩, hb⟩
  · refine (iFused_ff e f a b c mode Q 0 _ _ hap hbp hcp m0 m1 fc op QX q0 q1 (Or.inl rfl) (by omega) (by omega) (by omega) (by omega) (fun w => finiteOf_p _ _ _ g w) w hT).mono ?_
    rintro rv w' ⟨s, rfl, hq, hb⟩
    rw [show unV e f - 2 - unV e f = -2 by omega] at hq
    refine ⟨_, rfl, Or.inr ⟨by omega, s, ?_, ?_⟩, hb⟩
    · rw [if_neg (by omega)]; omega
    · rw [decide_eq_false (show ¬ Q + 4 * (unitsV e f c) < 0 by omega), show ((Q + 4 * (unitsV e f c)).natAbs : Int) = Q + 4 * (unitsV e f c) by omega]
      exact hq

theorem zero_pat {e f x : Int} (hg : goodB e f = true) (hx : x = 0 ∨ x = 1) : patB e f (x * pw (e + f)) = true ∧ x * pw (e + f) / pw (e + f) = x ∧ kindV e f (x * pw (e + f)) = 0 ∧ unitsV e f (x * pw (e + f)) = 0 := by
  have q := pw_pos (e + f)
  have c := pw_pos f
  obtain ⟨h1, h2, h3, h4⟩ := good_iff.1 hg
  have hd : pw (e + f) = pw e * pw f := pw_add e f (by omega) (by omega)
  have e0 := (pw_facts h1 h2 h3 h4).2.1.1
  have hp : patB e f (x * pw (e + f)) = true := by
    refine pat_iff.2 ⟨hg, ?_, ?_⟩
    · rcases hx with h | h <;> rw [h] <;> omega
    · rcases hx with h | h <;> rw [h] <;> omega
  have m1 : x * pw (e + f) % pw (e + f) = 0 := Int.mul_emod_left _ _
  have m2 : x * pw (e + f) % pw f = 0 := by rw [hd, ← Int.mul_assoc]; exact Int.mul_emod_left _ _
  have hk : kindV e f (x * pw (e + f)) = 0 := by
    unfold kindV
    rw [m1, m2, show (0 : Int) / pw f = 0 by simp]
    rw [if_neg (by simp; omega), if_neg (by omega), if_neg (by omega)]
  exact ⟨hp, Int.mul_ediv_cancel _ (by omega), hk, (kind_units hp).1 hk⟩

theorem iFused_zf (e f a b c mode : Int) (hap : patB e f a = true) (hbp : patB e f b = true) (hcp : patB e f c = true) (m0 : 0 ≤ mode) (m1 : mode ≤ 5) (ka : kindV e f a < 3) (kb : kindV e f b < 3) (hz : kindV e f a = 0 ∨ kindV e f b = 0) (kc : kindV e f c < 3) (fc : finB e f c = true)
    (op : ∀ w, Calls Tryz.prog 70 #[(Value.iface (opT e f a) (opX e f a)), (Value.iface (opT e f b) (opX e f b))] w fun rv w' => rv = .returned (.iface 82 (.agg #[.int .i64 (sxV e f a b), .int .i64 (((odV (unitsV e f a)).natAbs : Int) * ((odV (unitsV e f b)).natAbs : Int)), .int .i64 ((shE (unitsV e f a) (unV e f)) + (shE (unitsV e f b) (unV e f)))])) ∧ Ext w w') (w : World) (hT : TW w) : Calls Tryz.prog 39 #[fmt e f, .int .i64 a, .int .i64 b, .int .i64 c, .int .i64 mode] w (ARboth (FuD e f a b c mode) w) := by
  have hG := (pat_iff.1 hap).1
  have u1 := un_bd hG
  have sx := (sx_xor hap hbp).2
  obtain ⟨zp, zs, zk, zu⟩ := zero_pat hG sx
  obtain ⟨ua1, ua2, ua3, ua4, ua5⟩ := un_small hap
  obtain ⟨ub1, ub2, ub3, ub4, ub5⟩ := un_small hbp
  have za := od_nz hap
  have zb := od_nz hbp
  have n0 : (((odV (unitsV e f a)).natAbs : Int) * ((odV (unitsV e f b)).natAbs : Int)) = 0 := by
    rcases hz with h | h
    · rw [za.2 ((kind_units hap).1 h), Int.zero_mul]
    · rw [zb.2 ((kind_units hbp).1 h), Int.mul_zero]
  have xx : (unV e f) - 2 ≤ ((shE (unitsV e f a) (unV e f)) + (shE (unitsV e f b) (unV e f))) ∧ ((shE (unitsV e f a) (unV e f)) + (shE (unitsV e f b) (unV e f))) ≤ (unV e f) + 58 := by
    by_cases h : (unitsV e f a) = 0
    · have := ua5 h
      by_cases g : (unitsV e f b) = 0
      · have := ub5 g; omega
      · have := ub4 g; omega
    · have := ua4 h
      have : (unitsV e f b) = 0 := by
        rcases hz with g | g
        · exact absurd ((kind_units hap).1 g) h
        · exact (kind_units hbp).1 g
      have := ub5 this
      omega
  have QX : ∀ w, Calls Tryz.prog 149 #[.agg #[.int .i64 (sxV e f a b), .int .i64 (((odV (unitsV e f a)).natAbs : Int) * ((odV (unitsV e f b)).natAbs : Int)), .int .i64 ((shE (unitsV e f a) (unV e f)) + (shE (unitsV e f b) (unV e f)))], fmt e f] w fun rv w' => rv = .returned (.int .i64 0) ∧ Ext w w' := by
    intro w
    rw [n0]
    rcases sx with h | h
    · rw [h]
      have := quarters_p0 e f 0 ((shE (unitsV e f a) (unV e f)) + (shE (unitsV e f b) (unV e f))) hG (by omega) xx.1 xx.2 (by rw [Int.zero_mul]; omega) w
      rwa [Int.zero_mul, oq_zero] at this
    · rw [h]
      have := quarters_p1 e f 0 ((shE (unitsV e f a) (unV e f)) + (shE (unitsV e f b) (unV e f))) hG (by omega) xx.1 xx.2 (by rw [Int.zero_mul]; omega) w
      rwa [Int.zero_mul, oq_zero, Int.neg_zero] at this
  refine (iFused_q e f a b c mode 0 hap hbp hcp m0 m1 fc op QX (by omega) (by omega) w hT).mono ?_
  rintro rv w' ⟨r, rfl, hr, hb⟩
  refine ⟨r, rfl, Or.inr (Or.inr (Or.inr (Or.inl ⟨by unfold fqP; omega, by omega, by omega, by omega, hz, ?_⟩))), hb⟩
  unfold PlD
  rw [zu, zk]
  rw [Int.zero_add] at hr ⊢
  rcases hr with ⟨h, h2⟩ | ⟨h, s, h2, h3⟩
  · refine Or.inr (Or.inr (Or.inr (Or.inl ⟨by omega, kc, by omega, ?_⟩)))
    rw [h2]
    unfold zsV
    rw [zs]
  · refine Or.inr (Or.inr (Or.inr (Or.inr ⟨by omega, kc, by omega, s, ?_, ?_⟩)))
    · rw [h2]
      unfold sgP
      by_cases g : (unitsV e f c) < 0
      · rw [if_pos g, if_pos (by omega)]
      · rw [if_neg g, if_neg (by omega)]
    · have e1 : ((4 * (unitsV e f c)).natAbs : Int) = 4 * (((unitsV e f c)).natAbs : Int) := by omega
      have e2 : decide (4 * (unitsV e f c) < 0) = decide ((unitsV e f c) < 0) := by rw [decide_eq_decide]; omega
      rw [e1, e2] at h3
      exact rnd_four h3
end Go.Proofs.YtfgbndjhaiigbaaGreatDoor

namespace Go.Proofs.YtfgbndjhaiigbaaGreatDoor
open Go Go.RowKit
set_option linter.unusedSimpArgs false
set_option linter.unusedVariables false
set_option maxRecDepth 100000

/-- A size is less than a power. -/
theorem un_pow {e f p : Int} (h : finB e f p = true) : ((unitsV e f p).natAbs : Int) < pw (f + pw e - 2) := by
  obtain ⟨hp, hx⟩ := fin_pat h
  obtain ⟨hg, p0, p1⟩ := pat_iff.1 hp
  obtain ⟨h1, h2, h3, h4⟩ := good_iff.1 hg
  obtain ⟨⟨a1, a2⟩, ⟨b1, b2⟩, ⟨c1, c2⟩, hmul⟩ := pw_facts h1 h2 h3 h4
  have hm : magV e f p < pw (f + pw e - 2) := by
    unfold magV
    have r1 := Int.emod_lt_of_pos p (show 0 < pw f by omega)
    have r0 := Int.emod_nonneg p (show pw f ≠ 0 by omega)
    have e1 : pw (f + pw e - 2) = 2 * pw f * pw (pw e - 3) := by
      rw [show f + pw e - 2 = f + 1 + (pw e - 3) by omega, pw_add (f + 1) _ (by omega) (by omega), pw_succ f (by omega)]
    have q3 := pw_pos (pw e - 3)
    rw [e1]
    split
    · have m := pw_mono (a := p % pw (e + f) / pw f - 1) (b := pw e - 3) (by omega)
      have q := pw_pos (p % pw (e + f) / pw f - 1)
      have s1 : (p % pw f + pw f) * pw (p % pw (e + f) / pw f - 1) ≤ (p % pw f + pw f) * pw (pw e - 3) := Int.mul_le_mul_of_nonneg_left m (by omega)
      have s2 : (p % pw f + pw f) * pw (pw e - 3) < 2 * pw f * pw (pw e - 3) := Int.mul_lt_mul_of_pos_right (by omega) (by omega)
      omega
    · have s2 := Int.mul_le_mul_of_nonneg_left (show (1 : Int) ≤ pw (pw e - 3) by omega) (show (0 : Int) ≤ 2 * pw f by omega)
      omega
  have hb := mag_bd e f p hp
  unfold unitsV
  split <;> omega

/-- The product in quarters, cut to an odd number where something is left. -/
def quV2 (e f a b : Int) : Int := if (unV e f) - 2 ≤ ((shE (unitsV e f a) (unV e f)) + (shE (unitsV e f b) (unV e f))) then oqV ((odV (unitsV e f a) * odV (unitsV e f b)) * pw (((shE (unitsV e f a) (unV e f)) + (shE (unitsV e f b) (unV e f))) - ((unV e f) - 2))) 2 else oqV (odV (unitsV e f a) * odV (unitsV e f b)) (2 * pw ((unV e f) - 2 - ((shE (unitsV e f a) (unV e f)) + (shE (unitsV e f b) (unV e f)))))

theorem sc_neg2 {e f a : Int} (hap : patB e f a = true) (na : (unitsV e f a) ≠ 0) : decide (odV (unitsV e f a) < 0) = (a / pw (e + f) == 1) := by
  have ub := units_bd e f a hap
  have os := od_sign (S := (unitsV e f a)) (by omega) (by omega)
  rw [← (sg_units (P := 0) (s := 0) hap na).2, decide_eq_decide]
  exact os.1

theorem pn_sign {e f a b : Int} (hap : patB e f a = true) (hbp : patB e f b = true) (na : (unitsV e f a) ≠ 0) (nb : (unitsV e f b) ≠ 0) : ((sxV e f a b) = 1 ∧ (odV (unitsV e f a) * odV (unitsV e f b)) < 0 ∧ (((odV (unitsV e f a)).natAbs : Int) * ((odV (unitsV e f b)).natAbs : Int)) = -(odV (unitsV e f a) * odV (unitsV e f b))) ∨ ((sxV e f a b) = 0 ∧ 0 < (odV (unitsV e f a) * odV (unitsV e f b)) ∧ (((odV (unitsV e f a)).natAbs : Int) * ((odV (unitsV e f b)).natAbs : Int)) = (odV (unitsV e f a) * odV (unitsV e f b))) := by
  have ba := units_bd e f a hap
  have bb := units_bd e f b hbp
  have oa := od_sign (S := (unitsV e f a)) (by omega) (by omega)
  have ob := od_sign (S := (unitsV e f b)) (by omega) (by omega)
  have sa := sc_neg2 hap na
  have sb := sc_neg2 hbp nb
  have ga := sign_01 hap
  have gb := sign_01 hbp
  have e1 : (((odV (unitsV e f a)).natAbs : Int) * ((odV (unitsV e f b)).natAbs : Int)) = (((odV (unitsV e f a) * odV (unitsV e f b))).natAbs : Int) := by rw [Int.natAbs_mul, Int.natCast_mul]
  rw [e1]
  unfold sxV
  have za : odV (unitsV e f a) ≠ 0 := fun h => na (oa.2.1 h)
  have zb : odV (unitsV e f b) ≠ 0 := fun h => nb (ob.2.1 h)
  rcases ga with g | g <;> rcases gb with h | h <;> rw [g] at sa <;> rw [h] at sb <;> simp at sa sb <;> rw [g, h]
  · have := Int.mul_pos (show 0 < odV (unitsV e f a) by omega) (show 0 < odV (unitsV e f b) by omega)
    right; refine ⟨rfl, this, by omega⟩
  · have := Int.mul_neg_of_pos_of_neg (show 0 < odV (unitsV e f a) by omega) sb
    left; refine ⟨rfl, this, by omega⟩
  · have := Int.mul_neg_of_neg_of_pos sa (show 0 < odV (unitsV e f b) by omega)
    left; refine ⟨rfl, this, by omega⟩
  · have := Int.mul_pos_of_neg_of_neg sa sb
    right; refine ⟨rfl, this, by omega⟩

theorem pn_bound {e f a b : Int} (fa : finB e f a = true) (fb : finB e f b = true) (na : (unitsV e f a) ≠ 0) (nb : (unitsV e f b) ≠ 0) (hx : (unV e f) - 2 ≤ ((shE (unitsV e f a) (unV e f)) + (shE (unitsV e f b) (unV e f)))) : (((odV (unitsV e f a)).natAbs : Int) * ((odV (unitsV e f b)).natAbs : Int)) * pw (((shE (unitsV e f a) (unV e f)) + (shE (unitsV e f b) (unV e f))) - ((unV e f) - 2)) < pw 58 ∧ ((shE (unitsV e f a) (unV e f)) + (shE (unitsV e f b) (unV e f))) ≤ (unV e f) + 58 := by
  have hap := (fin_pat fa).1
  have hbp := (fin_pat fb).1
  have hG := (pat_iff.1 hap).1
  obtain ⟨h1, h2, h3, h4⟩ := good_iff.1 hG
  obtain ⟨_, ⟨b1, b2⟩, ⟨c1, c2⟩, _⟩ := pw_facts h1 h2 h3 h4
  have u1 := un_bd hG
  have pa := un_pow fa
  have pb := un_pow fb
  have qa := qu_val hap
  have qb := qu_val hbp
  obtain ⟨_, _, _, ua4, _⟩ := un_small hap
  obtain ⟨_, _, _, ub4, _⟩ := un_small hbp
  have ua := ua4 na
  have ub := ub4 nb
  have za := od_nz hap
  have zb := od_nz hbp
  have n1 : 1 ≤ (((odV (unitsV e f a)).natAbs : Int) * ((odV (unitsV e f b)).natAbs : Int)) := by
    have : 0 < (((odV (unitsV e f a)).natAbs : Int) * ((odV (unitsV e f b)).natAbs : Int)) := Int.mul_pos (by omega) (by omega)
    omega
  have e2 : pw e = 2 * pw (e - 1) := by
    have := pw_succ (e - 1) (by omega)
    rwa [show e - 1 + 1 = e by omega] at this
  have uv : (unV e f) = 2 - pw (e - 1) - f := by unfold unV; omega
  obtain ⟨D, hD⟩ : ∃ D, ((shE (unitsV e f a) (unV e f)) + (shE (unitsV e f b) (unV e f))) - ((unV e f) - 2) = D := ⟨_, rfl⟩
  rw [hD]
  have key : (((odV (unitsV e f a)).natAbs : Int) * ((odV (unitsV e f b)).natAbs : Int)) * pw D * pw (2 - (unV e f)) = 16 * ((((unitsV e f a)).natAbs : Int) * (((unitsV e f b)).natAbs : Int)) := by
    rw [Int.mul_assoc, ← pw_add _ _ (by omega) (by omega), show D + (2 - (unV e f)) = ((shE (unitsV e f a) (unV e f)) - ((unV e f) - 2)) + ((shE (unitsV e f b) (unV e f)) - ((unV e f) - 2)) by omega, pw_add _ _ (by omega) (by omega)]
    rw [show (((odV (unitsV e f a)).natAbs : Int) * ((odV (unitsV e f b)).natAbs : Int)) * (pw ((shE (unitsV e f a) (unV e f)) - ((unV e f) - 2)) * pw ((shE (unitsV e f b) (unV e f)) - ((unV e f) - 2))) = (((odV (unitsV e f a)).natAbs : Int) * pw ((shE (unitsV e f a) (unV e f)) - ((unV e f) - 2))) * (((odV (unitsV e f b)).natAbs : Int) * pw ((shE (unitsV e f b) (unV e f)) - ((unV e f) - 2))) by
      rw [Int.mul_assoc, Int.mul_assoc]; congr 1; rw [← Int.mul_assoc, ← Int.mul_assoc, Int.mul_comm ((odV (unitsV e f b)).natAbs : Int)], qa, qb]
    rw [Int.mul_assoc, ← Int.mul_assoc _ 4, Int.mul_comm _ 4, ← Int.mul_assoc, ← Int.mul_assoc, Int.mul_assoc]
    rfl
  have kp := pw_pos (f + pw e - 2)
  have q2 := pw_pos (2 - (unV e f))
  have b3 : (((unitsV e f a)).natAbs : Int) * (((unitsV e f b)).natAbs : Int) < pw (f + pw e - 2) * pw (f + pw e - 2) := by
    have s1 := Int.mul_le_mul_of_nonneg_left (show (((unitsV e f b)).natAbs : Int) ≤ pw (f + pw e - 2) by omega) (show (0 : Int) ≤ (((unitsV e f a)).natAbs : Int) by omega)
    have s2 := Int.mul_lt_mul_of_pos_right pa (show 0 < pw (f + pw e - 2) by omega)
    omega
  rw [← pw_add _ _ (by omega) (by omega)] at b3
  have b4 : 16 * pw (f + pw e - 2 + (f + pw e - 2)) ≤ pw 58 * pw (2 - (unV e f)) := by
    rw [show (16 : Int) = pw 4 from rfl, ← pw_add _ _ (by omega) (by omega), ← pw_add _ _ (by omega) (by omega)]
    exact pw_mono (by omega)
  have b5 : (((odV (unitsV e f a)).natAbs : Int) * ((odV (unitsV e f b)).natAbs : Int)) * pw D < pw 58 := by
    apply Int.lt_of_not_ge
    intro g
    have := Int.mul_le_mul_of_nonneg_right g (show 0 ≤ pw (2 - (unV e f)) by omega)
    omega
  refine ⟨b5, ?_⟩
  apply Int.le_of_not_gt
  intro g
  have s1 := pw_mono (a := 58) (b := D) (by omega)
  have qd := pw_pos D
  have s2 := Int.mul_le_mul_of_nonneg_right n1 (show 0 ≤ pw D by omega)
  omega

theorem QX_nz (e f a b : Int) (fa : finB e f a = true) (fb : finB e f b = true) (na : (unitsV e f a) ≠ 0) (nb : (unitsV e f b) ≠ 0) :
    (∀ w, Calls Tryz.prog 149 #[.agg #[.int .i64 (sxV e f a b), .int .i64 (((odV (unitsV e f a)).natAbs : Int) * ((odV (unitsV e f b)).natAbs : Int)), .int .i64 ((shE (unitsV e f a) (unV e f)) + (shE (unitsV e f b) (unV e f)))], fmt e f] w fun rv w' => rv = .returned (.int .i64 (quV2 e f a b)) ∧ Ext w w') ∧ -1152921504606846976 < (quV2 e f a b) ∧ (quV2 e f a b) < 1152921504606846976 := by
  have hap := (fin_pat fa).1
  have hbp := (fin_pat fb).1
  have hG := (pat_iff.1 hap).1
  have u1 := un_bd hG
  obtain ⟨pr1, pr2⟩ := pr_small hap hbp
  obtain ⟨_, _, ua3, ua4, _⟩ := un_small hap
  obtain ⟨_, _, ub3, ub4, _⟩ := un_small hbp
  have ua := ua4 na
  have ub := ub4 nb
  have ps := pn_sign hap hbp na nb
  have n0 : 0 ≤ (((odV (unitsV e f a)).natAbs : Int) * ((odV (unitsV e f b)).natAbs : Int)) := by omega
  have p58 : pw 58 = 288230376151711744 := by decide
  unfold quV2
  by_cases hx : (unV e f) - 2 ≤ ((shE (unitsV e f a) (unV e f)) + (shE (unitsV e f b) (unV e f)))
  · rw [if_pos hx]
    obtain ⟨b1, b2⟩ := pn_bound fa fb na nb hx
    have qp := pw_pos (((shE (unitsV e f a) (unV e f)) + (shE (unitsV e f b) (unV e f))) - ((unV e f) - 2))
    have nn0 : 0 ≤ (((odV (unitsV e f a)).natAbs : Int) * ((odV (unitsV e f b)).natAbs : Int)) * pw (((shE (unitsV e f a) (unV e f)) + (shE (unitsV e f b) (unV e f))) - ((unV e f) - 2)) := Int.mul_nonneg n0 (by omega)
    rcases ps with ⟨h, s, n⟩ | ⟨h, s, n⟩
    · rw [show (odV (unitsV e f a) * odV (unitsV e f b)) = -(((odV (unitsV e f a)).natAbs : Int) * ((odV (unitsV e f b)).natAbs : Int)) by omega, Int.neg_mul, oq_neg, oq_twos]
      refine ⟨fun w => ?_, by omega, by omega⟩
      have := quarters_p1 e f (((odV (unitsV e f a)).natAbs : Int) * ((odV (unitsV e f b)).natAbs : Int)) ((shE (unitsV e f a) (unV e f)) + (shE (unitsV e f b) (unV e f))) hG n0 hx b2 (by omega) w
      rw [oq_twos] at this
      rw [h]
      exact this
    · rw [show (odV (unitsV e f a) * odV (unitsV e f b)) = (((odV (unitsV e f a)).natAbs : Int) * ((odV (unitsV e f b)).natAbs : Int)) by omega, oq_twos]
      refine ⟨fun w => ?_, by omega, by omega⟩
      have := quarters_p0 e f (((odV (unitsV e f a)).natAbs : Int) * ((odV (unitsV e f b)).natAbs : Int)) ((shE (unitsV e f a) (unV e f)) + (shE (unitsV e f b) (unV e f))) hG n0 hx b2 (by omega) w
      rw [oq_twos] at this
      rw [h]
      exact this
  · rw [if_neg hx]
    have qp := pw_pos ((unV e f) - 2 - ((shE (unitsV e f a) (unV e f)) + (shE (unitsV e f b) (unV e f))))
    have ob := oq_bd (n := (odV (unitsV e f a) * odV (unitsV e f b))) (d := 2 * pw ((unV e f) - 2 - ((shE (unitsV e f a) (unV e f)) + (shE (unitsV e f b) (unV e f))))) (b := 4194304) (by omega) (by omega) (by omega)
    refine ⟨fun w => ?_, by omega, by omega⟩
    rcases ps with ⟨h, s, n⟩ | ⟨h, s, n⟩
    · have := quarters_n1 e f (((odV (unitsV e f a)).natAbs : Int) * ((odV (unitsV e f b)).natAbs : Int)) ((shE (unitsV e f a) (unV e f)) + (shE (unitsV e f b) (unV e f))) hG n0 (by omega) (by omega) (by omega) w
      rw [show (odV (unitsV e f a) * odV (unitsV e f b)) = -(((odV (unitsV e f a)).natAbs : Int) * ((odV (unitsV e f b)).natAbs : Int)) by omega, oq_neg, h]
      exact this
    · have := quarters_n0 e f (((odV (unitsV e f a)).natAbs : Int) * ((odV (unitsV e f b)).natAbs : Int)) ((shE (unitsV e f a) (unV e f)) + (shE (unitsV e f b) (unV e f))) hG n0 (by omega) (by omega) (by omega) w
      rw [show (odV (unitsV e f a) * odV (unitsV e f b)) = (((odV (unitsV e f a)).natAbs : Int) * ((odV (unitsV e f b)).natAbs : Int)) by omega, h]
      exact this

theorem fu_same (e f a b c : Int) (fa : finB e f a = true) (fb : finB e f b = true) (na : (unitsV e f a) ≠ 0) (nb : (unitsV e f b) ≠ 0) (mode s : Int) (h : RndD e f (((quV2 e f a b) + 4 * (unitsV e f c)).natAbs : Int) (-2) mode (decide ((quV2 e f a b) + 4 * (unitsV e f c) < 0)) s) :
    IsRnd f (grV e f) ((fuS e f a b c).natAbs : Int) (pw (-(unV e f))) mode (decide (fuS e f a b c < 0)) s ∧ (fuS e f a b c < 0 ↔ (quV2 e f a b) + 4 * (unitsV e f c) < 0) ∧ (fuS e f a b c = 0 ↔ (quV2 e f a b) + 4 * (unitsV e f c) = 0) := by
  have hap := (fin_pat fa).1
  have hbp := (fin_pat fb).1
  have hG := (pat_iff.1 hap).1
  have u1 := un_bd hG
  obtain ⟨_, _, _, ua4, _⟩ := un_small hap
  obtain ⟨_, _, _, ub4, _⟩ := un_small hbp
  have ua := ua4 na
  have ub := ub4 nb
  have qU := pw_pos (-(unV e f))
  unfold quV2 at h ⊢
  by_cases hx : (unV e f) - 2 ≤ ((shE (unitsV e f a) (unV e f)) + (shE (unitsV e f b) (unV e f)))
  · rw [if_pos hx] at h ⊢
    have e4 := fu_code_p (n := (odV (unitsV e f a) * odV (unitsV e f b))) (x := ((shE (unitsV e f a) (unV e f)) + (shE (unitsV e f b) (unV e f)))) (C := (unitsV e f c)) (U := (unV e f)) (by omega) hx (by omega)
    have e5 : 4 * fuS e f a b c = (oqV ((odV (unitsV e f a) * odV (unitsV e f b)) * pw (((shE (unitsV e f a) (unV e f)) + (shE (unitsV e f b) (unV e f))) - ((unV e f) - 2))) 2 + 4 * (unitsV e f c)) * pw (-(unV e f)) := e4
    refine ⟨fu_code_x e5 h, ?_⟩
    obtain ⟨l1, l2⟩ := lt_mul (n := oqV ((odV (unitsV e f a) * odV (unitsV e f b)) * pw (((shE (unitsV e f a) (unV e f)) + (shE (unitsV e f b) (unV e f))) - ((unV e f) - 2))) 2 + 4 * (unitsV e f c)) (q := pw (-(unV e f))) (by omega)
    omega
  · rw [if_neg hx] at h ⊢
    exact fu_code_n (by omega) (by omega) (by omega) h

theorem iFused_nz (e f a b c mode : Int) (hap : patB e f a = true) (hbp : patB e f b = true) (hcp : patB e f c = true) (m0 : 0 ≤ mode) (m1 : mode ≤ 5) (ka : kindV e f a = 1 ∨ kindV e f a = 2) (kb : kindV e f b = 1 ∨ kindV e f b = 2) (kc : kindV e f c < 3) (fa : finB e f a = true) (fb : finB e f b = true) (fc : finB e f c = true)
    (op : ∀ w, Calls Tryz.prog 70 #[(Value.iface (opT e f a) (opX e f a)), (Value.iface (opT e f b) (opX e f b))] w fun rv w' => rv = .returned (.iface 82 (.agg #[.int .i64 (sxV e f a b), .int .i64 (((odV (unitsV e f a)).natAbs : Int) * ((odV (unitsV e f b)).natAbs : Int)), .int .i64 ((shE (unitsV e f a) (unV e f)) + (shE (unitsV e f b) (unV e f)))])) ∧ Ext w w') (w : World) (hT : TW w) : Calls Tryz.prog 39 #[fmt e f, .int .i64 a, .int .i64 b, .int .i64 c, .int .i64 mode] w (ARboth (FuD e f a b c mode) w) := by
  have hG := (pat_iff.1 hap).1
  have na := (kind_units hap).2.1 ka
  have nb := (kind_units hbp).2.1 kb
  obtain ⟨QX, b0, b1⟩ := QX_nz e f a b fa fb na nb
  have ps := pn_sign hap hbp na nb
  have cb := units_bd e f c hcp
  refine (iFused_q e f a b c mode _ hap hbp hcp m0 m1 fc op QX b0 b1 w hT).mono ?_
  rintro rv w' ⟨r, rfl, hr, hb⟩
  rcases hr with ⟨h, h2⟩ | ⟨h, s, h2, h3⟩
  · have h0 : RndD e f (((quV2 e f a b) + 4 * (unitsV e f c)).natAbs : Int) (-2) mode (decide ((quV2 e f a b) + 4 * (unitsV e f c) < 0)) 0 := by
      rw [h]
      exact rnd_null hG
    obtain ⟨_, l1, l2⟩ := fu_same e f a b c fa fb na nb mode 0 h0
    refine ⟨r, rfl, Or.inr (Or.inr (Or.inr (Or.inr (Or.inl ⟨ka, kb, kc, l2.2 h, ?_⟩)))), hb⟩
    have hne : ¬ (sxV e f a b) = (c / pw (e + f)) := by
      intro he
      have hc0 : (unitsV e f c) ≠ 0 := by
        intro z
        have hs := l2.2 h
        unfold fuS at hs
        rw [z, Int.zero_mul, Int.add_zero] at hs
        have qq := pw_pos (((shE (unitsV e f a) (unV e f)) + (shE (unitsV e f b) (unV e f))) - 2 * (unV e f))
        have := (lt_mul (n := (odV (unitsV e f a) * odV (unitsV e f b))) (q := pw (((shE (unitsV e f a) (unV e f)) + (shE (unitsV e f b) (unV e f))) - 2 * (unV e f))) (by omega)).2.1 hs
        omega
      have sc := (sg_units (P := 0) (s := 0) hcp hc0).2
      have hs := l2.2 h
      unfold fuS at hs
      have qq := pw_pos (((shE (unitsV e f a) (unV e f)) + (shE (unitsV e f b) (unV e f))) - 2 * (unV e f))
      have q2 := pw_pos (-(unV e f))
      rcases ps with ⟨g, s1, _⟩ | ⟨g, s1, _⟩
      · rw [← he, g] at sc
        have c0 : (unitsV e f c) < 0 := by simpa using sc
        have := Int.mul_neg_of_neg_of_pos s1 (show 0 < pw (((shE (unitsV e f a) (unV e f)) + (shE (unitsV e f b) (unV e f))) - 2 * (unV e f)) by omega)
        have := Int.mul_neg_of_neg_of_pos c0 (show 0 < pw (-(unV e f)) by omega)
        omega
      · rw [← he, g] at sc
        have c0 : ¬ (unitsV e f c) < 0 := by simpa using sc
        have := Int.mul_pos s1 (show 0 < pw (((shE (unitsV e f a) (unV e f)) + (shE (unitsV e f b) (unV e f))) - 2 * (unV e f)) by omega)
        have := Int.mul_pos (show 0 < (unitsV e f c) by omega) (show 0 < pw (-(unV e f)) by omega)
        omega
    rw [h2, if_neg hne]
  · obtain ⟨l0, l1, l2⟩ := fu_same e f a b c fa fb na nb mode s h3
    refine ⟨r, rfl, Or.inr (Or.inr (Or.inr (Or.inr (Or.inr ⟨ka, kb, kc, fun z => h (l2.1 z), s, ?_, l0⟩)))), hb⟩
    rw [h2]
    unfold sgP
    by_cases g : fuS e f a b c < 0
    · rw [if_pos g, if_pos (l1.1 g)]
    · rw [if_neg g, if_neg (fun z => g (l1.2 z))]

theorem iFusedOf_yes (e f a b c mode : Int) (hg : fuB e f a b c mode = true) (w : World) (hT : TW w) : Calls Tryz.prog 39 #[fmt e f, .int .i64 a, .int .i64 b, .int .i64 c, .int .i64 mode] w (ARboth (FuD e f a b c mode) w) := by
  obtain ⟨⟨hap, hbp, m0, m1⟩, hcp⟩ := fuB_iff.1 hg
  rcases times_cases e f a b hap hbp with ⟨h, op⟩ | ⟨h, h2, op⟩ | ⟨ka, kb, op⟩
  · exact iFused_no e f a b c mode hap hbp hcp m0 m1 h op w hT
  · exact iFused_inf e f a b c mode hap hbp hcp m0 m1 h h2 op w hT
  · by_cases kc : kindV e f c < 3
    · have fin : ∀ p, patB e f p = true → kindV e f p < 3 → finB e f p = true := by
        intro p hp k
        rcases kind_parts hp with ⟨q, _⟩ | ⟨q, _⟩ | ⟨_, q, _⟩ | ⟨_, q, _⟩ <;> first | exact q | omega
      by_cases hz : kindV e f a = 0 ∨ kindV e f b = 0
      · exact iFused_zf e f a b c mode hap hbp hcp m0 m1 ka kb hz kc (fin c hcp kc) op w hT
      · have := (kind_units hap).2.2
        have := (kind_units hbp).2.2
        exact iFused_nz e f a b c mode hap hbp hcp m0 m1 (by omega) (by omega) kc (fin a hap ka) (fin b hbp kb) (fin c hcp kc) op w hT
    · exact iFused_fx e f a b c mode hap hbp hcp m0 m1 ka kb kc op w hT
end Go.Proofs.YtfgbndjhaiigbaaGreatDoor

