/-
  Contracts of the functions that the laws reach, and the plain facts that they rest on, each under the conditions that its line names; part 36.
-/
import Derived.Test.YtfgbndjhaiigbaaGreatDoorKdj1
import Derived.Test.YtfgbndjhaiigbaaGreatDoorKdj2
import Derived.Test.YtfgbndjhaiigbaaGreatDoorKdj3
import Derived.Test.YtfgbndjhaiigbaaGreatDoorKdj4
import Derived.Test.YtfgbndjhaiigbaaGreatDoorKdj5
import Derived.Test.YtfgbndjhaiigbaaGreatDoorKdj6
import Derived.Test.YtfgbndjhaiigbaaGreatDoorKdj7
import Derived.Test.YtfgbndjhaiigbaaGreatDoorKdj8
import Derived.Test.YtfgbndjhaiigbaaGreatDoorKdj9
import Derived.Test.YtfgbndjhaiigbaaGreatDoorKdj10
import Derived.Test.YtfgbndjhaiigbaaGreatDoorKdj11
import Derived.Test.YtfgbndjhaiigbaaGreatDoorKdj12
import Derived.Test.YtfgbndjhaiigbaaGreatDoorKdj13
import Derived.Test.YtfgbndjhaiigbaaGreatDoorKdj14
import Derived.Test.YtfgbndjhaiigbaaGreatDoorKdj15
import Derived.Test.YtfgbndjhaiigbaaGreatDoorKdj16
import Derived.Test.YtfgbndjhaiigbaaGreatDoorKdj17
import Derived.Test.YtfgbndjhaiigbaaGreatDoorKdj18
import Derived.Test.YtfgbndjhaiigbaaGreatDoorKdj19
import Derived.Test.YtfgbndjhaiigbaaGreatDoorKdj20
import Derived.Test.YtfgbndjhaiigbaaGreatDoorKdj21
import Derived.Test.YtfgbndjhaiigbaaGreatDoorKdj22
import Derived.Test.YtfgbndjhaiigbaaGreatDoorKdj23
import Derived.Test.YtfgbndjhaiigbaaGreatDoorKdj24
import Derived.Test.YtfgbndjhaiigbaaGreatDoorKdj25
import Derived.Test.YtfgbndjhaiigbaaGreatDoorKdj26
import Derived.Test.YtfgbndjhaiigbaaGreatDoorKdj27
import Derived.Test.YtfgbndjhaiigbaaGreatDoorKdj28
import Derived.Test.YtfgbndjhaiigbaaGreatDoorKdj29
import Derived.Test.YtfgbndjhaiigbaaGreatDoorKdj30
import Derived.Test.YtfgbndjhaiigbaaGreatDoorRows
import Derived.WalkKit
import Derived.Handy
import Derived.LoopTactic
import Derived.LoopN
import Derived.Laws.OwnMore
import Derived.OwnWalk
import Derived.Deep.AppendLies
import Derived.Laws.Bits64b
import Derived.WalkSpells
import Derived.WalkLawsBesides
import Derived.StillTactics
import Derived.Laws.Pointers
import Derived.Deep.RegionHeld3
import Derived.Deep.QuietTactic
import Derived.BigQuiet
import Derived.Outline
import Derived.Lib.Hide
import Derived.RowKit3
import Derived.Carry
import Derived.IntWalk
import Derived.Laws.EntriesVeiled
namespace Go.Proofs.YtfgbndjhaiigbaaGreatDoor
open Go Go.RowKit
set_option linter.unusedSimpArgs false
set_option linter.unusedVariables false
set_option maxRecDepth 100000

set_option maxHeartbeats 1600000 in
theorem ofTwoOver_fin (e f a b mode m n x : Int) (hap : patB e f a = true) (hbp : patB e f b = true) (mo0 : 0 ≤ mode) (mo1 : mode ≤ 5) (hm : m = 0 ∨ m = 1) (v0 : 0 ≤ n) (v1 : n < 4611686018427387904) (k0 : -149 ≤ x - unV e f) (k1 : x - unV e f ≤ 149) 
    (op : ∀ w, Calls Tryz.prog 72 #[(Value.iface (opT e f a) (opX e f a)), (Value.iface (opT e f b) (opX e f b))] w fun rv w' => rv = .returned (.iface 82 (.agg #[.int .i64 m, .int .i64 n, .int .i64 x])) ∧ Ext w w') (w : World) (hT : TW w) :
    Calls Tryz.prog 64 #[fmt e f, .int .i64 a, .int .i64 b, .int .i64 mode, .func (.func 72) #[] #[]] w (OTout e f m n (x - unV e f) mode w) := by
  have hg := (pat_iff.1 hap).1
  have hmo : moB mode = true := mo_iff.2 ⟨mo0, mo1⟩
  have OP := Lib.hid op; clear op
  go_enter Tryz.func64, Tryz.ntmps64
  go_wp2_with (go_at_call 73; (with_reducible refine (operandsOf2 e f mode a b (w.heap.size + 1) hmo hap hbp _ (hT.ext Ext.auK) (by first | with_reducible assumption | (simp; done) | (simp [go_sem]; done)) (by first | with_reducible assumption | (simp; done) | (simp [go_sem]; done)) (by simp; try omega)).mono ?_); rintro rv w1 ⟨v, rfl, how, hb⟩; obtain ⟨gl, cap, rfl, hg1, hg2⟩ := how.form (by omega); have c0 := how.cellAt 0 (by omega); have c1 := how.cellAt 1 (by omega); simp only [List.getElem?_cons_zero, List.getElem?_cons_succ] at c0 c1; have c0 := c0; have c1 := c1; clear how; have ns : w.heap.size < w1.heap.size := hb.lt (by first | (simp; done) | (simp; omega)); have g0 : w1.cell? ⟨w.heap.size, 0, none⟩ = some (.int .i64 e) := (hb.cells _ _ (by first | (simp; done) | (simp; omega))).trans (by first | (simp; done) | (simp [go_sem, *]; done)); have g1 : w1.cell? ⟨w.heap.size, 1, none⟩ = some (.int .i64 f) := (hb.cells _ _ (by first | (simp; done) | (simp; omega))).trans (by first | (simp; done) | (simp [go_sem, *]; done)); have hx : Ext w w1 := Ext.trans Ext.auK hb; clear hb)
  have hs : max w.heap.size gl < w1.heap.size := by omega
  go_region_held3 (fun w' => w'.cell? ⟨w.heap.size, 0, none⟩ = some (.int .i64 e) ∧ w'.cell? ⟨w.heap.size, 1, none⟩ = some (.int .i64 f) ∧ w'.cell? ⟨gl, 0, none⟩ = some ((Value.iface (opT e f a) (opX e f a))) ∧ w'.cell? ⟨gl, 1, none⟩ = some ((Value.iface (opT e f b) (opX e f b))) ∧ max w.heap.size gl < w'.heap.size) ((refine ⟨?_, ?_, ?_, ?_, ?_⟩ <;> first | with_reducible assumption | ((repeat first | rw [cell_set_far _ _ _ _ _ _ (by omega)] | rw [cell_alloc_before _ _ _ _ (by omega)] | rw [cell_alloc_drew _ _ _ _ (by omega)] | rw [cell_drew]); with_reducible assumption) | ((rw [cell_setRow_far _ _ _ _ _ (by omega)]); with_reducible assumption) | ((rw [setRow_size]); with_reducible assumption) | (simp; done) | (simp [World.setCell]; first | done | omega) | (simp [go_sem, World.cell?_alloc_past, World.cell?_setCell_far, *]; done))) ((first | (go_at_call 72; refine (OP.out _).mono ?_; rintro rv w1 ⟨rfl, hb⟩; have ns : max w.heap.size gl < w1.heap.size := hb.ltK; have n0 : w1.cell? ⟨w.heap.size, 0, none⟩ = some (.int .i64 e) := hb.cellK; have n1 : w1.cell? ⟨w.heap.size, 1, none⟩ = some (.int .i64 f) := hb.cellK; have n2 : w1.cell? ⟨gl, 0, none⟩ = some ((Value.iface (opT e f a) (opX e f a))) := hb.cellK; have n3 : w1.cell? ⟨gl, 1, none⟩ = some ((Value.iface (opT e f b) (opX e f b))) := hb.cellK; (first | (have nx := hx.trK hb; clear hx) | have nx := hb); clear hb; try clear hs; try clear g0; try clear g1; try clear g2; try clear g3; have hx := nx; clear nx; have hs := ns; clear ns; have g0 := n0; clear n0; have g1 := n1; clear n1; have g2 := n2; clear n2; have g3 := n3; clear n3) | (go_at_call 133; refine (finRounded_any e f m n x mode hg hm v0 v1 k0 k1 mo0 mo1 _).mono ?_; rintro rv w1 ⟨s, rfl, hq, hb⟩; have HQ := Lib.hid hq; clear hq; have ns : max w.heap.size gl < w1.heap.size := hb.ltK; have n0 : w1.cell? ⟨w.heap.size, 0, none⟩ = some (.int .i64 e) := hb.cellK; have n1 : w1.cell? ⟨w.heap.size, 1, none⟩ = some (.int .i64 f) := hb.cellK; have n2 : w1.cell? ⟨gl, 0, none⟩ = some ((Value.iface (opT e f a) (opX e f a))) := hb.cellK; have n3 : w1.cell? ⟨gl, 1, none⟩ = some ((Value.iface (opT e f b) (opX e f b))) := hb.cellK; (first | (have nx := hx.trK hb; clear hx) | have nx := hb); clear hb; try clear hs; try clear g0; try clear g1; try clear g2; try clear g3; have hx := nx; clear nx; have hs := ns; clear ns; have g0 := n0; clear n0; have g1 := n1; clear n1; have g2 := n2; clear n2; have g3 := n3; clear n3)))
  go_wp2_with fail
  go_ret2
  exact ⟨s, rfl, HQ.out, Ext.auK⟩

set_option maxHeartbeats 1600000 in
theorem ofTwoOver_inf (e f a b mode m : Int) (hap : patB e f a = true) (hbp : patB e f b = true) (mo0 : 0 ≤ mode) (mo1 : mode ≤ 5) (hm : m = 0 ∨ m = 1) 
    (op : ∀ w, Calls Tryz.prog 72 #[(Value.iface (opT e f a) (opX e f a)), (Value.iface (opT e f b) (opX e f b))] w fun rv w' => rv = .returned (.iface 104 (.agg #[.int .i64 m])) ∧ Ext w w') (w : World) (hT : TW w) :
    Calls Tryz.prog 64 #[fmt e f, .int .i64 a, .int .i64 b, .int .i64 mode, .func (.func 72) #[] #[]] w (fun rv w' => rv = .returned (.tuple #[.int .i64 (m * pw (e + f) + (pw e - 1) * pw f), .bool true]) ∧ Ext w w') := by
  have hg := (pat_iff.1 hap).1
  have hmo : moB mode = true := mo_iff.2 ⟨mo0, mo1⟩
  have OP := Lib.hid op; clear op
  go_enter Tryz.func64, Tryz.ntmps64
  go_wp2_with (go_at_call 73; (with_reducible refine (operandsOf2 e f mode a b (w.heap.size + 1) hmo hap hbp _ (hT.ext Ext.auK) (by first | with_reducible assumption | (simp; done) | (simp [go_sem]; done)) (by first | with_reducible assumption | (simp; done) | (simp [go_sem]; done)) (by simp; try omega)).mono ?_); rintro rv w1 ⟨v, rfl, how, hb⟩; obtain ⟨gl, cap, rfl, hg1, hg2⟩ := how.form (by omega); have c0 := how.cellAt 0 (by omega); have c1 := how.cellAt 1 (by omega); simp only [List.getElem?_cons_zero, List.getElem?_cons_succ] at c0 c1; have c0 := c0; have c1 := c1; clear how; have ns : w.heap.size < w1.heap.size := hb.lt (by first | (simp; done) | (simp; omega)); have g0 : w1.cell? ⟨w.heap.size, 0, none⟩ = some (.int .i64 e) := (hb.cells _ _ (by first | (simp; done) | (simp; omega))).trans (by first | (simp; done) | (simp [go_sem, *]; done)); have g1 : w1.cell? ⟨w.heap.size, 1, none⟩ = some (.int .i64 f) := (hb.cells _ _ (by first | (simp; done) | (simp; omega))).trans (by first | (simp; done) | (simp [go_sem, *]; done)); have hx : Ext w w1 := Ext.trans Ext.auK hb; clear hb)
  have hs : max w.heap.size gl < w1.heap.size := by omega
  go_region_held3 (fun w' => w'.cell? ⟨w.heap.size, 0, none⟩ = some (.int .i64 e) ∧ w'.cell? ⟨w.heap.size, 1, none⟩ = some (.int .i64 f) ∧ w'.cell? ⟨gl, 0, none⟩ = some ((Value.iface (opT e f a) (opX e f a))) ∧ w'.cell? ⟨gl, 1, none⟩ = some ((Value.iface (opT e f b) (opX e f b))) ∧ max w.heap.size gl < w'.heap.size) ((refine ⟨?_, ?_, ?_, ?_, ?_⟩ <;> first | with_reducible assumption | ((repeat first | rw [cell_set_far _ _ _ _ _ _ (by omega)] | rw [cell_alloc_before _ _ _ _ (by omega)] | rw [cell_alloc_drew _ _ _ _ (by omega)] | rw [cell_drew]); with_reducible assumption) | ((rw [cell_setRow_far _ _ _ _ _ (by omega)]); with_reducible assumption) | ((rw [setRow_size]); with_reducible assumption) | (simp; done) | (simp [World.setCell]; first | done | omega) | (simp [go_sem, World.cell?_alloc_past, World.cell?_setCell_far, *]; done))) ((first | (go_at_call 72; refine (OP.out _).mono ?_; rintro rv w1 ⟨rfl, hb⟩; have ns : max w.heap.size gl < w1.heap.size := hb.ltK; have n0 : w1.cell? ⟨w.heap.size, 0, none⟩ = some (.int .i64 e) := hb.cellK; have n1 : w1.cell? ⟨w.heap.size, 1, none⟩ = some (.int .i64 f) := hb.cellK; have n2 : w1.cell? ⟨gl, 0, none⟩ = some ((Value.iface (opT e f a) (opX e f a))) := hb.cellK; have n3 : w1.cell? ⟨gl, 1, none⟩ = some ((Value.iface (opT e f b) (opX e f b))) := hb.cellK; (first | (have nx := hx.trK hb; clear hx) | have nx := hb); clear hb; try clear hs; try clear g0; try clear g1; try clear g2; try clear g3; have hx := nx; clear nx; have hs := ns; clear ns; have g0 := n0; clear n0; have g1 := n1; clear n1; have g2 := n2; clear n2; have g3 := n3; clear n3) | (go_at_call 223; refine (infRounded_any e f m mode hg hm _).mono ?_; rintro rv w1 ⟨rfl, hb⟩; have ns : max w.heap.size gl < w1.heap.size := hb.ltK; have n0 : w1.cell? ⟨w.heap.size, 0, none⟩ = some (.int .i64 e) := hb.cellK; have n1 : w1.cell? ⟨w.heap.size, 1, none⟩ = some (.int .i64 f) := hb.cellK; have n2 : w1.cell? ⟨gl, 0, none⟩ = some ((Value.iface (opT e f a) (opX e f a))) := hb.cellK; have n3 : w1.cell? ⟨gl, 1, none⟩ = some ((Value.iface (opT e f b) (opX e f b))) := hb.cellK; (first | (have nx := hx.trK hb; clear hx) | have nx := hb); clear hb; try clear hs; try clear g0; try clear g1; try clear g2; try clear g3; have hx := nx; clear nx; have hs := ns; clear ns; have g0 := n0; clear n0; have g1 := n1; clear n1; have g2 := n2; clear n2; have g3 := n3; clear n3)))
  go_wp2_with fail
  go_ret2
  exact ⟨rfl, Ext.auK⟩

set_option maxHeartbeats 1600000 in
theorem ofTwoOver_no (e f a b mode  : Int) (hap : patB e f a = true) (hbp : patB e f b = true) (mo0 : 0 ≤ mode) (mo1 : mode ≤ 5) 
    (op : ∀ w, Calls Tryz.prog 72 #[(Value.iface (opT e f a) (opX e f a)), (Value.iface (opT e f b) (opX e f b))] w fun rv w' => rv = .returned (.iface 107 (.agg #[])) ∧ Ext w w') (w : World) (hT : TW w) :
    Calls Tryz.prog 64 #[fmt e f, .int .i64 a, .int .i64 b, .int .i64 mode, .func (.func 72) #[] #[]] w (fun rv w' => rv = .returned (.tuple #[.int .i64 (quV e f), .bool true]) ∧ Ext w w') := by
  have hg := (pat_iff.1 hap).1
  have hmo : moB mode = true := mo_iff.2 ⟨mo0, mo1⟩
  have OP := Lib.hid op; clear op
  go_enter Tryz.func64, Tryz.ntmps64
  go_wp2_with (go_at_call 73; (with_reducible refine (operandsOf2 e f mode a b (w.heap.size + 1) hmo hap hbp _ (hT.ext Ext.auK) (by first | with_reducible assumption | (simp; done) | (simp [go_sem]; done)) (by first | with_reducible assumption | (simp; done) | (simp [go_sem]; done)) (by simp; try omega)).mono ?_); rintro rv w1 ⟨v, rfl, how, hb⟩; obtain ⟨gl, cap, rfl, hg1, hg2⟩ := how.form (by omega); have c0 := how.cellAt 0 (by omega); have c1 := how.cellAt 1 (by omega); simp only [List.getElem?_cons_zero, List.getElem?_cons_succ] at c0 c1; have c0 := c0; have c1 := c1; clear how; have ns : w.heap.size < w1.heap.size := hb.lt (by first | (simp; done) | (simp; omega)); have g0 : w1.cell? ⟨w.heap.size, 0, none⟩ = some (.int .i64 e) := (hb.cells _ _ (by first | (simp; done) | (simp; omega))).trans (by first | (simp; done) | (simp [go_sem, *]; done)); have g1 : w1.cell? ⟨w.heap.size, 1, none⟩ = some (.int .i64 f) := (hb.cells _ _ (by first | (simp; done) | (simp; omega))).trans (by first | (simp; done) | (simp [go_sem, *]; done)); have hx : Ext w w1 := Ext.trans Ext.auK hb; clear hb)
  have hs : max w.heap.size gl < w1.heap.size := by omega
  go_region_held3 (fun w' => w'.cell? ⟨w.heap.size, 0, none⟩ = some (.int .i64 e) ∧ w'.cell? ⟨w.heap.size, 1, none⟩ = some (.int .i64 f) ∧ w'.cell? ⟨gl, 0, none⟩ = some ((Value.iface (opT e f a) (opX e f a))) ∧ w'.cell? ⟨gl, 1, none⟩ = some ((Value.iface (opT e f b) (opX e f b))) ∧ max w.heap.size gl < w'.heap.size) ((refine ⟨?_, ?_, ?_, ?_, ?_⟩ <;> first | with_reducible assumption | ((repeat first | rw [cell_set_far _ _ _ _ _ _ (by omega)] | rw [cell_alloc_before _ _ _ _ (by omega)] | rw [cell_alloc_drew _ _ _ _ (by omega)] | rw [cell_drew]); with_reducible assumption) | ((rw [cell_setRow_far _ _ _ _ _ (by omega)]); with_reducible assumption) | ((rw [setRow_size]); with_reducible assumption) | (simp; done) | (simp [World.setCell]; first | done | omega) | (simp [go_sem, World.cell?_alloc_past, World.cell?_setCell_far, *]; done))) ((first | (go_at_call 72; refine (OP.out _).mono ?_; rintro rv w1 ⟨rfl, hb⟩; have ns : max w.heap.size gl < w1.heap.size := hb.ltK; have n0 : w1.cell? ⟨w.heap.size, 0, none⟩ = some (.int .i64 e) := hb.cellK; have n1 : w1.cell? ⟨w.heap.size, 1, none⟩ = some (.int .i64 f) := hb.cellK; have n2 : w1.cell? ⟨gl, 0, none⟩ = some ((Value.iface (opT e f a) (opX e f a))) := hb.cellK; have n3 : w1.cell? ⟨gl, 1, none⟩ = some ((Value.iface (opT e f b) (opX e f b))) := hb.cellK; (first | (have nx := hx.trK hb; clear hx) | have nx := hb); clear hb; try clear hs; try clear g0; try clear g1; try clear g2; try clear g3; have hx := nx; clear nx; have hs := ns; clear ns; have g0 := n0; clear n0; have g1 := n1; clear n1; have g2 := n2; clear n2; have g3 := n3; clear n3) | (go_at_call 226; refine (noRounded_any e f mode hg _).mono ?_; rintro rv w1 ⟨rfl, hb⟩; have ns : max w.heap.size gl < w1.heap.size := hb.ltK; have n0 : w1.cell? ⟨w.heap.size, 0, none⟩ = some (.int .i64 e) := hb.cellK; have n1 : w1.cell? ⟨w.heap.size, 1, none⟩ = some (.int .i64 f) := hb.cellK; have n2 : w1.cell? ⟨gl, 0, none⟩ = some ((Value.iface (opT e f a) (opX e f a))) := hb.cellK; have n3 : w1.cell? ⟨gl, 1, none⟩ = some ((Value.iface (opT e f b) (opX e f b))) := hb.cellK; (first | (have nx := hx.trK hb; clear hx) | have nx := hb); clear hb; try clear hs; try clear g0; try clear g1; try clear g2; try clear g3; have hx := nx; clear nx; have hs := ns; clear ns; have g0 := n0; clear n0; have g1 := n1; clear n1; have g2 := n2; clear n2; have g3 := n3; clear n3)))
  go_wp2_with fail
  go_ret2
  exact ⟨rfl, Ext.auK⟩
end Go.Proofs.YtfgbndjhaiigbaaGreatDoor

namespace Go.Proofs.YtfgbndjhaiigbaaGreatDoor
open Go Go.RowKit
set_option linter.unusedSimpArgs false
set_option linter.unusedVariables false
set_option maxRecDepth 100000

theorem rnd_pow {e f n k k2 mode s : Int} {neg : Bool} (h : k = k2) (hq : RndD e f n k mode neg s) : RndD e f n k2 mode neg s := by rw [← h]; exact hq

theorem rnd_zero {e f n k mode s : Int} {neg : Bool} (hg : goodB e f = true) (h : n = 0) (hq : RndD e f n k mode neg s) : s = 0 := by
  subst h
  exact rnd_one (good_iff.1 hg).2.2.1 (by have := pw_pos 149; omega) hq (rnd_null hg)

theorem oq_sz {n d : Int} (hd : 0 < d) (h1 : 0 ≤ n) (h2 : n ≤ 2048) : 0 ≤ oqV (n * 268435456) d ∧ oqV (n * 268435456) d < 4611686018427387904 := by
  have b := oq_bd (b := 549755813888) (n := n * 268435456) hd (by omega) (by omega)
  have h : 0 ≤ oqV (n * 268435456) d := by
    rw [oq_pos hd (by omega)]
    have := Int.ediv_nonneg (a := n * 268435456) (b := d) (by omega) (by omega)
    split <;> omega
  omega

theorem iDivideOf_xx (e f a b mode : Int) (hg : abB e f a b mode = true) (ka : kindV e f a = 4) (fa : finB e f a = false) (na : numB e f a = false) (kb : kindV e f b = 4) (fb : finB e f b = false) (nb : numB e f b = false) (w : World) (hT : TW w) : Calls Tryz.prog 35 #[fmt e f, .int .i64 a, .int .i64 b, .int .i64 mode] w (ARboth (DvD e f a b mode) w) := by
  obtain ⟨hap, hbp, m0, m1⟩ := ab_iff.1 hg
  have hg0 := (pat_iff.1 hap).1
  obtain ⟨xr, sx⟩ := sx_xor hap hbp
  obtain ⟨ua1, ua2, ua3, ua4, ua5⟩ := un_small hap
  obtain ⟨ub1, ub2, ub3, ub4, ub5⟩ := un_small hbp
  have u1 := un_bd (pat_iff.1 hap).1
  have zA : (unitsV e f a) = 0 → ((odV (unitsV e f a)).natAbs : Int) = 0 := fun h => by rw [h, od_zero]; rfl
  have zB : (unitsV e f b) = 0 → ((odV (unitsV e f b)).natAbs : Int) = 0 := fun h => by rw [h, od_zero]; rfl
  have zA2 : (unitsV e f a) ≠ 0 → ¬ ((odV (unitsV e f a)).natAbs : Int) = 0 := fun h h2 => h ((od_sign (S := (unitsV e f a)) (by have := units_bd e f a hap; omega) (by have := units_bd e f a hap; omega)).2.1 (by omega))
  have zB2 : (unitsV e f b) ≠ 0 → ¬ ((odV (unitsV e f b)).natAbs : Int) = 0 := fun h h2 => h ((od_sign (S := (unitsV e f b)) (by have := units_bd e f b hbp; omega) (by have := units_bd e f b hbp; omega)).2.1 (by omega))
  have oa := op_no (e := e) (f := f) (p := a) fa na
  have ob := op_no (e := e) (f := f) (p := b) fb nb
  have OC := Lib.hid (fun (w : World) (hT : TW w) => ofTwoOver_no e f a b mode hap hbp m0 m1 (fun w => by rw [oa, ob]; exact over_nn _ rfl w) w hT)
  clear xr oa ob zA zB zA2 zB2 ua1 ua2 ua3 ua4 ua5 ub1 ub2 ub3 ub4 ub5 u1 sx
  go_enter Tryz.func35, Tryz.ntmps35
  go_wp2_with (go_at_call 64; refine (OC.out _ (hT.ext Ext.auK)).mono ?_; rintro rv w1 ⟨rfl, hb⟩; have ns : w.heap.size < w1.heap.size := hb.ltK; have n0 : w1.cell? ⟨w.heap.size, 0, none⟩ = some (.int .i64 e) := hb.cellK; have n1 : w1.cell? ⟨w.heap.size, 1, none⟩ = some (.int .i64 f) := hb.cellK; (first | (have nx := hx.trK hb; clear hx) | have nx := hb); clear hb; try clear hs; try clear g0; try clear g1; have hx := nx; clear nx; have hs := ns; clear ns; have g0 := n0; clear n0; have g1 := n1; clear n1)
  go_ret2
  exact ⟨_, rfl, Or.inl ⟨by unfold dqP; omega, rfl⟩, Ext.auK⟩

theorem iDivideOf_xi (e f a b mode : Int) (hg : abB e f a b mode = true) (ka : kindV e f a = 4) (fa : finB e f a = false) (na : numB e f a = false) (kb : kindV e f b = 3) (fb : finB e f b = false) (nb : numB e f b = true) (w : World) (hT : TW w) : Calls Tryz.prog 35 #[fmt e f, .int .i64 a, .int .i64 b, .int .i64 mode] w (ARboth (DvD e f a b mode) w) := by
  obtain ⟨hap, hbp, m0, m1⟩ := ab_iff.1 hg
  have hg0 := (pat_iff.1 hap).1
  obtain ⟨xr, sx⟩ := sx_xor hap hbp
  obtain ⟨ua1, ua2, ua3, ua4, ua5⟩ := un_small hap
  obtain ⟨ub1, ub2, ub3, ub4, ub5⟩ := un_small hbp
  have u1 := un_bd (pat_iff.1 hap).1
  have zA : (unitsV e f a) = 0 → ((odV (unitsV e f a)).natAbs : Int) = 0 := fun h => by rw [h, od_zero]; rfl
  have zB : (unitsV e f b) = 0 → ((odV (unitsV e f b)).natAbs : Int) = 0 := fun h => by rw [h, od_zero]; rfl
  have zA2 : (unitsV e f a) ≠ 0 → ¬ ((odV (unitsV e f a)).natAbs : Int) = 0 := fun h h2 => h ((od_sign (S := (unitsV e f a)) (by have := units_bd e f a hap; omega) (by have := units_bd e f a hap; omega)).2.1 (by omega))
  have zB2 : (unitsV e f b) ≠ 0 → ¬ ((odV (unitsV e f b)).natAbs : Int) = 0 := fun h h2 => h ((od_sign (S := (unitsV e f b)) (by have := units_bd e f b hbp; omega) (by have := units_bd e f b hbp; omega)).2.1 (by omega))
  have oa := op_no (e := e) (f := f) (p := a) fa na
  have ob := op_inf (e := e) (f := f) (p := b) fb nb
  have OC := Lib.hid (fun (w : World) (hT : TW w) => ofTwoOver_no e f a b mode hap hbp m0 m1 (fun w => by rw [oa, ob]; exact over_ni (b / pw (e + f)) _ rfl w) w hT)
  clear xr oa ob zA zB zA2 zB2 ua1 ua2 ua3 ua4 ua5 ub1 ub2 ub3 ub4 ub5 u1 sx
  go_enter Tryz.func35, Tryz.ntmps35
  go_wp2_with (go_at_call 64; refine (OC.out _ (hT.ext Ext.auK)).mono ?_; rintro rv w1 ⟨rfl, hb⟩; have ns : w.heap.size < w1.heap.size := hb.ltK; have n0 : w1.cell? ⟨w.heap.size, 0, none⟩ = some (.int .i64 e) := hb.cellK; have n1 : w1.cell? ⟨w.heap.size, 1, none⟩ = some (.int .i64 f) := hb.cellK; (first | (have nx := hx.trK hb; clear hx) | have nx := hb); clear hb; try clear hs; try clear g0; try clear g1; have hx := nx; clear nx; have hs := ns; clear ns; have g0 := n0; clear n0; have g1 := n1; clear n1)
  go_ret2
  exact ⟨_, rfl, Or.inl ⟨by unfold dqP; omega, rfl⟩, Ext.auK⟩

theorem iDivideOf_xz (e f a b mode : Int) (hg : abB e f a b mode = true) (ka : kindV e f a = 4) (fa : finB e f a = false) (na : numB e f a = false) (kb : kindV e f b = 0) (fb : finB e f b = true) (nb : unitsV e f b = 0) (w : World) (hT : TW w) : Calls Tryz.prog 35 #[fmt e f, .int .i64 a, .int .i64 b, .int .i64 mode] w (ARboth (DvD e f a b mode) w) := by
  obtain ⟨hap, hbp, m0, m1⟩ := ab_iff.1 hg
  have hg0 := (pat_iff.1 hap).1
  obtain ⟨xr, sx⟩ := sx_xor hap hbp
  obtain ⟨ua1, ua2, ua3, ua4, ua5⟩ := un_small hap
  obtain ⟨ub1, ub2, ub3, ub4, ub5⟩ := un_small hbp
  have u1 := un_bd (pat_iff.1 hap).1
  have zA : (unitsV e f a) = 0 → ((odV (unitsV e f a)).natAbs : Int) = 0 := fun h => by rw [h, od_zero]; rfl
  have zB : (unitsV e f b) = 0 → ((odV (unitsV e f b)).natAbs : Int) = 0 := fun h => by rw [h, od_zero]; rfl
  have zA2 : (unitsV e f a) ≠ 0 → ¬ ((odV (unitsV e f a)).natAbs : Int) = 0 := fun h h2 => h ((od_sign (S := (unitsV e f a)) (by have := units_bd e f a hap; omega) (by have := units_bd e f a hap; omega)).2.1 (by omega))
  have zB2 : (unitsV e f b) ≠ 0 → ¬ ((odV (unitsV e f b)).natAbs : Int) = 0 := fun h h2 => h ((od_sign (S := (unitsV e f b)) (by have := units_bd e f b hbp; omega) (by have := units_bd e f b hbp; omega)).2.1 (by omega))
  have oa := op_no (e := e) (f := f) (p := a) fa na
  have ob := op_fin (e := e) (f := f) (p := b) fb
  have OC := Lib.hid (fun (w : World) (hT : TW w) => ofTwoOver_no e f a b mode hap hbp m0 m1 (fun w => by rw [oa, ob]; exact over_nf (b / pw (e + f)) ((odV (unitsV e f b)).natAbs : Int) (shE (unitsV e f b) (unV e f)) _ rfl w) w hT)
  clear xr oa ob zA zB zA2 zB2 ua1 ua2 ua3 ua4 ua5 ub1 ub2 ub3 ub4 ub5 u1 sx
  go_enter Tryz.func35, Tryz.ntmps35
  go_wp2_with (go_at_call 64; refine (OC.out _ (hT.ext Ext.auK)).mono ?_; rintro rv w1 ⟨rfl, hb⟩; have ns : w.heap.size < w1.heap.size := hb.ltK; have n0 : w1.cell? ⟨w.heap.size, 0, none⟩ = some (.int .i64 e) := hb.cellK; have n1 : w1.cell? ⟨w.heap.size, 1, none⟩ = some (.int .i64 f) := hb.cellK; (first | (have nx := hx.trK hb; clear hx) | have nx := hb); clear hb; try clear hs; try clear g0; try clear g1; have hx := nx; clear nx; have hs := ns; clear ns; have g0 := n0; clear n0; have g1 := n1; clear n1)
  go_ret2
  exact ⟨_, rfl, Or.inl ⟨by unfold dqP; omega, rfl⟩, Ext.auK⟩

theorem iDivideOf_xf (e f a b mode : Int) (hg : abB e f a b mode = true) (ka : kindV e f a = 4) (fa : finB e f a = false) (na : numB e f a = false) (kb : kindV e f b = 1 ∨ kindV e f b = 2) (fb : finB e f b = true) (nb : unitsV e f b ≠ 0) (w : World) (hT : TW w) : Calls Tryz.prog 35 #[fmt e f, .int .i64 a, .int .i64 b, .int .i64 mode] w (ARboth (DvD e f a b mode) w) := by
  obtain ⟨hap, hbp, m0, m1⟩ := ab_iff.1 hg
  have hg0 := (pat_iff.1 hap).1
  obtain ⟨xr, sx⟩ := sx_xor hap hbp
  obtain ⟨ua1, ua2, ua3, ua4, ua5⟩ := un_small hap
  obtain ⟨ub1, ub2, ub3, ub4, ub5⟩ := un_small hbp
  have u1 := un_bd (pat_iff.1 hap).1
  have zA : (unitsV e f a) = 0 → ((odV (unitsV e f a)).natAbs : Int) = 0 := fun h => by rw [h, od_zero]; rfl
  have zB : (unitsV e f b) = 0 → ((odV (unitsV e f b)).natAbs : Int) = 0 := fun h => by rw [h, od_zero]; rfl
  have zA2 : (unitsV e f a) ≠ 0 → ¬ ((odV (unitsV e f a)).natAbs : Int) = 0 := fun h h2 => h ((od_sign (S := (unitsV e f a)) (by have := units_bd e f a hap; omega) (by have := units_bd e f a hap; omega)).2.1 (by omega))
  have zB2 : (unitsV e f b) ≠ 0 → ¬ ((odV (unitsV e f b)).natAbs : Int) = 0 := fun h h2 => h ((od_sign (S := (unitsV e f b)) (by have := units_bd e f b hbp; omega) (by have := units_bd e f b hbp; omega)).2.1 (by omega))
  have oa := op_no (e := e) (f := f) (p := a) fa na
  have ob := op_fin (e := e) (f := f) (p := b) fb
  have OC := Lib.hid (fun (w : World) (hT : TW w) => ofTwoOver_no e f a b mode hap hbp m0 m1 (fun w => by rw [oa, ob]; exact over_nf (b / pw (e + f)) ((odV (unitsV e f b)).natAbs : Int) (shE (unitsV e f b) (unV e f)) _ rfl w) w hT)
  clear xr oa ob zA zB zA2 zB2 ua1 ua2 ua3 ua4 ua5 ub1 ub2 ub3 ub4 ub5 u1 sx
  go_enter Tryz.func35, Tryz.ntmps35
  go_wp2_with (go_at_call 64; refine (OC.out _ (hT.ext Ext.auK)).mono ?_; rintro rv w1 ⟨rfl, hb⟩; have ns : w.heap.size < w1.heap.size := hb.ltK; have n0 : w1.cell? ⟨w.heap.size, 0, none⟩ = some (.int .i64 e) := hb.cellK; have n1 : w1.cell? ⟨w.heap.size, 1, none⟩ = some (.int .i64 f) := hb.cellK; (first | (have nx := hx.trK hb; clear hx) | have nx := hb); clear hb; try clear hs; try clear g0; try clear g1; have hx := nx; clear nx; have hs := ns; clear ns; have g0 := n0; clear n0; have g1 := n1; clear n1)
  go_ret2
  exact ⟨_, rfl, Or.inl ⟨by unfold dqP; omega, rfl⟩, Ext.auK⟩

theorem iDivideOf_ix (e f a b mode : Int) (hg : abB e f a b mode = true) (ka : kindV e f a = 3) (fa : finB e f a = false) (na : numB e f a = true) (kb : kindV e f b = 4) (fb : finB e f b = false) (nb : numB e f b = false) (w : World) (hT : TW w) : Calls Tryz.prog 35 #[fmt e f, .int .i64 a, .int .i64 b, .int .i64 mode] w (ARboth (DvD e f a b mode) w) := by
  obtain ⟨hap, hbp, m0, m1⟩ := ab_iff.1 hg
  have hg0 := (pat_iff.1 hap).1
  obtain ⟨xr, sx⟩ := sx_xor hap hbp
  obtain ⟨ua1, ua2, ua3, ua4, ua5⟩ := un_small hap
  obtain ⟨ub1, ub2, ub3, ub4, ub5⟩ := un_small hbp
  have u1 := un_bd (pat_iff.1 hap).1
  have zA : (unitsV e f a) = 0 → ((odV (unitsV e f a)).natAbs : Int) = 0 := fun h => by rw [h, od_zero]; rfl
  have zB : (unitsV e f b) = 0 → ((odV (unitsV e f b)).natAbs : Int) = 0 := fun h => by rw [h, od_zero]; rfl
  have zA2 : (unitsV e f a) ≠ 0 → ¬ ((odV (unitsV e f a)).natAbs : Int) = 0 := fun h h2 => h ((od_sign (S := (unitsV e f a)) (by have := units_bd e f a hap; omega) (by have := units_bd e f a hap; omega)).2.1 (by omega))
  have zB2 : (unitsV e f b) ≠ 0 → ¬ ((odV (unitsV e f b)).natAbs : Int) = 0 := fun h h2 => h ((od_sign (S := (unitsV e f b)) (by have := units_bd e f b hbp; omega) (by have := units_bd e f b hbp; omega)).2.1 (by omega))
  have oa := op_inf (e := e) (f := f) (p := a) fa na
  have ob := op_no (e := e) (f := f) (p := b) fb nb
  have OC := Lib.hid (fun (w : World) (hT : TW w) => ofTwoOver_no e f a b mode hap hbp m0 m1 (fun w => by rw [oa, ob]; exact over_in (a / pw (e + f)) _ rfl w) w hT)
  clear xr oa ob zA zB zA2 zB2 ua1 ua2 ua3 ua4 ua5 ub1 ub2 ub3 ub4 ub5 u1 sx
  go_enter Tryz.func35, Tryz.ntmps35
  go_wp2_with (go_at_call 64; refine (OC.out _ (hT.ext Ext.auK)).mono ?_; rintro rv w1 ⟨rfl, hb⟩; have ns : w.heap.size < w1.heap.size := hb.ltK; have n0 : w1.cell? ⟨w.heap.size, 0, none⟩ = some (.int .i64 e) := hb.cellK; have n1 : w1.cell? ⟨w.heap.size, 1, none⟩ = some (.int .i64 f) := hb.cellK; (first | (have nx := hx.trK hb; clear hx) | have nx := hb); clear hb; try clear hs; try clear g0; try clear g1; have hx := nx; clear nx; have hs := ns; clear ns; have g0 := n0; clear n0; have g1 := n1; clear n1)
  go_ret2
  exact ⟨_, rfl, Or.inl ⟨by unfold dqP; omega, rfl⟩, Ext.auK⟩

theorem iDivideOf_ii (e f a b mode : Int) (hg : abB e f a b mode = true) (ka : kindV e f a = 3) (fa : finB e f a = false) (na : numB e f a = true) (kb : kindV e f b = 3) (fb : finB e f b = false) (nb : numB e f b = true) (w : World) (hT : TW w) : Calls Tryz.prog 35 #[fmt e f, .int .i64 a, .int .i64 b, .int .i64 mode] w (ARboth (DvD e f a b mode) w) := by
  obtain ⟨hap, hbp, m0, m1⟩ := ab_iff.1 hg
  have hg0 := (pat_iff.1 hap).1
  obtain ⟨xr, sx⟩ := sx_xor hap hbp
  obtain ⟨ua1, ua2, ua3, ua4, ua5⟩ := un_small hap
  obtain ⟨ub1, ub2, ub3, ub4, ub5⟩ := un_small hbp
  have u1 := un_bd (pat_iff.1 hap).1
  have zA : (unitsV e f a) = 0 → ((odV (unitsV e f a)).natAbs : Int) = 0 := fun h => by rw [h, od_zero]; rfl
  have zB : (unitsV e f b) = 0 → ((odV (unitsV e f b)).natAbs : Int) = 0 := fun h => by rw [h, od_zero]; rfl
  have zA2 : (unitsV e f a) ≠ 0 → ¬ ((odV (unitsV e f a)).natAbs : Int) = 0 := fun h h2 => h ((od_sign (S := (unitsV e f a)) (by have := units_bd e f a hap; omega) (by have := units_bd e f a hap; omega)).2.1 (by omega))
  have zB2 : (unitsV e f b) ≠ 0 → ¬ ((odV (unitsV e f b)).natAbs : Int) = 0 := fun h h2 => h ((od_sign (S := (unitsV e f b)) (by have := units_bd e f b hbp; omega) (by have := units_bd e f b hbp; omega)).2.1 (by omega))
  have oa := op_inf (e := e) (f := f) (p := a) fa na
  have ob := op_inf (e := e) (f := f) (p := b) fb nb
  have OC := Lib.hid (fun (w : World) (hT : TW w) => ofTwoOver_no e f a b mode hap hbp m0 m1 (fun w => by rw [oa, ob]; exact over_ii (a / pw (e + f)) (b / pw (e + f)) (sxV e f a b) xr w) w hT)
  clear xr oa ob zA zB zA2 zB2 ua1 ua2 ua3 ua4 ua5 ub1 ub2 ub3 ub4 ub5 u1 sx
  go_enter Tryz.func35, Tryz.ntmps35
  go_wp2_with (go_at_call 64; refine (OC.out _ (hT.ext Ext.auK)).mono ?_; rintro rv w1 ⟨rfl, hb⟩; have ns : w.heap.size < w1.heap.size := hb.ltK; have n0 : w1.cell? ⟨w.heap.size, 0, none⟩ = some (.int .i64 e) := hb.cellK; have n1 : w1.cell? ⟨w.heap.size, 1, none⟩ = some (.int .i64 f) := hb.cellK; (first | (have nx := hx.trK hb; clear hx) | have nx := hb); clear hb; try clear hs; try clear g0; try clear g1; have hx := nx; clear nx; have hs := ns; clear ns; have g0 := n0; clear n0; have g1 := n1; clear n1)
  go_ret2
  exact ⟨_, rfl, Or.inl ⟨by unfold dqP; omega, rfl⟩, Ext.auK⟩

theorem iDivideOf_iz (e f a b mode : Int) (hg : abB e f a b mode = true) (ka : kindV e f a = 3) (fa : finB e f a = false) (na : numB e f a = true) (kb : kindV e f b = 0) (fb : finB e f b = true) (nb : unitsV e f b = 0) (w : World) (hT : TW w) : Calls Tryz.prog 35 #[fmt e f, .int .i64 a, .int .i64 b, .int .i64 mode] w (ARboth (DvD e f a b mode) w) := by
  obtain ⟨hap, hbp, m0, m1⟩ := ab_iff.1 hg
  have hg0 := (pat_iff.1 hap).1
  obtain ⟨xr, sx⟩ := sx_xor hap hbp
  obtain ⟨ua1, ua2, ua3, ua4, ua5⟩ := un_small hap
  obtain ⟨ub1, ub2, ub3, ub4, ub5⟩ := un_small hbp
  have u1 := un_bd (pat_iff.1 hap).1
  have zA : (unitsV e f a) = 0 → ((odV (unitsV e f a)).natAbs : Int) = 0 := fun h => by rw [h, od_zero]; rfl
  have zB : (unitsV e f b) = 0 → ((odV (unitsV e f b)).natAbs : Int) = 0 := fun h => by rw [h, od_zero]; rfl
  have zA2 : (unitsV e f a) ≠ 0 → ¬ ((odV (unitsV e f a)).natAbs : Int) = 0 := fun h h2 => h ((od_sign (S := (unitsV e f a)) (by have := units_bd e f a hap; omega) (by have := units_bd e f a hap; omega)).2.1 (by omega))
  have zB2 : (unitsV e f b) ≠ 0 → ¬ ((odV (unitsV e f b)).natAbs : Int) = 0 := fun h h2 => h ((od_sign (S := (unitsV e f b)) (by have := units_bd e f b hbp; omega) (by have := units_bd e f b hbp; omega)).2.1 (by omega))
  have oa := op_inf (e := e) (f := f) (p := a) fa na
  have ob := op_fin (e := e) (f := f) (p := b) fb
  have OC := Lib.hid (fun (w : World) (hT : TW w) => ofTwoOver_inf e f a b mode (sxV e f a b) hap hbp m0 m1 sx (fun w => by rw [oa, ob]; exact over_if (a / pw (e + f)) (b / pw (e + f)) ((odV (unitsV e f b)).natAbs : Int) (shE (unitsV e f b) (unV e f)) (sxV e f a b) xr w) w hT)
  clear xr oa ob zA zB zA2 zB2 ua1 ua2 ua3 ua4 ua5 ub1 ub2 ub3 ub4 ub5 u1 sx
  go_enter Tryz.func35, Tryz.ntmps35
  go_wp2_with (go_at_call 64; refine (OC.out _ (hT.ext Ext.auK)).mono ?_; rintro rv w1 ⟨rfl, hb⟩; have ns : w.heap.size < w1.heap.size := hb.ltK; have n0 : w1.cell? ⟨w.heap.size, 0, none⟩ = some (.int .i64 e) := hb.cellK; have n1 : w1.cell? ⟨w.heap.size, 1, none⟩ = some (.int .i64 f) := hb.cellK; (first | (have nx := hx.trK hb; clear hx) | have nx := hb); clear hb; try clear hs; try clear g0; try clear g1; have hx := nx; clear nx; have hs := ns; clear ns; have g0 := n0; clear n0; have g1 := n1; clear n1)
  go_ret2
  exact ⟨_, rfl, Or.inr (Or.inl ⟨by unfold dqP; omega, by omega, rfl⟩), Ext.auK⟩

theorem iDivideOf_if (e f a b mode : Int) (hg : abB e f a b mode = true) (ka : kindV e f a = 3) (fa : finB e f a = false) (na : numB e f a = true) (kb : kindV e f b = 1 ∨ kindV e f b = 2) (fb : finB e f b = true) (nb : unitsV e f b ≠ 0) (w : World) (hT : TW w) : Calls Tryz.prog 35 #[fmt e f, .int .i64 a, .int .i64 b, .int .i64 mode] w (ARboth (DvD e f a b mode) w) := by
  obtain ⟨hap, hbp, m0, m1⟩ := ab_iff.1 hg
  have hg0 := (pat_iff.1 hap).1
  obtain ⟨xr, sx⟩ := sx_xor hap hbp
  obtain ⟨ua1, ua2, ua3, ua4, ua5⟩ := un_small hap
  obtain ⟨ub1, ub2, ub3, ub4, ub5⟩ := un_small hbp
  have u1 := un_bd (pat_iff.1 hap).1
  have zA : (unitsV e f a) = 0 → ((odV (unitsV e f a)).natAbs : Int) = 0 := fun h => by rw [h, od_zero]; rfl
  have zB : (unitsV e f b) = 0 → ((odV (unitsV e f b)).natAbs : Int) = 0 := fun h => by rw [h, od_zero]; rfl
  have zA2 : (unitsV e f a) ≠ 0 → ¬ ((odV (unitsV e f a)).natAbs : Int) = 0 := fun h h2 => h ((od_sign (S := (unitsV e f a)) (by have := units_bd e f a hap; omega) (by have := units_bd e f a hap; omega)).2.1 (by omega))
  have zB2 : (unitsV e f b) ≠ 0 → ¬ ((odV (unitsV e f b)).natAbs : Int) = 0 := fun h h2 => h ((od_sign (S := (unitsV e f b)) (by have := units_bd e f b hbp; omega) (by have := units_bd e f b hbp; omega)).2.1 (by omega))
  have oa := op_inf (e := e) (f := f) (p := a) fa na
  have ob := op_fin (e := e) (f := f) (p := b) fb
  have OC := Lib.hid (fun (w : World) (hT : TW w) => ofTwoOver_inf e f a b mode (sxV e f a b) hap hbp m0 m1 sx (fun w => by rw [oa, ob]; exact over_if (a / pw (e + f)) (b / pw (e + f)) ((odV (unitsV e f b)).natAbs : Int) (shE (unitsV e f b) (unV e f)) (sxV e f a b) xr w) w hT)
  clear xr oa ob zA zB zA2 zB2 ua1 ua2 ua3 ua4 ua5 ub1 ub2 ub3 ub4 ub5 u1 sx
  go_enter Tryz.func35, Tryz.ntmps35
  go_wp2_with (go_at_call 64; refine (OC.out _ (hT.ext Ext.auK)).mono ?_; rintro rv w1 ⟨rfl, hb⟩; have ns : w.heap.size < w1.heap.size := hb.ltK; have n0 : w1.cell? ⟨w.heap.size, 0, none⟩ = some (.int .i64 e) := hb.cellK; have n1 : w1.cell? ⟨w.heap.size, 1, none⟩ = some (.int .i64 f) := hb.cellK; (first | (have nx := hx.trK hb; clear hx) | have nx := hb); clear hb; try clear hs; try clear g0; try clear g1; have hx := nx; clear nx; have hs := ns; clear ns; have g0 := n0; clear n0; have g1 := n1; clear n1)
  go_ret2
  exact ⟨_, rfl, Or.inr (Or.inl ⟨by unfold dqP; omega, by omega, rfl⟩), Ext.auK⟩

theorem iDivideOf_zx (e f a b mode : Int) (hg : abB e f a b mode = true) (ka : kindV e f a = 0) (fa : finB e f a = true) (na : unitsV e f a = 0) (kb : kindV e f b = 4) (fb : finB e f b = false) (nb : numB e f b = false) (w : World) (hT : TW w) : Calls Tryz.prog 35 #[fmt e f, .int .i64 a, .int .i64 b, .int .i64 mode] w (ARboth (DvD e f a b mode) w) := by
  obtain ⟨hap, hbp, m0, m1⟩ := ab_iff.1 hg
  have hg0 := (pat_iff.1 hap).1
  obtain ⟨xr, sx⟩ := sx_xor hap hbp
  obtain ⟨ua1, ua2, ua3, ua4, ua5⟩ := un_small hap
  obtain ⟨ub1, ub2, ub3, ub4, ub5⟩ := un_small hbp
  have u1 := un_bd (pat_iff.1 hap).1
  have zA : (unitsV e f a) = 0 → ((odV (unitsV e f a)).natAbs : Int) = 0 := fun h => by rw [h, od_zero]; rfl
  have zB : (unitsV e f b) = 0 → ((odV (unitsV e f b)).natAbs : Int) = 0 := fun h => by rw [h, od_zero]; rfl
  have zA2 : (unitsV e f a) ≠ 0 → ¬ ((odV (unitsV e f a)).natAbs : Int) = 0 := fun h h2 => h ((od_sign (S := (unitsV e f a)) (by have := units_bd e f a hap; omega) (by have := units_bd e f a hap; omega)).2.1 (by omega))
  have zB2 : (unitsV e f b) ≠ 0 → ¬ ((odV (unitsV e f b)).natAbs : Int) = 0 := fun h h2 => h ((od_sign (S := (unitsV e f b)) (by have := units_bd e f b hbp; omega) (by have := units_bd e f b hbp; omega)).2.1 (by omega))
  have oa := op_fin (e := e) (f := f) (p := a) fa
  have ob := op_no (e := e) (f := f) (p := b) fb nb
  have OC := Lib.hid (fun (w : World) (hT : TW w) => ofTwoOver_no e f a b mode hap hbp m0 m1 (fun w => by rw [oa, ob]; exact over_fn (a / pw (e + f)) ((odV (unitsV e f a)).natAbs : Int) (shE (unitsV e f a) (unV e f)) _ rfl w) w hT)
  clear xr oa ob zA zB zA2 zB2 ua1 ua2 ua3 ua4 ua5 ub1 ub2 ub3 ub4 ub5 u1 sx
  go_enter Tryz.func35, Tryz.ntmps35
  go_wp2_with (go_at_call 64; refine (OC.out _ (hT.ext Ext.auK)).mono ?_; rintro rv w1 ⟨rfl, hb⟩; have ns : w.heap.size < w1.heap.size := hb.ltK; have n0 : w1.cell? ⟨w.heap.size, 0, none⟩ = some (.int .i64 e) := hb.cellK; have n1 : w1.cell? ⟨w.heap.size, 1, none⟩ = some (.int .i64 f) := hb.cellK; (first | (have nx := hx.trK hb; clear hx) | have nx := hb); clear hb; try clear hs; try clear g0; try clear g1; have hx := nx; clear nx; have hs := ns; clear ns; have g0 := n0; clear n0; have g1 := n1; clear n1)
  go_ret2
  exact ⟨_, rfl, Or.inl ⟨by unfold dqP; omega, rfl⟩, Ext.auK⟩

theorem iDivideOf_zi (e f a b mode : Int) (hg : abB e f a b mode = true) (ka : kindV e f a = 0) (fa : finB e f a = true) (na : unitsV e f a = 0) (kb : kindV e f b = 3) (fb : finB e f b = false) (nb : numB e f b = true) (w : World) (hT : TW w) : Calls Tryz.prog 35 #[fmt e f, .int .i64 a, .int .i64 b, .int .i64 mode] w (ARboth (DvD e f a b mode) w) := by
  obtain ⟨hap, hbp, m0, m1⟩ := ab_iff.1 hg
  have hg0 := (pat_iff.1 hap).1
  obtain ⟨xr, sx⟩ := sx_xor hap hbp
  obtain ⟨ua1, ua2, ua3, ua4, ua5⟩ := un_small hap
  obtain ⟨ub1, ub2, ub3, ub4, ub5⟩ := un_small hbp
  have u1 := un_bd (pat_iff.1 hap).1
  have zA : (unitsV e f a) = 0 → ((odV (unitsV e f a)).natAbs : Int) = 0 := fun h => by rw [h, od_zero]; rfl
  have zB : (unitsV e f b) = 0 → ((odV (unitsV e f b)).natAbs : Int) = 0 := fun h => by rw [h, od_zero]; rfl
  have zA2 : (unitsV e f a) ≠ 0 → ¬ ((odV (unitsV e f a)).natAbs : Int) = 0 := fun h h2 => h ((od_sign (S := (unitsV e f a)) (by have := units_bd e f a hap; omega) (by have := units_bd e f a hap; omega)).2.1 (by omega))
  have zB2 : (unitsV e f b) ≠ 0 → ¬ ((odV (unitsV e f b)).natAbs : Int) = 0 := fun h h2 => h ((od_sign (S := (unitsV e f b)) (by have := units_bd e f b hbp; omega) (by have := units_bd e f b hbp; omega)).2.1 (by omega))
  have oa := op_fin (e := e) (f := f) (p := a) fa
  have ob := op_inf (e := e) (f := f) (p := b) fb nb
  have OC := Lib.hid (fun (w : World) (hT : TW w) => ofTwoOver_fin e f a b mode (sxV e f a b) 0 0 hap hbp m0 m1 sx (by omega) (by omega) (by omega) (by omega) (fun w => by rw [oa, ob]; exact over_fi (a / pw (e + f)) ((odV (unitsV e f a)).natAbs : Int) (shE (unitsV e f a) (unV e f)) (b / pw (e + f)) (sxV e f a b) xr w) w hT)
  clear xr oa ob zA zB zA2 zB2 ua1 ua2 ua3 ua4 ua5 ub1 ub2 ub3 ub4 ub5 u1 sx
  go_enter Tryz.func35, Tryz.ntmps35
  go_wp2_with (go_at_call 64; refine (OC.out _ (hT.ext Ext.auK)).mono ?_; rintro rv w1 ⟨s, rfl, hq, hb⟩; obtain rfl := rnd_zero hg0 rfl hq; clear hq; have ns : w.heap.size < w1.heap.size := hb.ltK; have n0 : w1.cell? ⟨w.heap.size, 0, none⟩ = some (.int .i64 e) := hb.cellK; have n1 : w1.cell? ⟨w.heap.size, 1, none⟩ = some (.int .i64 f) := hb.cellK; (first | (have nx := hx.trK hb; clear hx) | have nx := hb); clear hb; try clear hs; try clear g0; try clear g1; have hx := nx; clear nx; have hs := ns; clear ns; have g0 := n0; clear n0; have g1 := n1; clear n1)
  go_ret2
  exact ⟨_, rfl, Or.inr (Or.inr (Or.inl ⟨by unfold dqP; omega, by omega, by omega, by omega, by simp⟩)), Ext.auK⟩

theorem iDivideOf_zz (e f a b mode : Int) (hg : abB e f a b mode = true) (ka : kindV e f a = 0) (fa : finB e f a = true) (na : unitsV e f a = 0) (kb : kindV e f b = 0) (fb : finB e f b = true) (nb : unitsV e f b = 0) (w : World) (hT : TW w) : Calls Tryz.prog 35 #[fmt e f, .int .i64 a, .int .i64 b, .int .i64 mode] w (ARboth (DvD e f a b mode) w) := by
  obtain ⟨hap, hbp, m0, m1⟩ := ab_iff.1 hg
  have hg0 := (pat_iff.1 hap).1
  obtain ⟨xr, sx⟩ := sx_xor hap hbp
  obtain ⟨ua1, ua2, ua3, ua4, ua5⟩ := un_small hap
  obtain ⟨ub1, ub2, ub3, ub4, ub5⟩ := un_small hbp
  have u1 := un_bd (pat_iff.1 hap).1
  have zA : (unitsV e f a) = 0 → ((odV (unitsV e f a)).natAbs : Int) = 0 := fun h => by rw [h, od_zero]; rfl
  have zB : (unitsV e f b) = 0 → ((odV (unitsV e f b)).natAbs : Int) = 0 := fun h => by rw [h, od_zero]; rfl
  have zA2 : (unitsV e f a) ≠ 0 → ¬ ((odV (unitsV e f a)).natAbs : Int) = 0 := fun h h2 => h ((od_sign (S := (unitsV e f a)) (by have := units_bd e f a hap; omega) (by have := units_bd e f a hap; omega)).2.1 (by omega))
  have zB2 : (unitsV e f b) ≠ 0 → ¬ ((odV (unitsV e f b)).natAbs : Int) = 0 := fun h h2 => h ((od_sign (S := (unitsV e f b)) (by have := units_bd e f b hbp; omega) (by have := units_bd e f b hbp; omega)).2.1 (by omega))
  have oa := op_fin (e := e) (f := f) (p := a) fa
  have ob := op_fin (e := e) (f := f) (p := b) fb
  have OC := Lib.hid (fun (w : World) (hT : TW w) => ofTwoOver_no e f a b mode hap hbp m0 m1 (fun w => by rw [oa, ob]; exact over_ff (a / pw (e + f)) ((odV (unitsV e f a)).natAbs : Int) (shE (unitsV e f a) (unV e f)) (b / pw (e + f)) ((odV (unitsV e f b)).natAbs : Int) (shE (unitsV e f b) (unV e f)) (sxV e f a b) _ xr (fun w => fover_zz (a / pw (e + f)) ((odV (unitsV e f a)).natAbs : Int) (shE (unitsV e f a) (unV e f)) (b / pw (e + f)) ((odV (unitsV e f b)).natAbs : Int) (shE (unitsV e f b) (unV e f)) (sxV e f a b) xr (zA na) (zB nb) w) w) w hT)
  clear xr oa ob zA zB zA2 zB2 ua1 ua2 ua3 ua4 ua5 ub1 ub2 ub3 ub4 ub5 u1 sx
  go_enter Tryz.func35, Tryz.ntmps35
  go_wp2_with (go_at_call 64; refine (OC.out _ (hT.ext Ext.auK)).mono ?_; rintro rv w1 ⟨rfl, hb⟩; have ns : w.heap.size < w1.heap.size := hb.ltK; have n0 : w1.cell? ⟨w.heap.size, 0, none⟩ = some (.int .i64 e) := hb.cellK; have n1 : w1.cell? ⟨w.heap.size, 1, none⟩ = some (.int .i64 f) := hb.cellK; (first | (have nx := hx.trK hb; clear hx) | have nx := hb); clear hb; try clear hs; try clear g0; try clear g1; have hx := nx; clear nx; have hs := ns; clear ns; have g0 := n0; clear n0; have g1 := n1; clear n1)
  go_ret2
  exact ⟨_, rfl, Or.inl ⟨by unfold dqP; omega, rfl⟩, Ext.auK⟩

theorem iDivideOf_zf (e f a b mode : Int) (hg : abB e f a b mode = true) (ka : kindV e f a = 0) (fa : finB e f a = true) (na : unitsV e f a = 0) (kb : kindV e f b = 1 ∨ kindV e f b = 2) (fb : finB e f b = true) (nb : unitsV e f b ≠ 0) (w : World) (hT : TW w) : Calls Tryz.prog 35 #[fmt e f, .int .i64 a, .int .i64 b, .int .i64 mode] w (ARboth (DvD e f a b mode) w) := by
  obtain ⟨hap, hbp, m0, m1⟩ := ab_iff.1 hg
  have hg0 := (pat_iff.1 hap).1
  obtain ⟨xr, sx⟩ := sx_xor hap hbp
  obtain ⟨ua1, ua2, ua3, ua4, ua5⟩ := un_small hap
  obtain ⟨ub1, ub2, ub3, ub4, ub5⟩ := un_small hbp
  have u1 := un_bd (pat_iff.1 hap).1
  have zA : (unitsV e f a) = 0 → ((odV (unitsV e f a)).natAbs : Int) = 0 := fun h => by rw [h, od_zero]; rfl
  have zB : (unitsV e f b) = 0 → ((odV (unitsV e f b)).natAbs : Int) = 0 := fun h => by rw [h, od_zero]; rfl
  have zA2 : (unitsV e f a) ≠ 0 → ¬ ((odV (unitsV e f a)).natAbs : Int) = 0 := fun h h2 => h ((od_sign (S := (unitsV e f a)) (by have := units_bd e f a hap; omega) (by have := units_bd e f a hap; omega)).2.1 (by omega))
  have zB2 : (unitsV e f b) ≠ 0 → ¬ ((odV (unitsV e f b)).natAbs : Int) = 0 := fun h h2 => h ((od_sign (S := (unitsV e f b)) (by have := units_bd e f b hbp; omega) (by have := units_bd e f b hbp; omega)).2.1 (by omega))
  have q0 : 0 < ((odV (unitsV e f b)).natAbs : Int) := by have := zB2 nb; omega
  obtain ⟨q1, q2⟩ := oq_sz (n := ((odV (unitsV e f a)).natAbs : Int)) q0 (by omega) (by omega)
  have z0 : (oqV (((odV (unitsV e f a)).natAbs : Int) * 268435456) ((odV (unitsV e f b)).natAbs : Int)) = 0 := by rw [zA na, Int.zero_mul]; exact oq_zero _
  have ea : (shE (unitsV e f a) (unV e f)) = 0 := ua5 na
  have eb := ub4 nb
  have oa := op_fin (e := e) (f := f) (p := a) fa
  have ob := op_fin (e := e) (f := f) (p := b) fb
  have OC := Lib.hid (fun (w : World) (hT : TW w) => ofTwoOver_fin e f a b mode (sxV e f a b) (oqV (((odV (unitsV e f a)).natAbs : Int) * 268435456) ((odV (unitsV e f b)).natAbs : Int)) ((shE (unitsV e f a) (unV e f)) - (shE (unitsV e f b) (unV e f)) - 28 - 1) hap hbp m0 m1 sx q1 q2 (by omega) (by omega) (fun w => by rw [oa, ob]; exact over_ff (a / pw (e + f)) ((odV (unitsV e f a)).natAbs : Int) (shE (unitsV e f a) (unV e f)) (b / pw (e + f)) ((odV (unitsV e f b)).natAbs : Int) (shE (unitsV e f b) (unV e f)) (sxV e f a b) _ xr (fun w => fover_qt (a / pw (e + f)) ((odV (unitsV e f a)).natAbs : Int) (shE (unitsV e f a) (unV e f)) (b / pw (e + f)) ((odV (unitsV e f b)).natAbs : Int) (shE (unitsV e f b) (unV e f)) (sxV e f a b) xr (zA na) (zB2 nb) (by omega) (by omega) (by have := zB2 nb; omega) (by omega) (by omega) (by omega) (by omega) w) w) w hT)
  clear xr oa ob zA zB zA2 zB2 ua1 ua2 ua3 ua4 ua5 ub1 ub2 ub3 ub4 ub5 u1 sx
  go_enter Tryz.func35, Tryz.ntmps35
  go_wp2_with (go_at_call 64; refine (OC.out _ (hT.ext Ext.auK)).mono ?_; rintro rv w1 ⟨s, rfl, hq, hb⟩; obtain rfl := rnd_zero hg0 z0 hq; clear hq; have ns : w.heap.size < w1.heap.size := hb.ltK; have n0 : w1.cell? ⟨w.heap.size, 0, none⟩ = some (.int .i64 e) := hb.cellK; have n1 : w1.cell? ⟨w.heap.size, 1, none⟩ = some (.int .i64 f) := hb.cellK; (first | (have nx := hx.trK hb; clear hx) | have nx := hb); clear hb; try clear hs; try clear g0; try clear g1; have hx := nx; clear nx; have hs := ns; clear ns; have g0 := n0; clear n0; have g1 := n1; clear n1)
  go_ret2
  exact ⟨_, rfl, Or.inr (Or.inr (Or.inl ⟨by unfold dqP; omega, by omega, by omega, by omega, by simp⟩)), Ext.auK⟩

theorem iDivideOf_fx (e f a b mode : Int) (hg : abB e f a b mode = true) (ka : kindV e f a = 1 ∨ kindV e f a = 2) (fa : finB e f a = true) (na : unitsV e f a ≠ 0) (kb : kindV e f b = 4) (fb : finB e f b = false) (nb : numB e f b = false) (w : World) (hT : TW w) : Calls Tryz.prog 35 #[fmt e f, .int .i64 a, .int .i64 b, .int .i64 mode] w (ARboth (DvD e f a b mode) w) := by
  obtain ⟨hap, hbp, m0, m1⟩ := ab_iff.1 hg
  have hg0 := (pat_iff.1 hap).1
  obtain ⟨xr, sx⟩ := sx_xor hap hbp
  obtain ⟨ua1, ua2, ua3, ua4, ua5⟩ := un_small hap
  obtain ⟨ub1, ub2, ub3, ub4, ub5⟩ := un_small hbp
  have u1 := un_bd (pat_iff.1 hap).1
  have zA : (unitsV e f a) = 0 → ((odV (unitsV e f a)).natAbs : Int) = 0 := fun h => by rw [h, od_zero]; rfl
  have zB : (unitsV e f b) = 0 → ((odV (unitsV e f b)).natAbs : Int) = 0 := fun h => by rw [h, od_zero]; rfl
  have zA2 : (unitsV e f a) ≠ 0 → ¬ ((odV (unitsV e f a)).natAbs : Int) = 0 := fun h h2 => h ((od_sign (S := (unitsV e f a)) (by have := units_bd e f a hap; omega) (by have := units_bd e f a hap; omega)).2.1 (by omega))
  have zB2 : (unitsV e f b) ≠ 0 → ¬ ((odV (unitsV e f b)).natAbs : Int) = 0 := fun h h2 => h ((od_sign (S := (unitsV e f b)) (by have := units_bd e f b hbp; omega) (by have := units_bd e f b hbp; omega)).2.1 (by omega))
  have oa := op_fin (e := e) (f := f) (p := a) fa
  have ob := op_no (e := e) (f := f) (p := b) fb nb
  have OC := Lib.hid (fun (w : World) (hT : TW w) => ofTwoOver_no e f a b mode hap hbp m0 m1 (fun w => by rw [oa, ob]; exact over_fn (a / pw (e + f)) ((odV (unitsV e f a)).natAbs : Int) (shE (unitsV e f a) (unV e f)) _ rfl w) w hT)
  clear xr oa ob zA zB zA2 zB2 ua1 ua2 ua3 ua4 ua5 ub1 ub2 ub3 ub4 ub5 u1 sx
  go_enter Tryz.func35, Tryz.ntmps35
  go_wp2_with (go_at_call 64; refine (OC.out _ (hT.ext Ext.auK)).mono ?_; rintro rv w1 ⟨rfl, hb⟩; have ns : w.heap.size < w1.heap.size := hb.ltK; have n0 : w1.cell? ⟨w.heap.size, 0, none⟩ = some (.int .i64 e) := hb.cellK; have n1 : w1.cell? ⟨w.heap.size, 1, none⟩ = some (.int .i64 f) := hb.cellK; (first | (have nx := hx.trK hb; clear hx) | have nx := hb); clear hb; try clear hs; try clear g0; try clear g1; have hx := nx; clear nx; have hs := ns; clear ns; have g0 := n0; clear n0; have g1 := n1; clear n1)
  go_ret2
  exact ⟨_, rfl, Or.inl ⟨by unfold dqP; omega, rfl⟩, Ext.auK⟩

theorem iDivideOf_fi (e f a b mode : Int) (hg : abB e f a b mode = true) (ka : kindV e f a = 1 ∨ kindV e f a = 2) (fa : finB e f a = true) (na : unitsV e f a ≠ 0) (kb : kindV e f b = 3) (fb : finB e f b = false) (nb : numB e f b = true) (w : World) (hT : TW w) : Calls Tryz.prog 35 #[fmt e f, .int .i64 a, .int .i64 b, .int .i64 mode] w (ARboth (DvD e f a b mode) w) := by
  obtain ⟨hap, hbp, m0, m1⟩ := ab_iff.1 hg
  have hg0 := (pat_iff.1 hap).1
  obtain ⟨xr, sx⟩ := sx_xor hap hbp
  obtain ⟨ua1, ua2, ua3, ua4, ua5⟩ := un_small hap
  obtain ⟨ub1, ub2, ub3, ub4, ub5⟩ := un_small hbp
  have u1 := un_bd (pat_iff.1 hap).1
  have zA : (unitsV e f a) = 0 → ((odV (unitsV e f a)).natAbs : Int) = 0 := fun h => by rw [h, od_zero]; rfl
  have zB : (unitsV e f b) = 0 → ((odV (unitsV e f b)).natAbs : Int) = 0 := fun h => by rw [h, od_zero]; rfl
  have zA2 : (unitsV e f a) ≠ 0 → ¬ ((odV (unitsV e f a)).natAbs : Int) = 0 := fun h h2 => h ((od_sign (S := (unitsV e f a)) (by have := units_bd e f a hap; omega) (by have := units_bd e f a hap; omega)).2.1 (by omega))
  have zB2 : (unitsV e f b) ≠ 0 → ¬ ((odV (unitsV e f b)).natAbs : Int) = 0 := fun h h2 => h ((od_sign (S := (unitsV e f b)) (by have := units_bd e f b hbp; omega) (by have := units_bd e f b hbp; omega)).2.1 (by omega))
  have oa := op_fin (e := e) (f := f) (p := a) fa
  have ob := op_inf (e := e) (f := f) (p := b) fb nb
  have OC := Lib.hid (fun (w : World) (hT : TW w) => ofTwoOver_fin e f a b mode (sxV e f a b) 0 0 hap hbp m0 m1 sx (by omega) (by omega) (by omega) (by omega) (fun w => by rw [oa, ob]; exact over_fi (a / pw (e + f)) ((odV (unitsV e f a)).natAbs : Int) (shE (unitsV e f a) (unV e f)) (b / pw (e + f)) (sxV e f a b) xr w) w hT)
  clear xr oa ob zA zB zA2 zB2 ua1 ua2 ua3 ua4 ua5 ub1 ub2 ub3 ub4 ub5 u1 sx
  go_enter Tryz.func35, Tryz.ntmps35
  go_wp2_with (go_at_call 64; refine (OC.out _ (hT.ext Ext.auK)).mono ?_; rintro rv w1 ⟨s, rfl, hq, hb⟩; obtain rfl := rnd_zero hg0 rfl hq; clear hq; have ns : w.heap.size < w1.heap.size := hb.ltK; have n0 : w1.cell? ⟨w.heap.size, 0, none⟩ = some (.int .i64 e) := hb.cellK; have n1 : w1.cell? ⟨w.heap.size, 1, none⟩ = some (.int .i64 f) := hb.cellK; (first | (have nx := hx.trK hb; clear hx) | have nx := hb); clear hb; try clear hs; try clear g0; try clear g1; have hx := nx; clear nx; have hs := ns; clear ns; have g0 := n0; clear n0; have g1 := n1; clear n1)
  go_ret2
  exact ⟨_, rfl, Or.inr (Or.inr (Or.inl ⟨by unfold dqP; omega, by omega, by omega, by omega, by simp⟩)), Ext.auK⟩

theorem iDivideOf_fz (e f a b mode : Int) (hg : abB e f a b mode = true) (ka : kindV e f a = 1 ∨ kindV e f a = 2) (fa : finB e f a = true) (na : unitsV e f a ≠ 0) (kb : kindV e f b = 0) (fb : finB e f b = true) (nb : unitsV e f b = 0) (w : World) (hT : TW w) : Calls Tryz.prog 35 #[fmt e f, .int .i64 a, .int .i64 b, .int .i64 mode] w (ARboth (DvD e f a b mode) w) := by
  obtain ⟨hap, hbp, m0, m1⟩ := ab_iff.1 hg
  have hg0 := (pat_iff.1 hap).1
  obtain ⟨xr, sx⟩ := sx_xor hap hbp
  obtain ⟨ua1, ua2, ua3, ua4, ua5⟩ := un_small hap
  obtain ⟨ub1, ub2, ub3, ub4, ub5⟩ := un_small hbp
  have u1 := un_bd (pat_iff.1 hap).1
  have zA : (unitsV e f a) = 0 → ((odV (unitsV e f a)).natAbs : Int) = 0 := fun h => by rw [h, od_zero]; rfl
  have zB : (unitsV e f b) = 0 → ((odV (unitsV e f b)).natAbs : Int) = 0 := fun h => by rw [h, od_zero]; rfl
  have zA2 : (unitsV e f a) ≠ 0 → ¬ ((odV (unitsV e f a)).natAbs : Int) = 0 := fun h h2 => h ((od_sign (S := (unitsV e f a)) (by have := units_bd e f a hap; omega) (by have := units_bd e f a hap; omega)).2.1 (by omega))
  have zB2 : (unitsV e f b) ≠ 0 → ¬ ((odV (unitsV e f b)).natAbs : Int) = 0 := fun h h2 => h ((od_sign (S := (unitsV e f b)) (by have := units_bd e f b hbp; omega) (by have := units_bd e f b hbp; omega)).2.1 (by omega))
  have oa := op_fin (e := e) (f := f) (p := a) fa
  have ob := op_fin (e := e) (f := f) (p := b) fb
  have OC := Lib.hid (fun (w : World) (hT : TW w) => ofTwoOver_inf e f a b mode (sxV e f a b) hap hbp m0 m1 sx (fun w => by rw [oa, ob]; exact over_ff (a / pw (e + f)) ((odV (unitsV e f a)).natAbs : Int) (shE (unitsV e f a) (unV e f)) (b / pw (e + f)) ((odV (unitsV e f b)).natAbs : Int) (shE (unitsV e f b) (unV e f)) (sxV e f a b) _ xr (fun w => fover_xz (a / pw (e + f)) ((odV (unitsV e f a)).natAbs : Int) (shE (unitsV e f a) (unV e f)) (b / pw (e + f)) ((odV (unitsV e f b)).natAbs : Int) (shE (unitsV e f b) (unV e f)) (sxV e f a b) xr (zA2 na) (zB nb) w) w) w hT)
  clear xr oa ob zA zB zA2 zB2 ua1 ua2 ua3 ua4 ua5 ub1 ub2 ub3 ub4 ub5 u1 sx
  go_enter Tryz.func35, Tryz.ntmps35
  go_wp2_with (go_at_call 64; refine (OC.out _ (hT.ext Ext.auK)).mono ?_; rintro rv w1 ⟨rfl, hb⟩; have ns : w.heap.size < w1.heap.size := hb.ltK; have n0 : w1.cell? ⟨w.heap.size, 0, none⟩ = some (.int .i64 e) := hb.cellK; have n1 : w1.cell? ⟨w.heap.size, 1, none⟩ = some (.int .i64 f) := hb.cellK; (first | (have nx := hx.trK hb; clear hx) | have nx := hb); clear hb; try clear hs; try clear g0; try clear g1; have hx := nx; clear nx; have hs := ns; clear ns; have g0 := n0; clear n0; have g1 := n1; clear n1)
  go_ret2
  exact ⟨_, rfl, Or.inr (Or.inl ⟨by unfold dqP; omega, by omega, rfl⟩), Ext.auK⟩

theorem iDivideOf_ff (e f a b mode : Int) (hg : abB e f a b mode = true) (ka : kindV e f a = 1 ∨ kindV e f a = 2) (fa : finB e f a = true) (na : unitsV e f a ≠ 0) (kb : kindV e f b = 1 ∨ kindV e f b = 2) (fb : finB e f b = true) (nb : unitsV e f b ≠ 0) (w : World) (hT : TW w) : Calls Tryz.prog 35 #[fmt e f, .int .i64 a, .int .i64 b, .int .i64 mode] w (ARboth (DvD e f a b mode) w) := by
  obtain ⟨hap, hbp, m0, m1⟩ := ab_iff.1 hg
  have hg0 := (pat_iff.1 hap).1
  obtain ⟨xr, sx⟩ := sx_xor hap hbp
  obtain ⟨ua1, ua2, ua3, ua4, ua5⟩ := un_small hap
  obtain ⟨ub1, ub2, ub3, ub4, ub5⟩ := un_small hbp
  have u1 := un_bd (pat_iff.1 hap).1
  have zA : (unitsV e f a) = 0 → ((odV (unitsV e f a)).natAbs : Int) = 0 := fun h => by rw [h, od_zero]; rfl
  have zB : (unitsV e f b) = 0 → ((odV (unitsV e f b)).natAbs : Int) = 0 := fun h => by rw [h, od_zero]; rfl
  have zA2 : (unitsV e f a) ≠ 0 → ¬ ((odV (unitsV e f a)).natAbs : Int) = 0 := fun h h2 => h ((od_sign (S := (unitsV e f a)) (by have := units_bd e f a hap; omega) (by have := units_bd e f a hap; omega)).2.1 (by omega))
  have zB2 : (unitsV e f b) ≠ 0 → ¬ ((odV (unitsV e f b)).natAbs : Int) = 0 := fun h h2 => h ((od_sign (S := (unitsV e f b)) (by have := units_bd e f b hbp; omega) (by have := units_bd e f b hbp; omega)).2.1 (by omega))
  have q0 : 0 < ((odV (unitsV e f b)).natAbs : Int) := by have := zB2 nb; omega
  obtain ⟨q1, q2⟩ := oq_sz (n := ((odV (unitsV e f a)).natAbs : Int)) q0 (by omega) (by omega)
  have ea := ua4 na
  have eb := ub4 nb
  have oa := op_fin (e := e) (f := f) (p := a) fa
  have ob := op_fin (e := e) (f := f) (p := b) fb
  have OC := Lib.hid (fun (w : World) (hT : TW w) => ofTwoOver_fin e f a b mode (sxV e f a b) (oqV (((odV (unitsV e f a)).natAbs : Int) * 268435456) ((odV (unitsV e f b)).natAbs : Int)) ((shE (unitsV e f a) (unV e f)) - (shE (unitsV e f b) (unV e f)) - 28 - 1) hap hbp m0 m1 sx q1 q2 (by omega) (by omega) (fun w => by rw [oa, ob]; exact over_ff (a / pw (e + f)) ((odV (unitsV e f a)).natAbs : Int) (shE (unitsV e f a) (unV e f)) (b / pw (e + f)) ((odV (unitsV e f b)).natAbs : Int) (shE (unitsV e f b) (unV e f)) (sxV e f a b) _ xr (fun w => fover_qf (a / pw (e + f)) ((odV (unitsV e f a)).natAbs : Int) (shE (unitsV e f a) (unV e f)) (b / pw (e + f)) ((odV (unitsV e f b)).natAbs : Int) (shE (unitsV e f b) (unV e f)) (sxV e f a b) xr (zA2 na) (zB2 nb) (by omega) (by omega) (by have := zB2 nb; omega) (by omega) (by omega) (by omega) (by omega) w) w) w hT)
  clear xr oa ob zA zB zA2 zB2 ua1 ua2 ua3 ua4 ua5 ub1 ub2 ub3 ub4 ub5 u1 sx
  go_enter Tryz.func35, Tryz.ntmps35
  go_wp2_with (go_at_call 64; refine (OC.out _ (hT.ext Ext.auK)).mono ?_; rintro rv w1 ⟨s, rfl, hq, hb⟩; have HQ := Lib.hid (rnd_pow (k2 := ((shE (unitsV e f a) (unV e f)) - (shE (unitsV e f b) (unV e f)) - 29) - (unV e f)) (by omega) hq); clear hq; have ns : w.heap.size < w1.heap.size := hb.ltK; have n0 : w1.cell? ⟨w.heap.size, 0, none⟩ = some (.int .i64 e) := hb.cellK; have n1 : w1.cell? ⟨w.heap.size, 1, none⟩ = some (.int .i64 f) := hb.cellK; (first | (have nx := hx.trK hb; clear hx) | have nx := hb); clear hb; try clear hs; try clear g0; try clear g1; have hx := nx; clear nx; have hs := ns; clear ns; have g0 := n0; clear n0; have g1 := n1; clear n1)
  go_ret2
  exact ⟨_, rfl, Or.inr (Or.inr (Or.inr ⟨by omega, by omega, s, rfl, HQ.out⟩)), Ext.auK⟩

theorem iDivideOf_yes (e f a b mode : Int) (hg : abB e f a b mode = true) (w : World) (hT : TW w) : Calls Tryz.prog 35 #[fmt e f, .int .i64 a, .int .i64 b, .int .i64 mode] w (ARboth (DvD e f a b mode) w) := by
  obtain ⟨hap, hbp, _, _⟩ := ab_iff.1 hg
  rcases kind_parts hap with ⟨ka, fa, na⟩ | ⟨ka, fa, na⟩ | ⟨ka, fa, na⟩ | ⟨ka, fa, na⟩
  · rcases kind_parts hbp with ⟨kb, fb, nb⟩ | ⟨kb, fb, nb⟩ | ⟨kb, fb, nb⟩ | ⟨kb, fb, nb⟩
    · exact iDivideOf_xx e f a b mode hg ka fa na kb fb nb w hT
    · exact iDivideOf_xi e f a b mode hg ka fa na kb fb nb w hT
    · exact iDivideOf_xz e f a b mode hg ka fa na kb fb nb w hT
    · exact iDivideOf_xf e f a b mode hg ka fa na kb fb nb w hT
  · rcases kind_parts hbp with ⟨kb, fb, nb⟩ | ⟨kb, fb, nb⟩ | ⟨kb, fb, nb⟩ | ⟨kb, fb, nb⟩
    · exact iDivideOf_ix e f a b mode hg ka fa na kb fb nb w hT
    · exact iDivideOf_ii e f a b mode hg ka fa na kb fb nb w hT
    · exact iDivideOf_iz e f a b mode hg ka fa na kb fb nb w hT
    · exact iDivideOf_if e f a b mode hg ka fa na kb fb nb w hT
  · rcases kind_parts hbp with ⟨kb, fb, nb⟩ | ⟨kb, fb, nb⟩ | ⟨kb, fb, nb⟩ | ⟨kb, fb, nb⟩
    · exact iDivideOf_zx e f a b mode hg ka fa na kb fb nb w hT
    · exact iDivideOf_zi e f a b mode hg ka fa na kb fb nb w hT
    · exact iDivideOf_zz e f a b mode hg ka fa na kb fb nb w hT
    · exact iDivideOf_zf e f a b mode hg ka fa na kb fb nb w hT
  · rcases kind_parts hbp with ⟨kb, fb, nb⟩ | ⟨kb, fb, nb⟩ | ⟨kb, fb, nb⟩ | ⟨kb, fb, nb⟩
    · exact iDivideOf_fx e f a b mode hg ka fa na kb fb nb w hT
    · exact iDivideOf_fi e f a b mode hg ka fa na kb fb nb w hT
    · exact iDivideOf_fz e f a b mode hg ka fa na kb fb nb w hT
    · exact iDivideOf_ff e f a b mode hg ka fa na kb fb nb w hT
end Go.Proofs.YtfgbndjhaiigbaaGreatDoor

