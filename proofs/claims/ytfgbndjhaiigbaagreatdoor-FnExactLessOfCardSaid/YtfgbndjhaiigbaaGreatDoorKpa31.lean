/-
  Contracts of the functions that the laws reach, and the plain facts that they rest on, each under the conditions that its line names; part 31.
-/
import Derived.Test.YtfgbndjhaiigbaaGreatDoorKpa1
import Derived.Test.YtfgbndjhaiigbaaGreatDoorKpa2
import Derived.Test.YtfgbndjhaiigbaaGreatDoorKpa3
import Derived.Test.YtfgbndjhaiigbaaGreatDoorKpa4
import Derived.Test.YtfgbndjhaiigbaaGreatDoorKpa5
import Derived.Test.YtfgbndjhaiigbaaGreatDoorKpa6
import Derived.Test.YtfgbndjhaiigbaaGreatDoorKpa7
import Derived.Test.YtfgbndjhaiigbaaGreatDoorKpa8
import Derived.Test.YtfgbndjhaiigbaaGreatDoorKpa9
import Derived.Test.YtfgbndjhaiigbaaGreatDoorKpa10
import Derived.Test.YtfgbndjhaiigbaaGreatDoorKpa11
import Derived.Test.YtfgbndjhaiigbaaGreatDoorKpa12
import Derived.Test.YtfgbndjhaiigbaaGreatDoorKpa13
import Derived.Test.YtfgbndjhaiigbaaGreatDoorKpa14
import Derived.Test.YtfgbndjhaiigbaaGreatDoorKpa15
import Derived.Test.YtfgbndjhaiigbaaGreatDoorKpa16
import Derived.Test.YtfgbndjhaiigbaaGreatDoorKpa17
import Derived.Test.YtfgbndjhaiigbaaGreatDoorKpa18
import Derived.Test.YtfgbndjhaiigbaaGreatDoorKpa19
import Derived.Test.YtfgbndjhaiigbaaGreatDoorKpa20
import Derived.Test.YtfgbndjhaiigbaaGreatDoorKpa21
import Derived.Test.YtfgbndjhaiigbaaGreatDoorKpa22
import Derived.Test.YtfgbndjhaiigbaaGreatDoorKpa23
import Derived.Test.YtfgbndjhaiigbaaGreatDoorKpa24
import Derived.Test.YtfgbndjhaiigbaaGreatDoorKpa25
import Derived.Test.YtfgbndjhaiigbaaGreatDoorKpa26
import Derived.Test.YtfgbndjhaiigbaaGreatDoorKpa27
import Derived.Test.YtfgbndjhaiigbaaGreatDoorKpa28
import Derived.Test.YtfgbndjhaiigbaaGreatDoorKpa29
import Derived.Test.YtfgbndjhaiigbaaGreatDoorKpa30
import Derived.Test.YtfgbndjhaiigbaaGreatDoorRows
import Derived.WalkKit
import Derived.Handy
import Derived.LoopTactic
import Derived.LoopN
import Derived.Laws.OwnMore
import Derived.OwnWalk
import Derived.Deep.AppendLies
import Derived.Laws.Bits64b
import Derived.WalkSpells
import Derived.WalkLawsBesides
import Derived.StillTactics
import Derived.Laws.Pointers
import Derived.Deep.RegionHeld3
import Derived.Deep.QuietTactic
import Derived.BigQuiet
import Derived.Outline
import Derived.Lib.Hide
import Derived.RowKit3
import Derived.Carry
import Derived.IntWalk
import Derived.Laws.EntriesVeiled
namespace Go.Proofs.YtfgbndjhaiigbaaGreatDoor
open Go Go.RowKit
set_option linter.unusedSimpArgs false
set_option linter.unusedVariables false
set_option maxRecDepth 100000

theorem ofTwo_bad (e f a b mode : Int) (v : Value) (hg : abB e f a b mode = false) (w : World) (hT : TW w) : Calls Tryz.prog 64 #[fmt e f, .int .i64 a, .int .i64 b, .int .i64 mode, v] w fun rv w' => rv = .returned (.tuple #[.int .i64 0, .bool false]) ∧ Ext w w' := by
  have g1 : moB mode = false ∨ (moB mode = true ∧ patB e f a = false) ∨ (moB mode = true ∧ patB e f a = true ∧ patB e f b = false) := by
    cases h0 : moB mode
    · exact Or.inl rfl
    · rcases ab_no hg with h | ⟨h, h2⟩ | ⟨_, _, h2⟩
      · exact Or.inr (Or.inl ⟨rfl, h⟩)
      · exact Or.inr (Or.inr ⟨rfl, h, h2⟩)
      · rw [h0] at h2; cases h2
  rcases g1 with h0 | ⟨h0, h1⟩ | ⟨h0, h1, h2⟩
  · go_enter Tryz.func64, Tryz.ntmps64
    go_wp2_with (go_at_call 73; (with_reducible refine (operandsOf_mode e f mode _ h0 _).mono ?_); rintro rv w1 ⟨rfl, hb⟩; have hx : Ext w w1 := Ext.trans Ext.auK hb; clear hb)
    go_ret2
    exact ⟨rfl, hx⟩
  · go_enter Tryz.func64, Tryz.ntmps64
    go_wp2_with (go_at_call 73; (with_reducible refine (operandsOf2_na e f mode a b (w.heap.size + 1) h0 h1 _ (hT.ext Ext.auK) (by first | with_reducible assumption | (simp; done) | (simp [go_sem]; done)) (by first | with_reducible assumption | (simp; done) | (simp [go_sem]; done)) (by simp; try omega)).mono ?_); rintro rv w1 ⟨rfl, hb⟩; have hx : Ext w w1 := Ext.trans Ext.auK hb; clear hb)
    go_ret2
    exact ⟨rfl, hx⟩
  · go_enter Tryz.func64, Tryz.ntmps64
    go_wp2_with (go_at_call 73; (with_reducible refine (operandsOf2_nb e f mode a b (w.heap.size + 1) h0 h1 h2 _ (hT.ext Ext.auK) (by first | with_reducible assumption | (simp; done) | (simp [go_sem]; done)) (by first | with_reducible assumption | (simp; done) | (simp [go_sem]; done)) (by simp; try omega)).mono ?_); rintro rv w1 ⟨rfl, hb⟩; have hx : Ext w w1 := Ext.trans Ext.auK hb; clear hb)
    go_ret2
    exact ⟨rfl, hx⟩
end Go.Proofs.YtfgbndjhaiigbaaGreatDoor

namespace Go.Proofs.YtfgbndjhaiigbaaGreatDoor
open Go Go.RowKit
set_option linter.unusedSimpArgs false
set_option linter.unusedVariables false
set_option maxRecDepth 100000

theorem qu_val {e f p : Int} (hp : patB e f p = true) : ((odV (unitsV e f p)).natAbs : Int) * pw (shE (unitsV e f p) (unV e f) - (unV e f - 2)) = 4 * ((unitsV e f p).natAbs : Int) := by
  have ub := units_bd e f p hp
  by_cases h0 : unitsV e f p = 0
  · rw [h0, od_zero]; simp
  · obtain ⟨t0, t1, t2, t3⟩ := tz_spec (unitsV e f p) h0 (by omega) (by omega)
    rw [show shE (unitsV e f p) (unV e f) - (unV e f - 2) = tzV (unitsV e f p) + 2 by rw [show shE (unitsV e f p) (unV e f) = unV e f + tzV (unitsV e f p) from if_neg h0]; omega, pw_add _ _ t0 (by omega), ← Int.mul_assoc, show pw 2 = 4 from rfl]
    have : ((odV (unitsV e f p)).natAbs : Int) * pw (tzV (unitsV e f p)) = ((unitsV e f p).natAbs : Int) := by
      have q : (unitsV e f p).natAbs = (odV (unitsV e f p) * pw (tzV (unitsV e f p))).natAbs := by rw [← t2]
      rw [q, Int.natAbs_mul, Int.natCast_mul]
      have := pw_pos (tzV (unitsV e f p))
      first | (congr 1; done) | (congr 1; omega)
    omega

theorem quarters_op (e f p : Int) (hp : patB e f p = true) (w : World) : Calls Tryz.prog 149 #[.agg #[.int .i64 (p / pw (e + f)), .int .i64 ((odV (unitsV e f p)).natAbs : Int), .int .i64 (shE (unitsV e f p) (unV e f))], fmt e f] w fun rv w' => rv = .returned (.int .i64 (4 * unitsV e f p)) ∧ Ext w w' := by
  have hg := (pat_iff.1 hp).1
  have u := un_bd hg
  obtain ⟨s1, s2, s3, s4, s5⟩ := un_small hp
  have ub := units_bd e f p hp
  have q := qu_val hp
  have k0 : unV e f - 2 ≤ shE (unitsV e f p) (unV e f) := by by_cases h : unitsV e f p = 0; have := s5 h; omega; have := s4 h; omega
  have oe : oqV (4 * ((unitsV e f p).natAbs : Int)) 2 = 4 * ((unitsV e f p).natAbs : Int) := by
    rw [oq_pos (by decide) (by omega)]
    have : 4 * ((unitsV e f p).natAbs : Int) % 2 = 0 := by omega
    rw [if_pos this]
    omega
  have us : ((p / pw (e + f)) = 1 → unitsV e f p ≤ 0) ∧ ((p / pw (e + f)) = 0 → 0 ≤ unitsV e f p) := by
    have m := mag_bd e f p hp
    unfold unitsV
    constructor <;> intro h <;> rw [h] <;> simp <;> omega
  rcases sign_01 hp with h | h
  · rw [h]
    have := quarters_p0 e f ((odV (unitsV e f p)).natAbs : Int) (shE (unitsV e f p) (unV e f)) hg (by omega) k0 (by omega) (by rw [q]; omega) w
    rw [q, oe] at this
    have e2 := us.2 h
    rwa [show 4 * ((unitsV e f p).natAbs : Int) = 4 * unitsV e f p by omega] at this
  · rw [h]
    have := quarters_p1 e f ((odV (unitsV e f p)).natAbs : Int) (shE (unitsV e f p) (unV e f)) hg (by omega) k0 (by omega) (by rw [q]; omega) w
    rw [q, oe] at this
    have e2 := us.1 h
    rwa [show -(4 * ((unitsV e f p).natAbs : Int)) = 4 * unitsV e f p by omega] at this

/-- The sign of a sum that is 0. -/
def zsV (e f a b mode : Int) : Int := if (a / pw (e + f)) = (b / pw (e + f)) then (a / pw (e + f)) else if mode = 4 then 1 else 0

theorem fplus_any (e f a b mode z1 z2 z3 : Int) (hap : patB e f a = true) (hbp : patB e f b = true)
    (FO : ∀ w, Calls Tryz.prog 148 #[.int .i64 (4 * (unitsV e f a) + 4 * (unitsV e f b)), .int .i64 (unV e f - 2), .int .i64 (zsV e f a b mode)] w fun rv w' => rv = .returned (.agg #[.int .i64 z1, .int .i64 z2, .int .i64 z3]) ∧ Ext w w') (w : World) :
    Calls Tryz.prog 113 #[.agg #[.int .i64 (a / pw (e + f)), .int .i64 ((odV (unitsV e f a)).natAbs : Int), .int .i64 (shE (unitsV e f a) (unV e f))], fmt e f, .agg #[.int .i64 (b / pw (e + f)), .int .i64 ((odV (unitsV e f b)).natAbs : Int), .int .i64 (shE (unitsV e f b) (unV e f))], .int .i64 mode] w fun rv w' => rv = .returned (.agg #[.int .i64 z1, .int .i64 z2, .int .i64 z3]) ∧ Ext w w' := by
  have hG := (pat_iff.1 hap).1
  have b1 := units_bd e f a hap
  have b2 := units_bd e f b hbp
  have ks : IntKind.i64.wrap (4 * (unitsV e f a) + 4 * (unitsV e f b)) = 4 * (unitsV e f a) + 4 * (unitsV e f b) := IntWalk.i64_in _ (by omega)
  have q1 := fun w => quarters_op e f a hap w
  have q2 := fun w => quarters_op e f b hbp w
  unfold zsV at FO
  by_cases h : (a / pw (e + f)) = (b / pw (e + f))
  · rw [if_pos h] at FO
    rw [← h] at q2 ⊢
    exact fplus_s e f _ _ _ _ _ mode _ _ z1 z2 z3 hG q1 q2 ks FO w
  · rw [if_neg h] at FO
    by_cases h2 : mode = 4
    · rw [if_pos h2] at FO
      exact fplus_d e f _ _ _ _ _ _ mode _ _ z1 z2 z3 hG h h2 q1 q2 ks FO w
    · rw [if_neg h2] at FO
      exact fplus_o e f _ _ _ _ _ _ mode _ _ z1 z2 z3 hG h h2 q1 q2 ks FO w

theorem plusF_n (e f a b mode : Int) (hap : patB e f a = true) (hbp : patB e f b = true) (fa : finB e f a = true) (fb : finB e f b = true) (hs : ((unitsV e f a) + (unitsV e f b)) < 0) (w : World) :
    Calls Tryz.prog 66 #[fmt e f, (Value.iface (opT e f a) (opX e f a)), (Value.iface (opT e f b) (opX e f b)), .int .i64 mode] w fun rv w' => rv = .returned (.iface 82 (.agg #[.int .i64 1, .int .i64 (-(4 * (unitsV e f a) + 4 * (unitsV e f b))), .int .i64 (unV e f - 2)])) ∧ Ext w w' := by
  have b1 := units_bd e f a hap
  have b2 := units_bd e f b hbp
  rw [op_fin fa, op_fin fb]
  exact plus_ff e f _ _ _ _ _ _ mode _ _ _ (fun w => fplus_any e f a b mode _ _ _ hap hbp (fun w => finiteOf_n _ _ _ (by omega) (IntWalk.i64_in _ (by omega)) w) w) w

theorem plusF_z (e f a b mode : Int) (hap : patB e f a = true) (hbp : patB e f b = true) (fa : finB e f a = true) (fb : finB e f b = true) (hs : ((unitsV e f a) + (unitsV e f b)) = 0) (w : World) :
    Calls Tryz.prog 66 #[fmt e f, (Value.iface (opT e f a) (opX e f a)), (Value.iface (opT e f b) (opX e f b)), .int .i64 mode] w fun rv w' => rv = .returned (.iface 82 (.agg #[.int .i64 (zsV e f a b mode), .int .i64 0, .int .i64 0])) ∧ Ext w w' := by
  have b1 := units_bd e f a hap
  have b2 := units_bd e f b hbp
  rw [op_fin fa, op_fin fb]
  exact plus_ff e f _ _ _ _ _ _ mode _ _ _ (fun w => fplus_any e f a b mode _ _ _ hap hbp (fun w => finiteOf_z _ _ _ (by omega) w) w) w

theorem plusF_p (e f a b mode : Int) (hap : patB e f a = true) (hbp : patB e f b = true) (fa : finB e f a = true) (fb : finB e f b = true) (hs : 0 < ((unitsV e f a) + (unitsV e f b))) (w : World) :
    Calls Tryz.prog 66 #[fmt e f, (Value.iface (opT e f a) (opX e f a)), (Value.iface (opT e f b) (opX e f b)), .int .i64 mode] w fun rv w' => rv = .returned (.iface 82 (.agg #[.int .i64 0, .int .i64 (4 * (unitsV e f a) + 4 * (unitsV e f b)), .int .i64 (unV e f - 2)])) ∧ Ext w w' := by
  have b1 := units_bd e f a hap
  have b2 := units_bd e f b hbp
  rw [op_fin fa, op_fin fb]
  exact plus_ff e f _ _ _ _ _ _ mode _ _ _ (fun w => fplus_any e f a b mode _ _ _ hap hbp (fun w => finiteOf_p _ _ _ (by omega) w) w) w

theorem cl_plus (e f a b mode : Int) (R : Value) (gF gM : Nat) (op : ∀ w, Calls Tryz.prog 66 #[fmt e f, (Value.iface (opT e f a) (opX e f a)), (Value.iface (opT e f b) (opX e f b)), .int .i64 mode] w fun rv w' => rv = .returned (R) ∧ Ext w w') (w : World) (k0 : w.cell? ⟨gF, 0, none⟩ = some (.int .i64 e)) (k1 : w.cell? ⟨gF, 1, none⟩ = some (.int .i64 f)) (k2 : w.cell? ⟨gM, 0, none⟩ = some (.int .i64 mode)) :
    Calls Tryz.prog 65 #[(Value.iface (opT e f a) (opX e f a)), (Value.iface (opT e f b) (opX e f b)), .pointer (some ⟨gF, 0, none⟩), .pointer (some ⟨gM, 0, none⟩)] w fun rv w' => rv = .returned (R) ∧ Ext w w' := by
  have OP := Lib.hid op; clear op
  go_enter Tryz.func65, Tryz.ntmps65
  go_wp2_with (go_at_call 66; refine (OP.out _).mono ?_; rintro rv w1 ⟨rfl, hb⟩; have hx : Ext w w1 := Ext.trans Ext.auK hb; clear hb)
  go_ret
  exact ⟨rfl, hx⟩
end Go.Proofs.YtfgbndjhaiigbaaGreatDoor

namespace Go.Proofs.YtfgbndjhaiigbaaGreatDoor
open Go Go.RowKit
set_option linter.unusedSimpArgs false
set_option linter.unusedVariables false
set_option maxRecDepth 100000

set_option maxHeartbeats 3200000 in
theorem ofTwoPlus_fin (e f a b mode m n x : Int) (gF gM : Nat) (hap : patB e f a = true) (hbp : patB e f b = true) (mo0 : 0 ≤ mode) (mo1 : mode ≤ 5) (hm : m = 0 ∨ m = 1) (v0 : 0 ≤ n) (v1 : n < 4611686018427387904) (j0 : -149 ≤ x - unV e f) (j1 : x - unV e f ≤ 149) 
    (op : ∀ w, Calls Tryz.prog 66 #[fmt e f, (Value.iface (opT e f a) (opX e f a)), (Value.iface (opT e f b) (opX e f b)), .int .i64 mode] w fun rv w' => rv = .returned (.iface 82 (.agg #[.int .i64 m, .int .i64 n, .int .i64 x])) ∧ Ext w w') (w : World) (hT : TW w) (q0 : w.cell? ⟨gF, 0, none⟩ = some (.int .i64 e)) (q1 : w.cell? ⟨gF, 1, none⟩ = some (.int .i64 f)) (q2 : w.cell? ⟨gM, 0, none⟩ = some (.int .i64 mode)) (lF : gF < w.heap.size) (lM : gM < w.heap.size) :
    Calls Tryz.prog 64 #[fmt e f, .int .i64 a, .int .i64 b, .int .i64 mode, .func (.func 65) #[] #[.pointer (some ⟨gF, 0, none⟩), .pointer (some ⟨gM, 0, none⟩)]] w (OTout e f m n (x - unV e f) mode w) := by
  have hg := (pat_iff.1 hap).1
  have hmo : moB mode = true := mo_iff.2 ⟨mo0, mo1⟩
  have OP := Lib.hid op; clear op
  go_enter Tryz.func64, Tryz.ntmps64
  go_wp2_with (go_at_call 73; (with_reducible refine (operandsOf2 e f mode a b (w.heap.size + 1) hmo hap hbp _ (hT.ext Ext.auK) (by first | with_reducible assumption | (simp; done) | (simp [go_sem]; done)) (by first | with_reducible assumption | (simp; done) | (simp [go_sem]; done)) (by simp; try omega)).mono ?_); rintro rv w1 ⟨v, rfl, how, hb⟩; obtain ⟨gl, cap, rfl, hg1, hg2⟩ := how.form (by omega); have c0 := how.cellAt 0 (by omega); have c1 := how.cellAt 1 (by omega); simp only [List.getElem?_cons_zero, List.getElem?_cons_succ] at c0 c1; have c0 := c0; have c1 := c1; clear how; have ns : w.heap.size < w1.heap.size := hb.lt (by first | (simp; done) | (simp; omega)); have g0 : w1.cell? ⟨w.heap.size, 0, none⟩ = some (.int .i64 e) := (hb.cells _ _ (by first | (simp; done) | (simp; omega))).trans (by first | (simp; done) | (simp [go_sem, *]; done)); have g1 : w1.cell? ⟨w.heap.size, 1, none⟩ = some (.int .i64 f) := (hb.cells _ _ (by first | (simp; done) | (simp; omega))).trans (by first | (simp; done) | (simp [go_sem, *]; done)); have k0 : w1.cell? ⟨gF, 0, none⟩ = some (.int .i64 e) := (hb.cells _ _ (by simp; omega)).trans (by first | (simp [go_sem, *]; done) | (rw [cell_alloc_before _ _ _ _ (by simp; omega), cell_alloc_before _ _ _ _ (by omega)]; with_reducible assumption)); have k1 : w1.cell? ⟨gF, 1, none⟩ = some (.int .i64 f) := (hb.cells _ _ (by simp; omega)).trans (by first | (simp [go_sem, *]; done) | (rw [cell_alloc_before _ _ _ _ (by simp; omega), cell_alloc_before _ _ _ _ (by omega)]; with_reducible assumption)); have k2 : w1.cell? ⟨gM, 0, none⟩ = some (.int .i64 mode) := (hb.cells _ _ (by simp; omega)).trans (by first | (simp [go_sem, *]; done) | (rw [cell_alloc_before _ _ _ _ (by simp; omega), cell_alloc_before _ _ _ _ (by omega)]; with_reducible assumption)); have hx : Ext w w1 := Ext.trans Ext.auK hb; clear hb)
  clear q0 q1 q2
  have hs : max w.heap.size (max gl (max gF gM)) < w1.heap.size := by have := hx.le; omega
  go_region_held3 (fun w' => w'.cell? ⟨w.heap.size, 0, none⟩ = some (.int .i64 e) ∧ w'.cell? ⟨w.heap.size, 1, none⟩ = some (.int .i64 f) ∧ w'.cell? ⟨gl, 0, none⟩ = some ((Value.iface (opT e f a) (opX e f a))) ∧ w'.cell? ⟨gl, 1, none⟩ = some ((Value.iface (opT e f b) (opX e f b))) ∧ w'.cell? ⟨gF, 0, none⟩ = some (.int .i64 e) ∧ w'.cell? ⟨gF, 1, none⟩ = some (.int .i64 f) ∧ w'.cell? ⟨gM, 0, none⟩ = some (.int .i64 mode) ∧ max w.heap.size (max gl (max gF gM)) < w'.heap.size) ((refine ⟨?_, ?_, ?_, ?_, ?_, ?_, ?_, ?_⟩ <;> first | with_reducible assumption | ((repeat first | rw [cell_set_far _ _ _ _ _ _ (by omega)] | rw [cell_alloc_before _ _ _ _ (by omega)] | rw [cell_alloc_drew _ _ _ _ (by omega)] | rw [cell_drew]); with_reducible assumption) | ((rw [cell_setRow_far _ _ _ _ _ (by omega)]); with_reducible assumption) | ((rw [setRow_size]); with_reducible assumption) | (simp; done) | (simp [World.setCell]; first | done | omega) | (simp [go_sem, World.cell?_alloc_past, World.cell?_setCell_far, *]; done))) ((first | (go_at_call 65; refine (cl_plus e f a b mode _ gF gM OP.out _ (by first | with_reducible assumption | (simp [go_sem, *]; done)) (by first | with_reducible assumption | (simp [go_sem, *]; done)) (by first | with_reducible assumption | (simp [go_sem, *]; done))).mono ?_; rintro rv w1 ⟨rfl, hb⟩; have ns : max w.heap.size (max gl (max gF gM)) < w1.heap.size := hb.ltK; have n0 : w1.cell? ⟨w.heap.size, 0, none⟩ = some (.int .i64 e) := hb.cellK; have n1 : w1.cell? ⟨w.heap.size, 1, none⟩ = some (.int .i64 f) := hb.cellK; have n2 : w1.cell? ⟨gl, 0, none⟩ = some ((Value.iface (opT e f a) (opX e f a))) := hb.cellK; have n3 : w1.cell? ⟨gl, 1, none⟩ = some ((Value.iface (opT e f b) (opX e f b))) := hb.cellK; have n4 : w1.cell? ⟨gF, 0, none⟩ = some (.int .i64 e) := hb.cellK; have n5 : w1.cell? ⟨gF, 1, none⟩ = some (.int .i64 f) := hb.cellK; have n6 : w1.cell? ⟨gM, 0, none⟩ = some (.int .i64 mode) := hb.cellK; (first | (have nx := Ext.trans hx hb; clear hx) | (have nx := Ext.trans (hx.alloc _) hb; clear hx) | (have nx := Ext.trans hx.drew hb; clear hx) | have nx := hb); clear hb; try clear hs; try clear g0; try clear g1; try clear g2; try clear g3; try clear g4; try clear g5; try clear g6; have hx := nx; clear nx; have hs := ns; clear ns; have g0 := n0; clear n0; have g1 := n1; clear n1; have g2 := n2; clear n2; have g3 := n3; clear n3; have g4 := n4; clear n4; have g5 := n5; clear n5; have g6 := n6; clear n6) | (go_at_call 133; refine (finRounded_any e f m n x mode hg hm v0 v1 j0 j1 mo0 mo1 _).mono ?_; rintro rv w1 ⟨s, rfl, hq, hb⟩; have HQ := Lib.hid hq; clear hq; have ns : max w.heap.size (max gl (max gF gM)) < w1.heap.size := hb.ltK; have n0 : w1.cell? ⟨w.heap.size, 0, none⟩ = some (.int .i64 e) := hb.cellK; have n1 : w1.cell? ⟨w.heap.size, 1, none⟩ = some (.int .i64 f) := hb.cellK; have n2 : w1.cell? ⟨gl, 0, none⟩ = some ((Value.iface (opT e f a) (opX e f a))) := hb.cellK; have n3 : w1.cell? ⟨gl, 1, none⟩ = some ((Value.iface (opT e f b) (opX e f b))) := hb.cellK; have n4 : w1.cell? ⟨gF, 0, none⟩ = some (.int .i64 e) := hb.cellK; have n5 : w1.cell? ⟨gF, 1, none⟩ = some (.int .i64 f) := hb.cellK; have n6 : w1.cell? ⟨gM, 0, none⟩ = some (.int .i64 mode) := hb.cellK; (first | (have nx := Ext.trans hx hb; clear hx) | (have nx := Ext.trans (hx.alloc _) hb; clear hx) | (have nx := Ext.trans hx.drew hb; clear hx) | have nx := hb); clear hb; try clear hs; try clear g0; try clear g1; try clear g2; try clear g3; try clear g4; try clear g5; try clear g6; have hx := nx; clear nx; have hs := ns; clear ns; have g0 := n0; clear n0; have g1 := n1; clear n1; have g2 := n2; clear n2; have g3 := n3; clear n3; have g4 := n4; clear n4; have g5 := n5; clear n5; have g6 := n6; clear n6)))
  go_wp2_with fail
  go_ret2
  exact ⟨s, rfl, HQ.out, Ext.auK⟩

set_option maxHeartbeats 3200000 in
theorem ofTwoPlus_inf (e f a b mode m : Int) (gF gM : Nat) (hap : patB e f a = true) (hbp : patB e f b = true) (mo0 : 0 ≤ mode) (mo1 : mode ≤ 5) (hm : m = 0 ∨ m = 1) 
    (op : ∀ w, Calls Tryz.prog 66 #[fmt e f, (Value.iface (opT e f a) (opX e f a)), (Value.iface (opT e f b) (opX e f b)), .int .i64 mode] w fun rv w' => rv = .returned (.iface 104 (.agg #[.int .i64 m])) ∧ Ext w w') (w : World) (hT : TW w) (q0 : w.cell? ⟨gF, 0, none⟩ = some (.int .i64 e)) (q1 : w.cell? ⟨gF, 1, none⟩ = some (.int .i64 f)) (q2 : w.cell? ⟨gM, 0, none⟩ = some (.int .i64 mode)) (lF : gF < w.heap.size) (lM : gM < w.heap.size) :
    Calls Tryz.prog 64 #[fmt e f, .int .i64 a, .int .i64 b, .int .i64 mode, .func (.func 65) #[] #[.pointer (some ⟨gF, 0, none⟩), .pointer (some ⟨gM, 0, none⟩)]] w (fun rv w' => rv = .returned (.tuple #[.int .i64 (m * pw (e + f) + (pw e - 1) * pw f), .bool true]) ∧ Ext w w') := by
  have hg := (pat_iff.1 hap).1
  have hmo : moB mode = true := mo_iff.2 ⟨mo0, mo1⟩
  have OP := Lib.hid op; clear op
  go_enter Tryz.func64, Tryz.ntmps64
  go_wp2_with (go_at_call 73; (with_reducible refine (operandsOf2 e f mode a b (w.heap.size + 1) hmo hap hbp _ (hT.ext Ext.auK) (by first | with_reducible assumption | (simp; done) | (simp [go_sem]; done)) (by first | with_reducible assumption | (simp; done) | (simp [go_sem]; done)) (by simp; try omega)).mono ?_); rintro rv w1 ⟨v, rfl, how, hb⟩; obtain ⟨gl, cap, rfl, hg1, hg2⟩ := how.form (by omega); have c0 := how.cellAt 0 (by omega); have c1 := how.cellAt 1 (by omega); simp only [List.getElem?_cons_zero, List.getElem?_cons_succ] at c0 c1; have c0 := c0; have c1 := c1; clear how; have ns : w.heap.size < w1.heap.size := hb.lt (by first | (simp; done) | (simp; omega)); have g0 : w1.cell? ⟨w.heap.size, 0, none⟩ = some (.int .i64 e) := (hb.cells _ _ (by first | (simp; done) | (simp; omega))).trans (by first | (simp; done) | (simp [go_sem, *]; done)); have g1 : w1.cell? ⟨w.heap.size, 1, none⟩ = some (.int .i64 f) := (hb.cells _ _ (by first | (simp; done) | (simp; omega))).trans (by first | (simp; done) | (simp [go_sem, *]; done)); have k0 : w1.cell? ⟨gF, 0, none⟩ = some (.int .i64 e) := (hb.cells _ _ (by simp; omega)).trans (by first | (simp [go_sem, *]; done) | (rw [cell_alloc_before _ _ _ _ (by simp; omega), cell_alloc_before _ _ _ _ (by omega)]; with_reducible assumption)); have k1 : w1.cell? ⟨gF, 1, none⟩ = some (.int .i64 f) := (hb.cells _ _ (by simp; omega)).trans (by first | (simp [go_sem, *]; done) | (rw [cell_alloc_before _ _ _ _ (by simp; omega), cell_alloc_before _ _ _ _ (by omega)]; with_reducible assumption)); have k2 : w1.cell? ⟨gM, 0, none⟩ = some (.int .i64 mode) := (hb.cells _ _ (by simp; omega)).trans (by first | (simp [go_sem, *]; done) | (rw [cell_alloc_before _ _ _ _ (by simp; omega), cell_alloc_before _ _ _ _ (by omega)]; with_reducible assumption)); have hx : Ext w w1 := Ext.trans Ext.auK hb; clear hb)
  clear q0 q1 q2
  have hs : max w.heap.size (max gl (max gF gM)) < w1.heap.size := by have := hx.le; omega
  go_region_held3 (fun w' => w'.cell? ⟨w.heap.size, 0, none⟩ = some (.int .i64 e) ∧ w'.cell? ⟨w.heap.size, 1, none⟩ = some (.int .i64 f) ∧ w'.cell? ⟨gl, 0, none⟩ = some ((Value.iface (opT e f a) (opX e f a))) ∧ w'.cell? ⟨gl, 1, none⟩ = some ((Value.iface (opT e f b) (opX e f b))) ∧ w'.cell? ⟨gF, 0, none⟩ = some (.int .i64 e) ∧ w'.cell? ⟨gF, 1, none⟩ = some (.int .i64 f) ∧ w'.cell? ⟨gM, 0, none⟩ = some (.int .i64 mode) ∧ max w.heap.size (max gl (max gF gM)) < w'.heap.size) ((refine ⟨?_, ?_, ?_, ?_, ?_, ?_, ?_, ?_⟩ <;> first | with_reducible assumption | ((repeat first | rw [cell_set_far _ _ _ _ _ _ (by omega)] | rw [cell_alloc_before _ _ _ _ (by omega)] | rw [cell_alloc_drew _ _ _ _ (by omega)] | rw [cell_drew]); with_reducible assumption) | ((rw [cell_setRow_far _ _ _ _ _ (by omega)]); with_reducible assumption) | ((rw [setRow_size]); with_reducible assumption) | (simp; done) | (simp [World.setCell]; first | done | omega) | (simp [go_sem, World.cell?_alloc_past, World.cell?_setCell_far, *]; done))) ((first | (go_at_call 65; refine (cl_plus e f a b mode _ gF gM OP.out _ (by first | with_reducible assumption | (simp [go_sem, *]; done)) (by first | with_reducible assumption | (simp [go_sem, *]; done)) (by first | with_reducible assumption | (simp [go_sem, *]; done))).mono ?_; rintro rv w1 ⟨rfl, hb⟩; have ns : max w.heap.size (max gl (max gF gM)) < w1.heap.size := hb.ltK; have n0 : w1.cell? ⟨w.heap.size, 0, none⟩ = some (.int .i64 e) := hb.cellK; have n1 : w1.cell? ⟨w.heap.size, 1, none⟩ = some (.int .i64 f) := hb.cellK; have n2 : w1.cell? ⟨gl, 0, none⟩ = some ((Value.iface (opT e f a) (opX e f a))) := hb.cellK; have n3 : w1.cell? ⟨gl, 1, none⟩ = some ((Value.iface (opT e f b) (opX e f b))) := hb.cellK; have n4 : w1.cell? ⟨gF, 0, none⟩ = some (.int .i64 e) := hb.cellK; have n5 : w1.cell? ⟨gF, 1, none⟩ = some (.int .i64 f) := hb.cellK; have n6 : w1.cell? ⟨gM, 0, none⟩ = some (.int .i64 mode) := hb.cellK; (first | (have nx := Ext.trans hx hb; clear hx) | (have nx := Ext.trans (hx.alloc _) hb; clear hx) | (have nx := Ext.trans hx.drew hb; clear hx) | have nx := hb); clear hb; try clear hs; try clear g0; try clear g1; try clear g2; try clear g3; try clear g4; try clear g5; try clear g6; have hx := nx; clear nx; have hs := ns; clear ns; have g0 := n0; clear n0; have g1 := n1; clear n1; have g2 := n2; clear n2; have g3 := n3; clear n3; have g4 := n4; clear n4; have g5 := n5; clear n5; have g6 := n6; clear n6) | (go_at_call 223; refine (infRounded_any e f m mode hg hm _).mono ?_; rintro rv w1 ⟨rfl, hb⟩; have ns : max w.heap.size (max gl (max gF gM)) < w1.heap.size := hb.ltK; have n0 : w1.cell? ⟨w.heap.size, 0, none⟩ = some (.int .i64 e) := hb.cellK; have n1 : w1.cell? ⟨w.heap.size, 1, none⟩ = some (.int .i64 f) := hb.cellK; have n2 : w1.cell? ⟨gl, 0, none⟩ = some ((Value.iface (opT e f a) (opX e f a))) := hb.cellK; have n3 : w1.cell? ⟨gl, 1, none⟩ = some ((Value.iface (opT e f b) (opX e f b))) := hb.cellK; have n4 : w1.cell? ⟨gF, 0, none⟩ = some (.int .i64 e) := hb.cellK; have n5 : w1.cell? ⟨gF, 1, none⟩ = some (.int .i64 f) := hb.cellK; have n6 : w1.cell? ⟨gM, 0, none⟩ = some (.int .i64 mode) := hb.cellK; (first | (have nx := Ext.trans hx hb; clear hx) | (have nx := Ext.trans (hx.alloc _) hb; clear hx) | (have nx := Ext.trans hx.drew hb; clear hx) | have nx := hb); clear hb; try clear hs; try clear g0; try clear g1; try clear g2; try clear g3; try clear g4; try clear g5; try clear g6; have hx := nx; clear nx; have hs := ns; clear ns; have g0 := n0; clear n0; have g1 := n1; clear n1; have g2 := n2; clear n2; have g3 := n3; clear n3; have g4 := n4; clear n4; have g5 := n5; clear n5; have g6 := n6; clear n6)))
  go_wp2_with fail
  go_ret2
  exact ⟨rfl, Ext.auK⟩

set_option maxHeartbeats 3200000 in
theorem ofTwoPlus_no (e f a b mode  : Int) (gF gM : Nat) (hap : patB e f a = true) (hbp : patB e f b = true) (mo0 : 0 ≤ mode) (mo1 : mode ≤ 5) 
    (op : ∀ w, Calls Tryz.prog 66 #[fmt e f, (Value.iface (opT e f a) (opX e f a)), (Value.iface (opT e f b) (opX e f b)), .int .i64 mode] w fun rv w' => rv = .returned (.iface 107 (.agg #[])) ∧ Ext w w') (w : World) (hT : TW w) (q0 : w.cell? ⟨gF, 0, none⟩ = some (.int .i64 e)) (q1 : w.cell? ⟨gF, 1, none⟩ = some (.int .i64 f)) (q2 : w.cell? ⟨gM, 0, none⟩ = some (.int .i64 mode)) (lF : gF < w.heap.size) (lM : gM < w.heap.size) :
    Calls Tryz.prog 64 #[fmt e f, .int .i64 a, .int .i64 b, .int .i64 mode, .func (.func 65) #[] #[.pointer (some ⟨gF, 0, none⟩), .pointer (some ⟨gM, 0, none⟩)]] w (fun rv w' => rv = .returned (.tuple #[.int .i64 (quV e f), .bool true]) ∧ Ext w w') := by
  have hg := (pat_iff.1 hap).1
  have hmo : moB mode = true := mo_iff.2 ⟨mo0, mo1⟩
  have OP := Lib.hid op; clear op
  go_enter Tryz.func64, Tryz.ntmps64
  go_wp2_with (go_at_call 73; (with_reducible refine (operandsOf2 e f mode a b (w.heap.size + 1) hmo hap hbp _ (hT.ext Ext.auK) (by first | with_reducible assumption | (simp; done) | (simp [go_sem]; done)) (by first | with_reducible assumption | (simp; done) | (simp [go_sem]; done)) (by simp; try omega)).mono ?_); rintro rv w1 ⟨v, rfl, how, hb⟩; obtain ⟨gl, cap, rfl, hg1, hg2⟩ := how.form (by omega); have c0 := how.cellAt 0 (by omega); have c1 := how.cellAt 1 (by omega); simp only [List.getElem?_cons_zero, List.getElem?_cons_succ] at c0 c1; have c0 := c0; have c1 := c1; clear how; have ns : w.heap.size < w1.heap.size := hb.lt (by first | (simp; done) | (simp; omega)); have g0 : w1.cell? ⟨w.heap.size, 0, none⟩ = some (.int .i64 e) := (hb.cells _ _ (by first | (simp; done) | (simp; omega))).trans (by first | (simp; done) | (simp [go_sem, *]; done)); have g1 : w1.cell? ⟨w.heap.size, 1, none⟩ = some (.int .i64 f) := (hb.cells _ _ (by first | (simp; done) | (simp; omega))).trans (by first | (simp; done) | (simp [go_sem, *]; done)); have k0 : w1.cell? ⟨gF, 0, none⟩ = some (.int .i64 e) := (hb.cells _ _ (by simp; omega)).trans (by first | (simp [go_sem, *]; done) | (rw [cell_alloc_before _ _ _ _ (by simp; omega), cell_alloc_before _ _ _ _ (by omega)]; with_reducible assumption)); have k1 : w1.cell? ⟨gF, 1, none⟩ = some (.int .i64 f) := (hb.cells _ _ (by simp; omega)).trans (by first | (simp [go_sem, *]; done) | (rw [cell_alloc_before _ _ _ _ (by simp; omega), cell_alloc_before _ _ _ _ (by omega)]; with_reducible assumption)); have k2 : w1.cell? ⟨gM, 0, none⟩ = some (.int .i64 mode) := (hb.cells _ _ (by simp; omega)).trans (by first | (simp [go_sem, *]; done) | (rw [cell_alloc_before _ _ _ _ (by simp; omega), cell_alloc_before _ _ _ _ (by omega)]; with_reducible assumption)); have hx : Ext w w1 := Ext.trans Ext.auK hb; clear hb)
  clear q0 q1 q2
  have hs : max w.heap.size (max gl (max gF gM)) < w1.heap.size := by have := hx.le; omega
  go_region_held3 (fun w' => w'.cell? ⟨w.heap.size, 0, none⟩ = some (.int .i64 e) ∧ w'.cell? ⟨w.heap.size, 1, none⟩ = some (.int .i64 f) ∧ w'.cell? ⟨gl, 0, none⟩ = some ((Value.iface (opT e f a) (opX e f a))) ∧ w'.cell? ⟨gl, 1, none⟩ = some ((Value.iface (opT e f b) (opX e f b))) ∧ w'.cell? ⟨gF, 0, none⟩ = some (.int .i64 e) ∧ w'.cell? ⟨gF, 1, none⟩ = some (.int .i64 f) ∧ w'.cell? ⟨gM, 0, none⟩ = some (.int .i64 mode) ∧ max w.heap.size (max gl (max gF gM)) < w'.heap.size) ((refine ⟨?_, ?_, ?_, ?_, ?_, ?_, ?_, ?_⟩ <;> first | with_reducible assumption | ((repeat first | rw [cell_set_far _ _ _ _ _ _ (by omega)] | rw [cell_alloc_before _ _ _ _ (by omega)] | rw [cell_alloc_drew _ _ _ _ (by omega)] | rw [cell_drew]); with_reducible assumption) | ((rw [cell_setRow_far _ _ _ _ _ (by omega)]); with_reducible assumption) | ((rw [setRow_size]); with_reducible assumption) | (simp; done) | (simp [World.setCell]; first | done | omega) | (simp [go_sem, World.cell?_alloc_past, World.cell?_setCell_far, *]; done))) ((first | (go_at_call 65; refine (cl_plus e f a b mode _ gF gM OP.out _ (by first | with_reducible assumption | (simp [go_sem, *]; done)) (by first | with_reducible assumption | (simp [go_sem, *]; done)) (by first | with_reducible assumption | (simp [go_sem, *]; done))).mono ?_; rintro rv w1 ⟨rfl, hb⟩; have ns : max w.heap.size (max gl (max gF gM)) < w1.heap.size := hb.ltK; have n0 : w1.cell? ⟨w.heap.size, 0, none⟩ = some (.int .i64 e) := hb.cellK; have n1 : w1.cell? ⟨w.heap.size, 1, none⟩ = some (.int .i64 f) := hb.cellK; have n2 : w1.cell? ⟨gl, 0, none⟩ = some ((Value.iface (opT e f a) (opX e f a))) := hb.cellK; have n3 : w1.cell? ⟨gl, 1, none⟩ = some ((Value.iface (opT e f b) (opX e f b))) := hb.cellK; have n4 : w1.cell? ⟨gF, 0, none⟩ = some (.int .i64 e) := hb.cellK; have n5 : w1.cell? ⟨gF, 1, none⟩ = some (.int .i64 f) := hb.cellK; have n6 : w1.cell? ⟨gM, 0, none⟩ = some (.int .i64 mode) := hb.cellK; (first | (have nx := Ext.trans hx hb; clear hx) | (have nx := Ext.trans (hx.alloc _) hb; clear hx) | (have nx := Ext.trans hx.drew hb; clear hx) | have nx := hb); clear hb; try clear hs; try clear g0; try clear g1; try clear g2; try clear g3; try clear g4; try clear g5; try clear g6; have hx := nx; clear nx; have hs := ns; clear ns; have g0 := n0; clear n0; have g1 := n1; clear n1; have g2 := n2; clear n2; have g3 := n3; clear n3; have g4 := n4; clear n4; have g5 := n5; clear n5; have g6 := n6; clear n6) | (go_at_call 226; refine (noRounded_any e f mode hg _).mono ?_; rintro rv w1 ⟨rfl, hb⟩; have ns : max w.heap.size (max gl (max gF gM)) < w1.heap.size := hb.ltK; have n0 : w1.cell? ⟨w.heap.size, 0, none⟩ = some (.int .i64 e) := hb.cellK; have n1 : w1.cell? ⟨w.heap.size, 1, none⟩ = some (.int .i64 f) := hb.cellK; have n2 : w1.cell? ⟨gl, 0, none⟩ = some ((Value.iface (opT e f a) (opX e f a))) := hb.cellK; have n3 : w1.cell? ⟨gl, 1, none⟩ = some ((Value.iface (opT e f b) (opX e f b))) := hb.cellK; have n4 : w1.cell? ⟨gF, 0, none⟩ = some (.int .i64 e) := hb.cellK; have n5 : w1.cell? ⟨gF, 1, none⟩ = some (.int .i64 f) := hb.cellK; have n6 : w1.cell? ⟨gM, 0, none⟩ = some (.int .i64 mode) := hb.cellK; (first | (have nx := Ext.trans hx hb; clear hx) | (have nx := Ext.trans (hx.alloc _) hb; clear hx) | (have nx := Ext.trans hx.drew hb; clear hx) | have nx := hb); clear hb; try clear hs; try clear g0; try clear g1; try clear g2; try clear g3; try clear g4; try clear g5; try clear g6; have hx := nx; clear nx; have hs := ns; clear ns; have g0 := n0; clear n0; have g1 := n1; clear n1; have g2 := n2; clear n2; have g3 := n3; clear n3; have g4 := n4; clear n4; have g5 := n5; clear n5; have g6 := n6; clear n6)))
  go_wp2_with fail
  go_ret2
  exact ⟨rfl, Ext.auK⟩
end Go.Proofs.YtfgbndjhaiigbaaGreatDoor

