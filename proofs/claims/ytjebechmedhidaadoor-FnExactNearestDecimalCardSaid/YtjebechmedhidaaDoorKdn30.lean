/-
  Contracts of the functions that the laws reach, and the plain facts that they rest on, each under the conditions that its line names; part 30.
-/
import Derived.Test.YtjebechmedhidaaDoorKdn1
import Derived.Test.YtjebechmedhidaaDoorKdn2
import Derived.Test.YtjebechmedhidaaDoorKdn3
import Derived.Test.YtjebechmedhidaaDoorKdn4
import Derived.Test.YtjebechmedhidaaDoorKdn5
import Derived.Test.YtjebechmedhidaaDoorKdn6
import Derived.Test.YtjebechmedhidaaDoorKdn7
import Derived.Test.YtjebechmedhidaaDoorKdn8
import Derived.Test.YtjebechmedhidaaDoorKdn9
import Derived.Test.YtjebechmedhidaaDoorKdn10
import Derived.Test.YtjebechmedhidaaDoorKdn11
import Derived.Test.YtjebechmedhidaaDoorKdn12
import Derived.Test.YtjebechmedhidaaDoorKdn13
import Derived.Test.YtjebechmedhidaaDoorKdn14
import Derived.Test.YtjebechmedhidaaDoorKdn15
import Derived.Test.YtjebechmedhidaaDoorKdn16
import Derived.Test.YtjebechmedhidaaDoorKdn17
import Derived.Test.YtjebechmedhidaaDoorKdn18
import Derived.Test.YtjebechmedhidaaDoorKdn19
import Derived.Test.YtjebechmedhidaaDoorKdn20
import Derived.Test.YtjebechmedhidaaDoorKdn21
import Derived.Test.YtjebechmedhidaaDoorKdn22
import Derived.Test.YtjebechmedhidaaDoorKdn23
import Derived.Test.YtjebechmedhidaaDoorKdn24
import Derived.Test.YtjebechmedhidaaDoorKdn25
import Derived.Test.YtjebechmedhidaaDoorKdn26
import Derived.Test.YtjebechmedhidaaDoorKdn27
import Derived.Test.YtjebechmedhidaaDoorKdn28
import Derived.Test.YtjebechmedhidaaDoorKdn29
import Derived.Test.YtjebechmedhidaaDoorRows
import Derived.WalkKit
import Derived.Handy
import Derived.LoopTactic
import Derived.LoopN
import Derived.Laws.OwnMore
import Derived.OwnWalk
import Derived.Deep.AppendLies
import Derived.Laws.Bits64b
import Derived.WalkSpells
import Derived.WalkLawsBesides
import Derived.StillTactics
import Derived.Laws.Pointers
import Derived.Deep.RegionHeld3
import Derived.Deep.QuietTactic
import Derived.BigQuiet
import Derived.Outline
import Derived.Lib.Hide
import Derived.RowKit3
import Derived.Carry
import Derived.IntWalk
import Derived.Shelf.Small.Bits
import Derived.Shelf.Small.Wraps
import Derived.Shelf.Strconv.Itoa0
import Derived.Ground.Names2Prog
import Derived.Shelf.Slices.SearchI
import Derived.Test.YtjebechmedhidaaDoorProg
import Derived.Laws.EntriesVeiled
import Derived.Deep.LoopGhost
namespace Go.Proofs.YtjebechmedhidaaDoor
open Go Go.RowKit
set_option linter.unusedSimpArgs false
set_option linter.unusedVariables false
set_option maxRecDepth 100000

attribute [local go_sem] ta_finite_finite ta_finite_infinite ta_finite_noNumber ta_infinite_finite ta_infinite_infinite ta_infinite_noNumber ta_noNumber_finite ta_noNumber_infinite ta_noNumber_noNumber

theorem xa_bd {e f a : Int} (hf : finB e f a = true) : -24 ≤ (shE (unitsV e f a) (unV e f)) ∧ (shE (unitsV e f a) (unV e f)) ≤ 41 := by
  have hap := (fin_pat hf).1
  obtain ⟨ua1, ua2, ua3, ua4, ua5⟩ := un_small hap
  have u1 := un_bd (pat_iff.1 hap).1
  by_cases h : (unitsV e f a) = 0
  · have := ua5 h; omega
  · have := ua4 h; omega

theorem val_top {e f a : Int} (hf : finB e f a = true) : ((unitsV e f a).natAbs : Int) ≤ 65536 * pw (-unV e f) := by
  obtain ⟨hg, s0, s1, hu⟩ := fin_size hf
  have u := un_bd hg
  have m := mg_mono f (a % pw (e + f)) (grV e f + 1) (good_iff.1 hg).2.2.1 s0 (by omega)
  rw [mg_top hg] at m
  have c := pw_le (a := pw (e - 1)) 16 65536 rfl (by omega)
  have d := pw_pos (-unV e f)
  have k : pw (-unV e f) * pw (pw (e - 1)) ≤ pw (-unV e f) * 65536 := Int.mul_le_mul_of_nonneg_left c (by omega)
  omega

/-- How the size of a value lies to a decimal. -/
def cdV (e f a d t : Int) : Int := tcV e f ((unitsV e f a).natAbs : Int) d t

theorem txUnits_any (e f a : Int) (hf : finB e f a = true) (w : World) : Calls Tryd.prog 78 #[fmt e f, .int .i64 a] w fun rv w' => rv = .returned (.int .i64 ((unitsV e f a).natAbs : Int)) ∧ Ext w w' := by
  obtain ⟨hg, s0, s1, hu⟩ := fin_size hf
  have hap := (fin_pat hf).1
  obtain ⟨gg0, gg1, gg2⟩ := gr_bd2 hg
  have FS := Lib.hid (fun w => fmSize_any e f a hg (pat_iff.1 hap).2.1 w)
  have FU := Lib.hid (fun w => fmUnits_size e f (a % pw (e + f)) (pat_iff.2 ⟨hg, s0, by omega⟩) (by omega) w)
  rw [hu]
  generalize mgV f (a % pw (e + f)) = M at *
  generalize a % pw (e + f) = P at *
  go_enter Tryd.func78, Tryd.ntmps78
  go_wp2_with (first | (go_at_call 47; refine (FS.out _).mono ?_; rintro rv w1 ⟨rfl, hb⟩; have ns : w.heap.size < w1.heap.size := hb.ltK; have n0 : w1.cell? ⟨w.heap.size, 0, none⟩ = some (.int .i64 e) := hb.cellK; have n1 : w1.cell? ⟨w.heap.size, 1, none⟩ = some (.int .i64 f) := hb.cellK; (first | (have nx := Ext.trans hx hb; clear hx) | (have nx := Ext.trans (hx.alloc _) hb; clear hx) | (have nx := Ext.trans hx.drew hb; clear hx) | have nx := hb); clear hb; try clear hs; try clear g0; try clear g1; have hx := nx; clear nx; have hs := ns; clear ns; have g0 := n0; clear n0; have g1 := n1; clear n1) | (go_at_call 31; refine (FU.out _).mono ?_; rintro rv w1 ⟨rfl, hb⟩; have ns : w.heap.size < w1.heap.size := hb.ltK; have n0 : w1.cell? ⟨w.heap.size, 0, none⟩ = some (.int .i64 e) := hb.cellK; have n1 : w1.cell? ⟨w.heap.size, 1, none⟩ = some (.int .i64 f) := hb.cellK; (first | (have nx := Ext.trans hx hb; clear hx) | (have nx := Ext.trans (hx.alloc _) hb; clear hx) | (have nx := Ext.trans hx.drew hb; clear hx) | have nx := hb); clear hb; try clear hs; try clear g0; try clear g1; have hx := nx; clear nx; have hs := ns; clear ns; have g0 := n0; clear n0; have g1 := n1; clear n1))
  try (go_region_held3 (fun w' => w'.cell? ⟨w.heap.size, 0, none⟩ = some (.int .i64 e) ∧ w'.cell? ⟨w.heap.size, 1, none⟩ = some (.int .i64 f) ∧ w.heap.size < w'.heap.size) ((refine ⟨?_, ?_, ?_⟩ <;> first | with_reducible assumption | ((rw [cell_setRow_far _ _ _ _ _ (by omega)]); with_reducible assumption) | ((rw [setRow_size]); with_reducible assumption) | ((repeat rw [World.cell?_setCell_far _ _ _ _ (by simp)]); with_reducible assumption) | (simp; done) | (simp [World.setCell]; first | done | omega) | (simp [go_sem, World.cell?_alloc_past, World.cell?_setCell_far, *]; done))) ((first | (go_at_call 47; refine (FS.out _).mono ?_; rintro rv w1 ⟨rfl, hb⟩; have ns : w.heap.size < w1.heap.size := hb.ltK; have n0 : w1.cell? ⟨w.heap.size, 0, none⟩ = some (.int .i64 e) := hb.cellK; have n1 : w1.cell? ⟨w.heap.size, 1, none⟩ = some (.int .i64 f) := hb.cellK; (first | (have nx := Ext.trans hx hb; clear hx) | (have nx := Ext.trans (hx.alloc _) hb; clear hx) | (have nx := Ext.trans hx.drew hb; clear hx) | have nx := hb); clear hb; try clear hs; try clear g0; try clear g1; have hx := nx; clear nx; have hs := ns; clear ns; have g0 := n0; clear n0; have g1 := n1; clear n1) | (go_at_call 31; refine (FU.out _).mono ?_; rintro rv w1 ⟨rfl, hb⟩; have ns : w.heap.size < w1.heap.size := hb.ltK; have n0 : w1.cell? ⟨w.heap.size, 0, none⟩ = some (.int .i64 e) := hb.cellK; have n1 : w1.cell? ⟨w.heap.size, 1, none⟩ = some (.int .i64 f) := hb.cellK; (first | (have nx := Ext.trans hx hb; clear hx) | (have nx := Ext.trans (hx.alloc _) hb; clear hx) | (have nx := Ext.trans hx.drew hb; clear hx) | have nx := hb); clear hb; try clear hs; try clear g0; try clear g1; have hx := nx; clear nx; have hs := ns; clear ns; have g0 := n0; clear n0; have g1 := n1; clear n1))))
  all_goals (try go_wp2_with fail)
  all_goals go_ret
  all_goals exact ⟨rfl, Ext.auK⟩

set_option maxHeartbeats 1600000 in
theorem txCompare_any (e f a d t : Int) (hf : finB e f a = true) (hd : TcP d t) (w : World) : Calls Tryd.prog 40 #[fmt e f, .int .i64 a, .int .i64 d, .int .i64 t] w fun rv w' => rv = .returned (.int .i64 (cdV e f a d t)) ∧ Ext w w' := by
  have hg := (fin_size hf).1
  have vt := val_top hf
  have ub := units_bd e f a (fin_pat hf).1
  have TN := Lib.hid (fun w => txNumber_any e f d t hg hd w)
  have TU := Lib.hid (fun w => txUnits_any e f a hf w)
  have U0 : 0 ≤ ((unitsV e f a).natAbs : Int) := by omega
  have U1 : ((unitsV e f a).natAbs : Int) ≤ 4398046511104 := by omega
  have KC : RowKit.Hid (∀ u r h : Int, TNout e f d t u r h → (if ((unitsV e f a).natAbs : Int) = u then -sgV r else sgV (((unitsV e f a).natAbs : Int) - u)) = cdV e f a d t) := Lib.hid (fun u r h q => q.2.2.2.2 _ vt)
  generalize cdV e f a d t = C at *
  generalize ((unitsV e f a).natAbs : Int) = U at *
  clear ub vt
  go_enter Tryd.func40, Tryd.ntmps40
  go_wp2_with (go_at_call 77; refine (TN.out _).mono ?_; rintro rv w1 ⟨u, r, h, rfl, htn, hb⟩; have HTN := Lib.hid htn; clear htn; have ns : w.heap.size < w1.heap.size := hb.ltK; have n0 : w1.cell? ⟨w.heap.size, 0, none⟩ = some (.int .i64 e) := hb.cellK; have n1 : w1.cell? ⟨w.heap.size, 1, none⟩ = some (.int .i64 f) := hb.cellK; (first | (have nx := Ext.trans hx hb; clear hx) | (have nx := Ext.trans (hx.alloc _) hb; clear hx) | (have nx := Ext.trans hx.drew hb; clear hx) | have nx := hb); clear hb; try clear hs; try clear g0; try clear g1; have hx := nx; clear nx; have hs := ns; clear ns; have g0 := n0; clear n0; have g1 := n1; clear n1)
  obtain ⟨⟨b0, b1⟩, ⟨b2, b3⟩, b4, _⟩ := id HTN.out
  have kc := KC.out u r h HTN.out
  by_cases hq : U = u
  · rw [if_pos hq] at kc
    have KC2 := Lib.hid kc
    have hq2 : (U != u) = false := by simpa using hq
    have s3 := sg_bd r
    have k2 : IntKind.i64.wrap (-sgV r) = -sgV r := IntWalk.i64_in _ (by omega)
    have HTN2 := HTN
    clear kc hq b0 b1 b2 b3 b4 s3
    go_wp2_with (first | (go_at_call 78; refine (TU.out _).mono ?_; rintro rv w2 ⟨rfl, hb⟩; have ns : w1.heap.size < w2.heap.size := hb.ltK; have n0 : w2.cell? ⟨w.heap.size, 0, none⟩ = some (.int .i64 e) := hb.cellK; have n1 : w2.cell? ⟨w.heap.size, 1, none⟩ = some (.int .i64 f) := hb.cellK; have n2 : w2.cell? ⟨w1.heap.size, 0, none⟩ = some (.int .i64 u) := hb.cellK; have n3 : w2.cell? ⟨w1.heap.size, 1, none⟩ = some (.int .i64 r) := hb.cellK; have n4 : w2.cell? ⟨w1.heap.size, 2, none⟩ = some (.int .i64 h) := hb.cellK; (first | (have nx := Ext.trans hx hb; clear hx) | (have nx := Ext.trans (hx.alloc _) hb; clear hx) | (have nx := Ext.trans hx.drew hb; clear hx) | have nx := hb); clear hb; try clear hs; try clear g0; try clear g1; try clear g2; try clear g3; try clear g4; have hx := nx; clear nx; have hs := ns; clear ns; have g0 := n0; clear n0; have g1 := n1; clear n1; have g2 := n2; clear n2; have g3 := n3; clear n3; have g4 := n4; clear n4) | (go_at_call 79; refine (rdSignOf_any _ _).mono ?_; rintro rv w1 ⟨rfl, rfl⟩))
    all_goals (try (go_region_held3 (fun w' => w'.cell? ⟨w.heap.size, 0, none⟩ = some (.int .i64 e) ∧ w'.cell? ⟨w.heap.size, 1, none⟩ = some (.int .i64 f) ∧ w'.cell? ⟨w1.heap.size, 0, none⟩ = some (.int .i64 u) ∧ w'.cell? ⟨w1.heap.size, 1, none⟩ = some (.int .i64 r) ∧ w'.cell? ⟨w1.heap.size, 2, none⟩ = some (.int .i64 h) ∧ w1.heap.size < w'.heap.size) ((refine ⟨?_, ?_, ?_, ?_, ?_, ?_⟩ <;> first | with_reducible assumption | ((rw [cell_setRow_far _ _ _ _ _ (by omega)]); with_reducible assumption) | ((rw [setRow_size]); with_reducible assumption) | ((repeat rw [World.cell?_setCell_far _ _ _ _ (by simp)]); with_reducible assumption) | (simp; done) | (simp [World.setCell]; first | done | omega) | (simp [go_sem, World.cell?_alloc_past, World.cell?_setCell_far, *]; done))) ((first | (go_at_call 78; refine (TU.out _).mono ?_; rintro rv w2 ⟨rfl, hb⟩; have ns : w1.heap.size < w2.heap.size := hb.ltK; have n0 : w2.cell? ⟨w.heap.size, 0, none⟩ = some (.int .i64 e) := hb.cellK; have n1 : w2.cell? ⟨w.heap.size, 1, none⟩ = some (.int .i64 f) := hb.cellK; have n2 : w2.cell? ⟨w1.heap.size, 0, none⟩ = some (.int .i64 u) := hb.cellK; have n3 : w2.cell? ⟨w1.heap.size, 1, none⟩ = some (.int .i64 r) := hb.cellK; have n4 : w2.cell? ⟨w1.heap.size, 2, none⟩ = some (.int .i64 h) := hb.cellK; (first | (have nx := Ext.trans hx hb; clear hx) | (have nx := Ext.trans (hx.alloc _) hb; clear hx) | (have nx := Ext.trans hx.drew hb; clear hx) | have nx := hb); clear hb; try clear hs; try clear g0; try clear g1; try clear g2; try clear g3; try clear g4; have hx := nx; clear nx; have hs := ns; clear ns; have g0 := n0; clear n0; have g1 := n1; clear n1; have g2 := n2; clear n2; have g3 := n3; clear n3; have g4 := n4; clear n4)))))
    all_goals (try go_wp2_with (first | (go_at_call 78; refine (TU.out _).mono ?_; rintro rv w2 ⟨rfl, hb⟩; have ns : w1.heap.size < w2.heap.size := hb.ltK; have n0 : w2.cell? ⟨w.heap.size, 0, none⟩ = some (.int .i64 e) := hb.cellK; have n1 : w2.cell? ⟨w.heap.size, 1, none⟩ = some (.int .i64 f) := hb.cellK; have n2 : w2.cell? ⟨w1.heap.size, 0, none⟩ = some (.int .i64 u) := hb.cellK; have n3 : w2.cell? ⟨w1.heap.size, 1, none⟩ = some (.int .i64 r) := hb.cellK; have n4 : w2.cell? ⟨w1.heap.size, 2, none⟩ = some (.int .i64 h) := hb.cellK; (first | (have nx := Ext.trans hx hb; clear hx) | (have nx := Ext.trans (hx.alloc _) hb; clear hx) | (have nx := Ext.trans hx.drew hb; clear hx) | have nx := hb); clear hb; try clear hs; try clear g0; try clear g1; try clear g2; try clear g3; try clear g4; have hx := nx; clear nx; have hs := ns; clear ns; have g0 := n0; clear n0; have g1 := n1; clear n1; have g2 := n2; clear n2; have g3 := n3; clear n3; have g4 := n4; clear n4) | (go_at_call 79; refine (rdSignOf_any _ _).mono ?_; rintro rv w1 ⟨rfl, rfl⟩)))
    all_goals go_ret
    all_goals exact ⟨ret_int (by rw [KC2.out]), Ext.auK⟩
  · rw [if_neg hq] at kc
    have KC2 := Lib.hid kc
    have hq2 : (U != u) = true := by simpa using hq
    have k1 : IntKind.i64.wrap (U - u) = U - u := IntWalk.i64_in _ (by omega)
    clear kc hq b0 b1 b2 b3 b4
    go_wp2_with (first | (go_at_call 78; refine (TU.out _).mono ?_; rintro rv w2 ⟨rfl, hb⟩; have ns : w1.heap.size < w2.heap.size := hb.ltK; have n0 : w2.cell? ⟨w.heap.size, 0, none⟩ = some (.int .i64 e) := hb.cellK; have n1 : w2.cell? ⟨w.heap.size, 1, none⟩ = some (.int .i64 f) := hb.cellK; have n2 : w2.cell? ⟨w1.heap.size, 0, none⟩ = some (.int .i64 u) := hb.cellK; have n3 : w2.cell? ⟨w1.heap.size, 1, none⟩ = some (.int .i64 r) := hb.cellK; have n4 : w2.cell? ⟨w1.heap.size, 2, none⟩ = some (.int .i64 h) := hb.cellK; (first | (have nx := Ext.trans hx hb; clear hx) | (have nx := Ext.trans (hx.alloc _) hb; clear hx) | (have nx := Ext.trans hx.drew hb; clear hx) | have nx := hb); clear hb; try clear hs; try clear g0; try clear g1; try clear g2; try clear g3; try clear g4; have hx := nx; clear nx; have hs := ns; clear ns; have g0 := n0; clear n0; have g1 := n1; clear n1; have g2 := n2; clear n2; have g3 := n3; clear n3; have g4 := n4; clear n4) | (go_at_call 79; refine (rdSignOf_any _ _).mono ?_; rintro rv w1 ⟨rfl, rfl⟩))
    all_goals (try (go_region_held3 (fun w' => w'.cell? ⟨w.heap.size, 0, none⟩ = some (.int .i64 e) ∧ w'.cell? ⟨w.heap.size, 1, none⟩ = some (.int .i64 f) ∧ w'.cell? ⟨w1.heap.size, 0, none⟩ = some (.int .i64 u) ∧ w'.cell? ⟨w1.heap.size, 1, none⟩ = some (.int .i64 r) ∧ w'.cell? ⟨w1.heap.size, 2, none⟩ = some (.int .i64 h) ∧ w1.heap.size < w'.heap.size) ((refine ⟨?_, ?_, ?_, ?_, ?_, ?_⟩ <;> first | with_reducible assumption | ((rw [cell_setRow_far _ _ _ _ _ (by omega)]); with_reducible assumption) | ((rw [setRow_size]); with_reducible assumption) | ((repeat rw [World.cell?_setCell_far _ _ _ _ (by simp)]); with_reducible assumption) | (simp; done) | (simp [World.setCell]; first | done | omega) | (simp [go_sem, World.cell?_alloc_past, World.cell?_setCell_far, *]; done))) ((first | (go_at_call 78; refine (TU.out _).mono ?_; rintro rv w2 ⟨rfl, hb⟩; have ns : w1.heap.size < w2.heap.size := hb.ltK; have n0 : w2.cell? ⟨w.heap.size, 0, none⟩ = some (.int .i64 e) := hb.cellK; have n1 : w2.cell? ⟨w.heap.size, 1, none⟩ = some (.int .i64 f) := hb.cellK; have n2 : w2.cell? ⟨w1.heap.size, 0, none⟩ = some (.int .i64 u) := hb.cellK; have n3 : w2.cell? ⟨w1.heap.size, 1, none⟩ = some (.int .i64 r) := hb.cellK; have n4 : w2.cell? ⟨w1.heap.size, 2, none⟩ = some (.int .i64 h) := hb.cellK; (first | (have nx := Ext.trans hx hb; clear hx) | (have nx := Ext.trans (hx.alloc _) hb; clear hx) | (have nx := Ext.trans hx.drew hb; clear hx) | have nx := hb); clear hb; try clear hs; try clear g0; try clear g1; try clear g2; try clear g3; try clear g4; have hx := nx; clear nx; have hs := ns; clear ns; have g0 := n0; clear n0; have g1 := n1; clear n1; have g2 := n2; clear n2; have g3 := n3; clear n3; have g4 := n4; clear n4)))))
    all_goals (try go_wp2_with (first | (go_at_call 78; refine (TU.out _).mono ?_; rintro rv w2 ⟨rfl, hb⟩; have ns : w1.heap.size < w2.heap.size := hb.ltK; have n0 : w2.cell? ⟨w.heap.size, 0, none⟩ = some (.int .i64 e) := hb.cellK; have n1 : w2.cell? ⟨w.heap.size, 1, none⟩ = some (.int .i64 f) := hb.cellK; have n2 : w2.cell? ⟨w1.heap.size, 0, none⟩ = some (.int .i64 u) := hb.cellK; have n3 : w2.cell? ⟨w1.heap.size, 1, none⟩ = some (.int .i64 r) := hb.cellK; have n4 : w2.cell? ⟨w1.heap.size, 2, none⟩ = some (.int .i64 h) := hb.cellK; (first | (have nx := Ext.trans hx hb; clear hx) | (have nx := Ext.trans (hx.alloc _) hb; clear hx) | (have nx := Ext.trans hx.drew hb; clear hx) | have nx := hb); clear hb; try clear hs; try clear g0; try clear g1; try clear g2; try clear g3; try clear g4; have hx := nx; clear nx; have hs := ns; clear ns; have g0 := n0; clear n0; have g1 := n1; clear n1; have g2 := n2; clear n2; have g3 := n3; clear n3; have g4 := n4; clear n4) | (go_at_call 79; refine (rdSignOf_any _ _).mono ?_; rintro rv w1 ⟨rfl, rfl⟩)))
    all_goals go_ret
    all_goals exact ⟨ret_int (by rw [KC2.out]), Ext.auK⟩
end Go.Proofs.YtjebechmedhidaaDoor

namespace Go.Proofs.YtjebechmedhidaaDoor
open Go Go.RowKit
set_option linter.unusedSimpArgs false
set_option linter.unusedVariables false
set_option maxRecDepth 100000

theorem P_bd {P : Int} (p0 : 1 ≤ P) (p1 : P ≤ 6) : 1 ≤ tenN (P.toNat - 1) ∧ tenN (P.toNat - 1) ≤ 100000 :=
  ⟨tenN_pos _, tenN_le 5 100000 rfl (by omega)⟩

set_option maxHeartbeats 3200000 in
theorem txBelow_any (e f a P : Int) (hf : finB e f a = true) (hz : unitsV e f a ≠ 0) (p0 : 1 ≤ P) (p1 : P ≤ 6) (w : World) :
    Calls Tryd.prog 48 #[fmt e f, .int .i64 a, .int .i64 P] w fun rv w' => ∃ low t : Int, rv = .returned (.tuple #[.int .i64 low, .int .i64 t]) ∧ BlT e f ((unitsV e f a).natAbs : Int) P.toNat low t ∧ Ext w w' := by
  have hg := (fin_size hf).1
  have vt := val_top hf
  obtain ⟨b0, b1⟩ := P_bd p0 p1
  have kP : IntKind.i64.wrap (P - 1) = P - 1 := IntWalk.i64_in _ (by omega)
  have TT := Lib.hid (fun w => by have := txTen_any (P - 1) (by omega) w; rw [show (P - 1).toNat = P.toNat - 1 by omega] at this; exact this)
  have TC := Lib.hid (fun (d t : Int) (h : TcP d t) (w : World) => txCompare_any e f a d t hf h w)
  have LO := Lib.hid (tc_low (v := ((unitsV e f a).natAbs : Int)) (d := tenN (P.toNat - 1)) hg (by omega) b1)
  have HI := Lib.hid (tc_high (v := ((unitsV e f a).natAbs : Int)) (d := tenN (P.toNat - 1)) vt b0)
  have TE := Lib.hid (fun d t => tc_ten e f ((unitsV e f a).natAbs : Int) d t)
  unfold cdV at TC
  unfold BlT
  generalize ((unitsV e f a).natAbs : Int) = v at *
  generalize tenN (P.toNat - 1) = L at *
  clear vt
  go_enter Tryd.func48, Tryd.ntmps48
  go_wp2_with (go_at_call 50; refine (TT.out _).mono ?_; rintro rv w1 ⟨rfl, hb⟩; have ns : w.heap.size < w1.heap.size := hb.ltK; have n0 : w1.cell? ⟨w.heap.size, 0, none⟩ = some (.int .i64 e) := hb.cellK; have n1 : w1.cell? ⟨w.heap.size, 1, none⟩ = some (.int .i64 f) := hb.cellK; (first | (have nx := Ext.trans hx hb; clear hx) | (have nx := Ext.trans (hx.alloc _) hb; clear hx) | (have nx := Ext.trans hx.drew hb; clear hx) | have nx := hb); clear hb; try clear hs; try clear g0; try clear g1; have hx := nx; clear nx; have hs := ns; clear ns; have g0 := n0; clear n0; have g1 := n1; clear n1)
  go_loopw [9] (fun x wr => ∃ t : Int, x = .int .i64 t ∧ -14 ≤ t ∧ t ≤ 14 ∧ RowKit.Hid (0 ≤ tcV e f v L t) ∧ w.heap.size < wr.heap.size ∧ wr.cell? ⟨w.heap.size, 0, none⟩ = some (.int .i64 e) ∧ wr.cell? ⟨w.heap.size, 1, none⟩ = some (.int .i64 f) ∧ Ext w wr) (fun x _ => (14 - intOf x).toNat)
  case atStart => exact ⟨-14, rfl, by omega, by omega, LO, by with_reducible assumption, by with_reducible assumption, by with_reducible assumption, Ext.auK⟩
  case round =>
    clear n0 n1
    obtain ⟨t, rfl, t0, t1, hq, hs, g0, g1, hx⟩ := hrel
    have t2 : t < 14 := by
      rcases Int.lt_or_eq_of_le t1 with h | h
      · exact h
      · exact absurd (show 0 ≤ tcV e f v L 14 by have := hq.out; rwa [h] at this) (by have := HI.out; omega)
    have ku : IntKind.i64.wrap (t + 1) = t + 1 := IntWalk.i64_in _ (by omega)
    have TK := Lib.hid (fun w => TC.out L (t + 1) ⟨⟨by omega, by omega⟩, by omega, by omega⟩ w)
    by_cases hc : 0 ≤ tcV e f v L (t + 1)
    · have HC := Lib.hid hc
      obtain ⟨c, hcc⟩ : ∃ c, tcV e f v L (t + 1) = c := ⟨_, rfl⟩
      rw [hcc] at TK hc
      clear hcc
      go_wp2_with (go_at_call 40; refine (TK.out _).mono ?_; rintro rv w1 ⟨rfl, hb⟩; have ns : w.heap.size < w1.heap.size := hb.ltK; have n0 : w1.cell? ⟨w.heap.size, 0, none⟩ = some (.int .i64 e) := hb.cellK; have n1 : w1.cell? ⟨w.heap.size, 1, none⟩ = some (.int .i64 f) := hb.cellK; (first | (have nx := Ext.trans hx hb; clear hx) | (have nx := Ext.trans (hx.alloc _) hb; clear hx) | (have nx := Ext.trans hx.drew hb; clear hx) | have nx := hb); clear hb; try clear hs; try clear g0; try clear g1; have hx := nx; clear nx; have hs := ns; clear ns; have g0 := n0; clear n0; have g1 := n1; clear n1)
      try (go_region_held3 (fun w' => w'.cell? ⟨w.heap.size, 0, none⟩ = some (.int .i64 e) ∧ w'.cell? ⟨w.heap.size, 1, none⟩ = some (.int .i64 f) ∧ w.heap.size < w'.heap.size) ((refine ⟨?_, ?_, ?_⟩ <;> first | with_reducible assumption | ((rw [cell_setRow_far _ _ _ _ _ (by omega)]); with_reducible assumption) | ((rw [setRow_size]); with_reducible assumption) | ((repeat rw [World.cell?_setCell_far _ _ _ _ (by simp)]); with_reducible assumption) | (simp; done) | (simp [World.setCell]; first | done | omega) | (simp [go_sem, World.cell?_alloc_past, World.cell?_setCell_far, *]; done))) ((first | (go_at_call 40; refine (TK.out _).mono ?_; rintro rv w1 ⟨rfl, hb⟩; have ns : w.heap.size < w1.heap.size := hb.ltK; have n0 : w1.cell? ⟨w.heap.size, 0, none⟩ = some (.int .i64 e) := hb.cellK; have n1 : w1.cell? ⟨w.heap.size, 1, none⟩ = some (.int .i64 f) := hb.cellK; (first | (have nx := Ext.trans hx hb; clear hx) | (have nx := Ext.trans (hx.alloc _) hb; clear hx) | (have nx := Ext.trans hx.drew hb; clear hx) | have nx := hb); clear hb; try clear hs; try clear g0; try clear g1; have hx := nx; clear nx; have hs := ns; clear ns; have g0 := n0; clear n0; have g1 := n1; clear n1) | fail)))
      try go_wp2_with fail
      go_roundw
      case rel => exact ⟨t + 1, rfl, by omega, by omega, HC, by with_reducible assumption, by with_reducible assumption, by with_reducible assumption, Ext.auK⟩
      case measure => simp [intOf]; omega
    · have NC : RowKit.Hid (tcV e f v (10 * L) t < 0) := Lib.hid (by rw [TE.out]; omega)
      obtain ⟨c, hcc⟩ : ∃ c, tcV e f v L (t + 1) = c := ⟨_, rfl⟩
      rw [hcc] at TK hc
      clear hcc
      have kL : IntKind.i64.wrap (10 * L) = 10 * L := IntWalk.i64_in _ (by omega)
      go_wp2_with (go_at_call 40; refine (TK.out _).mono ?_; rintro rv w1 ⟨rfl, hb⟩; have ns : w.heap.size < w1.heap.size := hb.ltK; have n0 : w1.cell? ⟨w.heap.size, 0, none⟩ = some (.int .i64 e) := hb.cellK; have n1 : w1.cell? ⟨w.heap.size, 1, none⟩ = some (.int .i64 f) := hb.cellK; (first | (have nx := Ext.trans hx hb; clear hx) | (have nx := Ext.trans (hx.alloc _) hb; clear hx) | (have nx := Ext.trans hx.drew hb; clear hx) | have nx := hb); clear hb; try clear hs; try clear g0; try clear g1; have hx := nx; clear nx; have hs := ns; clear ns; have g0 := n0; clear n0; have g1 := n1; clear n1)
      try (go_region_held3 (fun w' => w'.cell? ⟨w.heap.size, 0, none⟩ = some (.int .i64 e) ∧ w'.cell? ⟨w.heap.size, 1, none⟩ = some (.int .i64 f) ∧ w.heap.size < w'.heap.size) ((refine ⟨?_, ?_, ?_⟩ <;> first | with_reducible assumption | ((rw [cell_setRow_far _ _ _ _ _ (by omega)]); with_reducible assumption) | ((rw [setRow_size]); with_reducible assumption) | ((repeat rw [World.cell?_setCell_far _ _ _ _ (by simp)]); with_reducible assumption) | (simp; done) | (simp [World.setCell]; first | done | omega) | (simp [go_sem, World.cell?_alloc_past, World.cell?_setCell_far, *]; done))) ((first | (go_at_call 40; refine (TK.out _).mono ?_; rintro rv w1 ⟨rfl, hb⟩; have ns : w.heap.size < w1.heap.size := hb.ltK; have n0 : w1.cell? ⟨w.heap.size, 0, none⟩ = some (.int .i64 e) := hb.cellK; have n1 : w1.cell? ⟨w.heap.size, 1, none⟩ = some (.int .i64 f) := hb.cellK; (first | (have nx := Ext.trans hx hb; clear hx) | (have nx := Ext.trans (hx.alloc _) hb; clear hx) | (have nx := Ext.trans hx.drew hb; clear hx) | have nx := hb); clear hb; try clear hs; try clear g0; try clear g1; have hx := nx; clear nx; have hs := ns; clear ns; have g0 := n0; clear n0; have g1 := n1; clear n1) | fail)))
      try go_wp2_with fail
      clear TK TT
      go_loopw [10, 11] (fun x y wr => ∃ lo hi : Int, x = .int .i64 lo ∧ y = .int .i64 hi ∧ L ≤ lo ∧ lo < hi ∧ hi ≤ 10 * L ∧ RowKit.Hid (0 ≤ tcV e f v lo t) ∧ RowKit.Hid (tcV e f v hi t < 0) ∧ w.heap.size < wr.heap.size ∧ wr.cell? ⟨w.heap.size, 0, none⟩ = some (.int .i64 e) ∧ wr.cell? ⟨w.heap.size, 1, none⟩ = some (.int .i64 f) ∧ Ext w wr) (fun x y _ => (intOf y - intOf x).toNat)
      case atStart => exact ⟨L, 10 * L, rfl, rfl, by omega, by omega, by omega, hq, NC, by with_reducible assumption, by with_reducible assumption, by with_reducible assumption, Ext.auK⟩
      case round =>
        clear hx hs g0 g1
        obtain ⟨lo, hi, rfl, rfl, l0, l1, l2, q1, q2, hs, g0, g1, hx⟩ := hrel
        have kd : IntKind.i64.wrap (hi - lo) = hi - lo := IntWalk.i64_in _ (by omega)
        by_cases hm : 1 < hi - lo
        · have ks : IntKind.i64.wrap (lo + hi) = lo + hi := IntWalk.i64_in _ (by omega)
          obtain ⟨m, hmm⟩ : ∃ m, m = (lo + hi) / 2 := ⟨_, rfl⟩
          have td : (lo + hi).tdiv 2 = m := by rw [hmm]; exact Int.tdiv_eq_ediv_of_nonneg (by omega)
          have m0 : lo < m := by omega
          have m1 : m < hi := by omega
          have km : IntKind.i64.wrap m = m := IntWalk.i64_in _ (by omega)
          have TM := Lib.hid (fun w => TC.out m t ⟨⟨by omega, by omega⟩, by omega, by omega⟩ w)
          clear hmm
          by_cases hk : 0 ≤ tcV e f v m t
          · have HK := Lib.hid hk
            obtain ⟨cm, hcm⟩ : ∃ c, tcV e f v m t = c := ⟨_, rfl⟩
            rw [hcm] at TM hk
            clear hcm
            go_wp2_with (go_at_call 40; refine (TM.out _).mono ?_; rintro rv w1 ⟨rfl, hb⟩; have ns : w.heap.size < w1.heap.size := hb.ltK; have n0 : w1.cell? ⟨w.heap.size, 0, none⟩ = some (.int .i64 e) := hb.cellK; have n1 : w1.cell? ⟨w.heap.size, 1, none⟩ = some (.int .i64 f) := hb.cellK; (first | (have nx := Ext.trans hx hb; clear hx) | (have nx := Ext.trans (hx.alloc _) hb; clear hx) | (have nx := Ext.trans hx.drew hb; clear hx) | have nx := hb); clear hb; try clear hs; try clear g0; try clear g1; have hx := nx; clear nx; have hs := ns; clear ns; have g0 := n0; clear n0; have g1 := n1; clear n1)
            try (go_region_held3 (fun w' => w'.cell? ⟨w.heap.size, 0, none⟩ = some (.int .i64 e) ∧ w'.cell? ⟨w.heap.size, 1, none⟩ = some (.int .i64 f) ∧ w.heap.size < w'.heap.size) ((refine ⟨?_, ?_, ?_⟩ <;> first | with_reducible assumption | ((rw [cell_setRow_far _ _ _ _ _ (by omega)]); with_reducible assumption) | ((rw [setRow_size]); with_reducible assumption) | ((repeat rw [World.cell?_setCell_far _ _ _ _ (by simp)]); with_reducible assumption) | (simp; done) | (simp [World.setCell]; first | done | omega) | (simp [go_sem, World.cell?_alloc_past, World.cell?_setCell_far, *]; done))) ((first | (go_at_call 40; refine (TM.out _).mono ?_; rintro rv w1 ⟨rfl, hb⟩; have ns : w.heap.size < w1.heap.size := hb.ltK; have n0 : w1.cell? ⟨w.heap.size, 0, none⟩ = some (.int .i64 e) := hb.cellK; have n1 : w1.cell? ⟨w.heap.size, 1, none⟩ = some (.int .i64 f) := hb.cellK; (first | (have nx := Ext.trans hx hb; clear hx) | (have nx := Ext.trans (hx.alloc _) hb; clear hx) | (have nx := Ext.trans hx.drew hb; clear hx) | have nx := hb); clear hb; try clear hs; try clear g0; try clear g1; have hx := nx; clear nx; have hs := ns; clear ns; have g0 := n0; clear n0; have g1 := n1; clear n1) | fail)))
            try go_wp2_with fail
            go_roundw
            case rel => exact ⟨m, hi, rfl, rfl, by omega, by omega, by omega, HK, q2, by with_reducible assumption, by with_reducible assumption, by with_reducible assumption, Ext.auK⟩
            case measure => simp [intOf]; omega
          · have HK : RowKit.Hid (tcV e f v m t < 0) := Lib.hid (by omega)
            obtain ⟨cm, hcm⟩ : ∃ c, tcV e f v m t = c := ⟨_, rfl⟩
            rw [hcm] at TM hk
            clear hcm
            go_wp2_with (go_at_call 40; refine (TM.out _).mono ?_; rintro rv w1 ⟨rfl, hb⟩; have ns : w.heap.size < w1.heap.size := hb.ltK; have n0 : w1.cell? ⟨w.heap.size, 0, none⟩ = some (.int .i64 e) := hb.cellK; have n1 : w1.cell? ⟨w.heap.size, 1, none⟩ = some (.int .i64 f) := hb.cellK; (first | (have nx := Ext.trans hx hb; clear hx) | (have nx := Ext.trans (hx.alloc _) hb; clear hx) | (have nx := Ext.trans hx.drew hb; clear hx) | have nx := hb); clear hb; try clear hs; try clear g0; try clear g1; have hx := nx; clear nx; have hs := ns; clear ns; have g0 := n0; clear n0; have g1 := n1; clear n1)
            try (go_region_held3 (fun w' => w'.cell? ⟨w.heap.size, 0, none⟩ = some (.int .i64 e) ∧ w'.cell? ⟨w.heap.size, 1, none⟩ = some (.int .i64 f) ∧ w.heap.size < w'.heap.size) ((refine ⟨?_, ?_, ?_⟩ <;> first | with_reducible assumption | ((rw [cell_setRow_far _ _ _ _ _ (by omega)]); with_reducible assumption) | ((rw [setRow_size]); with_reducible assumption) | ((repeat rw [World.cell?_setCell_far _ _ _ _ (by simp)]); with_reducible assumption) | (simp; done) | (simp [World.setCell]; first | done | omega) | (simp [go_sem, World.cell?_alloc_past, World.cell?_setCell_far, *]; done))) ((first | (go_at_call 40; refine (TM.out _).mono ?_; rintro rv w1 ⟨rfl, hb⟩; have ns : w.heap.size < w1.heap.size := hb.ltK; have n0 : w1.cell? ⟨w.heap.size, 0, none⟩ = some (.int .i64 e) := hb.cellK; have n1 : w1.cell? ⟨w.heap.size, 1, none⟩ = some (.int .i64 f) := hb.cellK; (first | (have nx := Ext.trans hx hb; clear hx) | (have nx := Ext.trans (hx.alloc _) hb; clear hx) | (have nx := Ext.trans hx.drew hb; clear hx) | have nx := hb); clear hb; try clear hs; try clear g0; try clear g1; have hx := nx; clear nx; have hs := ns; clear ns; have g0 := n0; clear n0; have g1 := n1; clear n1) | fail)))
            try go_wp2_with fail
            go_roundw
            case rel => exact ⟨lo, m, rfl, rfl, by omega, by omega, by omega, q1, HK, by with_reducible assumption, by with_reducible assumption, by with_reducible assumption, Ext.auK⟩
            case measure => simp [intOf]; omega
        · have e1 : hi = lo + 1 := by omega
          have Q2 : RowKit.Hid (tcV e f v (lo + 1) t < 0) := by rw [← e1]; exact q2
          have E1 := Lib.hid e1
          clear e1
          go_wp2_with fail
          go_ret2
          exact ⟨lo, t, rfl, ⟨q1.out, Q2.out, l0, by have := E1.out; omega, t0, by omega⟩, Ext.auK⟩
end Go.Proofs.YtjebechmedhidaaDoor

namespace Go.Proofs.YtjebechmedhidaaDoor
open Go Go.RowKit
set_option linter.unusedSimpArgs false
set_option linter.unusedVariables false
set_option maxRecDepth 100000

/-- num / den times ten to the t is v units. -/
def RtP (e f v num den t : Int) : Prop := num * tenN t.toNat * pw (-unV e f) = v * den * tenN (-t).toNat

theorem rt_den {e f v num den t : Int} (h : RtP e f v num den t) (ht : 0 ≤ t) : RtP e f v num (den * 10) (t + 1) := by
  unfold RtP at h ⊢
  rw [show (-t).toNat = 0 by omega, show tenN 0 = 1 from rfl, Int.mul_one] at h
  rw [show (-(t + 1)).toNat = 0 by omega, show (t + 1).toNat = t.toNat + 1 by omega, show tenN (t.toNat + 1) = tenN t.toNat * 10 from rfl, show tenN 0 = 1 from rfl, Int.mul_one, ← Int.mul_assoc v, ← h]
  rw [← Int.mul_assoc num, Int.mul_assoc (num * tenN t.toNat) 10, Int.mul_comm 10, ← Int.mul_assoc]

theorem rt_num {e f v num den t : Int} (h : RtP e f v num den t) : RtP e f v (num * 10) den (t - 1) := by
  unfold RtP at h ⊢
  by_cases ht : 0 < t
  · rw [show (-t).toNat = 0 by omega, show t.toNat = (t - 1).toNat + 1 by omega, show tenN ((t - 1).toNat + 1) = tenN (t - 1).toNat * 10 from rfl] at h
    rw [show (-(t - 1)).toNat = 0 by omega, ← h, Int.mul_assoc num 10, Int.mul_comm 10]
  · rw [show t.toNat = 0 by omega] at h
    rw [show (t - 1).toNat = 0 by omega, show (-(t - 1)).toNat = (-t).toNat + 1 by omega, show tenN ((-t).toNat + 1) = tenN (-t).toNat * 10 from rfl, ← Int.mul_assoc, ← h]
    rw [Int.mul_assoc num 10, Int.mul_assoc (num * tenN 0), Int.mul_comm (pw (-unV e f)) 10, ← Int.mul_assoc (num * tenN 0), Int.mul_assoc num (tenN 0) 10, Int.mul_comm (tenN 0) 10]

theorem rt_cmp {e f v num den t d : Int} (h : RtP e f v num den t) (hd : 0 < den) : 0 ≤ tcV e f v d t ↔ d * den ≤ num := by
  have p := pw_pos (-unV e f)
  have k := tenN_pos t.toNat
  have m0 : 0 < tenN t.toNat * pw (-unV e f) := Int.mul_pos (by omega) (by omega)
  unfold RtP at h
  rw [tc_nonneg]
  have e1 : d * den * (tenN t.toNat * pw (-unV e f)) = d * tenN t.toNat * pw (-unV e f) * den := by
    rw [Int.mul_assoc d den, Int.mul_comm den, ← Int.mul_assoc d, ← Int.mul_assoc d]
  have e2 : num * (tenN t.toNat * pw (-unV e f)) = v * tenN (-t).toNat * den := by
    rw [← Int.mul_assoc, h, Int.mul_assoc v, Int.mul_comm den, ← Int.mul_assoc v]
  constructor
  · intro g
    have g2 := Int.mul_le_mul_of_nonneg_right g (show 0 ≤ den by omega)
    rw [← e1, ← e2] at g2
    exact Int.le_of_mul_le_mul_right g2 m0
  · intro g
    have g2 := Int.mul_le_mul_of_nonneg_right g (show 0 ≤ tenN t.toNat * pw (-unV e f) by omega)
    rw [e1, e2] at g2
    exact Int.le_of_mul_le_mul_right g2 hd

theorem rt_start {e f a : Int} (hf : finB e f a = true) (hz : (unitsV e f a) ≠ 0) : RtP e f ((unitsV e f a).natAbs : Int) (((odV (unitsV e f a)).natAbs : Int) * pw ((shE (unitsV e f a) (unV e f)) - min (shE (unitsV e f a) (unV e f)) 0)) (1 * pw (0 - min (shE (unitsV e f a) (unV e f)) 0)) 0 ∧ 0 < (((odV (unitsV e f a)).natAbs : Int) * pw ((shE (unitsV e f a) (unV e f)) - min (shE (unitsV e f a) (unV e f)) 0)) ∧ 0 < (1 * pw (0 - min (shE (unitsV e f a) (unV e f)) 0)) ∧ (1 * pw (0 - min (shE (unitsV e f a) (unV e f)) 0)) ≤ 16777216 ∧ (((odV (unitsV e f a)).natAbs : Int) * pw ((shE (unitsV e f a) (unV e f)) - min (shE (unitsV e f a) (unV e f)) 0)) ≤ 65536 := by
  have hap := (fin_pat hf).1
  have hg := (pat_iff.1 hap).1
  have ub := units_bd e f a hap
  have u := un_bd hg
  have vt := val_top hf
  obtain ⟨t0, t1, t2, t3⟩ := tz_spec (unitsV e f a) hz (by omega) (by omega)
  have hx : (shE (unitsV e f a) (unV e f)) = unV e f + tzV (unitsV e f a) := if_neg hz
  obtain ⟨x0, x1⟩ := xa_bd hf
  have hm : unV e f ≤ min (shE (unitsV e f a) (unV e f)) 0 := by omega
  have q := pw_pos (min (shE (unitsV e f a) (unV e f)) 0 - unV e f)
  have q2 := pw_pos (0 - min (shE (unitsV e f a) (unV e f)) 0)
  have q3 := pw_pos ((shE (unitsV e f a) (unV e f)) - min (shE (unitsV e f a) (unV e f)) 0)
  have e1 : (((odV (unitsV e f a)).natAbs : Int) * pw ((shE (unitsV e f a) (unV e f)) - min (shE (unitsV e f a) (unV e f)) 0)) * pw (min (shE (unitsV e f a) (unV e f)) 0 - unV e f) = ((unitsV e f a).natAbs : Int) := by
    rw [Int.mul_assoc, ← pw_add _ _ (by omega) (by omega), show (shE (unitsV e f a) (unV e f)) - min (shE (unitsV e f a) (unV e f)) 0 + (min (shE (unitsV e f a) (unV e f)) 0 - unV e f) = tzV (unitsV e f a) by omega]
    have p := pw_pos (tzV (unitsV e f a))
    have h : ((odV (unitsV e f a) * pw (tzV (unitsV e f a))).natAbs : Int) = ((odV (unitsV e f a)).natAbs : Int) * pw (tzV (unitsV e f a)) := by
      rw [Int.natAbs_mul, Int.natCast_mul, Int.natAbs_of_nonneg (show 0 ≤ pw (tzV (unitsV e f a)) by omega)]
    rw [← t2] at h
    exact h.symm
  have e2 : (1 * pw (0 - min (shE (unitsV e f a) (unV e f)) 0)) * pw (min (shE (unitsV e f a) (unV e f)) 0 - unV e f) = pw (-unV e f) := by
    rw [Int.one_mul, ← pw_add _ _ (by omega) (by omega)]
    congr 1
    omega
  have d2 := pw_le (a := 0 - min (shE (unitsV e f a) (unV e f)) 0) 24 16777216 rfl (by omega)
  have n0 : 0 < (((odV (unitsV e f a)).natAbs : Int) * pw ((shE (unitsV e f a) (unV e f)) - min (shE (unitsV e f a) (unV e f)) 0)) := by
    rcases Int.lt_or_le 0 (((odV (unitsV e f a)).natAbs : Int) * pw ((shE (unitsV e f a) (unV e f)) - min (shE (unitsV e f a) (unV e f)) 0)) with h | h
    · exact h
    · have := Int.mul_nonpos_of_nonpos_of_nonneg h (show 0 ≤ pw (min (shE (unitsV e f a) (unV e f)) 0 - unV e f) by omega)
      omega
  refine ⟨?_, n0, by omega, by omega, ?_⟩
  · unfold RtP
    rw [show ((0 : Int)).toNat = 0 from rfl, show (-(0 : Int)).toNat = 0 from rfl, show tenN 0 = 1 from rfl, Int.mul_one, Int.mul_one]
    have key : ∀ n d m : Int, n * (d * m) = n * m * d := fun n d m => by rw [Int.mul_comm d m, Int.mul_assoc]
    have k2 := key (((odV (unitsV e f a)).natAbs : Int) * pw ((shE (unitsV e f a) (unV e f)) - min (shE (unitsV e f a) (unV e f)) 0)) (1 * pw (0 - min (shE (unitsV e f a) (unV e f)) 0)) (pw (min (shE (unitsV e f a) (unV e f)) 0 - unV e f))
    rw [e1, e2] at k2
    exact k2
  · obtain ⟨o1, o2, _⟩ := un_small hap
    by_cases hx0 : 0 ≤ (shE (unitsV e f a) (unV e f))
    · have d1 : (1 * pw (0 - min (shE (unitsV e f a) (unV e f)) 0)) = 1 := by rw [show 0 - min (shE (unitsV e f a) (unV e f)) 0 = 0 by omega]; rfl
      have g : (((odV (unitsV e f a)).natAbs : Int) * pw ((shE (unitsV e f a) (unV e f)) - min (shE (unitsV e f a) (unV e f)) 0)) * pw (min (shE (unitsV e f a) (unV e f)) 0 - unV e f) ≤ 65536 * (1 * pw (0 - min (shE (unitsV e f a) (unV e f)) 0)) * pw (min (shE (unitsV e f a) (unV e f)) 0 - unV e f) := by rw [e1, Int.mul_assoc, e2]; exact vt
      have := Int.le_of_mul_le_mul_right g (by omega)
      omega
    · have d1 : (((odV (unitsV e f a)).natAbs : Int) * pw ((shE (unitsV e f a) (unV e f)) - min (shE (unitsV e f a) (unV e f)) 0)) = ((odV (unitsV e f a)).natAbs : Int) := by rw [show (shE (unitsV e f a) (unV e f)) - min (shE (unitsV e f a) (unV e f)) 0 = 0 by omega, show pw 0 = 1 from rfl, Int.mul_one]
      omega

/-- A cell's number. -/
def cellI (w : World) (b o : Nat) : Int := match w.cell? ⟨b, o, none⟩ with
  | some v => intOf v
  | none => 0

set_option maxHeartbeats 3200000 in
theorem ratio_any (e f a P : Int) (hf : finB e f a = true) (hz : (unitsV e f a) ≠ 0) (p0 : 1 ≤ P) (p1 : P ≤ 6) (w : World) :
    Calls Tryd.prog 52 #[.agg #[.int .i64 (a / pw (e + f)), .int .i64 ((odV (unitsV e f a)).natAbs : Int), .int .i64 (shE (unitsV e f a) (unV e f))], .int .i64 P] w fun rv w' => ∃ num den t : Int, rv = .returned (.agg #[.int .i64 num, .int .i64 den, .int .i64 t, .int .i64 P]) ∧ RtP e f ((unitsV e f a).natAbs : Int) num den t ∧ (0 < den ∧ den ≤ 16777216) ∧ (tenN (P.toNat - 1) * den ≤ num ∧ num < 10 * tenN (P.toNat - 1) * den) ∧ (-40 ≤ t ∧ t ≤ 40) ∧ Ext w w' := by
  obtain ⟨r1, r2, r3, r4, r5⟩ := rt_start hf hz
  obtain ⟨x0, x1⟩ := xa_bd hf
  obtain ⟨b0, b1⟩ := P_bd p0 p1
  have TG := Lib.hid (fun w => together_any (a / pw (e + f)) ((odV (unitsV e f a)).natAbs : Int) (shE (unitsV e f a) (unV e f)) 0 1 0 _ _ rfl rfl (by omega) (by omega) (by omega) (by omega) (IntWalk.i64_in _ (by omega)) (IntWalk.i64_in _ (by omega)) w)
  have kP : IntKind.i64.wrap (P - 1) = P - 1 := IntWalk.i64_in _ (by omega)
  have TH := Lib.hid (fun w => by have := tenTo_any P (by omega) w; rw [show P.toNat = (P.toNat - 1) + 1 by omega, show tenN (P.toNat - 1 + 1) = tenN (P.toNat - 1) * 10 from rfl] at this; exact this)
  have TL := Lib.hid (fun w => by have := tenTo_any (P - 1) (by omega) w; rw [show (P - 1).toNat = P.toNat - 1 by omega] at this; exact this)
  generalize tenN (P.toNat - 1) = L at *
  generalize (((odV (unitsV e f a)).natAbs : Int) * pw ((shE (unitsV e f a) (unV e f)) - min (shE (unitsV e f a) (unV e f)) 0)) = N0 at *
  generalize (1 * pw (0 - min (shE (unitsV e f a) (unV e f)) 0)) = D0 at *
  generalize ((unitsV e f a).natAbs : Int) = v at *
  generalize min (shE (unitsV e f a) (unV e f)) 0 = mn at *
  generalize (a / pw (e + f)) = G at *
  generalize ((odV (unitsV e f a)).natAbs : Int) = NA0 at *
  generalize (shE (unitsV e f a) (unV e f)) = X at *
  have R1 := Lib.hid r1
  clear r1
  go_enter Tryd.func52, Tryd.ntmps52
  go_wp2_with (go_at_call 74; refine (TG.out _).mono ?_; rintro rv w1 ⟨rfl, hb⟩; have s1 : w.heap.size + 1 < w1.heap.size := hb.lt (by first | (simp; done) | (simp; omega)); have y0 : w1.cell? ⟨w.heap.size + 1, 0, none⟩ = some (.int .i64 0) := (hb.cells _ _ (by first | (simp; done) | (simp; omega))).trans (by first | (simp; done) | (simp [go_sem]; done) | (simp [go_sem, *]; done)); have z0 : w1.frozen? ⟨w.heap.size + 1, 0, none⟩ = false := (hb.frz _ _ (by first | (simp; done) | (simp; omega))).trans (by first | (simp; done) | (simp [go_sem]; done) | (simp [go_sem, *]; done)); have y1 : w1.cell? ⟨w.heap.size + 1, 1, none⟩ = some (.int .i64 0) := (hb.cells _ _ (by first | (simp; done) | (simp; omega))).trans (by first | (simp; done) | (simp [go_sem]; done) | (simp [go_sem, *]; done)); have z1 : w1.frozen? ⟨w.heap.size + 1, 1, none⟩ = false := (hb.frz _ _ (by first | (simp; done) | (simp; omega))).trans (by first | (simp; done) | (simp [go_sem]; done) | (simp [go_sem, *]; done)); have y2 : w1.cell? ⟨w.heap.size + 1, 2, none⟩ = some (.int .i64 0) := (hb.cells _ _ (by first | (simp; done) | (simp; omega))).trans (by first | (simp; done) | (simp [go_sem]; done) | (simp [go_sem, *]; done)); have z2 : w1.frozen? ⟨w.heap.size + 1, 2, none⟩ = false := (hb.frz _ _ (by first | (simp; done) | (simp; omega))).trans (by first | (simp; done) | (simp [go_sem]; done) | (simp [go_sem, *]; done)); have y3 : w1.cell? ⟨w.heap.size + 1, 3, none⟩ = some (.int .i64 0) := (hb.cells _ _ (by first | (simp; done) | (simp; omega))).trans (by first | (simp; done) | (simp [go_sem]; done) | (simp [go_sem, *]; done)); have z3 : w1.frozen? ⟨w.heap.size + 1, 3, none⟩ = false := (hb.frz _ _ (by first | (simp; done) | (simp; omega))).trans (by first | (simp; done) | (simp [go_sem]; done) | (simp [go_sem, *]; done)); have hx : Ext w w1 := Ext.trans Ext.auK hb; clear hb)
  go_loopw [27] (fun _ wr => ∃ den t : Int, RowKit.Hid (RtP e f v N0 den t) ∧ 0 < den ∧ den ≤ 16777216 ∧ 0 ≤ t ∧ RowKit.Hid (tenN t.toNat ≤ den) ∧ RowKit.Hid ((t = 0 ∧ den = D0) ∨ L * den ≤ N0) ∧ wr.cell? ⟨w1.heap.size, 0, none⟩ = some (.int .i64 N0) ∧ wr.cell? ⟨w1.heap.size, 1, none⟩ = some (.int .i64 den) ∧ wr.cell? ⟨w1.heap.size, 2, none⟩ = some (.int .i64 t) ∧ wr.cell? ⟨w1.heap.size, 3, none⟩ = some (.int .i64 P) ∧ wr.cell? ⟨w.heap.size + 1, 0, none⟩ = some (.int .i64 0) ∧ wr.cell? ⟨w.heap.size + 1, 1, none⟩ = some (.int .i64 0) ∧ wr.cell? ⟨w.heap.size + 1, 2, none⟩ = some (.int .i64 0) ∧ wr.cell? ⟨w.heap.size + 1, 3, none⟩ = some (.int .i64 0) ∧ wr.frozen? ⟨w1.heap.size, 0, none⟩ = false ∧ wr.frozen? ⟨w1.heap.size, 1, none⟩ = false ∧ wr.frozen? ⟨w1.heap.size, 2, none⟩ = false ∧ wr.frozen? ⟨w1.heap.size, 3, none⟩ = false ∧ wr.frozen? ⟨w.heap.size + 1, 0, none⟩ = false ∧ wr.frozen? ⟨w.heap.size + 1, 1, none⟩ = false ∧ wr.frozen? ⟨w.heap.size + 1, 2, none⟩ = false ∧ wr.frozen? ⟨w.heap.size + 1, 3, none⟩ = false ∧ w1.heap.size < wr.heap.size ∧ Ext w wr) (fun _ wr => (N0 - cellI wr w1.heap.size 1).toNat)
  case atStart => exact ⟨D0, 0, R1, r3, r4, by omega, Lib.hid (by show 1 ≤ D0; omega), Lib.hid (Or.inl ⟨rfl, rfl⟩), by simp, by simp [go_sem], by simp [go_sem], by simp [go_sem], (by first | with_reducible assumption | (simp [go_sem, *]; done)), (by first | with_reducible assumption | (simp [go_sem, *]; done)), (by first | with_reducible assumption | (simp [go_sem, *]; done)), (by first | with_reducible assumption | (simp [go_sem, *]; done)), by simp [go_sem], by simp [go_sem], by simp [go_sem], by simp [go_sem], (by first | with_reducible assumption | (simp [go_sem, *]; done)), (by first | with_reducible assumption | (simp [go_sem, *]; done)), (by first | with_reducible assumption | (simp [go_sem, *]; done)), (by first | with_reducible assumption | (simp [go_sem, *]; done)), by simp, Ext.auK⟩
  case round =>
    clear hx
    obtain ⟨den, t, hR, d0, d1, t0, hT, hD, g0, g1, g2, g3, g4, g5, g6, g7, z0, z1, z2, z3, z4, z5, z6, z7, hs, hx⟩ := hrel
    have m0 : 0 ≤ den * (L * 10) := Int.mul_nonneg (by omega) (by omega)
    have m1 : den * (L * 10) ≤ 16777216 * 1000000 := Int.mul_le_mul d1 (by omega) (by omega) (by decide)
    have m2 : den * 10 ≤ den * (L * 10) := Int.mul_le_mul_of_nonneg_left (by omega) (by omega)
    have t8 : t < 8 := by
      apply Int.lt_of_not_ge
      intro h
      have := tenN_ge (k := t.toNat) 8 100000000 rfl (by omega)
      have := hT.out
      omega
    have kd : IntKind.i64.wrap (den * (L * 10)) = den * (L * 10) := IntWalk.i64_in _ (by omega)
    by_cases hc : den * (L * 10) ≤ N0
    · have kd2 : IntKind.i64.wrap (den * 10) = den * 10 := IntWalk.i64_in _ (by omega)
      have kt : IntKind.i64.wrap (t + 1) = t + 1 := IntWalk.i64_in _ (by omega)
      have e1 : L * (den * 10) = den * (L * 10) := by rw [Int.mul_comm L, Int.mul_assoc, Int.mul_comm 10 L]
      have NR_ : RowKit.Hid (RtP e f v N0 (den * 10) (t + 1)) := Lib.hid (rt_den hR.out t0)
      have NT : RowKit.Hid (tenN (t + 1).toNat ≤ den * 10) := Lib.hid (by rw [show (t + 1).toNat = t.toNat + 1 by omega]; show tenN t.toNat * 10 ≤ _; have := hT.out; omega)
      have ND : RowKit.Hid ((t + 1 = 0 ∧ den * 10 = D0) ∨ L * (den * 10) ≤ N0) := Lib.hid (Or.inr (by rw [e1]; exact hc))
      have NB1 : RowKit.Hid (0 < den * 10 ∧ den * 10 ≤ 16777216 ∧ 0 ≤ t + 1 ∧ (N0 - den * 10).toNat < (N0 - den).toNat) := Lib.hid ⟨by omega, by omega, by omega, by omega⟩
      have C2 : RowKit.Hid (cellI wr w1.heap.size 1 = den) := Lib.hid (by unfold cellI; rw [g1]; rfl)
      clear e1 m0 m1 m2
      generalize hQ : den * (L * 10) = Q at *
      go_wp2_with fail
      go_region_held3 (fun w' => w'.cell? ⟨w1.heap.size, 0, none⟩ = some (.int .i64 N0) ∧ w'.cell? ⟨w1.heap.size, 1, none⟩ = some (.int .i64 den) ∧ w'.cell? ⟨w1.heap.size, 2, none⟩ = some (.int .i64 t) ∧ w'.cell? ⟨w1.heap.size, 3, none⟩ = some (.int .i64 P) ∧ w'.cell? ⟨w.heap.size + 1, 0, none⟩ = some (.int .i64 0) ∧ w'.cell? ⟨w.heap.size + 1, 1, none⟩ = some (.int .i64 0) ∧ w'.cell? ⟨w.heap.size + 1, 2, none⟩ = some (.int .i64 0) ∧ w'.cell? ⟨w.heap.size + 1, 3, none⟩ = some (.int .i64 0) ∧ w'.frozen? ⟨w1.heap.size, 0, none⟩ = false ∧ w'.frozen? ⟨w1.heap.size, 1, none⟩ = false ∧ w'.frozen? ⟨w1.heap.size, 2, none⟩ = false ∧ w'.frozen? ⟨w1.heap.size, 3, none⟩ = false ∧ w'.frozen? ⟨w.heap.size + 1, 0, none⟩ = false ∧ w'.frozen? ⟨w.heap.size + 1, 1, none⟩ = false ∧ w'.frozen? ⟨w.heap.size + 1, 2, none⟩ = false ∧ w'.frozen? ⟨w.heap.size + 1, 3, none⟩ = false ∧ w1.heap.size < w'.heap.size) ((refine ⟨?_, ?_, ?_, ?_, ?_, ?_, ?_, ?_, ?_, ?_, ?_, ?_, ?_, ?_, ?_, ?_, ?_⟩ <;> first | with_reducible assumption | ((rw [cell_setRow_far _ _ _ _ _ (by omega)]); with_reducible assumption) | ((rw [setRow_size]); with_reducible assumption) | ((repeat rw [World.cell?_setCell_far _ _ _ _ (by simp)]); with_reducible assumption) | (simp; done) | (simp [World.setCell]; first | done | omega) | (simp [go_sem, World.cell?_alloc_past, World.cell?_setCell_far, *]; done))) ((first | (go_at_call 85; refine (TH.out _).mono ?_; rintro rv w2 ⟨rfl, hb⟩; have ns : w1.heap.size < w2.heap.size := hb.ltK; have n0 : w2.cell? ⟨w1.heap.size, 0, none⟩ = some (.int .i64 N0) := hb.cellK; have n1 : w2.cell? ⟨w1.heap.size, 1, none⟩ = some (.int .i64 den) := hb.cellK; have n2 : w2.cell? ⟨w1.heap.size, 2, none⟩ = some (.int .i64 t) := hb.cellK; have n3 : w2.cell? ⟨w1.heap.size, 3, none⟩ = some (.int .i64 P) := hb.cellK; have n4 : w2.cell? ⟨w.heap.size + 1, 0, none⟩ = some (.int .i64 0) := hb.cellK; have n5 : w2.cell? ⟨w.heap.size + 1, 1, none⟩ = some (.int .i64 0) := hb.cellK; have n6 : w2.cell? ⟨w.heap.size + 1, 2, none⟩ = some (.int .i64 0) := hb.cellK; have n7 : w2.cell? ⟨w.heap.size + 1, 3, none⟩ = some (.int .i64 0) := hb.cellK; have nz0 : w2.frozen? ⟨w1.heap.size, 0, none⟩ = false := hb.frzK; have nz1 : w2.frozen? ⟨w1.heap.size, 1, none⟩ = false := hb.frzK; have nz2 : w2.frozen? ⟨w1.heap.size, 2, none⟩ = false := hb.frzK; have nz3 : w2.frozen? ⟨w1.heap.size, 3, none⟩ = false := hb.frzK; have nz4 : w2.frozen? ⟨w.heap.size + 1, 0, none⟩ = false := hb.frzK; have nz5 : w2.frozen? ⟨w.heap.size + 1, 1, none⟩ = false := hb.frzK; have nz6 : w2.frozen? ⟨w.heap.size + 1, 2, none⟩ = false := hb.frzK; have nz7 : w2.frozen? ⟨w.heap.size + 1, 3, none⟩ = false := hb.frzK; (first | (have nx := Ext.trans hx hb; clear hx) | (have nx := Ext.trans (hx.alloc _) hb; clear hx) | (have nx := Ext.trans hx.drew hb; clear hx) | have nx := hb); clear hb; try clear hs; try clear g0; try clear g1; try clear g2; try clear g3; try clear g4; try clear g5; try clear g6; try clear g7; try clear z0; try clear z1; try clear z2; try clear z3; try clear z4; try clear z5; try clear z6; try clear z7; have hx := nx; clear nx; have hs := ns; clear ns; have g0 := n0; clear n0; have g1 := n1; clear n1; have g2 := n2; clear n2; have g3 := n3; clear n3; have g4 := n4; clear n4; have g5 := n5; clear n5; have g6 := n6; clear n6; have g7 := n7; clear n7; have z0 := nz0; clear nz0; have z1 := nz1; clear nz1; have z2 := nz2; clear nz2; have z3 := nz3; clear nz3; have z4 := nz4; clear nz4; have z5 := nz5; clear nz5; have z6 := nz6; clear nz6; have z7 := nz7; clear nz7)))
      all_goals (try go_wp2_with fail)
      go_roundw
      case rel => exact ⟨den * 10, t + 1, NR_, NB1.out.1, NB1.out.2.1, NB1.out.2.2.1, NT, ND, (by first | with_reducible assumption | (simp [go_sem, *]; done) | ((repeat first | rw [cell_set_far _ _ _ _ _ _ (by omega)] | rw [World.cell?_setCell_far _ _ _ _ (by simp)]); first | with_reducible assumption | (simp [go_sem, *]; done)) | (simp [go_sem, World.setCell, *]; done)), (by first | with_reducible assumption | (simp [go_sem, *]; done) | ((repeat first | rw [cell_set_far _ _ _ _ _ _ (by omega)] | rw [World.cell?_setCell_far _ _ _ _ (by simp)]); first | with_reducible assumption | (simp [go_sem, *]; done)) | (simp [go_sem, World.setCell, *]; done)), (by first | with_reducible assumption | (simp [go_sem, *]; done) | ((repeat first | rw [cell_set_far _ _ _ _ _ _ (by omega)] | rw [World.cell?_setCell_far _ _ _ _ (by simp)]); first | with_reducible assumption | (simp [go_sem, *]; done)) | (simp [go_sem, World.setCell, *]; done)), (by first | with_reducible assumption | (simp [go_sem, *]; done) | ((repeat first | rw [cell_set_far _ _ _ _ _ _ (by omega)] | rw [World.cell?_setCell_far _ _ _ _ (by simp)]); first | with_reducible assumption | (simp [go_sem, *]; done)) | (simp [go_sem, World.setCell, *]; done)), (by first | with_reducible assumption | (simp [go_sem, *]; done) | ((repeat first | rw [cell_set_far _ _ _ _ _ _ (by omega)] | rw [World.cell?_setCell_far _ _ _ _ (by simp)]); first | with_reducible assumption | (simp [go_sem, *]; done)) | (simp [go_sem, World.setCell, *]; done)), (by first | with_reducible assumption | (simp [go_sem, *]; done) | ((repeat first | rw [cell_set_far _ _ _ _ _ _ (by omega)] | rw [World.cell?_setCell_far _ _ _ _ (by simp)]); first | with_reducible assumption | (simp [go_sem, *]; done)) | (simp [go_sem, World.setCell, *]; done)), (by first | with_reducible assumption | (simp [go_sem, *]; done) | ((repeat first | rw [cell_set_far _ _ _ _ _ _ (by omega)] | rw [World.cell?_setCell_far _ _ _ _ (by simp)]); first | with_reducible assumption | (simp [go_sem, *]; done)) | (simp [go_sem, World.setCell, *]; done)), (by first | with_reducible assumption | (simp [go_sem, *]; done) | ((repeat first | rw [cell_set_far _ _ _ _ _ _ (by omega)] | rw [World.cell?_setCell_far _ _ _ _ (by simp)]); first | with_reducible assumption | (simp [go_sem, *]; done)) | (simp [go_sem, World.setCell, *]; done)), (by first | with_reducible assumption | (simp [go_sem, *]; done) | ((repeat first | rw [cell_set_far _ _ _ _ _ _ (by omega)] | rw [World.cell?_setCell_far _ _ _ _ (by simp)]); first | with_reducible assumption | (simp [go_sem, *]; done)) | (simp [go_sem, World.setCell, *]; done)), (by first | with_reducible assumption | (simp [go_sem, *]; done) | ((repeat first | rw [cell_set_far _ _ _ _ _ _ (by omega)] | rw [World.cell?_setCell_far _ _ _ _ (by simp)]); first | with_reducible assumption | (simp [go_sem, *]; done)) | (simp [go_sem, World.setCell, *]; done)), (by first | with_reducible assumption | (simp [go_sem, *]; done) | ((repeat first | rw [cell_set_far _ _ _ _ _ _ (by omega)] | rw [World.cell?_setCell_far _ _ _ _ (by simp)]); first | with_reducible assumption | (simp [go_sem, *]; done)) | (simp [go_sem, World.setCell, *]; done)), (by first | with_reducible assumption | (simp [go_sem, *]; done) | ((repeat first | rw [cell_set_far _ _ _ _ _ _ (by omega)] | rw [World.cell?_setCell_far _ _ _ _ (by simp)]); first | with_reducible assumption | (simp [go_sem, *]; done)) | (simp [go_sem, World.setCell, *]; done)), (by first | with_reducible assumption | (simp [go_sem, *]; done) | ((repeat first | rw [cell_set_far _ _ _ _ _ _ (by omega)] | rw [World.cell?_setCell_far _ _ _ _ (by simp)]); first | with_reducible assumption | (simp [go_sem, *]; done)) | (simp [go_sem, World.setCell, *]; done)), (by first | with_reducible assumption | (simp [go_sem, *]; done) | ((repeat first | rw [cell_set_far _ _ _ _ _ _ (by omega)] | rw [World.cell?_setCell_far _ _ _ _ (by simp)]); first | with_reducible assumption | (simp [go_sem, *]; done)) | (simp [go_sem, World.setCell, *]; done)), (by first | with_reducible assumption | (simp [go_sem, *]; done) | ((repeat first | rw [cell_set_far _ _ _ _ _ _ (by omega)] | rw [World.cell?_setCell_far _ _ _ _ (by simp)]); first | with_reducible assumption | (simp [go_sem, *]; done)) | (simp [go_sem, World.setCell, *]; done)), (by first | with_reducible assumption | (simp [go_sem, *]; done) | ((repeat first | rw [cell_set_far _ _ _ _ _ _ (by omega)] | rw [World.cell?_setCell_far _ _ _ _ (by simp)]); first | with_reducible assumption | (simp [go_sem, *]; done)) | (simp [go_sem, World.setCell, *]; done)), (by first | with_reducible assumption | (simp [World.setCell]; done) | (simp [World.setCell]; omega)), Ext.auK⟩
      case measure =>
        have c1 : cellI ((w2.setCell ⟨w1.heap.size, 1, none⟩ (.int .i64 (den * 10))).setCell ⟨w1.heap.size, 2, none⟩ (.int .i64 (t + 1))) w1.heap.size 1 = den * 10 := by
          have q : ((w2.setCell ⟨w1.heap.size, 1, none⟩ (.int .i64 (den * 10))).setCell ⟨w1.heap.size, 2, none⟩ (.int .i64 (t + 1))).cell? ⟨w1.heap.size, 1, none⟩ = some (.int .i64 (den * 10)) := (by first | with_reducible assumption | (simp [go_sem, *]; done) | ((repeat first | rw [cell_set_far _ _ _ _ _ _ (by omega)] | rw [World.cell?_setCell_far _ _ _ _ (by simp)]); first | with_reducible assumption | (simp [go_sem, *]; done)) | (simp [go_sem, World.setCell, *]; done))
          unfold cellI; rw [q]; rfl
        rw [c1, C2.out]
        exact NB1.out.2.2.2
    · have hlt : N0 < 10 * L * den := by
        have e1 : 10 * L * den = den * (L * 10) := by rw [Int.mul_comm den, Int.mul_comm 10 L]
        omega
      clear m0 m1 m2
      generalize hQ : den * (L * 10) = Q at *
      go_wp2_with fail
      go_region_held3 (fun w' => w'.cell? ⟨w1.heap.size, 0, none⟩ = some (.int .i64 N0) ∧ w'.cell? ⟨w1.heap.size, 1, none⟩ = some (.int .i64 den) ∧ w'.cell? ⟨w1.heap.size, 2, none⟩ = some (.int .i64 t) ∧ w'.cell? ⟨w1.heap.size, 3, none⟩ = some (.int .i64 P) ∧ w'.cell? ⟨w.heap.size + 1, 0, none⟩ = some (.int .i64 0) ∧ w'.cell? ⟨w.heap.size + 1, 1, none⟩ = some (.int .i64 0) ∧ w'.cell? ⟨w.heap.size + 1, 2, none⟩ = some (.int .i64 0) ∧ w'.cell? ⟨w.heap.size + 1, 3, none⟩ = some (.int .i64 0) ∧ w'.frozen? ⟨w1.heap.size, 0, none⟩ = false ∧ w'.frozen? ⟨w1.heap.size, 1, none⟩ = false ∧ w'.frozen? ⟨w1.heap.size, 2, none⟩ = false ∧ w'.frozen? ⟨w1.heap.size, 3, none⟩ = false ∧ w'.frozen? ⟨w.heap.size + 1, 0, none⟩ = false ∧ w'.frozen? ⟨w.heap.size + 1, 1, none⟩ = false ∧ w'.frozen? ⟨w.heap.size + 1, 2, none⟩ = false ∧ w'.frozen? ⟨w.heap.size + 1, 3, none⟩ = false ∧ w1.heap.size < w'.heap.size) ((refine ⟨?_, ?_, ?_, ?_, ?_, ?_, ?_, ?_, ?_, ?_, ?_, ?_, ?_, ?_, ?_, ?_, ?_⟩ <;> first | with_reducible assumption | ((rw [cell_setRow_far _ _ _ _ _ (by omega)]); with_reducible assumption) | ((rw [setRow_size]); with_reducible assumption) | ((repeat rw [World.cell?_setCell_far _ _ _ _ (by simp)]); with_reducible assumption) | (simp; done) | (simp [World.setCell]; first | done | omega) | (simp [go_sem, World.cell?_alloc_past, World.cell?_setCell_far, *]; done))) ((first | (go_at_call 85; refine (TH.out _).mono ?_; rintro rv w2 ⟨rfl, hb⟩; have ns : w1.heap.size < w2.heap.size := hb.ltK; have n0 : w2.cell? ⟨w1.heap.size, 0, none⟩ = some (.int .i64 N0) := hb.cellK; have n1 : w2.cell? ⟨w1.heap.size, 1, none⟩ = some (.int .i64 den) := hb.cellK; have n2 : w2.cell? ⟨w1.heap.size, 2, none⟩ = some (.int .i64 t) := hb.cellK; have n3 : w2.cell? ⟨w1.heap.size, 3, none⟩ = some (.int .i64 P) := hb.cellK; have n4 : w2.cell? ⟨w.heap.size + 1, 0, none⟩ = some (.int .i64 0) := hb.cellK; have n5 : w2.cell? ⟨w.heap.size + 1, 1, none⟩ = some (.int .i64 0) := hb.cellK; have n6 : w2.cell? ⟨w.heap.size + 1, 2, none⟩ = some (.int .i64 0) := hb.cellK; have n7 : w2.cell? ⟨w.heap.size + 1, 3, none⟩ = some (.int .i64 0) := hb.cellK; have nz0 : w2.frozen? ⟨w1.heap.size, 0, none⟩ = false := hb.frzK; have nz1 : w2.frozen? ⟨w1.heap.size, 1, none⟩ = false := hb.frzK; have nz2 : w2.frozen? ⟨w1.heap.size, 2, none⟩ = false := hb.frzK; have nz3 : w2.frozen? ⟨w1.heap.size, 3, none⟩ = false := hb.frzK; have nz4 : w2.frozen? ⟨w.heap.size + 1, 0, none⟩ = false := hb.frzK; have nz5 : w2.frozen? ⟨w.heap.size + 1, 1, none⟩ = false := hb.frzK; have nz6 : w2.frozen? ⟨w.heap.size + 1, 2, none⟩ = false := hb.frzK; have nz7 : w2.frozen? ⟨w.heap.size + 1, 3, none⟩ = false := hb.frzK; (first | (have nx := Ext.trans hx hb; clear hx) | (have nx := Ext.trans (hx.alloc _) hb; clear hx) | (have nx := Ext.trans hx.drew hb; clear hx) | have nx := hb); clear hb; try clear hs; try clear g0; try clear g1; try clear g2; try clear g3; try clear g4; try clear g5; try clear g6; try clear g7; try clear z0; try clear z1; try clear z2; try clear z3; try clear z4; try clear z5; try clear z6; try clear z7; have hx := nx; clear nx; have hs := ns; clear ns; have g0 := n0; clear n0; have g1 := n1; clear n1; have g2 := n2; clear n2; have g3 := n3; clear n3; have g4 := n4; clear n4; have g5 := n5; clear n5; have g6 := n6; clear n6; have g7 := n7; clear n7; have z0 := nz0; clear nz0; have z1 := nz1; clear nz1; have z2 := nz2; clear nz2; have z3 := nz3; clear nz3; have z4 := nz4; clear nz4; have z5 := nz5; clear nz5; have z6 := nz6; clear nz6; have z7 := nz7; clear nz7)))
      all_goals (try go_wp2_with fail)
      have hT1 := hT.out
      have LB : RowKit.Hid (den = D0 ∧ t = 0 ∨ L * den ≤ N0) := Lib.hid (hD.out.imp (fun h => ⟨h.2, h.1⟩) id)
      clear hQ hc kd hD hT TH
      have mL0 : 0 ≤ L * den := Int.mul_nonneg (by omega) (by omega)
      have mL1 : L * den ≤ 100000 * 16777216 := Int.mul_le_mul b1 d1 (by omega) (by decide)
      have eL : 10 * L * den = 10 * (L * den) := Int.mul_assoc _ _ _
      have eM : den * L = L * den := Int.mul_comm _ _
      rw [eL] at hlt
      have kdL : IntKind.i64.wrap (den * L) = L * den := by rw [eM]; exact IntWalk.i64_in _ (by omega)
      clear eL eM
      obtain ⟨M, hM⟩ : ∃ M, L * den = M := ⟨_, rfl⟩
      rw [hM] at hlt mL0 mL1 kdL
      have EM := Lib.hid hM
      clear hM
      go_loopw [44] (fun _ wr => ∃ (num : Int) (j : Nat), RowKit.Hid (RtP e f v num den (t - (j : Int))) ∧ 0 < num ∧ num < 10 * M ∧ RowKit.Hid (tenN j ≤ num) ∧ wr.cell? ⟨w1.heap.size, 0, none⟩ = some (.int .i64 num) ∧ wr.cell? ⟨w1.heap.size, 1, none⟩ = some (.int .i64 den) ∧ wr.cell? ⟨w1.heap.size, 2, none⟩ = some (.int .i64 (t - (j : Int))) ∧ wr.cell? ⟨w1.heap.size, 3, none⟩ = some (.int .i64 P) ∧ wr.cell? ⟨w.heap.size + 1, 0, none⟩ = some (.int .i64 0) ∧ wr.cell? ⟨w.heap.size + 1, 1, none⟩ = some (.int .i64 0) ∧ wr.cell? ⟨w.heap.size + 1, 2, none⟩ = some (.int .i64 0) ∧ wr.cell? ⟨w.heap.size + 1, 3, none⟩ = some (.int .i64 0) ∧ wr.frozen? ⟨w1.heap.size, 0, none⟩ = false ∧ wr.frozen? ⟨w1.heap.size, 1, none⟩ = false ∧ wr.frozen? ⟨w1.heap.size, 2, none⟩ = false ∧ wr.frozen? ⟨w1.heap.size, 3, none⟩ = false ∧ wr.frozen? ⟨w.heap.size + 1, 0, none⟩ = false ∧ wr.frozen? ⟨w.heap.size + 1, 1, none⟩ = false ∧ wr.frozen? ⟨w.heap.size + 1, 2, none⟩ = false ∧ wr.frozen? ⟨w.heap.size + 1, 3, none⟩ = false ∧ w1.heap.size < wr.heap.size ∧ Ext w wr) (fun _ wr => (M - cellI wr w1.heap.size 0).toNat)
      case atStart => exact ⟨N0, 0, by simpa using hR, r2, hlt, Lib.hid (by show 1 ≤ N0; omega), by with_reducible assumption, by with_reducible assumption, by simpa using g2, by with_reducible assumption, by with_reducible assumption, by with_reducible assumption, by with_reducible assumption, by with_reducible assumption, by with_reducible assumption, by with_reducible assumption, by with_reducible assumption, by with_reducible assumption, by with_reducible assumption, by with_reducible assumption, by with_reducible assumption, by with_reducible assumption, by with_reducible assumption, Ext.auK⟩
      case round =>
        clear hx g0 z0 g1 z1 g2 z2 g3 z3 g4 z4 g5 z5 g6 z6 g7 z7 hs
        obtain ⟨num, j, hR2, n0, n1, hJ, g0, g1, g2, g3, g4, g5, g6, g7, z0, z1, z2, z3, z4, z5, z6, z7, hs, hx⟩ := hrel
        have j14 : j < 14 := by
          apply Nat.lt_of_not_ge
          intro h
          have := tenN_ge (k := j) 14 100000000000000 rfl h
          have := hJ.out
          omega
        by_cases hc : num < M
        · have kn : IntKind.i64.wrap (num * 10) = num * 10 := IntWalk.i64_in _ (by omega)
          have kt : IntKind.i64.wrap (t - (j : Int) - 1) = t - (j : Int) - 1 := IntWalk.i64_in _ (by omega)
          have et : t - (j : Int) - 1 = t - ((j + 1 : Nat) : Int) := by push_cast; omega
          have NR_ : RowKit.Hid (RtP e f v (num * 10) den (t - ((j + 1 : Nat) : Int))) := Lib.hid (by rw [← et]; exact rt_num hR2.out)
          have NT : RowKit.Hid (tenN (j + 1) ≤ num * 10) := Lib.hid (by show tenN j * 10 ≤ _; have := hJ.out; omega)
          have NB1 : RowKit.Hid (0 < num * 10 ∧ num * 10 < 10 * M ∧ (M - num * 10).toNat < (M - num).toNat) := Lib.hid ⟨by omega, by omega, by omega⟩
          have C2 : RowKit.Hid (cellI wr w1.heap.size 0 = num) := Lib.hid (by unfold cellI; rw [g0]; rfl)
          have ET := Lib.hid et
          clear et
          generalize t - (j : Int) = tj at *
          go_wp2_with fail
          go_region_held3 (fun w' => w'.cell? ⟨w1.heap.size, 0, none⟩ = some (.int .i64 num) ∧ w'.cell? ⟨w1.heap.size, 1, none⟩ = some (.int .i64 den) ∧ w'.cell? ⟨w1.heap.size, 2, none⟩ = some (.int .i64 tj) ∧ w'.cell? ⟨w1.heap.size, 3, none⟩ = some (.int .i64 P) ∧ w'.cell? ⟨w.heap.size + 1, 0, none⟩ = some (.int .i64 0) ∧ w'.cell? ⟨w.heap.size + 1, 1, none⟩ = some (.int .i64 0) ∧ w'.cell? ⟨w.heap.size + 1, 2, none⟩ = some (.int .i64 0) ∧ w'.cell? ⟨w.heap.size + 1, 3, none⟩ = some (.int .i64 0) ∧ w'.frozen? ⟨w1.heap.size, 0, none⟩ = false ∧ w'.frozen? ⟨w1.heap.size, 1, none⟩ = false ∧ w'.frozen? ⟨w1.heap.size, 2, none⟩ = false ∧ w'.frozen? ⟨w1.heap.size, 3, none⟩ = false ∧ w'.frozen? ⟨w.heap.size + 1, 0, none⟩ = false ∧ w'.frozen? ⟨w.heap.size + 1, 1, none⟩ = false ∧ w'.frozen? ⟨w.heap.size + 1, 2, none⟩ = false ∧ w'.frozen? ⟨w.heap.size + 1, 3, none⟩ = false ∧ w1.heap.size < w'.heap.size) ((refine ⟨?_, ?_, ?_, ?_, ?_, ?_, ?_, ?_, ?_, ?_, ?_, ?_, ?_, ?_, ?_, ?_, ?_⟩ <;> first | with_reducible assumption | ((rw [cell_setRow_far _ _ _ _ _ (by omega)]); with_reducible assumption) | ((rw [setRow_size]); with_reducible assumption) | ((repeat rw [World.cell?_setCell_far _ _ _ _ (by simp)]); with_reducible assumption) | (simp; done) | (simp [World.setCell]; first | done | omega) | (simp [go_sem, World.cell?_alloc_past, World.cell?_setCell_far, *]; done))) ((first | (go_at_call 85; refine (TL.out _).mono ?_; rintro rv w3 ⟨rfl, hb⟩; have ns : w1.heap.size < w3.heap.size := hb.ltK; have n0 : w3.cell? ⟨w1.heap.size, 0, none⟩ = some (.int .i64 num) := hb.cellK; have n1 : w3.cell? ⟨w1.heap.size, 1, none⟩ = some (.int .i64 den) := hb.cellK; have n2 : w3.cell? ⟨w1.heap.size, 2, none⟩ = some (.int .i64 tj) := hb.cellK; have n3 : w3.cell? ⟨w1.heap.size, 3, none⟩ = some (.int .i64 P) := hb.cellK; have n4 : w3.cell? ⟨w.heap.size + 1, 0, none⟩ = some (.int .i64 0) := hb.cellK; have n5 : w3.cell? ⟨w.heap.size + 1, 1, none⟩ = some (.int .i64 0) := hb.cellK; have n6 : w3.cell? ⟨w.heap.size + 1, 2, none⟩ = some (.int .i64 0) := hb.cellK; have n7 : w3.cell? ⟨w.heap.size + 1, 3, none⟩ = some (.int .i64 0) := hb.cellK; have nz0 : w3.frozen? ⟨w1.heap.size, 0, none⟩ = false := hb.frzK; have nz1 : w3.frozen? ⟨w1.heap.size, 1, none⟩ = false := hb.frzK; have nz2 : w3.frozen? ⟨w1.heap.size, 2, none⟩ = false := hb.frzK; have nz3 : w3.frozen? ⟨w1.heap.size, 3, none⟩ = false := hb.frzK; have nz4 : w3.frozen? ⟨w.heap.size + 1, 0, none⟩ = false := hb.frzK; have nz5 : w3.frozen? ⟨w.heap.size + 1, 1, none⟩ = false := hb.frzK; have nz6 : w3.frozen? ⟨w.heap.size + 1, 2, none⟩ = false := hb.frzK; have nz7 : w3.frozen? ⟨w.heap.size + 1, 3, none⟩ = false := hb.frzK; (first | (have nx := Ext.trans hx hb; clear hx) | (have nx := Ext.trans (hx.alloc _) hb; clear hx) | (have nx := Ext.trans hx.drew hb; clear hx) | have nx := hb); clear hb; try clear hs; try clear g0; try clear g1; try clear g2; try clear g3; try clear g4; try clear g5; try clear g6; try clear g7; try clear z0; try clear z1; try clear z2; try clear z3; try clear z4; try clear z5; try clear z6; try clear z7; have hx := nx; clear nx; have hs := ns; clear ns; have g0 := n0; clear n0; have g1 := n1; clear n1; have g2 := n2; clear n2; have g3 := n3; clear n3; have g4 := n4; clear n4; have g5 := n5; clear n5; have g6 := n6; clear n6; have g7 := n7; clear n7; have z0 := nz0; clear nz0; have z1 := nz1; clear nz1; have z2 := nz2; clear nz2; have z3 := nz3; clear nz3; have z4 := nz4; clear nz4; have z5 := nz5; clear nz5; have z6 := nz6; clear nz6; have z7 := nz7; clear nz7)))
          all_goals (try go_wp2_with fail)
          go_roundw
          case rel => exact ⟨num * 10, j + 1, NR_, NB1.out.1, NB1.out.2.1, NT, (by first | with_reducible assumption | (simp [go_sem, *]; done) | ((repeat first | rw [cell_set_far _ _ _ _ _ _ (by omega)] | rw [World.cell?_setCell_far _ _ _ _ (by simp)]); first | with_reducible assumption | (simp [go_sem, *]; done)) | (simp [go_sem, World.setCell, *]; done)), (by first | with_reducible assumption | (simp [go_sem, *]; done) | ((repeat first | rw [cell_set_far _ _ _ _ _ _ (by omega)] | rw [World.cell?_setCell_far _ _ _ _ (by simp)]); first | with_reducible assumption | (simp [go_sem, *]; done)) | (simp [go_sem, World.setCell, *]; done)), (by rw [← ET.out]; exact (by first | with_reducible assumption | (simp [go_sem, *]; done) | ((repeat first | rw [cell_set_far _ _ _ _ _ _ (by omega)] | rw [World.cell?_setCell_far _ _ _ _ (by simp)]); first | with_reducible assumption | (simp [go_sem, *]; done)) | (simp [go_sem, World.setCell, *]; done))), (by first | with_reducible assumption | (simp [go_sem, *]; done) | ((repeat first | rw [cell_set_far _ _ _ _ _ _ (by omega)] | rw [World.cell?_setCell_far _ _ _ _ (by simp)]); first | with_reducible assumption | (simp [go_sem, *]; done)) | (simp [go_sem, World.setCell, *]; done)), (by first | with_reducible assumption | (simp [go_sem, *]; done) | ((repeat first | rw [cell_set_far _ _ _ _ _ _ (by omega)] | rw [World.cell?_setCell_far _ _ _ _ (by simp)]); first | with_reducible assumption | (simp [go_sem, *]; done)) | (simp [go_sem, World.setCell, *]; done)), (by first | with_reducible assumption | (simp [go_sem, *]; done) | ((repeat first | rw [cell_set_far _ _ _ _ _ _ (by omega)] | rw [World.cell?_setCell_far _ _ _ _ (by simp)]); first | with_reducible assumption | (simp [go_sem, *]; done)) | (simp [go_sem, World.setCell, *]; done)), (by first | with_reducible assumption | (simp [go_sem, *]; done) | ((repeat first | rw [cell_set_far _ _ _ _ _ _ (by omega)] | rw [World.cell?_setCell_far _ _ _ _ (by simp)]); first | with_reducible assumption | (simp [go_sem, *]; done)) | (simp [go_sem, World.setCell, *]; done)), (by first | with_reducible assumption | (simp [go_sem, *]; done) | ((repeat first | rw [cell_set_far _ _ _ _ _ _ (by omega)] | rw [World.cell?_setCell_far _ _ _ _ (by simp)]); first | with_reducible assumption | (simp [go_sem, *]; done)) | (simp [go_sem, World.setCell, *]; done)), (by first | with_reducible assumption | (simp [go_sem, *]; done) | ((repeat first | rw [cell_set_far _ _ _ _ _ _ (by omega)] | rw [World.cell?_setCell_far _ _ _ _ (by simp)]); first | with_reducible assumption | (simp [go_sem, *]; done)) | (simp [go_sem, World.setCell, *]; done)), (by first | with_reducible assumption | (simp [go_sem, *]; done) | ((repeat first | rw [cell_set_far _ _ _ _ _ _ (by omega)] | rw [World.cell?_setCell_far _ _ _ _ (by simp)]); first | with_reducible assumption | (simp [go_sem, *]; done)) | (simp [go_sem, World.setCell, *]; done)), (by first | with_reducible assumption | (simp [go_sem, *]; done) | ((repeat first | rw [cell_set_far _ _ _ _ _ _ (by omega)] | rw [World.cell?_setCell_far _ _ _ _ (by simp)]); first | with_reducible assumption | (simp [go_sem, *]; done)) | (simp [go_sem, World.setCell, *]; done)), (by first | with_reducible assumption | (simp [go_sem, *]; done) | ((repeat first | rw [cell_set_far _ _ _ _ _ _ (by omega)] | rw [World.cell?_setCell_far _ _ _ _ (by simp)]); first | with_reducible assumption | (simp [go_sem, *]; done)) | (simp [go_sem, World.setCell, *]; done)), (by first | with_reducible assumption | (simp [go_sem, *]; done) | ((repeat first | rw [cell_set_far _ _ _ _ _ _ (by omega)] | rw [World.cell?_setCell_far _ _ _ _ (by simp)]); first | with_reducible assumption | (simp [go_sem, *]; done)) | (simp [go_sem, World.setCell, *]; done)), (by first | with_reducible assumption | (simp [go_sem, *]; done) | ((repeat first | rw [cell_set_far _ _ _ _ _ _ (by omega)] | rw [World.cell?_setCell_far _ _ _ _ (by simp)]); first | with_reducible assumption | (simp [go_sem, *]; done)) | (simp [go_sem, World.setCell, *]; done)), (by first | with_reducible assumption | (simp [go_sem, *]; done) | ((repeat first | rw [cell_set_far _ _ _ _ _ _ (by omega)] | rw [World.cell?_setCell_far _ _ _ _ (by simp)]); first | with_reducible assumption | (simp [go_sem, *]; done)) | (simp [go_sem, World.setCell, *]; done)), (by first | with_reducible assumption | (simp [go_sem, *]; done) | ((repeat first | rw [cell_set_far _ _ _ _ _ _ (by omega)] | rw [World.cell?_setCell_far _ _ _ _ (by simp)]); first | with_reducible assumption | (simp [go_sem, *]; done)) | (simp [go_sem, World.setCell, *]; done)), (by first | with_reducible assumption | (simp [World.setCell]; done) | (simp [World.setCell]; omega)), Ext.auK⟩
          case measure =>
            have c1 : cellI ((w3.setCell ⟨w1.heap.size, 0, none⟩ (.int .i64 (num * 10))).setCell ⟨w1.heap.size, 2, none⟩ (.int .i64 (tj - 1))) w1.heap.size 0 = num * 10 := by
              have q : ((w3.setCell ⟨w1.heap.size, 0, none⟩ (.int .i64 (num * 10))).setCell ⟨w1.heap.size, 2, none⟩ (.int .i64 (tj - 1))).cell? ⟨w1.heap.size, 0, none⟩ = some (.int .i64 (num * 10)) := (by first | with_reducible assumption | (simp [go_sem, *]; done) | ((repeat first | rw [cell_set_far _ _ _ _ _ _ (by omega)] | rw [World.cell?_setCell_far _ _ _ _ (by simp)]); first | with_reducible assumption | (simp [go_sem, *]; done)) | (simp [go_sem, World.setCell, *]; done))
              unfold cellI; rw [q]; rfl
            rw [c1, C2.out]
            exact NB1.out.2.2
        · have FIN : RowKit.Hid (M ≤ num ∧ num < 10 * M ∧ -40 ≤ t - (j : Int) ∧ t - (j : Int) ≤ 40) := Lib.hid ⟨by omega, n1, by omega, by omega⟩
          generalize t - (j : Int) = tj at *
          go_wp2_with fail
          go_region_held3 (fun w' => w'.cell? ⟨w1.heap.size, 0, none⟩ = some (.int .i64 num) ∧ w'.cell? ⟨w1.heap.size, 1, none⟩ = some (.int .i64 den) ∧ w'.cell? ⟨w1.heap.size, 2, none⟩ = some (.int .i64 tj) ∧ w'.cell? ⟨w1.heap.size, 3, none⟩ = some (.int .i64 P) ∧ w'.cell? ⟨w.heap.size + 1, 0, none⟩ = some (.int .i64 0) ∧ w'.cell? ⟨w.heap.size + 1, 1, none⟩ = some (.int .i64 0) ∧ w'.cell? ⟨w.heap.size + 1, 2, none⟩ = some (.int .i64 0) ∧ w'.cell? ⟨w.heap.size + 1, 3, none⟩ = some (.int .i64 0) ∧ w'.frozen? ⟨w1.heap.size, 0, none⟩ = false ∧ w'.frozen? ⟨w1.heap.size, 1, none⟩ = false ∧ w'.frozen? ⟨w1.heap.size, 2, none⟩ = false ∧ w'.frozen? ⟨w1.heap.size, 3, none⟩ = false ∧ w'.frozen? ⟨w.heap.size + 1, 0, none⟩ = false ∧ w'.frozen? ⟨w.heap.size + 1, 1, none⟩ = false ∧ w'.frozen? ⟨w.heap.size + 1, 2, none⟩ = false ∧ w'.frozen? ⟨w.heap.size + 1, 3, none⟩ = false ∧ w1.heap.size < w'.heap.size) ((refine ⟨?_, ?_, ?_, ?_, ?_, ?_, ?_, ?_, ?_, ?_, ?_, ?_, ?_, ?_, ?_, ?_, ?_⟩ <;> first | with_reducible assumption | ((rw [cell_setRow_far _ _ _ _ _ (by omega)]); with_reducible assumption) | ((rw [setRow_size]); with_reducible assumption) | ((repeat rw [World.cell?_setCell_far _ _ _ _ (by simp)]); with_reducible assumption) | (simp; done) | (simp [World.setCell]; first | done | omega) | (simp [go_sem, World.cell?_alloc_past, World.cell?_setCell_far, *]; done))) ((first | (go_at_call 85; refine (TL.out _).mono ?_; rintro rv w3 ⟨rfl, hb⟩; have ns : w1.heap.size < w3.heap.size := hb.ltK; have n0 : w3.cell? ⟨w1.heap.size, 0, none⟩ = some (.int .i64 num) := hb.cellK; have n1 : w3.cell? ⟨w1.heap.size, 1, none⟩ = some (.int .i64 den) := hb.cellK; have n2 : w3.cell? ⟨w1.heap.size, 2, none⟩ = some (.int .i64 tj) := hb.cellK; have n3 : w3.cell? ⟨w1.heap.size, 3, none⟩ = some (.int .i64 P) := hb.cellK; have n4 : w3.cell? ⟨w.heap.size + 1, 0, none⟩ = some (.int .i64 0) := hb.cellK; have n5 : w3.cell? ⟨w.heap.size + 1, 1, none⟩ = some (.int .i64 0) := hb.cellK; have n6 : w3.cell? ⟨w.heap.size + 1, 2, none⟩ = some (.int .i64 0) := hb.cellK; have n7 : w3.cell? ⟨w.heap.size + 1, 3, none⟩ = some (.int .i64 0) := hb.cellK; have nz0 : w3.frozen? ⟨w1.heap.size, 0, none⟩ = false := hb.frzK; have nz1 : w3.frozen? ⟨w1.heap.size, 1, none⟩ = false := hb.frzK; have nz2 : w3.frozen? ⟨w1.heap.size, 2, none⟩ = false := hb.frzK; have nz3 : w3.frozen? ⟨w1.heap.size, 3, none⟩ = false := hb.frzK; have nz4 : w3.frozen? ⟨w.heap.size + 1, 0, none⟩ = false := hb.frzK; have nz5 : w3.frozen? ⟨w.heap.size + 1, 1, none⟩ = false := hb.frzK; have nz6 : w3.frozen? ⟨w.heap.size + 1, 2, none⟩ = false := hb.frzK; have nz7 : w3.frozen? ⟨w.heap.size + 1, 3, none⟩ = false := hb.frzK; (first | (have nx := Ext.trans hx hb; clear hx) | (have nx := Ext.trans (hx.alloc _) hb; clear hx) | (have nx := Ext.trans hx.drew hb; clear hx) | have nx := hb); clear hb; try clear hs; try clear g0; try clear g1; try clear g2; try clear g3; try clear g4; try clear g5; try clear g6; try clear g7; try clear z0; try clear z1; try clear z2; try clear z3; try clear z4; try clear z5; try clear z6; try clear z7; have hx := nx; clear nx; have hs := ns; clear ns; have g0 := n0; clear n0; have g1 := n1; clear n1; have g2 := n2; clear n2; have g3 := n3; clear n3; have g4 := n4; clear n4; have g5 := n5; clear n5; have g6 := n6; clear n6; have g7 := n7; clear n7; have z0 := nz0; clear nz0; have z1 := nz1; clear nz1; have z2 := nz2; clear nz2; have z3 := nz3; clear nz3; have z4 := nz4; clear nz4; have z5 := nz5; clear nz5; have z6 := nz6; clear nz6; have z7 := nz7; clear nz7)))
          all_goals (try go_wp2_with fail)
          exact bodyPost_ret (v := .agg #[.int .i64 num, .int .i64 den, .int .i64 tj, .int .i64 P]) (by simp [results, Tryd.results52, go_sem, *]) rfl ⟨num, den, tj, rfl, hR2.out, ⟨d0, d1⟩, ⟨by rw [EM.out]; exact FIN.out.1, by rw [Int.mul_assoc, EM.out]; exact FIN.out.2.1⟩, FIN.out.2.2, Ext.auK⟩
end Go.Proofs.YtjebechmedhidaaDoor

namespace Go.Proofs.YtjebechmedhidaaDoor
open Go Go.RowKit
set_option linter.unusedSimpArgs false
set_option linter.unusedVariables false
set_option maxRecDepth 100000

attribute [local go_sem] ta_finite_finite ta_finite_infinite ta_finite_noNumber ta_infinite_finite ta_infinite_infinite ta_infinite_noNumber ta_noNumber_finite ta_noNumber_infinite ta_noNumber_noNumber

theorem tc_mono_d {e f v d d2 t : Int} (h : 0 ≤ tcV e f v d t) (hd : d2 ≤ d) : 0 ≤ tcV e f v d2 t := by
  rw [tc_nonneg] at h ⊢
  have p := pw_pos (-unV e f)
  have k := tenN_pos t.toNat
  have a := Int.mul_le_mul_of_nonneg_right hd (show 0 ≤ tenN t.toNat by omega)
  have b := Int.mul_le_mul_of_nonneg_right a (show 0 ≤ pw (-unV e f) by omega)
  omega

theorem tc_mono_t {e f v d t : Int} (hd : 0 ≤ d) (k : Nat) (h : 0 ≤ tcV e f v d (t + (k : Int))) : 0 ≤ tcV e f v d t := by
  induction k with
  | zero => simpa using h
  | succ k ih =>
    apply ih
    have e1 : t + ((k + 1 : Nat) : Int) = t + (k : Int) + 1 := by push_cast; omega
    rw [e1, ← tc_ten] at h
    exact tc_mono_d h (by omega)

/-- low and t are the digits and the power of the greatest decimal below. -/
def BlC (e f v : Int) (L low t : Int) : Prop := 0 ≤ tcV e f v low t ∧ tcV e f v (low + 1) t < 0 ∧ L ≤ low ∧ low < 10 * L

theorem bl_less {e f v L low t low2 t2 : Int} (hL : 0 < L) (h : BlC e f v L low t) (h2 : BlC e f v L low2 t2) : ¬ t < t2 := by
  intro g
  obtain ⟨a1, a2, a3, a4⟩ := h
  obtain ⟨b1, b2, b3, b4⟩ := h2
  have c1 := tc_mono_d b1 b3
  obtain ⟨k, hk⟩ : ∃ k : Nat, t2 = t + 1 + (k : Int) := ⟨(t2 - t - 1).toNat, by omega⟩
  rw [hk] at c1
  have c2 := tc_mono_t (by omega) k c1
  rw [← tc_ten] at c2
  have c3 := tc_mono_d c2 (show low + 1 ≤ 10 * L by omega)
  omega

theorem bl_one {e f v L low t low2 t2 : Int} (hL : 0 < L) (h : BlC e f v L low t) (h2 : BlC e f v L low2 t2) : low = low2 ∧ t = t2 := by
  have g1 := bl_less hL h h2
  have g2 := bl_less hL h2 h
  have et : t = t2 := by omega
  subst et
  obtain ⟨a1, a2, a3, a4⟩ := h
  obtain ⟨b1, b2, b3, b4⟩ := h2
  refine ⟨?_, rfl⟩
  rcases Int.lt_trichotomy low low2 with g | g | g
  · have := tc_mono_d b1 (show low + 1 ≤ low2 by omega)
    omega
  · exact g
  · have := tc_mono_d a1 (show low2 + 1 ≤ low by omega)
    omega

theorem rt_sgn {e f v num den t d : Int} (h : RtP e f v num den t) (hd : 0 < den) : tcV e f v d t = sgV (num - d * den) := by
  have p := pw_pos (-unV e f)
  have k := tenN_pos t.toNat
  have m0 : 0 < tenN t.toNat * pw (-unV e f) := Int.mul_pos (by omega) (by omega)
  unfold RtP at h
  unfold tcV
  have e1 : (v * tenN (-t).toNat - d * tenN t.toNat * pw (-unV e f)) * den = (num - d * den) * (tenN t.toNat * pw (-unV e f)) := by
    rw [Int.sub_mul, Int.sub_mul]
    congr 1
    · rw [← Int.mul_assoc, h, Int.mul_assoc v, Int.mul_comm (tenN (-t).toNat) den, ← Int.mul_assoc v]
    · rw [Int.mul_assoc d den, Int.mul_comm den, ← Int.mul_assoc d, ← Int.mul_assoc d]
  rw [← sg_mul (n := v * tenN (-t).toNat - d * tenN t.toNat * pw (-unV e f)) hd, e1, sg_mul m0]

/-- The digits behind rounding, and what becomes of one place too many. -/
def duV (c low : Int) : Int := if 0 < c ∨ (c = 0 ∧ low % 2 = 1) then low + 1 else low

def ndQ (e f v L low t : Int) : Int := duV (tcV e f v (10 * low + 5) (t - 1)) low

def NdP (e f v L : Int) (x : Int × Int) : Prop := ∃ low t, BlC e f v L low t ∧ x = if ndQ e f v L low t = L * 10 then (L, t + 1) else (ndQ e f v L low t, t)

theorem nd_one {e f v L : Int} {x y : Int × Int} (hL : 0 < L) (h : NdP e f v L x) (h2 : NdP e f v L y) : x = y := by
  obtain ⟨low, t, b, rfl⟩ := h
  obtain ⟨low2, t2, b2, rfl⟩ := h2
  obtain ⟨rfl, rfl⟩ := bl_one hL b b2
  rfl

noncomputable def ndX (e f v L : Int) : Int × Int := Classical.epsilon (fun x => NdP e f v L x)

theorem nd_is {e f v L : Int} {x : Int × Int} (hL : 0 < L) (h : NdP e f v L x) : x = ndX e f v L := nd_one hL h (Classical.epsilon_spec (p := fun x => NdP e f v L x) ⟨x, h⟩)

theorem rt_bl {e f v num den t L : Int} (h : RtP e f v num den t) (hd : 0 < den) (n0 : L * den ≤ num) (n1 : num < 10 * L * den) (hL : 0 < L) : BlC e f v L (num / den) t ∧ ndQ e f v L (num / den) t = whV num den 0 false := by
  have ed := Int.mul_ediv_add_emod num den
  have r0 := Int.emod_nonneg num (show den ≠ 0 by omega)
  have r1 := Int.emod_lt_of_pos num hd
  have l0 : L ≤ num / den := (Int.le_ediv_iff_mul_le hd).2 n0
  have l1 : num / den < 10 * L := Int.ediv_lt_of_lt_mul hd n1
  have e5 : num / den * den = den * (num / den) := Int.mul_comm _ _
  have b : BlC e f v L (num / den) t := by
    refine ⟨?_, ?_, l0, l1⟩
    · rw [rt_cmp h hd]; omega
    · apply Int.lt_of_not_ge
      intro g
      have g2 := (rt_cmp h hd).1 g
      rw [Int.add_mul] at g2
      omega
  refine ⟨b, ?_⟩
  unfold ndQ
  rw [rt_sgn (rt_num h) hd]
  have e6 : num * 10 - (10 * (num / den) + 5) * den = 5 * (2 * (num % den) - den) := by
    rw [Int.add_mul, Int.mul_assoc 10, e5]
    omega
  rw [e6, Int.mul_comm 5, sg_mul (by decide)]
  unfold whV rndP duV
  rw [show upR (num % den) den (num / den) 0 false = decide (den < 2 * (num % den) ∨ (2 * (num % den) = den ∧ num / den % 2 = 1)) from rfl]
  generalize num / den = q at *
  generalize num % den = r at *
  rcases Int.lt_trichotomy (2 * r - den) 0 with g | g | g
  · rw [sg_neg g, if_neg (by omega)]
    split
    · rfl
    · rw [if_neg (by simp; omega)]
  · rw [sg_zero g, if_neg (show ¬ r = 0 by omega)]
    by_cases o : q % 2 = 1
    · rw [if_pos (by omega), if_pos (by simp; omega)]
    · rw [if_neg (by omega), if_neg (by simp; omega)]
  · rw [sg_pos g, if_pos (by omega), if_neg (show ¬ r = 0 by omega), if_pos (by simp; omega)]

set_option maxHeartbeats 1600000 in
theorem rrounded_any (e f v num den t P : Int) (p0 : 1 ≤ P) (p1 : P ≤ 6) (h : RtP e f v num den t) (d0 : 0 < den) (d1 : den ≤ 16777216) (n0 : tenN (P.toNat - 1) * den ≤ num) (n1 : num < 10 * tenN (P.toNat - 1) * den) (t0 : -40 ≤ t) (t1 : t ≤ 40) (w : World) :
    Calls Tryd.prog 53 #[.agg #[.int .i64 num, .int .i64 den, .int .i64 t, .int .i64 P], .int .i64 0] w fun rv w' => rv = .returned (two (ndX e f v (tenN (P.toNat - 1))).1 (ndX e f v (tenN (P.toNat - 1))).2) ∧ Ext w w' := by
  obtain ⟨b0, b1⟩ := P_bd p0 p1
  have TH := Lib.hid (fun w => by have := tenTo_any P (by omega) w; rw [show P.toNat = (P.toNat - 1) + 1 by omega, show tenN (P.toNat - 1 + 1) = tenN (P.toNat - 1) * 10 from rfl] at this; exact this)
  generalize tenN (P.toNat - 1) = L at *
  obtain ⟨hb, hq⟩ := rt_bl h d0 n0 n1 (by omega)
  have nn0 : 0 ≤ num := by
    have := Int.mul_nonneg (show 0 ≤ L by omega) (show 0 ≤ den by omega)
    omega
  have nn1 : num < 10 * 100000 * 16777216 := by
    have := Int.mul_le_mul (show 10 * L ≤ 10 * 100000 by omega) d1 (by omega) (by decide)
    omega
  have r0 := Int.emod_nonneg num (show den ≠ 0 by omega)
  have r1 := Int.emod_lt_of_pos num d0
  have okS : Ok Ieee.single (den.toNat * 2 ^ 149) := by
    by_cases hd : den < 16777216
    · exact ok_few (by omega) hd
    · have e1 : den = 1 * pw 24 := by rw [show pw 24 = 16777216 from rfl]; omega
      rw [e1]
      exact ok_npw (by decide) (by decide) (by decide) (by decide)
  have WQC := Lib.hid (fun w => wholeQuotient_any num den 0 false nn0 (by omega) d0 (by omega) (by decide) (by decide) (ok_few r0 (by omega)) (lt_few r0 (by omega)) okS w)
  obtain ⟨w0, w1⟩ := wh_bd (u := num) (P := den) (mode := 0) (neg := false) nn0 d0
  have kt : IntKind.i64.wrap (t + 1) = t + 1 := IntWalk.i64_in _ (by omega)
  have q : ∀ a b : Int, ∀ w, (Instr.build 68 #[(0, .int .i64 a), (1, .int .i64 b)]).run Tryd.prog w = .ok (two a b) w := fun a b w => run_build w _ _ _ (by kernel_rfl)
  rw [← hq] at WQC w0 w1
  by_cases hc : ndQ e f v L (num / den) t = L * 10
  · have hx : (L, t + 1) = ndX e f v L := nd_is (by omega) ⟨_, _, hb, by rw [if_pos hc]⟩
    rw [← hx]
    rw [hc] at WQC
    have td : (L * 10).tdiv 10 = L := by
      rw [Int.tdiv_eq_ediv_of_nonneg (by omega)]
      omega
    have kL : IntKind.i64.wrap L = L := IntWalk.i64_in _ (by omega)
    clear hq hb h n0 n1 r0 r1 okS nn0 nn1 hc hx w0 w1
    go_enter Tryd.func53, Tryd.ntmps53
    go_wp2_with (first | (go_at_call 75; refine (WQC.out _).mono ?_; rintro rv w1 ⟨rfl, hb⟩; have ns : w.heap.size + 1 < w1.heap.size := hb.ltK; have n0 : w1.cell? ⟨w.heap.size, 0, none⟩ = some (.int .i64 num) := hb.cellK; have n1 : w1.cell? ⟨w.heap.size, 1, none⟩ = some (.int .i64 den) := hb.cellK; have n2 : w1.cell? ⟨w.heap.size, 2, none⟩ = some (.int .i64 t) := hb.cellK; have n3 : w1.cell? ⟨w.heap.size, 3, none⟩ = some (.int .i64 P) := hb.cellK; have n4 : w1.cell? ⟨w.heap.size + 1, 0, none⟩ = some (.int .i64 0) := hb.cellK; have n5 : w1.cell? ⟨w.heap.size + 1, 1, none⟩ = some (.int .i64 0) := hb.cellK; have nz0 : w1.frozen? ⟨w.heap.size + 1, 0, none⟩ = false := hb.frzK; have nz1 : w1.frozen? ⟨w.heap.size + 1, 1, none⟩ = false := hb.frzK; (first | (have nx := Ext.trans hx hb; clear hx) | (have nx := Ext.trans (hx.alloc _) hb; clear hx) | (have nx := Ext.trans hx.drew hb; clear hx) | have nx := hb); clear hb; try clear hs; try clear g0; try clear g1; try clear g2; try clear g3; try clear g4; try clear g5; try clear z0; try clear z1; have hx := nx; clear nx; have hs := ns; clear ns; have g0 := n0; clear n0; have g1 := n1; clear n1; have g2 := n2; clear n2; have g3 := n3; clear n3; have g4 := n4; clear n4; have g5 := n5; clear n5; have z0 := nz0; clear nz0; have z1 := nz1; clear nz1) | (go_at_call 85; refine (TH.out _).mono ?_; rintro rv w1 ⟨rfl, hb⟩; have ns : w.heap.size + 1 < w1.heap.size := hb.ltK; have n0 : w1.cell? ⟨w.heap.size, 0, none⟩ = some (.int .i64 num) := hb.cellK; have n1 : w1.cell? ⟨w.heap.size, 1, none⟩ = some (.int .i64 den) := hb.cellK; have n2 : w1.cell? ⟨w.heap.size, 2, none⟩ = some (.int .i64 t) := hb.cellK; have n3 : w1.cell? ⟨w.heap.size, 3, none⟩ = some (.int .i64 P) := hb.cellK; have n4 : w1.cell? ⟨w.heap.size + 1, 0, none⟩ = some (.int .i64 0) := hb.cellK; have n5 : w1.cell? ⟨w.heap.size + 1, 1, none⟩ = some (.int .i64 0) := hb.cellK; have nz0 : w1.frozen? ⟨w.heap.size + 1, 0, none⟩ = false := hb.frzK; have nz1 : w1.frozen? ⟨w.heap.size + 1, 1, none⟩ = false := hb.frzK; (first | (have nx := Ext.trans hx hb; clear hx) | (have nx := Ext.trans (hx.alloc _) hb; clear hx) | (have nx := Ext.trans hx.drew hb; clear hx) | have nx := hb); clear hb; try clear hs; try clear g0; try clear g1; try clear g2; try clear g3; try clear g4; try clear g5; try clear z0; try clear z1; have hx := nx; clear nx; have hs := ns; clear ns; have g0 := n0; clear n0; have g1 := n1; clear n1; have g2 := n2; clear n2; have g3 := n3; clear n3; have g4 := n4; clear n4; have g5 := n5; clear n5; have z0 := nz0; clear nz0; have z1 := nz1; clear nz1))
    try (go_region)
    all_goals (try go_wp2_with (first | (go_at_call 85; refine (TH.out _).mono ?_; rintro rv w1 ⟨rfl, hb⟩; have ns : w.heap.size + 1 < w1.heap.size := hb.ltK; have n0 : w1.cell? ⟨w.heap.size, 0, none⟩ = some (.int .i64 num) := hb.cellK; have n1 : w1.cell? ⟨w.heap.size, 1, none⟩ = some (.int .i64 den) := hb.cellK; have n2 : w1.cell? ⟨w.heap.size, 2, none⟩ = some (.int .i64 t) := hb.cellK; have n3 : w1.cell? ⟨w.heap.size, 3, none⟩ = some (.int .i64 P) := hb.cellK; have n4 : w1.cell? ⟨w.heap.size + 1, 0, none⟩ = some (.int .i64 0) := hb.cellK; have n5 : w1.cell? ⟨w.heap.size + 1, 1, none⟩ = some (.int .i64 0) := hb.cellK; have nz0 : w1.frozen? ⟨w.heap.size + 1, 0, none⟩ = false := hb.frzK; have nz1 : w1.frozen? ⟨w.heap.size + 1, 1, none⟩ = false := hb.frzK; (first | (have nx := Ext.trans hx hb; clear hx) | (have nx := Ext.trans (hx.alloc _) hb; clear hx) | (have nx := Ext.trans hx.drew hb; clear hx) | have nx := hb); clear hb; try clear hs; try clear g0; try clear g1; try clear g2; try clear g3; try clear g4; try clear g5; try clear z0; try clear z1; have hx := nx; clear nx; have hs := ns; clear ns; have g0 := n0; clear n0; have g1 := n1; clear n1; have g2 := n2; clear n2; have g3 := n3; clear n3; have g4 := n4; clear n4; have g5 := n5; clear n5; have z0 := nz0; clear nz0; have z1 := nz1; clear nz1) | fail))
    all_goals (try go_region)
    all_goals (try go_wp2_with fail)
    all_goals exact bodyPost_ret (v := two L (t + 1)) (by simp [results, Tryd.results53, go_sem, *]) rfl ⟨rfl, Ext.auK⟩
  · have hx : (ndQ e f v L (num / den) t, t) = ndX e f v L := nd_is (by omega) ⟨_, _, hb, by rw [if_neg hc]⟩
    rw [← hx]
    generalize ndQ e f v L (num / den) t = Q at *
    clear hq hb h n0 n1 r0 r1 okS nn0 nn1 hx w0 w1
    go_enter Tryd.func53, Tryd.ntmps53
    go_wp2_with (first | (go_at_call 75; refine (WQC.out _).mono ?_; rintro rv w1 ⟨rfl, hb⟩; have ns : w.heap.size + 1 < w1.heap.size := hb.ltK; have n0 : w1.cell? ⟨w.heap.size, 0, none⟩ = some (.int .i64 num) := hb.cellK; have n1 : w1.cell? ⟨w.heap.size, 1, none⟩ = some (.int .i64 den) := hb.cellK; have n2 : w1.cell? ⟨w.heap.size, 2, none⟩ = some (.int .i64 t) := hb.cellK; have n3 : w1.cell? ⟨w.heap.size, 3, none⟩ = some (.int .i64 P) := hb.cellK; have n4 : w1.cell? ⟨w.heap.size + 1, 0, none⟩ = some (.int .i64 0) := hb.cellK; have n5 : w1.cell? ⟨w.heap.size + 1, 1, none⟩ = some (.int .i64 0) := hb.cellK; have nz0 : w1.frozen? ⟨w.heap.size + 1, 0, none⟩ = false := hb.frzK; have nz1 : w1.frozen? ⟨w.heap.size + 1, 1, none⟩ = false := hb.frzK; (first | (have nx := Ext.trans hx hb; clear hx) | (have nx := Ext.trans (hx.alloc _) hb; clear hx) | (have nx := Ext.trans hx.drew hb; clear hx) | have nx := hb); clear hb; try clear hs; try clear g0; try clear g1; try clear g2; try clear g3; try clear g4; try clear g5; try clear z0; try clear z1; have hx := nx; clear nx; have hs := ns; clear ns; have g0 := n0; clear n0; have g1 := n1; clear n1; have g2 := n2; clear n2; have g3 := n3; clear n3; have g4 := n4; clear n4; have g5 := n5; clear n5; have z0 := nz0; clear nz0; have z1 := nz1; clear nz1) | (go_at_call 85; refine (TH.out _).mono ?_; rintro rv w1 ⟨rfl, hb⟩; have ns : w.heap.size + 1 < w1.heap.size := hb.ltK; have n0 : w1.cell? ⟨w.heap.size, 0, none⟩ = some (.int .i64 num) := hb.cellK; have n1 : w1.cell? ⟨w.heap.size, 1, none⟩ = some (.int .i64 den) := hb.cellK; have n2 : w1.cell? ⟨w.heap.size, 2, none⟩ = some (.int .i64 t) := hb.cellK; have n3 : w1.cell? ⟨w.heap.size, 3, none⟩ = some (.int .i64 P) := hb.cellK; have n4 : w1.cell? ⟨w.heap.size + 1, 0, none⟩ = some (.int .i64 0) := hb.cellK; have n5 : w1.cell? ⟨w.heap.size + 1, 1, none⟩ = some (.int .i64 0) := hb.cellK; have nz0 : w1.frozen? ⟨w.heap.size + 1, 0, none⟩ = false := hb.frzK; have nz1 : w1.frozen? ⟨w.heap.size + 1, 1, none⟩ = false := hb.frzK; (first | (have nx := Ext.trans hx hb; clear hx) | (have nx := Ext.trans (hx.alloc _) hb; clear hx) | (have nx := Ext.trans hx.drew hb; clear hx) | have nx := hb); clear hb; try clear hs; try clear g0; try clear g1; try clear g2; try clear g3; try clear g4; try clear g5; try clear z0; try clear z1; have hx := nx; clear nx; have hs := ns; clear ns; have g0 := n0; clear n0; have g1 := n1; clear n1; have g2 := n2; clear n2; have g3 := n3; clear n3; have g4 := n4; clear n4; have g5 := n5; clear n5; have z0 := nz0; clear nz0; have z1 := nz1; clear nz1))
    try (go_region)
    all_goals (try go_wp2_with (first | (go_at_call 85; refine (TH.out _).mono ?_; rintro rv w1 ⟨rfl, hb⟩; have ns : w.heap.size + 1 < w1.heap.size := hb.ltK; have n0 : w1.cell? ⟨w.heap.size, 0, none⟩ = some (.int .i64 num) := hb.cellK; have n1 : w1.cell? ⟨w.heap.size, 1, none⟩ = some (.int .i64 den) := hb.cellK; have n2 : w1.cell? ⟨w.heap.size, 2, none⟩ = some (.int .i64 t) := hb.cellK; have n3 : w1.cell? ⟨w.heap.size, 3, none⟩ = some (.int .i64 P) := hb.cellK; have n4 : w1.cell? ⟨w.heap.size + 1, 0, none⟩ = some (.int .i64 0) := hb.cellK; have n5 : w1.cell? ⟨w.heap.size + 1, 1, none⟩ = some (.int .i64 0) := hb.cellK; have nz0 : w1.frozen? ⟨w.heap.size + 1, 0, none⟩ = false := hb.frzK; have nz1 : w1.frozen? ⟨w.heap.size + 1, 1, none⟩ = false := hb.frzK; (first | (have nx := Ext.trans hx hb; clear hx) | (have nx := Ext.trans (hx.alloc _) hb; clear hx) | (have nx := Ext.trans hx.drew hb; clear hx) | have nx := hb); clear hb; try clear hs; try clear g0; try clear g1; try clear g2; try clear g3; try clear g4; try clear g5; try clear z0; try clear z1; have hx := nx; clear nx; have hs := ns; clear ns; have g0 := n0; clear n0; have g1 := n1; clear n1; have g2 := n2; clear n2; have g3 := n3; clear n3; have g4 := n4; clear n4; have g5 := n5; clear n5; have z0 := nz0; clear nz0; have z1 := nz1; clear nz1) | fail))
    all_goals (try go_region)
    all_goals (try go_wp2_with fail)
    all_goals exact bodyPost_ret (v := two Q t) (by simp [results, Tryd.results53, go_sem, *]) rfl ⟨rfl, Ext.auK⟩
end Go.Proofs.YtjebechmedhidaaDoor

namespace Go.Proofs.YtjebechmedhidaaDoor
open Go Go.RowKit
set_option linter.unusedSimpArgs false
set_option linter.unusedVariables false
set_option maxRecDepth 100000

attribute [local go_sem] ta_finite_finite ta_finite_infinite ta_finite_noNumber ta_infinite_finite ta_infinite_infinite ta_infinite_noNumber ta_noNumber_finite ta_noNumber_infinite ta_noNumber_noNumber

/-- What NearestDecimal asks for, and what it answers. -/
def ndB (e f a P : Int) : Bool := finB e f a && decide (1 ≤ P ∧ P ≤ 6)

theorem ndB_iff {e f a P : Int} : ndB e f a P = true ↔ finB e f a = true ∧ 1 ≤ P ∧ P ≤ 6 := by unfold ndB; rw [Bool.and_eq_true, decide_eq_true_eq]

noncomputable def ndD (e f a P : Int) : Int := if unitsV e f a = 0 then 0 else (ndX e f ((unitsV e f a).natAbs : Int) (tenN (P.toNat - 1))).1

noncomputable def ndT (e f a P : Int) : Int := if unitsV e f a = 0 then 0 else (ndX e f ((unitsV e f a).natAbs : Int) (tenN (P.toNat - 1))).2

theorem size_fin {e f a : Int} (hf : finB e f a = true) : finB e f (a % pw (e + f)) = true ∧ unitsV e f (a % pw (e + f)) = ((unitsV e f a).natAbs : Int) := by
  obtain ⟨hg, s0, s1, hu⟩ := fin_size hf
  obtain ⟨gg0, gg1, gg2⟩ := gr_bd2 hg
  have pp := pw_pos (e + f)
  have r1 := Int.emod_lt_of_pos a (show 0 < pw (e + f) by omega)
  have hm : a % pw (e + f) % pw (e + f) = a % pw (e + f) := Int.emod_eq_of_lt s0 r1
  have hq : a % pw (e + f) / pw (e + f) = 0 := Int.ediv_eq_zero_of_lt s0 r1
  have hp : patB e f (a % pw (e + f)) = true := pat_iff.2 ⟨hg, s0, by omega⟩
  have hf2 := hf
  unfold finB at hf2
  rw [Bool.and_eq_true] at hf2
  constructor
  · unfold finB
    rw [hp, Bool.true_and, hm]
    exact hf2.2
  · unfold unitsV
    rw [hq, if_neg (by decide), mag_mod hp, hm]
    exact hu.symm

set_option maxHeartbeats 1600000 in
theorem txNear_any (e f a d t : Int) (hf : finB e f a = true) (d0 : 0 ≤ d) (d1 : d ≤ 999999) (t0 : -14 ≤ t) (t1 : t ≤ 14) (w : World) : Calls Tryd.prog 49 #[fmt e f, .int .i64 a, .int .i64 d, .int .i64 t] w fun rv w' => rv = .returned (.int .i64 (tcV e f ((unitsV e f a).natAbs : Int) (10 * d + 5) (t - 1))) ∧ Ext w w' := by
  have hg := (fin_size hf).1
  have vt := val_top hf
  have ub := units_bd e f a (fin_pat hf).1
  have kd : IntKind.i64.wrap (10 * d) = 10 * d := IntWalk.i64_in _ (by omega)
  have kd2 : IntKind.i64.wrap (10 * d + 5) = 10 * d + 5 := IntWalk.i64_in _ (by omega)
  have kt : IntKind.i64.wrap (t - 1) = t - 1 := IntWalk.i64_in _ (by omega)
  have TN := Lib.hid (fun w => txNumber_any e f (10 * d + 5) (t - 1) hg ⟨⟨by omega, by omega⟩, by omega, by omega⟩ w)
  have TU := Lib.hid (fun w => txUnits_any e f a hf w)
  have U0 : 0 ≤ ((unitsV e f a).natAbs : Int) := by omega
  have U1 : ((unitsV e f a).natAbs : Int) ≤ 4398046511104 := by omega
  have KC : RowKit.Hid (∀ u r h : Int, TNout e f (10 * d + 5) (t - 1) u r h → (if ((unitsV e f a).natAbs : Int) = u then -sgV r else sgV (((unitsV e f a).natAbs : Int) - u)) = tcV e f ((unitsV e f a).natAbs : Int) (10 * d + 5) (t - 1)) := Lib.hid (fun u r h q => q.2.2.2.2 _ vt)
  generalize tcV e f ((unitsV e f a).natAbs : Int) (10 * d + 5) (t - 1) = C at *
  generalize ((unitsV e f a).natAbs : Int) = U at *
  clear ub vt
  go_enter Tryd.func49, Tryd.ntmps49
  go_wp2_with (go_at_call 77; refine (TN.out _).mono ?_; rintro rv w1 ⟨u, r, h, rfl, htn, hb⟩; have HTN := Lib.hid htn; clear htn; have ns : w.heap.size < w1.heap.size := hb.ltK; have n0 : w1.cell? ⟨w.heap.size, 0, none⟩ = some (.int .i64 e) := hb.cellK; have n1 : w1.cell? ⟨w.heap.size, 1, none⟩ = some (.int .i64 f) := hb.cellK; (first | (have nx := Ext.trans hx hb; clear hx) | (have nx := Ext.trans (hx.alloc _) hb; clear hx) | (have nx := Ext.trans hx.drew hb; clear hx) | have nx := hb); clear hb; try clear hs; try clear g0; try clear g1; have hx := nx; clear nx; have hs := ns; clear ns; have g0 := n0; clear n0; have g1 := n1; clear n1)
  obtain ⟨⟨b0, b1⟩, ⟨b2, b3⟩, b4, _⟩ := id HTN.out
  have kc := KC.out u r h HTN.out
  by_cases hq : U = u
  · rw [if_pos hq] at kc
    have KC2 := Lib.hid kc
    have hq2 : (U != u) = false := by simpa using hq
    have s3 := sg_bd r
    have k2 : IntKind.i64.wrap (-sgV r) = -sgV r := IntWalk.i64_in _ (by omega)
    have k1 : IntKind.i64.wrap (U - u) = U - u := IntWalk.i64_in _ (by omega)
    clear kc hq b0 b1 b2 b3 b4 s3
    go_wp2_with (first | (go_at_call 78; refine (TU.out _).mono ?_; rintro rv w2 ⟨rfl, hb⟩; have ns : w1.heap.size < w2.heap.size := hb.ltK; have n0 : w2.cell? ⟨w.heap.size, 0, none⟩ = some (.int .i64 e) := hb.cellK; have n1 : w2.cell? ⟨w.heap.size, 1, none⟩ = some (.int .i64 f) := hb.cellK; have n2 : w2.cell? ⟨w1.heap.size, 0, none⟩ = some (.int .i64 u) := hb.cellK; have n3 : w2.cell? ⟨w1.heap.size, 1, none⟩ = some (.int .i64 r) := hb.cellK; have n4 : w2.cell? ⟨w1.heap.size, 2, none⟩ = some (.int .i64 h) := hb.cellK; (first | (have nx := Ext.trans hx hb; clear hx) | (have nx := Ext.trans (hx.alloc _) hb; clear hx) | (have nx := Ext.trans hx.drew hb; clear hx) | have nx := hb); clear hb; try clear hs; try clear g0; try clear g1; try clear g2; try clear g3; try clear g4; have hx := nx; clear nx; have hs := ns; clear ns; have g0 := n0; clear n0; have g1 := n1; clear n1; have g2 := n2; clear n2; have g3 := n3; clear n3; have g4 := n4; clear n4) | (go_at_call 79; refine (rdSignOf_any _ _).mono ?_; rintro rv w1 ⟨rfl, rfl⟩))
    all_goals (try (go_region_held3 (fun w' => w'.cell? ⟨w.heap.size, 0, none⟩ = some (.int .i64 e) ∧ w'.cell? ⟨w.heap.size, 1, none⟩ = some (.int .i64 f) ∧ w'.cell? ⟨w1.heap.size, 0, none⟩ = some (.int .i64 u) ∧ w'.cell? ⟨w1.heap.size, 1, none⟩ = some (.int .i64 r) ∧ w'.cell? ⟨w1.heap.size, 2, none⟩ = some (.int .i64 h) ∧ w1.heap.size < w'.heap.size) ((refine ⟨?_, ?_, ?_, ?_, ?_, ?_⟩ <;> first | with_reducible assumption | ((rw [cell_setRow_far _ _ _ _ _ (by omega)]); with_reducible assumption) | ((rw [setRow_size]); with_reducible assumption) | ((repeat rw [World.cell?_setCell_far _ _ _ _ (by simp)]); with_reducible assumption) | (simp; done) | (simp [World.setCell]; first | done | omega) | (simp [go_sem, World.cell?_alloc_past, World.cell?_setCell_far, *]; done))) ((first | (go_at_call 78; refine (TU.out _).mono ?_; rintro rv w2 ⟨rfl, hb⟩; have ns : w1.heap.size < w2.heap.size := hb.ltK; have n0 : w2.cell? ⟨w.heap.size, 0, none⟩ = some (.int .i64 e) := hb.cellK; have n1 : w2.cell? ⟨w.heap.size, 1, none⟩ = some (.int .i64 f) := hb.cellK; have n2 : w2.cell? ⟨w1.heap.size, 0, none⟩ = some (.int .i64 u) := hb.cellK; have n3 : w2.cell? ⟨w1.heap.size, 1, none⟩ = some (.int .i64 r) := hb.cellK; have n4 : w2.cell? ⟨w1.heap.size, 2, none⟩ = some (.int .i64 h) := hb.cellK; (first | (have nx := Ext.trans hx hb; clear hx) | (have nx := Ext.trans (hx.alloc _) hb; clear hx) | (have nx := Ext.trans hx.drew hb; clear hx) | have nx := hb); clear hb; try clear hs; try clear g0; try clear g1; try clear g2; try clear g3; try clear g4; have hx := nx; clear nx; have hs := ns; clear ns; have g0 := n0; clear n0; have g1 := n1; clear n1; have g2 := n2; clear n2; have g3 := n3; clear n3; have g4 := n4; clear n4)))))
    all_goals (try go_wp2_with (first | (go_at_call 78; refine (TU.out _).mono ?_; rintro rv w2 ⟨rfl, hb⟩; have ns : w1.heap.size < w2.heap.size := hb.ltK; have n0 : w2.cell? ⟨w.heap.size, 0, none⟩ = some (.int .i64 e) := hb.cellK; have n1 : w2.cell? ⟨w.heap.size, 1, none⟩ = some (.int .i64 f) := hb.cellK; have n2 : w2.cell? ⟨w1.heap.size, 0, none⟩ = some (.int .i64 u) := hb.cellK; have n3 : w2.cell? ⟨w1.heap.size, 1, none⟩ = some (.int .i64 r) := hb.cellK; have n4 : w2.cell? ⟨w1.heap.size, 2, none⟩ = some (.int .i64 h) := hb.cellK; (first | (have nx := Ext.trans hx hb; clear hx) | (have nx := Ext.trans (hx.alloc _) hb; clear hx) | (have nx := Ext.trans hx.drew hb; clear hx) | have nx := hb); clear hb; try clear hs; try clear g0; try clear g1; try clear g2; try clear g3; try clear g4; have hx := nx; clear nx; have hs := ns; clear ns; have g0 := n0; clear n0; have g1 := n1; clear n1; have g2 := n2; clear n2; have g3 := n3; clear n3; have g4 := n4; clear n4) | (go_at_call 79; refine (rdSignOf_any _ _).mono ?_; rintro rv w1 ⟨rfl, rfl⟩)))
    all_goals go_ret
    all_goals exact ⟨ret_int (by rw [KC2.out]), Ext.auK⟩
  · rw [if_neg hq] at kc
    have KC2 := Lib.hid kc
    have hq2 : (U != u) = true := by simpa using hq
    have s3 := sg_bd r
    have k2 : IntKind.i64.wrap (-sgV r) = -sgV r := IntWalk.i64_in _ (by omega)
    have k1 : IntKind.i64.wrap (U - u) = U - u := IntWalk.i64_in _ (by omega)
    clear kc hq b0 b1 b2 b3 b4 s3
    go_wp2_with (first | (go_at_call 78; refine (TU.out _).mono ?_; rintro rv w2 ⟨rfl, hb⟩; have ns : w1.heap.size < w2.heap.size := hb.ltK; have n0 : w2.cell? ⟨w.heap.size, 0, none⟩ = some (.int .i64 e) := hb.cellK; have n1 : w2.cell? ⟨w.heap.size, 1, none⟩ = some (.int .i64 f) := hb.cellK; have n2 : w2.cell? ⟨w1.heap.size, 0, none⟩ = some (.int .i64 u) := hb.cellK; have n3 : w2.cell? ⟨w1.heap.size, 1, none⟩ = some (.int .i64 r) := hb.cellK; have n4 : w2.cell? ⟨w1.heap.size, 2, none⟩ = some (.int .i64 h) := hb.cellK; (first | (have nx := Ext.trans hx hb; clear hx) | (have nx := Ext.trans (hx.alloc _) hb; clear hx) | (have nx := Ext.trans hx.drew hb; clear hx) | have nx := hb); clear hb; try clear hs; try clear g0; try clear g1; try clear g2; try clear g3; try clear g4; have hx := nx; clear nx; have hs := ns; clear ns; have g0 := n0; clear n0; have g1 := n1; clear n1; have g2 := n2; clear n2; have g3 := n3; clear n3; have g4 := n4; clear n4) | (go_at_call 79; refine (rdSignOf_any _ _).mono ?_; rintro rv w1 ⟨rfl, rfl⟩))
    all_goals (try (go_region_held3 (fun w' => w'.cell? ⟨w.heap.size, 0, none⟩ = some (.int .i64 e) ∧ w'.cell? ⟨w.heap.size, 1, none⟩ = some (.int .i64 f) ∧ w'.cell? ⟨w1.heap.size, 0, none⟩ = some (.int .i64 u) ∧ w'.cell? ⟨w1.heap.size, 1, none⟩ = some (.int .i64 r) ∧ w'.cell? ⟨w1.heap.size, 2, none⟩ = some (.int .i64 h) ∧ w1.heap.size < w'.heap.size) ((refine ⟨?_, ?_, ?_, ?_, ?_, ?_⟩ <;> first | with_reducible assumption | ((rw [cell_setRow_far _ _ _ _ _ (by omega)]); with_reducible assumption) | ((rw [setRow_size]); with_reducible assumption) | ((repeat rw [World.cell?_setCell_far _ _ _ _ (by simp)]); with_reducible assumption) | (simp; done) | (simp [World.setCell]; first | done | omega) | (simp [go_sem, World.cell?_alloc_past, World.cell?_setCell_far, *]; done))) ((first | (go_at_call 78; refine (TU.out _).mono ?_; rintro rv w2 ⟨rfl, hb⟩; have ns : w1.heap.size < w2.heap.size := hb.ltK; have n0 : w2.cell? ⟨w.heap.size, 0, none⟩ = some (.int .i64 e) := hb.cellK; have n1 : w2.cell? ⟨w.heap.size, 1, none⟩ = some (.int .i64 f) := hb.cellK; have n2 : w2.cell? ⟨w1.heap.size, 0, none⟩ = some (.int .i64 u) := hb.cellK; have n3 : w2.cell? ⟨w1.heap.size, 1, none⟩ = some (.int .i64 r) := hb.cellK; have n4 : w2.cell? ⟨w1.heap.size, 2, none⟩ = some (.int .i64 h) := hb.cellK; (first | (have nx := Ext.trans hx hb; clear hx) | (have nx := Ext.trans (hx.alloc _) hb; clear hx) | (have nx := Ext.trans hx.drew hb; clear hx) | have nx := hb); clear hb; try clear hs; try clear g0; try clear g1; try clear g2; try clear g3; try clear g4; have hx := nx; clear nx; have hs := ns; clear ns; have g0 := n0; clear n0; have g1 := n1; clear n1; have g2 := n2; clear n2; have g3 := n3; clear n3; have g4 := n4; clear n4)))))
    all_goals (try go_wp2_with (first | (go_at_call 78; refine (TU.out _).mono ?_; rintro rv w2 ⟨rfl, hb⟩; have ns : w1.heap.size < w2.heap.size := hb.ltK; have n0 : w2.cell? ⟨w.heap.size, 0, none⟩ = some (.int .i64 e) := hb.cellK; have n1 : w2.cell? ⟨w.heap.size, 1, none⟩ = some (.int .i64 f) := hb.cellK; have n2 : w2.cell? ⟨w1.heap.size, 0, none⟩ = some (.int .i64 u) := hb.cellK; have n3 : w2.cell? ⟨w1.heap.size, 1, none⟩ = some (.int .i64 r) := hb.cellK; have n4 : w2.cell? ⟨w1.heap.size, 2, none⟩ = some (.int .i64 h) := hb.cellK; (first | (have nx := Ext.trans hx hb; clear hx) | (have nx := Ext.trans (hx.alloc _) hb; clear hx) | (have nx := Ext.trans hx.drew hb; clear hx) | have nx := hb); clear hb; try clear hs; try clear g0; try clear g1; try clear g2; try clear g3; try clear g4; have hx := nx; clear nx; have hs := ns; clear ns; have g0 := n0; clear n0; have g1 := n1; clear n1; have g2 := n2; clear n2; have g3 := n3; clear n3; have g4 := n4; clear n4) | (go_at_call 79; refine (rdSignOf_any _ _).mono ?_; rintro rv w1 ⟨rfl, rfl⟩)))
    all_goals go_ret
    all_goals exact ⟨ret_int (by rw [KC2.out]), Ext.auK⟩

theorem iNearestDecimal_no (e f a P : Int) (hg : ndB e f a P = false) (w : World) (hT : TW w) : Calls Tryd.prog 20 #[fmt e f, .int .i64 a, .int .i64 P] w fun rv w' => rv = .returned (.tuple #[.int .i64 0, .int .i64 0, .bool false]) ∧ Ext w w' := by
  cases h0 : finB e f a
  · go_enter Tryd.func20, Tryd.ntmps20
    go_wp2_with (go_at_call 34; refine (finiteAt_no e f a h0 _).mono ?_; rintro rv w1 ⟨rfl, hb⟩; have ns : w.heap.size < w1.heap.size := hb.ltK; have n0 : w1.cell? ⟨w.heap.size, 0, none⟩ = some (.int .i64 e) := hb.cellK; have n1 : w1.cell? ⟨w.heap.size, 1, none⟩ = some (.int .i64 f) := hb.cellK; (first | (have nx := Ext.trans hx hb; clear hx) | (have nx := Ext.trans (hx.alloc _) hb; clear hx) | (have nx := Ext.trans hx.drew hb; clear hx) | have nx := hb); clear hb; try clear hs; try clear g0; try clear g1; have hx := nx; clear nx; have hs := ns; clear ns; have g0 := n0; clear n0; have g1 := n1; clear n1)
    go_ret3
    exact ⟨rfl, Ext.auK⟩
  · have hp : ¬ (1 ≤ P ∧ P ≤ 6) := by unfold ndB at hg; rw [h0] at hg; simpa using hg
    have FY := Lib.hid (fun w hT => finiteAt_yes e f a h0 w hT)
    generalize (a / pw (e + f)) = G at *
    generalize ((odV (unitsV e f a)).natAbs : Int) = N at *
    generalize (shE (unitsV e f a) (unV e f)) = X at *
    by_cases h1 : P < 1
    · clear hp
      go_enter Tryd.func20, Tryd.ntmps20
      go_wp2_with (go_at_call 34; refine (FY.out _ (hT.ext Ext.auK)).mono ?_; rintro rv w1 ⟨rfl, hb⟩; have ns : w.heap.size < w1.heap.size := hb.ltK; have n0 : w1.cell? ⟨w.heap.size, 0, none⟩ = some (.int .i64 e) := hb.cellK; have n1 : w1.cell? ⟨w.heap.size, 1, none⟩ = some (.int .i64 f) := hb.cellK; (first | (have nx := Ext.trans hx hb; clear hx) | (have nx := Ext.trans (hx.alloc _) hb; clear hx) | (have nx := Ext.trans hx.drew hb; clear hx) | have nx := hb); clear hb; try clear hs; try clear g0; try clear g1; have hx := nx; clear nx; have hs := ns; clear ns; have g0 := n0; clear n0; have g1 := n1; clear n1)
      go_ret3
      exact ⟨rfl, Ext.auK⟩
    · have h2 : 6 < P := by omega
      clear hp
      go_enter Tryd.func20, Tryd.ntmps20
      go_wp2_with (go_at_call 34; refine (FY.out _ (hT.ext Ext.auK)).mono ?_; rintro rv w1 ⟨rfl, hb⟩; have ns : w.heap.size < w1.heap.size := hb.ltK; have n0 : w1.cell? ⟨w.heap.size, 0, none⟩ = some (.int .i64 e) := hb.cellK; have n1 : w1.cell? ⟨w.heap.size, 1, none⟩ = some (.int .i64 f) := hb.cellK; (first | (have nx := Ext.trans hx hb; clear hx) | (have nx := Ext.trans (hx.alloc _) hb; clear hx) | (have nx := Ext.trans hx.drew hb; clear hx) | have nx := hb); clear hb; try clear hs; try clear g0; try clear g1; have hx := nx; clear nx; have hs := ns; clear ns; have g0 := n0; clear n0; have g1 := n1; clear n1)
      go_ret3
      exact ⟨rfl, Ext.auK⟩

set_option maxHeartbeats 1600000 in
theorem iNearestDecimal_yes (e f a P : Int) (hg : ndB e f a P = true) (w : World) (hT : TW w) : Calls Tryd.prog 20 #[fmt e f, .int .i64 a, .int .i64 P] w fun rv w' => rv = .returned (.tuple #[.int .i64 (ndD e f a P), .int .i64 (ndT e f a P), .bool true]) ∧ Ext w w' := by
  obtain ⟨h0, p0, p1⟩ := ndB_iff.1 hg
  have FY := Lib.hid (fun w hT => finiteAt_yes e f a h0 w hT)
  have hp1 : ¬ P < 1 := by omega
  have hp2 : ¬ 6 < P := by omega
  have ub := units_bd e f a (fin_pat h0).1
  by_cases hz : unitsV e f a = 0
  · have e1 : ndD e f a P = 0 := if_pos hz
    have e2 : ndT e f a P = 0 := if_pos hz
    rw [e1, e2]
    have hn : ((odV (unitsV e f a)).natAbs : Int) = 0 := by rw [hz, od_zero]; rfl
    have IZ := Lib.hid (fun w => finZero_t (a / pw (e + f)) ((odV (unitsV e f a)).natAbs : Int) (shE (unitsV e f a) (unV e f)) hn w)
    clear e1 e2 hn hz ub
    generalize (a / pw (e + f)) = G at *
    generalize ((odV (unitsV e f a)).natAbs : Int) = N at *
    generalize (shE (unitsV e f a) (unV e f)) = X at *
    go_enter Tryd.func20, Tryd.ntmps20
    go_wp2_with (first | (go_at_call 34; refine (FY.out _ (hT.ext Ext.auK)).mono ?_; rintro rv w1 ⟨rfl, hb⟩; have ns : w.heap.size < w1.heap.size := hb.ltK; have n0 : w1.cell? ⟨w.heap.size, 0, none⟩ = some (.int .i64 e) := hb.cellK; have n1 : w1.cell? ⟨w.heap.size, 1, none⟩ = some (.int .i64 f) := hb.cellK; (first | (have nx := Ext.trans hx hb; clear hx) | (have nx := Ext.trans (hx.alloc _) hb; clear hx) | (have nx := Ext.trans hx.drew hb; clear hx) | have nx := hb); clear hb; try clear hs; try clear g0; try clear g1; have hx := nx; clear nx; have hs := ns; clear ns; have g0 := n0; clear n0; have g1 := n1; clear n1) | (go_at_call 51; refine (IZ.out _).mono ?_; rintro rv w2 ⟨rfl, hb⟩; have ns : w1.heap.size < w2.heap.size := hb.ltK; have n0 : w2.cell? ⟨w1.heap.size, 0, none⟩ = some (.int .i64 G) := hb.cellK; have n1 : w2.cell? ⟨w1.heap.size, 1, none⟩ = some (.int .i64 N) := hb.cellK; have n2 : w2.cell? ⟨w1.heap.size, 2, none⟩ = some (.int .i64 X) := hb.cellK; (first | (have nx := Ext.trans hx hb; clear hx) | (have nx := Ext.trans (hx.alloc _) hb; clear hx) | (have nx := Ext.trans hx.drew hb; clear hx) | have nx := hb); clear hb; try clear hs; try clear g0; try clear g1; try clear g2; have hx := nx; clear nx; have hs := ns; clear ns; have g0 := n0; clear n0; have g1 := n1; clear n1; have g2 := n2; clear n2))
    go_ret3
    exact ⟨rfl, Ext.auK⟩
  · have e1 : ndD e f a P = (ndX e f ((unitsV e f a).natAbs : Int) (tenN (P.toNat - 1))).1 := if_neg hz
    have e2 : ndT e f a P = (ndX e f ((unitsV e f a).natAbs : Int) (tenN (P.toNat - 1))).2 := if_neg hz
    rw [e1, e2]
    have hn : ¬ ((odV (unitsV e f a)).natAbs : Int) = 0 := fun h => hz ((od_sign (S := unitsV e f a) (by omega) (by omega)).2.1 (by omega))
    have IZ := Lib.hid (fun w => finZero_f (a / pw (e + f)) ((odV (unitsV e f a)).natAbs : Int) (shE (unitsV e f a) (unV e f)) hn w)
    have RC := Lib.hid (fun w => ratio_any e f a P h0 hz p0 p1 w)
    have RR := Lib.hid (fun num den t h1 d0 d1 n0 n1 t0 t1 w => rrounded_any e f ((unitsV e f a).natAbs : Int) num den t P p0 p1 h1 d0 d1 n0 n1 t0 t1 w)
    clear e1 e2 hn ub
    generalize (ndX e f ((unitsV e f a).natAbs : Int) (tenN (P.toNat - 1))).1 = D at *
    generalize (ndX e f ((unitsV e f a).natAbs : Int) (tenN (P.toNat - 1))).2 = T at *
    generalize (a / pw (e + f)) = G at *
    generalize ((odV (unitsV e f a)).natAbs : Int) = N at *
    generalize (shE (unitsV e f a) (unV e f)) = X at *
    go_enter Tryd.func20, Tryd.ntmps20
    go_wp2_with (first | (go_at_call 34; refine (FY.out _ (hT.ext Ext.auK)).mono ?_; rintro rv w1 ⟨rfl, hb⟩; have ns : w.heap.size < w1.heap.size := hb.ltK; have n0 : w1.cell? ⟨w.heap.size, 0, none⟩ = some (.int .i64 e) := hb.cellK; have n1 : w1.cell? ⟨w.heap.size, 1, none⟩ = some (.int .i64 f) := hb.cellK; (first | (have nx := Ext.trans hx hb; clear hx) | (have nx := Ext.trans (hx.alloc _) hb; clear hx) | (have nx := Ext.trans hx.drew hb; clear hx) | have nx := hb); clear hb; try clear hs; try clear g0; try clear g1; have hx := nx; clear nx; have hs := ns; clear ns; have g0 := n0; clear n0; have g1 := n1; clear n1) | (go_at_call 51; refine (IZ.out _).mono ?_; rintro rv w2 ⟨rfl, hb⟩; have ns : w1.heap.size < w2.heap.size := hb.ltK; have n0 : w2.cell? ⟨w1.heap.size, 0, none⟩ = some (.int .i64 G) := hb.cellK; have n1 : w2.cell? ⟨w1.heap.size, 1, none⟩ = some (.int .i64 N) := hb.cellK; have n2 : w2.cell? ⟨w1.heap.size, 2, none⟩ = some (.int .i64 X) := hb.cellK; (first | (have nx := Ext.trans hx hb; clear hx) | (have nx := Ext.trans (hx.alloc _) hb; clear hx) | (have nx := Ext.trans hx.drew hb; clear hx) | have nx := hb); clear hb; try clear hs; try clear g0; try clear g1; try clear g2; have hx := nx; clear nx; have hs := ns; clear ns; have g0 := n0; clear n0; have g1 := n1; clear n1; have g2 := n2; clear n2) | (go_at_call 52; refine (RC.out _).mono ?_; rintro rv w3 ⟨num, den, t, rfl, h1, h2, h3, h4, hb⟩; have HR := Lib.hid h1; have HD := Lib.hid h2; have HN := Lib.hid h3; have HT := Lib.hid h4; clear h1 h2 h3 h4; have ns : w1.heap.size < w3.heap.size := hb.ltK; (first | (have nx := Ext.trans hx hb; clear hx) | (have nx := Ext.trans (hx.alloc _) hb; clear hx) | (have nx := Ext.trans hx.drew hb; clear hx) | have nx := hb); clear hb; try clear hs; have hx := nx; clear nx; have hs := ns; clear ns) | (go_at_call 53; refine (RR.out num den t HR.out HD.out.1 HD.out.2 HN.out.1 HN.out.2 HT.out.1 HT.out.2 _).mono ?_; rintro rv w4 ⟨rfl, hb⟩; have ns : w1.heap.size < w4.heap.size := hb.ltK; (first | (have nx := Ext.trans hx hb; clear hx) | (have nx := Ext.trans (hx.alloc _) hb; clear hx) | (have nx := Ext.trans hx.drew hb; clear hx) | have nx := hb); clear hb; try clear hs; have hx := nx; clear nx; have hs := ns; clear ns))
    all_goals (try go_region)
    all_goals (try go_wp2_with fail)
    all_goals go_ret3
    all_goals exact ⟨rfl, Ext.auK⟩

theorem sNearestDecimal_no (e f a P : Int) (hg : ndB e f a P = false) (w : World) : Calls Tryd.prog 19 #[fmt e f, .int .i64 a, .int .i64 P] w fun rv w' => rv = .returned (.tuple #[.int .i64 0, .int .i64 0, .bool false]) ∧ Ext w w' := by
  cases h0 : finB e f a
  · go_enter Tryd.func19, Tryd.ntmps19
    go_wp2_with (go_at_call 29; refine (fmFinite_any e f a _).mono ?_; rintro rv w1 ⟨rfl, hb⟩; have ns : w.heap.size < w1.heap.size := hb.ltK; have n0 : w1.cell? ⟨w.heap.size, 0, none⟩ = some (.int .i64 e) := hb.cellK; have n1 : w1.cell? ⟨w.heap.size, 1, none⟩ = some (.int .i64 f) := hb.cellK; (first | (have nx := Ext.trans hx hb; clear hx) | (have nx := Ext.trans (hx.alloc _) hb; clear hx) | (have nx := Ext.trans hx.drew hb; clear hx) | have nx := hb); clear hb; try clear hs; try clear g0; try clear g1; have hx := nx; clear nx; have hs := ns; clear ns; have g0 := n0; clear n0; have g1 := n1; clear n1)
    go_ret3
    exact ⟨rfl, Ext.auK⟩
  · have hp : decide (1 ≤ P ∧ P ≤ 6) = false := by unfold ndB at hg; rw [h0] at hg; simpa using hg
    have LIP := Lib.hid (fun w => l1In_any P 1 6 w)
    rw [hp] at LIP
    go_enter Tryd.func19, Tryd.ntmps19
    go_wp2_with (first | (go_at_call 29; refine (fmFinite_any e f a _).mono ?_; rintro rv w1 ⟨rfl, hb⟩; have ns : w.heap.size < w1.heap.size := hb.ltK; have n0 : w1.cell? ⟨w.heap.size, 0, none⟩ = some (.int .i64 e) := hb.cellK; have n1 : w1.cell? ⟨w.heap.size, 1, none⟩ = some (.int .i64 f) := hb.cellK; (first | (have nx := Ext.trans hx hb; clear hx) | (have nx := Ext.trans (hx.alloc _) hb; clear hx) | (have nx := Ext.trans hx.drew hb; clear hx) | have nx := hb); clear hb; try clear hs; try clear g0; try clear g1; have hx := nx; clear nx; have hs := ns; clear ns; have g0 := n0; clear n0; have g1 := n1; clear n1) | (go_at_call 45; refine (LIP.out _).mono ?_; rintro rv w1 ⟨rfl, rfl⟩))
    go_ret3
    exact ⟨rfl, Ext.auK⟩

set_option maxHeartbeats 3200000 in
theorem sNearestDecimal_yes (e f a P : Int) (hg : ndB e f a P = true) (w : World) : Calls Tryd.prog 19 #[fmt e f, .int .i64 a, .int .i64 P] w fun rv w' => rv = .returned (.tuple #[.int .i64 (ndD e f a P), .int .i64 (ndT e f a P), .bool true]) ∧ Ext w w' := by
  obtain ⟨h0, p0, p1⟩ := ndB_iff.1 hg
  have hap := (fin_pat h0).1
  have hgg := (pat_iff.1 hap).1
  have ku := kind_units hap
  have LIP := Lib.hid (fun w => l1In_any P 1 6 w)
  rw [decide_eq_true (show 1 ≤ P ∧ P ≤ 6 from ⟨p0, p1⟩)] at LIP
  have hk : kindV e f a < 3 := of_decide_eq_true (by rw [kind_lt3 hap]; exact h0)
  by_cases hz : unitsV e f a = 0
  · have e1 : ndD e f a P = 0 := if_pos hz
    have e2 : ndT e f a P = 0 := if_pos hz
    rw [e1, e2]
    have hk0 : kindV e f a = 0 := by
      rcases ku.2.2 with ⟨k0, k4⟩
      rcases Int.lt_or_eq_of_le k0 with g | g
      · exact absurd hz (ku.2.1 (by omega))
      · exact g.symm
    have AZ := Lib.hid (fun w => arZeroK e f a true hap (by simpa using hk0) w)
    clear e1 e2 hk0 hk ku
    go_enter Tryd.func19, Tryd.ntmps19
    go_wp2_with (first | (go_at_call 29; refine (fmFinite_any e f a _).mono ?_; rintro rv w1 ⟨rfl, hb⟩; have ns : w.heap.size < w1.heap.size := hb.ltK; have n0 : w1.cell? ⟨w.heap.size, 0, none⟩ = some (.int .i64 e) := hb.cellK; have n1 : w1.cell? ⟨w.heap.size, 1, none⟩ = some (.int .i64 f) := hb.cellK; (first | (have nx := Ext.trans hx hb; clear hx) | (have nx := Ext.trans (hx.alloc _) hb; clear hx) | (have nx := Ext.trans hx.drew hb; clear hx) | have nx := hb); clear hb; try clear hs; try clear g0; try clear g1; have hx := nx; clear nx; have hs := ns; clear ns; have g0 := n0; clear n0; have g1 := n1; clear n1) | (go_at_call 45; refine (LIP.out _).mono ?_; rintro rv w1 ⟨rfl, rfl⟩) | (go_at_call 46; refine (AZ.out _).mono ?_; rintro rv w1 ⟨rfl, hb⟩; have ns : w.heap.size < w1.heap.size := hb.ltK; have n0 : w1.cell? ⟨w.heap.size, 0, none⟩ = some (.int .i64 e) := hb.cellK; have n1 : w1.cell? ⟨w.heap.size, 1, none⟩ = some (.int .i64 f) := hb.cellK; (first | (have nx := Ext.trans hx hb; clear hx) | (have nx := Ext.trans (hx.alloc _) hb; clear hx) | (have nx := Ext.trans hx.drew hb; clear hx) | have nx := hb); clear hb; try clear hs; try clear g0; try clear g1; have hx := nx; clear nx; have hs := ns; clear ns; have g0 := n0; clear n0; have g1 := n1; clear n1))
    go_ret3
    exact ⟨rfl, Ext.auK⟩
  · have e1 : ndD e f a P = (ndX e f ((unitsV e f a).natAbs : Int) (tenN (P.toNat - 1))).1 := if_neg hz
    have e2 : ndT e f a P = (ndX e f ((unitsV e f a).natAbs : Int) (tenN (P.toNat - 1))).2 := if_neg hz
    rw [e1, e2]
    obtain ⟨sf, su⟩ := size_fin h0
    have hk0 : ¬ kindV e f a = 0 := fun h => hz (ku.1 h)
    obtain ⟨b0, b1⟩ := P_bd p0 p1
    have AZ := Lib.hid (fun w => arZeroK e f a false hap (by simpa using hk0) w)
    have FS := Lib.hid (fun w => fmSize_any e f a hgg (pat_iff.1 hap).2.1 w)
    have TB := Lib.hid (fun w => txBelow_any e f (a % pw (e + f)) P sf (by rw [su]; omega) p0 p1 w)
    rw [su] at TB
    have TNC := Lib.hid (fun d t d0 d1 t0 t1 w => txNear_any e f (a % pw (e + f)) d t sf d0 d1 t0 t1 w)
    rw [su] at TNC
    rw [show (((((unitsV e f a).natAbs : Int) : Int).natAbs : Nat) : Int) = ((unitsV e f a).natAbs : Int) by omega] at TB TNC
    have TT := Lib.hid (fun w => by have := txTen_any P (by omega) w; rw [show P.toNat = (P.toNat - 1) + 1 by omega, show tenN (P.toNat - 1 + 1) = tenN (P.toNat - 1) * 10 from rfl] at this; exact this)
    have TL := Lib.hid (fun w => by have := txTen_any (P - 1) (by omega) w; rw [show (P - 1).toNat = P.toNat - 1 by omega] at this; exact this)
    have kP : IntKind.i64.wrap (P - 1) = P - 1 := IntWalk.i64_in _ (by omega)
    unfold BlT at TB
    clear e1 e2 hk0 hk ku su hz
    generalize ((unitsV e f a).natAbs : Int) = v at *
    generalize (tenN (P.toNat - 1)) = L at *
    generalize a % pw (e + f) = sz at *
    have NX := Lib.hid (fun x (h : NdP e f v L x) => nd_is (by omega) h)
    generalize hND : ndX e f v L = ND at *
    clear hND
    go_enter Tryd.func19, Tryd.ntmps19
    go_wp2_with (first | (go_at_call 29; refine (fmFinite_any e f a _).mono ?_; rintro rv w1 ⟨rfl, hb⟩; have ns : w.heap.size < w1.heap.size := hb.ltK; have n0 : w1.cell? ⟨w.heap.size, 0, none⟩ = some (.int .i64 e) := hb.cellK; have n1 : w1.cell? ⟨w.heap.size, 1, none⟩ = some (.int .i64 f) := hb.cellK; (first | (have nx := Ext.trans hx hb; clear hx) | (have nx := Ext.trans (hx.alloc _) hb; clear hx) | (have nx := Ext.trans hx.drew hb; clear hx) | have nx := hb); clear hb; try clear hs; try clear g0; try clear g1; have hx := nx; clear nx; have hs := ns; clear ns; have g0 := n0; clear n0; have g1 := n1; clear n1) | (go_at_call 45; refine (LIP.out _).mono ?_; rintro rv w1 ⟨rfl, rfl⟩) | (go_at_call 46; refine (AZ.out _).mono ?_; rintro rv w1 ⟨rfl, hb⟩; have ns : w.heap.size < w1.heap.size := hb.ltK; have n0 : w1.cell? ⟨w.heap.size, 0, none⟩ = some (.int .i64 e) := hb.cellK; have n1 : w1.cell? ⟨w.heap.size, 1, none⟩ = some (.int .i64 f) := hb.cellK; (first | (have nx := Ext.trans hx hb; clear hx) | (have nx := Ext.trans (hx.alloc _) hb; clear hx) | (have nx := Ext.trans hx.drew hb; clear hx) | have nx := hb); clear hb; try clear hs; try clear g0; try clear g1; have hx := nx; clear nx; have hs := ns; clear ns; have g0 := n0; clear n0; have g1 := n1; clear n1) | (go_at_call 47; refine (FS.out _).mono ?_; rintro rv w1 ⟨rfl, hb⟩; have ns : w.heap.size < w1.heap.size := hb.ltK; have n0 : w1.cell? ⟨w.heap.size, 0, none⟩ = some (.int .i64 e) := hb.cellK; have n1 : w1.cell? ⟨w.heap.size, 1, none⟩ = some (.int .i64 f) := hb.cellK; (first | (have nx := Ext.trans hx hb; clear hx) | (have nx := Ext.trans (hx.alloc _) hb; clear hx) | (have nx := Ext.trans hx.drew hb; clear hx) | have nx := hb); clear hb; try clear hs; try clear g0; try clear g1; have hx := nx; clear nx; have hs := ns; clear ns; have g0 := n0; clear n0; have g1 := n1; clear n1) | (go_at_call 48; refine (TB.out _).mono ?_; rintro rv w1 ⟨low, t, rfl, hbl, hb⟩; have HBL := Lib.hid hbl; clear hbl; have ns : w.heap.size < w1.heap.size := hb.ltK; have n0 : w1.cell? ⟨w.heap.size, 0, none⟩ = some (.int .i64 e) := hb.cellK; have n1 : w1.cell? ⟨w.heap.size, 1, none⟩ = some (.int .i64 f) := hb.cellK; (first | (have nx := Ext.trans hx hb; clear hx) | (have nx := Ext.trans (hx.alloc _) hb; clear hx) | (have nx := Ext.trans hx.drew hb; clear hx) | have nx := hb); clear hb; try clear hs; try clear g0; try clear g1; have hx := nx; clear nx; have hs := ns; clear ns; have g0 := n0; clear n0; have g1 := n1; clear n1))
    try (go_region_held3 (fun w' => w'.cell? ⟨w.heap.size, 0, none⟩ = some (.int .i64 e) ∧ w'.cell? ⟨w.heap.size, 1, none⟩ = some (.int .i64 f) ∧ w.heap.size < w'.heap.size) ((refine ⟨?_, ?_, ?_⟩ <;> first | with_reducible assumption | ((rw [cell_setRow_far _ _ _ _ _ (by omega)]); with_reducible assumption) | ((rw [setRow_size]); with_reducible assumption) | ((repeat rw [World.cell?_setCell_far _ _ _ _ (by simp)]); with_reducible assumption) | (simp; done) | (simp [World.setCell]; first | done | omega) | (simp [go_sem, World.cell?_alloc_past, World.cell?_setCell_far, *]; done))) ((first | (go_at_call 47; refine (FS.out _).mono ?_; rintro rv w1 ⟨rfl, hb⟩; have ns : w.heap.size < w1.heap.size := hb.ltK; have n0 : w1.cell? ⟨w.heap.size, 0, none⟩ = some (.int .i64 e) := hb.cellK; have n1 : w1.cell? ⟨w.heap.size, 1, none⟩ = some (.int .i64 f) := hb.cellK; (first | (have nx := Ext.trans hx hb; clear hx) | (have nx := Ext.trans (hx.alloc _) hb; clear hx) | (have nx := Ext.trans hx.drew hb; clear hx) | have nx := hb); clear hb; try clear hs; try clear g0; try clear g1; have hx := nx; clear nx; have hs := ns; clear ns; have g0 := n0; clear n0; have g1 := n1; clear n1) | (go_at_call 48; refine (TB.out _).mono ?_; rintro rv w1 ⟨low, t, rfl, hbl, hb⟩; have HBL := Lib.hid hbl; clear hbl; have ns : w.heap.size < w1.heap.size := hb.ltK; have n0 : w1.cell? ⟨w.heap.size, 0, none⟩ = some (.int .i64 e) := hb.cellK; have n1 : w1.cell? ⟨w.heap.size, 1, none⟩ = some (.int .i64 f) := hb.cellK; (first | (have nx := Ext.trans hx hb; clear hx) | (have nx := Ext.trans (hx.alloc _) hb; clear hx) | (have nx := Ext.trans hx.drew hb; clear hx) | have nx := hb); clear hb; try clear hs; try clear g0; try clear g1; have hx := nx; clear nx; have hs := ns; clear ns; have g0 := n0; clear n0; have g1 := n1; clear n1))))
    all_goals (try go_wp2_with (first | (go_at_call 47; refine (FS.out _).mono ?_; rintro rv w1 ⟨rfl, hb⟩; have ns : w.heap.size < w1.heap.size := hb.ltK; have n0 : w1.cell? ⟨w.heap.size, 0, none⟩ = some (.int .i64 e) := hb.cellK; have n1 : w1.cell? ⟨w.heap.size, 1, none⟩ = some (.int .i64 f) := hb.cellK; (first | (have nx := Ext.trans hx hb; clear hx) | (have nx := Ext.trans (hx.alloc _) hb; clear hx) | (have nx := Ext.trans hx.drew hb; clear hx) | have nx := hb); clear hb; try clear hs; try clear g0; try clear g1; have hx := nx; clear nx; have hs := ns; clear ns; have g0 := n0; clear n0; have g1 := n1; clear n1) | (go_at_call 48; refine (TB.out _).mono ?_; rintro rv w1 ⟨low, t, rfl, hbl, hb⟩; have HBL := Lib.hid hbl; clear hbl; have ns : w.heap.size < w1.heap.size := hb.ltK; have n0 : w1.cell? ⟨w.heap.size, 0, none⟩ = some (.int .i64 e) := hb.cellK; have n1 : w1.cell? ⟨w.heap.size, 1, none⟩ = some (.int .i64 f) := hb.cellK; (first | (have nx := Ext.trans hx hb; clear hx) | (have nx := Ext.trans (hx.alloc _) hb; clear hx) | (have nx := Ext.trans hx.drew hb; clear hx) | have nx := hb); clear hb; try clear hs; try clear g0; try clear g1; have hx := nx; clear nx; have hs := ns; clear ns; have g0 := n0; clear n0; have g1 := n1; clear n1)))
    all_goals skip
    obtain ⟨q0, q1, q2, q3, q4, q5⟩ := id HBL.out
    have TN := Lib.hid (fun w => TNC.out low t (by omega) (by omega) (by omega) (by omega) w)
    have BC : RowKit.Hid (BlC e f v L low t) := Lib.hid ⟨q0, q1, q2, q3⟩
    obtain ⟨c, hcc⟩ : ∃ c, tcV e f v (10 * low + 5) (t - 1) = c := ⟨_, rfl⟩
    rw [hcc] at TN
    have klow : IntKind.i64.wrap (low + 1) = low + 1 := IntWalk.i64_in _ (by omega)
    have kt : IntKind.i64.wrap (t + 1) = t + 1 := IntWalk.i64_in _ (by omega)
    have kL : IntKind.i64.wrap (L * 10) = L * 10 := IntWalk.i64_in _ (by omega)
    have tm : low.tmod 2 = low % 2 := Int.tmod_eq_emod_of_nonneg (by omega)
    have HX0 := Lib.hid (fun r (hr : duV c low = r) => NX.out (if r = L * 10 then (L, t + 1) else (r, t)) ⟨low, t, BC.out, by unfold ndQ; rw [hcc, hr]⟩)
    clear hcc q0 q1 TNC NX TB HBL BC FS
    rcases Int.lt_trichotomy c 0 with hc | hc | hc
    · have hd : duV c low = low := if_neg (by omega)
      have HX1 := HX0.out low hd
      rw [if_neg (by omega)] at HX1
      have HX := Lib.hid HX1
      clear HX1 HX0 hd
      have hl : (low == L * 10) = false := by simp; omega
      go_wp2_with (first | (go_at_call 49; refine (TN.out _).mono ?_; rintro rv w1 ⟨rfl, hb⟩; have ns : w.heap.size < w1.heap.size := hb.ltK; have n0 : w1.cell? ⟨w.heap.size, 0, none⟩ = some (.int .i64 e) := hb.cellK; have n1 : w1.cell? ⟨w.heap.size, 1, none⟩ = some (.int .i64 f) := hb.cellK; (first | (have nx := Ext.trans hx hb; clear hx) | (have nx := Ext.trans (hx.alloc _) hb; clear hx) | (have nx := Ext.trans hx.drew hb; clear hx) | have nx := hb); clear hb; try clear hs; try clear g0; try clear g1; have hx := nx; clear nx; have hs := ns; clear ns; have g0 := n0; clear n0; have g1 := n1; clear n1) | (go_at_call 50; (with_reducible refine (TT.out _).mono ?_); rintro rv w1 ⟨rfl, hb⟩; have ns : w.heap.size < w1.heap.size := hb.ltK; have n0 : w1.cell? ⟨w.heap.size, 0, none⟩ = some (.int .i64 e) := hb.cellK; have n1 : w1.cell? ⟨w.heap.size, 1, none⟩ = some (.int .i64 f) := hb.cellK; (first | (have nx := Ext.trans hx hb; clear hx) | (have nx := Ext.trans (hx.alloc _) hb; clear hx) | (have nx := Ext.trans hx.drew hb; clear hx) | have nx := hb); clear hb; try clear hs; try clear g0; try clear g1; have hx := nx; clear nx; have hs := ns; clear ns; have g0 := n0; clear n0; have g1 := n1; clear n1) | (go_at_call 50; (with_reducible refine (TL.out _).mono ?_); rintro rv w1 ⟨rfl, hb⟩; have ns : w.heap.size < w1.heap.size := hb.ltK; have n0 : w1.cell? ⟨w.heap.size, 0, none⟩ = some (.int .i64 e) := hb.cellK; have n1 : w1.cell? ⟨w.heap.size, 1, none⟩ = some (.int .i64 f) := hb.cellK; (first | (have nx := Ext.trans hx hb; clear hx) | (have nx := Ext.trans (hx.alloc _) hb; clear hx) | (have nx := Ext.trans hx.drew hb; clear hx) | have nx := hb); clear hb; try clear hs; try clear g0; try clear g1; have hx := nx; clear nx; have hs := ns; clear ns; have g0 := n0; clear n0; have g1 := n1; clear n1) | fail)
      all_goals (try (go_region_held3 (fun w' => w'.cell? ⟨w.heap.size, 0, none⟩ = some (.int .i64 e) ∧ w'.cell? ⟨w.heap.size, 1, none⟩ = some (.int .i64 f) ∧ w.heap.size < w'.heap.size) ((refine ⟨?_, ?_, ?_⟩ <;> first | with_reducible assumption | ((rw [cell_setRow_far _ _ _ _ _ (by omega)]); with_reducible assumption) | ((rw [setRow_size]); with_reducible assumption) | ((repeat rw [World.cell?_setCell_far _ _ _ _ (by simp)]); with_reducible assumption) | (simp; done) | (simp [World.setCell]; first | done | omega) | (simp [go_sem, World.cell?_alloc_past, World.cell?_setCell_far, *]; done))) ((first | (go_at_call 49; refine (TN.out _).mono ?_; rintro rv w1 ⟨rfl, hb⟩; have ns : w.heap.size < w1.heap.size := hb.ltK; have n0 : w1.cell? ⟨w.heap.size, 0, none⟩ = some (.int .i64 e) := hb.cellK; have n1 : w1.cell? ⟨w.heap.size, 1, none⟩ = some (.int .i64 f) := hb.cellK; (first | (have nx := Ext.trans hx hb; clear hx) | (have nx := Ext.trans (hx.alloc _) hb; clear hx) | (have nx := Ext.trans hx.drew hb; clear hx) | have nx := hb); clear hb; try clear hs; try clear g0; try clear g1; have hx := nx; clear nx; have hs := ns; clear ns; have g0 := n0; clear n0; have g1 := n1; clear n1) | fail))))
      all_goals (try go_wp2_with (first | (go_at_call 49; refine (TN.out _).mono ?_; rintro rv w1 ⟨rfl, hb⟩; have ns : w.heap.size < w1.heap.size := hb.ltK; have n0 : w1.cell? ⟨w.heap.size, 0, none⟩ = some (.int .i64 e) := hb.cellK; have n1 : w1.cell? ⟨w.heap.size, 1, none⟩ = some (.int .i64 f) := hb.cellK; (first | (have nx := Ext.trans hx hb; clear hx) | (have nx := Ext.trans (hx.alloc _) hb; clear hx) | (have nx := Ext.trans hx.drew hb; clear hx) | have nx := hb); clear hb; try clear hs; try clear g0; try clear g1; have hx := nx; clear nx; have hs := ns; clear ns; have g0 := n0; clear n0; have g1 := n1; clear n1) | (go_at_call 50; (with_reducible refine (TT.out _).mono ?_); rintro rv w1 ⟨rfl, hb⟩; have ns : w.heap.size < w1.heap.size := hb.ltK; have n0 : w1.cell? ⟨w.heap.size, 0, none⟩ = some (.int .i64 e) := hb.cellK; have n1 : w1.cell? ⟨w.heap.size, 1, none⟩ = some (.int .i64 f) := hb.cellK; (first | (have nx := Ext.trans hx hb; clear hx) | (have nx := Ext.trans (hx.alloc _) hb; clear hx) | (have nx := Ext.trans hx.drew hb; clear hx) | have nx := hb); clear hb; try clear hs; try clear g0; try clear g1; have hx := nx; clear nx; have hs := ns; clear ns; have g0 := n0; clear n0; have g1 := n1; clear n1) | (go_at_call 50; (with_reducible refine (TL.out _).mono ?_); rintro rv w1 ⟨rfl, hb⟩; have ns : w.heap.size < w1.heap.size := hb.ltK; have n0 : w1.cell? ⟨w.heap.size, 0, none⟩ = some (.int .i64 e) := hb.cellK; have n1 : w1.cell? ⟨w.heap.size, 1, none⟩ = some (.int .i64 f) := hb.cellK; (first | (have nx := Ext.trans hx hb; clear hx) | (have nx := Ext.trans (hx.alloc _) hb; clear hx) | (have nx := Ext.trans hx.drew hb; clear hx) | have nx := hb); clear hb; try clear hs; try clear g0; try clear g1; have hx := nx; clear nx; have hs := ns; clear ns; have g0 := n0; clear n0; have g1 := n1; clear n1) | fail))
      all_goals (try (go_region_held3 (fun w' => w'.cell? ⟨w.heap.size, 0, none⟩ = some (.int .i64 e) ∧ w'.cell? ⟨w.heap.size, 1, none⟩ = some (.int .i64 f) ∧ w.heap.size < w'.heap.size) ((refine ⟨?_, ?_, ?_⟩ <;> first | with_reducible assumption | ((rw [cell_setRow_far _ _ _ _ _ (by omega)]); with_reducible assumption) | ((rw [setRow_size]); with_reducible assumption) | ((repeat rw [World.cell?_setCell_far _ _ _ _ (by simp)]); with_reducible assumption) | (simp; done) | (simp [World.setCell]; first | done | omega) | (simp [go_sem, World.cell?_alloc_past, World.cell?_setCell_far, *]; done))) ((first | (go_at_call 50; (with_reducible refine (TT.out _).mono ?_); rintro rv w1 ⟨rfl, hb⟩; have ns : w.heap.size < w1.heap.size := hb.ltK; have n0 : w1.cell? ⟨w.heap.size, 0, none⟩ = some (.int .i64 e) := hb.cellK; have n1 : w1.cell? ⟨w.heap.size, 1, none⟩ = some (.int .i64 f) := hb.cellK; (first | (have nx := Ext.trans hx hb; clear hx) | (have nx := Ext.trans (hx.alloc _) hb; clear hx) | (have nx := Ext.trans hx.drew hb; clear hx) | have nx := hb); clear hb; try clear hs; try clear g0; try clear g1; have hx := nx; clear nx; have hs := ns; clear ns; have g0 := n0; clear n0; have g1 := n1; clear n1) | (go_at_call 50; (with_reducible refine (TL.out _).mono ?_); rintro rv w1 ⟨rfl, hb⟩; have ns : w.heap.size < w1.heap.size := hb.ltK; have n0 : w1.cell? ⟨w.heap.size, 0, none⟩ = some (.int .i64 e) := hb.cellK; have n1 : w1.cell? ⟨w.heap.size, 1, none⟩ = some (.int .i64 f) := hb.cellK; (first | (have nx := Ext.trans hx hb; clear hx) | (have nx := Ext.trans (hx.alloc _) hb; clear hx) | (have nx := Ext.trans hx.drew hb; clear hx) | have nx := hb); clear hb; try clear hs; try clear g0; try clear g1; have hx := nx; clear nx; have hs := ns; clear ns; have g0 := n0; clear n0; have g1 := n1; clear n1)))))
      all_goals (try go_wp2_with (first | (go_at_call 50; (with_reducible refine (TT.out _).mono ?_); rintro rv w1 ⟨rfl, hb⟩; have ns : w.heap.size < w1.heap.size := hb.ltK; have n0 : w1.cell? ⟨w.heap.size, 0, none⟩ = some (.int .i64 e) := hb.cellK; have n1 : w1.cell? ⟨w.heap.size, 1, none⟩ = some (.int .i64 f) := hb.cellK; (first | (have nx := Ext.trans hx hb; clear hx) | (have nx := Ext.trans (hx.alloc _) hb; clear hx) | (have nx := Ext.trans hx.drew hb; clear hx) | have nx := hb); clear hb; try clear hs; try clear g0; try clear g1; have hx := nx; clear nx; have hs := ns; clear ns; have g0 := n0; clear n0; have g1 := n1; clear n1) | (go_at_call 50; (with_reducible refine (TL.out _).mono ?_); rintro rv w1 ⟨rfl, hb⟩; have ns : w.heap.size < w1.heap.size := hb.ltK; have n0 : w1.cell? ⟨w.heap.size, 0, none⟩ = some (.int .i64 e) := hb.cellK; have n1 : w1.cell? ⟨w.heap.size, 1, none⟩ = some (.int .i64 f) := hb.cellK; (first | (have nx := Ext.trans hx hb; clear hx) | (have nx := Ext.trans (hx.alloc _) hb; clear hx) | (have nx := Ext.trans hx.drew hb; clear hx) | have nx := hb); clear hb; try clear hs; try clear g0; try clear g1; have hx := nx; clear nx; have hs := ns; clear ns; have g0 := n0; clear n0; have g1 := n1; clear n1) | fail))
      all_goals go_ret3
      all_goals exact ⟨by (rw [← HX.out]; rfl), Ext.auK⟩
    · subst hc
      by_cases ho : low % 2 = 1
      · have hd : duV 0 low = low + 1 := if_pos (by omega)
        have HX1 := HX0.out (low + 1) hd
        rw [ho] at tm
        by_cases hl : low + 1 = L * 10
        · rw [if_pos hl] at HX1
          have HX := Lib.hid HX1
          have hl2 : (low + 1 == L * 10) = true := by simpa using hl
          clear HX1 HX0 hd
          go_wp2_with (first | (go_at_call 49; refine (TN.out _).mono ?_; rintro rv w1 ⟨rfl, hb⟩; have ns : w.heap.size < w1.heap.size := hb.ltK; have n0 : w1.cell? ⟨w.heap.size, 0, none⟩ = some (.int .i64 e) := hb.cellK; have n1 : w1.cell? ⟨w.heap.size, 1, none⟩ = some (.int .i64 f) := hb.cellK; (first | (have nx := Ext.trans hx hb; clear hx) | (have nx := Ext.trans (hx.alloc _) hb; clear hx) | (have nx := Ext.trans hx.drew hb; clear hx) | have nx := hb); clear hb; try clear hs; try clear g0; try clear g1; have hx := nx; clear nx; have hs := ns; clear ns; have g0 := n0; clear n0; have g1 := n1; clear n1) | (go_at_call 50; (with_reducible refine (TT.out _).mono ?_); rintro rv w1 ⟨rfl, hb⟩; have ns : w.heap.size < w1.heap.size := hb.ltK; have n0 : w1.cell? ⟨w.heap.size, 0, none⟩ = some (.int .i64 e) := hb.cellK; have n1 : w1.cell? ⟨w.heap.size, 1, none⟩ = some (.int .i64 f) := hb.cellK; (first | (have nx := Ext.trans hx hb; clear hx) | (have nx := Ext.trans (hx.alloc _) hb; clear hx) | (have nx := Ext.trans hx.drew hb; clear hx) | have nx := hb); clear hb; try clear hs; try clear g0; try clear g1; have hx := nx; clear nx; have hs := ns; clear ns; have g0 := n0; clear n0; have g1 := n1; clear n1) | (go_at_call 50; (with_reducible refine (TL.out _).mono ?_); rintro rv w1 ⟨rfl, hb⟩; have ns : w.heap.size < w1.heap.size := hb.ltK; have n0 : w1.cell? ⟨w.heap.size, 0, none⟩ = some (.int .i64 e) := hb.cellK; have n1 : w1.cell? ⟨w.heap.size, 1, none⟩ = some (.int .i64 f) := hb.cellK; (first | (have nx := Ext.trans hx hb; clear hx) | (have nx := Ext.trans (hx.alloc _) hb; clear hx) | (have nx := Ext.trans hx.drew hb; clear hx) | have nx := hb); clear hb; try clear hs; try clear g0; try clear g1; have hx := nx; clear nx; have hs := ns; clear ns; have g0 := n0; clear n0; have g1 := n1; clear n1) | fail)
          all_goals (try (go_region_held3 (fun w' => w'.cell? ⟨w.heap.size, 0, none⟩ = some (.int .i64 e) ∧ w'.cell? ⟨w.heap.size, 1, none⟩ = some (.int .i64 f) ∧ w.heap.size < w'.heap.size) ((refine ⟨?_, ?_, ?_⟩ <;> first | with_reducible assumption | ((rw [cell_setRow_far _ _ _ _ _ (by omega)]); with_reducible assumption) | ((rw [setRow_size]); with_reducible assumption) | ((repeat rw [World.cell?_setCell_far _ _ _ _ (by simp)]); with_reducible assumption) | (simp; done) | (simp [World.setCell]; first | done | omega) | (simp [go_sem, World.cell?_alloc_past, World.cell?_setCell_far, *]; done))) ((first | (go_at_call 49; refine (TN.out _).mono ?_; rintro rv w1 ⟨rfl, hb⟩; have ns : w.heap.size < w1.heap.size := hb.ltK; have n0 : w1.cell? ⟨w.heap.size, 0, none⟩ = some (.int .i64 e) := hb.cellK; have n1 : w1.cell? ⟨w.heap.size, 1, none⟩ = some (.int .i64 f) := hb.cellK; (first | (have nx := Ext.trans hx hb; clear hx) | (have nx := Ext.trans (hx.alloc _) hb; clear hx) | (have nx := Ext.trans hx.drew hb; clear hx) | have nx := hb); clear hb; try clear hs; try clear g0; try clear g1; have hx := nx; clear nx; have hs := ns; clear ns; have g0 := n0; clear n0; have g1 := n1; clear n1) | fail))))
          all_goals (try go_wp2_with (first | (go_at_call 49; refine (TN.out _).mono ?_; rintro rv w1 ⟨rfl, hb⟩; have ns : w.heap.size < w1.heap.size := hb.ltK; have n0 : w1.cell? ⟨w.heap.size, 0, none⟩ = some (.int .i64 e) := hb.cellK; have n1 : w1.cell? ⟨w.heap.size, 1, none⟩ = some (.int .i64 f) := hb.cellK; (first | (have nx := Ext.trans hx hb; clear hx) | (have nx := Ext.trans (hx.alloc _) hb; clear hx) | (have nx := Ext.trans hx.drew hb; clear hx) | have nx := hb); clear hb; try clear hs; try clear g0; try clear g1; have hx := nx; clear nx; have hs := ns; clear ns; have g0 := n0; clear n0; have g1 := n1; clear n1) | (go_at_call 50; (with_reducible refine (TT.out _).mono ?_); rintro rv w1 ⟨rfl, hb⟩; have ns : w.heap.size < w1.heap.size := hb.ltK; have n0 : w1.cell? ⟨w.heap.size, 0, none⟩ = some (.int .i64 e) := hb.cellK; have n1 : w1.cell? ⟨w.heap.size, 1, none⟩ = some (.int .i64 f) := hb.cellK; (first | (have nx := Ext.trans hx hb; clear hx) | (have nx := Ext.trans (hx.alloc _) hb; clear hx) | (have nx := Ext.trans hx.drew hb; clear hx) | have nx := hb); clear hb; try clear hs; try clear g0; try clear g1; have hx := nx; clear nx; have hs := ns; clear ns; have g0 := n0; clear n0; have g1 := n1; clear n1) | (go_at_call 50; (with_reducible refine (TL.out _).mono ?_); rintro rv w1 ⟨rfl, hb⟩; have ns : w.heap.size < w1.heap.size := hb.ltK; have n0 : w1.cell? ⟨w.heap.size, 0, none⟩ = some (.int .i64 e) := hb.cellK; have n1 : w1.cell? ⟨w.heap.size, 1, none⟩ = some (.int .i64 f) := hb.cellK; (first | (have nx := Ext.trans hx hb; clear hx) | (have nx := Ext.trans (hx.alloc _) hb; clear hx) | (have nx := Ext.trans hx.drew hb; clear hx) | have nx := hb); clear hb; try clear hs; try clear g0; try clear g1; have hx := nx; clear nx; have hs := ns; clear ns; have g0 := n0; clear n0; have g1 := n1; clear n1) | fail))
          all_goals (try (go_region_held3 (fun w' => w'.cell? ⟨w.heap.size, 0, none⟩ = some (.int .i64 e) ∧ w'.cell? ⟨w.heap.size, 1, none⟩ = some (.int .i64 f) ∧ w.heap.size < w'.heap.size) ((refine ⟨?_, ?_, ?_⟩ <;> first | with_reducible assumption | ((rw [cell_setRow_far _ _ _ _ _ (by omega)]); with_reducible assumption) | ((rw [setRow_size]); with_reducible assumption) | ((repeat rw [World.cell?_setCell_far _ _ _ _ (by simp)]); with_reducible assumption) | (simp; done) | (simp [World.setCell]; first | done | omega) | (simp [go_sem, World.cell?_alloc_past, World.cell?_setCell_far, *]; done))) ((first | (go_at_call 50; (with_reducible refine (TT.out _).mono ?_); rintro rv w1 ⟨rfl, hb⟩; have ns : w.heap.size < w1.heap.size := hb.ltK; have n0 : w1.cell? ⟨w.heap.size, 0, none⟩ = some (.int .i64 e) := hb.cellK; have n1 : w1.cell? ⟨w.heap.size, 1, none⟩ = some (.int .i64 f) := hb.cellK; (first | (have nx := Ext.trans hx hb; clear hx) | (have nx := Ext.trans (hx.alloc _) hb; clear hx) | (have nx := Ext.trans hx.drew hb; clear hx) | have nx := hb); clear hb; try clear hs; try clear g0; try clear g1; have hx := nx; clear nx; have hs := ns; clear ns; have g0 := n0; clear n0; have g1 := n1; clear n1) | (go_at_call 50; (with_reducible refine (TL.out _).mono ?_); rintro rv w1 ⟨rfl, hb⟩; have ns : w.heap.size < w1.heap.size := hb.ltK; have n0 : w1.cell? ⟨w.heap.size, 0, none⟩ = some (.int .i64 e) := hb.cellK; have n1 : w1.cell? ⟨w.heap.size, 1, none⟩ = some (.int .i64 f) := hb.cellK; (first | (have nx := Ext.trans hx hb; clear hx) | (have nx := Ext.trans (hx.alloc _) hb; clear hx) | (have nx := Ext.trans hx.drew hb; clear hx) | have nx := hb); clear hb; try clear hs; try clear g0; try clear g1; have hx := nx; clear nx; have hs := ns; clear ns; have g0 := n0; clear n0; have g1 := n1; clear n1)))))
          all_goals (try go_wp2_with (first | (go_at_call 50; (with_reducible refine (TT.out _).mono ?_); rintro rv w1 ⟨rfl, hb⟩; have ns : w.heap.size < w1.heap.size := hb.ltK; have n0 : w1.cell? ⟨w.heap.size, 0, none⟩ = some (.int .i64 e) := hb.cellK; have n1 : w1.cell? ⟨w.heap.size, 1, none⟩ = some (.int .i64 f) := hb.cellK; (first | (have nx := Ext.trans hx hb; clear hx) | (have nx := Ext.trans (hx.alloc _) hb; clear hx) | (have nx := Ext.trans hx.drew hb; clear hx) | have nx := hb); clear hb; try clear hs; try clear g0; try clear g1; have hx := nx; clear nx; have hs := ns; clear ns; have g0 := n0; clear n0; have g1 := n1; clear n1) | (go_at_call 50; (with_reducible refine (TL.out _).mono ?_); rintro rv w1 ⟨rfl, hb⟩; have ns : w.heap.size < w1.heap.size := hb.ltK; have n0 : w1.cell? ⟨w.heap.size, 0, none⟩ = some (.int .i64 e) := hb.cellK; have n1 : w1.cell? ⟨w.heap.size, 1, none⟩ = some (.int .i64 f) := hb.cellK; (first | (have nx := Ext.trans hx hb; clear hx) | (have nx := Ext.trans (hx.alloc _) hb; clear hx) | (have nx := Ext.trans hx.drew hb; clear hx) | have nx := hb); clear hb; try clear hs; try clear g0; try clear g1; have hx := nx; clear nx; have hs := ns; clear ns; have g0 := n0; clear n0; have g1 := n1; clear n1) | fail))
          all_goals go_ret3
          all_goals exact ⟨by (rw [← HX.out]; rfl), Ext.auK⟩
        · rw [if_neg hl] at HX1
          have HX := Lib.hid HX1
          have hl2 : (low + 1 == L * 10) = false := by simpa using hl
          clear HX1 HX0 hd
          go_wp2_with (first | (go_at_call 49; refine (TN.out _).mono ?_; rintro rv w1 ⟨rfl, hb⟩; have ns : w.heap.size < w1.heap.size := hb.ltK; have n0 : w1.cell? ⟨w.heap.size, 0, none⟩ = some (.int .i64 e) := hb.cellK; have n1 : w1.cell? ⟨w.heap.size, 1, none⟩ = some (.int .i64 f) := hb.cellK; (first | (have nx := Ext.trans hx hb; clear hx) | (have nx := Ext.trans (hx.alloc _) hb; clear hx) | (have nx := Ext.trans hx.drew hb; clear hx) | have nx := hb); clear hb; try clear hs; try clear g0; try clear g1; have hx := nx; clear nx; have hs := ns; clear ns; have g0 := n0; clear n0; have g1 := n1; clear n1) | (go_at_call 50; (with_reducible refine (TT.out _).mono ?_); rintro rv w1 ⟨rfl, hb⟩; have ns : w.heap.size < w1.heap.size := hb.ltK; have n0 : w1.cell? ⟨w.heap.size, 0, none⟩ = some (.int .i64 e) := hb.cellK; have n1 : w1.cell? ⟨w.heap.size, 1, none⟩ = some (.int .i64 f) := hb.cellK; (first | (have nx := Ext.trans hx hb; clear hx) | (have nx := Ext.trans (hx.alloc _) hb; clear hx) | (have nx := Ext.trans hx.drew hb; clear hx) | have nx := hb); clear hb; try clear hs; try clear g0; try clear g1; have hx := nx; clear nx; have hs := ns; clear ns; have g0 := n0; clear n0; have g1 := n1; clear n1) | (go_at_call 50; (with_reducible refine (TL.out _).mono ?_); rintro rv w1 ⟨rfl, hb⟩; have ns : w.heap.size < w1.heap.size := hb.ltK; have n0 : w1.cell? ⟨w.heap.size, 0, none⟩ = some (.int .i64 e) := hb.cellK; have n1 : w1.cell? ⟨w.heap.size, 1, none⟩ = some (.int .i64 f) := hb.cellK; (first | (have nx := Ext.trans hx hb; clear hx) | (have nx := Ext.trans (hx.alloc _) hb; clear hx) | (have nx := Ext.trans hx.drew hb; clear hx) | have nx := hb); clear hb; try clear hs; try clear g0; try clear g1; have hx := nx; clear nx; have hs := ns; clear ns; have g0 := n0; clear n0; have g1 := n1; clear n1) | fail)
          all_goals (try (go_region_held3 (fun w' => w'.cell? ⟨w.heap.size, 0, none⟩ = some (.int .i64 e) ∧ w'.cell? ⟨w.heap.size, 1, none⟩ = some (.int .i64 f) ∧ w.heap.size < w'.heap.size) ((refine ⟨?_, ?_, ?_⟩ <;> first | with_reducible assumption | ((rw [cell_setRow_far _ _ _ _ _ (by omega)]); with_reducible assumption) | ((rw [setRow_size]); with_reducible assumption) | ((repeat rw [World.cell?_setCell_far _ _ _ _ (by simp)]); with_reducible assumption) | (simp; done) | (simp [World.setCell]; first | done | omega) | (simp [go_sem, World.cell?_alloc_past, World.cell?_setCell_far, *]; done))) ((first | (go_at_call 49; refine (TN.out _).mono ?_; rintro rv w1 ⟨rfl, hb⟩; have ns : w.heap.size < w1.heap.size := hb.ltK; have n0 : w1.cell? ⟨w.heap.size, 0, none⟩ = some (.int .i64 e) := hb.cellK; have n1 : w1.cell? ⟨w.heap.size, 1, none⟩ = some (.int .i64 f) := hb.cellK; (first | (have nx := Ext.trans hx hb; clear hx) | (have nx := Ext.trans (hx.alloc _) hb; clear hx) | (have nx := Ext.trans hx.drew hb; clear hx) | have nx := hb); clear hb; try clear hs; try clear g0; try clear g1; have hx := nx; clear nx; have hs := ns; clear ns; have g0 := n0; clear n0; have g1 := n1; clear n1) | fail))))
          all_goals (try go_wp2_with (first | (go_at_call 49; refine (TN.out _).mono ?_; rintro rv w1 ⟨rfl, hb⟩; have ns : w.heap.size < w1.heap.size := hb.ltK; have n0 : w1.cell? ⟨w.heap.size, 0, none⟩ = some (.int .i64 e) := hb.cellK; have n1 : w1.cell? ⟨w.heap.size, 1, none⟩ = some (.int .i64 f) := hb.cellK; (first | (have nx := Ext.trans hx hb; clear hx) | (have nx := Ext.trans (hx.alloc _) hb; clear hx) | (have nx := Ext.trans hx.drew hb; clear hx) | have nx := hb); clear hb; try clear hs; try clear g0; try clear g1; have hx := nx; clear nx; have hs := ns; clear ns; have g0 := n0; clear n0; have g1 := n1; clear n1) | (go_at_call 50; (with_reducible refine (TT.out _).mono ?_); rintro rv w1 ⟨rfl, hb⟩; have ns : w.heap.size < w1.heap.size := hb.ltK; have n0 : w1.cell? ⟨w.heap.size, 0, none⟩ = some (.int .i64 e) := hb.cellK; have n1 : w1.cell? ⟨w.heap.size, 1, none⟩ = some (.int .i64 f) := hb.cellK; (first | (have nx := Ext.trans hx hb; clear hx) | (have nx := Ext.trans (hx.alloc _) hb; clear hx) | (have nx := Ext.trans hx.drew hb; clear hx) | have nx := hb); clear hb; try clear hs; try clear g0; try clear g1; have hx := nx; clear nx; have hs := ns; clear ns; have g0 := n0; clear n0; have g1 := n1; clear n1) | (go_at_call 50; (with_reducible refine (TL.out _).mono ?_); rintro rv w1 ⟨rfl, hb⟩; have ns : w.heap.size < w1.heap.size := hb.ltK; have n0 : w1.cell? ⟨w.heap.size, 0, none⟩ = some (.int .i64 e) := hb.cellK; have n1 : w1.cell? ⟨w.heap.size, 1, none⟩ = some (.int .i64 f) := hb.cellK; (first | (have nx := Ext.trans hx hb; clear hx) | (have nx := Ext.trans (hx.alloc _) hb; clear hx) | (have nx := Ext.trans hx.drew hb; clear hx) | have nx := hb); clear hb; try clear hs; try clear g0; try clear g1; have hx := nx; clear nx; have hs := ns; clear ns; have g0 := n0; clear n0; have g1 := n1; clear n1) | fail))
          all_goals (try (go_region_held3 (fun w' => w'.cell? ⟨w.heap.size, 0, none⟩ = some (.int .i64 e) ∧ w'.cell? ⟨w.heap.size, 1, none⟩ = some (.int .i64 f) ∧ w.heap.size < w'.heap.size) ((refine ⟨?_, ?_, ?_⟩ <;> first | with_reducible assumption | ((rw [cell_setRow_far _ _ _ _ _ (by omega)]); with_reducible assumption) | ((rw [setRow_size]); with_reducible assumption) | ((repeat rw [World.cell?_setCell_far _ _ _ _ (by simp)]); with_reducible assumption) | (simp; done) | (simp [World.setCell]; first | done | omega) | (simp [go_sem, World.cell?_alloc_past, World.cell?_setCell_far, *]; done))) ((first | (go_at_call 50; (with_reducible refine (TT.out _).mono ?_); rintro rv w1 ⟨rfl, hb⟩; have ns : w.heap.size < w1.heap.size := hb.ltK; have n0 : w1.cell? ⟨w.heap.size, 0, none⟩ = some (.int .i64 e) := hb.cellK; have n1 : w1.cell? ⟨w.heap.size, 1, none⟩ = some (.int .i64 f) := hb.cellK; (first | (have nx := Ext.trans hx hb; clear hx) | (have nx := Ext.trans (hx.alloc _) hb; clear hx) | (have nx := Ext.trans hx.drew hb; clear hx) | have nx := hb); clear hb; try clear hs; try clear g0; try clear g1; have hx := nx; clear nx; have hs := ns; clear ns; have g0 := n0; clear n0; have g1 := n1; clear n1) | (go_at_call 50; (with_reducible refine (TL.out _).mono ?_); rintro rv w1 ⟨rfl, hb⟩; have ns : w.heap.size < w1.heap.size := hb.ltK; have n0 : w1.cell? ⟨w.heap.size, 0, none⟩ = some (.int .i64 e) := hb.cellK; have n1 : w1.cell? ⟨w.heap.size, 1, none⟩ = some (.int .i64 f) := hb.cellK; (first | (have nx := Ext.trans hx hb; clear hx) | (have nx := Ext.trans (hx.alloc _) hb; clear hx) | (have nx := Ext.trans hx.drew hb; clear hx) | have nx := hb); clear hb; try clear hs; try clear g0; try clear g1; have hx := nx; clear nx; have hs := ns; clear ns; have g0 := n0; clear n0; have g1 := n1; clear n1)))))
          all_goals (try go_wp2_with (first | (go_at_call 50; (with_reducible refine (TT.out _).mono ?_); rintro rv w1 ⟨rfl, hb⟩; have ns : w.heap.size < w1.heap.size := hb.ltK; have n0 : w1.cell? ⟨w.heap.size, 0, none⟩ = some (.int .i64 e) := hb.cellK; have n1 : w1.cell? ⟨w.heap.size, 1, none⟩ = some (.int .i64 f) := hb.cellK; (first | (have nx := Ext.trans hx hb; clear hx) | (have nx := Ext.trans (hx.alloc _) hb; clear hx) | (have nx := Ext.trans hx.drew hb; clear hx) | have nx := hb); clear hb; try clear hs; try clear g0; try clear g1; have hx := nx; clear nx; have hs := ns; clear ns; have g0 := n0; clear n0; have g1 := n1; clear n1) | (go_at_call 50; (with_reducible refine (TL.out _).mono ?_); rintro rv w1 ⟨rfl, hb⟩; have ns : w.heap.size < w1.heap.size := hb.ltK; have n0 : w1.cell? ⟨w.heap.size, 0, none⟩ = some (.int .i64 e) := hb.cellK; have n1 : w1.cell? ⟨w.heap.size, 1, none⟩ = some (.int .i64 f) := hb.cellK; (first | (have nx := Ext.trans hx hb; clear hx) | (have nx := Ext.trans (hx.alloc _) hb; clear hx) | (have nx := Ext.trans hx.drew hb; clear hx) | have nx := hb); clear hb; try clear hs; try clear g0; try clear g1; have hx := nx; clear nx; have hs := ns; clear ns; have g0 := n0; clear n0; have g1 := n1; clear n1) | fail))
          all_goals go_ret3
          all_goals exact ⟨by (rw [← HX.out]; rfl), Ext.auK⟩
      · have hd : duV 0 low = low := if_neg (by omega)
        have HX1 := HX0.out low hd
        rw [if_neg (by omega)] at HX1
        have HX := Lib.hid HX1
        have ho2 : low % 2 = 0 := by omega
        rw [ho2] at tm
        clear HX1 HX0 hd
        have hl : (low == L * 10) = false := by simp; omega
        go_wp2_with (first | (go_at_call 49; refine (TN.out _).mono ?_; rintro rv w1 ⟨rfl, hb⟩; have ns : w.heap.size < w1.heap.size := hb.ltK; have n0 : w1.cell? ⟨w.heap.size, 0, none⟩ = some (.int .i64 e) := hb.cellK; have n1 : w1.cell? ⟨w.heap.size, 1, none⟩ = some (.int .i64 f) := hb.cellK; (first | (have nx := Ext.trans hx hb; clear hx) | (have nx := Ext.trans (hx.alloc _) hb; clear hx) | (have nx := Ext.trans hx.drew hb; clear hx) | have nx := hb); clear hb; try clear hs; try clear g0; try clear g1; have hx := nx; clear nx; have hs := ns; clear ns; have g0 := n0; clear n0; have g1 := n1; clear n1) | (go_at_call 50; (with_reducible refine (TT.out _).mono ?_); rintro rv w1 ⟨rfl, hb⟩; have ns : w.heap.size < w1.heap.size := hb.ltK; have n0 : w1.cell? ⟨w.heap.size, 0, none⟩ = some (.int .i64 e) := hb.cellK; have n1 : w1.cell? ⟨w.heap.size, 1, none⟩ = some (.int .i64 f) := hb.cellK; (first | (have nx := Ext.trans hx hb; clear hx) | (have nx := Ext.trans (hx.alloc _) hb; clear hx) | (have nx := Ext.trans hx.drew hb; clear hx) | have nx := hb); clear hb; try clear hs; try clear g0; try clear g1; have hx := nx; clear nx; have hs := ns; clear ns; have g0 := n0; clear n0; have g1 := n1; clear n1) | (go_at_call 50; (with_reducible refine (TL.out _).mono ?_); rintro rv w1 ⟨rfl, hb⟩; have ns : w.heap.size < w1.heap.size := hb.ltK; have n0 : w1.cell? ⟨w.heap.size, 0, none⟩ = some (.int .i64 e) := hb.cellK; have n1 : w1.cell? ⟨w.heap.size, 1, none⟩ = some (.int .i64 f) := hb.cellK; (first | (have nx := Ext.trans hx hb; clear hx) | (have nx := Ext.trans (hx.alloc _) hb; clear hx) | (have nx := Ext.trans hx.drew hb; clear hx) | have nx := hb); clear hb; try clear hs; try clear g0; try clear g1; have hx := nx; clear nx; have hs := ns; clear ns; have g0 := n0; clear n0; have g1 := n1; clear n1) | fail)
        all_goals (try (go_region_held3 (fun w' => w'.cell? ⟨w.heap.size, 0, none⟩ = some (.int .i64 e) ∧ w'.cell? ⟨w.heap.size, 1, none⟩ = some (.int .i64 f) ∧ w.heap.size < w'.heap.size) ((refine ⟨?_, ?_, ?_⟩ <;> first | with_reducible assumption | ((rw [cell_setRow_far _ _ _ _ _ (by omega)]); with_reducible assumption) | ((rw [setRow_size]); with_reducible assumption) | ((repeat rw [World.cell?_setCell_far _ _ _ _ (by simp)]); with_reducible assumption) | (simp; done) | (simp [World.setCell]; first | done | omega) | (simp [go_sem, World.cell?_alloc_past, World.cell?_setCell_far, *]; done))) ((first | (go_at_call 49; refine (TN.out _).mono ?_; rintro rv w1 ⟨rfl, hb⟩; have ns : w.heap.size < w1.heap.size := hb.ltK; have n0 : w1.cell? ⟨w.heap.size, 0, none⟩ = some (.int .i64 e) := hb.cellK; have n1 : w1.cell? ⟨w.heap.size, 1, none⟩ = some (.int .i64 f) := hb.cellK; (first | (have nx := Ext.trans hx hb; clear hx) | (have nx := Ext.trans (hx.alloc _) hb; clear hx) | (have nx := Ext.trans hx.drew hb; clear hx) | have nx := hb); clear hb; try clear hs; try clear g0; try clear g1; have hx := nx; clear nx; have hs := ns; clear ns; have g0 := n0; clear n0; have g1 := n1; clear n1) | fail))))
        all_goals (try go_wp2_with (first | (go_at_call 49; refine (TN.out _).mono ?_; rintro rv w1 ⟨rfl, hb⟩; have ns : w.heap.size < w1.heap.size := hb.ltK; have n0 : w1.cell? ⟨w.heap.size, 0, none⟩ = some (.int .i64 e) := hb.cellK; have n1 : w1.cell? ⟨w.heap.size, 1, none⟩ = some (.int .i64 f) := hb.cellK; (first | (have nx := Ext.trans hx hb; clear hx) | (have nx := Ext.trans (hx.alloc _) hb; clear hx) | (have nx := Ext.trans hx.drew hb; clear hx) | have nx := hb); clear hb; try clear hs; try clear g0; try clear g1; have hx := nx; clear nx; have hs := ns; clear ns; have g0 := n0; clear n0; have g1 := n1; clear n1) | (go_at_call 50; (with_reducible refine (TT.out _).mono ?_); rintro rv w1 ⟨rfl, hb⟩; have ns : w.heap.size < w1.heap.size := hb.ltK; have n0 : w1.cell? ⟨w.heap.size, 0, none⟩ = some (.int .i64 e) := hb.cellK; have n1 : w1.cell? ⟨w.heap.size, 1, none⟩ = some (.int .i64 f) := hb.cellK; (first | (have nx := Ext.trans hx hb; clear hx) | (have nx := Ext.trans (hx.alloc _) hb; clear hx) | (have nx := Ext.trans hx.drew hb; clear hx) | have nx := hb); clear hb; try clear hs; try clear g0; try clear g1; have hx := nx; clear nx; have hs := ns; clear ns; have g0 := n0; clear n0; have g1 := n1; clear n1) | (go_at_call 50; (with_reducible refine (TL.out _).mono ?_); rintro rv w1 ⟨rfl, hb⟩; have ns : w.heap.size < w1.heap.size := hb.ltK; have n0 : w1.cell? ⟨w.heap.size, 0, none⟩ = some (.int .i64 e) := hb.cellK; have n1 : w1.cell? ⟨w.heap.size, 1, none⟩ = some (.int .i64 f) := hb.cellK; (first | (have nx := Ext.trans hx hb; clear hx) | (have nx := Ext.trans (hx.alloc _) hb; clear hx) | (have nx := Ext.trans hx.drew hb; clear hx) | have nx := hb); clear hb; try clear hs; try clear g0; try clear g1; have hx := nx; clear nx; have hs := ns; clear ns; have g0 := n0; clear n0; have g1 := n1; clear n1) | fail))
        all_goals (try (go_region_held3 (fun w' => w'.cell? ⟨w.heap.size, 0, none⟩ = some (.int .i64 e) ∧ w'.cell? ⟨w.heap.size, 1, none⟩ = some (.int .i64 f) ∧ w.heap.size < w'.heap.size) ((refine ⟨?_, ?_, ?_⟩ <;> first | with_reducible assumption | ((rw [cell_setRow_far _ _ _ _ _ (by omega)]); with_reducible assumption) | ((rw [setRow_size]); with_reducible assumption) | ((repeat rw [World.cell?_setCell_far _ _ _ _ (by simp)]); with_reducible assumption) | (simp; done) | (simp [World.setCell]; first | done | omega) | (simp [go_sem, World.cell?_alloc_past, World.cell?_setCell_far, *]; done))) ((first | (go_at_call 50; (with_reducible refine (TT.out _).mono ?_); rintro rv w1 ⟨rfl, hb⟩; have ns : w.heap.size < w1.heap.size := hb.ltK; have n0 : w1.cell? ⟨w.heap.size, 0, none⟩ = some (.int .i64 e) := hb.cellK; have n1 : w1.cell? ⟨w.heap.size, 1, none⟩ = some (.int .i64 f) := hb.cellK; (first | (have nx := Ext.trans hx hb; clear hx) | (have nx := Ext.trans (hx.alloc _) hb; clear hx) | (have nx := Ext.trans hx.drew hb; clear hx) | have nx := hb); clear hb; try clear hs; try clear g0; try clear g1; have hx := nx; clear nx; have hs := ns; clear ns; have g0 := n0; clear n0; have g1 := n1; clear n1) | (go_at_call 50; (with_reducible refine (TL.out _).mono ?_); rintro rv w1 ⟨rfl, hb⟩; have ns : w.heap.size < w1.heap.size := hb.ltK; have n0 : w1.cell? ⟨w.heap.size, 0, none⟩ = some (.int .i64 e) := hb.cellK; have n1 : w1.cell? ⟨w.heap.size, 1, none⟩ = some (.int .i64 f) := hb.cellK; (first | (have nx := Ext.trans hx hb; clear hx) | (have nx := Ext.trans (hx.alloc _) hb; clear hx) | (have nx := Ext.trans hx.drew hb; clear hx) | have nx := hb); clear hb; try clear hs; try clear g0; try clear g1; have hx := nx; clear nx; have hs := ns; clear ns; have g0 := n0; clear n0; have g1 := n1; clear n1)))))
        all_goals (try go_wp2_with (first | (go_at_call 50; (with_reducible refine (TT.out _).mono ?_); rintro rv w1 ⟨rfl, hb⟩; have ns : w.heap.size < w1.heap.size := hb.ltK; have n0 : w1.cell? ⟨w.heap.size, 0, none⟩ = some (.int .i64 e) := hb.cellK; have n1 : w1.cell? ⟨w.heap.size, 1, none⟩ = some (.int .i64 f) := hb.cellK; (first | (have nx := Ext.trans hx hb; clear hx) | (have nx := Ext.trans (hx.alloc _) hb; clear hx) | (have nx := Ext.trans hx.drew hb; clear hx) | have nx := hb); clear hb; try clear hs; try clear g0; try clear g1; have hx := nx; clear nx; have hs := ns; clear ns; have g0 := n0; clear n0; have g1 := n1; clear n1) | (go_at_call 50; (with_reducible refine (TL.out _).mono ?_); rintro rv w1 ⟨rfl, hb⟩; have ns : w.heap.size < w1.heap.size := hb.ltK; have n0 : w1.cell? ⟨w.heap.size, 0, none⟩ = some (.int .i64 e) := hb.cellK; have n1 : w1.cell? ⟨w.heap.size, 1, none⟩ = some (.int .i64 f) := hb.cellK; (first | (have nx := Ext.trans hx hb; clear hx) | (have nx := Ext.trans (hx.alloc _) hb; clear hx) | (have nx := Ext.trans hx.drew hb; clear hx) | have nx := hb); clear hb; try clear hs; try clear g0; try clear g1; have hx := nx; clear nx; have hs := ns; clear ns; have g0 := n0; clear n0; have g1 := n1; clear n1) | fail))
        all_goals go_ret3
        all_goals exact ⟨by (rw [← HX.out]; rfl), Ext.auK⟩
    · have hd : duV c low = low + 1 := if_pos (by omega)
      have HX1 := HX0.out (low + 1) hd
      by_cases hl : low + 1 = L * 10
      · rw [if_pos hl] at HX1
        have HX := Lib.hid HX1
        have hl2 : (low + 1 == L * 10) = true := by simpa using hl
        clear HX1 HX0 hd
        go_wp2_with (first | (go_at_call 49; refine (TN.out _).mono ?_; rintro rv w1 ⟨rfl, hb⟩; have ns : w.heap.size < w1.heap.size := hb.ltK; have n0 : w1.cell? ⟨w.heap.size, 0, none⟩ = some (.int .i64 e) := hb.cellK; have n1 : w1.cell? ⟨w.heap.size, 1, none⟩ = some (.int .i64 f) := hb.cellK; (first | (have nx := Ext.trans hx hb; clear hx) | (have nx := Ext.trans (hx.alloc _) hb; clear hx) | (have nx := Ext.trans hx.drew hb; clear hx) | have nx := hb); clear hb; try clear hs; try clear g0; try clear g1; have hx := nx; clear nx; have hs := ns; clear ns; have g0 := n0; clear n0; have g1 := n1; clear n1) | (go_at_call 50; (with_reducible refine (TT.out _).mono ?_); rintro rv w1 ⟨rfl, hb⟩; have ns : w.heap.size < w1.heap.size := hb.ltK; have n0 : w1.cell? ⟨w.heap.size, 0, none⟩ = some (.int .i64 e) := hb.cellK; have n1 : w1.cell? ⟨w.heap.size, 1, none⟩ = some (.int .i64 f) := hb.cellK; (first | (have nx := Ext.trans hx hb; clear hx) | (have nx := Ext.trans (hx.alloc _) hb; clear hx) | (have nx := Ext.trans hx.drew hb; clear hx) | have nx := hb); clear hb; try clear hs; try clear g0; try clear g1; have hx := nx; clear nx; have hs := ns; clear ns; have g0 := n0; clear n0; have g1 := n1; clear n1) | (go_at_call 50; (with_reducible refine (TL.out _).mono ?_); rintro rv w1 ⟨rfl, hb⟩; have ns : w.heap.size < w1.heap.size := hb.ltK; have n0 : w1.cell? ⟨w.heap.size, 0, none⟩ = some (.int .i64 e) := hb.cellK; have n1 : w1.cell? ⟨w.heap.size, 1, none⟩ = some (.int .i64 f) := hb.cellK; (first | (have nx := Ext.trans hx hb; clear hx) | (have nx := Ext.trans (hx.alloc _) hb; clear hx) | (have nx := Ext.trans hx.drew hb; clear hx) | have nx := hb); clear hb; try clear hs; try clear g0; try clear g1; have hx := nx; clear nx; have hs := ns; clear ns; have g0 := n0; clear n0; have g1 := n1; clear n1) | fail)
        all_goals (try (go_region_held3 (fun w' => w'.cell? ⟨w.heap.size, 0, none⟩ = some (.int .i64 e) ∧ w'.cell? ⟨w.heap.size, 1, none⟩ = some (.int .i64 f) ∧ w.heap.size < w'.heap.size) ((refine ⟨?_, ?_, ?_⟩ <;> first | with_reducible assumption | ((rw [cell_setRow_far _ _ _ _ _ (by omega)]); with_reducible assumption) | ((rw [setRow_size]); with_reducible assumption) | ((repeat rw [World.cell?_setCell_far _ _ _ _ (by simp)]); with_reducible assumption) | (simp; done) | (simp [World.setCell]; first | done | omega) | (simp [go_sem, World.cell?_alloc_past, World.cell?_setCell_far, *]; done))) ((first | (go_at_call 49; refine (TN.out _).mono ?_; rintro rv w1 ⟨rfl, hb⟩; have ns : w.heap.size < w1.heap.size := hb.ltK; have n0 : w1.cell? ⟨w.heap.size, 0, none⟩ = some (.int .i64 e) := hb.cellK; have n1 : w1.cell? ⟨w.heap.size, 1, none⟩ = some (.int .i64 f) := hb.cellK; (first | (have nx := Ext.trans hx hb; clear hx) | (have nx := Ext.trans (hx.alloc _) hb; clear hx) | (have nx := Ext.trans hx.drew hb; clear hx) | have nx := hb); clear hb; try clear hs; try clear g0; try clear g1; have hx := nx; clear nx; have hs := ns; clear ns; have g0 := n0; clear n0; have g1 := n1; clear n1) | fail))))
        all_goals (try go_wp2_with (first | (go_at_call 49; refine (TN.out _).mono ?_; rintro rv w1 ⟨rfl, hb⟩; have ns : w.heap.size < w1.heap.size := hb.ltK; have n0 : w1.cell? ⟨w.heap.size, 0, none⟩ = some (.int .i64 e) := hb.cellK; have n1 : w1.cell? ⟨w.heap.size, 1, none⟩ = some (.int .i64 f) := hb.cellK; (first | (have nx := Ext.trans hx hb; clear hx) | (have nx := Ext.trans (hx.alloc _) hb; clear hx) | (have nx := Ext.trans hx.drew hb; clear hx) | have nx := hb); clear hb; try clear hs; try clear g0; try clear g1; have hx := nx; clear nx; have hs := ns; clear ns; have g0 := n0; clear n0; have g1 := n1; clear n1) | (go_at_call 50; (with_reducible refine (TT.out _).mono ?_); rintro rv w1 ⟨rfl, hb⟩; have ns : w.heap.size < w1.heap.size := hb.ltK; have n0 : w1.cell? ⟨w.heap.size, 0, none⟩ = some (.int .i64 e) := hb.cellK; have n1 : w1.cell? ⟨w.heap.size, 1, none⟩ = some (.int .i64 f) := hb.cellK; (first | (have nx := Ext.trans hx hb; clear hx) | (have nx := Ext.trans (hx.alloc _) hb; clear hx) | (have nx := Ext.trans hx.drew hb; clear hx) | have nx := hb); clear hb; try clear hs; try clear g0; try clear g1; have hx := nx; clear nx; have hs := ns; clear ns; have g0 := n0; clear n0; have g1 := n1; clear n1) | (go_at_call 50; (with_reducible refine (TL.out _).mono ?_); rintro rv w1 ⟨rfl, hb⟩; have ns : w.heap.size < w1.heap.size := hb.ltK; have n0 : w1.cell? ⟨w.heap.size, 0, none⟩ = some (.int .i64 e) := hb.cellK; have n1 : w1.cell? ⟨w.heap.size, 1, none⟩ = some (.int .i64 f) := hb.cellK; (first | (have nx := Ext.trans hx hb; clear hx) | (have nx := Ext.trans (hx.alloc _) hb; clear hx) | (have nx := Ext.trans hx.drew hb; clear hx) | have nx := hb); clear hb; try clear hs; try clear g0; try clear g1; have hx := nx; clear nx; have hs := ns; clear ns; have g0 := n0; clear n0; have g1 := n1; clear n1) | fail))
        all_goals (try (go_region_held3 (fun w' => w'.cell? ⟨w.heap.size, 0, none⟩ = some (.int .i64 e) ∧ w'.cell? ⟨w.heap.size, 1, none⟩ = some (.int .i64 f) ∧ w.heap.size < w'.heap.size) ((refine ⟨?_, ?_, ?_⟩ <;> first | with_reducible assumption | ((rw [cell_setRow_far _ _ _ _ _ (by omega)]); with_reducible assumption) | ((rw [setRow_size]); with_reducible assumption) | ((repeat rw [World.cell?_setCell_far _ _ _ _ (by simp)]); with_reducible assumption) | (simp; done) | (simp [World.setCell]; first | done | omega) | (simp [go_sem, World.cell?_alloc_past, World.cell?_setCell_far, *]; done))) ((first | (go_at_call 50; (with_reducible refine (TT.out _).mono ?_); rintro rv w1 ⟨rfl, hb⟩; have ns : w.heap.size < w1.heap.size := hb.ltK; have n0 : w1.cell? ⟨w.heap.size, 0, none⟩ = some (.int .i64 e) := hb.cellK; have n1 : w1.cell? ⟨w.heap.size, 1, none⟩ = some (.int .i64 f) := hb.cellK; (first | (have nx := Ext.trans hx hb; clear hx) | (have nx := Ext.trans (hx.alloc _) hb; clear hx) | (have nx := Ext.trans hx.drew hb; clear hx) | have nx := hb); clear hb; try clear hs; try clear g0; try clear g1; have hx := nx; clear nx; have hs := ns; clear ns; have g0 := n0; clear n0; have g1 := n1; clear n1) | (go_at_call 50; (with_reducible refine (TL.out _).mono ?_); rintro rv w1 ⟨rfl, hb⟩; have ns : w.heap.size < w1.heap.size := hb.ltK; have n0 : w1.cell? ⟨w.heap.size, 0, none⟩ = some (.int .i64 e) := hb.cellK; have n1 : w1.cell? ⟨w.heap.size, 1, none⟩ = some (.int .i64 f) := hb.cellK; (first | (have nx := Ext.trans hx hb; clear hx) | (have nx := Ext.trans (hx.alloc _) hb; clear hx) | (have nx := Ext.trans hx.drew hb; clear hx) | have nx := hb); clear hb; try clear hs; try clear g0; try clear g1; have hx := nx; clear nx; have hs := ns; clear ns; have g0 := n0; clear n0; have g1 := n1; clear n1)))))
        all_goals (try go_wp2_with (first | (go_at_call 50; (with_reducible refine (TT.out _).mono ?_); rintro rv w1 ⟨rfl, hb⟩; have ns : w.heap.size < w1.heap.size := hb.ltK; have n0 : w1.cell? ⟨w.heap.size, 0, none⟩ = some (.int .i64 e) := hb.cellK; have n1 : w1.cell? ⟨w.heap.size, 1, none⟩ = some (.int .i64 f) := hb.cellK; (first | (have nx := Ext.trans hx hb; clear hx) | (have nx := Ext.trans (hx.alloc _) hb; clear hx) | (have nx := Ext.trans hx.drew hb; clear hx) | have nx := hb); clear hb; try clear hs; try clear g0; try clear g1; have hx := nx; clear nx; have hs := ns; clear ns; have g0 := n0; clear n0; have g1 := n1; clear n1) | (go_at_call 50; (with_reducible refine (TL.out _).mono ?_); rintro rv w1 ⟨rfl, hb⟩; have ns : w.heap.size < w1.heap.size := hb.ltK; have n0 : w1.cell? ⟨w.heap.size, 0, none⟩ = some (.int .i64 e) := hb.cellK; have n1 : w1.cell? ⟨w.heap.size, 1, none⟩ = some (.int .i64 f) := hb.cellK; (first | (have nx := Ext.trans hx hb; clear hx) | (have nx := Ext.trans (hx.alloc _) hb; clear hx) | (have nx := Ext.trans hx.drew hb; clear hx) | have nx := hb); clear hb; try clear hs; try clear g0; try clear g1; have hx := nx; clear nx; have hs := ns; clear ns; have g0 := n0; clear n0; have g1 := n1; clear n1) | fail))
        all_goals go_ret3
        all_goals exact ⟨by (rw [← HX.out]; rfl), Ext.auK⟩
      · rw [if_neg hl] at HX1
        have HX := Lib.hid HX1
        have hl2 : (low + 1 == L * 10) = false := by simpa using hl
        clear HX1 HX0 hd
        go_wp2_with (first | (go_at_call 49; refine (TN.out _).mono ?_; rintro rv w1 ⟨rfl, hb⟩; have ns : w.heap.size < w1.heap.size := hb.ltK; have n0 : w1.cell? ⟨w.heap.size, 0, none⟩ = some (.int .i64 e) := hb.cellK; have n1 : w1.cell? ⟨w.heap.size, 1, none⟩ = some (.int .i64 f) := hb.cellK; (first | (have nx := Ext.trans hx hb; clear hx) | (have nx := Ext.trans (hx.alloc _) hb; clear hx) | (have nx := Ext.trans hx.drew hb; clear hx) | have nx := hb); clear hb; try clear hs; try clear g0; try clear g1; have hx := nx; clear nx; have hs := ns; clear ns; have g0 := n0; clear n0; have g1 := n1; clear n1) | (go_at_call 50; (with_reducible refine (TT.out _).mono ?_); rintro rv w1 ⟨rfl, hb⟩; have ns : w.heap.size < w1.heap.size := hb.ltK; have n0 : w1.cell? ⟨w.heap.size, 0, none⟩ = some (.int .i64 e) := hb.cellK; have n1 : w1.cell? ⟨w.heap.size, 1, none⟩ = some (.int .i64 f) := hb.cellK; (first | (have nx := Ext.trans hx hb; clear hx) | (have nx := Ext.trans (hx.alloc _) hb; clear hx) | (have nx := Ext.trans hx.drew hb; clear hx) | have nx := hb); clear hb; try clear hs; try clear g0; try clear g1; have hx := nx; clear nx; have hs := ns; clear ns; have g0 := n0; clear n0; have g1 := n1; clear n1) | (go_at_call 50; (with_reducible refine (TL.out _).mono ?_); rintro rv w1 ⟨rfl, hb⟩; have ns : w.heap.size < w1.heap.size := hb.ltK; have n0 : w1.cell? ⟨w.heap.size, 0, none⟩ = some (.int .i64 e) := hb.cellK; have n1 : w1.cell? ⟨w.heap.size, 1, none⟩ = some (.int .i64 f) := hb.cellK; (first | (have nx := Ext.trans hx hb; clear hx) | (have nx := Ext.trans (hx.alloc _) hb; clear hx) | (have nx := Ext.trans hx.drew hb; clear hx) | have nx := hb); clear hb; try clear hs; try clear g0; try clear g1; have hx := nx; clear nx; have hs := ns; clear ns; have g0 := n0; clear n0; have g1 := n1; clear n1) | fail)
        all_goals (try (go_region_held3 (fun w' => w'.cell? ⟨w.heap.size, 0, none⟩ = some (.int .i64 e) ∧ w'.cell? ⟨w.heap.size, 1, none⟩ = some (.int .i64 f) ∧ w.heap.size < w'.heap.size) ((refine ⟨?_, ?_, ?_⟩ <;> first | with_reducible assumption | ((rw [cell_setRow_far _ _ _ _ _ (by omega)]); with_reducible assumption) | ((rw [setRow_size]); with_reducible assumption) | ((repeat rw [World.cell?_setCell_far _ _ _ _ (by simp)]); with_reducible assumption) | (simp; done) | (simp [World.setCell]; first | done | omega) | (simp [go_sem, World.cell?_alloc_past, World.cell?_setCell_far, *]; done))) ((first | (go_at_call 49; refine (TN.out _).mono ?_; rintro rv w1 ⟨rfl, hb⟩; have ns : w.heap.size < w1.heap.size := hb.ltK; have n0 : w1.cell? ⟨w.heap.size, 0, none⟩ = some (.int .i64 e) := hb.cellK; have n1 : w1.cell? ⟨w.heap.size, 1, none⟩ = some (.int .i64 f) := hb.cellK; (first | (have nx := Ext.trans hx hb; clear hx) | (have nx := Ext.trans (hx.alloc _) hb; clear hx) | (have nx := Ext.trans hx.drew hb; clear hx) | have nx := hb); clear hb; try clear hs; try clear g0; try clear g1; have hx := nx; clear nx; have hs := ns; clear ns; have g0 := n0; clear n0; have g1 := n1; clear n1) | fail))))
        all_goals (try go_wp2_with (first | (go_at_call 49; refine (TN.out _).mono ?_; rintro rv w1 ⟨rfl, hb⟩; have ns : w.heap.size < w1.heap.size := hb.ltK; have n0 : w1.cell? ⟨w.heap.size, 0, none⟩ = some (.int .i64 e) := hb.cellK; have n1 : w1.cell? ⟨w.heap.size, 1, none⟩ = some (.int .i64 f) := hb.cellK; (first | (have nx := Ext.trans hx hb; clear hx) | (have nx := Ext.trans (hx.alloc _) hb; clear hx) | (have nx := Ext.trans hx.drew hb; clear hx) | have nx := hb); clear hb; try clear hs; try clear g0; try clear g1; have hx := nx; clear nx; have hs := ns; clear ns; have g0 := n0; clear n0; have g1 := n1; clear n1) | (go_at_call 50; (with_reducible refine (TT.out _).mono ?_); rintro rv w1 ⟨rfl, hb⟩; have ns : w.heap.size < w1.heap.size := hb.ltK; have n0 : w1.cell? ⟨w.heap.size, 0, none⟩ = some (.int .i64 e) := hb.cellK; have n1 : w1.cell? ⟨w.heap.size, 1, none⟩ = some (.int .i64 f) := hb.cellK; (first | (have nx := Ext.trans hx hb; clear hx) | (have nx := Ext.trans (hx.alloc _) hb; clear hx) | (have nx := Ext.trans hx.drew hb; clear hx) | have nx := hb); clear hb; try clear hs; try clear g0; try clear g1; have hx := nx; clear nx; have hs := ns; clear ns; have g0 := n0; clear n0; have g1 := n1; clear n1) | (go_at_call 50; (with_reducible refine (TL.out _).mono ?_); rintro rv w1 ⟨rfl, hb⟩; have ns : w.heap.size < w1.heap.size := hb.ltK; have n0 : w1.cell? ⟨w.heap.size, 0, none⟩ = some (.int .i64 e) := hb.cellK; have n1 : w1.cell? ⟨w.heap.size, 1, none⟩ = some (.int .i64 f) := hb.cellK; (first | (have nx := Ext.trans hx hb; clear hx) | (have nx := Ext.trans (hx.alloc _) hb; clear hx) | (have nx := Ext.trans hx.drew hb; clear hx) | have nx := hb); clear hb; try clear hs; try clear g0; try clear g1; have hx := nx; clear nx; have hs := ns; clear ns; have g0 := n0; clear n0; have g1 := n1; clear n1) | fail))
        all_goals (try (go_region_held3 (fun w' => w'.cell? ⟨w.heap.size, 0, none⟩ = some (.int .i64 e) ∧ w'.cell? ⟨w.heap.size, 1, none⟩ = some (.int .i64 f) ∧ w.heap.size < w'.heap.size) ((refine ⟨?_, ?_, ?_⟩ <;> first | with_reducible assumption | ((rw [cell_setRow_far _ _ _ _ _ (by omega)]); with_reducible assumption) | ((rw [setRow_size]); with_reducible assumption) | ((repeat rw [World.cell?_setCell_far _ _ _ _ (by simp)]); with_reducible assumption) | (simp; done) | (simp [World.setCell]; first | done | omega) | (simp [go_sem, World.cell?_alloc_past, World.cell?_setCell_far, *]; done))) ((first | (go_at_call 50; (with_reducible refine (TT.out _).mono ?_); rintro rv w1 ⟨rfl, hb⟩; have ns : w.heap.size < w1.heap.size := hb.ltK; have n0 : w1.cell? ⟨w.heap.size, 0, none⟩ = some (.int .i64 e) := hb.cellK; have n1 : w1.cell? ⟨w.heap.size, 1, none⟩ = some (.int .i64 f) := hb.cellK; (first | (have nx := Ext.trans hx hb; clear hx) | (have nx := Ext.trans (hx.alloc _) hb; clear hx) | (have nx := Ext.trans hx.drew hb; clear hx) | have nx := hb); clear hb; try clear hs; try clear g0; try clear g1; have hx := nx; clear nx; have hs := ns; clear ns; have g0 := n0; clear n0; have g1 := n1; clear n1) | (go_at_call 50; (with_reducible refine (TL.out _).mono ?_); rintro rv w1 ⟨rfl, hb⟩; have ns : w.heap.size < w1.heap.size := hb.ltK; have n0 : w1.cell? ⟨w.heap.size, 0, none⟩ = some (.int .i64 e) := hb.cellK; have n1 : w1.cell? ⟨w.heap.size, 1, none⟩ = some (.int .i64 f) := hb.cellK; (first | (have nx := Ext.trans hx hb; clear hx) | (have nx := Ext.trans (hx.alloc _) hb; clear hx) | (have nx := Ext.trans hx.drew hb; clear hx) | have nx := hb); clear hb; try clear hs; try clear g0; try clear g1; have hx := nx; clear nx; have hs := ns; clear ns; have g0 := n0; clear n0; have g1 := n1; clear n1)))))
        all_goals (try go_wp2_with (first | (go_at_call 50; (with_reducible refine (TT.out _).mono ?_); rintro rv w1 ⟨rfl, hb⟩; have ns : w.heap.size < w1.heap.size := hb.ltK; have n0 : w1.cell? ⟨w.heap.size, 0, none⟩ = some (.int .i64 e) := hb.cellK; have n1 : w1.cell? ⟨w.heap.size, 1, none⟩ = some (.int .i64 f) := hb.cellK; (first | (have nx := Ext.trans hx hb; clear hx) | (have nx := Ext.trans (hx.alloc _) hb; clear hx) | (have nx := Ext.trans hx.drew hb; clear hx) | have nx := hb); clear hb; try clear hs; try clear g0; try clear g1; have hx := nx; clear nx; have hs := ns; clear ns; have g0 := n0; clear n0; have g1 := n1; clear n1) | (go_at_call 50; (with_reducible refine (TL.out _).mono ?_); rintro rv w1 ⟨rfl, hb⟩; have ns : w.heap.size < w1.heap.size := hb.ltK; have n0 : w1.cell? ⟨w.heap.size, 0, none⟩ = some (.int .i64 e) := hb.cellK; have n1 : w1.cell? ⟨w.heap.size, 1, none⟩ = some (.int .i64 f) := hb.cellK; (first | (have nx := Ext.trans hx hb; clear hx) | (have nx := Ext.trans (hx.alloc _) hb; clear hx) | (have nx := Ext.trans hx.drew hb; clear hx) | have nx := hb); clear hb; try clear hs; try clear g0; try clear g1; have hx := nx; clear nx; have hs := ns; clear ns; have g0 := n0; clear n0; have g1 := n1; clear n1) | fail))
        all_goals go_ret3
        all_goals exact ⟨by (rw [← HX.out]; rfl), Ext.auK⟩
end Go.Proofs.YtjebechmedhidaaDoor

