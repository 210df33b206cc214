/-
  Contracts of the functions that the laws reach, and the plain facts that they rest on, each under the conditions that its line names; part 32.
-/
import Derived.Test.YtjebechmedhidaaDoorKdb1
import Derived.Test.YtjebechmedhidaaDoorKdb2
import Derived.Test.YtjebechmedhidaaDoorKdb3
import Derived.Test.YtjebechmedhidaaDoorKdb4
import Derived.Test.YtjebechmedhidaaDoorKdb5
import Derived.Test.YtjebechmedhidaaDoorKdb6
import Derived.Test.YtjebechmedhidaaDoorKdb7
import Derived.Test.YtjebechmedhidaaDoorKdb8
import Derived.Test.YtjebechmedhidaaDoorKdb9
import Derived.Test.YtjebechmedhidaaDoorKdb10
import Derived.Test.YtjebechmedhidaaDoorKdb11
import Derived.Test.YtjebechmedhidaaDoorKdb12
import Derived.Test.YtjebechmedhidaaDoorKdb13
import Derived.Test.YtjebechmedhidaaDoorKdb14
import Derived.Test.YtjebechmedhidaaDoorKdb15
import Derived.Test.YtjebechmedhidaaDoorKdb16
import Derived.Test.YtjebechmedhidaaDoorKdb17
import Derived.Test.YtjebechmedhidaaDoorKdb18
import Derived.Test.YtjebechmedhidaaDoorKdb19
import Derived.Test.YtjebechmedhidaaDoorKdb20
import Derived.Test.YtjebechmedhidaaDoorKdb21
import Derived.Test.YtjebechmedhidaaDoorKdb22
import Derived.Test.YtjebechmedhidaaDoorKdb23
import Derived.Test.YtjebechmedhidaaDoorKdb24
import Derived.Test.YtjebechmedhidaaDoorKdb25
import Derived.Test.YtjebechmedhidaaDoorKdb26
import Derived.Test.YtjebechmedhidaaDoorKdb27
import Derived.Test.YtjebechmedhidaaDoorKdb28
import Derived.Test.YtjebechmedhidaaDoorKdb30
import Derived.Test.YtjebechmedhidaaDoorKdb31
import Derived.Test.YtjebechmedhidaaDoorRows
import Derived.WalkKit
import Derived.Handy
import Derived.LoopTactic
import Derived.LoopN
import Derived.Laws.OwnMore
import Derived.OwnWalk
import Derived.Deep.AppendLies
import Derived.Laws.Bits64b
import Derived.WalkSpells
import Derived.WalkLawsBesides
import Derived.StillTactics
import Derived.Laws.Pointers
import Derived.Deep.RegionHeld3
import Derived.Deep.QuietTactic
import Derived.BigQuiet
import Derived.Outline
import Derived.Lib.Hide
import Derived.RowKit3
import Derived.Carry
import Derived.IntWalk
import Derived.Laws.EntriesVeiled
namespace Go.Proofs.YtjebechmedhidaaDoor
open Go Go.RowKit
set_option linter.unusedSimpArgs false
set_option linter.unusedVariables false
set_option maxRecDepth 100000

attribute [local go_sem] ta_finite_finite ta_finite_infinite ta_finite_noNumber ta_infinite_finite ta_infinite_infinite ta_infinite_noNumber ta_noNumber_finite ta_noNumber_infinite ta_noNumber_noNumber

/-- How many places a value has behind the point. -/
def pcV (e f a : Int) : Int := max 0 (-(shE (unitsV e f a) (unV e f)))

theorem sPlacesOf_no (e f a : Int) (hg : finB e f a = false) (w : World) : Calls Tryd.prog 15 #[fmt e f, .int .i64 a] w fun rv w' => rv = .returned (.tuple #[.int .i64 0, .bool false]) ∧ Ext w w' := by
  go_enter Tryd.func15, Tryd.ntmps15
  go_wp2_with (go_at_call 29; refine (fmFinite_any e f a _).mono ?_; rintro rv w1 ⟨rfl, hb⟩; have ns : w.heap.size < w1.heap.size := hb.ltK; have n0 : w1.cell? ⟨w.heap.size, 0, none⟩ = some (.int .i64 e) := hb.cellK; have n1 : w1.cell? ⟨w.heap.size, 1, none⟩ = some (.int .i64 f) := hb.cellK; (first | (have nx := Ext.trans hx hb; clear hx) | (have nx := Ext.trans (hx.alloc _) hb; clear hx) | (have nx := Ext.trans hx.drew hb; clear hx) | have nx := hb); clear hb; try clear hs; try clear g0; try clear g1; have hx := nx; clear nx; have hs := ns; clear ns; have g0 := n0; clear n0; have g1 := n1; clear n1)
  go_ret2
  exact ⟨rfl, Ext.auK⟩

theorem iPlacesOf_no (e f a : Int) (hg : finB e f a = false) (w : World) (hT : TW w) : Calls Tryd.prog 16 #[fmt e f, .int .i64 a] w fun rv w' => rv = .returned (.tuple #[.int .i64 0, .bool false]) ∧ Ext w w' := by
  go_enter Tryd.func16, Tryd.ntmps16
  go_wp2_with (go_at_call 34; refine (finiteAt_no e f a hg _).mono ?_; rintro rv w1 ⟨rfl, hb⟩; have ns : w.heap.size < w1.heap.size := hb.ltK; have n0 : w1.cell? ⟨w.heap.size, 0, none⟩ = some (.int .i64 e) := hb.cellK; have n1 : w1.cell? ⟨w.heap.size, 1, none⟩ = some (.int .i64 f) := hb.cellK; (first | (have nx := Ext.trans hx hb; clear hx) | (have nx := Ext.trans (hx.alloc _) hb; clear hx) | (have nx := Ext.trans hx.drew hb; clear hx) | have nx := hb); clear hb; try clear hs; try clear g0; try clear g1; have hx := nx; clear nx; have hs := ns; clear ns; have g0 := n0; clear n0; have g1 := n1; clear n1)
  go_ret2
  exact ⟨rfl, Ext.auK⟩

theorem xa_bd {e f a : Int} (hf : finB e f a = true) : -24 ≤ (shE (unitsV e f a) (unV e f)) ∧ (shE (unitsV e f a) (unV e f)) ≤ 41 := by
  have hap := (fin_pat hf).1
  obtain ⟨ua1, ua2, ua3, ua4, ua5⟩ := un_small hap
  have u1 := un_bd (pat_iff.1 hap).1
  by_cases h : (unitsV e f a) = 0
  · have := ua5 h; omega
  · have := ua4 h; omega

theorem iPlacesOf_yes (e f a : Int) (hg : finB e f a = true) (w : World) (hT : TW w) : Calls Tryd.prog 16 #[fmt e f, .int .i64 a] w fun rv w' => rv = .returned (.tuple #[.int .i64 (pcV e f a), .bool true]) ∧ Ext w w' := by
  obtain ⟨x0, x1⟩ := xa_bd hg
  have FY := Lib.hid (fun w hT => finiteAt_yes e f a hg w hT)
  unfold pcV
  generalize (a / pw (e + f)) = G at *
  generalize ((odV (unitsV e f a)).natAbs : Int) = N at *
  generalize (shE (unitsV e f a) (unV e f)) = X at *
  have k1 : IntKind.i64.wrap (-X) = -X := IntWalk.i64_in _ (by omega)
  go_enter Tryd.func16, Tryd.ntmps16
  go_wp2_with (go_at_call 34; refine (FY.out _ (hT.ext Ext.auK)).mono ?_; rintro rv w1 ⟨rfl, hb⟩; have ns : w.heap.size < w1.heap.size := hb.ltK; have n0 : w1.cell? ⟨w.heap.size, 0, none⟩ = some (.int .i64 e) := hb.cellK; have n1 : w1.cell? ⟨w.heap.size, 1, none⟩ = some (.int .i64 f) := hb.cellK; (first | (have nx := Ext.trans hx hb; clear hx) | (have nx := Ext.trans (hx.alloc _) hb; clear hx) | (have nx := Ext.trans hx.drew hb; clear hx) | have nx := hb); clear hb; try clear hs; try clear g0; try clear g1; have hx := nx; clear nx; have hs := ns; clear ns; have g0 := n0; clear n0; have g1 := n1; clear n1)
  go_ret2
  exact ⟨by simp [Int.max_comm], Ext.auK⟩

theorem sPlacesOf_yes (e f a : Int) (hg : finB e f a = true) (w : World) : Calls Tryd.prog 15 #[fmt e f, .int .i64 a] w fun rv w' => rv = .returned (.tuple #[.int .i64 (pcV e f a), .bool true]) ∧ Ext w w' := by
  obtain ⟨x0, x1⟩ := xa_bd hg
  have RV := Lib.hid (fun w => rdValue_any e f a hg w)
  unfold pcV
  generalize shE (unitsV e f a) (unV e f) = X at *
  have k1 : IntKind.i64.wrap (-X) = -X := IntWalk.i64_in _ (by omega)
  have q : ∀ (x y : Int) (w : World), (Instr.field 45 (two x y) 1).run Tryd.prog w = .ok (.int .i64 y) w := fun x y w => by
    have hu := Tryd.underlying45
    simp [Instr.field, run_underlying hu]; rfl
  go_enter Tryd.func15, Tryd.ntmps15
  go_wp2_with (first | (go_at_call 29; refine (fmFinite_any e f a _).mono ?_; rintro rv w1 ⟨rfl, hb⟩; have ns : w.heap.size < w1.heap.size := hb.ltK; have n0 : w1.cell? ⟨w.heap.size, 0, none⟩ = some (.int .i64 e) := hb.cellK; have n1 : w1.cell? ⟨w.heap.size, 1, none⟩ = some (.int .i64 f) := hb.cellK; (first | (have nx := Ext.trans hx hb; clear hx) | (have nx := Ext.trans (hx.alloc _) hb; clear hx) | (have nx := Ext.trans hx.drew hb; clear hx) | have nx := hb); clear hb; try clear hs; try clear g0; try clear g1; have hx := nx; clear nx; have hs := ns; clear ns; have g0 := n0; clear n0; have g1 := n1; clear n1) | (go_at_call 38; refine (RV.out _).mono ?_; rintro rv w1 ⟨rfl, hb⟩; have ns : w.heap.size < w1.heap.size := hb.ltK; have n0 : w1.cell? ⟨w.heap.size, 0, none⟩ = some (.int .i64 e) := hb.cellK; have n1 : w1.cell? ⟨w.heap.size, 1, none⟩ = some (.int .i64 f) := hb.cellK; (first | (have nx := Ext.trans hx hb; clear hx) | (have nx := Ext.trans (hx.alloc _) hb; clear hx) | (have nx := Ext.trans hx.drew hb; clear hx) | have nx := hb); clear hb; try clear hs; try clear g0; try clear g1; have hx := nx; clear nx; have hs := ns; clear ns; have g0 := n0; clear n0; have g1 := n1; clear n1) | (go_at_call 37; refine (l1Most_max _ _ _).mono ?_; rintro rv w1 ⟨rfl, rfl⟩))
  try (go_region_held3 (fun w' => w'.cell? ⟨w.heap.size, 0, none⟩ = some (.int .i64 e) ∧ w'.cell? ⟨w.heap.size, 1, none⟩ = some (.int .i64 f) ∧ w.heap.size < w'.heap.size) ((refine ⟨?_, ?_, ?_⟩ <;> first | with_reducible assumption | ((rw [cell_setRow_far _ _ _ _ _ (by omega)]); with_reducible assumption) | ((rw [setRow_size]); with_reducible assumption) | ((repeat rw [World.cell?_setCell_far _ _ _ _ (by simp)]); with_reducible assumption) | (simp; done) | (simp [World.setCell]; first | done | omega) | (simp [go_sem, World.cell?_alloc_past, World.cell?_setCell_far, *]; done))) ((first | (go_at_call 38; refine (RV.out _).mono ?_; rintro rv w1 ⟨rfl, hb⟩; have ns : w.heap.size < w1.heap.size := hb.ltK; have n0 : w1.cell? ⟨w.heap.size, 0, none⟩ = some (.int .i64 e) := hb.cellK; have n1 : w1.cell? ⟨w.heap.size, 1, none⟩ = some (.int .i64 f) := hb.cellK; (first | (have nx := Ext.trans hx hb; clear hx) | (have nx := Ext.trans (hx.alloc _) hb; clear hx) | (have nx := Ext.trans hx.drew hb; clear hx) | have nx := hb); clear hb; try clear hs; try clear g0; try clear g1; have hx := nx; clear nx; have hs := ns; clear ns; have g0 := n0; clear n0; have g1 := n1; clear n1) | (go_at_call 37; refine (l1Most_max _ _ _).mono ?_; rintro rv w1 ⟨rfl, rfl⟩))))
  all_goals (try go_wp2_with fail)
  all_goals go_ret2
  all_goals exact ⟨rfl, Ext.auK⟩

theorem val_top {e f a : Int} (hf : finB e f a = true) : ((unitsV e f a).natAbs : Int) ≤ 65536 * pw (-unV e f) := by
  obtain ⟨hg, s0, s1, hu⟩ := fin_size hf
  have u := un_bd hg
  have m := mg_mono f (a % pw (e + f)) (grV e f + 1) (good_iff.1 hg).2.2.1 s0 (by omega)
  rw [mg_top hg] at m
  have c := pw_le (a := pw (e - 1)) 16 65536 rfl (by omega)
  have d := pw_pos (-unV e f)
  have k : pw (-unV e f) * pw (pw (e - 1)) ≤ pw (-unV e f) * 65536 := Int.mul_le_mul_of_nonneg_left c (by omega)
  omega

theorem qu_val6 {e f a : Int} (hp : patB e f a = true) : ((odV (unitsV e f a)).natAbs : Int) * pw ((shE (unitsV e f a) (unV e f)) - (unV e f - 2)) = 4 * ((unitsV e f a).natAbs : Int) := by
  have ub := units_bd e f a hp
  by_cases h0 : (unitsV e f a) = 0
  · rw [h0, od_zero]; simp
  · obtain ⟨t0, t1, t2, t3⟩ := tz_spec (unitsV e f a) h0 (by omega) (by omega)
    rw [show (shE (unitsV e f a) (unV e f)) - (unV e f - 2) = tzV (unitsV e f a) + 2 by rw [show (shE (unitsV e f a) (unV e f)) = unV e f + tzV (unitsV e f a) from if_neg h0]; omega, pw_add _ _ t0 (by omega), ← Int.mul_assoc, show pw 2 = 4 from rfl]
    have : ((odV (unitsV e f a)).natAbs : Int) * pw (tzV (unitsV e f a)) = ((unitsV e f a).natAbs : Int) := by
      have q : ((unitsV e f a)).natAbs = (odV (unitsV e f a) * pw (tzV (unitsV e f a))).natAbs := by rw [← t2]
      rw [q, Int.natAbs_mul, Int.natCast_mul]
      have := pw_pos (tzV (unitsV e f a))
      first | (congr 1; done) | (congr 1; omega)
    omega

theorem quarters_size (e f a : Int) (hf : finB e f a = true) (w : World) : Calls Tryd.prog 43 #[.agg #[.int .i64 0, .int .i64 ((odV (unitsV e f a)).natAbs : Int), .int .i64 (shE (unitsV e f a) (unV e f))], fmt e f] w fun rv w' => rv = .returned (.int .i64 (4 * ((unitsV e f a).natAbs : Int))) ∧ Ext w w' := by
  have hap := (fin_pat hf).1
  have hg := (pat_iff.1 hap).1
  have u := un_bd hg
  obtain ⟨x0, x1⟩ := xa_bd hf
  obtain ⟨ua1, ua2, ua3, ua4, ua5⟩ := un_small hap
  have ub := units_bd e f a hap
  have q := qu_val6 hap
  have hx : unV e f - 2 ≤ (shE (unitsV e f a) (unV e f)) ∧ (shE (unitsV e f a) (unV e f)) ≤ unV e f + 58 := by
    by_cases h : (unitsV e f a) = 0
    · have := ua5 h; omega
    · have := ua4 h; omega
  refine (quarters_p0 e f ((odV (unitsV e f a)).natAbs : Int) (shE (unitsV e f a) (unV e f)) hg (by omega) hx.1 hx.2 (by rw [q]; omega) w).mono ?_
  rintro rv w' ⟨rfl, hb⟩
  refine ⟨?_, hb⟩
  rw [q]
  congr 2
  rw [oq_pos (by decide) (by omega)]
  split <;> omega

/-- What CompareDecimal asks for. -/
def cpB (e f a d t : Int) : Bool := finB e f a && dcB d t

/-- How the size of a value lies to a decimal. -/
def cdV (e f a d t : Int) : Int := tcV e f ((unitsV e f a).natAbs : Int) d t

theorem cd_quarters {e f a d t : Int} (hf : finB e f a = true) (hd : dcB d t = true) : sgV (4 * ((unitsV e f a).natAbs : Int) - dqV e f d t) = cdV e f a d t :=
  dq_cmp (fin_size hf).1 hd (val_top hf)

theorem iCompareDecimal_no (e f a d t : Int) (hg : cpB e f a d t = false) (w : World) (hT : TW w) : Calls Tryd.prog 18 #[fmt e f, .int .i64 a, .int .i64 d, .int .i64 t] w fun rv w' => rv = .returned (.tuple #[.int .i64 0, .bool false]) ∧ Ext w w' := by
  cases h0 : finB e f a
  · go_enter Tryd.func18, Tryd.ntmps18
    go_wp2_with (go_at_call 34; refine (finiteAt_no e f a h0 _).mono ?_; rintro rv w1 ⟨rfl, hb⟩; have ns : w.heap.size + 1 < w1.heap.size := hb.ltK; have n0 : w1.cell? ⟨w.heap.size, 0, none⟩ = some (.int .i64 e) := hb.cellK; have n1 : w1.cell? ⟨w.heap.size, 1, none⟩ = some (.int .i64 f) := hb.cellK; have n2 : w1.cell? ⟨w.heap.size + 1, 0, none⟩ = some (.int .i64 d) := hb.cellK; have n3 : w1.cell? ⟨w.heap.size + 1, 1, none⟩ = some (.int .i64 t) := hb.cellK; (first | (have nx := Ext.trans hx hb; clear hx) | (have nx := Ext.trans (hx.alloc _) hb; clear hx) | (have nx := Ext.trans hx.drew hb; clear hx) | have nx := hb); clear hb; try clear hs; try clear g0; try clear g1; try clear g2; try clear g3; have hx := nx; clear nx; have hs := ns; clear ns; have g0 := n0; clear n0; have g1 := n1; clear n1; have g2 := n2; clear n2; have g3 := n3; clear n3)
    go_ret2
    exact ⟨rfl, Ext.auK⟩
  · have h1 : dcB d t = false := by unfold cpB at hg; rw [h0] at hg; simpa using hg
    have FY := Lib.hid (fun w hT => finiteAt_yes e f a h0 w hT)
    have DC := Lib.hid (fun w => isDecimal_any d t w)
    rw [h1] at DC
    generalize (a / pw (e + f)) = G at *
    generalize ((odV (unitsV e f a)).natAbs : Int) = N at *
    generalize (shE (unitsV e f a) (unV e f)) = X at *
    go_enter Tryd.func18, Tryd.ntmps18
    go_wp2_with (first | (go_at_call 34; refine (FY.out _ (hT.ext Ext.auK)).mono ?_; rintro rv w1 ⟨rfl, hb⟩; have ns : w.heap.size + 1 < w1.heap.size := hb.ltK; have n0 : w1.cell? ⟨w.heap.size, 0, none⟩ = some (.int .i64 e) := hb.cellK; have n1 : w1.cell? ⟨w.heap.size, 1, none⟩ = some (.int .i64 f) := hb.cellK; have n2 : w1.cell? ⟨w.heap.size + 1, 0, none⟩ = some (.int .i64 d) := hb.cellK; have n3 : w1.cell? ⟨w.heap.size + 1, 1, none⟩ = some (.int .i64 t) := hb.cellK; (first | (have nx := Ext.trans hx hb; clear hx) | (have nx := Ext.trans (hx.alloc _) hb; clear hx) | (have nx := Ext.trans hx.drew hb; clear hx) | have nx := hb); clear hb; try clear hs; try clear g0; try clear g1; try clear g2; try clear g3; have hx := nx; clear nx; have hs := ns; clear ns; have g0 := n0; clear n0; have g1 := n1; clear n1; have g2 := n2; clear n2; have g3 := n3; clear n3) | (go_at_call 41; refine (DC.out _).mono ?_; rintro rv w2 ⟨rfl, hb⟩; have ns : w1.heap.size < w2.heap.size := hb.ltK; have n0 : w2.cell? ⟨w.heap.size, 0, none⟩ = some (.int .i64 e) := hb.cellK; have n1 : w2.cell? ⟨w.heap.size, 1, none⟩ = some (.int .i64 f) := hb.cellK; have n2 : w2.cell? ⟨w.heap.size + 1, 0, none⟩ = some (.int .i64 d) := hb.cellK; have n3 : w2.cell? ⟨w.heap.size + 1, 1, none⟩ = some (.int .i64 t) := hb.cellK; have n4 : w2.cell? ⟨w1.heap.size, 0, none⟩ = some (.int .i64 G) := hb.cellK; have n5 : w2.cell? ⟨w1.heap.size, 1, none⟩ = some (.int .i64 N) := hb.cellK; have n6 : w2.cell? ⟨w1.heap.size, 2, none⟩ = some (.int .i64 X) := hb.cellK; (first | (have nx := Ext.trans hx hb; clear hx) | (have nx := Ext.trans (hx.alloc _) hb; clear hx) | (have nx := Ext.trans hx.drew hb; clear hx) | have nx := hb); clear hb; try clear hs; try clear g0; try clear g1; try clear g2; try clear g3; try clear g4; try clear g5; try clear g6; have hx := nx; clear nx; have hs := ns; clear ns; have g0 := n0; clear n0; have g1 := n1; clear n1; have g2 := n2; clear n2; have g3 := n3; clear n3; have g4 := n4; clear n4; have g5 := n5; clear n5; have g6 := n6; clear n6))
    go_ret2
    exact ⟨rfl, Ext.auK⟩

set_option maxHeartbeats 1600000 in
theorem iCompareDecimal_yes (e f a d t : Int) (hg : cpB e f a d t = true) (w : World) (hT : TW w) : Calls Tryd.prog 18 #[fmt e f, .int .i64 a, .int .i64 d, .int .i64 t] w fun rv w' => rv = .returned (.tuple #[.int .i64 (cdV e f a d t), .bool true]) ∧ Ext w w' := by
  obtain ⟨h0, h1⟩ : finB e f a = true ∧ dcB d t = true := by unfold cpB at hg; simpa using hg
  have FY := Lib.hid (fun w hT => finiteAt_yes e f a h0 w hT)
  have DC := Lib.hid (fun w => isDecimal_any d t w)
  rw [h1] at DC
  have QS := Lib.hid (fun w => quarters_size e f a h0 w)
  have QD := Lib.hid (fun w => quarters_dec e f d t (fin_size h0).1 h1 w)
  rw [← cd_quarters h0 h1]
  generalize dqV e f d t = D at *
  generalize ((unitsV e f a).natAbs : Int) = U at *
  generalize (a / pw (e + f)) = G at *
  generalize ((odV (unitsV e f a)).natAbs : Int) = N at *
  generalize (shE (unitsV e f a) (unV e f)) = X at *
  go_enter Tryd.func18, Tryd.ntmps18
  go_wp2_with (first | (go_at_call 34; refine (FY.out _ (hT.ext Ext.auK)).mono ?_; rintro rv w1 ⟨rfl, hb⟩; have ns : w.heap.size + 1 < w1.heap.size := hb.ltK; have n0 : w1.cell? ⟨w.heap.size, 0, none⟩ = some (.int .i64 e) := hb.cellK; have n1 : w1.cell? ⟨w.heap.size, 1, none⟩ = some (.int .i64 f) := hb.cellK; have n2 : w1.cell? ⟨w.heap.size + 1, 0, none⟩ = some (.int .i64 d) := hb.cellK; have n3 : w1.cell? ⟨w.heap.size + 1, 1, none⟩ = some (.int .i64 t) := hb.cellK; (first | (have nx := Ext.trans hx hb; clear hx) | (have nx := Ext.trans (hx.alloc _) hb; clear hx) | (have nx := Ext.trans hx.drew hb; clear hx) | have nx := hb); clear hb; try clear hs; try clear g0; try clear g1; try clear g2; try clear g3; have hx := nx; clear nx; have hs := ns; clear ns; have g0 := n0; clear n0; have g1 := n1; clear n1; have g2 := n2; clear n2; have g3 := n3; clear n3) | (go_at_call 41; refine (DC.out _).mono ?_; rintro rv w2 ⟨rfl, hb⟩; have ns : w1.heap.size < w2.heap.size := hb.ltK; have n0 : w2.cell? ⟨w.heap.size, 0, none⟩ = some (.int .i64 e) := hb.cellK; have n1 : w2.cell? ⟨w.heap.size, 1, none⟩ = some (.int .i64 f) := hb.cellK; have n2 : w2.cell? ⟨w.heap.size + 1, 0, none⟩ = some (.int .i64 d) := hb.cellK; have n3 : w2.cell? ⟨w.heap.size + 1, 1, none⟩ = some (.int .i64 t) := hb.cellK; have n4 : w2.cell? ⟨w1.heap.size, 0, none⟩ = some (.int .i64 G) := hb.cellK; have n5 : w2.cell? ⟨w1.heap.size, 1, none⟩ = some (.int .i64 N) := hb.cellK; have n6 : w2.cell? ⟨w1.heap.size, 2, none⟩ = some (.int .i64 X) := hb.cellK; (first | (have nx := Ext.trans hx hb; clear hx) | (have nx := Ext.trans (hx.alloc _) hb; clear hx) | (have nx := Ext.trans hx.drew hb; clear hx) | have nx := hb); clear hb; try clear hs; try clear g0; try clear g1; try clear g2; try clear g3; try clear g4; try clear g5; try clear g6; have hx := nx; clear nx; have hs := ns; clear ns; have g0 := n0; clear n0; have g1 := n1; clear n1; have g2 := n2; clear n2; have g3 := n3; clear n3; have g4 := n4; clear n4; have g5 := n5; clear n5; have g6 := n6; clear n6))
  go_region_held3 (fun w' => w'.cell? ⟨w.heap.size, 0, none⟩ = some (.int .i64 e) ∧ w'.cell? ⟨w.heap.size, 1, none⟩ = some (.int .i64 f) ∧ w'.cell? ⟨w.heap.size + 1, 0, none⟩ = some (.int .i64 d) ∧ w'.cell? ⟨w.heap.size + 1, 1, none⟩ = some (.int .i64 t) ∧ w'.cell? ⟨w2.heap.size, 0, none⟩ = some (.int .i64 0) ∧ w'.cell? ⟨w2.heap.size, 1, none⟩ = some (.int .i64 N) ∧ w'.cell? ⟨w2.heap.size, 2, none⟩ = some (.int .i64 X) ∧ w2.heap.size < w'.heap.size) ((refine ⟨?_, ?_, ?_, ?_, ?_, ?_, ?_, ?_⟩ <;> first | with_reducible assumption | ((repeat first | rw [cell_set_far _ _ _ _ _ _ (by omega)] | rw [cell_alloc_before _ _ _ _ (by omega)] | rw [cell_alloc_drew _ _ _ _ (by omega)] | rw [cell_drew]); with_reducible assumption) | ((rw [cell_setRow_far _ _ _ _ _ (by omega)]); with_reducible assumption) | ((rw [setRow_size]); with_reducible assumption) | (simp; done) | (simp [World.setCell]; first | done | omega) | (simp [go_sem, World.cell?_alloc_past, World.cell?_setCell_far, *]; done))) ((first | (go_at_call 43; refine (QS.out _).mono ?_; rintro rv w3 ⟨rfl, hb⟩; have ns : w2.heap.size < w3.heap.size := hb.ltK; have n0 : w3.cell? ⟨w.heap.size, 0, none⟩ = some (.int .i64 e) := hb.cellK; have n1 : w3.cell? ⟨w.heap.size, 1, none⟩ = some (.int .i64 f) := hb.cellK; have n2 : w3.cell? ⟨w.heap.size + 1, 0, none⟩ = some (.int .i64 d) := hb.cellK; have n3 : w3.cell? ⟨w.heap.size + 1, 1, none⟩ = some (.int .i64 t) := hb.cellK; have n4 : w3.cell? ⟨w2.heap.size, 0, none⟩ = some (.int .i64 0) := hb.cellK; have n5 : w3.cell? ⟨w2.heap.size, 1, none⟩ = some (.int .i64 N) := hb.cellK; have n6 : w3.cell? ⟨w2.heap.size, 2, none⟩ = some (.int .i64 X) := hb.cellK; (first | (have nx := Ext.trans hx hb; clear hx) | (have nx := Ext.trans (hx.alloc _) hb; clear hx) | (have nx := Ext.trans hx.drew hb; clear hx) | have nx := hb); clear hb; try clear hs; try clear g0; try clear g1; try clear g2; try clear g3; try clear g4; try clear g5; try clear g6; have hx := nx; clear nx; have hs := ns; clear ns; have g0 := n0; clear n0; have g1 := n1; clear n1; have g2 := n2; clear n2; have g3 := n3; clear n3; have g4 := n4; clear n4; have g5 := n5; clear n5; have g6 := n6; clear n6) | (go_at_call 44; refine (QD.out _).mono ?_; rintro rv w3 ⟨rfl, hb⟩; have ns : w2.heap.size < w3.heap.size := hb.ltK; have n0 : w3.cell? ⟨w.heap.size, 0, none⟩ = some (.int .i64 e) := hb.cellK; have n1 : w3.cell? ⟨w.heap.size, 1, none⟩ = some (.int .i64 f) := hb.cellK; have n2 : w3.cell? ⟨w.heap.size + 1, 0, none⟩ = some (.int .i64 d) := hb.cellK; have n3 : w3.cell? ⟨w.heap.size + 1, 1, none⟩ = some (.int .i64 t) := hb.cellK; have n4 : w3.cell? ⟨w2.heap.size, 0, none⟩ = some (.int .i64 0) := hb.cellK; have n5 : w3.cell? ⟨w2.heap.size, 1, none⟩ = some (.int .i64 N) := hb.cellK; have n6 : w3.cell? ⟨w2.heap.size, 2, none⟩ = some (.int .i64 X) := hb.cellK; (first | (have nx := Ext.trans hx hb; clear hx) | (have nx := Ext.trans (hx.alloc _) hb; clear hx) | (have nx := Ext.trans hx.drew hb; clear hx) | have nx := hb); clear hb; try clear hs; try clear g0; try clear g1; try clear g2; try clear g3; try clear g4; try clear g5; try clear g6; have hx := nx; clear nx; have hs := ns; clear ns; have g0 := n0; clear n0; have g1 := n1; clear n1; have g2 := n2; clear n2; have g3 := n3; clear n3; have g4 := n4; clear n4; have g5 := n5; clear n5; have g6 := n6; clear n6) | (go_at_call 42; refine (compare_sg _ _ _).mono ?_; rintro rv w1 ⟨rfl, rfl⟩)))
  all_goals go_wp2_with fail
  all_goals go_ret2
  all_goals exact ⟨rfl, Ext.auK⟩

theorem txUnits_any (e f a : Int) (hf : finB e f a = true) (w : World) : Calls Tryd.prog 78 #[fmt e f, .int .i64 a] w fun rv w' => rv = .returned (.int .i64 ((unitsV e f a).natAbs : Int)) ∧ Ext w w' := by
  obtain ⟨hg, s0, s1, hu⟩ := fin_size hf
  have hap := (fin_pat hf).1
  obtain ⟨gg0, gg1, gg2⟩ := gr_bd2 hg
  have FS := Lib.hid (fun w => fmSize_any e f a hg (pat_iff.1 hap).2.1 w)
  have FU := Lib.hid (fun w => fmUnits_size e f (a % pw (e + f)) (pat_iff.2 ⟨hg, s0, by omega⟩) (by omega) w)
  rw [hu]
  generalize mgV f (a % pw (e + f)) = M at *
  generalize a % pw (e + f) = P at *
  go_enter Tryd.func78, Tryd.ntmps78
  go_wp2_with (first | (go_at_call 47; refine (FS.out _).mono ?_; rintro rv w1 ⟨rfl, hb⟩; have ns : w.heap.size < w1.heap.size := hb.ltK; have n0 : w1.cell? ⟨w.heap.size, 0, none⟩ = some (.int .i64 e) := hb.cellK; have n1 : w1.cell? ⟨w.heap.size, 1, none⟩ = some (.int .i64 f) := hb.cellK; (first | (have nx := Ext.trans hx hb; clear hx) | (have nx := Ext.trans (hx.alloc _) hb; clear hx) | (have nx := Ext.trans hx.drew hb; clear hx) | have nx := hb); clear hb; try clear hs; try clear g0; try clear g1; have hx := nx; clear nx; have hs := ns; clear ns; have g0 := n0; clear n0; have g1 := n1; clear n1) | (go_at_call 31; refine (FU.out _).mono ?_; rintro rv w1 ⟨rfl, hb⟩; have ns : w.heap.size < w1.heap.size := hb.ltK; have n0 : w1.cell? ⟨w.heap.size, 0, none⟩ = some (.int .i64 e) := hb.cellK; have n1 : w1.cell? ⟨w.heap.size, 1, none⟩ = some (.int .i64 f) := hb.cellK; (first | (have nx := Ext.trans hx hb; clear hx) | (have nx := Ext.trans (hx.alloc _) hb; clear hx) | (have nx := Ext.trans hx.drew hb; clear hx) | have nx := hb); clear hb; try clear hs; try clear g0; try clear g1; have hx := nx; clear nx; have hs := ns; clear ns; have g0 := n0; clear n0; have g1 := n1; clear n1))
  try (go_region_held3 (fun w' => w'.cell? ⟨w.heap.size, 0, none⟩ = some (.int .i64 e) ∧ w'.cell? ⟨w.heap.size, 1, none⟩ = some (.int .i64 f) ∧ w.heap.size < w'.heap.size) ((refine ⟨?_, ?_, ?_⟩ <;> first | with_reducible assumption | ((rw [cell_setRow_far _ _ _ _ _ (by omega)]); with_reducible assumption) | ((rw [setRow_size]); with_reducible assumption) | ((repeat rw [World.cell?_setCell_far _ _ _ _ (by simp)]); with_reducible assumption) | (simp; done) | (simp [World.setCell]; first | done | omega) | (simp [go_sem, World.cell?_alloc_past, World.cell?_setCell_far, *]; done))) ((first | (go_at_call 47; refine (FS.out _).mono ?_; rintro rv w1 ⟨rfl, hb⟩; have ns : w.heap.size < w1.heap.size := hb.ltK; have n0 : w1.cell? ⟨w.heap.size, 0, none⟩ = some (.int .i64 e) := hb.cellK; have n1 : w1.cell? ⟨w.heap.size, 1, none⟩ = some (.int .i64 f) := hb.cellK; (first | (have nx := Ext.trans hx hb; clear hx) | (have nx := Ext.trans (hx.alloc _) hb; clear hx) | (have nx := Ext.trans hx.drew hb; clear hx) | have nx := hb); clear hb; try clear hs; try clear g0; try clear g1; have hx := nx; clear nx; have hs := ns; clear ns; have g0 := n0; clear n0; have g1 := n1; clear n1) | (go_at_call 31; refine (FU.out _).mono ?_; rintro rv w1 ⟨rfl, hb⟩; have ns : w.heap.size < w1.heap.size := hb.ltK; have n0 : w1.cell? ⟨w.heap.size, 0, none⟩ = some (.int .i64 e) := hb.cellK; have n1 : w1.cell? ⟨w.heap.size, 1, none⟩ = some (.int .i64 f) := hb.cellK; (first | (have nx := Ext.trans hx hb; clear hx) | (have nx := Ext.trans (hx.alloc _) hb; clear hx) | (have nx := Ext.trans hx.drew hb; clear hx) | have nx := hb); clear hb; try clear hs; try clear g0; try clear g1; have hx := nx; clear nx; have hs := ns; clear ns; have g0 := n0; clear n0; have g1 := n1; clear n1))))
  all_goals (try go_wp2_with fail)
  all_goals go_ret
  all_goals exact ⟨rfl, Ext.auK⟩

set_option maxHeartbeats 1600000 in
theorem txCompare_any (e f a d t : Int) (hf : finB e f a = true) (hd : TcP d t) (w : World) : Calls Tryd.prog 40 #[fmt e f, .int .i64 a, .int .i64 d, .int .i64 t] w fun rv w' => rv = .returned (.int .i64 (cdV e f a d t)) ∧ Ext w w' := by
  have hg := (fin_size hf).1
  have vt := val_top hf
  have ub := units_bd e f a (fin_pat hf).1
  have TN := Lib.hid (fun w => txNumber_any e f d t hg hd w)
  have TU := Lib.hid (fun w => txUnits_any e f a hf w)
  have U0 : 0 ≤ ((unitsV e f a).natAbs : Int) := by omega
  have U1 : ((unitsV e f a).natAbs : Int) ≤ 4398046511104 := by omega
  have KC : RowKit.Hid (∀ u r h : Int, TNout e f d t u r h → (if ((unitsV e f a).natAbs : Int) = u then -sgV r else sgV (((unitsV e f a).natAbs : Int) - u)) = cdV e f a d t) := Lib.hid (fun u r h q => q.2.2.2.2 _ vt)
  generalize cdV e f a d t = C at *
  generalize ((unitsV e f a).natAbs : Int) = U at *
  clear ub vt
  go_enter Tryd.func40, Tryd.ntmps40
  go_wp2_with (go_at_call 77; refine (TN.out _).mono ?_; rintro rv w1 ⟨u, r, h, rfl, htn, hb⟩; have HTN := Lib.hid htn; clear htn; have ns : w.heap.size < w1.heap.size := hb.ltK; have n0 : w1.cell? ⟨w.heap.size, 0, none⟩ = some (.int .i64 e) := hb.cellK; have n1 : w1.cell? ⟨w.heap.size, 1, none⟩ = some (.int .i64 f) := hb.cellK; (first | (have nx := Ext.trans hx hb; clear hx) | (have nx := Ext.trans (hx.alloc _) hb; clear hx) | (have nx := Ext.trans hx.drew hb; clear hx) | have nx := hb); clear hb; try clear hs; try clear g0; try clear g1; have hx := nx; clear nx; have hs := ns; clear ns; have g0 := n0; clear n0; have g1 := n1; clear n1)
  obtain ⟨⟨b0, b1⟩, ⟨b2, b3⟩, b4, _⟩ := id HTN.out
  have kc := KC.out u r h HTN.out
  by_cases hq : U = u
  · rw [if_pos hq] at kc
    have KC2 := Lib.hid kc
    have hq2 : (U != u) = false := by simpa using hq
    have s3 := sg_bd r
    have k2 : IntKind.i64.wrap (-sgV r) = -sgV r := IntWalk.i64_in _ (by omega)
    have HTN2 := HTN
    clear kc hq b0 b1 b2 b3 b4 s3
    go_wp2_with (first | (go_at_call 78; refine (TU.out _).mono ?_; rintro rv w2 ⟨rfl, hb⟩; have ns : w1.heap.size < w2.heap.size := hb.ltK; have n0 : w2.cell? ⟨w.heap.size, 0, none⟩ = some (.int .i64 e) := hb.cellK; have n1 : w2.cell? ⟨w.heap.size, 1, none⟩ = some (.int .i64 f) := hb.cellK; have n2 : w2.cell? ⟨w1.heap.size, 0, none⟩ = some (.int .i64 u) := hb.cellK; have n3 : w2.cell? ⟨w1.heap.size, 1, none⟩ = some (.int .i64 r) := hb.cellK; have n4 : w2.cell? ⟨w1.heap.size, 2, none⟩ = some (.int .i64 h) := hb.cellK; (first | (have nx := Ext.trans hx hb; clear hx) | (have nx := Ext.trans (hx.alloc _) hb; clear hx) | (have nx := Ext.trans hx.drew hb; clear hx) | have nx := hb); clear hb; try clear hs; try clear g0; try clear g1; try clear g2; try clear g3; try clear g4; have hx := nx; clear nx; have hs := ns; clear ns; have g0 := n0; clear n0; have g1 := n1; clear n1; have g2 := n2; clear n2; have g3 := n3; clear n3; have g4 := n4; clear n4) | (go_at_call 79; refine (rdSignOf_any _ _).mono ?_; rintro rv w1 ⟨rfl, rfl⟩))
    all_goals (try (go_region_held3 (fun w' => w'.cell? ⟨w.heap.size, 0, none⟩ = some (.int .i64 e) ∧ w'.cell? ⟨w.heap.size, 1, none⟩ = some (.int .i64 f) ∧ w'.cell? ⟨w1.heap.size, 0, none⟩ = some (.int .i64 u) ∧ w'.cell? ⟨w1.heap.size, 1, none⟩ = some (.int .i64 r) ∧ w'.cell? ⟨w1.heap.size, 2, none⟩ = some (.int .i64 h) ∧ w1.heap.size < w'.heap.size) ((refine ⟨?_, ?_, ?_, ?_, ?_, ?_⟩ <;> first | with_reducible assumption | ((rw [cell_setRow_far _ _ _ _ _ (by omega)]); with_reducible assumption) | ((rw [setRow_size]); with_reducible assumption) | ((repeat rw [World.cell?_setCell_far _ _ _ _ (by simp)]); with_reducible assumption) | (simp; done) | (simp [World.setCell]; first | done | omega) | (simp [go_sem, World.cell?_alloc_past, World.cell?_setCell_far, *]; done))) ((first | (go_at_call 78; refine (TU.out _).mono ?_; rintro rv w2 ⟨rfl, hb⟩; have ns : w1.heap.size < w2.heap.size := hb.ltK; have n0 : w2.cell? ⟨w.heap.size, 0, none⟩ = some (.int .i64 e) := hb.cellK; have n1 : w2.cell? ⟨w.heap.size, 1, none⟩ = some (.int .i64 f) := hb.cellK; have n2 : w2.cell? ⟨w1.heap.size, 0, none⟩ = some (.int .i64 u) := hb.cellK; have n3 : w2.cell? ⟨w1.heap.size, 1, none⟩ = some (.int .i64 r) := hb.cellK; have n4 : w2.cell? ⟨w1.heap.size, 2, none⟩ = some (.int .i64 h) := hb.cellK; (first | (have nx := Ext.trans hx hb; clear hx) | (have nx := Ext.trans (hx.alloc _) hb; clear hx) | (have nx := Ext.trans hx.drew hb; clear hx) | have nx := hb); clear hb; try clear hs; try clear g0; try clear g1; try clear g2; try clear g3; try clear g4; have hx := nx; clear nx; have hs := ns; clear ns; have g0 := n0; clear n0; have g1 := n1; clear n1; have g2 := n2; clear n2; have g3 := n3; clear n3; have g4 := n4; clear n4)))))
    all_goals (try go_wp2_with (first | (go_at_call 78; refine (TU.out _).mono ?_; rintro rv w2 ⟨rfl, hb⟩; have ns : w1.heap.size < w2.heap.size := hb.ltK; have n0 : w2.cell? ⟨w.heap.size, 0, none⟩ = some (.int .i64 e) := hb.cellK; have n1 : w2.cell? ⟨w.heap.size, 1, none⟩ = some (.int .i64 f) := hb.cellK; have n2 : w2.cell? ⟨w1.heap.size, 0, none⟩ = some (.int .i64 u) := hb.cellK; have n3 : w2.cell? ⟨w1.heap.size, 1, none⟩ = some (.int .i64 r) := hb.cellK; have n4 : w2.cell? ⟨w1.heap.size, 2, none⟩ = some (.int .i64 h) := hb.cellK; (first | (have nx := Ext.trans hx hb; clear hx) | (have nx := Ext.trans (hx.alloc _) hb; clear hx) | (have nx := Ext.trans hx.drew hb; clear hx) | have nx := hb); clear hb; try clear hs; try clear g0; try clear g1; try clear g2; try clear g3; try clear g4; have hx := nx; clear nx; have hs := ns; clear ns; have g0 := n0; clear n0; have g1 := n1; clear n1; have g2 := n2; clear n2; have g3 := n3; clear n3; have g4 := n4; clear n4) | (go_at_call 79; refine (rdSignOf_any _ _).mono ?_; rintro rv w1 ⟨rfl, rfl⟩)))
    all_goals go_ret
    all_goals exact ⟨ret_int (by rw [KC2.out]), Ext.auK⟩
  · rw [if_neg hq] at kc
    have KC2 := Lib.hid kc
    have hq2 : (U != u) = true := by simpa using hq
    have k1 : IntKind.i64.wrap (U - u) = U - u := IntWalk.i64_in _ (by omega)
    clear kc hq b0 b1 b2 b3 b4
    go_wp2_with (first | (go_at_call 78; refine (TU.out _).mono ?_; rintro rv w2 ⟨rfl, hb⟩; have ns : w1.heap.size < w2.heap.size := hb.ltK; have n0 : w2.cell? ⟨w.heap.size, 0, none⟩ = some (.int .i64 e) := hb.cellK; have n1 : w2.cell? ⟨w.heap.size, 1, none⟩ = some (.int .i64 f) := hb.cellK; have n2 : w2.cell? ⟨w1.heap.size, 0, none⟩ = some (.int .i64 u) := hb.cellK; have n3 : w2.cell? ⟨w1.heap.size, 1, none⟩ = some (.int .i64 r) := hb.cellK; have n4 : w2.cell? ⟨w1.heap.size, 2, none⟩ = some (.int .i64 h) := hb.cellK; (first | (have nx := Ext.trans hx hb; clear hx) | (have nx := Ext.trans (hx.alloc _) hb; clear hx) | (have nx := Ext.trans hx.drew hb; clear hx) | have nx := hb); clear hb; try clear hs; try clear g0; try clear g1; try clear g2; try clear g3; try clear g4; have hx := nx; clear nx; have hs := ns; clear ns; have g0 := n0; clear n0; have g1 := n1; clear n1; have g2 := n2; clear n2; have g3 := n3; clear n3; have g4 := n4; clear n4) | (go_at_call 79; refine (rdSignOf_any _ _).mono ?_; rintro rv w1 ⟨rfl, rfl⟩))
    all_goals (try (go_region_held3 (fun w' => w'.cell? ⟨w.heap.size, 0, none⟩ = some (.int .i64 e) ∧ w'.cell? ⟨w.heap.size, 1, none⟩ = some (.int .i64 f) ∧ w'.cell? ⟨w1.heap.size, 0, none⟩ = some (.int .i64 u) ∧ w'.cell? ⟨w1.heap.size, 1, none⟩ = some (.int .i64 r) ∧ w'.cell? ⟨w1.heap.size, 2, none⟩ = some (.int .i64 h) ∧ w1.heap.size < w'.heap.size) ((refine ⟨?_, ?_, ?_, ?_, ?_, ?_⟩ <;> first | with_reducible assumption | ((rw [cell_setRow_far _ _ _ _ _ (by omega)]); with_reducible assumption) | ((rw [setRow_size]); with_reducible assumption) | ((repeat rw [World.cell?_setCell_far _ _ _ _ (by simp)]); with_reducible assumption) | (simp; done) | (simp [World.setCell]; first | done | omega) | (simp [go_sem, World.cell?_alloc_past, World.cell?_setCell_far, *]; done))) ((first | (go_at_call 78; refine (TU.out _).mono ?_; rintro rv w2 ⟨rfl, hb⟩; have ns : w1.heap.size < w2.heap.size := hb.ltK; have n0 : w2.cell? ⟨w.heap.size, 0, none⟩ = some (.int .i64 e) := hb.cellK; have n1 : w2.cell? ⟨w.heap.size, 1, none⟩ = some (.int .i64 f) := hb.cellK; have n2 : w2.cell? ⟨w1.heap.size, 0, none⟩ = some (.int .i64 u) := hb.cellK; have n3 : w2.cell? ⟨w1.heap.size, 1, none⟩ = some (.int .i64 r) := hb.cellK; have n4 : w2.cell? ⟨w1.heap.size, 2, none⟩ = some (.int .i64 h) := hb.cellK; (first | (have nx := Ext.trans hx hb; clear hx) | (have nx := Ext.trans (hx.alloc _) hb; clear hx) | (have nx := Ext.trans hx.drew hb; clear hx) | have nx := hb); clear hb; try clear hs; try clear g0; try clear g1; try clear g2; try clear g3; try clear g4; have hx := nx; clear nx; have hs := ns; clear ns; have g0 := n0; clear n0; have g1 := n1; clear n1; have g2 := n2; clear n2; have g3 := n3; clear n3; have g4 := n4; clear n4)))))
    all_goals (try go_wp2_with (first | (go_at_call 78; refine (TU.out _).mono ?_; rintro rv w2 ⟨rfl, hb⟩; have ns : w1.heap.size < w2.heap.size := hb.ltK; have n0 : w2.cell? ⟨w.heap.size, 0, none⟩ = some (.int .i64 e) := hb.cellK; have n1 : w2.cell? ⟨w.heap.size, 1, none⟩ = some (.int .i64 f) := hb.cellK; have n2 : w2.cell? ⟨w1.heap.size, 0, none⟩ = some (.int .i64 u) := hb.cellK; have n3 : w2.cell? ⟨w1.heap.size, 1, none⟩ = some (.int .i64 r) := hb.cellK; have n4 : w2.cell? ⟨w1.heap.size, 2, none⟩ = some (.int .i64 h) := hb.cellK; (first | (have nx := Ext.trans hx hb; clear hx) | (have nx := Ext.trans (hx.alloc _) hb; clear hx) | (have nx := Ext.trans hx.drew hb; clear hx) | have nx := hb); clear hb; try clear hs; try clear g0; try clear g1; try clear g2; try clear g3; try clear g4; have hx := nx; clear nx; have hs := ns; clear ns; have g0 := n0; clear n0; have g1 := n1; clear n1; have g2 := n2; clear n2; have g3 := n3; clear n3; have g4 := n4; clear n4) | (go_at_call 79; refine (rdSignOf_any _ _).mono ?_; rintro rv w1 ⟨rfl, rfl⟩)))
    all_goals go_ret
    all_goals exact ⟨ret_int (by rw [KC2.out]), Ext.auK⟩

theorem sCompareDecimal_no (e f a d t : Int) (hg : cpB e f a d t = false) (w : World) : Calls Tryd.prog 17 #[fmt e f, .int .i64 a, .int .i64 d, .int .i64 t] w fun rv w' => rv = .returned (.tuple #[.int .i64 0, .bool false]) ∧ Ext w w' := by
  cases h0 : finB e f a
  · go_enter Tryd.func17, Tryd.ntmps17
    go_wp2_with (go_at_call 29; refine (fmFinite_any e f a _).mono ?_; rintro rv w1 ⟨rfl, hb⟩; have ns : w.heap.size < w1.heap.size := hb.ltK; have n0 : w1.cell? ⟨w.heap.size, 0, none⟩ = some (.int .i64 e) := hb.cellK; have n1 : w1.cell? ⟨w.heap.size, 1, none⟩ = some (.int .i64 f) := hb.cellK; (first | (have nx := Ext.trans hx hb; clear hx) | (have nx := Ext.trans (hx.alloc _) hb; clear hx) | (have nx := Ext.trans hx.drew hb; clear hx) | have nx := hb); clear hb; try clear hs; try clear g0; try clear g1; have hx := nx; clear nx; have hs := ns; clear ns; have g0 := n0; clear n0; have g1 := n1; clear n1)
    go_ret2
    exact ⟨rfl, Ext.auK⟩
  · have h1 : dcB d t = false := by unfold cpB at hg; rw [h0] at hg; simpa using hg
    go_enter Tryd.func17, Tryd.ntmps17
    go_wp2_with (first | (go_at_call 29; refine (fmFinite_any e f a _).mono ?_; rintro rv w1 ⟨rfl, hb⟩; have ns : w.heap.size < w1.heap.size := hb.ltK; have n0 : w1.cell? ⟨w.heap.size, 0, none⟩ = some (.int .i64 e) := hb.cellK; have n1 : w1.cell? ⟨w.heap.size, 1, none⟩ = some (.int .i64 f) := hb.cellK; (first | (have nx := Ext.trans hx hb; clear hx) | (have nx := Ext.trans (hx.alloc _) hb; clear hx) | (have nx := Ext.trans hx.drew hb; clear hx) | have nx := hb); clear hb; try clear hs; try clear g0; try clear g1; have hx := nx; clear nx; have hs := ns; clear ns; have g0 := n0; clear n0; have g1 := n1; clear n1) | (go_at_call 39; refine (txDecimal_any d t _).mono ?_; rintro rv w1 ⟨rfl, hb⟩; have ns : w.heap.size < w1.heap.size := hb.ltK; have n0 : w1.cell? ⟨w.heap.size, 0, none⟩ = some (.int .i64 e) := hb.cellK; have n1 : w1.cell? ⟨w.heap.size, 1, none⟩ = some (.int .i64 f) := hb.cellK; (first | (have nx := Ext.trans hx hb; clear hx) | (have nx := Ext.trans (hx.alloc _) hb; clear hx) | (have nx := Ext.trans hx.drew hb; clear hx) | have nx := hb); clear hb; try clear hs; try clear g0; try clear g1; have hx := nx; clear nx; have hs := ns; clear ns; have g0 := n0; clear n0; have g1 := n1; clear n1))
    go_ret2
    exact ⟨rfl, Ext.auK⟩

theorem sCompareDecimal_yes (e f a d t : Int) (hg : cpB e f a d t = true) (w : World) : Calls Tryd.prog 17 #[fmt e f, .int .i64 a, .int .i64 d, .int .i64 t] w fun rv w' => rv = .returned (.tuple #[.int .i64 (cdV e f a d t), .bool true]) ∧ Ext w w' := by
  obtain ⟨h0, h1⟩ : finB e f a = true ∧ dcB d t = true := by unfold cpB at hg; simpa using hg
  have TCA := Lib.hid (fun w => txCompare_any e f a d t h0 (dc_tc h1) w)
  generalize cdV e f a d t = C at *
  go_enter Tryd.func17, Tryd.ntmps17
  go_wp2_with (first | (go_at_call 29; refine (fmFinite_any e f a _).mono ?_; rintro rv w1 ⟨rfl, hb⟩; have ns : w.heap.size < w1.heap.size := hb.ltK; have n0 : w1.cell? ⟨w.heap.size, 0, none⟩ = some (.int .i64 e) := hb.cellK; have n1 : w1.cell? ⟨w.heap.size, 1, none⟩ = some (.int .i64 f) := hb.cellK; (first | (have nx := Ext.trans hx hb; clear hx) | (have nx := Ext.trans (hx.alloc _) hb; clear hx) | (have nx := Ext.trans hx.drew hb; clear hx) | have nx := hb); clear hb; try clear hs; try clear g0; try clear g1; have hx := nx; clear nx; have hs := ns; clear ns; have g0 := n0; clear n0; have g1 := n1; clear n1) | (go_at_call 39; refine (txDecimal_any d t _).mono ?_; rintro rv w1 ⟨rfl, hb⟩; have ns : w.heap.size < w1.heap.size := hb.ltK; have n0 : w1.cell? ⟨w.heap.size, 0, none⟩ = some (.int .i64 e) := hb.cellK; have n1 : w1.cell? ⟨w.heap.size, 1, none⟩ = some (.int .i64 f) := hb.cellK; (first | (have nx := Ext.trans hx hb; clear hx) | (have nx := Ext.trans (hx.alloc _) hb; clear hx) | (have nx := Ext.trans hx.drew hb; clear hx) | have nx := hb); clear hb; try clear hs; try clear g0; try clear g1; have hx := nx; clear nx; have hs := ns; clear ns; have g0 := n0; clear n0; have g1 := n1; clear n1) | (go_at_call 40; refine (TCA.out _).mono ?_; rintro rv w1 ⟨rfl, hb⟩; have ns : w.heap.size < w1.heap.size := hb.ltK; have n0 : w1.cell? ⟨w.heap.size, 0, none⟩ = some (.int .i64 e) := hb.cellK; have n1 : w1.cell? ⟨w.heap.size, 1, none⟩ = some (.int .i64 f) := hb.cellK; (first | (have nx := Ext.trans hx hb; clear hx) | (have nx := Ext.trans (hx.alloc _) hb; clear hx) | (have nx := Ext.trans hx.drew hb; clear hx) | have nx := hb); clear hb; try clear hs; try clear g0; try clear g1; have hx := nx; clear nx; have hs := ns; clear ns; have g0 := n0; clear n0; have g1 := n1; clear n1))
  go_ret2
  exact ⟨rfl, Ext.auK⟩
end Go.Proofs.YtjebechmedhidaaDoor

