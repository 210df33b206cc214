/-
  Contracts of the functions that the laws reach, and the plain facts that they rest on, each under the conditions that its line names; part 31.
-/
import Derived.Test.YtfgbndjhaiigbacGreatDoorKlo1
import Derived.Test.YtfgbndjhaiigbacGreatDoorKlo2
import Derived.Test.YtfgbndjhaiigbacGreatDoorKlo3
import Derived.Test.YtfgbndjhaiigbacGreatDoorKlo4
import Derived.Test.YtfgbndjhaiigbacGreatDoorKlo5
import Derived.Test.YtfgbndjhaiigbacGreatDoorKlo6
import Derived.Test.YtfgbndjhaiigbacGreatDoorKlo7
import Derived.Test.YtfgbndjhaiigbacGreatDoorKlo8
import Derived.Test.YtfgbndjhaiigbacGreatDoorKlo9
import Derived.Test.YtfgbndjhaiigbacGreatDoorKlo10
import Derived.Test.YtfgbndjhaiigbacGreatDoorKlo11
import Derived.Test.YtfgbndjhaiigbacGreatDoorKlo12
import Derived.Test.YtfgbndjhaiigbacGreatDoorKlo13
import Derived.Test.YtfgbndjhaiigbacGreatDoorKlo14
import Derived.Test.YtfgbndjhaiigbacGreatDoorKlo15
import Derived.Test.YtfgbndjhaiigbacGreatDoorKlo16
import Derived.Test.YtfgbndjhaiigbacGreatDoorKlo17
import Derived.Test.YtfgbndjhaiigbacGreatDoorKlo18
import Derived.Test.YtfgbndjhaiigbacGreatDoorKlo19
import Derived.Test.YtfgbndjhaiigbacGreatDoorKlo20
import Derived.Test.YtfgbndjhaiigbacGreatDoorKlo21
import Derived.Test.YtfgbndjhaiigbacGreatDoorKlo22
import Derived.Test.YtfgbndjhaiigbacGreatDoorKlo23
import Derived.Test.YtfgbndjhaiigbacGreatDoorKlo24
import Derived.Test.YtfgbndjhaiigbacGreatDoorKlo25
import Derived.Test.YtfgbndjhaiigbacGreatDoorKlo26
import Derived.Test.YtfgbndjhaiigbacGreatDoorKlo27
import Derived.Test.YtfgbndjhaiigbacGreatDoorKlo28
import Derived.Test.YtfgbndjhaiigbacGreatDoorKlo29
import Derived.Test.YtfgbndjhaiigbacGreatDoorKlo30
import Derived.Test.YtfgbndjhaiigbacGreatDoorRows
import Derived.WalkKit
import Derived.Handy
import Derived.LoopTactic
import Derived.LoopN
import Derived.Laws.OwnMore
import Derived.OwnWalk
import Derived.Deep.AppendLies
import Derived.Laws.Bits64b
import Derived.WalkSpells
import Derived.WalkLawsBesides
import Derived.StillTactics
import Derived.Laws.Pointers
import Derived.Deep.RegionHeld3
import Derived.Deep.QuietTactic
import Derived.BigQuiet
import Derived.Outline
import Derived.Lib.Hide
import Derived.RowKit3
import Derived.Carry
import Derived.IntWalk
import Derived.Laws.EntriesVeiled
import Derived.Deep.LoopGhost
namespace Go.Proofs.YtfgbndjhaiigbacGreatDoor
open Go Go.RowKit
set_option linter.unusedSimpArgs false
set_option linter.unusedVariables false
set_option maxRecDepth 100000

attribute [local go_sem] ta_finite_finite ta_finite_infinite ta_finite_noNumber ta_infinite_finite ta_infinite_infinite ta_infinite_noNumber ta_noNumber_finite ta_noNumber_infinite ta_noNumber_noNumber

theorem xa_bd {e f a : Int} (hf : finB e f a = true) : -24 ≤ (shE (unitsV e f a) (unV e f)) ∧ (shE (unitsV e f a) (unV e f)) ≤ 41 := by
  have hap := (fin_pat hf).1
  obtain ⟨ua1, ua2, ua3, ua4, ua5⟩ := un_small hap
  have u1 := un_bd (pat_iff.1 hap).1
  by_cases h : (unitsV e f a) = 0
  · have := ua5 h; omega
  · have := ua4 h; omega

theorem val_top {e f a : Int} (hf : finB e f a = true) : ((unitsV e f a).natAbs : Int) ≤ 65536 * pw (-unV e f) := by
  obtain ⟨hg, s0, s1, hu⟩ := fin_size hf
  have u := un_bd hg
  have m := mg_mono f (a % pw (e + f)) (grV e f + 1) (good_iff.1 hg).2.2.1 s0 (by omega)
  rw [mg_top hg] at m
  have c := pw_le (a := pw (e - 1)) 16 65536 rfl (by omega)
  have d := pw_pos (-unV e f)
  have k : pw (-unV e f) * pw (pw (e - 1)) ≤ pw (-unV e f) * 65536 := Int.mul_le_mul_of_nonneg_left c (by omega)
  omega

/-- How the size of a value lies to a decimal. -/
def cdV (e f a d t : Int) : Int := tcV e f ((unitsV e f a).natAbs : Int) d t

theorem txUnits_any (e f a : Int) (hf : finB e f a = true) (w : World) : Calls Tryz.prog 160 #[fmt e f, .int .i64 a] w fun rv w' => rv = .returned (.int .i64 ((unitsV e f a).natAbs : Int)) ∧ Ext w w' := by
  obtain ⟨hg, s0, s1, hu⟩ := fin_size hf
  have hap := (fin_pat hf).1
  obtain ⟨gg0, gg1, gg2⟩ := gr_bd2 hg
  have FS := Lib.hid (fun w => fmSize_any e f a hg (pat_iff.1 hap).2.1 w)
  have FU := Lib.hid (fun w => fmUnits_size e f (a % pw (e + f)) (pat_iff.2 ⟨hg, s0, by omega⟩) (by omega) w)
  rw [hu]
  generalize mgV f (a % pw (e + f)) = M at *
  generalize a % pw (e + f) = P at *
  go_enter Tryz.func160, Tryz.ntmps160
  go_wp2_with (first | (go_at_call 110; refine (FS.out _).mono ?_; rintro rv w1 ⟨rfl, hb⟩; have ns : w.heap.size < w1.heap.size := hb.ltK; have n0 : w1.cell? ⟨w.heap.size, 0, none⟩ = some (.int .i64 e) := hb.cellK; have n1 : w1.cell? ⟨w.heap.size, 1, none⟩ = some (.int .i64 f) := hb.cellK; (first | (have nx := hx.trK hb; clear hx) | have nx := hb); clear hb; try clear hs; try clear g0; try clear g1; have hx := nx; clear nx; have hs := ns; clear ns; have g0 := n0; clear n0; have g1 := n1; clear n1) | (go_at_call 102; refine (FU.out _).mono ?_; rintro rv w1 ⟨rfl, hb⟩; have ns : w.heap.size < w1.heap.size := hb.ltK; have n0 : w1.cell? ⟨w.heap.size, 0, none⟩ = some (.int .i64 e) := hb.cellK; have n1 : w1.cell? ⟨w.heap.size, 1, none⟩ = some (.int .i64 f) := hb.cellK; (first | (have nx := hx.trK hb; clear hx) | have nx := hb); clear hb; try clear hs; try clear g0; try clear g1; have hx := nx; clear nx; have hs := ns; clear ns; have g0 := n0; clear n0; have g1 := n1; clear n1))
  try (go_region_held3 (fun w' => w'.cell? ⟨w.heap.size, 0, none⟩ = some (.int .i64 e) ∧ w'.cell? ⟨w.heap.size, 1, none⟩ = some (.int .i64 f) ∧ w.heap.size < w'.heap.size) ((refine ⟨?_, ?_, ?_⟩ <;> first | with_reducible assumption | ((rw [cell_setRow_far _ _ _ _ _ (by omega)]); with_reducible assumption) | ((rw [setRow_size]); with_reducible assumption) | ((repeat rw [World.cell?_setCell_far _ _ _ _ (by simp)]); with_reducible assumption) | (simp; done) | (simp [World.setCell]; first | done | omega) | (simp [go_sem, World.cell?_alloc_past, World.cell?_setCell_far, *]; done))) ((first | (go_at_call 110; refine (FS.out _).mono ?_; rintro rv w1 ⟨rfl, hb⟩; have ns : w.heap.size < w1.heap.size := hb.ltK; have n0 : w1.cell? ⟨w.heap.size, 0, none⟩ = some (.int .i64 e) := hb.cellK; have n1 : w1.cell? ⟨w.heap.size, 1, none⟩ = some (.int .i64 f) := hb.cellK; (first | (have nx := hx.trK hb; clear hx) | have nx := hb); clear hb; try clear hs; try clear g0; try clear g1; have hx := nx; clear nx; have hs := ns; clear ns; have g0 := n0; clear n0; have g1 := n1; clear n1) | (go_at_call 102; refine (FU.out _).mono ?_; rintro rv w1 ⟨rfl, hb⟩; have ns : w.heap.size < w1.heap.size := hb.ltK; have n0 : w1.cell? ⟨w.heap.size, 0, none⟩ = some (.int .i64 e) := hb.cellK; have n1 : w1.cell? ⟨w.heap.size, 1, none⟩ = some (.int .i64 f) := hb.cellK; (first | (have nx := hx.trK hb; clear hx) | have nx := hb); clear hb; try clear hs; try clear g0; try clear g1; have hx := nx; clear nx; have hs := ns; clear ns; have g0 := n0; clear n0; have g1 := n1; clear n1))))
  all_goals (try go_wp2_with fail)
  all_goals go_ret
  all_goals exact ⟨rfl, Ext.auK⟩

set_option maxHeartbeats 1600000 in
theorem txCompare_any (e f a d t : Int) (hf : finB e f a = true) (hd : TcP d t) (w : World) : Calls Tryz.prog 159 #[fmt e f, .int .i64 a, .int .i64 d, .int .i64 t] w fun rv w' => rv = .returned (.int .i64 (cdV e f a d t)) ∧ Ext w w' := by
  have hg := (fin_size hf).1
  have vt := val_top hf
  have ub := units_bd e f a (fin_pat hf).1
  have TN := Lib.hid (fun w => txNumber_any e f d t hg hd w)
  have TU := Lib.hid (fun w => txUnits_any e f a hf w)
  have U0 : 0 ≤ ((unitsV e f a).natAbs : Int) := by omega
  have U1 : ((unitsV e f a).natAbs : Int) ≤ 4398046511104 := by omega
  have KC : RowKit.Hid (∀ u r h : Int, TNout e f d t u r h → (if ((unitsV e f a).natAbs : Int) = u then -sgV r else sgV (((unitsV e f a).natAbs : Int) - u)) = cdV e f a d t) := Lib.hid (fun u r h q => q.2.2.2.2 _ vt)
  generalize cdV e f a d t = C at *
  generalize ((unitsV e f a).natAbs : Int) = U at *
  clear ub vt
  go_enter Tryz.func159, Tryz.ntmps159
  go_wp2_with (go_at_call 133; refine (TN.out _).mono ?_; rintro rv w1 ⟨u, r, h, rfl, htn, hb⟩; have HTN := Lib.hid htn; clear htn; have ns : w.heap.size < w1.heap.size := hb.ltK; have n0 : w1.cell? ⟨w.heap.size, 0, none⟩ = some (.int .i64 e) := hb.cellK; have n1 : w1.cell? ⟨w.heap.size, 1, none⟩ = some (.int .i64 f) := hb.cellK; (first | (have nx := hx.trK hb; clear hx) | have nx := hb); clear hb; try clear hs; try clear g0; try clear g1; have hx := nx; clear nx; have hs := ns; clear ns; have g0 := n0; clear n0; have g1 := n1; clear n1)
  obtain ⟨⟨b0, b1⟩, ⟨b2, b3⟩, b4, _⟩ := id HTN.out
  have kc := KC.out u r h HTN.out
  by_cases hq : U = u
  · rw [if_pos hq] at kc
    have KC2 := Lib.hid kc
    have hq2 : (U != u) = false := by simpa using hq
    have s3 := sg_bd r
    have k2 : IntKind.i64.wrap (-sgV r) = -sgV r := IntWalk.i64_in _ (by omega)
    have HTN2 := HTN
    clear kc hq b0 b1 b2 b3 b4 s3
    go_wp2_with (first | (go_at_call 160; refine (TU.out _).mono ?_; rintro rv w2 ⟨rfl, hb⟩; have ns : w1.heap.size < w2.heap.size := hb.ltK; have n0 : w2.cell? ⟨w.heap.size, 0, none⟩ = some (.int .i64 e) := hb.cellK; have n1 : w2.cell? ⟨w.heap.size, 1, none⟩ = some (.int .i64 f) := hb.cellK; have n2 : w2.cell? ⟨w1.heap.size, 0, none⟩ = some (.int .i64 u) := hb.cellK; have n3 : w2.cell? ⟨w1.heap.size, 1, none⟩ = some (.int .i64 r) := hb.cellK; have n4 : w2.cell? ⟨w1.heap.size, 2, none⟩ = some (.int .i64 h) := hb.cellK; (first | (have nx := hx.trK hb; clear hx) | have nx := hb); clear hb; try clear hs; try clear g0; try clear g1; try clear g2; try clear g3; try clear g4; have hx := nx; clear nx; have hs := ns; clear ns; have g0 := n0; clear n0; have g1 := n1; clear n1; have g2 := n2; clear n2; have g3 := n3; clear n3; have g4 := n4; clear n4) | (go_at_call 161; refine (rdSignOf_any _ _).mono ?_; rintro rv w1 ⟨rfl, rfl⟩))
    all_goals (try (go_region_held3 (fun w' => w'.cell? ⟨w.heap.size, 0, none⟩ = some (.int .i64 e) ∧ w'.cell? ⟨w.heap.size, 1, none⟩ = some (.int .i64 f) ∧ w'.cell? ⟨w1.heap.size, 0, none⟩ = some (.int .i64 u) ∧ w'.cell? ⟨w1.heap.size, 1, none⟩ = some (.int .i64 r) ∧ w'.cell? ⟨w1.heap.size, 2, none⟩ = some (.int .i64 h) ∧ w1.heap.size < w'.heap.size) ((refine ⟨?_, ?_, ?_, ?_, ?_, ?_⟩ <;> first | with_reducible assumption | ((rw [cell_setRow_far _ _ _ _ _ (by omega)]); with_reducible assumption) | ((rw [setRow_size]); with_reducible assumption) | ((repeat rw [World.cell?_setCell_far _ _ _ _ (by simp)]); with_reducible assumption) | (simp; done) | (simp [World.setCell]; first | done | omega) | (simp [go_sem, World.cell?_alloc_past, World.cell?_setCell_far, *]; done))) ((first | (go_at_call 160; refine (TU.out _).mono ?_; rintro rv w2 ⟨rfl, hb⟩; have ns : w1.heap.size < w2.heap.size := hb.ltK; have n0 : w2.cell? ⟨w.heap.size, 0, none⟩ = some (.int .i64 e) := hb.cellK; have n1 : w2.cell? ⟨w.heap.size, 1, none⟩ = some (.int .i64 f) := hb.cellK; have n2 : w2.cell? ⟨w1.heap.size, 0, none⟩ = some (.int .i64 u) := hb.cellK; have n3 : w2.cell? ⟨w1.heap.size, 1, none⟩ = some (.int .i64 r) := hb.cellK; have n4 : w2.cell? ⟨w1.heap.size, 2, none⟩ = some (.int .i64 h) := hb.cellK; (first | (have nx := hx.trK hb; clear hx) | have nx := hb); clear hb; try clear hs; try clear g0; try clear g1; try clear g2; try clear g3; try clear g4; have hx := nx; clear nx; have hs := ns; clear ns; have g0 := n0; clear n0; have g1 := n1; clear n1; have g2 := n2; clear n2; have g3 := n3; clear n3; have g4 := n4; clear n4)))))
    all_goals (try go_wp2_with (first | (go_at_call 160; refine (TU.out _).mono ?_; rintro rv w2 ⟨rfl, hb⟩; have ns : w1.heap.size < w2.heap.size := hb.ltK; have n0 : w2.cell? ⟨w.heap.size, 0, none⟩ = some (.int .i64 e) := hb.cellK; have n1 : w2.cell? ⟨w.heap.size, 1, none⟩ = some (.int .i64 f) := hb.cellK; have n2 : w2.cell? ⟨w1.heap.size, 0, none⟩ = some (.int .i64 u) := hb.cellK; have n3 : w2.cell? ⟨w1.heap.size, 1, none⟩ = some (.int .i64 r) := hb.cellK; have n4 : w2.cell? ⟨w1.heap.size, 2, none⟩ = some (.int .i64 h) := hb.cellK; (first | (have nx := hx.trK hb; clear hx) | have nx := hb); clear hb; try clear hs; try clear g0; try clear g1; try clear g2; try clear g3; try clear g4; have hx := nx; clear nx; have hs := ns; clear ns; have g0 := n0; clear n0; have g1 := n1; clear n1; have g2 := n2; clear n2; have g3 := n3; clear n3; have g4 := n4; clear n4) | (go_at_call 161; refine (rdSignOf_any _ _).mono ?_; rintro rv w1 ⟨rfl, rfl⟩)))
    all_goals go_ret
    all_goals exact ⟨ret_int (by rw [KC2.out]), Ext.auK⟩
  · rw [if_neg hq] at kc
    have KC2 := Lib.hid kc
    have hq2 : (U != u) = true := by simpa using hq
    have k1 : IntKind.i64.wrap (U - u) = U - u := IntWalk.i64_in _ (by omega)
    clear kc hq b0 b1 b2 b3 b4
    go_wp2_with (first | (go_at_call 160; refine (TU.out _).mono ?_; rintro rv w2 ⟨rfl, hb⟩; have ns : w1.heap.size < w2.heap.size := hb.ltK; have n0 : w2.cell? ⟨w.heap.size, 0, none⟩ = some (.int .i64 e) := hb.cellK; have n1 : w2.cell? ⟨w.heap.size, 1, none⟩ = some (.int .i64 f) := hb.cellK; have n2 : w2.cell? ⟨w1.heap.size, 0, none⟩ = some (.int .i64 u) := hb.cellK; have n3 : w2.cell? ⟨w1.heap.size, 1, none⟩ = some (.int .i64 r) := hb.cellK; have n4 : w2.cell? ⟨w1.heap.size, 2, none⟩ = some (.int .i64 h) := hb.cellK; (first | (have nx := hx.trK hb; clear hx) | have nx := hb); clear hb; try clear hs; try clear g0; try clear g1; try clear g2; try clear g3; try clear g4; have hx := nx; clear nx; have hs := ns; clear ns; have g0 := n0; clear n0; have g1 := n1; clear n1; have g2 := n2; clear n2; have g3 := n3; clear n3; have g4 := n4; clear n4) | (go_at_call 161; refine (rdSignOf_any _ _).mono ?_; rintro rv w1 ⟨rfl, rfl⟩))
    all_goals (try (go_region_held3 (fun w' => w'.cell? ⟨w.heap.size, 0, none⟩ = some (.int .i64 e) ∧ w'.cell? ⟨w.heap.size, 1, none⟩ = some (.int .i64 f) ∧ w'.cell? ⟨w1.heap.size, 0, none⟩ = some (.int .i64 u) ∧ w'.cell? ⟨w1.heap.size, 1, none⟩ = some (.int .i64 r) ∧ w'.cell? ⟨w1.heap.size, 2, none⟩ = some (.int .i64 h) ∧ w1.heap.size < w'.heap.size) ((refine ⟨?_, ?_, ?_, ?_, ?_, ?_⟩ <;> first | with_reducible assumption | ((rw [cell_setRow_far _ _ _ _ _ (by omega)]); with_reducible assumption) | ((rw [setRow_size]); with_reducible assumption) | ((repeat rw [World.cell?_setCell_far _ _ _ _ (by simp)]); with_reducible assumption) | (simp; done) | (simp [World.setCell]; first | done | omega) | (simp [go_sem, World.cell?_alloc_past, World.cell?_setCell_far, *]; done))) ((first | (go_at_call 160; refine (TU.out _).mono ?_; rintro rv w2 ⟨rfl, hb⟩; have ns : w1.heap.size < w2.heap.size := hb.ltK; have n0 : w2.cell? ⟨w.heap.size, 0, none⟩ = some (.int .i64 e) := hb.cellK; have n1 : w2.cell? ⟨w.heap.size, 1, none⟩ = some (.int .i64 f) := hb.cellK; have n2 : w2.cell? ⟨w1.heap.size, 0, none⟩ = some (.int .i64 u) := hb.cellK; have n3 : w2.cell? ⟨w1.heap.size, 1, none⟩ = some (.int .i64 r) := hb.cellK; have n4 : w2.cell? ⟨w1.heap.size, 2, none⟩ = some (.int .i64 h) := hb.cellK; (first | (have nx := hx.trK hb; clear hx) | have nx := hb); clear hb; try clear hs; try clear g0; try clear g1; try clear g2; try clear g3; try clear g4; have hx := nx; clear nx; have hs := ns; clear ns; have g0 := n0; clear n0; have g1 := n1; clear n1; have g2 := n2; clear n2; have g3 := n3; clear n3; have g4 := n4; clear n4)))))
    all_goals (try go_wp2_with (first | (go_at_call 160; refine (TU.out _).mono ?_; rintro rv w2 ⟨rfl, hb⟩; have ns : w1.heap.size < w2.heap.size := hb.ltK; have n0 : w2.cell? ⟨w.heap.size, 0, none⟩ = some (.int .i64 e) := hb.cellK; have n1 : w2.cell? ⟨w.heap.size, 1, none⟩ = some (.int .i64 f) := hb.cellK; have n2 : w2.cell? ⟨w1.heap.size, 0, none⟩ = some (.int .i64 u) := hb.cellK; have n3 : w2.cell? ⟨w1.heap.size, 1, none⟩ = some (.int .i64 r) := hb.cellK; have n4 : w2.cell? ⟨w1.heap.size, 2, none⟩ = some (.int .i64 h) := hb.cellK; (first | (have nx := hx.trK hb; clear hx) | have nx := hb); clear hb; try clear hs; try clear g0; try clear g1; try clear g2; try clear g3; try clear g4; have hx := nx; clear nx; have hs := ns; clear ns; have g0 := n0; clear n0; have g1 := n1; clear n1; have g2 := n2; clear n2; have g3 := n3; clear n3; have g4 := n4; clear n4) | (go_at_call 161; refine (rdSignOf_any _ _).mono ?_; rintro rv w1 ⟨rfl, rfl⟩)))
    all_goals go_ret
    all_goals exact ⟨ret_int (by rw [KC2.out]), Ext.auK⟩
end Go.Proofs.YtfgbndjhaiigbacGreatDoor

namespace Go.Proofs.YtfgbndjhaiigbacGreatDoor
open Go Go.RowKit
set_option linter.unusedSimpArgs false
set_option linter.unusedVariables false
set_option maxRecDepth 100000

theorem P_bd {P : Int} (p0 : 1 ≤ P) (p1 : P ≤ 6) : 1 ≤ tenN (P.toNat - 1) ∧ tenN (P.toNat - 1) ≤ 100000 :=
  ⟨tenN_pos _, tenN_le 5 100000 rfl (by omega)⟩

set_option maxHeartbeats 3200000 in
theorem txBelow_any (e f a P : Int) (hf : finB e f a = true) (hz : unitsV e f a ≠ 0) (p0 : 1 ≤ P) (p1 : P ≤ 6) (w : World) :
    Calls Tryz.prog 111 #[fmt e f, .int .i64 a, .int .i64 P] w fun rv w' => ∃ low t : Int, rv = .returned (.tuple #[.int .i64 low, .int .i64 t]) ∧ BlT e f ((unitsV e f a).natAbs : Int) P.toNat low t ∧ Ext w w' := by
  have hg := (fin_size hf).1
  have vt := val_top hf
  obtain ⟨b0, b1⟩ := P_bd p0 p1
  have kP : IntKind.i64.wrap (P - 1) = P - 1 := IntWalk.i64_in _ (by omega)
  have TT := Lib.hid (fun w => by have := txTen_any (P - 1) (by omega) w; rw [show (P - 1).toNat = P.toNat - 1 by omega] at this; exact this)
  have TC := Lib.hid (fun (d t : Int) (h : TcP d t) (w : World) => txCompare_any e f a d t hf h w)
  have LO := Lib.hid (tc_low (v := ((unitsV e f a).natAbs : Int)) (d := tenN (P.toNat - 1)) hg (by omega) b1)
  have HI := Lib.hid (tc_high (v := ((unitsV e f a).natAbs : Int)) (d := tenN (P.toNat - 1)) vt b0)
  have TE := Lib.hid (fun d t => tc_ten e f ((unitsV e f a).natAbs : Int) d t)
  unfold cdV at TC
  unfold BlT
  generalize ((unitsV e f a).natAbs : Int) = v at *
  generalize tenN (P.toNat - 1) = L at *
  clear vt
  go_enter Tryz.func111, Tryz.ntmps111
  go_wp2_with (go_at_call 158; refine (TT.out _).mono ?_; rintro rv w1 ⟨rfl, hb⟩; have ns : w.heap.size < w1.heap.size := hb.ltK; have n0 : w1.cell? ⟨w.heap.size, 0, none⟩ = some (.int .i64 e) := hb.cellK; have n1 : w1.cell? ⟨w.heap.size, 1, none⟩ = some (.int .i64 f) := hb.cellK; (first | (have nx := hx.trK hb; clear hx) | have nx := hb); clear hb; try clear hs; try clear g0; try clear g1; have hx := nx; clear nx; have hs := ns; clear ns; have g0 := n0; clear n0; have g1 := n1; clear n1)
  go_loopw [9] (fun x wr => ∃ t : Int, x = .int .i64 t ∧ -14 ≤ t ∧ t ≤ 14 ∧ RowKit.Hid (0 ≤ tcV e f v L t) ∧ w.heap.size < wr.heap.size ∧ wr.cell? ⟨w.heap.size, 0, none⟩ = some (.int .i64 e) ∧ wr.cell? ⟨w.heap.size, 1, none⟩ = some (.int .i64 f) ∧ Ext w wr) (fun x _ => (14 - intOf x).toNat)
  case atStart => exact ⟨-14, rfl, by omega, by omega, LO, by with_reducible assumption, by with_reducible assumption, by with_reducible assumption, Ext.auK⟩
  case round =>
    clear n0 n1
    obtain ⟨t, rfl, t0, t1, hq, hs, g0, g1, hx⟩ := hrel
    have t2 : t < 14 := by
      rcases Int.lt_or_eq_of_le t1 with h | h
      · exact h
      · exact absurd (show 0 ≤ tcV e f v L 14 by have := hq.out; rwa [h] at this) (by have := HI.out; omega)
    have ku : IntKind.i64.wrap (t + 1) = t + 1 := IntWalk.i64_in _ (by omega)
    have TK := Lib.hid (fun w => TC.out L (t + 1) ⟨⟨by omega, by omega⟩, by omega, by omega⟩ w)
    by_cases hc : 0 ≤ tcV e f v L (t + 1)
    · have HC := Lib.hid hc
      obtain ⟨c, hcc⟩ : ∃ c, tcV e f v L (t + 1) = c := ⟨_, rfl⟩
      rw [hcc] at TK hc
      clear hcc
      go_wp2_with (go_at_call 159; refine (TK.out _).mono ?_; rintro rv w1 ⟨rfl, hb⟩; have ns : w.heap.size < w1.heap.size := hb.ltK; have n0 : w1.cell? ⟨w.heap.size, 0, none⟩ = some (.int .i64 e) := hb.cellK; have n1 : w1.cell? ⟨w.heap.size, 1, none⟩ = some (.int .i64 f) := hb.cellK; (first | (have nx := hx.trK hb; clear hx) | have nx := hb); clear hb; try clear hs; try clear g0; try clear g1; have hx := nx; clear nx; have hs := ns; clear ns; have g0 := n0; clear n0; have g1 := n1; clear n1)
      try (go_region_held3 (fun w' => w'.cell? ⟨w.heap.size, 0, none⟩ = some (.int .i64 e) ∧ w'.cell? ⟨w.heap.size, 1, none⟩ = some (.int .i64 f) ∧ w.heap.size < w'.heap.size) ((refine ⟨?_, ?_, ?_⟩ <;> first | with_reducible assumption | ((rw [cell_setRow_far _ _ _ _ _ (by omega)]); with_reducible assumption) | ((rw [setRow_size]); with_reducible assumption) | ((repeat rw [World.cell?_setCell_far _ _ _ _ (by simp)]); with_reducible assumption) | (simp; done) | (simp [World.setCell]; first | done | omega) | (simp [go_sem, World.cell?_alloc_past, World.cell?_setCell_far, *]; done))) ((first | (go_at_call 159; refine (TK.out _).mono ?_; rintro rv w1 ⟨rfl, hb⟩; have ns : w.heap.size < w1.heap.size := hb.ltK; have n0 : w1.cell? ⟨w.heap.size, 0, none⟩ = some (.int .i64 e) := hb.cellK; have n1 : w1.cell? ⟨w.heap.size, 1, none⟩ = some (.int .i64 f) := hb.cellK; (first | (have nx := hx.trK hb; clear hx) | have nx := hb); clear hb; try clear hs; try clear g0; try clear g1; have hx := nx; clear nx; have hs := ns; clear ns; have g0 := n0; clear n0; have g1 := n1; clear n1) | fail)))
      try go_wp2_with fail
      go_roundw
      case rel => exact ⟨t + 1, rfl, by omega, by omega, HC, by with_reducible assumption, by with_reducible assumption, by with_reducible assumption, Ext.auK⟩
      case measure => simp [intOf]; omega
    · have NC : RowKit.Hid (tcV e f v (10 * L) t < 0) := Lib.hid (by rw [TE.out]; omega)
      obtain ⟨c, hcc⟩ : ∃ c, tcV e f v L (t + 1) = c := ⟨_, rfl⟩
      rw [hcc] at TK hc
      clear hcc
      have kL : IntKind.i64.wrap (10 * L) = 10 * L := IntWalk.i64_in _ (by omega)
      go_wp2_with (go_at_call 159; refine (TK.out _).mono ?_; rintro rv w1 ⟨rfl, hb⟩; have ns : w.heap.size < w1.heap.size := hb.ltK; have n0 : w1.cell? ⟨w.heap.size, 0, none⟩ = some (.int .i64 e) := hb.cellK; have n1 : w1.cell? ⟨w.heap.size, 1, none⟩ = some (.int .i64 f) := hb.cellK; (first | (have nx := hx.trK hb; clear hx) | have nx := hb); clear hb; try clear hs; try clear g0; try clear g1; have hx := nx; clear nx; have hs := ns; clear ns; have g0 := n0; clear n0; have g1 := n1; clear n1)
      try (go_region_held3 (fun w' => w'.cell? ⟨w.heap.size, 0, none⟩ = some (.int .i64 e) ∧ w'.cell? ⟨w.heap.size, 1, none⟩ = some (.int .i64 f) ∧ w.heap.size < w'.heap.size) ((refine ⟨?_, ?_, ?_⟩ <;> first | with_reducible assumption | ((rw [cell_setRow_far _ _ _ _ _ (by omega)]); with_reducible assumption) | ((rw [setRow_size]); with_reducible assumption) | ((repeat rw [World.cell?_setCell_far _ _ _ _ (by simp)]); with_reducible assumption) | (simp; done) | (simp [World.setCell]; first | done | omega) | (simp [go_sem, World.cell?_alloc_past, World.cell?_setCell_far, *]; done))) ((first | (go_at_call 159; refine (TK.out _).mono ?_; rintro rv w1 ⟨rfl, hb⟩; have ns : w.heap.size < w1.heap.size := hb.ltK; have n0 : w1.cell? ⟨w.heap.size, 0, none⟩ = some (.int .i64 e) := hb.cellK; have n1 : w1.cell? ⟨w.heap.size, 1, none⟩ = some (.int .i64 f) := hb.cellK; (first | (have nx := hx.trK hb; clear hx) | have nx := hb); clear hb; try clear hs; try clear g0; try clear g1; have hx := nx; clear nx; have hs := ns; clear ns; have g0 := n0; clear n0; have g1 := n1; clear n1) | fail)))
      try go_wp2_with fail
      clear TK TT
      go_loopw [10, 11] (fun x y wr => ∃ lo hi : Int, x = .int .i64 lo ∧ y = .int .i64 hi ∧ L ≤ lo ∧ lo < hi ∧ hi ≤ 10 * L ∧ RowKit.Hid (0 ≤ tcV e f v lo t) ∧ RowKit.Hid (tcV e f v hi t < 0) ∧ w.heap.size < wr.heap.size ∧ wr.cell? ⟨w.heap.size, 0, none⟩ = some (.int .i64 e) ∧ wr.cell? ⟨w.heap.size, 1, none⟩ = some (.int .i64 f) ∧ Ext w wr) (fun x y _ => (intOf y - intOf x).toNat)
      case atStart => exact ⟨L, 10 * L, rfl, rfl, by omega, by omega, by omega, hq, NC, by with_reducible assumption, by with_reducible assumption, by with_reducible assumption, Ext.auK⟩
      case round =>
        clear hx hs g0 g1
        obtain ⟨lo, hi, rfl, rfl, l0, l1, l2, q1, q2, hs, g0, g1, hx⟩ := hrel
        have kd : IntKind.i64.wrap (hi - lo) = hi - lo := IntWalk.i64_in _ (by omega)
        by_cases hm : 1 < hi - lo
        · have ks : IntKind.i64.wrap (lo + hi) = lo + hi := IntWalk.i64_in _ (by omega)
          obtain ⟨m, hmm⟩ : ∃ m, m = (lo + hi) / 2 := ⟨_, rfl⟩
          have td : (lo + hi).tdiv 2 = m := by rw [hmm]; exact Int.tdiv_eq_ediv_of_nonneg (by omega)
          have m0 : lo < m := by omega
          have m1 : m < hi := by omega
          have km : IntKind.i64.wrap m = m := IntWalk.i64_in _ (by omega)
          have TM := Lib.hid (fun w => TC.out m t ⟨⟨by omega, by omega⟩, by omega, by omega⟩ w)
          clear hmm
          by_cases hk : 0 ≤ tcV e f v m t
          · have HK := Lib.hid hk
            obtain ⟨cm, hcm⟩ : ∃ c, tcV e f v m t = c := ⟨_, rfl⟩
            rw [hcm] at TM hk
            clear hcm
            go_wp2_with (go_at_call 159; refine (TM.out _).mono ?_; rintro rv w1 ⟨rfl, hb⟩; have ns : w.heap.size < w1.heap.size := hb.ltK; have n0 : w1.cell? ⟨w.heap.size, 0, none⟩ = some (.int .i64 e) := hb.cellK; have n1 : w1.cell? ⟨w.heap.size, 1, none⟩ = some (.int .i64 f) := hb.cellK; (first | (have nx := hx.trK hb; clear hx) | have nx := hb); clear hb; try clear hs; try clear g0; try clear g1; have hx := nx; clear nx; have hs := ns; clear ns; have g0 := n0; clear n0; have g1 := n1; clear n1)
            try (go_region_held3 (fun w' => w'.cell? ⟨w.heap.size, 0, none⟩ = some (.int .i64 e) ∧ w'.cell? ⟨w.heap.size, 1, none⟩ = some (.int .i64 f) ∧ w.heap.size < w'.heap.size) ((refine ⟨?_, ?_, ?_⟩ <;> first | with_reducible assumption | ((rw [cell_setRow_far _ _ _ _ _ (by omega)]); with_reducible assumption) | ((rw [setRow_size]); with_reducible assumption) | ((repeat rw [World.cell?_setCell_far _ _ _ _ (by simp)]); with_reducible assumption) | (simp; done) | (simp [World.setCell]; first | done | omega) | (simp [go_sem, World.cell?_alloc_past, World.cell?_setCell_far, *]; done))) ((first | (go_at_call 159; refine (TM.out _).mono ?_; rintro rv w1 ⟨rfl, hb⟩; have ns : w.heap.size < w1.heap.size := hb.ltK; have n0 : w1.cell? ⟨w.heap.size, 0, none⟩ = some (.int .i64 e) := hb.cellK; have n1 : w1.cell? ⟨w.heap.size, 1, none⟩ = some (.int .i64 f) := hb.cellK; (first | (have nx := hx.trK hb; clear hx) | have nx := hb); clear hb; try clear hs; try clear g0; try clear g1; have hx := nx; clear nx; have hs := ns; clear ns; have g0 := n0; clear n0; have g1 := n1; clear n1) | fail)))
            try go_wp2_with fail
            go_roundw
            case rel => exact ⟨m, hi, rfl, rfl, by omega, by omega, by omega, HK, q2, by with_reducible assumption, by with_reducible assumption, by with_reducible assumption, Ext.auK⟩
            case measure => simp [intOf]; omega
          · have HK : RowKit.Hid (tcV e f v m t < 0) := Lib.hid (by omega)
            obtain ⟨cm, hcm⟩ : ∃ c, tcV e f v m t = c := ⟨_, rfl⟩
            rw [hcm] at TM hk
            clear hcm
            go_wp2_with (go_at_call 159; refine (TM.out _).mono ?_; rintro rv w1 ⟨rfl, hb⟩; have ns : w.heap.size < w1.heap.size := hb.ltK; have n0 : w1.cell? ⟨w.heap.size, 0, none⟩ = some (.int .i64 e) := hb.cellK; have n1 : w1.cell? ⟨w.heap.size, 1, none⟩ = some (.int .i64 f) := hb.cellK; (first | (have nx := hx.trK hb; clear hx) | have nx := hb); clear hb; try clear hs; try clear g0; try clear g1; have hx := nx; clear nx; have hs := ns; clear ns; have g0 := n0; clear n0; have g1 := n1; clear n1)
            try (go_region_held3 (fun w' => w'.cell? ⟨w.heap.size, 0, none⟩ = some (.int .i64 e) ∧ w'.cell? ⟨w.heap.size, 1, none⟩ = some (.int .i64 f) ∧ w.heap.size < w'.heap.size) ((refine ⟨?_, ?_, ?_⟩ <;> first | with_reducible assumption | ((rw [cell_setRow_far _ _ _ _ _ (by omega)]); with_reducible assumption) | ((rw [setRow_size]); with_reducible assumption) | ((repeat rw [World.cell?_setCell_far _ _ _ _ (by simp)]); with_reducible assumption) | (simp; done) | (simp [World.setCell]; first | done | omega) | (simp [go_sem, World.cell?_alloc_past, World.cell?_setCell_far, *]; done))) ((first | (go_at_call 159; refine (TM.out _).mono ?_; rintro rv w1 ⟨rfl, hb⟩; have ns : w.heap.size < w1.heap.size := hb.ltK; have n0 : w1.cell? ⟨w.heap.size, 0, none⟩ = some (.int .i64 e) := hb.cellK; have n1 : w1.cell? ⟨w.heap.size, 1, none⟩ = some (.int .i64 f) := hb.cellK; (first | (have nx := hx.trK hb; clear hx) | have nx := hb); clear hb; try clear hs; try clear g0; try clear g1; have hx := nx; clear nx; have hs := ns; clear ns; have g0 := n0; clear n0; have g1 := n1; clear n1) | fail)))
            try go_wp2_with fail
            go_roundw
            case rel => exact ⟨lo, m, rfl, rfl, by omega, by omega, by omega, q1, HK, by with_reducible assumption, by with_reducible assumption, by with_reducible assumption, Ext.auK⟩
            case measure => simp [intOf]; omega
        · have e1 : hi = lo + 1 := by omega
          have Q2 : RowKit.Hid (tcV e f v (lo + 1) t < 0) := by rw [← e1]; exact q2
          have E1 := Lib.hid e1
          clear e1
          go_wp2_with fail
          go_ret2
          exact ⟨lo, t, rfl, ⟨q1.out, Q2.out, l0, by have := E1.out; omega, t0, by omega⟩, Ext.auK⟩
end Go.Proofs.YtfgbndjhaiigbacGreatDoor

namespace Go.Proofs.YtfgbndjhaiigbacGreatDoor
open Go Go.RowKit
set_option linter.unusedSimpArgs false
set_option linter.unusedVariables false
set_option maxRecDepth 100000

/-- num / den times ten to the t is v units. -/
def RtP (e f v num den t : Int) : Prop := num * tenN t.toNat * pw (-unV e f) = v * den * tenN (-t).toNat

theorem rt_den {e f v num den t : Int} (h : RtP e f v num den t) (ht : 0 ≤ t) : RtP e f v num (den * 10) (t + 1) := by
  unfold RtP at h ⊢
  rw [show (-t).toNat = 0 by omega, show tenN 0 = 1 from rfl, Int.mul_one] at h
  rw [show (-(t + 1)).toNat = 0 by omega, show (t + 1).toNat = t.toNat + 1 by omega, show tenN (t.toNat + 1) = tenN t.toNat * 10 from rfl, show tenN 0 = 1 from rfl, Int.mul_one, ← Int.mul_assoc v, ← h]
  rw [← Int.mul_assoc num, Int.mul_assoc (num * tenN t.toNat) 10, Int.mul_comm 10, ← Int.mul_assoc]

theorem rt_num {e f v num den t : Int} (h : RtP e f v num den t) : RtP e f v (num * 10) den (t - 1) := by
  unfold RtP at h ⊢
  by_cases ht : 0 < t
  · rw [show (-t).toNat = 0 by omega, show t.toNat = (t - 1).toNat + 1 by omega, show tenN ((t - 1).toNat + 1) = tenN (t - 1).toNat * 10 from rfl] at h
    rw [show (-(t - 1)).toNat = 0 by omega, ← h, Int.mul_assoc num 10, Int.mul_comm 10]
  · rw [show t.toNat = 0 by omega] at h
    rw [show (t - 1).toNat = 0 by omega, show (-(t - 1)).toNat = (-t).toNat + 1 by omega, show tenN ((-t).toNat + 1) = tenN (-t).toNat * 10 from rfl, ← Int.mul_assoc, ← h]
    rw [Int.mul_assoc num 10, Int.mul_assoc (num * tenN 0), Int.mul_comm (pw (-unV e f)) 10, ← Int.mul_assoc (num * tenN 0), Int.mul_assoc num (tenN 0) 10, Int.mul_comm (tenN 0) 10]

theorem rt_cmp {e f v num den t d : Int} (h : RtP e f v num den t) (hd : 0 < den) : 0 ≤ tcV e f v d t ↔ d * den ≤ num := by
  have p := pw_pos (-unV e f)
  have k := tenN_pos t.toNat
  have m0 : 0 < tenN t.toNat * pw (-unV e f) := Int.mul_pos (by omega) (by omega)
  unfold RtP at h
  rw [tc_nonneg]
  have e1 : d * den * (tenN t.toNat * pw (-unV e f)) = d * tenN t.toNat * pw (-unV e f) * den := by
    rw [Int.mul_assoc d den, Int.mul_comm den, ← Int.mul_assoc d, ← Int.mul_assoc d]
  have e2 : num * (tenN t.toNat * pw (-unV e f)) = v * tenN (-t).toNat * den := by
    rw [← Int.mul_assoc, h, Int.mul_assoc v, Int.mul_comm den, ← Int.mul_assoc v]
  constructor
  · intro g
    have g2 := Int.mul_le_mul_of_nonneg_right g (show 0 ≤ den by omega)
    rw [← e1, ← e2] at g2
    exact Int.le_of_mul_le_mul_right g2 m0
  · intro g
    have g2 := Int.mul_le_mul_of_nonneg_right g (show 0 ≤ tenN t.toNat * pw (-unV e f) by omega)
    rw [e1, e2] at g2
    exact Int.le_of_mul_le_mul_right g2 hd

theorem rt_start {e f a : Int} (hf : finB e f a = true) (hz : (unitsV e f a) ≠ 0) : RtP e f ((unitsV e f a).natAbs : Int) (((odV (unitsV e f a)).natAbs : Int) * pw ((shE (unitsV e f a) (unV e f)) - min (shE (unitsV e f a) (unV e f)) 0)) (1 * pw (0 - min (shE (unitsV e f a) (unV e f)) 0)) 0 ∧ 0 < (((odV (unitsV e f a)).natAbs : Int) * pw ((shE (unitsV e f a) (unV e f)) - min (shE (unitsV e f a) (unV e f)) 0)) ∧ 0 < (1 * pw (0 - min (shE (unitsV e f a) (unV e f)) 0)) ∧ (1 * pw (0 - min (shE (unitsV e f a) (unV e f)) 0)) ≤ 16777216 ∧ (((odV (unitsV e f a)).natAbs : Int) * pw ((shE (unitsV e f a) (unV e f)) - min (shE (unitsV e f a) (unV e f)) 0)) ≤ 65536 := by
  have hap := (fin_pat hf).1
  have hg := (pat_iff.1 hap).1
  have ub := units_bd e f a hap
  have u := un_bd hg
  have vt := val_top hf
  obtain ⟨t0, t1, t2, t3⟩ := tz_spec (unitsV e f a) hz (by omega) (by omega)
  have hx : (shE (unitsV e f a) (unV e f)) = unV e f + tzV (unitsV e f a) := if_neg hz
  obtain ⟨x0, x1⟩ := xa_bd hf
  have hm : unV e f ≤ min (shE (unitsV e f a) (unV e f)) 0 := by omega
  have q := pw_pos (min (shE (unitsV e f a) (unV e f)) 0 - unV e f)
  have q2 := pw_pos (0 - min (shE (unitsV e f a) (unV e f)) 0)
  have q3 := pw_pos ((shE (unitsV e f a) (unV e f)) - min (shE (unitsV e f a) (unV e f)) 0)
  have e1 : (((odV (unitsV e f a)).natAbs : Int) * pw ((shE (unitsV e f a) (unV e f)) - min (shE (unitsV e f a) (unV e f)) 0)) * pw (min (shE (unitsV e f a) (unV e f)) 0 - unV e f) = ((unitsV e f a).natAbs : Int) := by
    rw [Int.mul_assoc, ← pw_add _ _ (by omega) (by omega), show (shE (unitsV e f a) (unV e f)) - min (shE (unitsV e f a) (unV e f)) 0 + (min (shE (unitsV e f a) (unV e f)) 0 - unV e f) = tzV (unitsV e f a) by omega]
    have p := pw_pos (tzV (unitsV e f a))
    have h : ((odV (unitsV e f a) * pw (tzV (unitsV e f a))).natAbs : Int) = ((odV (unitsV e f a)).natAbs : Int) * pw (tzV (unitsV e f a)) := by
      rw [Int.natAbs_mul, Int.natCast_mul, Int.natAbs_of_nonneg (show 0 ≤ pw (tzV (unitsV e f a)) by omega)]
    rw [← t2] at h
    exact h.symm
  have e2 : (1 * pw (0 - min (shE (unitsV e f a) (unV e f)) 0)) * pw (min (shE (unitsV e f a) (unV e f)) 0 - unV e f) = pw (-unV e f) := by
    rw [Int.one_mul, ← pw_add _ _ (by omega) (by omega)]
    congr 1
    omega
  have d2 := pw_le (a := 0 - min (shE (unitsV e f a) (unV e f)) 0) 24 16777216 rfl (by omega)
  have n0 : 0 < (((odV (unitsV e f a)).natAbs : Int) * pw ((shE (unitsV e f a) (unV e f)) - min (shE (unitsV e f a) (unV e f)) 0)) := by
    rcases Int.lt_or_le 0 (((odV (unitsV e f a)).natAbs : Int) * pw ((shE (unitsV e f a) (unV e f)) - min (shE (unitsV e f a) (unV e f)) 0)) with h | h
    · exact h
    · have := Int.mul_nonpos_of_nonpos_of_nonneg h (show 0 ≤ pw (min (shE (unitsV e f a) (unV e f)) 0 - unV e f) by omega)
      omega
  refine ⟨?_, n0, by omega, by omega, ?_⟩
  · unfold RtP
    rw [show ((0 : Int)).toNat = 0 from rfl, show (-(0 : Int)).toNat = 0 from rfl, show tenN 0 = 1 from rfl, Int.mul_one, Int.mul_one]
    have key : ∀ n d m : Int, n * (d * m) = n * m * d := fun n d m => by rw [Int.mul_comm d m, Int.mul_assoc]
    have k2 := key (((odV (unitsV e f a)).natAbs : Int) * pw ((shE (unitsV e f a) (unV e f)) - min (shE (unitsV e f a) (unV e f)) 0)) (1 * pw (0 - min (shE (unitsV e f a) (unV e f)) 0)) (pw (min (shE (unitsV e f a) (unV e f)) 0 - unV e f))
    rw [e1, e2] at k2
    exact k2
  · obtain ⟨o1, o2, _⟩ := un_small hap
    by_cases hx0 : 0 ≤ (shE (unitsV e f a) (unV e f))
    · have d1 : (1 * pw (0 - min (shE (unitsV e f a) (unV e f)) 0)) = 1 := by rw [show 0 - min (shE (unitsV e f a) (unV e f)) 0 = 0 by omega]; rfl
      have g : (((odV (unitsV e f a)).natAbs : Int) * pw ((shE (unitsV e f a) (unV e f)) - min (shE (unitsV e f a) (unV e f)) 0)) * pw (min (shE (unitsV e f a) (unV e f)) 0 - unV e f) ≤ 65536 * (1 * pw (0 - min (shE (unitsV e f a) (unV e f)) 0)) * pw (min (shE (unitsV e f a) (unV e f)) 0 - unV e f) := by rw [e1, Int.mul_assoc, e2]; exact vt
      have := Int.le_of_mul_le_mul_right g (by omega)
      omega
    · have d1 : (((odV (unitsV e f a)).natAbs : Int) * pw ((shE (unitsV e f a) (unV e f)) - min (shE (unitsV e f a) (unV e f)) 0)) = ((odV (unitsV e f a)).natAbs : Int) := by rw [show (shE (unitsV e f a) (unV e f)) - min (shE (unitsV e f a) (unV e f)) 0 = 0 by omega, show pw 0 = 1 from rfl, Int.mul_one]
      omega

/-- A cell's number. -/
def cellI (w : World) (b o : Nat) : Int := match w.cell? ⟨b, o, none⟩ with
  | some v => intOf v
  | none => 0

set_option maxHeartbeats 3200000 in
theorem ratio_any (e f a P : Int) (hf : finB e f a = true) (hz : (unitsV e f a) ≠ 0) (p0 : 1 ≤ P) (p1 : P ≤ 6) (w : World) :
    Calls Tryz.prog 114 #[.agg #[.int .i64 (a / pw (e + f)), .int .i64 ((odV (unitsV e f a)).natAbs : Int), .int .i64 (shE (unitsV e f a) (unV e f))], .int .i64 P] w fun rv w' => ∃ num den t : Int, rv = .returned (.agg #[.int .i64 num, .int .i64 den, .int .i64 t, .int .i64 P]) ∧ RtP e f ((unitsV e f a).natAbs : Int) num den t ∧ (0 < den ∧ den ≤ 16777216) ∧ (tenN (P.toNat - 1) * den ≤ num ∧ num < 10 * tenN (P.toNat - 1) * den) ∧ (-40 ≤ t ∧ t ≤ 40) ∧ Ext w w' := by
  obtain ⟨r1, r2, r3, r4, r5⟩ := rt_start hf hz
  obtain ⟨x0, x1⟩ := xa_bd hf
  obtain ⟨b0, b1⟩ := P_bd p0 p1
  have TG := Lib.hid (fun w => together_any (a / pw (e + f)) ((odV (unitsV e f a)).natAbs : Int) (shE (unitsV e f a) (unV e f)) 0 1 0 _ _ rfl rfl (by omega) (by omega) (by omega) (by omega) (IntWalk.i64_in _ (by omega)) (IntWalk.i64_in _ (by omega)) w)
  have kP : IntKind.i64.wrap (P - 1) = P - 1 := IntWalk.i64_in _ (by omega)
  have TH := Lib.hid (fun w => by have := tenTo_any P (by omega) w; rw [show P.toNat = (P.toNat - 1) + 1 by omega, show tenN (P.toNat - 1 + 1) = tenN (P.toNat - 1) * 10 from rfl] at this; exact this)
  have TL := Lib.hid (fun w => by have := tenTo_any (P - 1) (by omega) w; rw [show (P - 1).toNat = P.toNat - 1 by omega] at this; exact this)
  generalize tenN (P.toNat - 1) = L at *
  generalize (((odV (unitsV e f a)).natAbs : Int) * pw ((shE (unitsV e f a) (unV e f)) - min (shE (unitsV e f a) (unV e f)) 0)) = N0 at *
  generalize (1 * pw (0 - min (shE (unitsV e f a) (unV e f)) 0)) = D0 at *
  generalize ((unitsV e f a).natAbs : Int) = v at *
  generalize min (shE (unitsV e f a) (unV e f)) 0 = mn at *
  generalize (a / pw (e + f)) = G at *
  generalize ((odV (unitsV e f a)).natAbs : Int) = NA0 at *
  generalize (shE (unitsV e f a) (unV e f)) = X at *
  have R1 := Lib.hid r1
  clear r1
  go_enter Tryz.func114, Tryz.ntmps114
  go_wp2_with (go_at_call 162; refine (TG.out _).mono ?_; rintro rv w1 ⟨rfl, hb⟩; have s1 : w.heap.size + 1 < w1.heap.size := hb.lt (by first | (simp; done) | (simp; omega)); have y0 : w1.cell? ⟨w.heap.size + 1, 0, none⟩ = some (.int .i64 0) := (hb.cells _ _ (by first | (simp; done) | (simp; omega))).trans (by first | (simp; done) | (simp [go_sem]; done) | (simp [go_sem, *]; done)); have z0 : w1.frozen? ⟨w.heap.size + 1, 0, none⟩ = false := (hb.frz _ _ (by first | (simp; done) | (simp; omega))).trans (by first | (simp; done) | (simp [go_sem]; done) | (simp [go_sem, *]; done)); have y1 : w1.cell? ⟨w.heap.size + 1, 1, none⟩ = some (.int .i64 0) := (hb.cells _ _ (by first | (simp; done) | (simp; omega))).trans (by first | (simp; done) | (simp [go_sem]; done) | (simp [go_sem, *]; done)); have z1 : w1.frozen? ⟨w.heap.size + 1, 1, none⟩ = false := (hb.frz _ _ (by first | (simp; done) | (simp; omega))).trans (by first | (simp; done) | (simp [go_sem]; done) | (simp [go_sem, *]; done)); have y2 : w1.cell? ⟨w.heap.size + 1, 2, none⟩ = some (.int .i64 0) := (hb.cells _ _ (by first | (simp; done) | (simp; omega))).trans (by first | (simp; done) | (simp [go_sem]; done) | (simp [go_sem, *]; done)); have z2 : w1.frozen? ⟨w.heap.size + 1, 2, none⟩ = false := (hb.frz _ _ (by first | (simp; done) | (simp; omega))).trans (by first | (simp; done) | (simp [go_sem]; done) | (simp [go_sem, *]; done)); have y3 : w1.cell? ⟨w.heap.size + 1, 3, none⟩ = some (.int .i64 0) := (hb.cells _ _ (by first | (simp; done) | (simp; omega))).trans (by first | (simp; done) | (simp [go_sem]; done) | (simp [go_sem, *]; done)); have z3 : w1.frozen? ⟨w.heap.size + 1, 3, none⟩ = false := (hb.frz _ _ (by first | (simp; done) | (simp; omega))).trans (by first | (simp; done) | (simp [go_sem]; done) | (simp [go_sem, *]; done)); have hx : Ext w w1 := Ext.trans Ext.auK hb; clear hb)
  go_loopw [27] (fun _ wr => ∃ den t : Int, RowKit.Hid (RtP e f v N0 den t) ∧ 0 < den ∧ den ≤ 16777216 ∧ 0 ≤ t ∧ RowKit.Hid (tenN t.toNat ≤ den) ∧ RowKit.Hid ((t = 0 ∧ den = D0) ∨ L * den ≤ N0) ∧ wr.cell? ⟨w1.heap.size, 0, none⟩ = some (.int .i64 N0) ∧ wr.cell? ⟨w1.heap.size, 1, none⟩ = some (.int .i64 den) ∧ wr.cell? ⟨w1.heap.size, 2, none⟩ = some (.int .i64 t) ∧ wr.cell? ⟨w1.heap.size, 3, none⟩ = some (.int .i64 P) ∧ wr.cell? ⟨w.heap.size + 1, 0, none⟩ = some (.int .i64 0) ∧ wr.cell? ⟨w.heap.size + 1, 1, none⟩ = some (.int .i64 0) ∧ wr.cell? ⟨w.heap.size + 1, 2, none⟩ = some (.int .i64 0) ∧ wr.cell? ⟨w.heap.size + 1, 3, none⟩ = some (.int .i64 0) ∧ wr.frozen? ⟨w1.heap.size, 0, none⟩ = false ∧ wr.frozen? ⟨w1.heap.size, 1, none⟩ = false ∧ wr.frozen? ⟨w1.heap.size, 2, none⟩ = false ∧ wr.frozen? ⟨w1.heap.size, 3, none⟩ = false ∧ wr.frozen? ⟨w.heap.size + 1, 0, none⟩ = false ∧ wr.frozen? ⟨w.heap.size + 1, 1, none⟩ = false ∧ wr.frozen? ⟨w.heap.size + 1, 2, none⟩ = false ∧ wr.frozen? ⟨w.heap.size + 1, 3, none⟩ = false ∧ w1.heap.size < wr.heap.size ∧ Ext w wr) (fun _ wr => (N0 - cellI wr w1.heap.size 1).toNat)
  case atStart => exact ⟨D0, 0, R1, r3, r4, by omega, Lib.hid (by show 1 ≤ D0; omega), Lib.hid (Or.inl ⟨rfl, rfl⟩), by simp, by simp [go_sem], by simp [go_sem], by simp [go_sem], (by first | with_reducible assumption | (simp [go_sem, *]; done)), (by first | with_reducible assumption | (simp [go_sem, *]; done)), (by first | with_reducible assumption | (simp [go_sem, *]; done)), (by first | with_reducible assumption | (simp [go_sem, *]; done)), by simp [go_sem], by simp [go_sem], by simp [go_sem], by simp [go_sem], (by first | with_reducible assumption | (simp [go_sem, *]; done)), (by first | with_reducible assumption | (simp [go_sem, *]; done)), (by first | with_reducible assumption | (simp [go_sem, *]; done)), (by first | with_reducible assumption | (simp [go_sem, *]; done)), by simp, Ext.auK⟩
  case round =>
    clear hx
    obtain ⟨den, t, hR, d0, d1, t0, hT, hD, g0, g1, g2, g3, g4, g5, g6, g7, z0, z1, z2, z3, z4, z5, z6, z7, hs, hx⟩ := hrel
    have m0 : 0 ≤ den * (L * 10) := Int.mul_nonneg (by omega) (by omega)
    have m1 : den * (L * 10) ≤ 16777216 * 1000000 := Int.mul_le_mul d1 (by omega) (by omega) (by decide)
    have m2 : den * 10 ≤ den * (L * 10) := Int.mul_le_mul_of_nonneg_left (by omega) (by omega)
    have t8 : t < 8 := by
      apply Int.lt_of_not_ge
      intro h
      have := tenN_ge (k := t.toNat) 8 100000000 rfl (by omega)
      have := hT.out
      omega
    have kd : IntKind.i64.wrap (den * (L * 10)) = den * (L * 10) := IntWalk.i64_in _ (by omega)
    by_cases hc : den * (L * 10) ≤ N0
    · have kd2 : IntKind.i64.wrap (den * 10) = den * 10 := IntWalk.i64_in _ (by omega)
      have kt : IntKind.i64.wrap (t + 1) = t + 1 := IntWalk.i64_in _ (by omega)
      have e1 : L * (den * 10) = den * (L * 10) := by rw [Int.mul_comm L, Int.mul_assoc, Int.mul_comm 10 L]
      have NR_ : RowKit.Hid (RtP e f v N0 (den * 10) (t + 1)) := Lib.hid (rt_den hR.out t0)
      have NT : RowKit.Hid (tenN (t + 1).toNat ≤ den * 10) := Lib.hid (by rw [show (t + 1).toNat = t.toNat + 1 by omega]; show tenN t.toNat * 10 ≤ _; have := hT.out; omega)
      have ND : RowKit.Hid ((t + 1 = 0 ∧ den * 10 = D0) ∨ L * (den * 10) ≤ N0) := Lib.hid (Or.inr (by rw [e1]; exact hc))
      have NB1 : RowKit.Hid (0 < den * 10 ∧ den * 10 ≤ 16777216 ∧ 0 ≤ t + 1 ∧ (N0 - den * 10).toNat < (N0 - den).toNat) := Lib.hid ⟨by omega, by omega, by omega, by omega⟩
      have C2 : RowKit.Hid (cellI wr w1.heap.size 1 = den) := Lib.hid (by unfold cellI; rw [g1]; rfl)
      clear e1 m0 m1 m2
      generalize hQ : den * (L * 10) = Q at *
      go_wp2_with fail
      go_region_held3 (fun w' => w'.cell? ⟨w1.heap.size, 0, none⟩ = some (.int .i64 N0) ∧ w'.cell? ⟨w1.heap.size, 1, none⟩ = some (.int .i64 den) ∧ w'.cell? ⟨w1.heap.size, 2, none⟩ = some (.int .i64 t) ∧ w'.cell? ⟨w1.heap.size, 3, none⟩ = some (.int .i64 P) ∧ w'.cell? ⟨w.heap.size + 1, 0, none⟩ = some (.int .i64 0) ∧ w'.cell? ⟨w.heap.size + 1, 1, none⟩ = some (.int .i64 0) ∧ w'.cell? ⟨w.heap.size + 1, 2, none⟩ = some (.int .i64 0) ∧ w'.cell? ⟨w.heap.size + 1, 3, none⟩ = some (.int .i64 0) ∧ w'.frozen? ⟨w1.heap.size, 0, none⟩ = false ∧ w'.frozen? ⟨w1.heap.size, 1, none⟩ = false ∧ w'.frozen? ⟨w1.heap.size, 2, none⟩ = false ∧ w'.frozen? ⟨w1.heap.size, 3, none⟩ = false ∧ w'.frozen? ⟨w.heap.size + 1, 0, none⟩ = false ∧ w'.frozen? ⟨w.heap.size + 1, 1, none⟩ = false ∧ w'.frozen? ⟨w.heap.size + 1, 2, none⟩ = false ∧ w'.frozen? ⟨w.heap.size + 1, 3, none⟩ = false ∧ w1.heap.size < w'.heap.size) ((refine ⟨?_, ?_, ?_, ?_, ?_, ?_, ?_, ?_, ?_, ?_, ?_, ?_, ?_, ?_, ?_, ?_, ?_⟩ <;> first | with_reducible assumption | ((rw [cell_setRow_far _ _ _ _ _ (by omega)]); with_reducible assumption) | ((rw [setRow_size]); with_reducible assumption) | ((repeat rw [World.cell?_setCell_far _ _ _ _ (by simp)]); with_reducible assumption) | (simp; done) | (simp [World.setCell]; first | done | omega) | (simp [go_sem, World.cell?_alloc_past, World.cell?_setCell_far, *]; done))) ((first | (go_at_call 163; refine (TH.out _).mono ?_; rintro rv w2 ⟨rfl, hb⟩; have ns : w1.heap.size < w2.heap.size := hb.ltK; have n0 : w2.cell? ⟨w1.heap.size, 0, none⟩ = some (.int .i64 N0) := hb.cellK; have n1 : w2.cell? ⟨w1.heap.size, 1, none⟩ = some (.int .i64 den) := hb.cellK; have n2 : w2.cell? ⟨w1.heap.size, 2, none⟩ = some (.int .i64 t) := hb.cellK; have n3 : w2.cell? ⟨w1.heap.size, 3, none⟩ = some (.int .i64 P) := hb.cellK; have n4 : w2.cell? ⟨w.heap.size + 1, 0, none⟩ = some (.int .i64 0) := hb.cellK; have n5 : w2.cell? ⟨w.heap.size + 1, 1, none⟩ = some (.int .i64 0) := hb.cellK; have n6 : w2.cell? ⟨w.heap.size + 1, 2, none⟩ = some (.int .i64 0) := hb.cellK; have n7 : w2.cell? ⟨w.heap.size + 1, 3, none⟩ = some (.int .i64 0) := hb.cellK; have nz0 : w2.frozen? ⟨w1.heap.size, 0, none⟩ = false := hb.frzK; have nz1 : w2.frozen? ⟨w1.heap.size, 1, none⟩ = false := hb.frzK; have nz2 : w2.frozen? ⟨w1.heap.size, 2, none⟩ = false := hb.frzK; have nz3 : w2.frozen? ⟨w1.heap.size, 3, none⟩ = false := hb.frzK; have nz4 : w2.frozen? ⟨w.heap.size + 1, 0, none⟩ = false := hb.frzK; have nz5 : w2.frozen? ⟨w.heap.size + 1, 1, none⟩ = false := hb.frzK; have nz6 : w2.frozen? ⟨w.heap.size + 1, 2, none⟩ = false := hb.frzK; have nz7 : w2.frozen? ⟨w.heap.size + 1, 3, none⟩ = false := hb.frzK; (first | (have nx := hx.trK hb; clear hx) | have nx := hb); clear hb; try clear hs; try clear g0; try clear g1; try clear g2; try clear g3; try clear g4; try clear g5; try clear g6; try clear g7; try clear z0; try clear z1; try clear z2; try clear z3; try clear z4; try clear z5; try clear z6; try clear z7; have hx := nx; clear nx; have hs := ns; clear ns; have g0 := n0; clear n0; have g1 := n1; clear n1; have g2 := n2; clear n2; have g3 := n3; clear n3; have g4 := n4; clear n4; have g5 := n5; clear n5; have g6 := n6; clear n6; have g7 := n7; clear n7; have z0 := nz0; clear nz0; have z1 := nz1; clear nz1; have z2 := nz2; clear nz2; have z3 := nz3; clear nz3; have z4 := nz4; clear nz4; have z5 := nz5; clear nz5; have z6 := nz6; clear nz6; have z7 := nz7; clear nz7)))
      all_goals (try go_wp2_with fail)
      go_roundw
      case rel => exact ⟨den * 10, t + 1, NR_, NB1.out.1, NB1.out.2.1, NB1.out.2.2.1, NT, ND, (by first | with_reducible assumption | (simp [go_sem, *]; done) | ((repeat first | rw [cell_set_far _ _ _ _ _ _ (by omega)] | rw [World.cell?_setCell_far _ _ _ _ (by simp)]); first | with_reducible assumption | (simp [go_sem, *]; done)) | (simp [go_sem, World.setCell, *]; done)), (by first | with_reducible assumption | (simp [go_sem, *]; done) | ((repeat first | rw [cell_set_far _ _ _ _ _ _ (by omega)] | rw [World.cell?_setCell_far _ _ _ _ (by simp)]); first | with_reducible assumption | (simp [go_sem, *]; done)) | (simp [go_sem, World.setCell, *]; done)), (by first | with_reducible assumption | (simp [go_sem, *]; done) | ((repeat first | rw [cell_set_far _ _ _ _ _ _ (by omega)] | rw [World.cell?_setCell_far _ _ _ _ (by simp)]); first | with_reducible assumption | (simp [go_sem, *]; done)) | (simp [go_sem, World.setCell, *]; done)), (by first | with_reducible assumption | (simp [go_sem, *]; done) | ((repeat first | rw [cell_set_far _ _ _ _ _ _ (by omega)] | rw [World.cell?_setCell_far _ _ _ _ (by simp)]); first | with_reducible assumption | (simp [go_sem, *]; done)) | (simp [go_sem, World.setCell, *]; done)), (by first | with_reducible assumption | (simp [go_sem, *]; done) | ((repeat first | rw [cell_set_far _ _ _ _ _ _ (by omega)] | rw [World.cell?_setCell_far _ _ _ _ (by simp)]); first | with_reducible assumption | (simp [go_sem, *]; done)) | (simp [go_sem, World.setCell, *]; done)), (by first | with_reducible assumption | (simp [go_sem, *]; done) | ((repeat first | rw [cell_set_far _ _ _ _ _ _ (by omega)] | rw [World.cell?_setCell_far _ _ _ _ (by simp)]); first | with_reducible assumption | (simp [go_sem, *]; done)) | (simp [go_sem, World.setCell, *]; done)), (by first | with_reducible assumption | (simp [go_sem, *]; done) | ((repeat first | rw [cell_set_far _ _ _ _ _ _ (by omega)] | rw [World.cell?_setCell_far _ _ _ _ (by simp)]); first | with_reducible assumption | (simp [go_sem, *]; done)) | (simp [go_sem, World.setCell, *]; done)), (by first | with_reducible assumption | (simp [go_sem, *]; done) | ((repeat first | rw [cell_set_far _ _ _ _ _ _ (by omega)] | rw [World.cell?_setCell_far _ _ _ _ (by simp)]); first | with_reducible assumption | (simp [go_sem, *]; done)) | (simp [go_sem, World.setCell, *]; done)), (by first | with_reducible assumption | (simp [go_sem, *]; done) | ((repeat first | rw [cell_set_far _ _ _ _ _ _ (by omega)] | rw [World.cell?_setCell_far _ _ _ _ (by simp)]); first | with_reducible assumption | (simp [go_sem, *]; done)) | (simp [go_sem, World.setCell, *]; done)), (by first | with_reducible assumption | (simp [go_sem, *]; done) | ((repeat first | rw [cell_set_far _ _ _ _ _ _ (by omega)] | rw [World.cell?_setCell_far _ _ _ _ (by simp)]); first | with_reducible assumption | (simp [go_sem, *]; done)) | (simp [go_sem, World.setCell, *]; done)), (by first | with_reducible assumption | (simp [go_sem, *]; done) | ((repeat first | rw [cell_set_far _ _ _ _ _ _ (by omega)] | rw [World.cell?_setCell_far _ _ _ _ (by simp)]); first | with_reducible assumption | (simp [go_sem, *]; done)) | (simp [go_sem, World.setCell, *]; done)), (by first | with_reducible assumption | (simp [go_sem, *]; done) | ((repeat first | rw [cell_set_far _ _ _ _ _ _ (by omega)] | rw [World.cell?_setCell_far _ _ _ _ (by simp)]); first | with_reducible assumption | (simp [go_sem, *]; done)) | (simp [go_sem, World.setCell, *]; done)), (by first | with_reducible assumption | (simp [go_sem, *]; done) | ((repeat first | rw [cell_set_far _ _ _ _ _ _ (by omega)] | rw [World.cell?_setCell_far _ _ _ _ (by simp)]); first | with_reducible assumption | (simp [go_sem, *]; done)) | (simp [go_sem, World.setCell, *]; done)), (by first | with_reducible assumption | (simp [go_sem, *]; done) | ((repeat first | rw [cell_set_far _ _ _ _ _ _ (by omega)] | rw [World.cell?_setCell_far _ _ _ _ (by simp)]); first | with_reducible assumption | (simp [go_sem, *]; done)) | (simp [go_sem, World.setCell, *]; done)), (by first | with_reducible assumption | (simp [go_sem, *]; done) | ((repeat first | rw [cell_set_far _ _ _ _ _ _ (by omega)] | rw [World.cell?_setCell_far _ _ _ _ (by simp)]); first | with_reducible assumption | (simp [go_sem, *]; done)) | (simp [go_sem, World.setCell, *]; done)), (by first | with_reducible assumption | (simp [go_sem, *]; done) | ((repeat first | rw [cell_set_far _ _ _ _ _ _ (by omega)] | rw [World.cell?_setCell_far _ _ _ _ (by simp)]); first | with_reducible assumption | (simp [go_sem, *]; done)) | (simp [go_sem, World.setCell, *]; done)), (by first | with_reducible assumption | (simp [World.setCell]; done) | (simp [World.setCell]; omega)), Ext.auK⟩
      case measure =>
        have c1 : cellI ((w2.setCell ⟨w1.heap.size, 1, none⟩ (.int .i64 (den * 10))).setCell ⟨w1.heap.size, 2, none⟩ (.int .i64 (t + 1))) w1.heap.size 1 = den * 10 := by
          have q : ((w2.setCell ⟨w1.heap.size, 1, none⟩ (.int .i64 (den * 10))).setCell ⟨w1.heap.size, 2, none⟩ (.int .i64 (t + 1))).cell? ⟨w1.heap.size, 1, none⟩ = some (.int .i64 (den * 10)) := (by first | with_reducible assumption | (simp [go_sem, *]; done) | ((repeat first | rw [cell_set_far _ _ _ _ _ _ (by omega)] | rw [World.cell?_setCell_far _ _ _ _ (by simp)]); first | with_reducible assumption | (simp [go_sem, *]; done)) | (simp [go_sem, World.setCell, *]; done))
          unfold cellI; rw [q]; rfl
        rw [c1, C2.out]
        exact NB1.out.2.2.2
    · have hlt : N0 < 10 * L * den := by
        have e1 : 10 * L * den = den * (L * 10) := by rw [Int.mul_comm den, Int.mul_comm 10 L]
        omega
      clear m0 m1 m2
      generalize hQ : den * (L * 10) = Q at *
      go_wp2_with fail
      go_region_held3 (fun w' => w'.cell? ⟨w1.heap.size, 0, none⟩ = some (.int .i64 N0) ∧ w'.cell? ⟨w1.heap.size, 1, none⟩ = some (.int .i64 den) ∧ w'.cell? ⟨w1.heap.size, 2, none⟩ = some (.int .i64 t) ∧ w'.cell? ⟨w1.heap.size, 3, none⟩ = some (.int .i64 P) ∧ w'.cell? ⟨w.heap.size + 1, 0, none⟩ = some (.int .i64 0) ∧ w'.cell? ⟨w.heap.size + 1, 1, none⟩ = some (.int .i64 0) ∧ w'.cell? ⟨w.heap.size + 1, 2, none⟩ = some (.int .i64 0) ∧ w'.cell? ⟨w.heap.size + 1, 3, none⟩ = some (.int .i64 0) ∧ w'.frozen? ⟨w1.heap.size, 0, none⟩ = false ∧ w'.frozen? ⟨w1.heap.size, 1, none⟩ = false ∧ w'.frozen? ⟨w1.heap.size, 2, none⟩ = false ∧ w'.frozen? ⟨w1.heap.size, 3, none⟩ = false ∧ w'.frozen? ⟨w.heap.size + 1, 0, none⟩ = false ∧ w'.frozen? ⟨w.heap.size + 1, 1, none⟩ = false ∧ w'.frozen? ⟨w.heap.size + 1, 2, none⟩ = false ∧ w'.frozen? ⟨w.heap.size + 1, 3, none⟩ = false ∧ w1.heap.size < w'.heap.size) ((refine ⟨?_, ?_, ?_, ?_, ?_, ?_, ?_, ?_, ?_, ?_, ?_, ?_, ?_, ?_, ?_, ?_, ?_⟩ <;> first | with_reducible assumption | ((rw [cell_setRow_far _ _ _ _ _ (by omega)]); with_reducible assumption) | ((rw [setRow_size]); with_reducible assumption) | ((repeat rw [World.cell?_setCell_far _ _ _ _ (by simp)]); with_reducible assumption) | (simp; done) | (simp [World.setCell]; first | done | omega) | (simp [go_sem, World.cell?_alloc_past, World.cell?_setCell_far, *]; done))) ((first | (go_at_call 163; refine (TH.out _).mono ?_; rintro rv w2 ⟨rfl, hb⟩; have ns : w1.heap.size < w2.heap.size := hb.ltK; have n0 : w2.cell? ⟨w1.heap.size, 0, none⟩ = some (.int .i64 N0) := hb.cellK; have n1 : w2.cell? ⟨w1.heap.size, 1, none⟩ = some (.int .i64 den) := hb.cellK; have n2 : w2.cell? ⟨w1.heap.size, 2, none⟩ = some (.int .i64 t) := hb.cellK; have n3 : w2.cell? ⟨w1.heap.size, 3, none⟩ = some (.int .i64 P) := hb.cellK; have n4 : w2.cell? ⟨w.heap.size + 1, 0, none⟩ = some (.int .i64 0) := hb.cellK; have n5 : w2.cell? ⟨w.heap.size + 1, 1, none⟩ = some (.int .i64 0) := hb.cellK; have n6 : w2.cell? ⟨w.heap.size + 1, 2, none⟩ = some (.int .i64 0) := hb.cellK; have n7 : w2.cell? ⟨w.heap.size + 1, 3, none⟩ = some (.int .i64 0) := hb.cellK; have nz0 : w2.frozen? ⟨w1.heap.size, 0, none⟩ = false := hb.frzK; have nz1 : w2.frozen? ⟨w1.heap.size, 1, none⟩ = false := hb.frzK; have nz2 : w2.frozen? ⟨w1.heap.size, 2, none⟩ = false := hb.frzK; have nz3 : w2.frozen? ⟨w1.heap.size, 3, none⟩ = false := hb.frzK; have nz4 : w2.frozen? ⟨w.heap.size + 1, 0, none⟩ = false := hb.frzK; have nz5 : w2.frozen? ⟨w.heap.size + 1, 1, none⟩ = false := hb.frzK; have nz6 : w2.frozen? ⟨w.heap.size + 1, 2, none⟩ = false := hb.frzK; have nz7 : w2.frozen? ⟨w.heap.size + 1, 3, none⟩ = false := hb.frzK; (first | (have nx := hx.trK hb; clear hx) | have nx := hb); clear hb; try clear hs; try clear g0; try clear g1; try clear g2; try clear g3; try clear g4; try clear g5; try clear g6; try clear g7; try clear z0; try clear z1; try clear z2; try clear z3; try clear z4; try clear z5; try clear z6; try clear z7; have hx := nx; clear nx; have hs := ns; clear ns; have g0 := n0; clear n0; have g1 := n1; clear n1; have g2 := n2; clear n2; have g3 := n3; clear n3; have g4 := n4; clear n4; have g5 := n5; clear n5; have g6 := n6; clear n6; have g7 := n7; clear n7; have z0 := nz0; clear nz0; have z1 := nz1; clear nz1; have z2 := nz2; clear nz2; have z3 := nz3; clear nz3; have z4 := nz4; clear nz4; have z5 := nz5; clear nz5; have z6 := nz6; clear nz6; have z7 := nz7; clear nz7)))
      all_goals (try go_wp2_with fail)
      have hT1 := hT.out
      have LB : RowKit.Hid (den = D0 ∧ t = 0 ∨ L * den ≤ N0) := Lib.hid (hD.out.imp (fun h => ⟨h.2, h.1⟩) id)
      clear hQ hc kd hD hT TH
      have mL0 : 0 ≤ L * den := Int.mul_nonneg (by omega) (by omega)
      have mL1 : L * den ≤ 100000 * 16777216 := Int.mul_le_mul b1 d1 (by omega) (by decide)
      have eL : 10 * L * den = 10 * (L * den) := Int.mul_assoc _ _ _
      have eM : den * L = L * den := Int.mul_comm _ _
      rw [eL] at hlt
      have kdL : IntKind.i64.wrap (den * L) = L * den := by rw [eM]; exact IntWalk.i64_in _ (by omega)
      clear eL eM
      obtain ⟨M, hM⟩ : ∃ M, L * den = M := ⟨_, rfl⟩
      rw [hM] at hlt mL0 mL1 kdL
      have EM := Lib.hid hM
      clear hM
      go_loopw [44] (fun _ wr => ∃ (num : Int) (j : Nat), RowKit.Hid (RtP e f v num den (t - (j : Int))) ∧ 0 < num ∧ num < 10 * M ∧ RowKit.Hid (tenN j ≤ num) ∧ wr.cell? ⟨w1.heap.size, 0, none⟩ = some (.int .i64 num) ∧ wr.cell? ⟨w1.heap.size, 1, none⟩ = some (.int .i64 den) ∧ wr.cell? ⟨w1.heap.size, 2, none⟩ = some (.int .i64 (t - (j : Int))) ∧ wr.cell? ⟨w1.heap.size, 3, none⟩ = some (.int .i64 P) ∧ wr.cell? ⟨w.heap.size + 1, 0, none⟩ = some (.int .i64 0) ∧ wr.cell? ⟨w.heap.size + 1, 1, none⟩ = some (.int .i64 0) ∧ wr.cell? ⟨w.heap.size + 1, 2, none⟩ = some (.int .i64 0) ∧ wr.cell? ⟨w.heap.size + 1, 3, none⟩ = some (.int .i64 0) ∧ wr.frozen? ⟨w1.heap.size, 0, none⟩ = false ∧ wr.frozen? ⟨w1.heap.size, 1, none⟩ = false ∧ wr.frozen? ⟨w1.heap.size, 2, none⟩ = false ∧ wr.frozen? ⟨w1.heap.size, 3, none⟩ = false ∧ wr.frozen? ⟨w.heap.size + 1, 0, none⟩ = false ∧ wr.frozen? ⟨w.heap.size + 1, 1, none⟩ = false ∧ wr.frozen? ⟨w.heap.size + 1, 2, none⟩ = false ∧ wr.frozen? ⟨w.heap.size + 1, 3, none⟩ = false ∧ w1.heap.size < wr.heap.size ∧ Ext w wr) (fun _ wr => (M - cellI wr w1.heap.size 0).toNat)
      case atStart => exact ⟨N0, 0, by simpa using hR, r2, hlt, Lib.hid (by show 1 ≤ N0; omega), by with_reducible assumption, by with_reducible assumption, by simpa using g2, by with_reducible assumption, by with_reducible assumption, by with_reducible assumption, by with_reducible assumption, by with_reducible assumption, by with_reducible assumption, by with_reducible assumption, by with_reducible assumption, by with_reducible assumption, by with_reducible assumption, by with_reducible assumption, by with_reducible assumption, by with_reducible assumption, by with_reducible assumption, Ext.auK⟩
      case round =>
        clear hx g0 z0 g1 z1 g2 z2 g3 z3 g4 z4 g5 z5 g6 z6 g7 z7 hs
        obtain ⟨num, j, hR2, n0, n1, hJ, g0, g1, g2, g3, g4, g5, g6, g7, z0, z1, z2, z3, z4, z5, z6, z7, hs, hx⟩ := hrel
        have j14 : j < 14 := by
          apply Nat.lt_of_not_ge
          intro h
          have := tenN_ge (k := j) 14 100000000000000 rfl h
          have := hJ.out
          omega
        by_cases hc : num < M
        · have kn : IntKind.i64.wrap (num * 10) = num * 10 := IntWalk.i64_in _ (by omega)
          have kt : IntKind.i64.wrap (t - (j : Int) - 1) = t - (j : Int) - 1 := IntWalk.i64_in _ (by omega)
          have et : t - (j : Int) - 1 = t - ((j + 1 : Nat) : Int) := by push_cast; omega
          have NR_ : RowKit.Hid (RtP e f v (num * 10) den (t - ((j + 1 : Nat) : Int))) := Lib.hid (by rw [← et]; exact rt_num hR2.out)
          have NT : RowKit.Hid (tenN (j + 1) ≤ num * 10) := Lib.hid (by show tenN j * 10 ≤ _; have := hJ.out; omega)
          have NB1 : RowKit.Hid (0 < num * 10 ∧ num * 10 < 10 * M ∧ (M - num * 10).toNat < (M - num).toNat) := Lib.hid ⟨by omega, by omega, by omega⟩
          have C2 : RowKit.Hid (cellI wr w1.heap.size 0 = num) := Lib.hid (by unfold cellI; rw [g0]; rfl)
          have ET := Lib.hid et
          clear et
          generalize t - (j : Int) = tj at *
          go_wp2_with fail
          go_region_held3 (fun w' => w'.cell? ⟨w1.heap.size, 0, none⟩ = some (.int .i64 num) ∧ w'.cell? ⟨w1.heap.size, 1, none⟩ = some (.int .i64 den) ∧ w'.cell? ⟨w1.heap.size, 2, none⟩ = some (.int .i64 tj) ∧ w'.cell? ⟨w1.heap.size, 3, none⟩ = some (.int .i64 P) ∧ w'.cell? ⟨w.heap.size + 1, 0, none⟩ = some (.int .i64 0) ∧ w'.cell? ⟨w.heap.size + 1, 1, none⟩ = some (.int .i64 0) ∧ w'.cell? ⟨w.heap.size + 1, 2, none⟩ = some (.int .i64 0) ∧ w'.cell? ⟨w.heap.size + 1, 3, none⟩ = some (.int .i64 0) ∧ w'.frozen? ⟨w1.heap.size, 0, none⟩ = false ∧ w'.frozen? ⟨w1.heap.size, 1, none⟩ = false ∧ w'.frozen? ⟨w1.heap.size, 2, none⟩ = false ∧ w'.frozen? ⟨w1.heap.size, 3, none⟩ = false ∧ w'.frozen? ⟨w.heap.size + 1, 0, none⟩ = false ∧ w'.frozen? ⟨w.heap.size + 1, 1, none⟩ = false ∧ w'.frozen? ⟨w.heap.size + 1, 2, none⟩ = false ∧ w'.frozen? ⟨w.heap.size + 1, 3, none⟩ = false ∧ w1.heap.size < w'.heap.size) ((refine ⟨?_, ?_, ?_, ?_, ?_, ?_, ?_, ?_, ?_, ?_, ?_, ?_, ?_, ?_, ?_, ?_, ?_⟩ <;> first | with_reducible assumption | ((rw [cell_setRow_far _ _ _ _ _ (by omega)]); with_reducible assumption) | ((rw [setRow_size]); with_reducible assumption) | ((repeat rw [World.cell?_setCell_far _ _ _ _ (by simp)]); with_reducible assumption) | (simp; done) | (simp [World.setCell]; first | done | omega) | (simp [go_sem, World.cell?_alloc_past, World.cell?_setCell_far, *]; done))) ((first | (go_at_call 163; refine (TL.out _).mono ?_; rintro rv w3 ⟨rfl, hb⟩; have ns : w1.heap.size < w3.heap.size := hb.ltK; have n0 : w3.cell? ⟨w1.heap.size, 0, none⟩ = some (.int .i64 num) := hb.cellK; have n1 : w3.cell? ⟨w1.heap.size, 1, none⟩ = some (.int .i64 den) := hb.cellK; have n2 : w3.cell? ⟨w1.heap.size, 2, none⟩ = some (.int .i64 tj) := hb.cellK; have n3 : w3.cell? ⟨w1.heap.size, 3, none⟩ = some (.int .i64 P) := hb.cellK; have n4 : w3.cell? ⟨w.heap.size + 1, 0, none⟩ = some (.int .i64 0) := hb.cellK; have n5 : w3.cell? ⟨w.heap.size + 1, 1, none⟩ = some (.int .i64 0) := hb.cellK; have n6 : w3.cell? ⟨w.heap.size + 1, 2, none⟩ = some (.int .i64 0) := hb.cellK; have n7 : w3.cell? ⟨w.heap.size + 1, 3, none⟩ = some (.int .i64 0) := hb.cellK; have nz0 : w3.frozen? ⟨w1.heap.size, 0, none⟩ = false := hb.frzK; have nz1 : w3.frozen? ⟨w1.heap.size, 1, none⟩ = false := hb.frzK; have nz2 : w3.frozen? ⟨w1.heap.size, 2, none⟩ = false := hb.frzK; have nz3 : w3.frozen? ⟨w1.heap.size, 3, none⟩ = false := hb.frzK; have nz4 : w3.frozen? ⟨w.heap.size + 1, 0, none⟩ = false := hb.frzK; have nz5 : w3.frozen? ⟨w.heap.size + 1, 1, none⟩ = false := hb.frzK; have nz6 : w3.frozen? ⟨w.heap.size + 1, 2, none⟩ = false := hb.frzK; have nz7 : w3.frozen? ⟨w.heap.size + 1, 3, none⟩ = false := hb.frzK; (first | (have nx := hx.trK hb; clear hx) | have nx := hb); clear hb; try clear hs; try clear g0; try clear g1; try clear g2; try clear g3; try clear g4; try clear g5; try clear g6; try clear g7; try clear z0; try clear z1; try clear z2; try clear z3; try clear z4; try clear z5; try clear z6; try clear z7; have hx := nx; clear nx; have hs := ns; clear ns; have g0 := n0; clear n0; have g1 := n1; clear n1; have g2 := n2; clear n2; have g3 := n3; clear n3; have g4 := n4; clear n4; have g5 := n5; clear n5; have g6 := n6; clear n6; have g7 := n7; clear n7; have z0 := nz0; clear nz0; have z1 := nz1; clear nz1; have z2 := nz2; clear nz2; have z3 := nz3; clear nz3; have z4 := nz4; clear nz4; have z5 := nz5; clear nz5; have z6 := nz6; clear nz6; have z7 := nz7; clear nz7)))
          all_goals (try go_wp2_with fail)
          go_roundw
          case rel => exact ⟨num * 10, j + 1, NR_, NB1.out.1, NB1.out.2.1, NT, (by first | with_reducible assumption | (simp [go_sem, *]; done) | ((repeat first | rw [cell_set_far _ _ _ _ _ _ (by omega)] | rw [World.cell?_setCell_far _ _ _ _ (by simp)]); first | with_reducible assumption | (simp [go_sem, *]; done)) | (simp [go_sem, World.setCell, *]; done)), (by first | with_reducible assumption | (simp [go_sem, *]; done) | ((repeat first | rw [cell_set_far _ _ _ _ _ _ (by omega)] | rw [World.cell?_setCell_far _ _ _ _ (by simp)]); first | with_reducible assumption | (simp [go_sem, *]; done)) | (simp [go_sem, World.setCell, *]; done)), (by rw [← ET.out]; exact (by first | with_reducible assumption | (simp [go_sem, *]; done) | ((repeat first | rw [cell_set_far _ _ _ _ _ _ (by omega)] | rw [World.cell?_setCell_far _ _ _ _ (by simp)]); first | with_reducible assumption | (simp [go_sem, *]; done)) | (simp [go_sem, World.setCell, *]; done))), (by first | with_reducible assumption | (simp [go_sem, *]; done) | ((repeat first | rw [cell_set_far _ _ _ _ _ _ (by omega)] | rw [World.cell?_setCell_far _ _ _ _ (by simp)]); first | with_reducible assumption | (simp [go_sem, *]; done)) | (simp [go_sem, World.setCell, *]; done)), (by first | with_reducible assumption | (simp [go_sem, *]; done) | ((repeat first | rw [cell_set_far _ _ _ _ _ _ (by omega)] | rw [World.cell?_setCell_far _ _ _ _ (by simp)]); first | with_reducible assumption | (simp [go_sem, *]; done)) | (simp [go_sem, World.setCell, *]; done)), (by first | with_reducible assumption | (simp [go_sem, *]; done) | ((repeat first | rw [cell_set_far _ _ _ _ _ _ (by omega)] | rw [World.cell?_setCell_far _ _ _ _ (by simp)]); first | with_reducible assumption | (simp [go_sem, *]; done)) | (simp [go_sem, World.setCell, *]; done)), (by first | with_reducible assumption | (simp [go_sem, *]; done) | ((repeat first | rw [cell_set_far _ _ _ _ _ _ (by omega)] | rw [World.cell?_setCell_far _ _ _ _ (by simp)]); first | with_reducible assumption | (simp [go_sem, *]; done)) | (simp [go_sem, World.setCell, *]; done)), (by first | with_reducible assumption | (simp [go_sem, *]; done) | ((repeat first | rw [cell_set_far _ _ _ _ _ _ (by omega)] | rw [World.cell?_setCell_far _ _ _ _ (by simp)]); first | with_reducible assumption | (simp [go_sem, *]; done)) | (simp [go_sem, World.setCell, *]; done)), (by first | with_reducible assumption | (simp [go_sem, *]; done) | ((repeat first | rw [cell_set_far _ _ _ _ _ _ (by omega)] | rw [World.cell?_setCell_far _ _ _ _ (by simp)]); first | with_reducible assumption | (simp [go_sem, *]; done)) | (simp [go_sem, World.setCell, *]; done)), (by first | with_reducible assumption | (simp [go_sem, *]; done) | ((repeat first | rw [cell_set_far _ _ _ _ _ _ (by omega)] | rw [World.cell?_setCell_far _ _ _ _ (by simp)]); first | with_reducible assumption | (simp [go_sem, *]; done)) | (simp [go_sem, World.setCell, *]; done)), (by first | with_reducible assumption | (simp [go_sem, *]; done) | ((repeat first | rw [cell_set_far _ _ _ _ _ _ (by omega)] | rw [World.cell?_setCell_far _ _ _ _ (by simp)]); first | with_reducible assumption | (simp [go_sem, *]; done)) | (simp [go_sem, World.setCell, *]; done)), (by first | with_reducible assumption | (simp [go_sem, *]; done) | ((repeat first | rw [cell_set_far _ _ _ _ _ _ (by omega)] | rw [World.cell?_setCell_far _ _ _ _ (by simp)]); first | with_reducible assumption | (simp [go_sem, *]; done)) | (simp [go_sem, World.setCell, *]; done)), (by first | with_reducible assumption | (simp [go_sem, *]; done) | ((repeat first | rw [cell_set_far _ _ _ _ _ _ (by omega)] | rw [World.cell?_setCell_far _ _ _ _ (by simp)]); first | with_reducible assumption | (simp [go_sem, *]; done)) | (simp [go_sem, World.setCell, *]; done)), (by first | with_reducible assumption | (simp [go_sem, *]; done) | ((repeat first | rw [cell_set_far _ _ _ _ _ _ (by omega)] | rw [World.cell?_setCell_far _ _ _ _ (by simp)]); first | with_reducible assumption | (simp [go_sem, *]; done)) | (simp [go_sem, World.setCell, *]; done)), (by first | with_reducible assumption | (simp [go_sem, *]; done) | ((repeat first | rw [cell_set_far _ _ _ _ _ _ (by omega)] | rw [World.cell?_setCell_far _ _ _ _ (by simp)]); first | with_reducible assumption | (simp [go_sem, *]; done)) | (simp [go_sem, World.setCell, *]; done)), (by first | with_reducible assumption | (simp [go_sem, *]; done) | ((repeat first | rw [cell_set_far _ _ _ _ _ _ (by omega)] | rw [World.cell?_setCell_far _ _ _ _ (by simp)]); first | with_reducible assumption | (simp [go_sem, *]; done)) | (simp [go_sem, World.setCell, *]; done)), (by first | with_reducible assumption | (simp [World.setCell]; done) | (simp [World.setCell]; omega)), Ext.auK⟩
          case measure =>
            have c1 : cellI ((w3.setCell ⟨w1.heap.size, 0, none⟩ (.int .i64 (num * 10))).setCell ⟨w1.heap.size, 2, none⟩ (.int .i64 (tj - 1))) w1.heap.size 0 = num * 10 := by
              have q : ((w3.setCell ⟨w1.heap.size, 0, none⟩ (.int .i64 (num * 10))).setCell ⟨w1.heap.size, 2, none⟩ (.int .i64 (tj - 1))).cell? ⟨w1.heap.size, 0, none⟩ = some (.int .i64 (num * 10)) := (by first | with_reducible assumption | (simp [go_sem, *]; done) | ((repeat first | rw [cell_set_far _ _ _ _ _ _ (by omega)] | rw [World.cell?_setCell_far _ _ _ _ (by simp)]); first | with_reducible assumption | (simp [go_sem, *]; done)) | (simp [go_sem, World.setCell, *]; done))
              unfold cellI; rw [q]; rfl
            rw [c1, C2.out]
            exact NB1.out.2.2
        · have FIN : RowKit.Hid (M ≤ num ∧ num < 10 * M ∧ -40 ≤ t - (j : Int) ∧ t - (j : Int) ≤ 40) := Lib.hid ⟨by omega, n1, by omega, by omega⟩
          generalize t - (j : Int) = tj at *
          go_wp2_with fail
          go_region_held3 (fun w' => w'.cell? ⟨w1.heap.size, 0, none⟩ = some (.int .i64 num) ∧ w'.cell? ⟨w1.heap.size, 1, none⟩ = some (.int .i64 den) ∧ w'.cell? ⟨w1.heap.size, 2, none⟩ = some (.int .i64 tj) ∧ w'.cell? ⟨w1.heap.size, 3, none⟩ = some (.int .i64 P) ∧ w'.cell? ⟨w.heap.size + 1, 0, none⟩ = some (.int .i64 0) ∧ w'.cell? ⟨w.heap.size + 1, 1, none⟩ = some (.int .i64 0) ∧ w'.cell? ⟨w.heap.size + 1, 2, none⟩ = some (.int .i64 0) ∧ w'.cell? ⟨w.heap.size + 1, 3, none⟩ = some (.int .i64 0) ∧ w'.frozen? ⟨w1.heap.size, 0, none⟩ = false ∧ w'.frozen? ⟨w1.heap.size, 1, none⟩ = false ∧ w'.frozen? ⟨w1.heap.size, 2, none⟩ = false ∧ w'.frozen? ⟨w1.heap.size, 3, none⟩ = false ∧ w'.frozen? ⟨w.heap.size + 1, 0, none⟩ = false ∧ w'.frozen? ⟨w.heap.size + 1, 1, none⟩ = false ∧ w'.frozen? ⟨w.heap.size + 1, 2, none⟩ = false ∧ w'.frozen? ⟨w.heap.size + 1, 3, none⟩ = false ∧ w1.heap.size < w'.heap.size) ((refine ⟨?_, ?_, ?_, ?_, ?_, ?_, ?_, ?_, ?_, ?_, ?_, ?_, ?_, ?_, ?_, ?_, ?_⟩ <;> first | with_reducible assumption | ((rw [cell_setRow_far _ _ _ _ _ (by omega)]); with_reducible assumption) | ((rw [setRow_size]); with_reducible assumption) | ((repeat rw [World.cell?_setCell_far _ _ _ _ (by simp)]); with_reducible assumption) | (simp; done) | (simp [World.setCell]; first | done | omega) | (simp [go_sem, World.cell?_alloc_past, World.cell?_setCell_far, *]; done))) ((first | (go_at_call 163; refine (TL.out _).mono ?_; rintro rv w3 ⟨rfl, hb⟩; have ns : w1.heap.size < w3.heap.size := hb.ltK; have n0 : w3.cell? ⟨w1.heap.size, 0, none⟩ = some (.int .i64 num) := hb.cellK; have n1 : w3.cell? ⟨w1.heap.size, 1, none⟩ = some (.int .i64 den) := hb.cellK; have n2 : w3.cell? ⟨w1.heap.size, 2, none⟩ = some (.int .i64 tj) := hb.cellK; have n3 : w3.cell? ⟨w1.heap.size, 3, none⟩ = some (.int .i64 P) := hb.cellK; have n4 : w3.cell? ⟨w.heap.size + 1, 0, none⟩ = some (.int .i64 0) := hb.cellK; have n5 : w3.cell? ⟨w.heap.size + 1, 1, none⟩ = some (.int .i64 0) := hb.cellK; have n6 : w3.cell? ⟨w.heap.size + 1, 2, none⟩ = some (.int .i64 0) := hb.cellK; have n7 : w3.cell? ⟨w.heap.size + 1, 3, none⟩ = some (.int .i64 0) := hb.cellK; have nz0 : w3.frozen? ⟨w1.heap.size, 0, none⟩ = false := hb.frzK; have nz1 : w3.frozen? ⟨w1.heap.size, 1, none⟩ = false := hb.frzK; have nz2 : w3.frozen? ⟨w1.heap.size, 2, none⟩ = false := hb.frzK; have nz3 : w3.frozen? ⟨w1.heap.size, 3, none⟩ = false := hb.frzK; have nz4 : w3.frozen? ⟨w.heap.size + 1, 0, none⟩ = false := hb.frzK; have nz5 : w3.frozen? ⟨w.heap.size + 1, 1, none⟩ = false := hb.frzK; have nz6 : w3.frozen? ⟨w.heap.size + 1, 2, none⟩ = false := hb.frzK; have nz7 : w3.frozen? ⟨w.heap.size + 1, 3, none⟩ = false := hb.frzK; (first | (have nx := hx.trK hb; clear hx) | have nx := hb); clear hb; try clear hs; try clear g0; try clear g1; try clear g2; try clear g3; try clear g4; try clear g5; try clear g6; try clear g7; try clear z0; try clear z1; try clear z2; try clear z3; try clear z4; try clear z5; try clear z6; try clear z7; have hx := nx; clear nx; have hs := ns; clear ns; have g0 := n0; clear n0; have g1 := n1; clear n1; have g2 := n2; clear n2; have g3 := n3; clear n3; have g4 := n4; clear n4; have g5 := n5; clear n5; have g6 := n6; clear n6; have g7 := n7; clear n7; have z0 := nz0; clear nz0; have z1 := nz1; clear nz1; have z2 := nz2; clear nz2; have z3 := nz3; clear nz3; have z4 := nz4; clear nz4; have z5 := nz5; clear nz5; have z6 := nz6; clear nz6; have z7 := nz7; clear nz7)))
          all_goals (try go_wp2_with fail)
          exact bodyPost_ret (v := .agg #[.int .i64 num, .int .i64 den, .int .i64 tj, .int .i64 P]) (by simp [results, Tryz.results114, go_sem, *]) rfl ⟨num, den, tj, rfl, hR2.out, ⟨d0, d1⟩, ⟨by rw [EM.out]; exact FIN.out.1, by rw [Int.mul_assoc, EM.out]; exact FIN.out.2.1⟩, FIN.out.2.2, Ext.auK⟩
end Go.Proofs.YtfgbndjhaiigbacGreatDoor

namespace Go.Proofs.YtfgbndjhaiigbacGreatDoor
open Go Go.RowKit
set_option linter.unusedSimpArgs false
set_option linter.unusedVariables false
set_option maxRecDepth 100000

attribute [local go_sem] ta_finite_finite ta_finite_infinite ta_finite_noNumber ta_infinite_finite ta_infinite_infinite ta_infinite_noNumber ta_noNumber_finite ta_noNumber_infinite ta_noNumber_noNumber

theorem tc_mono_d {e f v d d2 t : Int} (h : 0 ≤ tcV e f v d t) (hd : d2 ≤ d) : 0 ≤ tcV e f v d2 t := by
  rw [tc_nonneg] at h ⊢
  have p := pw_pos (-unV e f)
  have k := tenN_pos t.toNat
  have a := Int.mul_le_mul_of_nonneg_right hd (show 0 ≤ tenN t.toNat by omega)
  have b := Int.mul_le_mul_of_nonneg_right a (show 0 ≤ pw (-unV e f) by omega)
  omega

theorem tc_mono_t {e f v d t : Int} (hd : 0 ≤ d) (k : Nat) (h : 0 ≤ tcV e f v d (t + (k : Int))) : 0 ≤ tcV e f v d t := by
  induction k with
  | zero => simpa using h
  | succ k ih =>
    apply ih
    have e1 : t + ((k + 1 : Nat) : Int) = t + (k : Int) + 1 := by push_cast; omega
    rw [e1, ← tc_ten] at h
    exact tc_mono_d h (by omega)

/-- low and t are the digits and the power of the greatest decimal below. -/
def BlC (e f v : Int) (L low t : Int) : Prop := 0 ≤ tcV e f v low t ∧ tcV e f v (low + 1) t < 0 ∧ L ≤ low ∧ low < 10 * L

theorem bl_less {e f v L low t low2 t2 : Int} (hL : 0 < L) (h : BlC e f v L low t) (h2 : BlC e f v L low2 t2) : ¬ t < t2 := by
  intro g
  obtain ⟨a1, a2, a3, a4⟩ := h
  obtain ⟨b1, b2, b3, b4⟩ := h2
  have c1 := tc_mono_d b1 b3
  obtain ⟨k, hk⟩ : ∃ k : Nat, t2 = t + 1 + (k : Int) := ⟨(t2 - t - 1).toNat, by omega⟩
  rw [hk] at c1
  have c2 := tc_mono_t (by omega) k c1
  rw [← tc_ten] at c2
  have c3 := tc_mono_d c2 (show low + 1 ≤ 10 * L by omega)
  omega

theorem bl_one {e f v L low t low2 t2 : Int} (hL : 0 < L) (h : BlC e f v L low t) (h2 : BlC e f v L low2 t2) : low = low2 ∧ t = t2 := by
  have g1 := bl_less hL h h2
  have g2 := bl_less hL h2 h
  have et : t = t2 := by omega
  subst et
  obtain ⟨a1, a2, a3, a4⟩ := h
  obtain ⟨b1, b2, b3, b4⟩ := h2
  refine ⟨?_, rfl⟩
  rcases Int.lt_trichotomy low low2 with g | g | g
  · have := tc_mono_d b1 (show low + 1 ≤ low2 by omega)
    omega
  · exact g
  · have := tc_mono_d a1 (show low2 + 1 ≤ low by omega)
    omega

theorem rt_sgn {e f v num den t d : Int} (h : RtP e f v num den t) (hd : 0 < den) : tcV e f v d t = sgV (num - d * den) := by
  have p := pw_pos (-unV e f)
  have k := tenN_pos t.toNat
  have m0 : 0 < tenN t.toNat * pw (-unV e f) := Int.mul_pos (by omega) (by omega)
  unfold RtP at h
  unfold tcV
  have e1 : (v * tenN (-t).toNat - d * tenN t.toNat * pw (-unV e f)) * den = (num - d * den) * (tenN t.toNat * pw (-unV e f)) := by
    rw [Int.sub_mul, Int.sub_mul]
    congr 1
    · rw [← Int.mul_assoc, h, Int.mul_assoc v, Int.mul_comm (tenN (-t).toNat) den, ← Int.mul_assoc v]
    · rw [Int.mul_assoc d den, Int.mul_comm den, ← Int.mul_assoc d, ← Int.mul_assoc d]
  rw [← sg_mul (n := v * tenN (-t).toNat - d * tenN t.toNat * pw (-unV e f)) hd, e1, sg_mul m0]

/-- The digits behind rounding, and what becomes of one place too many. -/
def duV (c low : Int) : Int := if 0 < c ∨ (c = 0 ∧ low % 2 = 1) then low + 1 else low

def ndQ (e f v L low t : Int) : Int := duV (tcV e f v (10 * low + 5) (t - 1)) low

theorem rt_bl {e f v num den t L : Int} (h : RtP e f v num den t) (hd : 0 < den) (n0 : L * den ≤ num) (n1 : num < 10 * L * den) (hL : 0 < L) : BlC e f v L (num / den) t ∧ ndQ e f v L (num / den) t = whV num den 0 false := by
  have ed := Int.mul_ediv_add_emod num den
  have r0 := Int.emod_nonneg num (show den ≠ 0 by omega)
  have r1 := Int.emod_lt_of_pos num hd
  have l0 : L ≤ num / den := (Int.le_ediv_iff_mul_le hd).2 n0
  have l1 : num / den < 10 * L := Int.ediv_lt_of_lt_mul hd n1
  have e5 : num / den * den = den * (num / den) := Int.mul_comm _ _
  have b : BlC e f v L (num / den) t := by
    refine ⟨?_, ?_, l0, l1⟩
    · rw [rt_cmp h hd]; omega
    · apply Int.lt_of_not_ge
      intro g
      have g2 := (rt_cmp h hd).1 g
      rw [Int.add_mul] at g2
      omega
  refine ⟨b, ?_⟩
  unfold ndQ
  rw [rt_sgn (rt_num h) hd]
  have e6 : num * 10 - (10 * (num / den) + 5) * den = 5 * (2 * (num % den) - den) := by
    rw [Int.add_mul, Int.mul_assoc 10, e5]
    omega
  rw [e6, Int.mul_comm 5, sg_mul (by decide)]
  unfold whV rndP duV
  rw [show upR (num % den) den (num / den) 0 false = decide (den < 2 * (num % den) ∨ (2 * (num % den) = den ∧ num / den % 2 = 1)) from rfl]
  generalize num / den = q at *
  generalize num % den = r at *
  rcases Int.lt_trichotomy (2 * r - den) 0 with g | g | g
  · rw [sg_neg g, if_neg (by omega)]
    split
    · rfl
    · rw [if_neg (by simp; omega)]
  · rw [sg_zero g, if_neg (show ¬ r = 0 by omega)]
    by_cases o : q % 2 = 1
    · rw [if_pos (by omega), if_pos (by simp; omega)]
    · rw [if_neg (by omega), if_neg (by simp; omega)]
  · rw [sg_pos g, if_pos (by omega), if_neg (show ¬ r = 0 by omega), if_pos (by simp; omega)]
end Go.Proofs.YtfgbndjhaiigbacGreatDoor

namespace Go.Proofs.YtfgbndjhaiigbacGreatDoor
open Go Go.RowKit
set_option linter.unusedSimpArgs false
set_option linter.unusedVariables false
set_option maxRecDepth 100000

attribute [local go_sem] ta_finite_finite ta_finite_infinite ta_finite_noNumber ta_infinite_finite ta_infinite_infinite ta_infinite_noNumber ta_noNumber_finite ta_noNumber_infinite ta_noNumber_noNumber

theorem size_fin {e f a : Int} (hf : finB e f a = true) : finB e f (a % pw (e + f)) = true ∧ unitsV e f (a % pw (e + f)) = ((unitsV e f a).natAbs : Int) := by
  obtain ⟨hg, s0, s1, hu⟩ := fin_size hf
  obtain ⟨gg0, gg1, gg2⟩ := gr_bd2 hg
  have pp := pw_pos (e + f)
  have r1 := Int.emod_lt_of_pos a (show 0 < pw (e + f) by omega)
  have hm : a % pw (e + f) % pw (e + f) = a % pw (e + f) := Int.emod_eq_of_lt s0 r1
  have hq : a % pw (e + f) / pw (e + f) = 0 := Int.ediv_eq_zero_of_lt s0 r1
  have hp : patB e f (a % pw (e + f)) = true := pat_iff.2 ⟨hg, s0, by omega⟩
  have hf2 := hf
  unfold finB at hf2
  rw [Bool.and_eq_true] at hf2
  constructor
  · unfold finB
    rw [hp, Bool.true_and, hm]
    exact hf2.2
  · unfold unitsV
    rw [hq, if_neg (by decide), mag_mod hp, hm]
    exact hu.symm

set_option maxHeartbeats 1600000 in
theorem txNear_any (e f a d t : Int) (hf : finB e f a = true) (d0 : 0 ≤ d) (d1 : d ≤ 999999) (t0 : -14 ≤ t) (t1 : t ≤ 14) (w : World) : Calls Tryz.prog 112 #[fmt e f, .int .i64 a, .int .i64 d, .int .i64 t] w fun rv w' => rv = .returned (.int .i64 (tcV e f ((unitsV e f a).natAbs : Int) (10 * d + 5) (t - 1))) ∧ Ext w w' := by
  have hg := (fin_size hf).1
  have vt := val_top hf
  have ub := units_bd e f a (fin_pat hf).1
  have kd : IntKind.i64.wrap (10 * d) = 10 * d := IntWalk.i64_in _ (by omega)
  have kd2 : IntKind.i64.wrap (10 * d + 5) = 10 * d + 5 := IntWalk.i64_in _ (by omega)
  have kt : IntKind.i64.wrap (t - 1) = t - 1 := IntWalk.i64_in _ (by omega)
  have TN := Lib.hid (fun w => txNumber_any e f (10 * d + 5) (t - 1) hg ⟨⟨by omega, by omega⟩, by omega, by omega⟩ w)
  have TU := Lib.hid (fun w => txUnits_any e f a hf w)
  have U0 : 0 ≤ ((unitsV e f a).natAbs : Int) := by omega
  have U1 : ((unitsV e f a).natAbs : Int) ≤ 4398046511104 := by omega
  have KC : RowKit.Hid (∀ u r h : Int, TNout e f (10 * d + 5) (t - 1) u r h → (if ((unitsV e f a).natAbs : Int) = u then -sgV r else sgV (((unitsV e f a).natAbs : Int) - u)) = tcV e f ((unitsV e f a).natAbs : Int) (10 * d + 5) (t - 1)) := Lib.hid (fun u r h q => q.2.2.2.2 _ vt)
  generalize tcV e f ((unitsV e f a).natAbs : Int) (10 * d + 5) (t - 1) = C at *
  generalize ((unitsV e f a).natAbs : Int) = U at *
  clear ub vt
  go_enter Tryz.func112, Tryz.ntmps112
  go_wp2_with (go_at_call 133; refine (TN.out _).mono ?_; rintro rv w1 ⟨u, r, h, rfl, htn, hb⟩; have HTN := Lib.hid htn; clear htn; have ns : w.heap.size < w1.heap.size := hb.ltK; have n0 : w1.cell? ⟨w.heap.size, 0, none⟩ = some (.int .i64 e) := hb.cellK; have n1 : w1.cell? ⟨w.heap.size, 1, none⟩ = some (.int .i64 f) := hb.cellK; (first | (have nx := hx.trK hb; clear hx) | have nx := hb); clear hb; try clear hs; try clear g0; try clear g1; have hx := nx; clear nx; have hs := ns; clear ns; have g0 := n0; clear n0; have g1 := n1; clear n1)
  obtain ⟨⟨b0, b1⟩, ⟨b2, b3⟩, b4, _⟩ := id HTN.out
  have kc := KC.out u r h HTN.out
  by_cases hq : U = u
  · rw [if_pos hq] at kc
    have KC2 := Lib.hid kc
    have hq2 : (U != u) = false := by simpa using hq
    have s3 := sg_bd r
    have k2 : IntKind.i64.wrap (-sgV r) = -sgV r := IntWalk.i64_in _ (by omega)
    have k1 : IntKind.i64.wrap (U - u) = U - u := IntWalk.i64_in _ (by omega)
    clear kc hq b0 b1 b2 b3 b4 s3
    go_wp2_with (first | (go_at_call 160; refine (TU.out _).mono ?_; rintro rv w2 ⟨rfl, hb⟩; have ns : w1.heap.size < w2.heap.size := hb.ltK; have n0 : w2.cell? ⟨w.heap.size, 0, none⟩ = some (.int .i64 e) := hb.cellK; have n1 : w2.cell? ⟨w.heap.size, 1, none⟩ = some (.int .i64 f) := hb.cellK; have n2 : w2.cell? ⟨w1.heap.size, 0, none⟩ = some (.int .i64 u) := hb.cellK; have n3 : w2.cell? ⟨w1.heap.size, 1, none⟩ = some (.int .i64 r) := hb.cellK; have n4 : w2.cell? ⟨w1.heap.size, 2, none⟩ = some (.int .i64 h) := hb.cellK; (first | (have nx := hx.trK hb; clear hx) | have nx := hb); clear hb; try clear hs; try clear g0; try clear g1; try clear g2; try clear g3; try clear g4; have hx := nx; clear nx; have hs := ns; clear ns; have g0 := n0; clear n0; have g1 := n1; clear n1; have g2 := n2; clear n2; have g3 := n3; clear n3; have g4 := n4; clear n4) | (go_at_call 161; refine (rdSignOf_any _ _).mono ?_; rintro rv w1 ⟨rfl, rfl⟩))
    all_goals (try (go_region_held3 (fun w' => w'.cell? ⟨w.heap.size, 0, none⟩ = some (.int .i64 e) ∧ w'.cell? ⟨w.heap.size, 1, none⟩ = some (.int .i64 f) ∧ w'.cell? ⟨w1.heap.size, 0, none⟩ = some (.int .i64 u) ∧ w'.cell? ⟨w1.heap.size, 1, none⟩ = some (.int .i64 r) ∧ w'.cell? ⟨w1.heap.size, 2, none⟩ = some (.int .i64 h) ∧ w1.heap.size < w'.heap.size) ((refine ⟨?_, ?_, ?_, ?_, ?_, ?_⟩ <;> first | with_reducible assumption | ((rw [cell_setRow_far _ _ _ _ _ (by omega)]); with_reducible assumption) | ((rw [setRow_size]); with_reducible assumption) | ((repeat rw [World.cell?_setCell_far _ _ _ _ (by simp)]); with_reducible assumption) | (simp; done) | (simp [World.setCell]; first | done | omega) | (simp [go_sem, World.cell?_alloc_past, World.cell?_setCell_far, *]; done))) ((first | (go_at_call 160; refine (TU.out _).mono ?_; rintro rv w2 ⟨rfl, hb⟩; have ns : w1.heap.size < w2.heap.size := hb.ltK; have n0 : w2.cell? ⟨w.heap.size, 0, none⟩ = some (.int .i64 e) := hb.cellK; have n1 : w2.cell? ⟨w.heap.size, 1, none⟩ = some (.int .i64 f) := hb.cellK; have n2 : w2.cell? ⟨w1.heap.size, 0, none⟩ = some (.int .i64 u) := hb.cellK; have n3 : w2.cell? ⟨w1.heap.size, 1, none⟩ = some (.int .i64 r) := hb.cellK; have n4 : w2.cell? ⟨w1.heap.size, 2, none⟩ = some (.int .i64 h) := hb.cellK; (first | (have nx := hx.trK hb; clear hx) | have nx := hb); clear hb; try clear hs; try clear g0; try clear g1; try clear g2; try clear g3; try clear g4; have hx := nx; clear nx; have hs := ns; clear ns; have g0 := n0; clear n0; have g1 := n1; clear n1; have g2 := n2; clear n2; have g3 := n3; clear n3; have g4 := n4; clear n4)))))
    all_goals (try go_wp2_with (first | (go_at_call 160; refine (TU.out _).mono ?_; rintro rv w2 ⟨rfl, hb⟩; have ns : w1.heap.size < w2.heap.size := hb.ltK; have n0 : w2.cell? ⟨w.heap.size, 0, none⟩ = some (.int .i64 e) := hb.cellK; have n1 : w2.cell? ⟨w.heap.size, 1, none⟩ = some (.int .i64 f) := hb.cellK; have n2 : w2.cell? ⟨w1.heap.size, 0, none⟩ = some (.int .i64 u) := hb.cellK; have n3 : w2.cell? ⟨w1.heap.size, 1, none⟩ = some (.int .i64 r) := hb.cellK; have n4 : w2.cell? ⟨w1.heap.size, 2, none⟩ = some (.int .i64 h) := hb.cellK; (first | (have nx := hx.trK hb; clear hx) | have nx := hb); clear hb; try clear hs; try clear g0; try clear g1; try clear g2; try clear g3; try clear g4; have hx := nx; clear nx; have hs := ns; clear ns; have g0 := n0; clear n0; have g1 := n1; clear n1; have g2 := n2; clear n2; have g3 := n3; clear n3; have g4 := n4; clear n4) | (go_at_call 161; refine (rdSignOf_any _ _).mono ?_; rintro rv w1 ⟨rfl, rfl⟩)))
    all_goals go_ret
    all_goals exact ⟨ret_int (by rw [KC2.out]), Ext.auK⟩
  · rw [if_neg hq] at kc
    have KC2 := Lib.hid kc
    have hq2 : (U != u) = true := by simpa using hq
    have s3 := sg_bd r
    have k2 : IntKind.i64.wrap (-sgV r) = -sgV r := IntWalk.i64_in _ (by omega)
    have k1 : IntKind.i64.wrap (U - u) = U - u := IntWalk.i64_in _ (by omega)
    clear kc hq b0 b1 b2 b3 b4 s3
    go_wp2_with (first | (go_at_call 160; refine (TU.out _).mono ?_; rintro rv w2 ⟨rfl, hb⟩; have ns : w1.heap.size < w2.heap.size := hb.ltK; have n0 : w2.cell? ⟨w.heap.size, 0, none⟩ = some (.int .i64 e) := hb.cellK; have n1 : w2.cell? ⟨w.heap.size, 1, none⟩ = some (.int .i64 f) := hb.cellK; have n2 : w2.cell? ⟨w1.heap.size, 0, none⟩ = some (.int .i64 u) := hb.cellK; have n3 : w2.cell? ⟨w1.heap.size, 1, none⟩ = some (.int .i64 r) := hb.cellK; have n4 : w2.cell? ⟨w1.heap.size, 2, none⟩ = some (.int .i64 h) := hb.cellK; (first | (have nx := hx.trK hb; clear hx) | have nx := hb); clear hb; try clear hs; try clear g0; try clear g1; try clear g2; try clear g3; try clear g4; have hx := nx; clear nx; have hs := ns; clear ns; have g0 := n0; clear n0; have g1 := n1; clear n1; have g2 := n2; clear n2; have g3 := n3; clear n3; have g4 := n4; clear n4) | (go_at_call 161; refine (rdSignOf_any _ _).mono ?_; rintro rv w1 ⟨rfl, rfl⟩))
    all_goals (try (go_region_held3 (fun w' => w'.cell? ⟨w.heap.size, 0, none⟩ = some (.int .i64 e) ∧ w'.cell? ⟨w.heap.size, 1, none⟩ = some (.int .i64 f) ∧ w'.cell? ⟨w1.heap.size, 0, none⟩ = some (.int .i64 u) ∧ w'.cell? ⟨w1.heap.size, 1, none⟩ = some (.int .i64 r) ∧ w'.cell? ⟨w1.heap.size, 2, none⟩ = some (.int .i64 h) ∧ w1.heap.size < w'.heap.size) ((refine ⟨?_, ?_, ?_, ?_, ?_, ?_⟩ <;> first | with_reducible assumption | ((rw [cell_setRow_far _ _ _ _ _ (by omega)]); with_reducible assumption) | ((rw [setRow_size]); with_reducible assumption) | ((repeat rw [World.cell?_setCell_far _ _ _ _ (by simp)]); with_reducible assumption) | (simp; done) | (simp [World.setCell]; first | done | omega) | (simp [go_sem, World.cell?_alloc_past, World.cell?_setCell_far, *]; done))) ((first | (go_at_call 160; refine (TU.out _).mono ?_; rintro rv w2 ⟨rfl, hb⟩; have ns : w1.heap.size < w2.heap.size := hb.ltK; have n0 : w2.cell? ⟨w.heap.size, 0, none⟩ = some (.int .i64 e) := hb.cellK; have n1 : w2.cell? ⟨w.heap.size, 1, none⟩ = some (.int .i64 f) := hb.cellK; have n2 : w2.cell? ⟨w1.heap.size, 0, none⟩ = some (.int .i64 u) := hb.cellK; have n3 : w2.cell? ⟨w1.heap.size, 1, none⟩ = some (.int .i64 r) := hb.cellK; have n4 : w2.cell? ⟨w1.heap.size, 2, none⟩ = some (.int .i64 h) := hb.cellK; (first | (have nx := hx.trK hb; clear hx) | have nx := hb); clear hb; try clear hs; try clear g0; try clear g1; try clear g2; try clear g3; try clear g4; have hx := nx; clear nx; have hs := ns; clear ns; have g0 := n0; clear n0; have g1 := n1; clear n1; have g2 := n2; clear n2; have g3 := n3; clear n3; have g4 := n4; clear n4)))))
    all_goals (try go_wp2_with (first | (go_at_call 160; refine (TU.out _).mono ?_; rintro rv w2 ⟨rfl, hb⟩; have ns : w1.heap.size < w2.heap.size := hb.ltK; have n0 : w2.cell? ⟨w.heap.size, 0, none⟩ = some (.int .i64 e) := hb.cellK; have n1 : w2.cell? ⟨w.heap.size, 1, none⟩ = some (.int .i64 f) := hb.cellK; have n2 : w2.cell? ⟨w1.heap.size, 0, none⟩ = some (.int .i64 u) := hb.cellK; have n3 : w2.cell? ⟨w1.heap.size, 1, none⟩ = some (.int .i64 r) := hb.cellK; have n4 : w2.cell? ⟨w1.heap.size, 2, none⟩ = some (.int .i64 h) := hb.cellK; (first | (have nx := hx.trK hb; clear hx) | have nx := hb); clear hb; try clear hs; try clear g0; try clear g1; try clear g2; try clear g3; try clear g4; have hx := nx; clear nx; have hs := ns; clear ns; have g0 := n0; clear n0; have g1 := n1; clear n1; have g2 := n2; clear n2; have g3 := n3; clear n3; have g4 := n4; clear n4) | (go_at_call 161; refine (rdSignOf_any _ _).mono ?_; rintro rv w1 ⟨rfl, rfl⟩)))
    all_goals go_ret
    all_goals exact ⟨ret_int (by rw [KC2.out]), Ext.auK⟩
end Go.Proofs.YtfgbndjhaiigbacGreatDoor

namespace Go.Proofs.YtfgbndjhaiigbacGreatDoor
open Go Go.RowKit
set_option linter.unusedSimpArgs false
set_option linter.unusedVariables false
set_option maxRecDepth 100000

attribute [local go_sem] ta_finite_finite ta_finite_infinite ta_finite_noNumber ta_infinite_finite ta_infinite_infinite ta_infinite_noNumber ta_noNumber_finite ta_noNumber_infinite ta_noNumber_noNumber

theorem sg_ten (x : Int) : sgV (10 * x) = sgV x := by unfold sgV; split <;> split <;> (try split) <;> (try split) <;> omega

theorem oq_ten (n d : Int) (_ : 0 < d) : oqV (10 * n) (10 * d) = oqV n d := by
  unfold oqV
  rw [Int.mul_tdiv_mul_of_pos _ _ (by decide : (0 : Int) < 10), Int.mul_tmod_mul_of_pos _ _ (by decide : (0 : Int) < 10), sg_ten]

/-- A decimal with a 0 at its end is that without it. -/
theorem dq_ten {e f d t : Int} (d0 : 0 ≤ d) (d1 : 10 * d < 1000000) : dqV e f (10 * d) t = dqV e f d (t + 1) := by
  unfold dqV
  by_cases h : 0 ≤ t
  · have e1 : (t + 1).toNat = t.toNat + 1 := by omega
    rw [e1, show (-t).toNat = 0 by omega, show (-(t + 1)).toNat = 0 by omega]
    congr 1
    rw [numN_val (by omega) d1, numN_val d0 (by omega), show tenN (t.toNat + 1) = tenN t.toNat * 10 from rfl, Int.mul_comm 10 d, Int.mul_assoc, Int.mul_comm 10]
  · have e1 : (-t).toNat = (-(t + 1)).toNat + 1 := by omega
    rw [e1, show t.toNat = 0 by omega, show (t + 1).toNat = 0 by omega]
    show qrV e f (10 * d) (tenN (-(t + 1)).toNat * 10) = qrV e f d (tenN (-(t + 1)).toNat)
    have hp := tenN_pos (-(t + 1)).toNat
    unfold qrV
    rw [show 10 * d * pw (2 - unV e f) = 10 * (d * pw (2 - unV e f)) from Int.mul_assoc _ _ _, show 2 * (tenN (-(t + 1)).toNat * 10) = 10 * (2 * tenN (-(t + 1)).toNat) by omega]
    exact oq_ten _ _ (by omega)

theorem rc_ten {e f d t m : Int} (d0 : 0 ≤ d) (d1 : 10 * d < 1000000) : rcV e f (10 * d) t m = rcV e f d (t + 1) m := by
  unfold rcV
  rw [dq_ten d0 d1]

/-- A number that is not much less than a value is rounded to it. -/
theorem rnd_close {e f p X D : Int} (hf1 : 1 ≤ f) (hf2 : f ≤ 10) (p0 : 0 < p) (p1 : p ≤ grV e f) (hD : 0 < D) (h1 : X ≤ mgV f p * D) (h2 : 10000 * (mgV f p * D - X) ≤ mgV f p * D) : IsRnd f (grV e f) X D 0 false p := by
  have P := pw_le (a := f) 10 1024 rfl hf2
  have P0 := pw_pos f
  by_cases hx : X = mgV f p * D
  · refine ⟨p, ?_, ?_⟩
    · rw [hx]; exact below_self hf1 hD (by omega) p1
    · unfold rndP; rw [if_pos (by omega)]
  · have st := mg_step2 f (p - 1) hf1 (by omega)
    rw [show p - 1 + 1 = p by omega] at st
    have s1 := pw_pos (max 0 ((p - 1) / pw f - 1))
    have hst : stV f (p - 1) = pw (max 0 ((p - 1) / pw f - 1)) := rfl
    have top : mgV f (p - 1) ≤ (2 * pw f - 1) * stV f (p - 1) := by
      rw [hst]
      unfold mgV
      have r1 := Int.emod_lt_of_pos (p - 1) (show 0 < pw f by omega)
      have r0 := Int.emod_nonneg (p - 1) (show pw f ≠ 0 by omega)
      by_cases hq : 0 < (p - 1) / pw f
      · rw [if_pos hq, show max 0 ((p - 1) / pw f - 1) = (p - 1) / pw f - 1 by omega]
        exact Int.mul_le_mul_of_nonneg_right (by omega) (by have := pw_pos ((p - 1) / pw f - 1); omega)
      · rw [if_neg hq]
        have : (2 * pw f - 1) * 1 ≤ (2 * pw f - 1) * pw (max 0 ((p - 1) / pw f - 1)) := Int.mul_le_mul_of_nonneg_left s1 (by omega)
        omega
    have main : ∀ s q v : Int, stV f (p - 1) = s → mgV f (p - 1) = q → mgV f p = v → IsRnd f (grV e f) X D 0 false p := by
      intro s q v hs hq hv
      rw [hs, hq, hv] at st
      rw [hs, hq] at top
      rw [hv] at h1 h2 hx
      have s0 : 1 ≤ s := by rw [← hs, hst]; exact s1
      have v1 : v ≤ 2048 * s := by
        have : (2 * pw f - 1) * s ≤ 2047 * s := Int.mul_le_mul_of_nonneg_right (by omega) (by omega)
        omega
      have vD : v * D ≤ 2048 * (s * D) := by
        have := Int.mul_le_mul_of_nonneg_right v1 (show 0 ≤ D by omega)
        rwa [Int.mul_assoc] at this
      have sD : 0 < s * D := Int.mul_pos (by omega) hD
      have eD : v * D = q * D + s * D := by rw [st, Int.add_mul]
      refine ⟨p - 1, ⟨by omega, by omega, ?_, .inr ?_⟩, ?_⟩
      · rw [hq]; omega
      · rw [show p - 1 + 1 = p by omega, hv]; omega
      · rw [hs, hq]
        unfold rndP
        rw [if_neg (by omega), if_pos]
        · omega
        · unfold upR
          rw [if_pos rfl, decide_eq_true_eq]
          left
          omega
    exact main _ _ _ rfl rfl rfl

/-- A decimal that is a value, or that has five places and is the greatest below a value, is rounded to this. -/
theorem rc_close {e f d t p : Int} (hg : goodB e f = true) (p0 : 0 < p) (p1 : p ≤ grV e f) (hd : dcB d t = true) (h1 : 0 ≤ tcV e f (mgV f p) d t) (h2 : tcV e f (mgV f p) d t = 0 ∨ (10000 ≤ d ∧ tcV e f (mgV f p) (d + 1) t < 0)) : rcV e f d t 0 = p := by
  obtain ⟨g1, g2, g3, g4⟩ := good_iff.1 hg
  obtain ⟨⟨d0, d1⟩, t0, t1⟩ := dc_iff.1 hd
  have u := un_bd hg
  have U0 := pw_pos (-unV e f)
  have T0 := tenN_pos t.toNat
  have E0 := tenN_pos (-t).toNat
  have hm := mg_mono f p (grV e f + 1) g3 (by omega) (by omega)
  rw [mg_top hg] at hm
  have c := pw_le (a := pw (e - 1)) 16 65536 rfl (by
    have := pw_le (a := e - 1) 4 16 rfl (by omega)
    omega)
  have hv : mgV f p ≤ 65536 * pw (-unV e f) := by
    have := Int.mul_le_mul_of_nonneg_left c (show 0 ≤ pw (-unV e f) by omega)
    omega
  refine (rc_one hg ?_).symm
  unfold dqV
  have b1 := tc_nonneg.1 h1
  have key : numN d t.toNat = d * tenN t.toNat := by
    rw [numN_val d0 (by omega)]
    by_cases ht : 0 ≤ t
    · rw [show (-t).toNat = 0 by omega, show tenN 0 = 1 from rfl, Int.mul_one] at b1
      have : d * tenN t.toNat ≤ 65536 := by
        apply Int.not_lt.1
        intro h
        have := Int.mul_le_mul_of_nonneg_right (show 65537 ≤ d * tenN t.toNat by omega) (show 0 ≤ pw (-unV e f) by omega)
        omega
      omega
    · rw [show t.toNat = 0 by omega, show tenN 0 = 1 from rfl]
      omega
  rw [key]
  have N0 : 0 ≤ d * tenN t.toNat := Int.mul_nonneg d0 (by omega)
  refine dq_frac hg N0 (by omega) (rnd_close g3 g4 p0 p1 (by omega) b1 ?_)
  have hX : 0 ≤ d * tenN t.toNat * pw (-unV e f) := Int.mul_nonneg N0 (by omega)
  rcases h2 with h2 | ⟨h2, h3⟩
  · have : mgV f p * tenN (-t).toNat = d * tenN t.toNat * pw (-unV e f) := by
      unfold tcV sgV at h2
      split at h2
      · omega
      · split at h2 <;> omega
    omega
  · have h4 : ¬ 0 ≤ tcV e f (mgV f p) (d + 1) t := by omega
    rw [tc_nonneg, Int.add_mul, Int.add_mul, Int.one_mul] at h4
    have h5 : 10000 * (tenN t.toNat * pw (-unV e f)) ≤ d * tenN t.toNat * pw (-unV e f) := by
      rw [Int.mul_assoc d]
      exact Int.mul_le_mul_of_nonneg_right h2 (Int.mul_nonneg (by omega) (by omega))
    omega

/-- The digits below, with one place less. -/
theorem bl_less10 {e f v L low t : Int} (h : BlC e f v (10 * L) low t) : BlC e f v L (low / 10) (t + 1) := by
  obtain ⟨a1, a2, a3, a4⟩ := h
  refine ⟨?_, ?_, by omega, by omega⟩
  · rw [← tc_ten]; exact tc_mono_d a1 (by omega)
  · rw [← tc_ten]
    apply Int.lt_of_not_ge
    intro h
    have := tc_mono_d h (show low + 1 ≤ 10 * (low / 10 + 1) by omega)
    omega

/-- Digits and power of ten of the greatest decimal with so many places that is not above a value. -/
noncomputable def blX (e f v L : Int) : Int × Int := Classical.epsilon (fun x => BlC e f v L x.1 x.2)

theorem bl_is {e f v L low t : Int} (hL : 0 < L) (h : BlC e f v L low t) : blX e f v L = (low, t) := by
  have h2 := Classical.epsilon_spec (p := fun x : Int × Int => BlC e f v L x.1 x.2) ⟨(low, t), h⟩
  obtain ⟨e1, e2⟩ := bl_one hL h2 h
  exact Prod.ext e1 e2

/-- The lower one is rounded to the pattern; the upper one is. -/
noncomputable def shA (e f v p L : Int) : Bool := decide (rcV e f (blX e f v L).1 (blX e f v L).2 0 = p)

noncomputable def shB (e f v p L : Int) : Bool := decide (rcV e f ((blX e f v L).1 + 1) (blX e f v L).2 0 = p)

noncomputable def shN (e f v L : Int) : Int := tcV e f v (10 * (blX e f v L).1 + 5) ((blX e f v L).2 - 1)

/-- Which one is taken. -/
noncomputable def shU (e f v p L : Int) : Bool := if 0 < shN e f v L then shB e f v p L else !shA e f v p L

noncomputable def shD (e f v p L : Int) : Int := if shU e f v p L then (blX e f v L).1 + 1 else (blX e f v L).1

/-- Digits and power of ten, without a place too many. -/
def adX (L d t : Int) : Int × Int := if d = L * 10 then (L, t + 1) else (d, t)

noncomputable def shX (e f v p L : Int) : Int × Int := adX L (shD e f v p L) (blX e f v L).2

noncomputable def shOk (e f v p L : Int) : Bool := shA e f v p L || shB e f v p L

/-- The shortest decimal: the first number of places with which one is rounded to the pattern. -/
def ShP (e f v p : Int) (x : Int × Int) : Prop := ∃ P : Nat, P < 5 ∧ shOk e f v p (tenN P) = true ∧ (∀ Q, Q < P → shOk e f v p (tenN Q) = false) ∧ x = shX e f v p (tenN P)

theorem sh_one {e f v p : Int} {x y : Int × Int} (h : ShP e f v p x) (h2 : ShP e f v p y) : x = y := by
  obtain ⟨P, _, a, b, rfl⟩ := h
  obtain ⟨Q, _, c, d, rfl⟩ := h2
  rcases Nat.lt_trichotomy P Q with g | g | g
  · rw [d P g] at a; cases a
  · rw [g]
  · rw [b Q g] at c; cases c

noncomputable def shF (e f v p : Int) : Int × Int := Classical.epsilon (fun x => ShP e f v p x)

theorem sh_is {e f v p : Int} {x : Int × Int} (h : ShP e f v p x) : shF e f v p = x := sh_one (Classical.epsilon_spec (p := fun x => ShP e f v p x) ⟨x, h⟩) h

/-- Five places are enough. -/
theorem sh_five {e f p low t : Int} (hg : goodB e f = true) (p0 : 0 < p) (p1 : p ≤ grV e f) (h : BlC e f (mgV f p) 10000 low t) (t0 : -14 ≤ t) (t1 : t ≤ 14) : shOk e f (mgV f p) p (tenN 4) = true := by
  have e1 := bl_is (by decide) h
  obtain ⟨a1, a2, a3, a4⟩ := h
  unfold shOk shA
  rw [show tenN 4 = 10000 from rfl, e1, decide_eq_true (rc_close hg p0 p1 (dc_iff.2 ⟨⟨by omega, by omega⟩, t0, t1⟩) a1 (.inr ⟨a3, a2⟩))]
  rfl

/-- Where the value is the lower one, that is taken. -/
theorem sh_exact {e f p L low t : Int} (hg : goodB e f = true) (p0 : 0 < p) (p1 : p ≤ grV e f) (hL : 0 < L) (L1 : L ≤ 100000) (h : BlC e f (mgV f p) L low t) (t0 : -14 ≤ t) (t1 : t ≤ 14) (hx : tcV e f (mgV f p) low t = 0) : shA e f (mgV f p) p L = true := by
  have e1 := bl_is hL h
  obtain ⟨a1, a2, a3, a4⟩ := h
  unfold shA
  rw [e1, decide_eq_true (rc_close hg p0 p1 (dc_iff.2 ⟨⟨by omega, by omega⟩, t0, t1⟩) a1 (.inl hx))]

/-- No 0 is at the end of what is taken first, but for one place too many. -/
theorem sh_end {e f v p L low t low2 t2 : Int} (hL : 0 < L) (L1 : L ≤ 1000) (h : BlC e f v (10 * L) low t) (h2 : BlC e f v L low2 t2) (hno : shOk e f v p L = false) (hyes : shOk e f v p (10 * L) = true) : shD e f v p (10 * L) % 10 ≠ 0 := by
  have e1 := bl_is (by omega) h
  have e2 := bl_is hL h2
  obtain ⟨q1, q2⟩ := bl_one hL (bl_less10 h) h2
  obtain ⟨a1, a2, a3, a4⟩ := h
  obtain ⟨b1, b2, b3, b4⟩ := h2
  intro hz
  unfold shOk at hno hyes
  rw [Bool.or_eq_false_iff] at hno
  obtain ⟨n1, n2⟩ := hno
  unfold shA at n1
  unfold shB at n2
  rw [e2, decide_eq_false_iff_not] at n1 n2
  have UB : shU e f v p (10 * L) = true → rcV e f (low + 1) t 0 = p := by
    unfold shU
    intro hu
    split at hu
    · unfold shB at hu; rw [e1, decide_eq_true_eq] at hu; exact hu
    · rw [Bool.not_eq_true'] at hu
      rw [hu, Bool.false_or] at hyes
      unfold shB at hyes; rw [e1, decide_eq_true_eq] at hyes; exact hyes
  have UA : shU e f v p (10 * L) = false → rcV e f low t 0 = p := by
    unfold shU
    intro hu
    split at hu
    · rw [hu, Bool.or_false] at hyes
      unfold shA at hyes; rw [e1, decide_eq_true_eq] at hyes; exact hyes
    · rw [Bool.not_eq_false'] at hu
      unfold shA at hu; rw [e1, decide_eq_true_eq] at hu; exact hu
  unfold shD at hz
  rw [e1] at hz
  cases hu : shU e f v p (10 * L)
  · rw [hu] at hz
    simp only [Bool.false_eq_true, if_false] at hz
    apply n1
    rw [← q1, ← q2]
    show rcV e f (low / 10) (t + 1) 0 = p
    rw [← rc_ten (by omega) (by omega), show 10 * (low / 10) = low by omega]
    exact UA hu
  · rw [hu] at hz
    simp only [if_true] at hz
    apply n2
    rw [← q1, ← q2]
    show rcV e f (low / 10 + 1) (t + 1) 0 = p
    rw [← rc_ten (by omega) (by omega), show 10 * (low / 10 + 1) = low + 1 by omega]
    exact UB hu

/-- Whether the upper one is nearer, by what is left. -/
theorem sh_near {e f v num den t L : Int} (h : RtP e f v num den t) (hd : 0 < den) (hb : blX e f v L = (num / den, t)) : 0 < shN e f v L ↔ den < 2 * (num % den) := by
  unfold shN
  rw [hb]
  show 0 < tcV e f v (10 * (num / den) + 5) (t - 1) ↔ _
  rw [rt_sgn (rt_num h) hd]
  have q := Int.mul_ediv_add_emod num den
  have e1 : num * 10 - (10 * (num / den) + 5) * den = 10 * (num % den) - 5 * den := by
    rw [Int.add_mul, Int.mul_assoc, Int.mul_comm (num / den) den]
    omega
  rw [e1]
  unfold sgV
  split
  · omega
  · split <;> omega

/-- The value is the lower one where nothing is left. -/
theorem sh_rest {e f v num den t : Int} (h : RtP e f v num den t) (hd : 0 < den) (hz : num % den = 0) : tcV e f v (num / den) t = 0 := by
  rw [rt_sgn h hd]
  have q := Int.mul_ediv_add_emod num den
  rw [Int.mul_comm (num / den) den, show num - den * (num / den) = 0 by omega]
  rfl

theorem rrounded_mode (num den t P m : Int) (p0 : 1 ≤ P) (p1 : P ≤ 6) (m0 : 0 ≤ m) (m1 : m ≤ 5) (d0 : 0 < den) (d1 : den ≤ 16777216) (n0 : tenN (P.toNat - 1) * den ≤ num) (n1 : num < 10 * tenN (P.toNat - 1) * den) (t0 : -40 ≤ t) (t1 : t ≤ 40) (w : World) :
    Calls Tryz.prog 164 #[.agg #[.int .i64 num, .int .i64 den, .int .i64 t, .int .i64 P], .int .i64 m] w fun rv w' => rv = .returned (two (adX (tenN (P.toNat - 1)) (whV num den m false) t).1 (adX (tenN (P.toNat - 1)) (whV num den m false) t).2) ∧ Ext w w' := by
  obtain ⟨b0, b1⟩ := P_bd p0 p1
  have TH := Lib.hid (fun w => by have := tenTo_any P (by omega) w; rw [show P.toNat = (P.toNat - 1) + 1 by omega, show tenN (P.toNat - 1 + 1) = tenN (P.toNat - 1) * 10 from rfl] at this; exact this)
  generalize tenN (P.toNat - 1) = L at *
  have nn0 : 0 ≤ num := by
    have := Int.mul_nonneg (show 0 ≤ L by omega) (show 0 ≤ den by omega)
    omega
  have nn1 : num < 10 * 100000 * 16777216 := by
    have := Int.mul_le_mul (show 10 * L ≤ 10 * 100000 by omega) d1 (by omega) (by decide)
    omega
  have r0 := Int.emod_nonneg num (show den ≠ 0 by omega)
  have r1 := Int.emod_lt_of_pos num d0
  have okS : Ok Ieee.single (den.toNat * 2 ^ 149) := by
    by_cases hd : den < 16777216
    · exact ok_few (by omega) hd
    · have e1 : den = 1 * pw 24 := by rw [show pw 24 = 16777216 from rfl]; omega
      rw [e1]
      exact ok_npw (by decide) (by decide) (by decide) (by decide)
  have WQC := Lib.hid (fun w => wholeQuotient_any num den m false nn0 (by omega) d0 (by omega) m0 m1 (ok_few r0 (by omega)) (lt_few r0 (by omega)) okS w)
  obtain ⟨w0, w1⟩ := wh_bd (u := num) (P := den) (mode := m) (neg := false) nn0 d0
  have kt : IntKind.i64.wrap (t + 1) = t + 1 := IntWalk.i64_in _ (by omega)
  have q : ∀ a b : Int, ∀ w, (Instr.build 90 #[(0, .int .i64 a), (1, .int .i64 b)]).run Tryz.prog w = .ok (two a b) w := fun a b w => run_build w _ _ _ (by kernel_rfl)
  unfold adX
  generalize whV num den m false = W at *
  by_cases hc : W = L * 10
  · rw [if_pos hc]
    rw [hc] at WQC
    have td : (L * 10).tdiv 10 = L := by
      rw [Int.tdiv_eq_ediv_of_nonneg (by omega)]
      omega
    have kL : IntKind.i64.wrap L = L := IntWalk.i64_in _ (by omega)
    clear n0 n1 r0 r1 okS nn0 nn1 hc w0 w1
    go_enter Tryz.func164, Tryz.ntmps164
    go_wp2_with (first | (go_at_call 198; refine (WQC.out _).mono ?_; rintro rv w1 ⟨rfl, hb⟩; have ns : w.heap.size + 1 < w1.heap.size := hb.ltK; have n0 : w1.cell? ⟨w.heap.size, 0, none⟩ = some (.int .i64 num) := hb.cellK; have n1 : w1.cell? ⟨w.heap.size, 1, none⟩ = some (.int .i64 den) := hb.cellK; have n2 : w1.cell? ⟨w.heap.size, 2, none⟩ = some (.int .i64 t) := hb.cellK; have n3 : w1.cell? ⟨w.heap.size, 3, none⟩ = some (.int .i64 P) := hb.cellK; have n4 : w1.cell? ⟨w.heap.size + 1, 0, none⟩ = some (.int .i64 0) := hb.cellK; have n5 : w1.cell? ⟨w.heap.size + 1, 1, none⟩ = some (.int .i64 0) := hb.cellK; have nz0 : w1.frozen? ⟨w.heap.size + 1, 0, none⟩ = false := hb.frzK; have nz1 : w1.frozen? ⟨w.heap.size + 1, 1, none⟩ = false := hb.frzK; (first | (have nx := hx.trK hb; clear hx) | have nx := hb); clear hb; try clear hs; try clear g0; try clear g1; try clear g2; try clear g3; try clear g4; try clear g5; try clear z0; try clear z1; have hx := nx; clear nx; have hs := ns; clear ns; have g0 := n0; clear n0; have g1 := n1; clear n1; have g2 := n2; clear n2; have g3 := n3; clear n3; have g4 := n4; clear n4; have g5 := n5; clear n5; have z0 := nz0; clear nz0; have z1 := nz1; clear nz1) | (go_at_call 163; refine (TH.out _).mono ?_; rintro rv w1 ⟨rfl, hb⟩; have ns : w.heap.size + 1 < w1.heap.size := hb.ltK; have n0 : w1.cell? ⟨w.heap.size, 0, none⟩ = some (.int .i64 num) := hb.cellK; have n1 : w1.cell? ⟨w.heap.size, 1, none⟩ = some (.int .i64 den) := hb.cellK; have n2 : w1.cell? ⟨w.heap.size, 2, none⟩ = some (.int .i64 t) := hb.cellK; have n3 : w1.cell? ⟨w.heap.size, 3, none⟩ = some (.int .i64 P) := hb.cellK; have n4 : w1.cell? ⟨w.heap.size + 1, 0, none⟩ = some (.int .i64 0) := hb.cellK; have n5 : w1.cell? ⟨w.heap.size + 1, 1, none⟩ = some (.int .i64 0) := hb.cellK; have nz0 : w1.frozen? ⟨w.heap.size + 1, 0, none⟩ = false := hb.frzK; have nz1 : w1.frozen? ⟨w.heap.size + 1, 1, none⟩ = false := hb.frzK; (first | (have nx := hx.trK hb; clear hx) | have nx := hb); clear hb; try clear hs; try clear g0; try clear g1; try clear g2; try clear g3; try clear g4; try clear g5; try clear z0; try clear z1; have hx := nx; clear nx; have hs := ns; clear ns; have g0 := n0; clear n0; have g1 := n1; clear n1; have g2 := n2; clear n2; have g3 := n3; clear n3; have g4 := n4; clear n4; have g5 := n5; clear n5; have z0 := nz0; clear nz0; have z1 := nz1; clear nz1))
    try (go_region)
    all_goals (try go_wp2_with (first | (go_at_call 163; refine (TH.out _).mono ?_; rintro rv w1 ⟨rfl, hb⟩; have ns : w.heap.size + 1 < w1.heap.size := hb.ltK; have n0 : w1.cell? ⟨w.heap.size, 0, none⟩ = some (.int .i64 num) := hb.cellK; have n1 : w1.cell? ⟨w.heap.size, 1, none⟩ = some (.int .i64 den) := hb.cellK; have n2 : w1.cell? ⟨w.heap.size, 2, none⟩ = some (.int .i64 t) := hb.cellK; have n3 : w1.cell? ⟨w.heap.size, 3, none⟩ = some (.int .i64 P) := hb.cellK; have n4 : w1.cell? ⟨w.heap.size + 1, 0, none⟩ = some (.int .i64 0) := hb.cellK; have n5 : w1.cell? ⟨w.heap.size + 1, 1, none⟩ = some (.int .i64 0) := hb.cellK; have nz0 : w1.frozen? ⟨w.heap.size + 1, 0, none⟩ = false := hb.frzK; have nz1 : w1.frozen? ⟨w.heap.size + 1, 1, none⟩ = false := hb.frzK; (first | (have nx := hx.trK hb; clear hx) | have nx := hb); clear hb; try clear hs; try clear g0; try clear g1; try clear g2; try clear g3; try clear g4; try clear g5; try clear z0; try clear z1; have hx := nx; clear nx; have hs := ns; clear ns; have g0 := n0; clear n0; have g1 := n1; clear n1; have g2 := n2; clear n2; have g3 := n3; clear n3; have g4 := n4; clear n4; have g5 := n5; clear n5; have z0 := nz0; clear nz0; have z1 := nz1; clear nz1) | fail))
    all_goals (try go_region)
    all_goals (try go_wp2_with fail)
    all_goals exact bodyPost_ret (v := two L (t + 1)) (by simp [results, Tryz.results164, go_sem, *]) rfl ⟨rfl, Ext.auK⟩
  · rw [if_neg hc]
    have hcB : (W == L * 10) = false := by simpa using hc
    clear n0 n1 r0 r1 okS nn0 nn1 hc w0 w1
    go_enter Tryz.func164, Tryz.ntmps164
    go_wp2_with (first | (go_at_call 198; refine (WQC.out _).mono ?_; rintro rv w1 ⟨rfl, hb⟩; have ns : w.heap.size + 1 < w1.heap.size := hb.ltK; have n0 : w1.cell? ⟨w.heap.size, 0, none⟩ = some (.int .i64 num) := hb.cellK; have n1 : w1.cell? ⟨w.heap.size, 1, none⟩ = some (.int .i64 den) := hb.cellK; have n2 : w1.cell? ⟨w.heap.size, 2, none⟩ = some (.int .i64 t) := hb.cellK; have n3 : w1.cell? ⟨w.heap.size, 3, none⟩ = some (.int .i64 P) := hb.cellK; have n4 : w1.cell? ⟨w.heap.size + 1, 0, none⟩ = some (.int .i64 0) := hb.cellK; have n5 : w1.cell? ⟨w.heap.size + 1, 1, none⟩ = some (.int .i64 0) := hb.cellK; have nz0 : w1.frozen? ⟨w.heap.size + 1, 0, none⟩ = false := hb.frzK; have nz1 : w1.frozen? ⟨w.heap.size + 1, 1, none⟩ = false := hb.frzK; (first | (have nx := hx.trK hb; clear hx) | have nx := hb); clear hb; try clear hs; try clear g0; try clear g1; try clear g2; try clear g3; try clear g4; try clear g5; try clear z0; try clear z1; have hx := nx; clear nx; have hs := ns; clear ns; have g0 := n0; clear n0; have g1 := n1; clear n1; have g2 := n2; clear n2; have g3 := n3; clear n3; have g4 := n4; clear n4; have g5 := n5; clear n5; have z0 := nz0; clear nz0; have z1 := nz1; clear nz1) | (go_at_call 163; refine (TH.out _).mono ?_; rintro rv w1 ⟨rfl, hb⟩; have ns : w.heap.size + 1 < w1.heap.size := hb.ltK; have n0 : w1.cell? ⟨w.heap.size, 0, none⟩ = some (.int .i64 num) := hb.cellK; have n1 : w1.cell? ⟨w.heap.size, 1, none⟩ = some (.int .i64 den) := hb.cellK; have n2 : w1.cell? ⟨w.heap.size, 2, none⟩ = some (.int .i64 t) := hb.cellK; have n3 : w1.cell? ⟨w.heap.size, 3, none⟩ = some (.int .i64 P) := hb.cellK; have n4 : w1.cell? ⟨w.heap.size + 1, 0, none⟩ = some (.int .i64 0) := hb.cellK; have n5 : w1.cell? ⟨w.heap.size + 1, 1, none⟩ = some (.int .i64 0) := hb.cellK; have nz0 : w1.frozen? ⟨w.heap.size + 1, 0, none⟩ = false := hb.frzK; have nz1 : w1.frozen? ⟨w.heap.size + 1, 1, none⟩ = false := hb.frzK; (first | (have nx := hx.trK hb; clear hx) | have nx := hb); clear hb; try clear hs; try clear g0; try clear g1; try clear g2; try clear g3; try clear g4; try clear g5; try clear z0; try clear z1; have hx := nx; clear nx; have hs := ns; clear ns; have g0 := n0; clear n0; have g1 := n1; clear n1; have g2 := n2; clear n2; have g3 := n3; clear n3; have g4 := n4; clear n4; have g5 := n5; clear n5; have z0 := nz0; clear nz0; have z1 := nz1; clear nz1))
    try (go_region)
    all_goals (try go_wp2_with (first | (go_at_call 163; refine (TH.out _).mono ?_; rintro rv w1 ⟨rfl, hb⟩; have ns : w.heap.size + 1 < w1.heap.size := hb.ltK; have n0 : w1.cell? ⟨w.heap.size, 0, none⟩ = some (.int .i64 num) := hb.cellK; have n1 : w1.cell? ⟨w.heap.size, 1, none⟩ = some (.int .i64 den) := hb.cellK; have n2 : w1.cell? ⟨w.heap.size, 2, none⟩ = some (.int .i64 t) := hb.cellK; have n3 : w1.cell? ⟨w.heap.size, 3, none⟩ = some (.int .i64 P) := hb.cellK; have n4 : w1.cell? ⟨w.heap.size + 1, 0, none⟩ = some (.int .i64 0) := hb.cellK; have n5 : w1.cell? ⟨w.heap.size + 1, 1, none⟩ = some (.int .i64 0) := hb.cellK; have nz0 : w1.frozen? ⟨w.heap.size + 1, 0, none⟩ = false := hb.frzK; have nz1 : w1.frozen? ⟨w.heap.size + 1, 1, none⟩ = false := hb.frzK; (first | (have nx := hx.trK hb; clear hx) | have nx := hb); clear hb; try clear hs; try clear g0; try clear g1; try clear g2; try clear g3; try clear g4; try clear g5; try clear z0; try clear z1; have hx := nx; clear nx; have hs := ns; clear ns; have g0 := n0; clear n0; have g1 := n1; clear n1; have g2 := n2; clear n2; have g3 := n3; clear n3; have g4 := n4; clear n4; have g5 := n5; clear n5; have z0 := nz0; clear nz0; have z1 := nz1; clear nz1) | fail))
    all_goals (try go_region)
    all_goals (try go_wp2_with fail)
    all_goals exact bodyPost_ret (v := two W t) (by simp [results, Tryz.results164, go_sem, *]) rfl ⟨rfl, Ext.auK⟩
end Go.Proofs.YtfgbndjhaiigbacGreatDoor

namespace Go.Proofs.YtfgbndjhaiigbacGreatDoor
open Go Go.RowKit
set_option linter.unusedSimpArgs false
set_option linter.unusedVariables false
set_option maxRecDepth 100000

attribute [local go_sem] ta_finite_finite ta_finite_infinite ta_finite_noNumber ta_infinite_finite ta_infinite_infinite ta_infinite_noNumber ta_noNumber_finite ta_noNumber_infinite ta_noNumber_noNumber

/-- What beside puts first and second. -/
def upX (num den : Int) : Int := if num % den = 0 then num / den else num / den + 1

def bsX (L num den t : Int) : Int × Int := if den < 2 * (num % den) then adX L (upX num den) t else (num / den, t)

def bsY (L num den t : Int) : Int × Int := if den < 2 * (num % den) then (num / den, t) else adX L (upX num den) t

theorem ad_low {L d t : Int} (h : d < 10 * L) : adX L d t = (d, t) := by unfold adX; rw [if_neg (by omega)]

theorem ad_rc {e f L d t m : Int} (hL : 0 < L) (L1 : L ≤ 10000) : rcV e f (adX L d t).1 (adX L d t).2 m = rcV e f d t m := by
  unfold adX
  split
  · rename_i h
    rw [h, Int.mul_comm L 10]
    exact (rc_ten (by omega) (by omega)).symm
  · rfl

/-- One round: what beside gives, and which of both is taken. -/
theorem sh_round {e f p L num den t : Int} (hg : goodB e f = true) (p0 : 0 < p) (p1 : p ≤ grV e f) (hL : 0 < L) (L1 : L ≤ 10000)
    (h : RtP e f (mgV f p) num den t) (hd : 0 < den) (hb : BlC e f (mgV f p) L (num / den) t) (t0 : -14 ≤ t) (t1 : t ≤ 13) :
    (rcV e f (bsX L num den t).1 (bsX L num den t).2 0 = p → bsX L num den t = shX e f (mgV f p) p L ∧ shOk e f (mgV f p) p L = true) ∧
    (rcV e f (bsX L num den t).1 (bsX L num den t).2 0 ≠ p → rcV e f (bsY L num den t).1 (bsY L num den t).2 0 = p → bsY L num den t = shX e f (mgV f p) p L ∧ shOk e f (mgV f p) p L = true) ∧
    (rcV e f (bsX L num den t).1 (bsX L num den t).2 0 ≠ p → rcV e f (bsY L num den t).1 (bsY L num den t).2 0 ≠ p → shOk e f (mgV f p) p L = false) ∧
    dcB (bsX L num den t).1 (bsX L num den t).2 = true ∧ dcB (bsY L num den t).1 (bsY L num den t).2 = true := by
  have e1 := bl_is hL hb
  have hn := sh_near h hd e1
  have hx : num % den = 0 → shA e f (mgV f p) p L = true := fun hz => sh_exact hg p0 p1 hL (by omega) hb t0 (by omega) (sh_rest h hd hz)
  obtain ⟨a1, a2, a3, a4⟩ := hb
  have dl : dcB (num / den) t = true := dc_iff.2 ⟨⟨by omega, by omega⟩, t0, by omega⟩
  have du : dcB (adX L (upX num den) t).1 (adX L (upX num den) t).2 = true := by
    unfold adX upX
    split
    · split <;> exact dc_iff.2 ⟨⟨by show 0 ≤ _; omega, by show _ ≤ 999999; omega⟩, by show -14 ≤ _; omega, by show _ ≤ 14; omega⟩
    · split <;> exact dc_iff.2 ⟨⟨by show 0 ≤ _; omega, by show _ ≤ 999999; omega⟩, by show -14 ≤ _; omega, by show _ ≤ 14; omega⟩
  have eA : shA e f (mgV f p) p L = decide (rcV e f (num / den) t 0 = p) := by unfold shA; rw [e1]
  have eB : shB e f (mgV f p) p L = decide (rcV e f (num / den + 1) t 0 = p) := by unfold shB; rw [e1]
  have lowX : adX L (num / den) t = (num / den, t) := ad_low a4
  unfold bsX bsY
  by_cases hc : den < 2 * (num % den)
  · have hz : ¬ num % den = 0 := by omega
    have eu : upX num den = num / den + 1 := if_neg hz
    rw [if_pos hc, if_pos hc, eu]
    rw [eu] at du
    have hN : 0 < shN e f (mgV f p) L := hn.2 hc
    have hU : shU e f (mgV f p) p L = shB e f (mgV f p) p L := if_pos hN
    refine ⟨fun q => ?_, fun q r => ?_, fun q r => ?_, du, dl⟩
    · rw [ad_rc hL (by omega)] at q
      rw [decide_eq_true q] at eB
      rw [eB] at hU
      refine ⟨?_, by unfold shOk; rw [eB, Bool.or_true]⟩
      unfold shX shD
      rw [hU, e1]; rfl
    · rw [ad_rc hL (by omega)] at q
      rw [decide_eq_false q] at eB
      rw [decide_eq_true (show rcV e f (num / den) t 0 = p from r)] at eA
      rw [eB] at hU
      refine ⟨?_, by unfold shOk; rw [eA, Bool.true_or]⟩
      unfold shX shD
      rw [hU, e1]
      exact lowX.symm
    · rw [ad_rc hL (by omega)] at q
      unfold shOk
      rw [eA, eB, decide_eq_false q, decide_eq_false (show ¬ rcV e f (num / den) t 0 = p from r)]
      rfl
  · rw [if_neg hc, if_neg hc]
    have hN : ¬ 0 < shN e f (mgV f p) L := fun q => hc (hn.1 q)
    have hU : shU e f (mgV f p) p L = !shA e f (mgV f p) p L := if_neg hN
    refine ⟨fun q => ?_, fun q r => ?_, fun q r => ?_, dl, du⟩
    · rw [decide_eq_true (show rcV e f (num / den) t 0 = p from q)] at eA
      rw [eA] at hU
      refine ⟨?_, by unfold shOk; rw [eA, Bool.true_or]⟩
      unfold shX shD
      rw [hU, e1]
      exact lowX.symm
    · rw [decide_eq_false (show ¬ rcV e f (num / den) t 0 = p from q)] at eA
      by_cases hz : num % den = 0
      · rw [hx hz] at eA; cases eA
      · have eu : upX num den = num / den + 1 := if_neg hz
        rw [eu] at r ⊢
        rw [ad_rc hL (by omega)] at r
        rw [decide_eq_true r] at eB
        rw [eA] at hU
        refine ⟨?_, by unfold shOk; rw [eB, Bool.or_true]⟩
        unfold shX shD
        rw [hU, e1]; rfl
    · rw [decide_eq_false (show ¬ rcV e f (num / den) t 0 = p from q)] at eA
      by_cases hz : num % den = 0
      · rw [hx hz] at eA; cases eA
      · have eu : upX num den = num / den + 1 := if_neg hz
        rw [eu] at r
        rw [ad_rc hL (by omega)] at r
        unfold shOk
        rw [eA, eB, decide_eq_false r]
        rfl

/-- What the model takes: no 0 at its end, or ten for one place. -/
theorem sh_strip {e f v p : Int} (P : Nat) (hP : P < 5) (hbl : ∀ Q : Nat, Q < 5 → ∃ low t, BlC e f v (tenN Q) low t) (hno : ∀ Q, Q < P → shOk e f v p (tenN Q) = false) (hyes : shOk e f v p (tenN P) = true) :
    (shD e f v p (tenN P) % 10 ≠ 0 ∧ shX e f v p (tenN P) = (shD e f v p (tenN P), (blX e f v (tenN P)).2)) ∨ (shD e f v p (tenN P) = 10 ∧ shX e f v p (tenN P) = (1, (blX e f v (tenN P)).2 + 1)) := by
  obtain ⟨low, t, h⟩ := hbl P hP
  have e1 := bl_is (by have := tenN_pos P; omega) h
  cases P with
  | zero =>
    obtain ⟨a1, a2, a3, a4⟩ := h
    rw [show tenN 0 = 1 from rfl] at *
    have hd : shD e f v p 1 = low ∨ shD e f v p 1 = low + 1 := by
      unfold shD; rw [e1]; split
      · right; rfl
      · left; rfl
    by_cases h10 : shD e f v p 1 = 10
    · right
      refine ⟨h10, ?_⟩
      unfold shX adX
      rw [if_pos (by omega)]
    · left
      refine ⟨by omega, ?_⟩
      unfold shX adX
      rw [if_neg (by omega)]
  | succ k =>
    obtain ⟨low2, t2, h2⟩ := hbl k (by omega)
    have hk := tenN_pos k
    have hk4 := tenN_le (k := k) 3 1000 rfl (by omega)
    have et : tenN (k + 1) = 10 * tenN k := by show tenN k * 10 = _; omega
    rw [et] at h hyes e1 ⊢
    have q := sh_end (by omega) hk4 h h2 (hno k (by omega)) hyes
    left
    refine ⟨q, ?_⟩
    unfold shX adX
    rw [if_neg (by omega)]

theorem rounded_v (e f d t m : Int) (hg : goodB e f = true) (hd : dcB d t = true) (m0 : 0 ≤ m) (m1 : m ≤ 5) (w : World) : Calls Tryz.prog 116 #[two d t, fmt e f, .int .i64 m] w fun rv w' => rv = .returned (.int .i64 (rcV e f d t m)) ∧ Ext w w' :=
  (rounded_dec e f d t m hg hd m0 m1 w).mono fun _ _ ⟨s, he, hs, hx⟩ => ⟨by rw [he, rc_one hg hs], hx⟩

theorem bl_ex {e f a : Int} (hf : finB e f a = true) (hz : unitsV e f a ≠ 0) (w : World) (P : Nat) (hP : P < 6) : ∃ low t, BlT e f ((unitsV e f a).natAbs : Int) (P + 1) low t := by
  obtain ⟨_, _, _, ⟨low, t, _, h, _⟩, _⟩ := txBelow_any e f a ((P : Int) + 1) hf hz (by omega) (by omega) w []
  rw [show ((P : Int) + 1).toNat = P + 1 by omega] at h
  exact ⟨low, t, h⟩

set_option maxHeartbeats 6400000 in
theorem beside_lt (num den t P d1 t1 d2 t2 : Int) (hc : den < 2 * (num % den)) (H1 : ∀ w, Calls Tryz.prog 164 #[.agg #[.int .i64 num, .int .i64 den, .int .i64 t, .int .i64 P], .int .i64 2] w fun rv w' => rv = .returned (two d1 t1) ∧ Ext w w') (H2 : ∀ w, Calls Tryz.prog 164 #[.agg #[.int .i64 num, .int .i64 den, .int .i64 t, .int .i64 P], .int .i64 3] w fun rv w' => rv = .returned (two d2 t2) ∧ Ext w w') (d0 : 0 < den) (dm : den ≤ 16777216) (n0 : 0 ≤ num) (nm : num ≤ 16777216000000) (w : World) :
    Calls Tryz.prog 115 #[.agg #[.int .i64 num, .int .i64 den, .int .i64 t, .int .i64 P]] w fun rv w' => rv = .returned (.agg #[.int .i64 d2, .int .i64 t2, .int .i64 d1, .int .i64 t1]) ∧ Ext w w' := by
  have H1 := Lib.hid H1
  have H2 := Lib.hid H2
  have r0 := Int.emod_nonneg num (show den ≠ 0 by omega)
  have r1 := Int.emod_lt_of_pos num d0
  have tm : num.tmod den = num % den := Int.tmod_eq_emod_of_nonneg n0
  have hz1 : ¬ den = 0 := by omega
  have hz2 : (den == 0) = false := by simpa using hz1
  have kw : IntKind.i64.wrap (num % den) = num % den := IntWalk.i64_in _ (by omega)
  have kw2 : IntKind.i64.wrap (2 * (num % den)) = 2 * (num % den) := IntWalk.i64_in _ (by omega)
  generalize num % den = r at *
  clear r0 r1 n0 nm d0 dm
  go_enter Tryz.func115, Tryz.ntmps115
  go_wp2_with fail
  obtain ⟨W0, hW⟩ : ∃ W0, (w.alloc (.cells #[.int .i64 num, .int .i64 den, .int .i64 t, .int .i64 P] 132)).alloc (.cells #[.int .i64 0, .int .i64 0, .int .i64 0, .int .i64 0] 130) = W0 := ⟨_, rfl⟩
  have hs : w.heap.size + 1 < W0.heap.size := by rw [← hW]; simp
  have hx0 : Ext w W0 := by rw [← hW]; exact ((Ext.new _ _).alloc _)
  have hx : Ext W0 W0 := Ext.refl _
  have g0 : W0.cell? ⟨w.heap.size, 0, none⟩ = some (.int .i64 num) := by rw [← hW]; simp [go_sem]
  have g1 : W0.cell? ⟨w.heap.size, 1, none⟩ = some (.int .i64 den) := by rw [← hW]; simp [go_sem]
  have g2 : W0.cell? ⟨w.heap.size, 2, none⟩ = some (.int .i64 t) := by rw [← hW]; simp [go_sem]
  have g3 : W0.cell? ⟨w.heap.size, 3, none⟩ = some (.int .i64 P) := by rw [← hW]; simp [go_sem]
  have g4 : W0.cell? ⟨w.heap.size + 1, 0, none⟩ = some (.int .i64 0) := by rw [← hW]; simp [go_sem]
  have g5 : W0.cell? ⟨w.heap.size + 1, 1, none⟩ = some (.int .i64 0) := by rw [← hW]; simp [go_sem]
  have g6 : W0.cell? ⟨w.heap.size + 1, 2, none⟩ = some (.int .i64 0) := by rw [← hW]; simp [go_sem]
  have g7 : W0.cell? ⟨w.heap.size + 1, 3, none⟩ = some (.int .i64 0) := by rw [← hW]; simp [go_sem]
  have z0 : W0.frozen? ⟨w.heap.size + 1, 0, none⟩ = false := by rw [← hW]; simp [go_sem]
  have z1 : W0.frozen? ⟨w.heap.size + 1, 1, none⟩ = false := by rw [← hW]; simp [go_sem]
  have z2 : W0.frozen? ⟨w.heap.size + 1, 2, none⟩ = false := by rw [← hW]; simp [go_sem]
  have z3 : W0.frozen? ⟨w.heap.size + 1, 3, none⟩ = false := by rw [← hW]; simp [go_sem]
  rw [hW]
  clear hW
  go_cut [3, 4] (fun s3 s4 wx => ∃ g h : Nat, s3 = .pointer (some ⟨g, 0, none⟩) ∧ s4 = .pointer (some ⟨h, 0, none⟩) ∧ wx.cell? ⟨g, 0, none⟩ = some (.int .i64 d1) ∧ wx.cell? ⟨g, 1, none⟩ = some (.int .i64 t1) ∧ wx.cell? ⟨h, 0, none⟩ = some (.int .i64 d2) ∧ wx.cell? ⟨h, 1, none⟩ = some (.int .i64 t2) ∧ wx.cell? ⟨w.heap.size, 0, none⟩ = some (.int .i64 num) ∧ wx.cell? ⟨w.heap.size, 1, none⟩ = some (.int .i64 den) ∧ wx.cell? ⟨w.heap.size, 2, none⟩ = some (.int .i64 t) ∧ wx.cell? ⟨w.heap.size, 3, none⟩ = some (.int .i64 P) ∧ w.heap.size + 1 < wx.heap.size ∧ Ext W0 wx)
  case first =>
    go_region_held3 (fun w' => w'.cell? ⟨w.heap.size, 0, none⟩ = some (.int .i64 num) ∧ w'.cell? ⟨w.heap.size, 1, none⟩ = some (.int .i64 den) ∧ w'.cell? ⟨w.heap.size, 2, none⟩ = some (.int .i64 t) ∧ w'.cell? ⟨w.heap.size, 3, none⟩ = some (.int .i64 P) ∧ w.heap.size + 1 < w'.heap.size) ((refine ⟨?_, ?_, ?_, ?_, ?_⟩ <;> first | with_reducible assumption | ((repeat first | rw [cell_set_far _ _ _ _ _ _ (by omega)] | rw [cell_alloc_before _ _ _ _ (by first | omega | (simp [World.setCell]; done) | (simp [World.setCell]; omega))] | rw [cell_alloc_drew _ _ _ _ (by omega)] | rw [cell_drew]); with_reducible assumption) | ((rw [cell_setRow_far _ _ _ _ _ (by omega)]); with_reducible assumption) | ((rw [setRow_size]); with_reducible assumption) | (simp; done) | (simp [World.setCell]; first | done | omega) | (simp [go_sem, World.cell?_alloc_past, World.cell?_setCell_far, *]; done))) ((first | (go_at_call 164; (with_reducible refine (H1.out _).mono ?_); rintro rv w1 ⟨rfl, hb⟩; (first | ((first | (have ok0 := (hb.cells _ _ kt).trans k0) | (have ok0 := (hb.cells _ _ (lt_alloc kt)).trans ((cell_alloc_before _ _ _ _ kt).trans k0)) | (have ok0 := (hb.cells _ _ (lt_alloc (lt_alloc kt))).trans ((cell_alloc_before _ _ _ _ (lt_alloc kt)).trans ((cell_alloc_before _ _ _ _ kt).trans k0)))); (first | (have ok1 := (hb.cells _ _ kt).trans k1) | (have ok1 := (hb.cells _ _ (lt_alloc kt)).trans ((cell_alloc_before _ _ _ _ kt).trans k1)) | (have ok1 := (hb.cells _ _ (lt_alloc (lt_alloc kt))).trans ((cell_alloc_before _ _ _ _ (lt_alloc kt)).trans ((cell_alloc_before _ _ _ _ kt).trans k1)))); (first | (have okz0 := (hb.frz _ _ kt).trans kz0) | (have okz0 := (hb.frz _ _ (lt_alloc kt)).trans ((frz_alloc_before _ _ _ _ kt).trans kz0)) | (have okz0 := (hb.frz _ _ (lt_alloc (lt_alloc kt))).trans ((frz_alloc_before _ _ _ _ (lt_alloc kt)).trans ((frz_alloc_before _ _ _ _ kt).trans kz0)))); (first | (have okz1 := (hb.frz _ _ kt).trans kz1) | (have okz1 := (hb.frz _ _ (lt_alloc kt)).trans ((frz_alloc_before _ _ _ _ kt).trans kz1)) | (have okz1 := (hb.frz _ _ (lt_alloc (lt_alloc kt))).trans ((frz_alloc_before _ _ _ _ (lt_alloc kt)).trans ((frz_alloc_before _ _ _ _ kt).trans kz1)))); (first | (have ot := hb.lt kt) | (have ot := hb.lt (lt_alloc kt)) | (have ot := hb.lt (lt_alloc (lt_alloc kt)))); clear k0 k1 kz0 kz1; have k0 := ok0; have k1 := ok1; have kz0 := okz0; have kz1 := okz1; have kt := ot; clear ok0 ok1 okz0 okz1 ot) | skip); (first | ((first | (have om0 := (hb.cells _ _ mt).trans m0) | (have om0 := (hb.cells _ _ (lt_alloc mt)).trans ((cell_alloc_before _ _ _ _ mt).trans m0)) | (have om0 := (hb.cells _ _ (lt_alloc (lt_alloc mt))).trans ((cell_alloc_before _ _ _ _ (lt_alloc mt)).trans ((cell_alloc_before _ _ _ _ mt).trans m0)))); (first | (have om1 := (hb.cells _ _ mt).trans m1) | (have om1 := (hb.cells _ _ (lt_alloc mt)).trans ((cell_alloc_before _ _ _ _ mt).trans m1)) | (have om1 := (hb.cells _ _ (lt_alloc (lt_alloc mt))).trans ((cell_alloc_before _ _ _ _ (lt_alloc mt)).trans ((cell_alloc_before _ _ _ _ mt).trans m1)))); (first | (have omz0 := (hb.frz _ _ mt).trans mz0) | (have omz0 := (hb.frz _ _ (lt_alloc mt)).trans ((frz_alloc_before _ _ _ _ mt).trans mz0)) | (have omz0 := (hb.frz _ _ (lt_alloc (lt_alloc mt))).trans ((frz_alloc_before _ _ _ _ (lt_alloc mt)).trans ((frz_alloc_before _ _ _ _ mt).trans mz0)))); (first | (have omz1 := (hb.frz _ _ mt).trans mz1) | (have omz1 := (hb.frz _ _ (lt_alloc mt)).trans ((frz_alloc_before _ _ _ _ mt).trans mz1)) | (have omz1 := (hb.frz _ _ (lt_alloc (lt_alloc mt))).trans ((frz_alloc_before _ _ _ _ (lt_alloc mt)).trans ((frz_alloc_before _ _ _ _ mt).trans mz1)))); (first | (have ot := hb.lt mt) | (have ot := hb.lt (lt_alloc mt)) | (have ot := hb.lt (lt_alloc (lt_alloc mt)))); clear m0 m1 mz0 mz1; have m0 := om0; have m1 := om1; have mz0 := omz0; have mz1 := omz1; have mt := ot; clear om0 om1 omz0 omz1 ot; (first | (have _q := k0; clear _q) | (first | (have q2 := Ext.new2 hb; obtain ⟨k0, k1, kz0, kz1, kt⟩ := q2; try simp only [World.size_alloc, World.size_drew, Nat.add_assoc, Nat.reduceAdd] at k0 k1 kz0 kz1 kt) | (have q2 := Ext.new2d hb; obtain ⟨k0, k1, kz0, kz1, kt⟩ := q2; try simp only [World.size_alloc, World.size_drew, Nat.add_assoc, Nat.reduceAdd] at k0 k1 kz0 kz1 kt)) | skip)) | ((first | (have q2 := Ext.new2 hb; obtain ⟨m0, m1, mz0, mz1, mt⟩ := q2; try simp only [World.size_alloc, World.size_drew, Nat.add_assoc, Nat.reduceAdd] at m0 m1 mz0 mz1 mt) | (have q2 := Ext.new2d hb; obtain ⟨m0, m1, mz0, mz1, mt⟩ := q2; try simp only [World.size_alloc, World.size_drew, Nat.add_assoc, Nat.reduceAdd] at m0 m1 mz0 mz1 mt)); (first | (first | (have q2 := Ext.new2b hb; obtain ⟨k0, k1, kz0, kz1, kt⟩ := q2; try simp only [World.size_alloc, World.size_drew, Nat.add_assoc, Nat.reduceAdd] at k0 k1 kz0 kz1 kt) | (have q2 := Ext.new2bd hb; obtain ⟨k0, k1, kz0, kz1, kt⟩ := q2; try simp only [World.size_alloc, World.size_drew, Nat.add_assoc, Nat.reduceAdd] at k0 k1 kz0 kz1 kt)) | skip)) | skip); have sx_ := hx.size; have ns : w.heap.size + 1 < w1.heap.size := hb.ltK; have n0 : w1.cell? ⟨w.heap.size, 0, none⟩ = some (.int .i64 num) := (hb.cells _ _ (by first | with_reducible assumption | omega | (simp; done) | (simp; omega))).trans (by first | with_reducible assumption | (simp; done) | (simp; with_reducible assumption) | (rw [cell_alloc_before _ _ _ _ (by first | omega | (simp [World.setCell]; done) | (simp [World.setCell]; omega))]; with_reducible assumption) | (simp [go_sem, *]; done)); have n1 : w1.cell? ⟨w.heap.size, 1, none⟩ = some (.int .i64 den) := (hb.cells _ _ (by first | with_reducible assumption | omega | (simp; done) | (simp; omega))).trans (by first | with_reducible assumption | (simp; done) | (simp; with_reducible assumption) | (rw [cell_alloc_before _ _ _ _ (by first | omega | (simp [World.setCell]; done) | (simp [World.setCell]; omega))]; with_reducible assumption) | (simp [go_sem, *]; done)); have n2 : w1.cell? ⟨w.heap.size, 2, none⟩ = some (.int .i64 t) := (hb.cells _ _ (by first | with_reducible assumption | omega | (simp; done) | (simp; omega))).trans (by first | with_reducible assumption | (simp; done) | (simp; with_reducible assumption) | (rw [cell_alloc_before _ _ _ _ (by first | omega | (simp [World.setCell]; done) | (simp [World.setCell]; omega))]; with_reducible assumption) | (simp [go_sem, *]; done)); have n3 : w1.cell? ⟨w.heap.size, 3, none⟩ = some (.int .i64 P) := (hb.cells _ _ (by first | with_reducible assumption | omega | (simp; done) | (simp; omega))).trans (by first | with_reducible assumption | (simp; done) | (simp; with_reducible assumption) | (rw [cell_alloc_before _ _ _ _ (by first | omega | (simp [World.setCell]; done) | (simp [World.setCell]; omega))]; with_reducible assumption) | (simp [go_sem, *]; done)); (first | (have nx := hx.trK hb; clear hx) | have nx := hb); clear hb; try clear g0; try clear g1; try clear g2; try clear g3; have hx := nx; clear nx; have hs := ns; clear ns; have g0 := n0; clear n0; have g1 := n1; clear n1; have g2 := n2; clear n2; have g3 := n3; clear n3) | (go_at_call 164; (with_reducible refine (H2.out _).mono ?_); rintro rv w1 ⟨rfl, hb⟩; (first | ((first | (have ok0 := (hb.cells _ _ kt).trans k0) | (have ok0 := (hb.cells _ _ (lt_alloc kt)).trans ((cell_alloc_before _ _ _ _ kt).trans k0)) | (have ok0 := (hb.cells _ _ (lt_alloc (lt_alloc kt))).trans ((cell_alloc_before _ _ _ _ (lt_alloc kt)).trans ((cell_alloc_before _ _ _ _ kt).trans k0)))); (first | (have ok1 := (hb.cells _ _ kt).trans k1) | (have ok1 := (hb.cells _ _ (lt_alloc kt)).trans ((cell_alloc_before _ _ _ _ kt).trans k1)) | (have ok1 := (hb.cells _ _ (lt_alloc (lt_alloc kt))).trans ((cell_alloc_before _ _ _ _ (lt_alloc kt)).trans ((cell_alloc_before _ _ _ _ kt).trans k1)))); (first | (have okz0 := (hb.frz _ _ kt).trans kz0) | (have okz0 := (hb.frz _ _ (lt_alloc kt)).trans ((frz_alloc_before _ _ _ _ kt).trans kz0)) | (have okz0 := (hb.frz _ _ (lt_alloc (lt_alloc kt))).trans ((frz_alloc_before _ _ _ _ (lt_alloc kt)).trans ((frz_alloc_before _ _ _ _ kt).trans kz0)))); (first | (have okz1 := (hb.frz _ _ kt).trans kz1) | (have okz1 := (hb.frz _ _ (lt_alloc kt)).trans ((frz_alloc_before _ _ _ _ kt).trans kz1)) | (have okz1 := (hb.frz _ _ (lt_alloc (lt_alloc kt))).trans ((frz_alloc_before _ _ _ _ (lt_alloc kt)).trans ((frz_alloc_before _ _ _ _ kt).trans kz1)))); (first | (have ot := hb.lt kt) | (have ot := hb.lt (lt_alloc kt)) | (have ot := hb.lt (lt_alloc (lt_alloc kt)))); clear k0 k1 kz0 kz1; have k0 := ok0; have k1 := ok1; have kz0 := okz0; have kz1 := okz1; have kt := ot; clear ok0 ok1 okz0 okz1 ot) | skip); (first | ((first | (have om0 := (hb.cells _ _ mt).trans m0) | (have om0 := (hb.cells _ _ (lt_alloc mt)).trans ((cell_alloc_before _ _ _ _ mt).trans m0)) | (have om0 := (hb.cells _ _ (lt_alloc (lt_alloc mt))).trans ((cell_alloc_before _ _ _ _ (lt_alloc mt)).trans ((cell_alloc_before _ _ _ _ mt).trans m0)))); (first | (have om1 := (hb.cells _ _ mt).trans m1) | (have om1 := (hb.cells _ _ (lt_alloc mt)).trans ((cell_alloc_before _ _ _ _ mt).trans m1)) | (have om1 := (hb.cells _ _ (lt_alloc (lt_alloc mt))).trans ((cell_alloc_before _ _ _ _ (lt_alloc mt)).trans ((cell_alloc_before _ _ _ _ mt).trans m1)))); (first | (have omz0 := (hb.frz _ _ mt).trans mz0) | (have omz0 := (hb.frz _ _ (lt_alloc mt)).trans ((frz_alloc_before _ _ _ _ mt).trans mz0)) | (have omz0 := (hb.frz _ _ (lt_alloc (lt_alloc mt))).trans ((frz_alloc_before _ _ _ _ (lt_alloc mt)).trans ((frz_alloc_before _ _ _ _ mt).trans mz0)))); (first | (have omz1 := (hb.frz _ _ mt).trans mz1) | (have omz1 := (hb.frz _ _ (lt_alloc mt)).trans ((frz_alloc_before _ _ _ _ mt).trans mz1)) | (have omz1 := (hb.frz _ _ (lt_alloc (lt_alloc mt))).trans ((frz_alloc_before _ _ _ _ (lt_alloc mt)).trans ((frz_alloc_before _ _ _ _ mt).trans mz1)))); (first | (have ot := hb.lt mt) | (have ot := hb.lt (lt_alloc mt)) | (have ot := hb.lt (lt_alloc (lt_alloc mt)))); clear m0 m1 mz0 mz1; have m0 := om0; have m1 := om1; have mz0 := omz0; have mz1 := omz1; have mt := ot; clear om0 om1 omz0 omz1 ot; (first | (have _q := k0; clear _q) | (first | (have q2 := Ext.new2 hb; obtain ⟨k0, k1, kz0, kz1, kt⟩ := q2; try simp only [World.size_alloc, World.size_drew, Nat.add_assoc, Nat.reduceAdd] at k0 k1 kz0 kz1 kt) | (have q2 := Ext.new2d hb; obtain ⟨k0, k1, kz0, kz1, kt⟩ := q2; try simp only [World.size_alloc, World.size_drew, Nat.add_assoc, Nat.reduceAdd] at k0 k1 kz0 kz1 kt)) | skip)) | ((first | (have q2 := Ext.new2 hb; obtain ⟨m0, m1, mz0, mz1, mt⟩ := q2; try simp only [World.size_alloc, World.size_drew, Nat.add_assoc, Nat.reduceAdd] at m0 m1 mz0 mz1 mt) | (have q2 := Ext.new2d hb; obtain ⟨m0, m1, mz0, mz1, mt⟩ := q2; try simp only [World.size_alloc, World.size_drew, Nat.add_assoc, Nat.reduceAdd] at m0 m1 mz0 mz1 mt)); (first | (first | (have q2 := Ext.new2b hb; obtain ⟨k0, k1, kz0, kz1, kt⟩ := q2; try simp only [World.size_alloc, World.size_drew, Nat.add_assoc, Nat.reduceAdd] at k0 k1 kz0 kz1 kt) | (have q2 := Ext.new2bd hb; obtain ⟨k0, k1, kz0, kz1, kt⟩ := q2; try simp only [World.size_alloc, World.size_drew, Nat.add_assoc, Nat.reduceAdd] at k0 k1 kz0 kz1 kt)) | skip)) | skip); have sx_ := hx.size; have ns : w.heap.size + 1 < w1.heap.size := hb.ltK; have n0 : w1.cell? ⟨w.heap.size, 0, none⟩ = some (.int .i64 num) := (hb.cells _ _ (by first | with_reducible assumption | omega | (simp; done) | (simp; omega))).trans (by first | with_reducible assumption | (simp; done) | (simp; with_reducible assumption) | (rw [cell_alloc_before _ _ _ _ (by first | omega | (simp [World.setCell]; done) | (simp [World.setCell]; omega))]; with_reducible assumption) | (simp [go_sem, *]; done)); have n1 : w1.cell? ⟨w.heap.size, 1, none⟩ = some (.int .i64 den) := (hb.cells _ _ (by first | with_reducible assumption | omega | (simp; done) | (simp; omega))).trans (by first | with_reducible assumption | (simp; done) | (simp; with_reducible assumption) | (rw [cell_alloc_before _ _ _ _ (by first | omega | (simp [World.setCell]; done) | (simp [World.setCell]; omega))]; with_reducible assumption) | (simp [go_sem, *]; done)); have n2 : w1.cell? ⟨w.heap.size, 2, none⟩ = some (.int .i64 t) := (hb.cells _ _ (by first | with_reducible assumption | omega | (simp; done) | (simp; omega))).trans (by first | with_reducible assumption | (simp; done) | (simp; with_reducible assumption) | (rw [cell_alloc_before _ _ _ _ (by first | omega | (simp [World.setCell]; done) | (simp [World.setCell]; omega))]; with_reducible assumption) | (simp [go_sem, *]; done)); have n3 : w1.cell? ⟨w.heap.size, 3, none⟩ = some (.int .i64 P) := (hb.cells _ _ (by first | with_reducible assumption | omega | (simp; done) | (simp; omega))).trans (by first | with_reducible assumption | (simp; done) | (simp; with_reducible assumption) | (rw [cell_alloc_before _ _ _ _ (by first | omega | (simp [World.setCell]; done) | (simp [World.setCell]; omega))]; with_reducible assumption) | (simp [go_sem, *]; done)); (first | (have nx := hx.trK hb; clear hx) | have nx := hb); clear hb; try clear g0; try clear g1; try clear g2; try clear g3; have hx := nx; clear nx; have hs := ns; clear ns; have g0 := n0; clear n0; have g1 := n1; clear n1; have g2 := n2; clear n2; have g3 := n3; clear n3)))
    all_goals (go_wp2_with fail; go_meet; exact ⟨_, _, rfl, rfl, (by first | with_reducible assumption | (simp [go_sem, *]; done) | (simp [go_sem]; omega) | ((repeat first | rw [cell_set_far _ _ _ _ _ _ (by omega)] | rw [cell_alloc_before _ _ _ _ (by omega)] | rw [cell_alloc_drew _ _ _ _ (by omega)] | rw [cell_drew]); with_reducible assumption)), (by first | with_reducible assumption | (simp [go_sem, *]; done) | (simp [go_sem]; omega) | ((repeat first | rw [cell_set_far _ _ _ _ _ _ (by omega)] | rw [cell_alloc_before _ _ _ _ (by omega)] | rw [cell_alloc_drew _ _ _ _ (by omega)] | rw [cell_drew]); with_reducible assumption)), (by first | with_reducible assumption | (simp [go_sem, *]; done) | (simp [go_sem]; omega) | ((repeat first | rw [cell_set_far _ _ _ _ _ _ (by omega)] | rw [cell_alloc_before _ _ _ _ (by omega)] | rw [cell_alloc_drew _ _ _ _ (by omega)] | rw [cell_drew]); with_reducible assumption)), (by first | with_reducible assumption | (simp [go_sem, *]; done) | (simp [go_sem]; omega) | ((repeat first | rw [cell_set_far _ _ _ _ _ _ (by omega)] | rw [cell_alloc_before _ _ _ _ (by omega)] | rw [cell_alloc_drew _ _ _ _ (by omega)] | rw [cell_drew]); with_reducible assumption)), (by first | with_reducible assumption | (simp [go_sem, *]; done) | (simp [go_sem]; omega) | ((repeat first | rw [cell_set_far _ _ _ _ _ _ (by omega)] | rw [cell_alloc_before _ _ _ _ (by omega)] | rw [cell_alloc_drew _ _ _ _ (by omega)] | rw [cell_drew]); with_reducible assumption)), (by first | with_reducible assumption | (simp [go_sem, *]; done) | (simp [go_sem]; omega) | ((repeat first | rw [cell_set_far _ _ _ _ _ _ (by omega)] | rw [cell_alloc_before _ _ _ _ (by omega)] | rw [cell_alloc_drew _ _ _ _ (by omega)] | rw [cell_drew]); with_reducible assumption)), (by first | with_reducible assumption | (simp [go_sem, *]; done) | (simp [go_sem]; omega) | ((repeat first | rw [cell_set_far _ _ _ _ _ _ (by omega)] | rw [cell_alloc_before _ _ _ _ (by omega)] | rw [cell_alloc_drew _ _ _ _ (by omega)] | rw [cell_drew]); with_reducible assumption)), (by first | with_reducible assumption | (simp [go_sem, *]; done) | (simp [go_sem]; omega) | ((repeat first | rw [cell_set_far _ _ _ _ _ _ (by omega)] | rw [cell_alloc_before _ _ _ _ (by omega)] | rw [cell_alloc_drew _ _ _ _ (by omega)] | rw [cell_drew]); with_reducible assumption)), (by first | (simp [World.setCell]; done) | (simp [World.setCell]; omega) | omega), Ext.auK⟩)
  case rest =>
    obtain ⟨g, h, rfl, rfl, l0, l1, l2, l3, k0, k1, k2, k3, hs2, hx⟩ := hcut
    have c0 := (hx.cells _ _ hs).trans g4
    have y0 := (hx.frz _ _ hs).trans z0
    have c1 := (hx.cells _ _ hs).trans g5
    have y1 := (hx.frz _ _ hs).trans z1
    have c2 := (hx.cells _ _ hs).trans g6
    have y2 := (hx.frz _ _ hs).trans z2
    have c3 := (hx.cells _ _ hs).trans g7
    have y3 := (hx.frz _ _ hs).trans z3
    have hy := hx0.trans hx
    clear g0 g1 g2 g3 g4 g5 g6 g7 z0 z1 z2 z3 hx hx0
    have hx := hy
    clear hy
    go_wp2_with fail
    all_goals (try go_region)
    all_goals (try go_wp2_with fail)
    all_goals exact bodyPost_ret (v := .agg #[.int .i64 d2, .int .i64 t2, .int .i64 d1, .int .i64 t1]) (by simp [results, Tryz.results115, go_sem, *]) rfl ⟨rfl, Ext.auK⟩

set_option maxHeartbeats 6400000 in
theorem beside_ge (num den t P d1 t1 d2 t2 : Int) (hc : ¬ den < 2 * (num % den)) (H1 : ∀ w, Calls Tryz.prog 164 #[.agg #[.int .i64 num, .int .i64 den, .int .i64 t, .int .i64 P], .int .i64 2] w fun rv w' => rv = .returned (two d1 t1) ∧ Ext w w') (H2 : ∀ w, Calls Tryz.prog 164 #[.agg #[.int .i64 num, .int .i64 den, .int .i64 t, .int .i64 P], .int .i64 3] w fun rv w' => rv = .returned (two d2 t2) ∧ Ext w w') (d0 : 0 < den) (dm : den ≤ 16777216) (n0 : 0 ≤ num) (nm : num ≤ 16777216000000) (w : World) :
    Calls Tryz.prog 115 #[.agg #[.int .i64 num, .int .i64 den, .int .i64 t, .int .i64 P]] w fun rv w' => rv = .returned (.agg #[.int .i64 d1, .int .i64 t1, .int .i64 d2, .int .i64 t2]) ∧ Ext w w' := by
  have H1 := Lib.hid H1
  have H2 := Lib.hid H2
  have r0 := Int.emod_nonneg num (show den ≠ 0 by omega)
  have r1 := Int.emod_lt_of_pos num d0
  have tm : num.tmod den = num % den := Int.tmod_eq_emod_of_nonneg n0
  have hz1 : ¬ den = 0 := by omega
  have hz2 : (den == 0) = false := by simpa using hz1
  have kw : IntKind.i64.wrap (num % den) = num % den := IntWalk.i64_in _ (by omega)
  have kw2 : IntKind.i64.wrap (2 * (num % den)) = 2 * (num % den) := IntWalk.i64_in _ (by omega)
  generalize num % den = r at *
  clear r0 r1 n0 nm d0 dm
  go_enter Tryz.func115, Tryz.ntmps115
  go_wp2_with fail
  obtain ⟨W0, hW⟩ : ∃ W0, (w.alloc (.cells #[.int .i64 num, .int .i64 den, .int .i64 t, .int .i64 P] 132)).alloc (.cells #[.int .i64 0, .int .i64 0, .int .i64 0, .int .i64 0] 130) = W0 := ⟨_, rfl⟩
  have hs : w.heap.size + 1 < W0.heap.size := by rw [← hW]; simp
  have hx0 : Ext w W0 := by rw [← hW]; exact ((Ext.new _ _).alloc _)
  have hx : Ext W0 W0 := Ext.refl _
  have g0 : W0.cell? ⟨w.heap.size, 0, none⟩ = some (.int .i64 num) := by rw [← hW]; simp [go_sem]
  have g1 : W0.cell? ⟨w.heap.size, 1, none⟩ = some (.int .i64 den) := by rw [← hW]; simp [go_sem]
  have g2 : W0.cell? ⟨w.heap.size, 2, none⟩ = some (.int .i64 t) := by rw [← hW]; simp [go_sem]
  have g3 : W0.cell? ⟨w.heap.size, 3, none⟩ = some (.int .i64 P) := by rw [← hW]; simp [go_sem]
  have g4 : W0.cell? ⟨w.heap.size + 1, 0, none⟩ = some (.int .i64 0) := by rw [← hW]; simp [go_sem]
  have g5 : W0.cell? ⟨w.heap.size + 1, 1, none⟩ = some (.int .i64 0) := by rw [← hW]; simp [go_sem]
  have g6 : W0.cell? ⟨w.heap.size + 1, 2, none⟩ = some (.int .i64 0) := by rw [← hW]; simp [go_sem]
  have g7 : W0.cell? ⟨w.heap.size + 1, 3, none⟩ = some (.int .i64 0) := by rw [← hW]; simp [go_sem]
  have z0 : W0.frozen? ⟨w.heap.size + 1, 0, none⟩ = false := by rw [← hW]; simp [go_sem]
  have z1 : W0.frozen? ⟨w.heap.size + 1, 1, none⟩ = false := by rw [← hW]; simp [go_sem]
  have z2 : W0.frozen? ⟨w.heap.size + 1, 2, none⟩ = false := by rw [← hW]; simp [go_sem]
  have z3 : W0.frozen? ⟨w.heap.size + 1, 3, none⟩ = false := by rw [← hW]; simp [go_sem]
  rw [hW]
  clear hW
  go_cut [3, 4] (fun s3 s4 wx => ∃ g h : Nat, s3 = .pointer (some ⟨g, 0, none⟩) ∧ s4 = .pointer (some ⟨h, 0, none⟩) ∧ wx.cell? ⟨g, 0, none⟩ = some (.int .i64 d1) ∧ wx.cell? ⟨g, 1, none⟩ = some (.int .i64 t1) ∧ wx.cell? ⟨h, 0, none⟩ = some (.int .i64 d2) ∧ wx.cell? ⟨h, 1, none⟩ = some (.int .i64 t2) ∧ wx.cell? ⟨w.heap.size, 0, none⟩ = some (.int .i64 num) ∧ wx.cell? ⟨w.heap.size, 1, none⟩ = some (.int .i64 den) ∧ wx.cell? ⟨w.heap.size, 2, none⟩ = some (.int .i64 t) ∧ wx.cell? ⟨w.heap.size, 3, none⟩ = some (.int .i64 P) ∧ w.heap.size + 1 < wx.heap.size ∧ Ext W0 wx)
  case first =>
    go_region_held3 (fun w' => w'.cell? ⟨w.heap.size, 0, none⟩ = some (.int .i64 num) ∧ w'.cell? ⟨w.heap.size, 1, none⟩ = some (.int .i64 den) ∧ w'.cell? ⟨w.heap.size, 2, none⟩ = some (.int .i64 t) ∧ w'.cell? ⟨w.heap.size, 3, none⟩ = some (.int .i64 P) ∧ w.heap.size + 1 < w'.heap.size) ((refine ⟨?_, ?_, ?_, ?_, ?_⟩ <;> first | with_reducible assumption | ((repeat first | rw [cell_set_far _ _ _ _ _ _ (by omega)] | rw [cell_alloc_before _ _ _ _ (by first | omega | (simp [World.setCell]; done) | (simp [World.setCell]; omega))] | rw [cell_alloc_drew _ _ _ _ (by omega)] | rw [cell_drew]); with_reducible assumption) | ((rw [cell_setRow_far _ _ _ _ _ (by omega)]); with_reducible assumption) | ((rw [setRow_size]); with_reducible assumption) | (simp; done) | (simp [World.setCell]; first | done | omega) | (simp [go_sem, World.cell?_alloc_past, World.cell?_setCell_far, *]; done))) ((first | (go_at_call 164; (with_reducible refine (H1.out _).mono ?_); rintro rv w1 ⟨rfl, hb⟩; (first | ((first | (have ok0 := (hb.cells _ _ kt).trans k0) | (have ok0 := (hb.cells _ _ (lt_alloc kt)).trans ((cell_alloc_before _ _ _ _ kt).trans k0)) | (have ok0 := (hb.cells _ _ (lt_alloc (lt_alloc kt))).trans ((cell_alloc_before _ _ _ _ (lt_alloc kt)).trans ((cell_alloc_before _ _ _ _ kt).trans k0)))); (first | (have ok1 := (hb.cells _ _ kt).trans k1) | (have ok1 := (hb.cells _ _ (lt_alloc kt)).trans ((cell_alloc_before _ _ _ _ kt).trans k1)) | (have ok1 := (hb.cells _ _ (lt_alloc (lt_alloc kt))).trans ((cell_alloc_before _ _ _ _ (lt_alloc kt)).trans ((cell_alloc_before _ _ _ _ kt).trans k1)))); (first | (have okz0 := (hb.frz _ _ kt).trans kz0) | (have okz0 := (hb.frz _ _ (lt_alloc kt)).trans ((frz_alloc_before _ _ _ _ kt).trans kz0)) | (have okz0 := (hb.frz _ _ (lt_alloc (lt_alloc kt))).trans ((frz_alloc_before _ _ _ _ (lt_alloc kt)).trans ((frz_alloc_before _ _ _ _ kt).trans kz0)))); (first | (have okz1 := (hb.frz _ _ kt).trans kz1) | (have okz1 := (hb.frz _ _ (lt_alloc kt)).trans ((frz_alloc_before _ _ _ _ kt).trans kz1)) | (have okz1 := (hb.frz _ _ (lt_alloc (lt_alloc kt))).trans ((frz_alloc_before _ _ _ _ (lt_alloc kt)).trans ((frz_alloc_before _ _ _ _ kt).trans kz1)))); (first | (have ot := hb.lt kt) | (have ot := hb.lt (lt_alloc kt)) | (have ot := hb.lt (lt_alloc (lt_alloc kt)))); clear k0 k1 kz0 kz1; have k0 := ok0; have k1 := ok1; have kz0 := okz0; have kz1 := okz1; have kt := ot; clear ok0 ok1 okz0 okz1 ot) | skip); (first | ((first | (have om0 := (hb.cells _ _ mt).trans m0) | (have om0 := (hb.cells _ _ (lt_alloc mt)).trans ((cell_alloc_before _ _ _ _ mt).trans m0)) | (have om0 := (hb.cells _ _ (lt_alloc (lt_alloc mt))).trans ((cell_alloc_before _ _ _ _ (lt_alloc mt)).trans ((cell_alloc_before _ _ _ _ mt).trans m0)))); (first | (have om1 := (hb.cells _ _ mt).trans m1) | (have om1 := (hb.cells _ _ (lt_alloc mt)).trans ((cell_alloc_before _ _ _ _ mt).trans m1)) | (have om1 := (hb.cells _ _ (lt_alloc (lt_alloc mt))).trans ((cell_alloc_before _ _ _ _ (lt_alloc mt)).trans ((cell_alloc_before _ _ _ _ mt).trans m1)))); (first | (have omz0 := (hb.frz _ _ mt).trans mz0) | (have omz0 := (hb.frz _ _ (lt_alloc mt)).trans ((frz_alloc_before _ _ _ _ mt).trans mz0)) | (have omz0 := (hb.frz _ _ (lt_alloc (lt_alloc mt))).trans ((frz_alloc_before _ _ _ _ (lt_alloc mt)).trans ((frz_alloc_before _ _ _ _ mt).trans mz0)))); (first | (have omz1 := (hb.frz _ _ mt).trans mz1) | (have omz1 := (hb.frz _ _ (lt_alloc mt)).trans ((frz_alloc_before _ _ _ _ mt).trans mz1)) | (have omz1 := (hb.frz _ _ (lt_alloc (lt_alloc mt))).trans ((frz_alloc_before _ _ _ _ (lt_alloc mt)).trans ((frz_alloc_before _ _ _ _ mt).trans mz1)))); (first | (have ot := hb.lt mt) | (have ot := hb.lt (lt_alloc mt)) | (have ot := hb.lt (lt_alloc (lt_alloc mt)))); clear m0 m1 mz0 mz1; have m0 := om0; have m1 := om1; have mz0 := omz0; have mz1 := omz1; have mt := ot; clear om0 om1 omz0 omz1 ot; (first | (have _q := k0; clear _q) | (first | (have q2 := Ext.new2 hb; obtain ⟨k0, k1, kz0, kz1, kt⟩ := q2; try simp only [World.size_alloc, World.size_drew, Nat.add_assoc, Nat.reduceAdd] at k0 k1 kz0 kz1 kt) | (have q2 := Ext.new2d hb; obtain ⟨k0, k1, kz0, kz1, kt⟩ := q2; try simp only [World.size_alloc, World.size_drew, Nat.add_assoc, Nat.reduceAdd] at k0 k1 kz0 kz1 kt)) | skip)) | ((first | (have q2 := Ext.new2 hb; obtain ⟨m0, m1, mz0, mz1, mt⟩ := q2; try simp only [World.size_alloc, World.size_drew, Nat.add_assoc, Nat.reduceAdd] at m0 m1 mz0 mz1 mt) | (have q2 := Ext.new2d hb; obtain ⟨m0, m1, mz0, mz1, mt⟩ := q2; try simp only [World.size_alloc, World.size_drew, Nat.add_assoc, Nat.reduceAdd] at m0 m1 mz0 mz1 mt)); (first | (first | (have q2 := Ext.new2b hb; obtain ⟨k0, k1, kz0, kz1, kt⟩ := q2; try simp only [World.size_alloc, World.size_drew, Nat.add_assoc, Nat.reduceAdd] at k0 k1 kz0 kz1 kt) | (have q2 := Ext.new2bd hb; obtain ⟨k0, k1, kz0, kz1, kt⟩ := q2; try simp only [World.size_alloc, World.size_drew, Nat.add_assoc, Nat.reduceAdd] at k0 k1 kz0 kz1 kt)) | skip)) | skip); have sx_ := hx.size; have ns : w.heap.size + 1 < w1.heap.size := hb.ltK; have n0 : w1.cell? ⟨w.heap.size, 0, none⟩ = some (.int .i64 num) := (hb.cells _ _ (by first | with_reducible assumption | omega | (simp; done) | (simp; omega))).trans (by first | with_reducible assumption | (simp; done) | (simp; with_reducible assumption) | (rw [cell_alloc_before _ _ _ _ (by first | omega | (simp [World.setCell]; done) | (simp [World.setCell]; omega))]; with_reducible assumption) | (simp [go_sem, *]; done)); have n1 : w1.cell? ⟨w.heap.size, 1, none⟩ = some (.int .i64 den) := (hb.cells _ _ (by first | with_reducible assumption | omega | (simp; done) | (simp; omega))).trans (by first | with_reducible assumption | (simp; done) | (simp; with_reducible assumption) | (rw [cell_alloc_before _ _ _ _ (by first | omega | (simp [World.setCell]; done) | (simp [World.setCell]; omega))]; with_reducible assumption) | (simp [go_sem, *]; done)); have n2 : w1.cell? ⟨w.heap.size, 2, none⟩ = some (.int .i64 t) := (hb.cells _ _ (by first | with_reducible assumption | omega | (simp; done) | (simp; omega))).trans (by first | with_reducible assumption | (simp; done) | (simp; with_reducible assumption) | (rw [cell_alloc_before _ _ _ _ (by first | omega | (simp [World.setCell]; done) | (simp [World.setCell]; omega))]; with_reducible assumption) | (simp [go_sem, *]; done)); have n3 : w1.cell? ⟨w.heap.size, 3, none⟩ = some (.int .i64 P) := (hb.cells _ _ (by first | with_reducible assumption | omega | (simp; done) | (simp; omega))).trans (by first | with_reducible assumption | (simp; done) | (simp; with_reducible assumption) | (rw [cell_alloc_before _ _ _ _ (by first | omega | (simp [World.setCell]; done) | (simp [World.setCell]; omega))]; with_reducible assumption) | (simp [go_sem, *]; done)); (first | (have nx := hx.trK hb; clear hx) | have nx := hb); clear hb; try clear g0; try clear g1; try clear g2; try clear g3; have hx := nx; clear nx; have hs := ns; clear ns; have g0 := n0; clear n0; have g1 := n1; clear n1; have g2 := n2; clear n2; have g3 := n3; clear n3) | (go_at_call 164; (with_reducible refine (H2.out _).mono ?_); rintro rv w1 ⟨rfl, hb⟩; (first | ((first | (have ok0 := (hb.cells _ _ kt).trans k0) | (have ok0 := (hb.cells _ _ (lt_alloc kt)).trans ((cell_alloc_before _ _ _ _ kt).trans k0)) | (have ok0 := (hb.cells _ _ (lt_alloc (lt_alloc kt))).trans ((cell_alloc_before _ _ _ _ (lt_alloc kt)).trans ((cell_alloc_before _ _ _ _ kt).trans k0)))); (first | (have ok1 := (hb.cells _ _ kt).trans k1) | (have ok1 := (hb.cells _ _ (lt_alloc kt)).trans ((cell_alloc_before _ _ _ _ kt).trans k1)) | (have ok1 := (hb.cells _ _ (lt_alloc (lt_alloc kt))).trans ((cell_alloc_before _ _ _ _ (lt_alloc kt)).trans ((cell_alloc_before _ _ _ _ kt).trans k1)))); (first | (have okz0 := (hb.frz _ _ kt).trans kz0) | (have okz0 := (hb.frz _ _ (lt_alloc kt)).trans ((frz_alloc_before _ _ _ _ kt).trans kz0)) | (have okz0 := (hb.frz _ _ (lt_alloc (lt_alloc kt))).trans ((frz_alloc_before _ _ _ _ (lt_alloc kt)).trans ((frz_alloc_before _ _ _ _ kt).trans kz0)))); (first | (have okz1 := (hb.frz _ _ kt).trans kz1) | (have okz1 := (hb.frz _ _ (lt_alloc kt)).trans ((frz_alloc_before _ _ _ _ kt).trans kz1)) | (have okz1 := (hb.frz _ _ (lt_alloc (lt_alloc kt))).trans ((frz_alloc_before _ _ _ _ (lt_alloc kt)).trans ((frz_alloc_before _ _ _ _ kt).trans kz1)))); (first | (have ot := hb.lt kt) | (have ot := hb.lt (lt_alloc kt)) | (have ot := hb.lt (lt_alloc (lt_alloc kt)))); clear k0 k1 kz0 kz1; have k0 := ok0; have k1 := ok1; have kz0 := okz0; have kz1 := okz1; have kt := ot; clear ok0 ok1 okz0 okz1 ot) | skip); (first | ((first | (have om0 := (hb.cells _ _ mt).trans m0) | (have om0 := (hb.cells _ _ (lt_alloc mt)).trans ((cell_alloc_before _ _ _ _ mt).trans m0)) | (have om0 := (hb.cells _ _ (lt_alloc (lt_alloc mt))).trans ((cell_alloc_before _ _ _ _ (lt_alloc mt)).trans ((cell_alloc_before _ _ _ _ mt).trans m0)))); (first | (have om1 := (hb.cells _ _ mt).trans m1) | (have om1 := (hb.cells _ _ (lt_alloc mt)).trans ((cell_alloc_before _ _ _ _ mt).trans m1)) | (have om1 := (hb.cells _ _ (lt_alloc (lt_alloc mt))).trans ((cell_alloc_before _ _ _ _ (lt_alloc mt)).trans ((cell_alloc_before _ _ _ _ mt).trans m1)))); (first | (have omz0 := (hb.frz _ _ mt).trans mz0) | (have omz0 := (hb.frz _ _ (lt_alloc mt)).trans ((frz_alloc_before _ _ _ _ mt).trans mz0)) | (have omz0 := (hb.frz _ _ (lt_alloc (lt_alloc mt))).trans ((frz_alloc_before _ _ _ _ (lt_alloc mt)).trans ((frz_alloc_before _ _ _ _ mt).trans mz0)))); (first | (have omz1 := (hb.frz _ _ mt).trans mz1) | (have omz1 := (hb.frz _ _ (lt_alloc mt)).trans ((frz_alloc_before _ _ _ _ mt).trans mz1)) | (have omz1 := (hb.frz _ _ (lt_alloc (lt_alloc mt))).trans ((frz_alloc_before _ _ _ _ (lt_alloc mt)).trans ((frz_alloc_before _ _ _ _ mt).trans mz1)))); (first | (have ot := hb.lt mt) | (have ot := hb.lt (lt_alloc mt)) | (have ot := hb.lt (lt_alloc (lt_alloc mt)))); clear m0 m1 mz0 mz1; have m0 := om0; have m1 := om1; have mz0 := omz0; have mz1 := omz1; have mt := ot; clear om0 om1 omz0 omz1 ot; (first | (have _q := k0; clear _q) | (first | (have q2 := Ext.new2 hb; obtain ⟨k0, k1, kz0, kz1, kt⟩ := q2; try simp only [World.size_alloc, World.size_drew, Nat.add_assoc, Nat.reduceAdd] at k0 k1 kz0 kz1 kt) | (have q2 := Ext.new2d hb; obtain ⟨k0, k1, kz0, kz1, kt⟩ := q2; try simp only [World.size_alloc, World.size_drew, Nat.add_assoc, Nat.reduceAdd] at k0 k1 kz0 kz1 kt)) | skip)) | ((first | (have q2 := Ext.new2 hb; obtain ⟨m0, m1, mz0, mz1, mt⟩ := q2; try simp only [World.size_alloc, World.size_drew, Nat.add_assoc, Nat.reduceAdd] at m0 m1 mz0 mz1 mt) | (have q2 := Ext.new2d hb; obtain ⟨m0, m1, mz0, mz1, mt⟩ := q2; try simp only [World.size_alloc, World.size_drew, Nat.add_assoc, Nat.reduceAdd] at m0 m1 mz0 mz1 mt)); (first | (first | (have q2 := Ext.new2b hb; obtain ⟨k0, k1, kz0, kz1, kt⟩ := q2; try simp only [World.size_alloc, World.size_drew, Nat.add_assoc, Nat.reduceAdd] at k0 k1 kz0 kz1 kt) | (have q2 := Ext.new2bd hb; obtain ⟨k0, k1, kz0, kz1, kt⟩ := q2; try simp only [World.size_alloc, World.size_drew, Nat.add_assoc, Nat.reduceAdd] at k0 k1 kz0 kz1 kt)) | skip)) | skip); have sx_ := hx.size; have ns : w.heap.size + 1 < w1.heap.size := hb.ltK; have n0 : w1.cell? ⟨w.heap.size, 0, none⟩ = some (.int .i64 num) := (hb.cells _ _ (by first | with_reducible assumption | omega | (simp; done) | (simp; omega))).trans (by first | with_reducible assumption | (simp; done) | (simp; with_reducible assumption) | (rw [cell_alloc_before _ _ _ _ (by first | omega | (simp [World.setCell]; done) | (simp [World.setCell]; omega))]; with_reducible assumption) | (simp [go_sem, *]; done)); have n1 : w1.cell? ⟨w.heap.size, 1, none⟩ = some (.int .i64 den) := (hb.cells _ _ (by first | with_reducible assumption | omega | (simp; done) | (simp; omega))).trans (by first | with_reducible assumption | (simp; done) | (simp; with_reducible assumption) | (rw [cell_alloc_before _ _ _ _ (by first | omega | (simp [World.setCell]; done) | (simp [World.setCell]; omega))]; with_reducible assumption) | (simp [go_sem, *]; done)); have n2 : w1.cell? ⟨w.heap.size, 2, none⟩ = some (.int .i64 t) := (hb.cells _ _ (by first | with_reducible assumption | omega | (simp; done) | (simp; omega))).trans (by first | with_reducible assumption | (simp; done) | (simp; with_reducible assumption) | (rw [cell_alloc_before _ _ _ _ (by first | omega | (simp [World.setCell]; done) | (simp [World.setCell]; omega))]; with_reducible assumption) | (simp [go_sem, *]; done)); have n3 : w1.cell? ⟨w.heap.size, 3, none⟩ = some (.int .i64 P) := (hb.cells _ _ (by first | with_reducible assumption | omega | (simp; done) | (simp; omega))).trans (by first | with_reducible assumption | (simp; done) | (simp; with_reducible assumption) | (rw [cell_alloc_before _ _ _ _ (by first | omega | (simp [World.setCell]; done) | (simp [World.setCell]; omega))]; with_reducible assumption) | (simp [go_sem, *]; done)); (first | (have nx := hx.trK hb; clear hx) | have nx := hb); clear hb; try clear g0; try clear g1; try clear g2; try clear g3; have hx := nx; clear nx; have hs := ns; clear ns; have g0 := n0; clear n0; have g1 := n1; clear n1; have g2 := n2; clear n2; have g3 := n3; clear n3)))
    all_goals (go_wp2_with fail; go_meet; exact ⟨_, _, rfl, rfl, (by first | with_reducible assumption | (simp [go_sem, *]; done) | (simp [go_sem]; omega) | ((repeat first | rw [cell_set_far _ _ _ _ _ _ (by omega)] | rw [cell_alloc_before _ _ _ _ (by omega)] | rw [cell_alloc_drew _ _ _ _ (by omega)] | rw [cell_drew]); with_reducible assumption)), (by first | with_reducible assumption | (simp [go_sem, *]; done) | (simp [go_sem]; omega) | ((repeat first | rw [cell_set_far _ _ _ _ _ _ (by omega)] | rw [cell_alloc_before _ _ _ _ (by omega)] | rw [cell_alloc_drew _ _ _ _ (by omega)] | rw [cell_drew]); with_reducible assumption)), (by first | with_reducible assumption | (simp [go_sem, *]; done) | (simp [go_sem]; omega) | ((repeat first | rw [cell_set_far _ _ _ _ _ _ (by omega)] | rw [cell_alloc_before _ _ _ _ (by omega)] | rw [cell_alloc_drew _ _ _ _ (by omega)] | rw [cell_drew]); with_reducible assumption)), (by first | with_reducible assumption | (simp [go_sem, *]; done) | (simp [go_sem]; omega) | ((repeat first | rw [cell_set_far _ _ _ _ _ _ (by omega)] | rw [cell_alloc_before _ _ _ _ (by omega)] | rw [cell_alloc_drew _ _ _ _ (by omega)] | rw [cell_drew]); with_reducible assumption)), (by first | with_reducible assumption | (simp [go_sem, *]; done) | (simp [go_sem]; omega) | ((repeat first | rw [cell_set_far _ _ _ _ _ _ (by omega)] | rw [cell_alloc_before _ _ _ _ (by omega)] | rw [cell_alloc_drew _ _ _ _ (by omega)] | rw [cell_drew]); with_reducible assumption)), (by first | with_reducible assumption | (simp [go_sem, *]; done) | (simp [go_sem]; omega) | ((repeat first | rw [cell_set_far _ _ _ _ _ _ (by omega)] | rw [cell_alloc_before _ _ _ _ (by omega)] | rw [cell_alloc_drew _ _ _ _ (by omega)] | rw [cell_drew]); with_reducible assumption)), (by first | with_reducible assumption | (simp [go_sem, *]; done) | (simp [go_sem]; omega) | ((repeat first | rw [cell_set_far _ _ _ _ _ _ (by omega)] | rw [cell_alloc_before _ _ _ _ (by omega)] | rw [cell_alloc_drew _ _ _ _ (by omega)] | rw [cell_drew]); with_reducible assumption)), (by first | with_reducible assumption | (simp [go_sem, *]; done) | (simp [go_sem]; omega) | ((repeat first | rw [cell_set_far _ _ _ _ _ _ (by omega)] | rw [cell_alloc_before _ _ _ _ (by omega)] | rw [cell_alloc_drew _ _ _ _ (by omega)] | rw [cell_drew]); with_reducible assumption)), (by first | (simp [World.setCell]; done) | (simp [World.setCell]; omega) | omega), Ext.auK⟩)
  case rest =>
    obtain ⟨g, h, rfl, rfl, l0, l1, l2, l3, k0, k1, k2, k3, hs2, hx⟩ := hcut
    have c0 := (hx.cells _ _ hs).trans g4
    have y0 := (hx.frz _ _ hs).trans z0
    have c1 := (hx.cells _ _ hs).trans g5
    have y1 := (hx.frz _ _ hs).trans z1
    have c2 := (hx.cells _ _ hs).trans g6
    have y2 := (hx.frz _ _ hs).trans z2
    have c3 := (hx.cells _ _ hs).trans g7
    have y3 := (hx.frz _ _ hs).trans z3
    have hy := hx0.trans hx
    clear g0 g1 g2 g3 g4 g5 g6 g7 z0 z1 z2 z3 hx hx0
    have hx := hy
    clear hy
    go_wp2_with fail
    all_goals (try go_region)
    all_goals (try go_wp2_with fail)
    all_goals exact bodyPost_ret (v := .agg #[.int .i64 d1, .int .i64 t1, .int .i64 d2, .int .i64 t2]) (by simp [results, Tryz.results115, go_sem, *]) rfl ⟨rfl, Ext.auK⟩
end Go.Proofs.YtfgbndjhaiigbacGreatDoor

namespace Go.Proofs.YtfgbndjhaiigbacGreatDoor
open Go Go.RowKit
set_option linter.unusedSimpArgs false
set_option linter.unusedVariables false
set_option maxRecDepth 100000

attribute [local go_sem] ta_finite_finite ta_finite_infinite ta_finite_noNumber ta_infinite_finite ta_infinite_infinite ta_infinite_noNumber ta_noNumber_finite ta_noNumber_infinite ta_noNumber_noNumber

theorem val_149 {e f a : Int} (hf : finB e f a = true) (hz : unitsV e f a ≠ 0) : ((odV (unitsV e f a)).natAbs : Int) * pw ((shE (unitsV e f a) (unV e f)) - unV e f + 149) = mgV f (a % pw (e + f)) * pw 149 := by
  obtain ⟨r1, _⟩ := rt_start hf hz
  obtain ⟨x0, x1⟩ := xa_bd hf
  obtain ⟨hg, _, _, hu⟩ := fin_size hf
  have u := un_bd hg
  rw [← hu]
  unfold RtP at r1
  rw [show ((0 : Int)).toNat = 0 from rfl, show (-(0 : Int)).toNat = 0 from rfl, show tenN 0 = 1 from rfl, Int.mul_one, Int.mul_one, Int.one_mul] at r1
  generalize (shE (unitsV e f a) (unV e f)) = X at *
  generalize ((odV (unitsV e f a)).natAbs : Int) = N at *
  generalize ((unitsV e f a).natAbs : Int) = v at *
  have e1 : pw (X - unV e f + 149) = pw (X - min X 0) * pw (-unV e f) * pw (149 + min X 0) := by
    rw [← pw_add _ _ (by omega) (by omega), ← pw_add _ _ (by omega) (by omega)]
    congr 1; omega
  have e2 : pw 149 = pw (0 - min X 0) * pw (149 + min X 0) := by
    rw [← pw_add _ _ (by omega) (by omega)]
    congr 1; omega
  rw [e1, e2, ← Int.mul_assoc, ← Int.mul_assoc, ← Int.mul_assoc, r1]

theorem size_rnd {e f a : Int} (hf : finB e f a = true) (hz : unitsV e f a ≠ 0) (w : World) : Calls Tryz.prog 105 #[.agg #[.int .i64 0, .int .i64 ((odV (unitsV e f a)).natAbs : Int), .int .i64 (shE (unitsV e f a) (unV e f))], fmt e f, .int .i64 0] w fun rv w' => rv = .returned (.int .i64 (a % pw (e + f))) ∧ Ext w w' := by
  obtain ⟨hg, s0, s1, hu⟩ := fin_size hf
  obtain ⟨x0, x1⟩ := xa_bd hf
  have u := un_bd hg
  have ub := units_bd e f a (fin_pat hf).1
  have nb : ((odV (unitsV e f a)).natAbs : Int) < 4611686018427387904 := by
    obtain ⟨o1, o2⟩ := od_few (fin_pat hf).1
    omega
  refine (finRounded_any e f 0 ((odV (unitsV e f a)).natAbs : Int) (shE (unitsV e f a) (unV e f)) 0 hg (.inl rfl) (by omega) nb (by omega) (by omega) (by decide) (by decide) w).mono ?_
  rintro rv w1 ⟨s, he, hs, hx⟩
  refine ⟨?_, hx⟩
  have h2 : RndD e f ((odV (unitsV e f a)).natAbs : Int) ((shE (unitsV e f a) (unV e f)) - unV e f) 0 false (a % pw (e + f)) := by
    unfold RndD
    rw [val_149 hf hz]
    exact rnd_self (good_iff.1 hg).2.2.1 (by have := pw_pos 149; omega) s0 s1
  have hp : (0 : Int) < pw 149 := by have := pw_pos 149; omega
  have e1 := rnd_one (good_iff.1 hg).2.2.1 hp hs h2
  rw [he, e1]
  first | rfl | simp

theorem ratio_k {e f a : Int} (hf : finB e f a = true) (hz : unitsV e f a ≠ 0) (k : Nat) (hk : k < 6) (w : World) :
    Calls Tryz.prog 114 #[.agg #[.int .i64 (a / pw (e + f)), .int .i64 ((odV (unitsV e f a)).natAbs : Int), .int .i64 (shE (unitsV e f a) (unV e f))], .int .i64 ((k : Int) + 1)] w fun rv w' => ∃ num den t : Int, rv = .returned (.agg #[.int .i64 num, .int .i64 den, .int .i64 t, .int .i64 ((k : Int) + 1)]) ∧ RtP e f ((unitsV e f a).natAbs : Int) num den t ∧ (0 < den ∧ den ≤ 16777216) ∧ (tenN k * den ≤ num ∧ num < 10 * tenN k * den) ∧ (-40 ≤ t ∧ t ≤ 40) ∧ Ext w w' := by
  have := ratio_any e f a ((k : Int) + 1) hf hz (by omega) (by omega) w
  rwa [show ((k : Int) + 1).toNat - 1 = k by omega] at this

/-- What beside gives. -/
theorem beside_v (num den t P : Int) (p0 : 1 ≤ P) (p1 : P ≤ 6) (d0 : 0 < den) (d1 : den ≤ 16777216) (n0 : tenN (P.toNat - 1) * den ≤ num) (n1 : num < 10 * tenN (P.toNat - 1) * den) (t0 : -40 ≤ t) (t1 : t ≤ 40) (w : World) :
    Calls Tryz.prog 115 #[.agg #[.int .i64 num, .int .i64 den, .int .i64 t, .int .i64 P]] w fun rv w' => rv = .returned (.agg #[.int .i64 (bsX (tenN (P.toNat - 1)) num den t).1, .int .i64 (bsX (tenN (P.toNat - 1)) num den t).2, .int .i64 (bsY (tenN (P.toNat - 1)) num den t).1, .int .i64 (bsY (tenN (P.toNat - 1)) num den t).2]) ∧ Ext w w' := by
  obtain ⟨b0, b1⟩ := P_bd p0 p1
  have nn0 : 0 ≤ num := by
    have := Int.mul_nonneg (show 0 ≤ tenN (P.toNat - 1) by omega) (show 0 ≤ den by omega)
    omega
  have nn1 : num < 16777216000000 := by
    have := Int.mul_le_mul (show 10 * tenN (P.toNat - 1) ≤ 10 * 100000 by omega) d1 (by omega) (by decide)
    omega
  have hlow : num / den < 10 * tenN (P.toNat - 1) := Int.ediv_lt_of_lt_mul d0 n1
  have H2 := fun w => rrounded_mode num den t P 2 p0 p1 (by decide) (by decide) d0 d1 n0 n1 t0 t1 w
  have H3 := fun w => rrounded_mode num den t P 3 p0 p1 (by decide) (by decide) d0 d1 n0 n1 t0 t1 w
  have w2 : whV num den 2 false = num / den := by unfold whV; exact rnd_two _ _ _ _
  have w3 : whV num den 3 false = upX num den := by unfold whV upX; exact rnd_three _ _ _
  rw [w2, ad_low hlow] at H2
  rw [w3] at H3
  unfold bsX bsY
  by_cases hc : den < 2 * (num % den)
  · rw [if_pos hc, if_pos hc]
    exact beside_lt num den t P _ _ _ _ hc H2 H3 d0 d1 nn0 (by omega) w
  · rw [if_neg hc, if_neg hc]
    exact beside_ge num den t P _ _ _ _ hc H2 H3 d0 d1 nn0 (by omega) w

theorem beside_k (num den t : Int) (k : Nat) (hk : k < 6) (d0 : 0 < den) (d1 : den ≤ 16777216) (n0 : tenN k * den ≤ num) (n1 : num < 10 * tenN k * den) (t0 : -40 ≤ t) (t1 : t ≤ 40) (w : World) :
    Calls Tryz.prog 115 #[.agg #[.int .i64 num, .int .i64 den, .int .i64 t, .int .i64 ((k : Int) + 1)]] w fun rv w' => rv = .returned (.agg #[.int .i64 (bsX (tenN k) num den t).1, .int .i64 (bsX (tenN k) num den t).2, .int .i64 (bsY (tenN k) num den t).1, .int .i64 (bsY (tenN k) num den t).2]) ∧ Ext w w' := by
  have e1 : ((k : Int) + 1).toNat - 1 = k := by omega
  have := beside_v num den t ((k : Int) + 1) (by omega) (by omega) d0 d1 (by rw [e1]; exact n0) (by rw [e1]; exact n1) t0 t1 w
  rwa [e1] at this

set_option maxHeartbeats 6400000 in
theorem shortest_any (e f a : Int) (hf : finB e f a = true) (hz : unitsV e f a ≠ 0) (w : World) : Calls Tryz.prog 67 #[.agg #[.int .i64 (a / pw (e + f)), .int .i64 ((odV (unitsV e f a)).natAbs : Int), .int .i64 (shE (unitsV e f a) (unV e f))], fmt e f] w fun rv w' => rv = .returned (two (shF e f ((unitsV e f a).natAbs : Int) (a % pw (e + f))).1 (shF e f ((unitsV e f a).natAbs : Int) (a % pw (e + f))).2) ∧ Ext w w' := by
  obtain ⟨hg, s0, s1, hu⟩ := fin_size hf
  have hp0 : 0 < a % pw (e + f) := by
    rcases Int.lt_or_eq_of_le s0 with h | h
    · exact h
    · exfalso
      have : mgV f (a % pw (e + f)) = 0 := by rw [← h]; unfold mgV; simp
      omega
  have ub := units_bd e f a (fin_pat hf).1
  have hn : ¬ ((odV (unitsV e f a)).natAbs : Int) = 0 := fun h => hz ((od_sign (S := unitsV e f a) (by omega) (by omega)).2.1 (by omega))
  have IZ := Lib.hid (fun w => finZero_f (a / pw (e + f)) ((odV (unitsV e f a)).natAbs : Int) (shE (unitsV e f a) (unV e f)) hn w)
  have FR := Lib.hid (fun w => size_rnd hf hz w)
  have RC := Lib.hid (fun k hk w => ratio_k hf hz k hk w)
  have BX := Lib.hid (fun P hP => bl_ex hf hz w P hP)
  have DR := Lib.hid (fun d t hd w => rounded_v e f d t 0 hg hd (by decide) (by decide) w)
  have SR := Lib.hid (fun L num den t hL L1 h hd hb t0 t1 => sh_round (e := e) (f := f) (p := a % pw (e + f)) (L := L) (num := num) (den := den) (t := t) hg hp0 s1 hL L1 h hd hb t0 t1)
  have S5 := Lib.hid (fun low t h t0 t1 => sh_five (e := e) (f := f) (p := a % pw (e + f)) (low := low) (t := t) hg hp0 s1 h t0 t1)
  rw [← hu] at SR S5
  have IS := Lib.hid (fun x h => sh_is (e := e) (f := f) (v := ((unitsV e f a).natAbs : Int)) (p := a % pw (e + f)) (x := x) h)
  clear hn ub hu hp0 s0 s1 hf hz hg
  generalize (a / pw (e + f)) = G at *
  generalize ((odV (unitsV e f a)).natAbs : Int) = N at *
  generalize (shE (unitsV e f a) (unV e f)) = X at *
  generalize ((unitsV e f a).natAbs : Int) = v at *
  generalize a % pw (e + f) = p at *
  have I0 : ∀ (a b c d : Int) w, (Instr.index 130 (.agg #[.int .i64 a, .int .i64 b, .int .i64 c, .int .i64 d]) (.int .i64 0)).run Tryz.prog w = .ok (two a b) w := fun a b c d w => by rfl
  have I1 : ∀ (a b c d : Int) w, (Instr.index 130 (.agg #[.int .i64 a, .int .i64 b, .int .i64 c, .int .i64 d]) (.int .i64 1)).run Tryz.prog w = .ok (two c d) w := fun a b c d w => by rfl
  go_enter Tryz.func67, Tryz.ntmps67
  go_wp2_with (first | (go_at_call 113; refine (IZ.out _).mono ?_; rintro rv w1 ⟨rfl, hb⟩; have ns : w.heap.size + 2 < w1.heap.size := hb.ltK; have n0 : w1.cell? ⟨w.heap.size, 0, none⟩ = some (.int .i64 G) := hb.cellK; have n1 : w1.cell? ⟨w.heap.size, 1, none⟩ = some (.int .i64 N) := hb.cellK; have n2 : w1.cell? ⟨w.heap.size, 2, none⟩ = some (.int .i64 X) := hb.cellK; have n3 : w1.cell? ⟨w.heap.size + 1, 0, none⟩ = some (.int .i64 e) := hb.cellK; have n4 : w1.cell? ⟨w.heap.size + 1, 1, none⟩ = some (.int .i64 f) := hb.cellK; have n5 : w1.cell? ⟨w.heap.size + 2, 0, none⟩ = some (.int .i64 0) := hb.cellK; have n6 : w1.cell? ⟨w.heap.size + 2, 1, none⟩ = some (.int .i64 0) := hb.cellK; have nz0 : w1.frozen? ⟨w.heap.size + 2, 0, none⟩ = false := hb.frzK; have nz1 : w1.frozen? ⟨w.heap.size + 2, 1, none⟩ = false := hb.frzK; (first | (have nx := hx.trK hb; clear hx) | have nx := hb); clear hb; try clear hs; try clear g0; try clear g1; try clear g2; try clear g3; try clear g4; try clear g5; try clear g6; try clear z0; try clear z1; have hx := nx; clear nx; have hs := ns; clear ns; have g0 := n0; clear n0; have g1 := n1; clear n1; have g2 := n2; clear n2; have g3 := n3; clear n3; have g4 := n4; clear n4; have g5 := n5; clear n5; have g6 := n6; clear n6; have z0 := nz0; clear nz0; have z1 := nz1; clear nz1) | (go_at_call 105; refine (FR.out _).mono ?_; rintro rv w1 ⟨rfl, hb⟩; have ns : w.heap.size + 2 < w1.heap.size := hb.ltK; have n0 : w1.cell? ⟨w.heap.size, 0, none⟩ = some (.int .i64 G) := hb.cellK; have n1 : w1.cell? ⟨w.heap.size, 1, none⟩ = some (.int .i64 N) := hb.cellK; have n2 : w1.cell? ⟨w.heap.size, 2, none⟩ = some (.int .i64 X) := hb.cellK; have n3 : w1.cell? ⟨w.heap.size + 1, 0, none⟩ = some (.int .i64 e) := hb.cellK; have n4 : w1.cell? ⟨w.heap.size + 1, 1, none⟩ = some (.int .i64 f) := hb.cellK; have n5 : w1.cell? ⟨w.heap.size + 2, 0, none⟩ = some (.int .i64 0) := hb.cellK; have n6 : w1.cell? ⟨w.heap.size + 2, 1, none⟩ = some (.int .i64 0) := hb.cellK; have nz0 : w1.frozen? ⟨w.heap.size + 2, 0, none⟩ = false := hb.frzK; have nz1 : w1.frozen? ⟨w.heap.size + 2, 1, none⟩ = false := hb.frzK; (first | (have nx := hx.trK hb; clear hx) | have nx := hb); clear hb; try clear hs; try clear g0; try clear g1; try clear g2; try clear g3; try clear g4; try clear g5; try clear g6; try clear z0; try clear z1; have hx := nx; clear nx; have hs := ns; clear ns; have g0 := n0; clear n0; have g1 := n1; clear n1; have g2 := n2; clear n2; have g3 := n3; clear n3; have g4 := n4; clear n4; have g5 := n5; clear n5; have g6 := n6; clear n6; have z0 := nz0; clear nz0; have z1 := nz1; clear nz1))
  all_goals (try (go_region_held3 (fun w' => w'.cell? ⟨w.heap.size, 0, none⟩ = some (.int .i64 G) ∧ w'.cell? ⟨w.heap.size, 1, none⟩ = some (.int .i64 N) ∧ w'.cell? ⟨w.heap.size, 2, none⟩ = some (.int .i64 X) ∧ w'.cell? ⟨w.heap.size + 1, 0, none⟩ = some (.int .i64 e) ∧ w'.cell? ⟨w.heap.size + 1, 1, none⟩ = some (.int .i64 f) ∧ w.heap.size + 2 < w'.heap.size) ((refine ⟨?_, ?_, ?_, ?_, ?_, ?_⟩ <;> first | with_reducible assumption | ((rw [cell_setRow_far _ _ _ _ _ (by omega)]); with_reducible assumption) | ((rw [setRow_size]); with_reducible assumption) | ((repeat rw [World.cell?_setCell_far _ _ _ _ (by simp)]); with_reducible assumption) | (simp; done) | (simp [World.setCell]; first | done | omega) | (simp [go_sem, World.cell?_alloc_past, World.cell?_setCell_far, *]; done))) ((first | (go_at_call 105; refine (FR.out _).mono ?_; rintro rv w1 ⟨rfl, hb⟩; have ns : w.heap.size + 2 < w1.heap.size := hb.ltK; have n0 : w1.cell? ⟨w.heap.size, 0, none⟩ = some (.int .i64 G) := hb.cellK; have n1 : w1.cell? ⟨w.heap.size, 1, none⟩ = some (.int .i64 N) := hb.cellK; have n2 : w1.cell? ⟨w.heap.size, 2, none⟩ = some (.int .i64 X) := hb.cellK; have n3 : w1.cell? ⟨w.heap.size + 1, 0, none⟩ = some (.int .i64 e) := hb.cellK; have n4 : w1.cell? ⟨w.heap.size + 1, 1, none⟩ = some (.int .i64 f) := hb.cellK; have n5 : w1.cell? ⟨w.heap.size + 2, 0, none⟩ = some (.int .i64 0) := hb.cellK; have n6 : w1.cell? ⟨w.heap.size + 2, 1, none⟩ = some (.int .i64 0) := hb.cellK; have nz0 : w1.frozen? ⟨w.heap.size + 2, 0, none⟩ = false := hb.frzK; have nz1 : w1.frozen? ⟨w.heap.size + 2, 1, none⟩ = false := hb.frzK; (first | (have nx := hx.trK hb; clear hx) | have nx := hb); clear hb; try clear hs; try clear g0; try clear g1; try clear g2; try clear g3; try clear g4; try clear g5; try clear g6; try clear z0; try clear z1; have hx := nx; clear nx; have hs := ns; clear ns; have g0 := n0; clear n0; have g1 := n1; clear n1; have g2 := n2; clear n2; have g3 := n3; clear n3; have g4 := n4; clear n4; have g5 := n5; clear n5; have g6 := n6; clear n6; have z0 := nz0; clear nz0; have z1 := nz1; clear nz1)))))
  all_goals (try go_wp2_with (first | (go_at_call 105; refine (FR.out _).mono ?_; rintro rv w1 ⟨rfl, hb⟩; have ns : w.heap.size + 2 < w1.heap.size := hb.ltK; have n0 : w1.cell? ⟨w.heap.size, 0, none⟩ = some (.int .i64 G) := hb.cellK; have n1 : w1.cell? ⟨w.heap.size, 1, none⟩ = some (.int .i64 N) := hb.cellK; have n2 : w1.cell? ⟨w.heap.size, 2, none⟩ = some (.int .i64 X) := hb.cellK; have n3 : w1.cell? ⟨w.heap.size + 1, 0, none⟩ = some (.int .i64 e) := hb.cellK; have n4 : w1.cell? ⟨w.heap.size + 1, 1, none⟩ = some (.int .i64 f) := hb.cellK; have n5 : w1.cell? ⟨w.heap.size + 2, 0, none⟩ = some (.int .i64 0) := hb.cellK; have n6 : w1.cell? ⟨w.heap.size + 2, 1, none⟩ = some (.int .i64 0) := hb.cellK; have nz0 : w1.frozen? ⟨w.heap.size + 2, 0, none⟩ = false := hb.frzK; have nz1 : w1.frozen? ⟨w.heap.size + 2, 1, none⟩ = false := hb.frzK; (first | (have nx := hx.trK hb; clear hx) | have nx := hb); clear hb; try clear hs; try clear g0; try clear g1; try clear g2; try clear g3; try clear g4; try clear g5; try clear g6; try clear z0; try clear z1; have hx := nx; clear nx; have hs := ns; clear ns; have g0 := n0; clear n0; have g1 := n1; clear n1; have g2 := n2; clear n2; have g3 := n3; clear n3; have g4 := n4; clear n4; have g5 := n5; clear n5; have g6 := n6; clear n6; have z0 := nz0; clear nz0; have z1 := nz1; clear nz1)))
  go_loopw [19] (fun s19 wr => ∃ k : Nat, s19 = .int .i64 (k : Int) ∧ k < 5 ∧ RowKit.Hid (∀ Q, Q < k → shOk e f v p (tenN Q) = false) ∧ wr.cell? ⟨w.heap.size, 0, none⟩ = some (.int .i64 G) ∧ wr.cell? ⟨w.heap.size, 1, none⟩ = some (.int .i64 N) ∧ wr.cell? ⟨w.heap.size, 2, none⟩ = some (.int .i64 X) ∧ wr.cell? ⟨w.heap.size + 1, 0, none⟩ = some (.int .i64 e) ∧ wr.cell? ⟨w.heap.size + 1, 1, none⟩ = some (.int .i64 f) ∧ wr.cell? ⟨w.heap.size + 2, 0, none⟩ = some (.int .i64 0) ∧ wr.cell? ⟨w.heap.size + 2, 1, none⟩ = some (.int .i64 0) ∧ wr.frozen? ⟨w.heap.size + 2, 0, none⟩ = false ∧ wr.frozen? ⟨w.heap.size + 2, 1, none⟩ = false ∧ w.heap.size + 2 < wr.heap.size ∧ Ext w wr) (fun x _ => 6 - (intOf x).toNat)
  case atStart => exact ⟨0, rfl, by decide, Lib.hid (fun Q h => absurd h (by omega)), (by first | with_reducible assumption | (simp [go_sem]; done) | (simp [go_sem, *]; done)), (by first | with_reducible assumption | (simp [go_sem]; done) | (simp [go_sem, *]; done)), (by first | with_reducible assumption | (simp [go_sem]; done) | (simp [go_sem, *]; done)), (by first | with_reducible assumption | (simp [go_sem]; done) | (simp [go_sem, *]; done)), (by first | with_reducible assumption | (simp [go_sem]; done) | (simp [go_sem, *]; done)), (by first | with_reducible assumption | (simp [go_sem]; done) | (simp [go_sem, *]; done)), (by first | with_reducible assumption | (simp [go_sem]; done) | (simp [go_sem, *]; done)), (by first | with_reducible assumption | (simp [go_sem]; done) | (simp [go_sem, *]; done)), (by first | with_reducible assumption | (simp [go_sem]; done) | (simp [go_sem, *]; done)), (by first | omega | (simp; done) | (simp; omega)), Ext.auK⟩
  case round =>
    obtain ⟨k, rfl, k5, HNO, g0, g1, g2, g3, g4, g5, g6, z0, z1, hs, hx⟩ := hrel
    have q6 : (k : Int) < 6 := by omega
    have kw : IntKind.i64.wrap ((k : Int) + 1) = (k : Int) + 1 := IntWalk.i64_in _ (by omega)
    go_wp2_with (first | (go_at_call 114; refine (RC.out k (by omega) _).mono ?_; rintro rv w1 ⟨num, den, t, rfl, h1, h2, h3, h4, hb⟩; have HR := Lib.hid h1; have HD := Lib.hid h2; have HN := Lib.hid h3; have HT := Lib.hid h4; clear h1 h2 h3 h4; have ns : w.heap.size + 2 < w1.heap.size := hb.ltK; have n0 : w1.cell? ⟨w.heap.size, 0, none⟩ = some (.int .i64 G) := hb.cellK; have n1 : w1.cell? ⟨w.heap.size, 1, none⟩ = some (.int .i64 N) := hb.cellK; have n2 : w1.cell? ⟨w.heap.size, 2, none⟩ = some (.int .i64 X) := hb.cellK; have n3 : w1.cell? ⟨w.heap.size + 1, 0, none⟩ = some (.int .i64 e) := hb.cellK; have n4 : w1.cell? ⟨w.heap.size + 1, 1, none⟩ = some (.int .i64 f) := hb.cellK; have n5 : w1.cell? ⟨w.heap.size + 2, 0, none⟩ = some (.int .i64 0) := hb.cellK; have n6 : w1.cell? ⟨w.heap.size + 2, 1, none⟩ = some (.int .i64 0) := hb.cellK; have nz0 : w1.frozen? ⟨w.heap.size + 2, 0, none⟩ = false := hb.frzK; have nz1 : w1.frozen? ⟨w.heap.size + 2, 1, none⟩ = false := hb.frzK; (first | (have nx := hx.trK hb; clear hx) | have nx := hb); clear hb; try clear hs; try clear g0; try clear g1; try clear g2; try clear g3; try clear g4; try clear g5; try clear g6; try clear z0; try clear z1; have hx := nx; clear nx; have hs := ns; clear ns; have g0 := n0; clear n0; have g1 := n1; clear n1; have g2 := n2; clear n2; have g3 := n3; clear n3; have g4 := n4; clear n4; have g5 := n5; clear n5; have g6 := n6; clear n6; have z0 := nz0; clear nz0; have z1 := nz1; clear nz1) | (go_at_call 115; refine (beside_k num den t k (by omega) HD.out.1 HD.out.2 HN.out.1 HN.out.2 HT.out.1 HT.out.2 _).mono ?_; rintro rv w1 ⟨rfl, hb⟩; have ns : w.heap.size + 2 < w1.heap.size := hb.ltK; have n0 : w1.cell? ⟨w.heap.size, 0, none⟩ = some (.int .i64 G) := hb.cellK; have n1 : w1.cell? ⟨w.heap.size, 1, none⟩ = some (.int .i64 N) := hb.cellK; have n2 : w1.cell? ⟨w.heap.size, 2, none⟩ = some (.int .i64 X) := hb.cellK; have n3 : w1.cell? ⟨w.heap.size + 1, 0, none⟩ = some (.int .i64 e) := hb.cellK; have n4 : w1.cell? ⟨w.heap.size + 1, 1, none⟩ = some (.int .i64 f) := hb.cellK; have n5 : w1.cell? ⟨w.heap.size + 2, 0, none⟩ = some (.int .i64 0) := hb.cellK; have n6 : w1.cell? ⟨w.heap.size + 2, 1, none⟩ = some (.int .i64 0) := hb.cellK; have nz0 : w1.frozen? ⟨w.heap.size + 2, 0, none⟩ = false := hb.frzK; have nz1 : w1.frozen? ⟨w.heap.size + 2, 1, none⟩ = false := hb.frzK; (first | (have nx := hx.trK hb; clear hx) | have nx := hb); clear hb; try clear hs; try clear g0; try clear g1; try clear g2; try clear g3; try clear g4; try clear g5; try clear g6; try clear z0; try clear z1; have hx := nx; clear nx; have hs := ns; clear ns; have g0 := n0; clear n0; have g1 := n1; clear n1; have g2 := n2; clear n2; have g3 := n3; clear n3; have g4 := n4; clear n4; have g5 := n5; clear n5; have g6 := n6; clear n6; have z0 := nz0; clear nz0; have z1 := nz1; clear nz1))
    obtain ⟨low, tt, b1, b2, b3, b4, b5, b6⟩ := BX.out k (by omega)
    have hL := tenN_pos k
    have hL1 := tenN_le (k := k) 4 10000 rfl (by omega)
    have rb := (rt_bl HR.out HD.out.1 HN.out.1 (by rw [Int.mul_assoc] at *; exact HN.out.2) (by omega)).1
    obtain ⟨_, et⟩ := bl_one (by omega) rb (show BlC e f v (tenN k) low tt from ⟨b1, b2, b3, b4⟩)
    rw [← et] at b5 b6
    obtain ⟨s1, s2, s3, dx, dy⟩ := SR.out (tenN k) num den t (by omega) hL1 HR.out HD.out.1 rb b5 b6
    have K4 : shOk e f v p (tenN k) = false → k + 1 < 5 := fun h => by
      rcases Nat.lt_or_eq_of_le (show k ≤ 4 by omega) with g | g
      · omega
      · subst g
        have := S5.out _ _ rb b5 (by omega)
        rw [h] at this; cases this
    generalize bsX (tenN k) num den t = F1 at *
    generalize bsY (tenN k) num den t = F2 at *
    obtain ⟨d1, t1⟩ := F1
    obtain ⟨d2, t2⟩ := F2
    dsimp only at s1 s2 s3 dx dy ⊢
    have DA := Lib.hid (fun w => DR.out d1 t1 dx w)
    have DB := Lib.hid (fun w => DR.out d2 t2 dy w)
    have R1 := Lib.hid (fun q => IS.out (d1, t1) ⟨k, k5, (s1 q).2, HNO.out, (s1 q).1⟩)
    have R2 := Lib.hid (fun q r => IS.out (d2, t2) ⟨k, k5, (s2 q r).2, HNO.out, (s2 q r).1⟩)
    have R3 : RowKit.Hid (rcV e f d1 t1 0 ≠ p → rcV e f d2 t2 0 ≠ p → k + 1 < 5 ∧ ∀ Q, Q < k + 1 → shOk e f v p (tenN Q) = false) := Lib.hid (fun q r => ⟨K4 (s3 q r), fun Q hQ => by
      rcases Nat.lt_or_eq_of_le (show Q ≤ k by omega) with g | g
      · exact HNO.out Q g
      · rw [g]; exact s3 q r⟩)
    clear s1 s2 s3 dx dy b1 b2 b3 b4 b5 b6 hL hL1 rb et K4 HR HD HN HT HNO
    generalize rcV e f d1 t1 0 = r1 at *
    generalize rcV e f d2 t2 0 = r2 at *
    go_loopw [27] (fun s27 wi => ∃ j : Nat, s27 = .int .i64 (j : Int) ∧ j ≤ 2 ∧ RowKit.Hid ((1 ≤ j → r1 ≠ p) ∧ (2 ≤ j → r2 ≠ p)) ∧ wi.cell? ⟨w.heap.size, 0, none⟩ = some (.int .i64 G) ∧ wi.cell? ⟨w.heap.size, 1, none⟩ = some (.int .i64 N) ∧ wi.cell? ⟨w.heap.size, 2, none⟩ = some (.int .i64 X) ∧ wi.cell? ⟨w.heap.size + 1, 0, none⟩ = some (.int .i64 e) ∧ wi.cell? ⟨w.heap.size + 1, 1, none⟩ = some (.int .i64 f) ∧ wi.cell? ⟨w.heap.size + 2, 0, none⟩ = some (.int .i64 0) ∧ wi.cell? ⟨w.heap.size + 2, 1, none⟩ = some (.int .i64 0) ∧ wi.frozen? ⟨w.heap.size + 2, 0, none⟩ = false ∧ wi.frozen? ⟨w.heap.size + 2, 1, none⟩ = false ∧ w.heap.size + 2 < wi.heap.size ∧ Ext w wi) (fun x _ => 3 - (intOf x).toNat)
    case atStart => exact ⟨0, rfl, by decide, Lib.hid ⟨fun h => absurd h (by decide), fun h => absurd h (by decide)⟩, (by first | with_reducible assumption | (simp [go_sem]; done) | (simp [go_sem, *]; done)), (by first | with_reducible assumption | (simp [go_sem]; done) | (simp [go_sem, *]; done)), (by first | with_reducible assumption | (simp [go_sem]; done) | (simp [go_sem, *]; done)), (by first | with_reducible assumption | (simp [go_sem]; done) | (simp [go_sem, *]; done)), (by first | with_reducible assumption | (simp [go_sem]; done) | (simp [go_sem, *]; done)), (by first | with_reducible assumption | (simp [go_sem]; done) | (simp [go_sem, *]; done)), (by first | with_reducible assumption | (simp [go_sem]; done) | (simp [go_sem, *]; done)), (by first | with_reducible assumption | (simp [go_sem]; done) | (simp [go_sem, *]; done)), (by first | with_reducible assumption | (simp [go_sem]; done) | (simp [go_sem, *]; done)), (by first | omega | (simp; done) | (simp; omega)), Ext.auK⟩
    case round =>
      obtain ⟨j, rfl, j2, HJ, g0, g1, g2, g3, g4, g5, g6, z0, z1, hs, hx⟩ := hrel
      have ka : ∀ o : Obj, (wr.alloc o).cell? ⟨w.heap.size + 1, 0, none⟩ = some (.int .i64 e) := fun o => (cell_alloc_before _ _ _ _ (by omega)).trans g3
      have kb : ∀ o : Obj, (wr.alloc o).cell? ⟨w.heap.size + 1, 1, none⟩ = some (.int .i64 f) := fun o => (cell_alloc_before _ _ _ _ (by omega)).trans g4
      have kz10 : (wr.alloc (.cells #[.int .i64 d1, .int .i64 t1] 90)).frozen? ⟨w.heap.size + 2, 0, none⟩ = false := (frz_alloc_before _ _ _ _ (by omega)).trans z0
      have kz11 : (wr.alloc (.cells #[.int .i64 d1, .int .i64 t1] 90)).frozen? ⟨w.heap.size + 2, 1, none⟩ = false := (frz_alloc_before _ _ _ _ (by omega)).trans z1
      have kz20 : (wr.alloc (.cells #[.int .i64 d2, .int .i64 t2] 90)).frozen? ⟨w.heap.size + 2, 0, none⟩ = false := (frz_alloc_before _ _ _ _ (by omega)).trans z0
      have kz21 : (wr.alloc (.cells #[.int .i64 d2, .int .i64 t2] 90)).frozen? ⟨w.heap.size + 2, 1, none⟩ = false := (frz_alloc_before _ _ _ _ (by omega)).trans z1
      have hq2 := hs
      rcases (show j = 0 ∨ j = 1 ∨ j = 2 by omega) with rfl | rfl | rfl
      · by_cases hA : r1 = p
        · have cA : (r1 == p) = true := by simpa using hA
          have R := Lib.hid (R1.out hA)
          clear R1 R2 R3 hA HJ
          go_wp2_with (go_at_call 116; refine (DA.out _).mono ?_; rintro rv w5 ⟨rfl, hb⟩; have ns : wr.heap.size < w5.heap.size := hb.ltK; have n0 : w5.cell? ⟨w.heap.size, 0, none⟩ = some (.int .i64 G) := hb.cellK; have n1 : w5.cell? ⟨w.heap.size, 1, none⟩ = some (.int .i64 N) := hb.cellK; have n2 : w5.cell? ⟨w.heap.size, 2, none⟩ = some (.int .i64 X) := hb.cellK; have n3 : w5.cell? ⟨w.heap.size + 1, 0, none⟩ = some (.int .i64 e) := hb.cellK; have n4 : w5.cell? ⟨w.heap.size + 1, 1, none⟩ = some (.int .i64 f) := hb.cellK; have n5 : w5.cell? ⟨wr.heap.size, 0, none⟩ = some (.int .i64 d1) := hb.cellK; have n6 : w5.cell? ⟨wr.heap.size, 1, none⟩ = some (.int .i64 t1) := hb.cellK; have n7 : w5.cell? ⟨w.heap.size + 2, 0, none⟩ = some (.int .i64 0) := hb.cellK; have n8 : w5.cell? ⟨w.heap.size + 2, 1, none⟩ = some (.int .i64 0) := hb.cellK; have nz0 : w5.frozen? ⟨w.heap.size + 2, 0, none⟩ = false := hb.frzK; have nz1 : w5.frozen? ⟨w.heap.size + 2, 1, none⟩ = false := hb.frzK; (first | (have nx := hx.trK hb; clear hx) | have nx := hb); clear hb; try clear hs; try clear g0; try clear g1; try clear g2; try clear g3; try clear g4; try clear g5; try clear g6; try clear g7; try clear g8; try clear z0; try clear z1; have hx := nx; clear nx; have hs := ns; clear ns; have g0 := n0; clear n0; have g1 := n1; clear n1; have g2 := n2; clear n2; have g3 := n3; clear n3; have g4 := n4; clear n4; have g5 := n5; clear n5; have g6 := n6; clear n6; have g7 := n7; clear n7; have g8 := n8; clear n8; have z0 := nz0; clear nz0; have z1 := nz1; clear nz1)
          all_goals exact bodyPost_ret (v := two d1 t1) (by simp [results, Tryz.results67, go_sem, *]) rfl ⟨by rw [R.out], Ext.auK⟩
        · have cA : (r1 == p) = false := by simpa using hA
          have HA := Lib.hid hA
          clear R1 R2 R3 hA HJ
          go_wp2_with (go_at_call 116; refine (DA.out _).mono ?_; rintro rv w5 ⟨rfl, hb⟩; have ns : wr.heap.size < w5.heap.size := hb.ltK; have n0 : w5.cell? ⟨w.heap.size, 0, none⟩ = some (.int .i64 G) := hb.cellK; have n1 : w5.cell? ⟨w.heap.size, 1, none⟩ = some (.int .i64 N) := hb.cellK; have n2 : w5.cell? ⟨w.heap.size, 2, none⟩ = some (.int .i64 X) := hb.cellK; have n3 : w5.cell? ⟨w.heap.size + 1, 0, none⟩ = some (.int .i64 e) := hb.cellK; have n4 : w5.cell? ⟨w.heap.size + 1, 1, none⟩ = some (.int .i64 f) := hb.cellK; have n5 : w5.cell? ⟨wr.heap.size, 0, none⟩ = some (.int .i64 d1) := hb.cellK; have n6 : w5.cell? ⟨wr.heap.size, 1, none⟩ = some (.int .i64 t1) := hb.cellK; have n7 : w5.cell? ⟨w.heap.size + 2, 0, none⟩ = some (.int .i64 0) := hb.cellK; have n8 : w5.cell? ⟨w.heap.size + 2, 1, none⟩ = some (.int .i64 0) := hb.cellK; have nz0 : w5.frozen? ⟨w.heap.size + 2, 0, none⟩ = false := hb.frzK; have nz1 : w5.frozen? ⟨w.heap.size + 2, 1, none⟩ = false := hb.frzK; (first | (have nx := hx.trK hb; clear hx) | have nx := hb); clear hb; try clear hs; try clear g0; try clear g1; try clear g2; try clear g3; try clear g4; try clear g5; try clear g6; try clear g7; try clear g8; try clear z0; try clear z1; have hx := nx; clear nx; have hs := ns; clear ns; have g0 := n0; clear n0; have g1 := n1; clear n1; have g2 := n2; clear n2; have g3 := n3; clear n3; have g4 := n4; clear n4; have g5 := n5; clear n5; have g6 := n6; clear n6; have g7 := n7; clear n7; have g8 := n8; clear n8; have z0 := nz0; clear nz0; have z1 := nz1; clear nz1)
          go_roundw
          all_goals first | (simp [intOf]; done) | (simp [intOf]; omega) | exact ⟨1, by first | rfl | simp, by decide, Lib.hid ⟨fun _ => HA.out, fun h => absurd h (by decide)⟩, (by first | with_reducible assumption | (simp [go_sem]; done) | (simp [go_sem, *]; done)), (by first | with_reducible assumption | (simp [go_sem]; done) | (simp [go_sem, *]; done)), (by first | with_reducible assumption | (simp [go_sem]; done) | (simp [go_sem, *]; done)), (by first | with_reducible assumption | (simp [go_sem]; done) | (simp [go_sem, *]; done)), (by first | with_reducible assumption | (simp [go_sem]; done) | (simp [go_sem, *]; done)), (by first | with_reducible assumption | (simp [go_sem]; done) | (simp [go_sem, *]; done)), (by first | with_reducible assumption | (simp [go_sem]; done) | (simp [go_sem, *]; done)), (by first | with_reducible assumption | (simp [go_sem]; done) | (simp [go_sem, *]; done)), (by first | with_reducible assumption | (simp [go_sem]; done) | (simp [go_sem, *]; done)), (by first | omega | (simp; done) | (simp; omega)), Ext.auK⟩
      · have hA := HJ.out.1 (by decide)
        by_cases hB : r2 = p
        · have cB : (r2 == p) = true := by simpa using hB
          have R := Lib.hid (R2.out hA hB)
          clear R1 R2 R3 hA hB HJ
          go_wp2_with (go_at_call 116; refine (DB.out _).mono ?_; rintro rv w5 ⟨rfl, hb⟩; have ns : wr.heap.size < w5.heap.size := hb.ltK; have n0 : w5.cell? ⟨w.heap.size, 0, none⟩ = some (.int .i64 G) := hb.cellK; have n1 : w5.cell? ⟨w.heap.size, 1, none⟩ = some (.int .i64 N) := hb.cellK; have n2 : w5.cell? ⟨w.heap.size, 2, none⟩ = some (.int .i64 X) := hb.cellK; have n3 : w5.cell? ⟨w.heap.size + 1, 0, none⟩ = some (.int .i64 e) := hb.cellK; have n4 : w5.cell? ⟨w.heap.size + 1, 1, none⟩ = some (.int .i64 f) := hb.cellK; have n5 : w5.cell? ⟨wr.heap.size, 0, none⟩ = some (.int .i64 d2) := hb.cellK; have n6 : w5.cell? ⟨wr.heap.size, 1, none⟩ = some (.int .i64 t2) := hb.cellK; have n7 : w5.cell? ⟨w.heap.size + 2, 0, none⟩ = some (.int .i64 0) := hb.cellK; have n8 : w5.cell? ⟨w.heap.size + 2, 1, none⟩ = some (.int .i64 0) := hb.cellK; have nz0 : w5.frozen? ⟨w.heap.size + 2, 0, none⟩ = false := hb.frzK; have nz1 : w5.frozen? ⟨w.heap.size + 2, 1, none⟩ = false := hb.frzK; (first | (have nx := hx.trK hb; clear hx) | have nx := hb); clear hb; try clear hs; try clear g0; try clear g1; try clear g2; try clear g3; try clear g4; try clear g5; try clear g6; try clear g7; try clear g8; try clear z0; try clear z1; have hx := nx; clear nx; have hs := ns; clear ns; have g0 := n0; clear n0; have g1 := n1; clear n1; have g2 := n2; clear n2; have g3 := n3; clear n3; have g4 := n4; clear n4; have g5 := n5; clear n5; have g6 := n6; clear n6; have g7 := n7; clear n7; have g8 := n8; clear n8; have z0 := nz0; clear nz0; have z1 := nz1; clear nz1)
          all_goals exact bodyPost_ret (v := two d2 t2) (by simp [results, Tryz.results67, go_sem, *]) rfl ⟨by rw [R.out], Ext.auK⟩
        · have cB : (r2 == p) = false := by simpa using hB
          have HB := Lib.hid hB
          have HA := Lib.hid hA
          clear R1 R2 R3 hA hB HJ
          go_wp2_with (go_at_call 116; refine (DB.out _).mono ?_; rintro rv w5 ⟨rfl, hb⟩; have ns : wr.heap.size < w5.heap.size := hb.ltK; have n0 : w5.cell? ⟨w.heap.size, 0, none⟩ = some (.int .i64 G) := hb.cellK; have n1 : w5.cell? ⟨w.heap.size, 1, none⟩ = some (.int .i64 N) := hb.cellK; have n2 : w5.cell? ⟨w.heap.size, 2, none⟩ = some (.int .i64 X) := hb.cellK; have n3 : w5.cell? ⟨w.heap.size + 1, 0, none⟩ = some (.int .i64 e) := hb.cellK; have n4 : w5.cell? ⟨w.heap.size + 1, 1, none⟩ = some (.int .i64 f) := hb.cellK; have n5 : w5.cell? ⟨wr.heap.size, 0, none⟩ = some (.int .i64 d2) := hb.cellK; have n6 : w5.cell? ⟨wr.heap.size, 1, none⟩ = some (.int .i64 t2) := hb.cellK; have n7 : w5.cell? ⟨w.heap.size + 2, 0, none⟩ = some (.int .i64 0) := hb.cellK; have n8 : w5.cell? ⟨w.heap.size + 2, 1, none⟩ = some (.int .i64 0) := hb.cellK; have nz0 : w5.frozen? ⟨w.heap.size + 2, 0, none⟩ = false := hb.frzK; have nz1 : w5.frozen? ⟨w.heap.size + 2, 1, none⟩ = false := hb.frzK; (first | (have nx := hx.trK hb; clear hx) | have nx := hb); clear hb; try clear hs; try clear g0; try clear g1; try clear g2; try clear g3; try clear g4; try clear g5; try clear g6; try clear g7; try clear g8; try clear z0; try clear z1; have hx := nx; clear nx; have hs := ns; clear ns; have g0 := n0; clear n0; have g1 := n1; clear n1; have g2 := n2; clear n2; have g3 := n3; clear n3; have g4 := n4; clear n4; have g5 := n5; clear n5; have g6 := n6; clear n6; have g7 := n7; clear n7; have g8 := n8; clear n8; have z0 := nz0; clear nz0; have z1 := nz1; clear nz1)
          go_roundw
          all_goals first | (simp [intOf]; done) | (simp [intOf]; omega) | exact ⟨2, by first | rfl | simp, by decide, Lib.hid ⟨fun _ => HA.out, fun _ => HB.out⟩, (by first | with_reducible assumption | (simp [go_sem]; done) | (simp [go_sem, *]; done)), (by first | with_reducible assumption | (simp [go_sem]; done) | (simp [go_sem, *]; done)), (by first | with_reducible assumption | (simp [go_sem]; done) | (simp [go_sem, *]; done)), (by first | with_reducible assumption | (simp [go_sem]; done) | (simp [go_sem, *]; done)), (by first | with_reducible assumption | (simp [go_sem]; done) | (simp [go_sem, *]; done)), (by first | with_reducible assumption | (simp [go_sem]; done) | (simp [go_sem, *]; done)), (by first | with_reducible assumption | (simp [go_sem]; done) | (simp [go_sem, *]; done)), (by first | with_reducible assumption | (simp [go_sem]; done) | (simp [go_sem, *]; done)), (by first | with_reducible assumption | (simp [go_sem]; done) | (simp [go_sem, *]; done)), (by first | omega | (simp; done) | (simp; omega)), Ext.auK⟩
      · obtain ⟨k5b, hno⟩ := R3.out (HJ.out.1 (by decide)) (HJ.out.2 (by decide))
        have HNO := Lib.hid hno
        clear R1 R2 R3 HJ hno
        go_wp2
        go_roundw
        all_goals first | (simp [intOf]; done) | (simp [intOf]; omega) | exact ⟨k + 1, by first | rfl | simp, k5b, HNO, (by first | with_reducible assumption | (simp [go_sem]; done) | (simp [go_sem, *]; done)), (by first | with_reducible assumption | (simp [go_sem]; done) | (simp [go_sem, *]; done)), (by first | with_reducible assumption | (simp [go_sem]; done) | (simp [go_sem, *]; done)), (by first | with_reducible assumption | (simp [go_sem]; done) | (simp [go_sem, *]; done)), (by first | with_reducible assumption | (simp [go_sem]; done) | (simp [go_sem, *]; done)), (by first | with_reducible assumption | (simp [go_sem]; done) | (simp [go_sem, *]; done)), (by first | with_reducible assumption | (simp [go_sem]; done) | (simp [go_sem, *]; done)), (by first | with_reducible assumption | (simp [go_sem]; done) | (simp [go_sem, *]; done)), (by first | with_reducible assumption | (simp [go_sem]; done) | (simp [go_sem, *]; done)), (by first | omega | (simp; done) | (simp; omega)), Ext.auK⟩
end Go.Proofs.YtfgbndjhaiigbacGreatDoor

namespace Go.Proofs.YtfgbndjhaiigbacGreatDoor
open Go Go.RowKit
set_option linter.unusedSimpArgs false
set_option linter.unusedVariables false
set_option maxRecDepth 100000

attribute [local go_sem] ta_finite_finite ta_finite_infinite ta_finite_noNumber ta_infinite_finite ta_infinite_infinite ta_infinite_noNumber ta_noNumber_finite ta_noNumber_infinite ta_noNumber_noNumber

theorem sh_take {e f v p L low t : Int} (hL : 0 < L) (hb : BlC e f v L low t) :
    (rcV e f low t 0 ≠ p → rcV e f (low + 1) t 0 ≠ p → shOk e f v p L = false) ∧
    (rcV e f low t 0 ≠ p → rcV e f (low + 1) t 0 = p → shD e f v p L = low + 1 ∧ shOk e f v p L = true) ∧
    (rcV e f low t 0 = p → rcV e f (low + 1) t 0 ≠ p → shD e f v p L = low ∧ shOk e f v p L = true) ∧
    (rcV e f low t 0 = p → rcV e f (low + 1) t 0 = p → 0 < tcV e f v (10 * low + 5) (t - 1) → shD e f v p L = low + 1 ∧ shOk e f v p L = true) ∧
    (rcV e f low t 0 = p → rcV e f (low + 1) t 0 = p → ¬ 0 < tcV e f v (10 * low + 5) (t - 1) → shD e f v p L = low ∧ shOk e f v p L = true) := by
  have e1 := bl_is hL hb
  have eA : shA e f v p L = decide (rcV e f low t 0 = p) := by unfold shA; rw [e1]
  have eB : shB e f v p L = decide (rcV e f (low + 1) t 0 = p) := by unfold shB; rw [e1]
  have eN : shN e f v L = tcV e f v (10 * low + 5) (t - 1) := by unfold shN; rw [e1]
  refine ⟨fun a b => ?_, fun a b => ?_, fun a b => ?_, fun a b c => ?_, fun a b c => ?_⟩
  · unfold shOk; rw [eA, eB, decide_eq_false a, decide_eq_false b]; rfl
  · rw [decide_eq_false a] at eA; rw [decide_eq_true b] at eB
    refine ⟨?_, by unfold shOk; rw [eA, eB]; rfl⟩
    have hU : shU e f v p L = true := by unfold shU; rw [eA, eB]; split <;> rfl
    unfold shD; rw [hU, e1]; rfl
  · rw [decide_eq_true a] at eA; rw [decide_eq_false b] at eB
    refine ⟨?_, by unfold shOk; rw [eA, eB]; rfl⟩
    have hU : shU e f v p L = false := by unfold shU; rw [eA, eB]; split <;> rfl
    unfold shD; rw [hU, e1]; rfl
  · rw [decide_eq_true a] at eA; rw [decide_eq_true b] at eB
    refine ⟨?_, by unfold shOk; rw [eA, eB]; rfl⟩
    have hU : shU e f v p L = true := by unfold shU; rw [if_pos (by rw [eN]; exact c), eB]
    unfold shD; rw [hU, e1]; rfl
  · rw [decide_eq_true a] at eA; rw [decide_eq_true b] at eB
    refine ⟨?_, by unfold shOk; rw [eA, eB]; rfl⟩
    have hU : shU e f v p L = false := by unfold shU; rw [if_neg (by rw [eN]; exact c), eA]; rfl
    unfold shD; rw [hU, e1]; rfl

theorem txBelow_k {e f a : Int} (hf : finB e f a = true) (hz : unitsV e f a ≠ 0) (k : Nat) (hk : k < 6) (w : World) :
    Calls Tryz.prog 111 #[fmt e f, .int .i64 (a % pw (e + f)), .int .i64 ((k : Int) + 1)] w fun rv w' => ∃ low t : Int, rv = .returned (.tuple #[.int .i64 low, .int .i64 t]) ∧ (BlC e f ((unitsV e f a).natAbs : Int) (tenN k) low t ∧ -14 ≤ t ∧ t ≤ 13) ∧ Ext w w' := by
  obtain ⟨sf, su⟩ := size_fin hf
  have := txBelow_any e f (a % pw (e + f)) ((k : Int) + 1) sf (by rw [su]; omega) (by omega) (by omega) w
  rw [su, show (((((unitsV e f a).natAbs : Int) : Int).natAbs : Nat) : Int) = ((unitsV e f a).natAbs : Int) by omega, show ((k : Int) + 1).toNat = k + 1 by omega] at this
  exact this.mono fun _ _ ⟨low, t, he, ⟨b1, b2, b3, b4, b5, b6⟩, hx⟩ => ⟨low, t, he, ⟨⟨b1, b2, b3, b4⟩, b5, b6⟩, hx⟩

theorem txNear_k {e f a : Int} (hf : finB e f a = true) (d t : Int) (d0 : 0 ≤ d) (d1 : d ≤ 999999) (t0 : -14 ≤ t) (t1 : t ≤ 14) (w : World) : Calls Tryz.prog 112 #[fmt e f, .int .i64 (a % pw (e + f)), .int .i64 d, .int .i64 t] w fun rv w' => rv = .returned (.int .i64 (tcV e f ((unitsV e f a).natAbs : Int) (10 * d + 5) (t - 1))) ∧ Ext w w' := by
  obtain ⟨sf, su⟩ := size_fin hf
  have := txNear_any e f (a % pw (e + f)) d t sf d0 d1 t0 t1 w
  rwa [su, show (((((unitsV e f a).natAbs : Int) : Int).natAbs : Nat) : Int) = ((unitsV e f a).natAbs : Int) by omega] at this

set_option maxHeartbeats 6400000 in
theorem txShort_any (e f a : Int) (hf : finB e f a = true) (hz : unitsV e f a ≠ 0) (w : World) : Calls Tryz.prog 65 #[fmt e f, .int .i64 a] w fun rv w' => rv = .returned (.tuple #[.int .i64 (shF e f ((unitsV e f a).natAbs : Int) (a % pw (e + f))).1, .int .i64 (shF e f ((unitsV e f a).natAbs : Int) (a % pw (e + f))).2]) ∧ Ext w w' := by
  obtain ⟨hg, s0, s1, hu⟩ := fin_size hf
  have hap := (fin_pat hf).1
  have hp0 : 0 < a % pw (e + f) := by
    rcases Int.lt_or_eq_of_le s0 with h | h
    · exact h
    · exfalso
      have : mgV f (a % pw (e + f)) = 0 := by rw [← h]; unfold mgV; simp
      omega
  have FS := Lib.hid (fun w => fmSize_any e f a hg (pat_iff.1 hap).2.1 w)
  have TB := Lib.hid (fun k hk w => txBelow_k hf hz k hk w)
  have TNC := Lib.hid (fun d t d0 d1 t0 t1 w => txNear_k hf d t d0 d1 t0 t1 w)
  have TRC := Lib.hid (fun d t hd w => txRead_v e f d t 0 hg hd (by decide) (by decide) w)
  have BX := Lib.hid (fun P hP => bl_ex hf hz w P hP)
  have S5 := Lib.hid (fun low t h t0 t1 => sh_five (e := e) (f := f) (p := a % pw (e + f)) (low := low) (t := t) hg hp0 s1 h t0 t1)
  rw [← hu] at S5
  have IS := Lib.hid (fun x h => sh_is (e := e) (f := f) (v := ((unitsV e f a).natAbs : Int)) (p := a % pw (e + f)) (x := x) h)
  clear hu hp0 s0 s1 hf hz hg hap
  generalize ((unitsV e f a).natAbs : Int) = v at *
  generalize a % pw (e + f) = p at *
  go_enter Tryz.func65, Tryz.ntmps65
  go_wp2_with (go_at_call 110; refine (FS.out _).mono ?_; rintro rv w1 ⟨rfl, hb⟩; have ns : w.heap.size < w1.heap.size := hb.ltK; have n0 : w1.cell? ⟨w.heap.size, 0, none⟩ = some (.int .i64 e) := hb.cellK; have n1 : w1.cell? ⟨w.heap.size, 1, none⟩ = some (.int .i64 f) := hb.cellK; (first | (have nx := hx.trK hb; clear hx) | have nx := hb); clear hb; try clear hs; try clear g0; try clear g1; have hx := nx; clear nx; have hs := ns; clear ns; have g0 := n0; clear n0; have g1 := n1; clear n1)
  go_loopw [7] (fun s7 wr => ∃ k : Nat, s7 = .int .i64 ((k : Int) + 1) ∧ k < 5 ∧ RowKit.Hid (∀ Q, Q < k → shOk e f v p (tenN Q) = false) ∧ wr.cell? ⟨w.heap.size, 0, none⟩ = some (.int .i64 e) ∧ wr.cell? ⟨w.heap.size, 1, none⟩ = some (.int .i64 f) ∧ w.heap.size < wr.heap.size ∧ Ext w wr) (fun x _ => 7 - (intOf x).toNat)
  case atStart => exact ⟨0, rfl, by decide, Lib.hid (fun Q h => absurd h (by omega)), (by first | with_reducible assumption | (simp [go_sem]; done) | (simp [go_sem, *]; done)), (by first | with_reducible assumption | (simp [go_sem]; done) | (simp [go_sem, *]; done)), (by first | omega | (simp; done) | (simp; omega)), Ext.auK⟩
  case round =>
    obtain ⟨k, rfl, k5, HNO, g0, g1, hs, hx⟩ := hrel
    have q6 : (k : Int) + 1 < 6 := by omega
    have kw : IntKind.i64.wrap ((k : Int) + 1 + 1) = (k : Int) + 1 + 1 := IntWalk.i64_in _ (by omega)
    go_wp2_with (first | (go_at_call 111; refine (TB.out k (by omega) _).mono ?_; rintro rv w1 ⟨low, t, rfl, hbl, hb⟩; have HBL := Lib.hid hbl; clear hbl; have ns : w.heap.size < w1.heap.size := hb.ltK; have n0 : w1.cell? ⟨w.heap.size, 0, none⟩ = some (.int .i64 e) := hb.cellK; have n1 : w1.cell? ⟨w.heap.size, 1, none⟩ = some (.int .i64 f) := hb.cellK; (first | (have nx := hx.trK hb; clear hx) | have nx := hb); clear hb; try clear hs; try clear g0; try clear g1; have hx := nx; clear nx; have hs := ns; clear ns; have g0 := n0; clear n0; have g1 := n1; clear n1))
    obtain ⟨rb, t0, t1⟩ := id HBL.out
    have hL := tenN_pos k
    have hL1 := tenN_le (k := k) 4 10000 rfl (by omega)
    obtain ⟨_, _, b3, b4⟩ := id rb
    have K4 : shOk e f v p (tenN k) = false → k + 1 < 5 ∧ ∀ Q, Q < k + 1 → shOk e f v p (tenN Q) = false := by
      intro h
      constructor
      · rcases Nat.lt_or_eq_of_le (show k ≤ 4 by omega) with g | g
        · omega
        · subst g
          have := S5.out _ _ rb t0 (by omega)
          rw [h] at this; cases this
      · intro Q hQ
        rcases Nat.lt_or_eq_of_le (show Q ≤ k by omega) with g | g
        · exact HNO.out Q g
        · rw [g]; exact h
    have KS := fun h => sh_strip (e := e) (f := f) (v := v) (p := p) k k5 (fun Q hQ => by obtain ⟨l2, t2, c1, c2, c3, c4, _, _⟩ := BX.out Q (by omega); exact ⟨l2, t2, c1, c2, c3, c4⟩) HNO.out h
    rw [bl_is (by omega) rb] at KS
    have KK : ∀ D, shD e f v p (tenN k) = D ∧ shOk e f v p (tenN k) = true → (D % 10 ≠ 0 ∧ shF e f v p = (D, t)) ∨ (D = 10 ∧ shF e f v p = (1, t + 1)) := fun D ⟨h1, h2⟩ => by
      have h3 := IS.out (shX e f v p (tenN k)) ⟨k, k5, h2, HNO.out, rfl⟩
      rcases KS h2 with ⟨q1, q2⟩ | ⟨q1, q2⟩
      · left; rw [← h1]; exact ⟨q1, h3.trans q2⟩
      · right; rw [← h1]; exact ⟨q1, h3.trans q2⟩
    obtain ⟨u1, u2, u3, u4, u5⟩ := sh_take (p := p) (by omega) rb
    have TA := Lib.hid (fun w => TRC.out low t (dc_iff.2 ⟨⟨by omega, by omega⟩, t0, by omega⟩) w)
    have TB2 := Lib.hid (fun w => TRC.out (low + 1) t (dc_iff.2 ⟨⟨by omega, by omega⟩, t0, by omega⟩) w)
    have TN := Lib.hid (fun w => TNC.out low t (by omega) (by omega) t0 (by omega) w)
    have klow : IntKind.i64.wrap (low + 1) = low + 1 := IntWalk.i64_in _ (by omega)
    have l0 : 0 ≤ low := by omega
    have l9 : low ≤ 999999 := by omega
    clear KS rb b3 b4 hL hL1 HBL HNO
    generalize tcV e f v (10 * low + 5) (t - 1) = c at *
    generalize rcV e f low t 0 = ra at *
    generalize rcV e f (low + 1) t 0 = rb at *
    by_cases hA : ra = p
    · have cA : (ra == p) = true := by simpa using hA
      by_cases hB : rb = p
      · have cB : (rb == p) = true := by simpa using hB
        by_cases hc : 0 < c
        · have hq := u4 hA hB hc
          clear u1 u2 u3 u4 u5 hA hB K4
          rcases KK (low + 1) hq with ⟨hd, hR⟩ | ⟨hd, hR⟩
          · have R := Lib.hid hR
            have tm : (low + 1).tmod 10 = (low + 1) % 10 := Int.tmod_eq_emod_of_nonneg (by omega)
            have tz : ((low + 1).tmod 10 == 0) = false := by rw [tm]; simpa using hd
            have kwt : IntKind.i64.wrap ((low + 1).tmod 10) = (low + 1).tmod 10 := IntWalk.i64_in _ (by rw [tm]; omega)
            clear hq hR hd KK
            go_wp2_with (first | (go_at_call 94; (with_reducible refine (TA.out _).mono ?_); rintro rv w1 ⟨rfl, hb⟩; have ns : w.heap.size < w1.heap.size := hb.ltK; have n0 : w1.cell? ⟨w.heap.size, 0, none⟩ = some (.int .i64 e) := hb.cellK; have n1 : w1.cell? ⟨w.heap.size, 1, none⟩ = some (.int .i64 f) := hb.cellK; (first | (have nx := hx.trK hb; clear hx) | have nx := hb); clear hb; try clear hs; try clear g0; try clear g1; have hx := nx; clear nx; have hs := ns; clear ns; have g0 := n0; clear n0; have g1 := n1; clear n1) | (go_at_call 94; (with_reducible refine (TB2.out _).mono ?_); rintro rv w1 ⟨rfl, hb⟩; have ns : w.heap.size < w1.heap.size := hb.ltK; have n0 : w1.cell? ⟨w.heap.size, 0, none⟩ = some (.int .i64 e) := hb.cellK; have n1 : w1.cell? ⟨w.heap.size, 1, none⟩ = some (.int .i64 f) := hb.cellK; (first | (have nx := hx.trK hb; clear hx) | have nx := hb); clear hb; try clear hs; try clear g0; try clear g1; have hx := nx; clear nx; have hs := ns; clear ns; have g0 := n0; clear n0; have g1 := n1; clear n1) | (go_at_call 112; refine (TN.out _).mono ?_; rintro rv w1 ⟨rfl, hb⟩; have ns : w.heap.size < w1.heap.size := hb.ltK; have n0 : w1.cell? ⟨w.heap.size, 0, none⟩ = some (.int .i64 e) := hb.cellK; have n1 : w1.cell? ⟨w.heap.size, 1, none⟩ = some (.int .i64 f) := hb.cellK; (first | (have nx := hx.trK hb; clear hx) | have nx := hb); clear hb; try clear hs; try clear g0; try clear g1; have hx := nx; clear nx; have hs := ns; clear ns; have g0 := n0; clear n0; have g1 := n1; clear n1))
            go_loopw [12, 9] (fun s12 s9 wr => s12 = .int .i64 (low + 1) ∧ s9 = .int .i64 t ∧ wr.cell? ⟨w.heap.size, 0, none⟩ = some (.int .i64 e) ∧ wr.cell? ⟨w.heap.size, 1, none⟩ = some (.int .i64 f) ∧ w.heap.size < wr.heap.size ∧ Ext w wr) (fun _ _ _ => 1)
            case atStart => exact ⟨rfl, rfl, (by first | with_reducible assumption | (simp [go_sem]; done) | (simp [go_sem, *]; done)), (by first | with_reducible assumption | (simp [go_sem]; done) | (simp [go_sem, *]; done)), (by first | omega | (simp; done) | (simp; omega)), Ext.auK⟩
            case round =>
              obtain ⟨rfl, rfl, g0, g1, hs, hx⟩ := hrel
              go_wp2
              go_ret2
              exact ⟨by rw [R.out]; rfl, Ext.auK⟩
          · have R := Lib.hid hR
            have kt1 : IntKind.i64.wrap (t + 1) = t + 1 := IntWalk.i64_in _ (by omega)
            have HD := Lib.hid hd
            clear hq hR KK hd
            go_wp2_with (first | (go_at_call 94; (with_reducible refine (TA.out _).mono ?_); rintro rv w1 ⟨rfl, hb⟩; have ns : w.heap.size < w1.heap.size := hb.ltK; have n0 : w1.cell? ⟨w.heap.size, 0, none⟩ = some (.int .i64 e) := hb.cellK; have n1 : w1.cell? ⟨w.heap.size, 1, none⟩ = some (.int .i64 f) := hb.cellK; (first | (have nx := hx.trK hb; clear hx) | have nx := hb); clear hb; try clear hs; try clear g0; try clear g1; have hx := nx; clear nx; have hs := ns; clear ns; have g0 := n0; clear n0; have g1 := n1; clear n1) | (go_at_call 94; (with_reducible refine (TB2.out _).mono ?_); rintro rv w1 ⟨rfl, hb⟩; have ns : w.heap.size < w1.heap.size := hb.ltK; have n0 : w1.cell? ⟨w.heap.size, 0, none⟩ = some (.int .i64 e) := hb.cellK; have n1 : w1.cell? ⟨w.heap.size, 1, none⟩ = some (.int .i64 f) := hb.cellK; (first | (have nx := hx.trK hb; clear hx) | have nx := hb); clear hb; try clear hs; try clear g0; try clear g1; have hx := nx; clear nx; have hs := ns; clear ns; have g0 := n0; clear n0; have g1 := n1; clear n1) | (go_at_call 112; refine (TN.out _).mono ?_; rintro rv w1 ⟨rfl, hb⟩; have ns : w.heap.size < w1.heap.size := hb.ltK; have n0 : w1.cell? ⟨w.heap.size, 0, none⟩ = some (.int .i64 e) := hb.cellK; have n1 : w1.cell? ⟨w.heap.size, 1, none⟩ = some (.int .i64 f) := hb.cellK; (first | (have nx := hx.trK hb; clear hx) | have nx := hb); clear hb; try clear hs; try clear g0; try clear g1; have hx := nx; clear nx; have hs := ns; clear ns; have g0 := n0; clear n0; have g1 := n1; clear n1))
            go_loopw [12, 9] (fun s12 s9 wr => ∃ b : Bool, s12 = .int .i64 (if b then 10 else 1) ∧ s9 = .int .i64 (if b then t else t + 1) ∧ wr.cell? ⟨w.heap.size, 0, none⟩ = some (.int .i64 e) ∧ wr.cell? ⟨w.heap.size, 1, none⟩ = some (.int .i64 f) ∧ w.heap.size < wr.heap.size ∧ Ext w wr) (fun x _ _ => (intOf x).toNat)
            case atStart => exact ⟨true, by rw [HD.out]; rfl, rfl, (by first | with_reducible assumption | (simp [go_sem]; done) | (simp [go_sem, *]; done)), (by first | with_reducible assumption | (simp [go_sem]; done) | (simp [go_sem, *]; done)), (by first | omega | (simp; done) | (simp; omega)), Ext.auK⟩
            case round =>
              obtain ⟨b, rfl, rfl, g0, g1, hs, hx⟩ := hrel
              clear HD
              cases b
              · go_wp2
                go_ret2
                exact ⟨by rw [R.out]; rfl, Ext.auK⟩
              · go_wp2
                go_roundw
                all_goals first | (simp [intOf]; done) | (simp [intOf]; omega) | exact ⟨false, rfl, rfl, (by first | with_reducible assumption | (simp [go_sem]; done) | (simp [go_sem, *]; done)), (by first | with_reducible assumption | (simp [go_sem]; done) | (simp [go_sem, *]; done)), (by first | omega | (simp; done) | (simp; omega)), Ext.auK⟩
        · have hq := u5 hA hB hc
          clear u1 u2 u3 u4 u5 hA hB K4
          rcases KK (low) hq with ⟨hd, hR⟩ | ⟨hd, hR⟩
          · have R := Lib.hid hR
            have tm : (low).tmod 10 = (low) % 10 := Int.tmod_eq_emod_of_nonneg (by omega)
            have tz : ((low).tmod 10 == 0) = false := by rw [tm]; simpa using hd
            have kwt : IntKind.i64.wrap ((low).tmod 10) = (low).tmod 10 := IntWalk.i64_in _ (by rw [tm]; omega)
            clear hq hR hd KK
            go_wp2_with (first | (go_at_call 94; (with_reducible refine (TA.out _).mono ?_); rintro rv w1 ⟨rfl, hb⟩; have ns : w.heap.size < w1.heap.size := hb.ltK; have n0 : w1.cell? ⟨w.heap.size, 0, none⟩ = some (.int .i64 e) := hb.cellK; have n1 : w1.cell? ⟨w.heap.size, 1, none⟩ = some (.int .i64 f) := hb.cellK; (first | (have nx := hx.trK hb; clear hx) | have nx := hb); clear hb; try clear hs; try clear g0; try clear g1; have hx := nx; clear nx; have hs := ns; clear ns; have g0 := n0; clear n0; have g1 := n1; clear n1) | (go_at_call 94; (with_reducible refine (TB2.out _).mono ?_); rintro rv w1 ⟨rfl, hb⟩; have ns : w.heap.size < w1.heap.size := hb.ltK; have n0 : w1.cell? ⟨w.heap.size, 0, none⟩ = some (.int .i64 e) := hb.cellK; have n1 : w1.cell? ⟨w.heap.size, 1, none⟩ = some (.int .i64 f) := hb.cellK; (first | (have nx := hx.trK hb; clear hx) | have nx := hb); clear hb; try clear hs; try clear g0; try clear g1; have hx := nx; clear nx; have hs := ns; clear ns; have g0 := n0; clear n0; have g1 := n1; clear n1) | (go_at_call 112; refine (TN.out _).mono ?_; rintro rv w1 ⟨rfl, hb⟩; have ns : w.heap.size < w1.heap.size := hb.ltK; have n0 : w1.cell? ⟨w.heap.size, 0, none⟩ = some (.int .i64 e) := hb.cellK; have n1 : w1.cell? ⟨w.heap.size, 1, none⟩ = some (.int .i64 f) := hb.cellK; (first | (have nx := hx.trK hb; clear hx) | have nx := hb); clear hb; try clear hs; try clear g0; try clear g1; have hx := nx; clear nx; have hs := ns; clear ns; have g0 := n0; clear n0; have g1 := n1; clear n1))
            go_loopw [12, 9] (fun s12 s9 wr => s12 = .int .i64 (low) ∧ s9 = .int .i64 t ∧ wr.cell? ⟨w.heap.size, 0, none⟩ = some (.int .i64 e) ∧ wr.cell? ⟨w.heap.size, 1, none⟩ = some (.int .i64 f) ∧ w.heap.size < wr.heap.size ∧ Ext w wr) (fun _ _ _ => 1)
            case atStart => exact ⟨rfl, rfl, (by first | with_reducible assumption | (simp [go_sem]; done) | (simp [go_sem, *]; done)), (by first | with_reducible assumption | (simp [go_sem]; done) | (simp [go_sem, *]; done)), (by first | omega | (simp; done) | (simp; omega)), Ext.auK⟩
            case round =>
              obtain ⟨rfl, rfl, g0, g1, hs, hx⟩ := hrel
              go_wp2
              go_ret2
              exact ⟨by rw [R.out]; rfl, Ext.auK⟩
          · have R := Lib.hid hR
            have kt1 : IntKind.i64.wrap (t + 1) = t + 1 := IntWalk.i64_in _ (by omega)
            have HD := Lib.hid hd
            clear hq hR KK hd
            go_wp2_with (first | (go_at_call 94; (with_reducible refine (TA.out _).mono ?_); rintro rv w1 ⟨rfl, hb⟩; have ns : w.heap.size < w1.heap.size := hb.ltK; have n0 : w1.cell? ⟨w.heap.size, 0, none⟩ = some (.int .i64 e) := hb.cellK; have n1 : w1.cell? ⟨w.heap.size, 1, none⟩ = some (.int .i64 f) := hb.cellK; (first | (have nx := hx.trK hb; clear hx) | have nx := hb); clear hb; try clear hs; try clear g0; try clear g1; have hx := nx; clear nx; have hs := ns; clear ns; have g0 := n0; clear n0; have g1 := n1; clear n1) | (go_at_call 94; (with_reducible refine (TB2.out _).mono ?_); rintro rv w1 ⟨rfl, hb⟩; have ns : w.heap.size < w1.heap.size := hb.ltK; have n0 : w1.cell? ⟨w.heap.size, 0, none⟩ = some (.int .i64 e) := hb.cellK; have n1 : w1.cell? ⟨w.heap.size, 1, none⟩ = some (.int .i64 f) := hb.cellK; (first | (have nx := hx.trK hb; clear hx) | have nx := hb); clear hb; try clear hs; try clear g0; try clear g1; have hx := nx; clear nx; have hs := ns; clear ns; have g0 := n0; clear n0; have g1 := n1; clear n1) | (go_at_call 112; refine (TN.out _).mono ?_; rintro rv w1 ⟨rfl, hb⟩; have ns : w.heap.size < w1.heap.size := hb.ltK; have n0 : w1.cell? ⟨w.heap.size, 0, none⟩ = some (.int .i64 e) := hb.cellK; have n1 : w1.cell? ⟨w.heap.size, 1, none⟩ = some (.int .i64 f) := hb.cellK; (first | (have nx := hx.trK hb; clear hx) | have nx := hb); clear hb; try clear hs; try clear g0; try clear g1; have hx := nx; clear nx; have hs := ns; clear ns; have g0 := n0; clear n0; have g1 := n1; clear n1))
            go_loopw [12, 9] (fun s12 s9 wr => ∃ b : Bool, s12 = .int .i64 (if b then 10 else 1) ∧ s9 = .int .i64 (if b then t else t + 1) ∧ wr.cell? ⟨w.heap.size, 0, none⟩ = some (.int .i64 e) ∧ wr.cell? ⟨w.heap.size, 1, none⟩ = some (.int .i64 f) ∧ w.heap.size < wr.heap.size ∧ Ext w wr) (fun x _ _ => (intOf x).toNat)
            case atStart => exact ⟨true, by rw [HD.out]; rfl, rfl, (by first | with_reducible assumption | (simp [go_sem]; done) | (simp [go_sem, *]; done)), (by first | with_reducible assumption | (simp [go_sem]; done) | (simp [go_sem, *]; done)), (by first | omega | (simp; done) | (simp; omega)), Ext.auK⟩
            case round =>
              obtain ⟨b, rfl, rfl, g0, g1, hs, hx⟩ := hrel
              clear HD
              cases b
              · go_wp2
                go_ret2
                exact ⟨by rw [R.out]; rfl, Ext.auK⟩
              · go_wp2
                go_roundw
                all_goals first | (simp [intOf]; done) | (simp [intOf]; omega) | exact ⟨false, rfl, rfl, (by first | with_reducible assumption | (simp [go_sem]; done) | (simp [go_sem, *]; done)), (by first | with_reducible assumption | (simp [go_sem]; done) | (simp [go_sem, *]; done)), (by first | omega | (simp; done) | (simp; omega)), Ext.auK⟩
      · have cB : (rb == p) = false := by simpa using hB
        have hq := u3 hA hB
        clear u1 u2 u3 u4 u5 hA hB K4
        rcases KK (low) hq with ⟨hd, hR⟩ | ⟨hd, hR⟩
        · have R := Lib.hid hR
          have tm : (low).tmod 10 = (low) % 10 := Int.tmod_eq_emod_of_nonneg (by omega)
          have tz : ((low).tmod 10 == 0) = false := by rw [tm]; simpa using hd
          have kwt : IntKind.i64.wrap ((low).tmod 10) = (low).tmod 10 := IntWalk.i64_in _ (by rw [tm]; omega)
          clear hq hR hd KK
          go_wp2_with (first | (go_at_call 94; (with_reducible refine (TA.out _).mono ?_); rintro rv w1 ⟨rfl, hb⟩; have ns : w.heap.size < w1.heap.size := hb.ltK; have n0 : w1.cell? ⟨w.heap.size, 0, none⟩ = some (.int .i64 e) := hb.cellK; have n1 : w1.cell? ⟨w.heap.size, 1, none⟩ = some (.int .i64 f) := hb.cellK; (first | (have nx := hx.trK hb; clear hx) | have nx := hb); clear hb; try clear hs; try clear g0; try clear g1; have hx := nx; clear nx; have hs := ns; clear ns; have g0 := n0; clear n0; have g1 := n1; clear n1) | (go_at_call 94; (with_reducible refine (TB2.out _).mono ?_); rintro rv w1 ⟨rfl, hb⟩; have ns : w.heap.size < w1.heap.size := hb.ltK; have n0 : w1.cell? ⟨w.heap.size, 0, none⟩ = some (.int .i64 e) := hb.cellK; have n1 : w1.cell? ⟨w.heap.size, 1, none⟩ = some (.int .i64 f) := hb.cellK; (first | (have nx := hx.trK hb; clear hx) | have nx := hb); clear hb; try clear hs; try clear g0; try clear g1; have hx := nx; clear nx; have hs := ns; clear ns; have g0 := n0; clear n0; have g1 := n1; clear n1) | (go_at_call 112; refine (TN.out _).mono ?_; rintro rv w1 ⟨rfl, hb⟩; have ns : w.heap.size < w1.heap.size := hb.ltK; have n0 : w1.cell? ⟨w.heap.size, 0, none⟩ = some (.int .i64 e) := hb.cellK; have n1 : w1.cell? ⟨w.heap.size, 1, none⟩ = some (.int .i64 f) := hb.cellK; (first | (have nx := hx.trK hb; clear hx) | have nx := hb); clear hb; try clear hs; try clear g0; try clear g1; have hx := nx; clear nx; have hs := ns; clear ns; have g0 := n0; clear n0; have g1 := n1; clear n1))
          go_loopw [12, 9] (fun s12 s9 wr => s12 = .int .i64 (low) ∧ s9 = .int .i64 t ∧ wr.cell? ⟨w.heap.size, 0, none⟩ = some (.int .i64 e) ∧ wr.cell? ⟨w.heap.size, 1, none⟩ = some (.int .i64 f) ∧ w.heap.size < wr.heap.size ∧ Ext w wr) (fun _ _ _ => 1)
          case atStart => exact ⟨rfl, rfl, (by first | with_reducible assumption | (simp [go_sem]; done) | (simp [go_sem, *]; done)), (by first | with_reducible assumption | (simp [go_sem]; done) | (simp [go_sem, *]; done)), (by first | omega | (simp; done) | (simp; omega)), Ext.auK⟩
          case round =>
            obtain ⟨rfl, rfl, g0, g1, hs, hx⟩ := hrel
            go_wp2
            go_ret2
            exact ⟨by rw [R.out]; rfl, Ext.auK⟩
        · have R := Lib.hid hR
          have kt1 : IntKind.i64.wrap (t + 1) = t + 1 := IntWalk.i64_in _ (by omega)
          have HD := Lib.hid hd
          clear hq hR KK hd
          go_wp2_with (first | (go_at_call 94; (with_reducible refine (TA.out _).mono ?_); rintro rv w1 ⟨rfl, hb⟩; have ns : w.heap.size < w1.heap.size := hb.ltK; have n0 : w1.cell? ⟨w.heap.size, 0, none⟩ = some (.int .i64 e) := hb.cellK; have n1 : w1.cell? ⟨w.heap.size, 1, none⟩ = some (.int .i64 f) := hb.cellK; (first | (have nx := hx.trK hb; clear hx) | have nx := hb); clear hb; try clear hs; try clear g0; try clear g1; have hx := nx; clear nx; have hs := ns; clear ns; have g0 := n0; clear n0; have g1 := n1; clear n1) | (go_at_call 94; (with_reducible refine (TB2.out _).mono ?_); rintro rv w1 ⟨rfl, hb⟩; have ns : w.heap.size < w1.heap.size := hb.ltK; have n0 : w1.cell? ⟨w.heap.size, 0, none⟩ = some (.int .i64 e) := hb.cellK; have n1 : w1.cell? ⟨w.heap.size, 1, none⟩ = some (.int .i64 f) := hb.cellK; (first | (have nx := hx.trK hb; clear hx) | have nx := hb); clear hb; try clear hs; try clear g0; try clear g1; have hx := nx; clear nx; have hs := ns; clear ns; have g0 := n0; clear n0; have g1 := n1; clear n1) | (go_at_call 112; refine (TN.out _).mono ?_; rintro rv w1 ⟨rfl, hb⟩; have ns : w.heap.size < w1.heap.size := hb.ltK; have n0 : w1.cell? ⟨w.heap.size, 0, none⟩ = some (.int .i64 e) := hb.cellK; have n1 : w1.cell? ⟨w.heap.size, 1, none⟩ = some (.int .i64 f) := hb.cellK; (first | (have nx := hx.trK hb; clear hx) | have nx := hb); clear hb; try clear hs; try clear g0; try clear g1; have hx := nx; clear nx; have hs := ns; clear ns; have g0 := n0; clear n0; have g1 := n1; clear n1))
          go_loopw [12, 9] (fun s12 s9 wr => ∃ b : Bool, s12 = .int .i64 (if b then 10 else 1) ∧ s9 = .int .i64 (if b then t else t + 1) ∧ wr.cell? ⟨w.heap.size, 0, none⟩ = some (.int .i64 e) ∧ wr.cell? ⟨w.heap.size, 1, none⟩ = some (.int .i64 f) ∧ w.heap.size < wr.heap.size ∧ Ext w wr) (fun x _ _ => (intOf x).toNat)
          case atStart => exact ⟨true, by rw [HD.out]; rfl, rfl, (by first | with_reducible assumption | (simp [go_sem]; done) | (simp [go_sem, *]; done)), (by first | with_reducible assumption | (simp [go_sem]; done) | (simp [go_sem, *]; done)), (by first | omega | (simp; done) | (simp; omega)), Ext.auK⟩
          case round =>
            obtain ⟨b, rfl, rfl, g0, g1, hs, hx⟩ := hrel
            clear HD
            cases b
            · go_wp2
              go_ret2
              exact ⟨by rw [R.out]; rfl, Ext.auK⟩
            · go_wp2
              go_roundw
              all_goals first | (simp [intOf]; done) | (simp [intOf]; omega) | exact ⟨false, rfl, rfl, (by first | with_reducible assumption | (simp [go_sem]; done) | (simp [go_sem, *]; done)), (by first | with_reducible assumption | (simp [go_sem]; done) | (simp [go_sem, *]; done)), (by first | omega | (simp; done) | (simp; omega)), Ext.auK⟩
    · have cA : (ra == p) = false := by simpa using hA
      by_cases hB : rb = p
      · have cB : (rb == p) = true := by simpa using hB
        have hq := u2 hA hB
        clear u1 u2 u3 u4 u5 hA hB K4
        rcases KK (low + 1) hq with ⟨hd, hR⟩ | ⟨hd, hR⟩
        · have R := Lib.hid hR
          have tm : (low + 1).tmod 10 = (low + 1) % 10 := Int.tmod_eq_emod_of_nonneg (by omega)
          have tz : ((low + 1).tmod 10 == 0) = false := by rw [tm]; simpa using hd
          have kwt : IntKind.i64.wrap ((low + 1).tmod 10) = (low + 1).tmod 10 := IntWalk.i64_in _ (by rw [tm]; omega)
          clear hq hR hd KK
          go_wp2_with (first | (go_at_call 94; (with_reducible refine (TA.out _).mono ?_); rintro rv w1 ⟨rfl, hb⟩; have ns : w.heap.size < w1.heap.size := hb.ltK; have n0 : w1.cell? ⟨w.heap.size, 0, none⟩ = some (.int .i64 e) := hb.cellK; have n1 : w1.cell? ⟨w.heap.size, 1, none⟩ = some (.int .i64 f) := hb.cellK; (first | (have nx := hx.trK hb; clear hx) | have nx := hb); clear hb; try clear hs; try clear g0; try clear g1; have hx := nx; clear nx; have hs := ns; clear ns; have g0 := n0; clear n0; have g1 := n1; clear n1) | (go_at_call 94; (with_reducible refine (TB2.out _).mono ?_); rintro rv w1 ⟨rfl, hb⟩; have ns : w.heap.size < w1.heap.size := hb.ltK; have n0 : w1.cell? ⟨w.heap.size, 0, none⟩ = some (.int .i64 e) := hb.cellK; have n1 : w1.cell? ⟨w.heap.size, 1, none⟩ = some (.int .i64 f) := hb.cellK; (first | (have nx := hx.trK hb; clear hx) | have nx := hb); clear hb; try clear hs; try clear g0; try clear g1; have hx := nx; clear nx; have hs := ns; clear ns; have g0 := n0; clear n0; have g1 := n1; clear n1) | (go_at_call 112; refine (TN.out _).mono ?_; rintro rv w1 ⟨rfl, hb⟩; have ns : w.heap.size < w1.heap.size := hb.ltK; have n0 : w1.cell? ⟨w.heap.size, 0, none⟩ = some (.int .i64 e) := hb.cellK; have n1 : w1.cell? ⟨w.heap.size, 1, none⟩ = some (.int .i64 f) := hb.cellK; (first | (have nx := hx.trK hb; clear hx) | have nx := hb); clear hb; try clear hs; try clear g0; try clear g1; have hx := nx; clear nx; have hs := ns; clear ns; have g0 := n0; clear n0; have g1 := n1; clear n1))
          go_loopw [12, 9] (fun s12 s9 wr => s12 = .int .i64 (low + 1) ∧ s9 = .int .i64 t ∧ wr.cell? ⟨w.heap.size, 0, none⟩ = some (.int .i64 e) ∧ wr.cell? ⟨w.heap.size, 1, none⟩ = some (.int .i64 f) ∧ w.heap.size < wr.heap.size ∧ Ext w wr) (fun _ _ _ => 1)
          case atStart => exact ⟨rfl, rfl, (by first | with_reducible assumption | (simp [go_sem]; done) | (simp [go_sem, *]; done)), (by first | with_reducible assumption | (simp [go_sem]; done) | (simp [go_sem, *]; done)), (by first | omega | (simp; done) | (simp; omega)), Ext.auK⟩
          case round =>
            obtain ⟨rfl, rfl, g0, g1, hs, hx⟩ := hrel
            go_wp2
            go_ret2
            exact ⟨by rw [R.out]; rfl, Ext.auK⟩
        · have R := Lib.hid hR
          have kt1 : IntKind.i64.wrap (t + 1) = t + 1 := IntWalk.i64_in _ (by omega)
          have HD := Lib.hid hd
          clear hq hR KK hd
          go_wp2_with (first | (go_at_call 94; (with_reducible refine (TA.out _).mono ?_); rintro rv w1 ⟨rfl, hb⟩; have ns : w.heap.size < w1.heap.size := hb.ltK; have n0 : w1.cell? ⟨w.heap.size, 0, none⟩ = some (.int .i64 e) := hb.cellK; have n1 : w1.cell? ⟨w.heap.size, 1, none⟩ = some (.int .i64 f) := hb.cellK; (first | (have nx := hx.trK hb; clear hx) | have nx := hb); clear hb; try clear hs; try clear g0; try clear g1; have hx := nx; clear nx; have hs := ns; clear ns; have g0 := n0; clear n0; have g1 := n1; clear n1) | (go_at_call 94; (with_reducible refine (TB2.out _).mono ?_); rintro rv w1 ⟨rfl, hb⟩; have ns : w.heap.size < w1.heap.size := hb.ltK; have n0 : w1.cell? ⟨w.heap.size, 0, none⟩ = some (.int .i64 e) := hb.cellK; have n1 : w1.cell? ⟨w.heap.size, 1, none⟩ = some (.int .i64 f) := hb.cellK; (first | (have nx := hx.trK hb; clear hx) | have nx := hb); clear hb; try clear hs; try clear g0; try clear g1; have hx := nx; clear nx; have hs := ns; clear ns; have g0 := n0; clear n0; have g1 := n1; clear n1) | (go_at_call 112; refine (TN.out _).mono ?_; rintro rv w1 ⟨rfl, hb⟩; have ns : w.heap.size < w1.heap.size := hb.ltK; have n0 : w1.cell? ⟨w.heap.size, 0, none⟩ = some (.int .i64 e) := hb.cellK; have n1 : w1.cell? ⟨w.heap.size, 1, none⟩ = some (.int .i64 f) := hb.cellK; (first | (have nx := hx.trK hb; clear hx) | have nx := hb); clear hb; try clear hs; try clear g0; try clear g1; have hx := nx; clear nx; have hs := ns; clear ns; have g0 := n0; clear n0; have g1 := n1; clear n1))
          go_loopw [12, 9] (fun s12 s9 wr => ∃ b : Bool, s12 = .int .i64 (if b then 10 else 1) ∧ s9 = .int .i64 (if b then t else t + 1) ∧ wr.cell? ⟨w.heap.size, 0, none⟩ = some (.int .i64 e) ∧ wr.cell? ⟨w.heap.size, 1, none⟩ = some (.int .i64 f) ∧ w.heap.size < wr.heap.size ∧ Ext w wr) (fun x _ _ => (intOf x).toNat)
          case atStart => exact ⟨true, by rw [HD.out]; rfl, rfl, (by first | with_reducible assumption | (simp [go_sem]; done) | (simp [go_sem, *]; done)), (by first | with_reducible assumption | (simp [go_sem]; done) | (simp [go_sem, *]; done)), (by first | omega | (simp; done) | (simp; omega)), Ext.auK⟩
          case round =>
            obtain ⟨b, rfl, rfl, g0, g1, hs, hx⟩ := hrel
            clear HD
            cases b
            · go_wp2
              go_ret2
              exact ⟨by rw [R.out]; rfl, Ext.auK⟩
            · go_wp2
              go_roundw
              all_goals first | (simp [intOf]; done) | (simp [intOf]; omega) | exact ⟨false, rfl, rfl, (by first | with_reducible assumption | (simp [go_sem]; done) | (simp [go_sem, *]; done)), (by first | with_reducible assumption | (simp [go_sem]; done) | (simp [go_sem, *]; done)), (by first | omega | (simp; done) | (simp; omega)), Ext.auK⟩
      · have cB : (rb == p) = false := by simpa using hB
        obtain ⟨k5b, hno⟩ := K4 (u1 hA hB)
        have HNO := Lib.hid hno
        clear u1 u2 u3 u4 u5 hA hB K4 KK hno
        go_wp2_with (first | (go_at_call 94; (with_reducible refine (TA.out _).mono ?_); rintro rv w1 ⟨rfl, hb⟩; have ns : w.heap.size < w1.heap.size := hb.ltK; have n0 : w1.cell? ⟨w.heap.size, 0, none⟩ = some (.int .i64 e) := hb.cellK; have n1 : w1.cell? ⟨w.heap.size, 1, none⟩ = some (.int .i64 f) := hb.cellK; (first | (have nx := hx.trK hb; clear hx) | have nx := hb); clear hb; try clear hs; try clear g0; try clear g1; have hx := nx; clear nx; have hs := ns; clear ns; have g0 := n0; clear n0; have g1 := n1; clear n1) | (go_at_call 94; (with_reducible refine (TB2.out _).mono ?_); rintro rv w1 ⟨rfl, hb⟩; have ns : w.heap.size < w1.heap.size := hb.ltK; have n0 : w1.cell? ⟨w.heap.size, 0, none⟩ = some (.int .i64 e) := hb.cellK; have n1 : w1.cell? ⟨w.heap.size, 1, none⟩ = some (.int .i64 f) := hb.cellK; (first | (have nx := hx.trK hb; clear hx) | have nx := hb); clear hb; try clear hs; try clear g0; try clear g1; have hx := nx; clear nx; have hs := ns; clear ns; have g0 := n0; clear n0; have g1 := n1; clear n1))
        go_roundw
        all_goals first | (simp [intOf]; done) | (simp [intOf]; omega) | exact ⟨k + 1, by first | rfl | simp, k5b, HNO, (by first | with_reducible assumption | (simp [go_sem]; done) | (simp [go_sem, *]; done)), (by first | with_reducible assumption | (simp [go_sem]; done) | (simp [go_sem, *]; done)), (by first | omega | (simp; done) | (simp; omega)), Ext.auK⟩

theorem shortest_zero (G N X e f : Int) (hn : N = 0) (w : World) : Calls Tryz.prog 67 #[.agg #[.int .i64 G, .int .i64 N, .int .i64 X], fmt e f] w fun rv w' => rv = .returned (two 0 0) ∧ Ext w w' := by
  have IZ := Lib.hid (fun w => finZero_t G N X hn w)
  clear hn
  go_enter Tryz.func67, Tryz.ntmps67
  go_wp2_with (go_at_call 113; refine (IZ.out _).mono ?_; rintro rv w1 ⟨rfl, hb⟩; have ns : w.heap.size + 2 < w1.heap.size := hb.ltK; have n0 : w1.cell? ⟨w.heap.size, 0, none⟩ = some (.int .i64 G) := hb.cellK; have n1 : w1.cell? ⟨w.heap.size, 1, none⟩ = some (.int .i64 N) := hb.cellK; have n2 : w1.cell? ⟨w.heap.size, 2, none⟩ = some (.int .i64 X) := hb.cellK; have n3 : w1.cell? ⟨w.heap.size + 1, 0, none⟩ = some (.int .i64 e) := hb.cellK; have n4 : w1.cell? ⟨w.heap.size + 1, 1, none⟩ = some (.int .i64 f) := hb.cellK; have n5 : w1.cell? ⟨w.heap.size + 2, 0, none⟩ = some (.int .i64 0) := hb.cellK; have n6 : w1.cell? ⟨w.heap.size + 2, 1, none⟩ = some (.int .i64 0) := hb.cellK; have nz0 : w1.frozen? ⟨w.heap.size + 2, 0, none⟩ = false := hb.frzK; have nz1 : w1.frozen? ⟨w.heap.size + 2, 1, none⟩ = false := hb.frzK; (first | (have nx := hx.trK hb; clear hx) | have nx := hb); clear hb; try clear hs; try clear g0; try clear g1; try clear g2; try clear g3; try clear g4; try clear g5; try clear g6; try clear z0; try clear z1; have hx := nx; clear nx; have hs := ns; clear ns; have g0 := n0; clear n0; have g1 := n1; clear n1; have g2 := n2; clear n2; have g3 := n3; clear n3; have g4 := n4; clear n4; have g5 := n5; clear n5; have g6 := n6; clear n6; have z0 := nz0; clear nz0; have z1 := nz1; clear nz1)
  exact bodyPost_ret (v := two 0 0) (by simp [results, Tryz.results67, go_sem, *]) rfl ⟨rfl, Ext.auK⟩

/-- What ShortestOf answers. -/
noncomputable def soD (e f a : Int) : Int := if unitsV e f a = 0 then 0 else (shF e f ((unitsV e f a).natAbs : Int) (a % pw (e + f))).1

noncomputable def soT (e f a : Int) : Int := if unitsV e f a = 0 then 0 else (shF e f ((unitsV e f a).natAbs : Int) (a % pw (e + f))).2

/-- The shortest decimal of a finite value, zeros too. -/
theorem shortest_so (e f a : Int) (hf : finB e f a = true) (w : World) : Calls Tryz.prog 67 #[.agg #[.int .i64 (a / pw (e + f)), .int .i64 ((odV (unitsV e f a)).natAbs : Int), .int .i64 (shE (unitsV e f a) (unV e f))], fmt e f] w fun rv w' => rv = .returned (two (soD e f a) (soT e f a)) ∧ Ext w w' := by
  by_cases hz : unitsV e f a = 0
  · have e1 : soD e f a = 0 := if_pos hz
    have e2 : soT e f a = 0 := if_pos hz
    rw [e1, e2]
    exact shortest_zero _ _ _ e f (by rw [hz, od_zero]; rfl) w
  · have e1 : soD e f a = (shF e f ((unitsV e f a).natAbs : Int) (a % pw (e + f))).1 := if_neg hz
    have e2 : soT e f a = (shF e f ((unitsV e f a).natAbs : Int) (a % pw (e + f))).2 := if_neg hz
    rw [e1, e2]
    exact shortest_any e f a hf hz w

theorem iShortestOf_no (e f a : Int) (h0 : finB e f a = false) (w : World) (hT : TW w) : Calls Tryz.prog 26 #[fmt e f, .int .i64 a] w fun rv w' => rv = .returned (.tuple #[.int .i64 0, .int .i64 0, .bool false]) ∧ Ext w w' := by
  go_enter Tryz.func26, Tryz.ntmps26
  go_wp2_with (go_at_call 66; refine (finiteAt_no e f a h0 _).mono ?_; rintro rv w1 ⟨rfl, hb⟩; have ns : w.heap.size < w1.heap.size := hb.ltK; have n0 : w1.cell? ⟨w.heap.size, 0, none⟩ = some (.int .i64 e) := hb.cellK; have n1 : w1.cell? ⟨w.heap.size, 1, none⟩ = some (.int .i64 f) := hb.cellK; (first | (have nx := hx.trK hb; clear hx) | have nx := hb); clear hb; try clear hs; try clear g0; try clear g1; have hx := nx; clear nx; have hs := ns; clear ns; have g0 := n0; clear n0; have g1 := n1; clear n1)
  go_ret3
  exact ⟨rfl, Ext.auK⟩

set_option maxHeartbeats 1600000 in
theorem iShortestOf_yes (e f a : Int) (h0 : finB e f a = true) (w : World) (hT : TW w) : Calls Tryz.prog 26 #[fmt e f, .int .i64 a] w fun rv w' => rv = .returned (.tuple #[.int .i64 (soD e f a), .int .i64 (soT e f a), .bool true]) ∧ Ext w w' := by
  have FY := Lib.hid (fun w hT => finiteAt_yes e f a h0 w hT)
  have SH := Lib.hid (fun w => shortest_so e f a h0 w)
  clear h0
  generalize soD e f a = D at *
  generalize soT e f a = T at *
  generalize (a / pw (e + f)) = G at *
  generalize ((odV (unitsV e f a)).natAbs : Int) = N at *
  generalize (shE (unitsV e f a) (unV e f)) = X at *
  go_enter Tryz.func26, Tryz.ntmps26
  go_wp2_with (first | (go_at_call 66; refine (FY.out _ (hT.ext Ext.auK)).mono ?_; rintro rv w1 ⟨rfl, hb⟩; have ns : w.heap.size < w1.heap.size := hb.ltK; have n0 : w1.cell? ⟨w.heap.size, 0, none⟩ = some (.int .i64 e) := hb.cellK; have n1 : w1.cell? ⟨w.heap.size, 1, none⟩ = some (.int .i64 f) := hb.cellK; (first | (have nx := hx.trK hb; clear hx) | have nx := hb); clear hb; try clear hs; try clear g0; try clear g1; have hx := nx; clear nx; have hs := ns; clear ns; have g0 := n0; clear n0; have g1 := n1; clear n1) | (go_at_call 67; refine (SH.out _).mono ?_; rintro rv w2 ⟨rfl, hb⟩; have ns : w1.heap.size < w2.heap.size := hb.ltK; have n0 : w2.cell? ⟨w.heap.size, 0, none⟩ = some (.int .i64 e) := hb.cellK; have n1 : w2.cell? ⟨w.heap.size, 1, none⟩ = some (.int .i64 f) := hb.cellK; have n2 : w2.cell? ⟨w1.heap.size, 0, none⟩ = some (.int .i64 G) := hb.cellK; have n3 : w2.cell? ⟨w1.heap.size, 1, none⟩ = some (.int .i64 N) := hb.cellK; have n4 : w2.cell? ⟨w1.heap.size, 2, none⟩ = some (.int .i64 X) := hb.cellK; (first | (have nx := hx.trK hb; clear hx) | have nx := hb); clear hb; try clear hs; try clear g0; try clear g1; try clear g2; try clear g3; try clear g4; have hx := nx; clear nx; have hs := ns; clear ns; have g0 := n0; clear n0; have g1 := n1; clear n1; have g2 := n2; clear n2; have g3 := n3; clear n3; have g4 := n4; clear n4))
  all_goals (try go_region)
  all_goals (try go_wp2_with fail)
  all_goals go_ret3
  all_goals exact ⟨rfl, Ext.auK⟩
end Go.Proofs.YtfgbndjhaiigbacGreatDoor

