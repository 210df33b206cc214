/-
  Contracts of the functions that the laws reach, and the plain facts that they rest on, each under the conditions that its line names; part 14.
-/
import Derived.Test.YtfgbndjhaiigbaaGreatDoorKdj1
import Derived.Test.YtfgbndjhaiigbaaGreatDoorKdj2
import Derived.Test.YtfgbndjhaiigbaaGreatDoorKdj3
import Derived.Test.YtfgbndjhaiigbaaGreatDoorKdj4
import Derived.Test.YtfgbndjhaiigbaaGreatDoorKdj5
import Derived.Test.YtfgbndjhaiigbaaGreatDoorRows
import Derived.WalkKit
import Derived.LoopTactic
import Derived.Laws.Bits64b
import Derived.WalkSpells
import Derived.WalkLawsBesides
import Derived.StillTactics
import Derived.Laws.Pointers
import Derived.Deep.RegionHeld3
import Derived.Deep.QuietTactic
import Derived.BigQuiet
import Derived.Outline
import Derived.Lib.Hide
import Derived.RowKit3
import Derived.Carry
import Derived.IntWalk
namespace Go.Proofs.YtfgbndjhaiigbaaGreatDoor
open Go Go.RowKit
set_option linter.unusedSimpArgs false
set_option linter.unusedVariables false

theorem rdUnit_any (e f : Int) (hg : goodB e f = true) (w : World) : Calls Tryz.prog 87 #[fmt e f] w fun rv w' => rv = .returned (.int .i64 (unV e f)) ∧ Ext w w' := by
  obtain ⟨h1, h2, h3, h4⟩ := good_iff.1 hg
  obtain ⟨⟨a1, a2⟩, ⟨b1, b2⟩, ⟨c1, c2⟩, hmul⟩ := pw_facts h1 h2 h3 h4
  have Hmul := Lib.hid hmul; clear hmul
  obtain ⟨u1, u2, u3, u4⟩ := un_bd hg
  have k1 : IntKind.i64.wrap (1 - (pw (e - 1) - 1)) = 1 - (pw (e - 1) - 1) := IntWalk.i64_in _ (by omega)
  have k2 : IntKind.i64.wrap (1 - (pw (e - 1) - 1) - f) = 1 - (pw (e - 1) - 1) - f := IntWalk.i64_in _ (by omega)
  go_enter Tryz.func87, Tryz.ntmps87
  go_wp2_with fail
  go_region_held3 (fun w' => w'.cell? ⟨w.heap.size, 0, none⟩ = some (.int .i64 e) ∧ w'.cell? ⟨w.heap.size, 1, none⟩ = some (.int .i64 f) ∧ w.heap.size < w'.heap.size) ((refine ⟨?_, ?_, ?_⟩ <;> first | with_reducible assumption | ((rw [cell_setRow_far _ _ _ _ _ (by omega)]); with_reducible assumption) | ((rw [setRow_size]); with_reducible assumption) | ((repeat rw [World.cell?_setCell_far _ _ _ _ (by simp)]); with_reducible assumption) | (simp; done) | (simp [World.setCell]; first | done | omega) | (simp [go_sem, World.cell?_alloc_past, World.cell?_setCell_far, *]; done))) ((first | (go_at_call 131; refine (fmBias_any e f hg _).mono ?_; rintro rv w1 ⟨rfl, hb⟩; have ns : w.heap.size < w1.heap.size := hb.ltK; have n0 : w1.cell? ⟨w.heap.size, 0, none⟩ = some (.int .i64 e) := hb.cellK; have n1 : w1.cell? ⟨w.heap.size, 1, none⟩ = some (.int .i64 f) := hb.cellK; (first | (have nx := hx.trK hb; clear hx) | have nx := hb); clear hb; try clear hs; try clear g0; try clear g1; have hx := nx; clear nx; have hs := ns; clear ns; have g0 := n0; clear n0; have g1 := n1; clear n1)))
  go_wp2_with fail
  go_ret
  exact ⟨rfl, Ext.auK⟩

theorem unitPower_any (e f : Int) (hg : goodB e f = true) (w : World) : Calls Tryz.prog 165 #[fmt e f] w fun rv w' => rv = .returned (.int .i64 (unV e f)) ∧ Ext w w' := by
  obtain ⟨h1, h2, h3, h4⟩ := good_iff.1 hg
  obtain ⟨⟨a1, a2⟩, ⟨b1, b2⟩, ⟨c1, c2⟩, hmul⟩ := pw_facts h1 h2 h3 h4
  have Hmul := Lib.hid hmul; clear hmul
  obtain ⟨u1, u2, u3, u4⟩ := un_bd hg
  go_enter Tryz.func165, Tryz.ntmps165
  go_wp2_with (go_at_call 174; refine (iBiasOf_yes e f hg _).mono ?_; rintro rv w1 ⟨rfl, hb⟩; have ns : w.heap.size < w1.heap.size := hb.ltK; have n0 : w1.cell? ⟨w.heap.size, 0, none⟩ = some (.int .i64 e) := hb.cellK; have n1 : w1.cell? ⟨w.heap.size, 1, none⟩ = some (.int .i64 f) := hb.cellK; (first | (have nx := hx.trK hb; clear hx) | have nx := hb); clear hb; try clear hs; try clear g0; try clear g1; have hx := nx; clear nx; have hs := ns; clear ns; have g0 := n0; clear n0; have g1 := n1; clear n1)
  go_ret
  exact ⟨rfl, Ext.auK⟩
end Go.Proofs.YtfgbndjhaiigbaaGreatDoor

namespace Go.Proofs.YtfgbndjhaiigbaaGreatDoor
open Go Go.RowKit
set_option linter.unusedSimpArgs false
set_option linter.unusedVariables false
set_option maxRecDepth 100000

theorem endOf_any (e f p : Int) (w : World) : Calls Tryz.prog 108 #[fmt e f, .int .i64 p] w fun rv w' => rv = .returned (.int .i64 (enV e f p)) ∧ Ext w w' := by
  have HZ := Lib.hid (fun w => hasZero_any e f p w)
  have HN := Lib.hid (fun w => hasNumber_any e f p w)
  have hk : enV e f p = if (zerB e f p || !numB e f p) = true then 0 else p := rfl
  generalize enV e f p = V at *
  cases hz : zerB e f p <;> cases hn : numB e f p
  all_goals
    rw [hz] at HZ
    rw [hn] at HN
    rw [hz, hn] at hk
    simp at hk
    have Hk := Lib.hid hk
    clear hk hz hn
    go_enter Tryz.func108, Tryz.ntmps108
    go_wp2_with (first | (go_at_call 105; (with_reducible refine (HZ.out _).mono ?_); rintro rv w1 ⟨rfl, hb⟩; have ns : w.heap.size < w1.heap.size := hb.ltK; have n0 : w1.cell? ⟨w.heap.size, 0, none⟩ = some (.int .i64 e) := hb.cellK; have n1 : w1.cell? ⟨w.heap.size, 1, none⟩ = some (.int .i64 f) := hb.cellK; (first | (have nx := hx.trK hb; clear hx) | have nx := hb); clear hb; try clear hs; try clear g0; try clear g1; have hx := nx; clear nx; have hs := ns; clear ns; have g0 := n0; clear n0; have g1 := n1; clear n1) | (go_at_call 105; (with_reducible refine (HN.out _).mono ?_); rintro rv w1 ⟨rfl, hb⟩; have ns : w.heap.size < w1.heap.size := hb.ltK; have n0 : w1.cell? ⟨w.heap.size, 0, none⟩ = some (.int .i64 e) := hb.cellK; have n1 : w1.cell? ⟨w.heap.size, 1, none⟩ = some (.int .i64 f) := hb.cellK; (first | (have nx := hx.trK hb; clear hx) | have nx := hb); clear hb; try clear hs; try clear g0; try clear g1; have hx := nx; clear nx; have hs := ns; clear ns; have g0 := n0; clear n0; have g1 := n1; clear n1))
    go_ret
    exact ⟨ret_int (by rw [Hk.out]), Ext.auK⟩

theorem sfOf_any (e f p : Int) (hp : patB e f p = true) (w : World) : Calls Tryz.prog 55 #[fmt e f, .int .i64 p] w fun rv w' => rv = .returned (.int .i64 (sfV e f p)) ∧ Ext w w' := by
  obtain ⟨hg, p0, p1⟩ := pat_iff.1 hp
  obtain ⟨h1, h2, h3, h4⟩ := good_iff.1 hg
  obtain ⟨⟨a1, a2⟩, _⟩ := pw_facts h1 h2 h3 h4
  have SB := Lib.hid (fun w => signBit_any e f hg w)
  have hk : sfV e f p = if pw (e + f) ≤ p then pw (e + f) - p else p := rfl
  have k1 : IntKind.i64.wrap (pw (e + f) - p) = pw (e + f) - p := IntWalk.i64_in _ (by omega)
  generalize sfV e f p = V at *
  generalize pw (e + f) = P at *
  clear hg hp h1 h2 h3 h4
  by_cases h : P ≤ p
  · rw [if_pos h] at hk
    subst hk
    go_enter Tryz.func55, Tryz.ntmps55
    go_wp2_with (go_at_call 107; refine (SB.out _).mono ?_; rintro rv w1 ⟨rfl, hb⟩; have ns : w.heap.size < w1.heap.size := hb.ltK; have n0 : w1.cell? ⟨w.heap.size, 0, none⟩ = some (.int .i64 e) := hb.cellK; have n1 : w1.cell? ⟨w.heap.size, 1, none⟩ = some (.int .i64 f) := hb.cellK; (first | (have nx := hx.trK hb; clear hx) | have nx := hb); clear hb; try clear hs; try clear g0; try clear g1; have hx := nx; clear nx; have hs := ns; clear ns; have g0 := n0; clear n0; have g1 := n1; clear n1)
    go_ret
    exact ⟨ret_int (by first | rfl | omega | assumption | (rw [k1])), Ext.auK⟩
  · rw [if_neg h] at hk
    subst hk
    go_enter Tryz.func55, Tryz.ntmps55
    go_wp2_with (go_at_call 107; refine (SB.out _).mono ?_; rintro rv w1 ⟨rfl, hb⟩; have ns : w.heap.size < w1.heap.size := hb.ltK; have n0 : w1.cell? ⟨w.heap.size, 0, none⟩ = some (.int .i64 e) := hb.cellK; have n1 : w1.cell? ⟨w.heap.size, 1, none⟩ = some (.int .i64 f) := hb.cellK; (first | (have nx := hx.trK hb; clear hx) | have nx := hb); clear hb; try clear hs; try clear g0; try clear g1; have hx := nx; clear nx; have hs := ns; clear ns; have g0 := n0; clear n0; have g1 := n1; clear n1)
    go_ret
    exact ⟨rfl, Ext.auK⟩

theorem isEnd_any (e f p : Int) (w : World) : Calls Tryz.prog 104 #[fmt e f, .int .i64 p] w fun rv w' => rv = .returned (.bool (enB e f p)) ∧ Ext w w' := by
  have HN := Lib.hid (fun w => hasNumber_any e f p w)
  have EO := Lib.hid (fun w => endOf_any e f p w)
  have hk : enB e f p = (numB e f p && (p == enV e f p)) := rfl
  generalize enB e f p = B at *
  generalize enV e f p = V at *
  cases hn : numB e f p
  all_goals
    rw [hn] at HN
    rw [hn] at hk
    simp only [Bool.false_and, Bool.true_and] at hk
    subst hk
    clear hn
    go_enter Tryz.func104, Tryz.ntmps104
    go_wp2_with (first | (go_at_call 105; refine (HN.out _).mono ?_; rintro rv w1 ⟨rfl, hb⟩; have ns : w.heap.size < w1.heap.size := hb.ltK; have n0 : w1.cell? ⟨w.heap.size, 0, none⟩ = some (.int .i64 e) := hb.cellK; have n1 : w1.cell? ⟨w.heap.size, 1, none⟩ = some (.int .i64 f) := hb.cellK; (first | (have nx := hx.trK hb; clear hx) | have nx := hb); clear hb; try clear hs; try clear g0; try clear g1; have hx := nx; clear nx; have hs := ns; clear ns; have g0 := n0; clear n0; have g1 := n1; clear n1) | (go_at_call 108; refine (EO.out _).mono ?_; rintro rv w1 ⟨rfl, hb⟩; have ns : w.heap.size < w1.heap.size := hb.ltK; have n0 : w1.cell? ⟨w.heap.size, 0, none⟩ = some (.int .i64 e) := hb.cellK; have n1 : w1.cell? ⟨w.heap.size, 1, none⟩ = some (.int .i64 f) := hb.cellK; (first | (have nx := hx.trK hb; clear hx) | have nx := hb); clear hb; try clear hs; try clear g0; try clear g1; have hx := nx; clear nx; have hs := ns; clear ns; have g0 := n0; clear n0; have g1 := n1; clear n1))
    go_ret
    exact ⟨rfl, Ext.auK⟩

theorem kind_zer {e f p : Int} (hp : patB e f p = true) : (kindV e f p == 0) = (p % pw (e + f) == 0) := by
  rw [← zer_iff e f p hp]
  obtain ⟨hg, p0, p1⟩ := pat_iff.1 hp
  obtain ⟨h1, h2, h3, h4⟩ := good_iff.1 hg
  obtain ⟨_, ⟨b1, b2⟩, _⟩ := pw_facts h1 h2 h3 h4
  obtain ⟨_, _, ⟨x0, x1⟩, ⟨r0, r1⟩, _⟩ := field_bd e f p hp
  unfold zerB kindV
  rw [hp]
  generalize p % pw (e + f) / pw f = x at *
  generalize p % pw f = r at *
  generalize pw e = E at *
  rw [Bool.eq_iff_iff]
  simp only [Bool.true_and, Bool.and_eq_true, beq_iff_eq]
  repeat' split
  all_goals first | omega | (constructor <;> intro h <;> omega)

theorem arZero_iv (e f p : Int) (hp : patB e f p = true) (w : World) : Calls Tryz.prog 79 #[fmt e f, .int .i64 p] w fun rv w' => rv = .returned (.bool (p % pw (e + f) == 0)) ∧ Ext w w' := by
  have KD := Lib.hid (fun w => fmKind_any e f p hp w)
  rw [← kind_zer hp]
  generalize kindV e f p = V at *
  go_enter Tryz.func79, Tryz.ntmps79
  go_wp2_with (go_at_call 109; refine (KD.out _).mono ?_; rintro rv w1 ⟨rfl, hb⟩; have ns : w.heap.size < w1.heap.size := hb.ltK; have n0 : w1.cell? ⟨w.heap.size, 0, none⟩ = some (.int .i64 e) := hb.cellK; have n1 : w1.cell? ⟨w.heap.size, 1, none⟩ = some (.int .i64 f) := hb.cellK; (first | (have nx := hx.trK hb; clear hx) | have nx := hb); clear hb; try clear hs; try clear g0; try clear g1; have hx := nx; clear nx; have hs := ns; clear ns; have g0 := n0; clear n0; have g1 := n1; clear n1)
  go_ret
  exact ⟨rfl, Ext.auK⟩

theorem ivZero_any (e f p : Int) (hp : patB e f p = true) (w : World) : Calls Tryz.prog 96 #[fmt e f, .int .i64 p] w fun rv w' => rv = .returned (.int .i64 (izV e f p)) ∧ Ext w w' := by
  have AZ := Lib.hid (fun w => arZero_iv e f p hp w)
  have hk : izV e f p = if (p % pw (e + f) == 0) = true then 0 else p := rfl
  generalize izV e f p = V at *
  cases hz : (p % pw (e + f) == 0)
  all_goals
    rw [hz] at AZ hk
    simp only [Bool.false_eq_true, if_true, if_false] at hk
    subst hk
    clear hz
    go_enter Tryz.func96, Tryz.ntmps96
    go_wp2_with (go_at_call 79; refine (AZ.out _).mono ?_; rintro rv w1 ⟨rfl, hb⟩; have ns : w.heap.size < w1.heap.size := hb.ltK; have n0 : w1.cell? ⟨w.heap.size, 0, none⟩ = some (.int .i64 e) := hb.cellK; have n1 : w1.cell? ⟨w.heap.size, 1, none⟩ = some (.int .i64 f) := hb.cellK; (first | (have nx := hx.trK hb; clear hx) | have nx := hb); clear hb; try clear hs; try clear g0; try clear g1; have hx := nx; clear nx; have hs := ns; clear ns; have g0 := n0; clear n0; have g1 := n1; clear n1)
    go_ret
    exact ⟨rfl, Ext.auK⟩
end Go.Proofs.YtfgbndjhaiigbaaGreatDoor

