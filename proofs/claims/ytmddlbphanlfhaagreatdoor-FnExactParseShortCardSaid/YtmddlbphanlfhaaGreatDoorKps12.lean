/-
  Contracts of the functions that the laws reach, and the plain facts that they rest on, each under the conditions that its line names; part 12.
-/
import Derived.Test.YtmddlbphanlfhaaGreatDoorKps1
import Derived.Test.YtmddlbphanlfhaaGreatDoorKps2
import Derived.Test.YtmddlbphanlfhaaGreatDoorKps3
import Derived.Test.YtmddlbphanlfhaaGreatDoorKps4
import Derived.Test.YtmddlbphanlfhaaGreatDoorKps5
import Derived.Test.YtmddlbphanlfhaaGreatDoorKps11
import Derived.Test.YtmddlbphanlfhaaGreatDoorRows
import Derived.WalkKit
import Derived.LoopTactic
import Derived.Laws.Bits64b
import Derived.WalkSpells
import Derived.WalkLawsBesides
import Derived.StillTactics
import Derived.Laws.Pointers
import Derived.Deep.RegionHeld3
import Derived.Deep.QuietTactic
import Derived.BigQuiet
import Derived.Outline
import Derived.Lib.Hide
import Derived.RowKit3
import Derived.Carry
import Derived.IntWalk
namespace Go.Proofs.YtmddlbphanlfhaaGreatDoor
open Go Go.RowKit
set_option linter.unusedSimpArgs false
set_option linter.unusedVariables false

theorem rdSignOf_any (n : Int) (w : World) : Calls Tryz.prog 78 #[.int .i64 n] w fun rv w' => rv = .returned (.int .i64 (sgV n)) ∧ w = w' := by
  by_cases h1 : n < 0
  · have hk := sg_neg h1
    have Hk := Lib.hid hk; clear hk
    go_enter Tryz.func78, Tryz.ntmps78
    go_wp2
    go_ret
    exact ⟨ret_int Hk.out.symm, rfl⟩
  · by_cases h2 : 0 < n
    · have hk := sg_pos h2
      have Hk := Lib.hid hk; clear hk
      go_enter Tryz.func78, Tryz.ntmps78
      go_wp2
      go_ret
      exact ⟨ret_int Hk.out.symm, rfl⟩
    · have hk := sg_zero (show n = 0 by omega)
      have Hk := Lib.hid hk; clear hk
      go_enter Tryz.func78, Tryz.ntmps78
      go_wp2
      go_ret
      exact ⟨ret_int Hk.out.symm, rfl⟩

theorem rdPower_any (k : Int) (h1 : 0 ≤ k) (h2 : k ≤ 62) (w : World) : Calls Tryz.prog 79 #[.int .i64 k] w fun rv w' => rv = .returned (.int .i64 (pw k)) ∧ w = w' := by
  have k1 := pw_of k
  have k2 := pw_pos k
  have k3 := pw_le 62 4611686018427387904 rfl h2
  go_enter Tryz.func79, Tryz.ntmps79
  go_wp2
  go_ret
  exact ⟨rfl, rfl⟩

theorem placesOf_any (n : Int) (h1 : -9223372036854775808 < n) (h2 : n < 9223372036854775808) (w : World) : Calls Tryz.prog 201 #[.int .i64 n] w fun rv w' => rv = .returned (.int .i64 (plV n)) ∧ w = w' := by
  have hk : (max n (-n)).toNat = n.natAbs := by omega
  have Hk := Lib.hid hk; clear hk
  go_enter Tryz.func201, Tryz.ntmps201
  go_wp2_with (go_at_call 208; refine (Tryz.bits_Len _ _ (by omega) (by omega)).mono ?_; rintro rv w1 ⟨rfl, rfl⟩)
  go_ret
  exact ⟨ret_int (by unfold plV; rw [← Hk.out]), rfl⟩

theorem compareInt_sg (x y : Int) : Lib.compareInt x y = sgV (x - y) := by
  unfold Lib.compareInt
  rcases Int.lt_trichotomy x y with h | h | h
  · rw [sg_neg (by omega)]; simp [h]
  · rw [sg_zero (by omega)]; simp [h]
  · rw [sg_pos (by omega)]; simp [h, Int.not_lt.2 (Int.le_of_lt h)]

theorem compare_sg (x y : Int) (w : World) : Calls Tryz.prog 194 #[.int .i64 x, .int .i64 y] w fun rv w' => rv = .returned (.int .i64 (sgV (x - y))) ∧ w = w' := by
  refine (Tryz.cmp_Compare_int x y w).mono ?_
  rintro rv w' ⟨rfl, rfl⟩
  exact ⟨ret_int (compareInt_sg x y), rfl⟩

theorem sg_bd (n : Int) : -1 ≤ sgV n ∧ sgV n ≤ 1 := by unfold sgV; split <;> (try split) <;> omega
end Go.Proofs.YtmddlbphanlfhaaGreatDoor

namespace Go.Proofs.YtmddlbphanlfhaaGreatDoor
open Go Go.RowKit
set_option linter.unusedSimpArgs false
set_option linter.unusedVariables false

/-- The quiet pattern. -/
def quV (e f : Int) : Int := (pw e - 1) * pw f + pw (f - 1)

theorem arQuiet_any (e f : Int) (hg : goodB e f = true) (w : World) : Calls Tryz.prog 15 #[fmt e f] w fun rv w' => rv = .returned (.int .i64 (quV e f)) ∧ Ext w w' := by
  obtain ⟨h1, h2, h3, h4⟩ := good_iff.1 hg
  obtain ⟨⟨a1, a2⟩, ⟨b1, b2⟩, ⟨c1, c2⟩, hmul⟩ := pw_facts h1 h2 h3 h4
  have Hmul := Lib.hid hmul; clear hmul
  have q1 : pw (f - 1 + 1) = 2 * pw (f - 1) := pw_succ (f - 1) (by omega)
  rw [show f - 1 + 1 = f by omega] at q1
  have q2 := pw_pos (f - 1)
  have k1 : (2 : Int) ^ (f.toNat - 1) = pw (f - 1) := by unfold pw; congr 1; omega
  have q3 : pw (f - 1) ≤ 512 := pw_le 9 512 rfl (by omega)
  have k2 : IntKind.i64.wrap (f - 1) = f - 1 := IntWalk.i64_in _ (by omega)
  have k3 : min (f - 1).toNat 64 = (f - 1).toNat := by omega
  have k4 : min (f.toNat - 1) 64 = f.toNat - 1 := by omega
  have k5 := pw_of (f - 1)
  have k6 : IntKind.i64.wrap (pw (f - 1)) = pw (f - 1) := IntWalk.i64_in _ (by omega)
  have k7 : 0 ≤ f - 1 := by omega
  have Q1 := Lib.hid q1; clear q1
  have m0 : 0 ≤ (pw e - 1) * pw f := Int.mul_nonneg (by omega) (by omega)
  have m1 : (pw e - 1) * pw f ≤ 31 * pw f := Int.mul_le_mul_of_nonneg_right (by omega) (by omega)
  have kq : IntKind.i64.wrap ((pw e - 1) * pw f + pw (f - 1)) = (pw e - 1) * pw f + pw (f - 1) := IntWalk.i64_in _ (by omega)
  have hk : quV e f = (pw e - 1) * pw f + pw (f - 1) := rfl
  have Hk := Lib.hid hk; clear hk
  go_enter Tryz.func15, Tryz.ntmps15
  go_wp2_with fail
  go_region_held3 (fun w' => w'.cell? ⟨w.heap.size, 0, none⟩ = some (.int .i64 e) ∧ w'.cell? ⟨w.heap.size, 1, none⟩ = some (.int .i64 f) ∧ w.heap.size < w'.heap.size) ((refine ⟨?_, ?_, ?_⟩ <;> first | with_reducible assumption | ((rw [cell_setRow_far _ _ _ _ _ (by omega)]); with_reducible assumption) | ((rw [setRow_size]); with_reducible assumption) | ((repeat rw [World.cell?_setCell_far _ _ _ _ (by simp)]); with_reducible assumption) | (simp; done) | (simp [World.setCell]; first | done | omega) | (simp [go_sem, World.cell?_alloc_past, World.cell?_setCell_far, *]; done))) ((first | (go_at_call 17; refine (fmInfinite_any e f hg _).mono ?_; rintro rv w1 ⟨rfl, hb⟩; have ns : w.heap.size < w1.heap.size := hb.ltK; have n0 : w1.cell? ⟨w.heap.size, 0, none⟩ = some (.int .i64 e) := hb.cellK; have n1 : w1.cell? ⟨w.heap.size, 1, none⟩ = some (.int .i64 f) := hb.cellK; (first | (have nx := hx.trK hb; clear hx) | have nx := hb); clear hb; try clear hs; try clear g0; try clear g1; have hx := nx; clear nx; have hs := ns; clear ns; have g0 := n0; clear n0; have g1 := n1; clear n1)))
  go_wp2_with fail
  go_ret
  exact ⟨ret_int (by rw [Hk.out]), Ext.auK⟩

set_option maxHeartbeats 1600000 in
theorem noRounded_any (e f m : Int) (hg : goodB e f = true) (w : World) : Calls Tryz.prog 41 #[.agg #[], fmt e f, .int .i64 m] w fun rv w' => rv = .returned (.int .i64 (quV e f)) ∧ Ext w w' := by
  obtain ⟨h1, h2, h3, h4⟩ := good_iff.1 hg
  obtain ⟨⟨a1, a2⟩, ⟨b1, b2⟩, ⟨c1, c2⟩, hmul⟩ := pw_facts h1 h2 h3 h4
  have Hmul := Lib.hid hmul; clear hmul
  have q1 : pw (f - 1 + 1) = 2 * pw (f - 1) := pw_succ (f - 1) (by omega)
  rw [show f - 1 + 1 = f by omega] at q1
  have q2 := pw_pos (f - 1)
  have k1 : (2 : Int) ^ (f.toNat - 1) = pw (f - 1) := by unfold pw; congr 1; omega
  have q3 : pw (f - 1) ≤ 512 := pw_le 9 512 rfl (by omega)
  have k2 : IntKind.i64.wrap (f - 1) = f - 1 := IntWalk.i64_in _ (by omega)
  have k3 : min (f - 1).toNat 64 = (f - 1).toNat := by omega
  have k4 : min (f.toNat - 1) 64 = f.toNat - 1 := by omega
  have k5 := pw_of (f - 1)
  have k6 : IntKind.i64.wrap (pw (f - 1)) = pw (f - 1) := IntWalk.i64_in _ (by omega)
  have k7 : 0 ≤ f - 1 := by omega
  have Q1 := Lib.hid q1; clear q1
  have pc : ∀ w, Calls Tryz.prog 82 #[fmt e f, .agg #[.int .i64 0, .int .i64 (pw e - 1), .int .i64 (pw (f - 1))]] w fun rv w' => rv = .returned (.int .i64 (quV e f)) ∧ Ext w w' := by
    intro w
    have := patternOf_any e f 0 (pw e - 1) (pw (f - 1)) hg (by decide) (by decide) (by omega) (by omega) (by omega) (by have := Q1.out; omega) w
    unfold quV
    rwa [Int.zero_mul, Int.zero_add] at this
  have PC := Lib.hid pc; clear pc
  go_enter Tryz.func41, Tryz.ntmps41
  go_wp2_with fail
  go_region_held3 (fun w' => w'.cell? ⟨w.heap.size + 1, 0, none⟩ = some (.int .i64 e) ∧ w'.cell? ⟨w.heap.size + 1, 1, none⟩ = some (.int .i64 f) ∧ w.heap.size + 1 < w'.heap.size) ((refine ⟨?_, ?_, ?_⟩ <;> first | with_reducible assumption | ((rw [cell_setRow_far _ _ _ _ _ (by omega)]); with_reducible assumption) | ((rw [setRow_size]); with_reducible assumption) | ((repeat rw [World.cell?_setCell_far _ _ _ _ (by simp)]); with_reducible assumption) | (simp; done) | (simp [World.setCell]; first | done | omega) | (simp [go_sem, World.cell?_alloc_past, World.cell?_setCell_far, *]; done))) ((first | (go_at_call 83; refine (exponentOnes_any e f hg _).mono ?_; rintro rv w1 ⟨rfl, hb⟩; have ns : w.heap.size + 1 < w1.heap.size := hb.ltK; have n0 : w1.cell? ⟨w.heap.size + 1, 0, none⟩ = some (.int .i64 e) := hb.cellK; have n1 : w1.cell? ⟨w.heap.size + 1, 1, none⟩ = some (.int .i64 f) := hb.cellK; (first | (have nx := hx.trK hb; clear hx) | have nx := hb); clear hb; try clear hs; try clear g0; try clear g1; have hx := nx; clear nx; have hs := ns; clear ns; have g0 := n0; clear n0; have g1 := n1; clear n1) | (go_at_call 82; refine (PC.out _).mono ?_; rintro rv w1 ⟨rfl, hb⟩; have ns : w.heap.size + 1 < w1.heap.size := hb.ltK; have n0 : w1.cell? ⟨w.heap.size + 1, 0, none⟩ = some (.int .i64 e) := hb.cellK; have n1 : w1.cell? ⟨w.heap.size + 1, 1, none⟩ = some (.int .i64 f) := hb.cellK; (first | (have nx := hx.trK hb; clear hx) | have nx := hb); clear hb; try clear hs; try clear g0; try clear g1; have hx := nx; clear nx; have hs := ns; clear ns; have g0 := n0; clear n0; have g1 := n1; clear n1)))
  go_wp2_with fail
  go_ret
  exact ⟨rfl, Ext.auK⟩

theorem iQuietOf_yes (e f : Int) (hg : goodB e f = true) (w : World) : Calls Tryz.prog 23 #[fmt e f] w fun rv w' => rv = .returned (.tuple #[.int .i64 (quV e f), .bool true]) ∧ Ext w w' := by
  go_enter Tryz.func23, Tryz.ntmps23
  go_wp2_with (first | (go_at_call 22; refine (isFormat_any e f _).mono ?_; rintro rv w1 ⟨rfl, hb⟩; have ns : w.heap.size < w1.heap.size := hb.ltK; have n0 : w1.cell? ⟨w.heap.size, 0, none⟩ = some (.int .i64 e) := hb.cellK; have n1 : w1.cell? ⟨w.heap.size, 1, none⟩ = some (.int .i64 f) := hb.cellK; (first | (have nx := hx.trK hb; clear hx) | have nx := hb); clear hb; try clear hs; try clear g0; try clear g1; have hx := nx; clear nx; have hs := ns; clear ns; have g0 := n0; clear n0; have g1 := n1; clear n1) | (go_at_call 41; refine (noRounded_any e f 0 hg _).mono ?_; rintro rv w1 ⟨rfl, hb⟩; have ns : w.heap.size < w1.heap.size := hb.ltK; have n0 : w1.cell? ⟨w.heap.size, 0, none⟩ = some (.int .i64 e) := hb.cellK; have n1 : w1.cell? ⟨w.heap.size, 1, none⟩ = some (.int .i64 f) := hb.cellK; (first | (have nx := hx.trK hb; clear hx) | have nx := hb); clear hb; try clear hs; try clear g0; try clear g1; have hx := nx; clear nx; have hs := ns; clear ns; have g0 := n0; clear n0; have g1 := n1; clear n1))
  go_ret2
  exact ⟨rfl, Ext.auK⟩
end Go.Proofs.YtmddlbphanlfhaaGreatDoor

