/-
  Contracts of the functions that the laws reach, and the plain facts that they rest on, each under the conditions that its line names; part 7.
-/
import Derived.Test.YtfgbndjhaiigbaaGreatDoorKri1
import Derived.Test.YtfgbndjhaiigbaaGreatDoorKri2
import Derived.Test.YtfgbndjhaiigbaaGreatDoorKri3
import Derived.Test.YtfgbndjhaiigbaaGreatDoorKri4
import Derived.Test.YtfgbndjhaiigbaaGreatDoorKri5
import Derived.Test.YtfgbndjhaiigbaaGreatDoorKri6
import Derived.Test.YtfgbndjhaiigbaaGreatDoorRows
import Derived.WalkKit
import Derived.LoopTactic
import Derived.Laws.Bits64b
import Derived.WalkSpells
import Derived.WalkLawsBesides
import Derived.StillTactics
import Derived.Laws.Pointers
import Derived.Deep.RegionHeld3
import Derived.Deep.QuietTactic
import Derived.BigQuiet
import Derived.Outline
import Derived.Lib.Hide
import Derived.RowKit3
import Derived.Carry
import Derived.IntWalk
namespace Go.Proofs.YtfgbndjhaiigbaaGreatDoor
open Go Go.RowKit
set_option linter.unusedSimpArgs false
set_option linter.unusedVariables false

theorem rdSignOf_any (n : Int) (w : World) : Calls Tryz.prog 144 #[.int .i64 n] w fun rv w' => rv = .returned (.int .i64 (sgV n)) ∧ w = w' := by
  by_cases h1 : n < 0
  · have hk := sg_neg h1
    have Hk := Lib.hid hk; clear hk
    go_enter Tryz.func144, Tryz.ntmps144
    go_wp2
    go_ret
    exact ⟨ret_int Hk.out.symm, rfl⟩
  · by_cases h2 : 0 < n
    · have hk := sg_pos h2
      have Hk := Lib.hid hk; clear hk
      go_enter Tryz.func144, Tryz.ntmps144
      go_wp2
      go_ret
      exact ⟨ret_int Hk.out.symm, rfl⟩
    · have hk := sg_zero (show n = 0 by omega)
      have Hk := Lib.hid hk; clear hk
      go_enter Tryz.func144, Tryz.ntmps144
      go_wp2
      go_ret
      exact ⟨ret_int Hk.out.symm, rfl⟩

theorem rdPower_any (k : Int) (h1 : 0 ≤ k) (h2 : k ≤ 62) (w : World) : Calls Tryz.prog 101 #[.int .i64 k] w fun rv w' => rv = .returned (.int .i64 (pw k)) ∧ w = w' := by
  have k1 := pw_of k
  have k2 := pw_pos k
  have k3 := pw_le 62 4611686018427387904 rfl h2
  go_enter Tryz.func101, Tryz.ntmps101
  go_wp2
  go_ret
  exact ⟨rfl, rfl⟩

theorem rdBits_any (m : Int) (h1 : 0 ≤ m) (h2 : m < 9223372036854775808) (w : World) : Calls Tryz.prog 100 #[.int .i64 m] w fun rv w' => rv = .returned (.int .i64 (plV m)) ∧ w = w' := by
  go_enter Tryz.func100, Tryz.ntmps100
  go_wp2
  go_loop [0, 3] (fun n k => ∃ x y : Int, 0 ≤ x ∧ x ≤ m ∧ 0 ≤ y ∧ y ≤ 64 ∧ n = .int .i64 x ∧ k = .int .i64 y ∧ plV m = y + plV x) (fun n _ => (intOf n).toNat)
  case atStart => exact ⟨m, 0, h1, by omega, by decide, by decide, rfl, rfl, by omega⟩
  case round =>
    obtain ⟨x, y, x0, x1, y0, y1, rfl, rfl, he⟩ := hrel
    have He := Lib.hid he; clear he
    by_cases hx : 0 < x
    · have hp : plV x = 1 + plV (x / 2) := by
        unfold plV
        have := Lib.bitLen_half x.natAbs (by omega) (by omega)
        rw [show (x / 2).natAbs = x.natAbs / 2 by omega, this]
        omega
      have Hp := Lib.hid hp; clear hp
      have hn := pl_nn (x / 2)
      have hm := pl_le m 63 (by decide) (by decide) (by rw [show pw 63 = 9223372036854775808 from rfl]; omega)
      have hy : y + 1 ≤ 64 := by have := He.out; have := Hp.out; omega
      clear hn hm
      go_wp2
      go_round
      case rel => exact ⟨x / 2, y + 1, by omega, by omega, by omega, hy, by first | rfl | go_num, rfl, by have := He.out; have := Hp.out; omega⟩
      case measure => simp [intOf]; omega
    · have hz : x = 0 := by omega
      subst hz
      have he := He.out
      rw [pl_zero, Int.add_zero] at he
      have Hk := Lib.hid he; clear he He
      go_wp2
      go_ret
      exact ⟨ret_int Hk.out.symm, rfl⟩

theorem placesOf_any (n : Int) (h1 : -9223372036854775808 < n) (h2 : n < 9223372036854775808) (w : World) : Calls Tryz.prog 190 #[.int .i64 n] w fun rv w' => rv = .returned (.int .i64 (plV n)) ∧ w = w' := by
  have hk : (max n (-n)).toNat = n.natAbs := by omega
  have Hk := Lib.hid hk; clear hk
  go_enter Tryz.func190, Tryz.ntmps190
  go_wp2_with (go_at_call 195; refine (Tryz.bits_Len _ _ (by omega) (by omega)).mono ?_; rintro rv w1 ⟨rfl, rfl⟩)
  go_ret
  exact ⟨ret_int (by unfold plV; rw [← Hk.out]), rfl⟩

theorem compareInt_sg (x y : Int) : Lib.compareInt x y = sgV (x - y) := by
  unfold Lib.compareInt
  rcases Int.lt_trichotomy x y with h | h | h
  · rw [sg_neg (by omega)]; simp [h]
  · rw [sg_zero (by omega)]; simp [h]
  · rw [sg_pos (by omega)]; simp [h, Int.not_lt.2 (Int.le_of_lt h)]

theorem compare_sg (x y : Int) (w : World) : Calls Tryz.prog 157 #[.int .i64 x, .int .i64 y] w fun rv w' => rv = .returned (.int .i64 (sgV (x - y))) ∧ w = w' := by
  refine (Tryz.cmp_Compare_int x y w).mono ?_
  rintro rv w' ⟨rfl, rfl⟩
  exact ⟨ret_int (compareInt_sg x y), rfl⟩

theorem sg_bd (n : Int) : -1 ≤ sgV n ∧ sgV n ≤ 1 := by unfold sgV; split <;> (try split) <;> omega
end Go.Proofs.YtfgbndjhaiigbaaGreatDoor

namespace Go.Proofs.YtfgbndjhaiigbaaGreatDoor
open Go Go.RowKit
set_option linter.unusedSimpArgs false
set_option linter.unusedVariables false

theorem rdShort_zero (d : Int) (w : World) : Calls Tryz.prog 130 #[.int .i64 0, .int .i64 d] w fun rv w' => rv = .returned (two 0 0) ∧ Ext w w' := by
  go_enter Tryz.func130, Tryz.ntmps130
  go_wp2
  exact bodyPost_ret (v := two 0 0) (by simp [results, Tryz.results130, go_sem, *]) rfl ⟨rfl, Ext.auK⟩

theorem tdiv_half (n : Int) (h : n % 2 = 0) : n.tdiv 2 = n / 2 := by
  obtain ⟨m, rfl⟩ : ∃ m, n = m * 2 := ⟨n / 2, by omega⟩
  rw [Int.mul_tdiv_cancel _ (by decide), Int.mul_ediv_cancel _ (by decide)]

set_option maxHeartbeats 800000 in
theorem rdShort_yes (n d : Int) (h0 : n ≠ 0) (h1 : -9223372036854775808 < n) (h2 : n < 9223372036854775808) (h3 : -1000000 ≤ d) (h4 : d ≤ 1000000) (w : World) : Calls Tryz.prog 130 #[.int .i64 n, .int .i64 d] w fun rv w' => rv = .returned (two (odV n) (d + tzV n)) ∧ Ext w w' := by
  have kz : (n == 0) = false := by simpa using h0
  go_enter Tryz.func130, Tryz.ntmps130
  go_wp2
  go_loop [0, 1] (fun x y => ∃ m j : Int, m ≠ 0 ∧ 0 ≤ j ∧ j ≤ 63 ∧ -9223372036854775808 < m ∧ m < 9223372036854775808 ∧ x = .int .i64 m ∧ y = .int .i64 (d + j) ∧ n = m * pw j) (fun x _ => (intOf x).natAbs)
  case atStart => exact ⟨n, 0, h0, by decide, by decide, h1, h2, rfl, by rw [Int.add_zero], (Int.mul_one n).symm⟩
  case round =>
    obtain ⟨m, j, m0, j0, j1, m1, m2, rfl, rfl, he⟩ := hrel
    have k := tmod_two m
    by_cases hm : m % 2 = 0
    · have k2 : (m.tmod 2 == 0) = true := by rw [k]; simpa using hm
      have k4 := tdiv_half m hm
      have he2 : n = m / 2 * pw (j + 1) := by
        rw [pw_succ j j0, ← Int.mul_assoc, show m / 2 * 2 = m by omega]; exact he
      have j2 : j + 1 ≤ 63 := by
        apply Int.le_of_not_gt
        intro hg
        have e63 : j = 63 := by omega
        subst e63
        have e1 : pw 63 = 9223372036854775808 := rfl
        rw [e1] at he
        rcases Int.lt_or_gt_of_ne m0 with g | g <;> omega
      have He := Lib.hid he2; clear he he2 k kz
      have j3 : IntKind.i64.wrap (d + j + 1) = d + (j + 1) := by rw [IntWalk.i64_in _ (by omega)]; omega
      go_wp2
      go_round
      case rel => exact ⟨m / 2, j + 1, by omega, by omega, j2, by omega, by omega, by first | rfl | (rw [k4]), by first | rfl | (rw [Int.add_assoc]), He.out⟩
      case measure => simp [intOf]; omega
    · have k2 : (m.tmod 2 == 0) = false := by rw [k]; simpa using hm
      obtain ⟨t1, t2⟩ := tz_of n m j j0 (by omega) he h1 h2
      have T1 := Lib.hid t1; have T2 := Lib.hid t2; clear t1 t2 he k kz
      have q := buildDy m (d + j)
      go_wp2
      exact bodyPost_ret (v := two m (d + j)) (by simp [results, Tryz.results130, go_sem, *]) rfl ⟨by rw [T1.out, T2.out], Ext.auK⟩

theorem rdShort_any (n d : Int) (h1 : -9223372036854775808 < n) (h2 : n < 9223372036854775808) (h3 : -1000000 ≤ d) (h4 : d ≤ 1000000) (w : World) : Calls Tryz.prog 130 #[.int .i64 n, .int .i64 d] w fun rv w' => rv = .returned (two (odV n) (shE n d)) ∧ Ext w w' := by
  by_cases h0 : n = 0
  · subst h0
    rw [od_zero, show shE 0 d = 0 from rfl]
    exact rdShort_zero d w
  · have := rdShort_yes n d h0 h1 h2 h3 h4 w
    rwa [show shE n d = d + tzV n from if_neg h0]
end Go.Proofs.YtfgbndjhaiigbaaGreatDoor

namespace Go.Proofs.YtfgbndjhaiigbaaGreatDoor
open Go Go.RowKit
set_option linter.unusedSimpArgs false
set_option linter.unusedVariables false

/-- The quiet pattern. -/
def quV (e f : Int) : Int := (pw e - 1) * pw f + pw (f - 1)

theorem arQuiet_any (e f : Int) (hg : goodB e f = true) (w : World) : Calls Tryz.prog 80 #[fmt e f] w fun rv w' => rv = .returned (.int .i64 (quV e f)) ∧ Ext w w' := by
  obtain ⟨h1, h2, h3, h4⟩ := good_iff.1 hg
  obtain ⟨⟨a1, a2⟩, ⟨b1, b2⟩, ⟨c1, c2⟩, hmul⟩ := pw_facts h1 h2 h3 h4
  have Hmul := Lib.hid hmul; clear hmul
  have q1 : pw (f - 1 + 1) = 2 * pw (f - 1) := pw_succ (f - 1) (by omega)
  rw [show f - 1 + 1 = f by omega] at q1
  have q2 := pw_pos (f - 1)
  have k1 : (2 : Int) ^ (f.toNat - 1) = pw (f - 1) := by unfold pw; congr 1; omega
  have q3 : pw (f - 1) ≤ 512 := pw_le 9 512 rfl (by omega)
  have k2 : IntKind.i64.wrap (f - 1) = f - 1 := IntWalk.i64_in _ (by omega)
  have k3 : min (f - 1).toNat 64 = (f - 1).toNat := by omega
  have k4 : min (f.toNat - 1) 64 = f.toNat - 1 := by omega
  have k5 := pw_of (f - 1)
  have k6 : IntKind.i64.wrap (pw (f - 1)) = pw (f - 1) := IntWalk.i64_in _ (by omega)
  have k7 : 0 ≤ f - 1 := by omega
  have Q1 := Lib.hid q1; clear q1
  have m0 : 0 ≤ (pw e - 1) * pw f := Int.mul_nonneg (by omega) (by omega)
  have m1 : (pw e - 1) * pw f ≤ 31 * pw f := Int.mul_le_mul_of_nonneg_right (by omega) (by omega)
  have kq : IntKind.i64.wrap ((pw e - 1) * pw f + pw (f - 1)) = (pw e - 1) * pw f + pw (f - 1) := IntWalk.i64_in _ (by omega)
  have hk : quV e f = (pw e - 1) * pw f + pw (f - 1) := rfl
  have Hk := Lib.hid hk; clear hk
  go_enter Tryz.func80, Tryz.ntmps80
  go_wp2_with fail
  go_region_held3 (fun w' => w'.cell? ⟨w.heap.size, 0, none⟩ = some (.int .i64 e) ∧ w'.cell? ⟨w.heap.size, 1, none⟩ = some (.int .i64 f) ∧ w.heap.size < w'.heap.size) ((refine ⟨?_, ?_, ?_⟩ <;> first | with_reducible assumption | ((rw [cell_setRow_far _ _ _ _ _ (by omega)]); with_reducible assumption) | ((rw [setRow_size]); with_reducible assumption) | ((repeat rw [World.cell?_setCell_far _ _ _ _ (by simp)]); with_reducible assumption) | (simp; done) | (simp [World.setCell]; first | done | omega) | (simp [go_sem, World.cell?_alloc_past, World.cell?_setCell_far, *]; done))) ((first | (go_at_call 97; refine (fmInfinite_any e f hg _).mono ?_; rintro rv w1 ⟨rfl, hb⟩; have ns : w.heap.size < w1.heap.size := hb.ltK; have n0 : w1.cell? ⟨w.heap.size, 0, none⟩ = some (.int .i64 e) := hb.cellK; have n1 : w1.cell? ⟨w.heap.size, 1, none⟩ = some (.int .i64 f) := hb.cellK; (first | (have nx := Ext.trans hx hb; clear hx) | (have nx := Ext.trans (hx.alloc _) hb; clear hx) | (have nx := Ext.trans hx.drew hb; clear hx) | have nx := hb); clear hb; try clear hs; try clear g0; try clear g1; have hx := nx; clear nx; have hs := ns; clear ns; have g0 := n0; clear n0; have g1 := n1; clear n1)))
  go_wp2_with fail
  go_ret
  exact ⟨ret_int (by rw [Hk.out]), Ext.auK⟩

set_option maxHeartbeats 1600000 in
theorem noRounded_any (e f m : Int) (hg : goodB e f = true) (w : World) : Calls Tryz.prog 226 #[.agg #[], fmt e f, .int .i64 m] w fun rv w' => rv = .returned (.int .i64 (quV e f)) ∧ Ext w w' := by
  obtain ⟨h1, h2, h3, h4⟩ := good_iff.1 hg
  obtain ⟨⟨a1, a2⟩, ⟨b1, b2⟩, ⟨c1, c2⟩, hmul⟩ := pw_facts h1 h2 h3 h4
  have Hmul := Lib.hid hmul; clear hmul
  have q1 : pw (f - 1 + 1) = 2 * pw (f - 1) := pw_succ (f - 1) (by omega)
  rw [show f - 1 + 1 = f by omega] at q1
  have q2 := pw_pos (f - 1)
  have k1 : (2 : Int) ^ (f.toNat - 1) = pw (f - 1) := by unfold pw; congr 1; omega
  have q3 : pw (f - 1) ≤ 512 := pw_le 9 512 rfl (by omega)
  have k2 : IntKind.i64.wrap (f - 1) = f - 1 := IntWalk.i64_in _ (by omega)
  have k3 : min (f - 1).toNat 64 = (f - 1).toNat := by omega
  have k4 : min (f.toNat - 1) 64 = f.toNat - 1 := by omega
  have k5 := pw_of (f - 1)
  have k6 : IntKind.i64.wrap (pw (f - 1)) = pw (f - 1) := IntWalk.i64_in _ (by omega)
  have k7 : 0 ≤ f - 1 := by omega
  have Q1 := Lib.hid q1; clear q1
  have pc : ∀ w, Calls Tryz.prog 180 #[fmt e f, .agg #[.int .i64 0, .int .i64 (pw e - 1), .int .i64 (pw (f - 1))]] w fun rv w' => rv = .returned (.int .i64 (quV e f)) ∧ Ext w w' := by
    intro w
    have := patternOf_any e f 0 (pw e - 1) (pw (f - 1)) hg (by decide) (by decide) (by omega) (by omega) (by omega) (by have := Q1.out; omega) w
    unfold quV
    rwa [Int.zero_mul, Int.zero_add] at this
  have PC := Lib.hid pc; clear pc
  go_enter Tryz.func226, Tryz.ntmps226
  go_wp2_with fail
  go_region_held3 (fun w' => w'.cell? ⟨w.heap.size + 1, 0, none⟩ = some (.int .i64 e) ∧ w'.cell? ⟨w.heap.size + 1, 1, none⟩ = some (.int .i64 f) ∧ w.heap.size + 1 < w'.heap.size) ((refine ⟨?_, ?_, ?_⟩ <;> first | with_reducible assumption | ((rw [cell_setRow_far _ _ _ _ _ (by omega)]); with_reducible assumption) | ((rw [setRow_size]); with_reducible assumption) | ((repeat rw [World.cell?_setCell_far _ _ _ _ (by simp)]); with_reducible assumption) | (simp; done) | (simp [World.setCell]; first | done | omega) | (simp [go_sem, World.cell?_alloc_past, World.cell?_setCell_far, *]; done))) ((first | (go_at_call 163; refine (exponentOnes_any e f hg _).mono ?_; rintro rv w1 ⟨rfl, hb⟩; have ns : w.heap.size + 1 < w1.heap.size := hb.ltK; have n0 : w1.cell? ⟨w.heap.size + 1, 0, none⟩ = some (.int .i64 e) := hb.cellK; have n1 : w1.cell? ⟨w.heap.size + 1, 1, none⟩ = some (.int .i64 f) := hb.cellK; (first | (have nx := Ext.trans hx hb; clear hx) | (have nx := Ext.trans (hx.alloc _) hb; clear hx) | (have nx := Ext.trans hx.drew hb; clear hx) | have nx := hb); clear hb; try clear hs; try clear g0; try clear g1; have hx := nx; clear nx; have hs := ns; clear ns; have g0 := n0; clear n0; have g1 := n1; clear n1) | (go_at_call 180; refine (PC.out _).mono ?_; rintro rv w1 ⟨rfl, hb⟩; have ns : w.heap.size + 1 < w1.heap.size := hb.ltK; have n0 : w1.cell? ⟨w.heap.size + 1, 0, none⟩ = some (.int .i64 e) := hb.cellK; have n1 : w1.cell? ⟨w.heap.size + 1, 1, none⟩ = some (.int .i64 f) := hb.cellK; (first | (have nx := Ext.trans hx hb; clear hx) | (have nx := Ext.trans (hx.alloc _) hb; clear hx) | (have nx := Ext.trans hx.drew hb; clear hx) | have nx := hb); clear hb; try clear hs; try clear g0; try clear g1; have hx := nx; clear nx; have hs := ns; clear ns; have g0 := n0; clear n0; have g1 := n1; clear n1)))
  go_wp2_with fail
  go_ret
  exact ⟨rfl, Ext.auK⟩
end Go.Proofs.YtfgbndjhaiigbaaGreatDoor

