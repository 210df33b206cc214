/-
  Contracts of the functions that the laws reach, and the plain facts that they rest on, each under the conditions that its line names; part 7.
-/
import Derived.Test.YtfgbndjhaiigbabDoorKyb1
import Derived.Test.YtfgbndjhaiigbabDoorKyb2
import Derived.Test.YtfgbndjhaiigbabDoorKyb3
import Derived.Test.YtfgbndjhaiigbabDoorKyb4
import Derived.Test.YtfgbndjhaiigbabDoorKyb5
import Derived.Test.YtfgbndjhaiigbabDoorKyb6
import Derived.Test.YtfgbndjhaiigbabDoorRows
import Derived.WalkKit
import Derived.LoopTactic
import Derived.Laws.Bits64b
import Derived.WalkSpells
import Derived.WalkLawsBesides
import Derived.StillTactics
import Derived.Laws.Pointers
import Derived.Deep.RegionHeld3
import Derived.Deep.QuietTactic
import Derived.BigQuiet
import Derived.Outline
import Derived.Lib.Hide
import Derived.RowKit3
import Derived.Carry
import Derived.IntWalk
namespace Go.Proofs.YtfgbndjhaiigbabDoor
open Go Go.RowKit
set_option linter.unusedSimpArgs false
set_option linter.unusedVariables false

theorem l1Most_max (a b : Int) (w : World) : Calls Tryd.prog 66 #[.int .i64 a, .int .i64 b] w fun rv w' => rv = .returned (.int .i64 (max a b)) ∧ w = w' := by
  by_cases h : b < a
  all_goals
    go_enter Tryd.func66, Tryd.ntmps66
    go_wp2
    go_ret
    exact ⟨ret_int (by omega), rfl⟩

theorem l1Abs_nat (n : Int) (h1 : -9223372036854775808 < n) (h2 : n < 9223372036854775808) (w : World) : Calls Tryd.prog 41 #[.int .i64 n] w fun rv w' => rv = .returned (.int .i64 (n.natAbs : Int)) ∧ w = w' := by
  go_enter Tryd.func41, Tryd.ntmps41
  go_wp2_with (go_at_call 66; refine (l1Most_max _ _ _).mono ?_; rintro rv w1 ⟨rfl, rfl⟩)
  go_ret
  exact ⟨ret_int (by omega), rfl⟩

theorem rdSignOf_any (n : Int) (w : World) : Calls Tryd.prog 58 #[.int .i64 n] w fun rv w' => rv = .returned (.int .i64 (sgV n)) ∧ w = w' := by
  by_cases h1 : n < 0
  · have hk := sg_neg h1
    have Hk := Lib.hid hk; clear hk
    go_enter Tryd.func58, Tryd.ntmps58
    go_wp2
    go_ret
    exact ⟨ret_int Hk.out.symm, rfl⟩
  · by_cases h2 : 0 < n
    · have hk := sg_pos h2
      have Hk := Lib.hid hk; clear hk
      go_enter Tryd.func58, Tryd.ntmps58
      go_wp2
      go_ret
      exact ⟨ret_int Hk.out.symm, rfl⟩
    · have hk := sg_zero (show n = 0 by omega)
      have Hk := Lib.hid hk; clear hk
      go_enter Tryd.func58, Tryd.ntmps58
      go_wp2
      go_ret
      exact ⟨ret_int Hk.out.symm, rfl⟩

theorem placesOf_any (n : Int) (h1 : -9223372036854775808 < n) (h2 : n < 9223372036854775808) (w : World) : Calls Tryd.prog 173 #[.int .i64 n] w fun rv w' => rv = .returned (.int .i64 (plV n)) ∧ w = w' := by
  have hk : (max n (-n)).toNat = n.natAbs := by omega
  have Hk := Lib.hid hk; clear hk
  go_enter Tryd.func173, Tryd.ntmps173
  go_wp2_with (go_at_call 185; refine (Tryd.bits_Len _ _ (by omega) (by omega)).mono ?_; rintro rv w1 ⟨rfl, rfl⟩)
  go_ret
  exact ⟨ret_int (by unfold plV; rw [← Hk.out]), rfl⟩

theorem compareInt_sg (x y : Int) : Lib.compareInt x y = sgV (x - y) := by
  unfold Lib.compareInt
  rcases Int.lt_trichotomy x y with h | h | h
  · rw [sg_neg (by omega)]; simp [h]
  · rw [sg_zero (by omega)]; simp [h]
  · rw [sg_pos (by omega)]; simp [h, Int.not_lt.2 (Int.le_of_lt h)]

theorem compare_sg (x y : Int) (w : World) : Calls Tryd.prog 59 #[.int .i64 x, .int .i64 y] w fun rv w' => rv = .returned (.int .i64 (sgV (x - y))) ∧ w = w' := by
  refine (Tryd.cmp_Compare_int x y w).mono ?_
  rintro rv w' ⟨rfl, rfl⟩
  exact ⟨ret_int (compareInt_sg x y), rfl⟩

theorem sg_bd (n : Int) : -1 ≤ sgV n ∧ sgV n ≤ 1 := by unfold sgV; split <;> (try split) <;> omega
end Go.Proofs.YtfgbndjhaiigbabDoor

namespace Go.Proofs.YtfgbndjhaiigbabDoor
open Go Go.RowKit
set_option linter.unusedSimpArgs false
set_option linter.unusedVariables false

theorem rdShort_zero (d : Int) (w : World) : Calls Tryd.prog 47 #[.int .i64 0, .int .i64 d] w fun rv w' => rv = .returned (two 0 0) ∧ Ext w w' := by
  go_enter Tryd.func47, Tryd.ntmps47
  go_wp2
  exact bodyPost_ret (v := two 0 0) (by simp [results, Tryd.results47, go_sem, *]) rfl ⟨rfl, (by repeat (first | exact Ext.refl _ | with_reducible assumption | apply Ext.alloc | apply Ext.drew | apply Ext.drewN | (refine Ext.setRow ?_ (by first | (simp; done) | (simp; omega) | omega) _) | (refine Ext.setCell ?_ (by first | (simp; done) | (simp; omega) | omega) _) | (refine Ext.trans ?_ (by with_reducible assumption))))⟩

theorem tdiv_half (n : Int) (h : n % 2 = 0) : n.tdiv 2 = n / 2 := by
  obtain ⟨m, rfl⟩ : ∃ m, n = m * 2 := ⟨n / 2, by omega⟩
  rw [Int.mul_tdiv_cancel _ (by decide), Int.mul_ediv_cancel _ (by decide)]

set_option maxHeartbeats 800000 in
theorem rdShort_yes (n d : Int) (h0 : n ≠ 0) (h1 : -9223372036854775808 < n) (h2 : n < 9223372036854775808) (h3 : -1000000 ≤ d) (h4 : d ≤ 1000000) (w : World) : Calls Tryd.prog 47 #[.int .i64 n, .int .i64 d] w fun rv w' => rv = .returned (two (odV n) (d + tzV n)) ∧ Ext w w' := by
  have kz : (n == 0) = false := by simpa using h0
  go_enter Tryd.func47, Tryd.ntmps47
  go_wp2
  go_loop [0, 1] (fun x y => ∃ m j : Int, m ≠ 0 ∧ 0 ≤ j ∧ j ≤ 63 ∧ -9223372036854775808 < m ∧ m < 9223372036854775808 ∧ x = .int .i64 m ∧ y = .int .i64 (d + j) ∧ n = m * pw j) (fun x _ => (intOf x).natAbs)
  case atStart => exact ⟨n, 0, h0, by decide, by decide, h1, h2, rfl, by rw [Int.add_zero], (Int.mul_one n).symm⟩
  case round =>
    obtain ⟨m, j, m0, j0, j1, m1, m2, rfl, rfl, he⟩ := hrel
    have k := tmod_two m
    by_cases hm : m % 2 = 0
    · have k2 : (m.tmod 2 == 0) = true := by rw [k]; simpa using hm
      have k4 := tdiv_half m hm
      have he2 : n = m / 2 * pw (j + 1) := by
        rw [pw_succ j j0, ← Int.mul_assoc, show m / 2 * 2 = m by omega]; exact he
      have j2 : j + 1 ≤ 63 := by
        apply Int.le_of_not_gt
        intro hg
        have e63 : j = 63 := by omega
        subst e63
        have e1 : pw 63 = 9223372036854775808 := rfl
        rw [e1] at he
        rcases Int.lt_or_gt_of_ne m0 with g | g <;> omega
      have He := Lib.hid he2; clear he he2 k kz
      have j3 : IntKind.i64.wrap (d + j + 1) = d + (j + 1) := by rw [IntWalk.i64_in _ (by omega)]; omega
      go_wp2
      go_round
      case rel => exact ⟨m / 2, j + 1, by omega, by omega, j2, by omega, by omega, by first | rfl | (rw [k4]), by first | rfl | (rw [Int.add_assoc]), He.out⟩
      case measure => simp [intOf]; omega
    · have k2 : (m.tmod 2 == 0) = false := by rw [k]; simpa using hm
      obtain ⟨t1, t2⟩ := tz_of n m j j0 (by omega) he h1 h2
      have T1 := Lib.hid t1; have T2 := Lib.hid t2; clear t1 t2 he k kz
      have q := buildDy m (d + j)
      go_wp2
      exact bodyPost_ret (v := two m (d + j)) (by simp [results, Tryd.results47, go_sem, *]) rfl ⟨by rw [T1.out, T2.out], (by repeat (first | exact Ext.refl _ | with_reducible assumption | apply Ext.alloc | apply Ext.drew | apply Ext.drewN | (refine Ext.setRow ?_ (by first | (simp; done) | (simp; omega) | omega) _) | (refine Ext.setCell ?_ (by first | (simp; done) | (simp; omega) | omega) _) | (refine Ext.trans ?_ (by with_reducible assumption))))⟩

theorem rdShort_any (n d : Int) (h1 : -9223372036854775808 < n) (h2 : n < 9223372036854775808) (h3 : -1000000 ≤ d) (h4 : d ≤ 1000000) (w : World) : Calls Tryd.prog 47 #[.int .i64 n, .int .i64 d] w fun rv w' => rv = .returned (two (odV n) (shE n d)) ∧ Ext w w' := by
  by_cases h0 : n = 0
  · subst h0
    rw [od_zero, show shE 0 d = 0 from rfl]
    exact rdShort_zero d w
  · have := rdShort_yes n d h0 h1 h2 h3 h4 w
    rwa [show shE n d = d + tzV n from if_neg h0]
end Go.Proofs.YtfgbndjhaiigbabDoor

