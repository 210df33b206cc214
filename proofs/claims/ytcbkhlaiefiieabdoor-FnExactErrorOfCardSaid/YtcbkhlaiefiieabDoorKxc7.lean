/-
  Contracts of the functions that the laws reach, and the plain facts that they rest on, each under the conditions that its line names; part 7.
-/
import Derived.Test.YtcbkhlaiefiieabDoorKxc1
import Derived.Test.YtcbkhlaiefiieabDoorKxc2
import Derived.Test.YtcbkhlaiefiieabDoorKxc3
import Derived.Test.YtcbkhlaiefiieabDoorKxc4
import Derived.Test.YtcbkhlaiefiieabDoorKxc5
import Derived.Test.YtcbkhlaiefiieabDoorKxc6
import Derived.Test.YtcbkhlaiefiieabDoorRows
import Derived.WalkKit
import Derived.LoopTactic
import Derived.Laws.Bits64b
import Derived.WalkSpells
import Derived.WalkLawsBesides
import Derived.StillTactics
import Derived.Laws.Pointers
import Derived.Deep.RegionHeld3
import Derived.Deep.QuietTactic
import Derived.BigQuiet
import Derived.Outline
import Derived.Lib.Hide
import Derived.RowKit3
import Derived.Carry
import Derived.IntWalk
namespace Go.Proofs.YtcbkhlaiefiieabDoor
open Go Go.RowKit
set_option linter.unusedSimpArgs false
set_option linter.unusedVariables false

theorem l1Most_max (a b : Int) (w : World) : Calls Tryd.prog 115 #[.int .i64 a, .int .i64 b] w fun rv w' => rv = .returned (.int .i64 (max a b)) ∧ w = w' := by
  by_cases h : b < a
  all_goals
    go_enter Tryd.func115, Tryd.ntmps115
    go_wp2
    go_ret
    exact ⟨ret_int (by omega), rfl⟩

theorem l1Abs_nat (n : Int) (h1 : -9223372036854775808 < n) (h2 : n < 9223372036854775808) (w : World) : Calls Tryd.prog 79 #[.int .i64 n] w fun rv w' => rv = .returned (.int .i64 (n.natAbs : Int)) ∧ w = w' := by
  go_enter Tryd.func79, Tryd.ntmps79
  go_wp2_with (go_at_call 115; refine (l1Most_max _ _ _).mono ?_; rintro rv w1 ⟨rfl, rfl⟩)
  go_ret
  exact ⟨ret_int (by omega), rfl⟩

theorem rdSignOf_any (n : Int) (w : World) : Calls Tryd.prog 131 #[.int .i64 n] w fun rv w' => rv = .returned (.int .i64 (sgV n)) ∧ w = w' := by
  by_cases h1 : n < 0
  · have hk := sg_neg h1
    have Hk := Lib.hid hk; clear hk
    go_enter Tryd.func131, Tryd.ntmps131
    go_wp2
    go_ret
    exact ⟨ret_int Hk.out.symm, rfl⟩
  · by_cases h2 : 0 < n
    · have hk := sg_pos h2
      have Hk := Lib.hid hk; clear hk
      go_enter Tryd.func131, Tryd.ntmps131
      go_wp2
      go_ret
      exact ⟨ret_int Hk.out.symm, rfl⟩
    · have hk := sg_zero (show n = 0 by omega)
      have Hk := Lib.hid hk; clear hk
      go_enter Tryd.func131, Tryd.ntmps131
      go_wp2
      go_ret
      exact ⟨ret_int Hk.out.symm, rfl⟩

theorem rdPower_any (k : Int) (h1 : 0 ≤ k) (h2 : k ≤ 62) (w : World) : Calls Tryd.prog 96 #[.int .i64 k] w fun rv w' => rv = .returned (.int .i64 (pw k)) ∧ w = w' := by
  have k1 := pw_of k
  have k2 := pw_pos k
  have k3 := pw_le 62 4611686018427387904 rfl h2
  go_enter Tryd.func96, Tryd.ntmps96
  go_wp2
  go_ret
  exact ⟨rfl, rfl⟩

theorem rdBits_any (m : Int) (h1 : 0 ≤ m) (h2 : m < 9223372036854775808) (w : World) : Calls Tryd.prog 95 #[.int .i64 m] w fun rv w' => rv = .returned (.int .i64 (plV m)) ∧ w = w' := by
  go_enter Tryd.func95, Tryd.ntmps95
  go_wp2
  go_loop [0, 3] (fun n k => ∃ x y : Int, 0 ≤ x ∧ x ≤ m ∧ 0 ≤ y ∧ y ≤ 64 ∧ n = .int .i64 x ∧ k = .int .i64 y ∧ plV m = y + plV x) (fun n _ => (intOf n).toNat)
  case atStart => exact ⟨m, 0, h1, by omega, by decide, by decide, rfl, rfl, by omega⟩
  case round =>
    obtain ⟨x, y, x0, x1, y0, y1, rfl, rfl, he⟩ := hrel
    have He := Lib.hid he; clear he
    by_cases hx : 0 < x
    · have hp : plV x = 1 + plV (x / 2) := by
        unfold plV
        have := Lib.bitLen_half x.natAbs (by omega) (by omega)
        rw [show (x / 2).natAbs = x.natAbs / 2 by omega, this]
        omega
      have Hp := Lib.hid hp; clear hp
      have hn := pl_nn (x / 2)
      have hm := pl_le m 63 (by decide) (by decide) (by rw [show pw 63 = 9223372036854775808 from rfl]; omega)
      have hy : y + 1 ≤ 64 := by have := He.out; have := Hp.out; omega
      clear hn hm
      go_wp2
      go_round
      case rel => exact ⟨x / 2, y + 1, by omega, by omega, by omega, hy, by first | rfl | go_num, rfl, by have := He.out; have := Hp.out; omega⟩
      case measure => simp [intOf]; omega
    · have hz : x = 0 := by omega
      subst hz
      have he := He.out
      rw [pl_zero, Int.add_zero] at he
      have Hk := Lib.hid he; clear he He
      go_wp2
      go_ret
      exact ⟨ret_int Hk.out.symm, rfl⟩

theorem placesOf_any (n : Int) (h1 : -9223372036854775808 < n) (h2 : n < 9223372036854775808) (w : World) : Calls Tryd.prog 66 #[.int .i64 n] w fun rv w' => rv = .returned (.int .i64 (plV n)) ∧ w = w' := by
  have hk : (max n (-n)).toNat = n.natAbs := by omega
  have Hk := Lib.hid hk; clear hk
  go_enter Tryd.func66, Tryd.ntmps66
  go_wp2_with (go_at_call 98; refine (Tryd.bits_Len _ _ (by omega) (by omega)).mono ?_; rintro rv w1 ⟨rfl, rfl⟩)
  go_ret
  exact ⟨ret_int (by unfold plV; rw [← Hk.out]), rfl⟩

theorem compareInt_sg (x y : Int) : Lib.compareInt x y = sgV (x - y) := by
  unfold Lib.compareInt
  rcases Int.lt_trichotomy x y with h | h | h
  · rw [sg_neg (by omega)]; simp [h]
  · rw [sg_zero (by omega)]; simp [h]
  · rw [sg_pos (by omega)]; simp [h, Int.not_lt.2 (Int.le_of_lt h)]

theorem compare_sg (x y : Int) (w : World) : Calls Tryd.prog 125 #[.int .i64 x, .int .i64 y] w fun rv w' => rv = .returned (.int .i64 (sgV (x - y))) ∧ w = w' := by
  refine (Tryd.cmp_Compare_int x y w).mono ?_
  rintro rv w' ⟨rfl, rfl⟩
  exact ⟨ret_int (compareInt_sg x y), rfl⟩

theorem sg_bd (n : Int) : -1 ≤ sgV n ∧ sgV n ≤ 1 := by unfold sgV; split <;> (try split) <;> omega

theorem topOf_any (n d : Int) (hg : dyB n d = true) (w : World) : Calls Tryd.prog 126 #[two n d] w fun rv w' => rv = .returned (.int .i64 (topV n d)) ∧ Ext w w' := by
  obtain ⟨⟨h1, h2, h3, h4⟩, _⟩ := dy_iff.1 hg
  have p1 := (top_bd hg).2.2.1
  have p2 := (top_bd hg).2.2.2
  have b := sg_bd n
  have m1 : -251 ≤ sgV n * (100 + d + plV n) := (top_bd hg).1
  have m2 : sgV n * (100 + d + plV n) ≤ 251 := (top_bd hg).2.1
  have k1 : IntKind.i64.wrap (sgV n * (100 + d + plV n)) = sgV n * (100 + d + plV n) := IntWalk.i64_in _ (by omega)
  have k2 : sgV (n - 0) = sgV n := by rw [Int.sub_zero]
  go_enter Tryd.func126, Tryd.ntmps126
  go_wp2_with fail
  go_region_held3 (fun w' => w'.cell? ⟨w.heap.size, 0, none⟩ = some (.int .i64 n) ∧ w'.cell? ⟨w.heap.size, 1, none⟩ = some (.int .i64 d) ∧ w.heap.size < w'.heap.size) ((refine ⟨?_, ?_, ?_⟩ <;> first | with_reducible assumption | ((rw [cell_setRow_far _ _ _ _ _ (by omega)]); with_reducible assumption) | ((rw [setRow_size]); with_reducible assumption) | ((repeat rw [World.cell?_setCell_far _ _ _ _ (by simp)]); with_reducible assumption) | (simp; done) | (simp [World.setCell]; first | done | omega) | (simp [go_sem, World.cell?_alloc_past, World.cell?_setCell_far, *]; done))) ((first | (go_at_call 66; refine (placesOf_any n (by omega) (by omega) _).mono ?_; rintro rv w1 ⟨rfl, rfl⟩)))
  go_wp2_with (go_at_call 125; refine (compare_sg _ _ _).mono ?_; rintro rv w1 ⟨rfl, rfl⟩)
  go_ret
  exact ⟨ret_int (by unfold topV; first | rfl | (trace_state; rw [Int.sub_zero])), (by repeat (first | exact Ext.refl _ | with_reducible assumption | apply Ext.alloc | apply Ext.drew | apply Ext.drewN | (refine Ext.setRow ?_ (by first | (simp; done) | (simp; omega) | omega) _) | (refine Ext.setCell ?_ (by first | (simp; done) | (simp; omega) | omega) _) | (refine Ext.trans ?_ (by with_reducible assumption))))⟩
end Go.Proofs.YtcbkhlaiefiieabDoor

