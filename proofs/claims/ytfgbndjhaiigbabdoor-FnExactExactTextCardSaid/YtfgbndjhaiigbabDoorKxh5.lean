/-
  Contracts of the functions that the laws reach, and the plain facts that they rest on, each under the conditions that its line names; part 5.
-/
import Derived.Test.YtfgbndjhaiigbabDoorKxh1
import Derived.Test.YtfgbndjhaiigbabDoorKxh3
import Derived.Test.YtfgbndjhaiigbabDoorKxh4
import Derived.Test.YtfgbndjhaiigbabDoorRows
import Derived.WalkKit
import Derived.WalkSpells
import Derived.WalkLawsBesides
import Derived.StillTactics
import Derived.Laws.Pointers
import Derived.Deep.RegionHeld3
import Derived.Deep.QuietTactic
import Derived.BigQuiet
import Derived.Outline
import Derived.Lib.Hide
import Derived.RowKit3
import Derived.Carry
import Derived.IntWalk
namespace Go.Proofs.YtfgbndjhaiigbabDoor
open Go Go.RowKit
set_option linter.unusedSimpArgs false
set_option linter.unusedVariables false

abbrev two (n d : Int) : Value := .agg #[.int .i64 n, .int .i64 d]

theorem eqDy (a b c d : Int) (w : World) : (Op.equalIn 10000 31 (two a b) (two c d)).run Tryd.prog w = .ok (a == c && b == d) w := by
  have u3 := Tryd.underlying3
  have a3 := Tryd.isAgg3
  have z3 := Tryd.sizeOf3
  have hS : Tryd.prog.underlying 31 = some (.struct (Tryd.prog.fieldsOf 31)) := by kernel_rfl
  rw [show (10000 : Nat) = 9999 + 1 from rfl, run_equalIn_agg w 9999 31 _ _ hS (by kernel_rfl)]
  simp only [Program.fieldsOf, Tryd.underlying31]
  go_simp
  by_cases h1 : a = c <;> by_cases h2 : b = d <;> simp [h1, h2]

theorem tmod_two (n : Int) : (n.tmod 2 == 0) = (n % 2 == 0) := by
  have h1 : n.tmod 2 = 0 ↔ (2 : Int) ∣ n := ⟨Int.dvd_of_tmod_eq_zero, Int.tmod_eq_zero_of_dvd⟩
  have h2 : n % 2 = 0 ↔ (2 : Int) ∣ n := ⟨Int.dvd_of_emod_eq_zero, Int.emod_eq_zero_of_dvd⟩
  rw [Bool.eq_iff_iff, beq_iff_eq, beq_iff_eq, h1, h2]

theorem isSizeAtMost_any (n m : Int) (hm0 : 0 ≤ m) (hm1 : m ≤ 1125899906842624) (w : World) : Calls Tryd.prog 118 #[.int .i64 n, .int .i64 m] w fun rv w' => rv = .returned (.bool (decide (-m ≤ n ∧ n ≤ m))) ∧ w = w' := by
  by_cases h1 : -m ≤ n <;> by_cases h2 : n ≤ m
  all_goals
    go_enter Tryd.func118, Tryd.ntmps118
    go_wp2
    go_ret
    exact ⟨ret_bool (by first | (simp [h1, h2]; done) | (simp [h1, h2]; trace_state; omega)), rfl⟩

theorem iIsDyadic_any (n d : Int) (w : World) : Calls Tryd.prog 103 #[two n d] w fun rv w' => rv = .returned (.bool (dyB n d)) ∧ Ext w w' := by
  have k := tmod_two n
  have q := eqDy n d 0 0
  have kz : ∀ w, (Instr.build 31 #[]).run Tryd.prog w = .ok (two 0 0) w := fun w => run_build w _ _ _ (by kernel_rfl)
  by_cases h0 : n = 0 ∧ d = 0
  · obtain ⟨rfl, rfl⟩ := h0
    go_enter Tryd.func103, Tryd.ntmps103
    go_wp2
    go_ret
    exact ⟨rfl, Ext.auK⟩
  · have k0 : (n == 0 && d == 0) = false := by simp; omega
    rw [k0] at q
    by_cases h3 : n % 2 = 0
    · have k2 : (n.tmod 2 != 0) = false := by rw [bne, k]; simpa using h3
      clear k
      go_enter Tryd.func103, Tryd.ntmps103
      go_wp2_with (go_at_call 118; refine (isSizeAtMost_any _ _ (by omega) (by omega) _).mono ?_; rintro rv w1 ⟨rfl, rfl⟩)
      go_ret
      exact ⟨ret_bool (by rw [Bool.eq_iff_iff, dy_iff]; simp; omega), Ext.auK⟩
    · have k2 : (n.tmod 2 != 0) = true := by rw [bne, k]; simpa using h3
      clear k
      by_cases h1 : -1125899906842624 ≤ n ∧ n ≤ 1125899906842624
      · have hd : decide (-1125899906842624 ≤ n ∧ n ≤ 1125899906842624) = true := by simpa using h1
        go_enter Tryd.func103, Tryd.ntmps103
        go_wp2_with (go_at_call 118; refine (isSizeAtMost_any _ _ (by omega) (by omega) _).mono ?_; rintro rv w1 ⟨rfl, rfl⟩)
        go_ret
        exact ⟨ret_bool (by rw [Bool.eq_iff_iff, dy_iff]; simp; omega), Ext.auK⟩
      · have hd : decide (-1125899906842624 ≤ n ∧ n ≤ 1125899906842624) = false := by simpa using h1
        go_enter Tryd.func103, Tryd.ntmps103
        go_wp2_with (go_at_call 118; refine (isSizeAtMost_any _ _ (by omega) (by omega) _).mono ?_; rintro rv w1 ⟨rfl, rfl⟩)
        go_ret
        exact ⟨ret_bool (by rw [Bool.eq_iff_iff, dy_iff]; simp; omega), Ext.auK⟩
end Go.Proofs.YtfgbndjhaiigbabDoor

