/-
  Contracts of the functions that the laws reach, and the plain facts that they rest on, each under the conditions that its line names; part 7.
-/
import Derived.Test.YtkgphdicnjkgbaaDoorKss1
import Derived.Test.YtkgphdicnjkgbaaDoorKss2
import Derived.Test.YtkgphdicnjkgbaaDoorKss3
import Derived.Test.YtkgphdicnjkgbaaDoorKss4
import Derived.Test.YtkgphdicnjkgbaaDoorKss5
import Derived.Test.YtkgphdicnjkgbaaDoorKss6
import Derived.Test.YtkgphdicnjkgbaaDoorRows
import Derived.WalkKit
import Derived.LoopTactic
import Derived.Laws.Bits64b
import Derived.WalkSpells
import Derived.WalkLawsBesides
import Derived.StillTactics
import Derived.Laws.Pointers
import Derived.Deep.RegionHeld3
import Derived.Deep.QuietTactic
import Derived.BigQuiet
import Derived.Outline
import Derived.Lib.Hide
import Derived.RowKit3
import Derived.Carry
import Derived.IntWalk
namespace Go.Proofs.YtkgphdicnjkgbaaDoor
open Go Go.RowKit
set_option linter.unusedSimpArgs false
set_option linter.unusedVariables false

theorem rdSignOf_any (n : Int) (w : World) : Calls Tryd.prog 37 #[.int .i64 n] w fun rv w' => rv = .returned (.int .i64 (sgV n)) ∧ w = w' := by
  by_cases h1 : n < 0
  · have hk := sg_neg h1
    have Hk := Lib.hid hk; clear hk
    go_enter Tryd.func37, Tryd.ntmps37
    go_wp2
    go_ret
    exact ⟨ret_int Hk.out.symm, rfl⟩
  · by_cases h2 : 0 < n
    · have hk := sg_pos h2
      have Hk := Lib.hid hk; clear hk
      go_enter Tryd.func37, Tryd.ntmps37
      go_wp2
      go_ret
      exact ⟨ret_int Hk.out.symm, rfl⟩
    · have hk := sg_zero (show n = 0 by omega)
      have Hk := Lib.hid hk; clear hk
      go_enter Tryd.func37, Tryd.ntmps37
      go_wp2
      go_ret
      exact ⟨ret_int Hk.out.symm, rfl⟩

theorem compareInt_sg (x y : Int) : Lib.compareInt x y = sgV (x - y) := by
  unfold Lib.compareInt
  rcases Int.lt_trichotomy x y with h | h | h
  · rw [sg_neg (by omega)]; simp [h]
  · rw [sg_zero (by omega)]; simp [h]
  · rw [sg_pos (by omega)]; simp [h, Int.not_lt.2 (Int.le_of_lt h)]

theorem compare_sg (x y : Int) (w : World) : Calls Tryd.prog 38 #[.int .i64 x, .int .i64 y] w fun rv w' => rv = .returned (.int .i64 (sgV (x - y))) ∧ w = w' := by
  refine (Tryd.cmp_Compare_int x y w).mono ?_
  rintro rv w' ⟨rfl, rfl⟩
  exact ⟨ret_int (compareInt_sg x y), rfl⟩
end Go.Proofs.YtkgphdicnjkgbaaDoor

