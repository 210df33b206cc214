/-
  Contracts of the functions that the laws reach, and the plain facts that they rest on, each under the conditions that its line names; part 17.
-/
import Derived.Test.YtfgbndjhaiigbabDoorKyd1
import Derived.Test.YtfgbndjhaiigbabDoorKyd2
import Derived.Test.YtfgbndjhaiigbabDoorKyd3
import Derived.Test.YtfgbndjhaiigbabDoorKyd4
import Derived.Test.YtfgbndjhaiigbabDoorKyd5
import Derived.Test.YtfgbndjhaiigbabDoorKyd6
import Derived.Test.YtfgbndjhaiigbabDoorKyd7
import Derived.Test.YtfgbndjhaiigbabDoorKyd8
import Derived.Test.YtfgbndjhaiigbabDoorKyd9
import Derived.Test.YtfgbndjhaiigbabDoorKyd10
import Derived.Test.YtfgbndjhaiigbabDoorKyd11
import Derived.Test.YtfgbndjhaiigbabDoorKyd14
import Derived.Test.YtfgbndjhaiigbabDoorKyd16
import Derived.Test.YtfgbndjhaiigbabDoorRows
import Derived.WalkKit
import Derived.LoopTactic
import Derived.Laws.Bits64b
import Derived.WalkSpells
import Derived.WalkLawsBesides
import Derived.StillTactics
import Derived.Laws.Pointers
import Derived.Deep.RegionHeld3
import Derived.Deep.QuietTactic
import Derived.BigQuiet
import Derived.Outline
import Derived.Lib.Hide
import Derived.RowKit3
import Derived.Carry
import Derived.IntWalk
namespace Go.Proofs.YtfgbndjhaiigbabDoor
open Go Go.RowKit
set_option linter.unusedSimpArgs false
set_option linter.unusedVariables false

theorem isNaN32_any (b : Nat) (h : b < 2139095040) (w : World) : Calls Tryd.prog 180 #[.float .f32 b] w fun rv w' => rv = .returned (.bool false) ∧ w = w' := by
  have o : FloatKind.f32.format.order b b = some .eq := by
    rw [order_pos (by rw [inf32]; omega) (by rw [inf32]; omega), cmp_eq rfl]
  go_enter Tryd.func180, Tryd.ntmps180
  go_wp2
  go_ret
  exact ⟨rfl, rfl⟩

theorem compare32_any (a b : Nat) (ha : a < 2139095040) (hb : b < 2139095040) (w : World) : Calls Tryd.prog 163 #[.float .f32 a, .float .f32 b] w fun rv w' => rv = .returned (.int .i64 (sgV ((a : Int) - b))) ∧ w = w' := by
  rcases Nat.lt_trichotomy a b with h | h | h
  · have o : FloatKind.f32.format.order a b = some .lt := by
      rw [order_pos (by rw [inf32]; omega) (by rw [inf32]; omega), cmp_lt h]
    have hk : sgV ((a : Int) - b) = -1 := sg_neg (by omega)
    have Hk := Lib.hid hk; clear hk
    go_enter Tryd.func163, Tryd.ntmps163
    go_wp2_with (go_at_call 180; refine (isNaN32_any _ (by omega) _).mono ?_; rintro rv w1 ⟨rfl, rfl⟩)
    go_ret
    exact ⟨ret_int Hk.out.symm, rfl⟩
  · subst h
    have o : FloatKind.f32.format.order a a = some .eq := by
      rw [order_pos (by rw [inf32]; omega) (by rw [inf32]; omega), cmp_eq rfl]
    have hk : sgV ((a : Int) - a) = 0 := sg_zero (by omega)
    have Hk := Lib.hid hk; clear hk
    go_enter Tryd.func163, Tryd.ntmps163
    go_wp2_with (go_at_call 180; refine (isNaN32_any _ (by omega) _).mono ?_; rintro rv w1 ⟨rfl, rfl⟩)
    go_ret
    exact ⟨ret_int Hk.out.symm, rfl⟩
  · have o : FloatKind.f32.format.order a b = some .gt := by
      rw [order_pos (by rw [inf32]; omega) (by rw [inf32]; omega), cmp_gt h]
    have hk : sgV ((a : Int) - b) = 1 := sg_pos (by omega)
    have Hk := Lib.hid hk; clear hk
    go_enter Tryd.func163, Tryd.ntmps163
    go_wp2_with (go_at_call 180; refine (isNaN32_any _ (by omega) _).mono ?_; rintro rv w1 ⟨rfl, rfl⟩)
    go_ret
    exact ⟨ret_int Hk.out.symm, rfl⟩

theorem compare_fw (A B : Nat) (ha : Ok Ieee.single A) (hb : Ok Ieee.single B) (w : World) : Calls Tryd.prog 163 #[.float .f32 (fw Ieee.single A), .float .f32 (fw Ieee.single B)] w fun rv w' => rv = .returned (.int .i64 (sgV ((A : Int) - B))) ∧ w = w' := by
  have h1 := fw_fin ha
  have h2 := fw_fin hb
  have hi : Ieee.single.infRung = 2139095040 := by decide
  rw [hi] at h1 h2
  have := compare32_any _ _ h1 h2 w
  have e : sgV (((fw Ieee.single A : Nat) : Int) - (fw Ieee.single B : Nat)) = sgV ((A : Int) - B) := by
    have l1 := fw_lt ha hb
    have l2 := fw_lt hb ha
    rcases Nat.lt_trichotomy A B with h | h | h
    · have := l1.2 h
      rw [sg_neg (by omega), sg_neg (by omega)]
    · subst h
      rw [sg_zero (by omega), sg_zero (by omega)]
    · have := l2.2 h
      rw [sg_pos (by omega), sg_pos (by omega)]
  rwa [e] at this
end Go.Proofs.YtfgbndjhaiigbabDoor

