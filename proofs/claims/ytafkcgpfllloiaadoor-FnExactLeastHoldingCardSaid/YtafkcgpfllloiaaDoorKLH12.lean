/-
  Contracts of the functions that the laws reach, and the plain facts that they rest on, each under the conditions that its line names; part 12.
-/
import Derived.Test.YtafkcgpfllloiaaDoorKLH1
import Derived.Test.YtafkcgpfllloiaaDoorKLH2
import Derived.Test.YtafkcgpfllloiaaDoorKLH3
import Derived.Test.YtafkcgpfllloiaaDoorKLH4
import Derived.Test.YtafkcgpfllloiaaDoorKLH5
import Derived.Test.YtafkcgpfllloiaaDoorKLH6
import Derived.Test.YtafkcgpfllloiaaDoorKLH7
import Derived.Test.YtafkcgpfllloiaaDoorKLH8
import Derived.Test.YtafkcgpfllloiaaDoorKLH9
import Derived.Test.YtafkcgpfllloiaaDoorKLH10
import Derived.Test.YtafkcgpfllloiaaDoorKLH11
import Derived.Test.YtafkcgpfllloiaaDoorRows
import Derived.WalkKit
import Derived.LoopTactic
import Derived.Laws.Bits64b
import Derived.WalkSpells
import Derived.WalkLawsBesides
import Derived.StillTactics
import Derived.Laws.Pointers
import Derived.Deep.RegionHeld3
import Derived.Deep.QuietTactic
import Derived.BigQuiet
import Derived.Outline
import Derived.Lib.Hide
import Derived.RowKit3
import Derived.Carry
import Derived.IntWalk
import Derived.Laws.BitsAllLaws
import Ieee.Arith
import Derived.Laws.FloatArith
namespace Go.Proofs.YtafkcgpfllloiaaDoor
open Go Go.RowKit
set_option linter.unusedSimpArgs false
set_option linter.unusedVariables false

theorem gr_x {e f : Int} (hg : goodB e f = true) : grV e f < (pw e - 1) * pw f ∧ (pw e - 1) * pw f ≤ 31 * pw f := by
  obtain ⟨h1, h2, h3, h4⟩ := good_iff.1 hg
  obtain ⟨⟨a1, a2⟩, ⟨b1, b2⟩, ⟨c1, c2⟩, hmul⟩ := pw_facts h1 h2 h3 h4
  exact ⟨by unfold grV; omega, Int.mul_le_mul_of_nonneg_right (by omega) (by omega)⟩

/-- The fields of a pattern that is at most the greatest one. -/
theorem p_parts {e f p : Int} (hg : goodB e f = true) (h0 : 0 ≤ p) (h1 : p ≤ grV e f) : 0 ≤ p / pw f ∧ p / pw f < 31 ∧ p / pw f < pw e - 1 ∧ 0 ≤ p % pw f ∧ p % pw f < pw f ∧ p / pw f * pw f + p % pw f = p := by
  obtain ⟨g1, g2⟩ := gr_x hg
  have hA := pw_pos f
  refine ⟨Int.ediv_nonneg h0 (by omega), Int.ediv_lt_of_lt_mul (by omega) (by omega), Int.ediv_lt_of_lt_mul (by omega) (by omega), Int.emod_nonneg _ (by omega), Int.emod_lt_of_pos _ (by omega), ?_⟩
  rw [Int.mul_comm]
  exact Int.mul_ediv_add_emod _ _

theorem greatest_gr (e f : Int) (hg : goodB e f = true) (w : World) : Calls Tryd.prog 25 #[fmt e f] w fun rv w' => rv = .returned (.tuple #[.int .i64 (grV e f), .bool true]) ∧ Ext w w' := iGreatestOf_yes e f hg w
end Go.Proofs.YtafkcgpfllloiaaDoor

namespace Go.Proofs.YtafkcgpfllloiaaDoor
open Go Go.RowKit
set_option linter.unusedSimpArgs false
set_option linter.unusedVariables false

theorem run_store_flt {P : Program} (w : World) (a : Addr) (m : Mode) (k : FloatKind) (b : Nat) : (store a (.float k b) m).run P w = stored P w a (.float k b) m := run_store P w a _ m rfl

attribute [local go_sem] run_store_flt
end Go.Proofs.YtafkcgpfllloiaaDoor

