/-
  Contracts of the functions that the laws reach, and the plain facts that they rest on, each under the conditions that its line names; part 10.
-/
import Derived.Test.YtafkcgpfllloiaaDoorKLH1
import Derived.Test.YtafkcgpfllloiaaDoorKLH2
import Derived.Test.YtafkcgpfllloiaaDoorKLH3
import Derived.Test.YtafkcgpfllloiaaDoorKLH4
import Derived.Test.YtafkcgpfllloiaaDoorKLH5
import Derived.Test.YtafkcgpfllloiaaDoorKLH6
import Derived.Test.YtafkcgpfllloiaaDoorKLH7
import Derived.Test.YtafkcgpfllloiaaDoorKLH9
import Derived.Test.YtafkcgpfllloiaaDoorRows
import Derived.WalkKit
import Derived.LoopTactic
import Derived.Laws.Bits64b
import Derived.WalkSpells
import Derived.WalkLawsBesides
import Derived.StillTactics
import Derived.Laws.Pointers
import Derived.Deep.RegionHeld3
import Derived.Deep.QuietTactic
import Derived.BigQuiet
import Derived.Outline
import Derived.Deep.DeepCutAuto
import Derived.Deep.CutBlock
import Derived.Lib.Hide
import Derived.RowKit3
import Derived.Carry
import Derived.IntWalk
namespace Go.Proofs.YtafkcgpfllloiaaDoor
open Go Go.RowKit
set_option linter.unusedSimpArgs false
set_option linter.unusedVariables false

theorem gr_bd2 {e f : Int} (hg : goodB e f = true) : 0 < grV e f ∧ grV e f < pw (e + f) ∧ grV e f ≤ 32767 := by
  obtain ⟨h1, h2, h3, h4⟩ := good_iff.1 hg
  obtain ⟨⟨a1, a2⟩, ⟨b1, b2⟩, ⟨c1, c2⟩, hmul⟩ := pw_facts h1 h2 h3 h4
  have := Int.mul_le_mul_of_nonneg_right (show 3 ≤ pw e - 1 by omega) (show 0 ≤ pw f by omega)
  unfold grV
  rw [hmul] at a2
  rw [hmul, Int.sub_mul]
  rw [Int.sub_mul] at this
  omega

theorem mg_bd {e f p : Int} (hg : goodB e f = true) (h0 : 0 ≤ p) (h1 : p ≤ grV e f) : 0 ≤ mgV f p ∧ mgV f p < 2199023255552 := by
  obtain ⟨t0, t1⟩ := pt_lt hg ⟨p, h0, h1, Or.inl rfl⟩
  omega
end Go.Proofs.YtafkcgpfllloiaaDoor

