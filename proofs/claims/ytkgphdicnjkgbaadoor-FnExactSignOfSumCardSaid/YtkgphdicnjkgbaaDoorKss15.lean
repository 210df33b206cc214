/-
  Contracts of the functions that the laws reach, and the plain facts that they rest on, each under the conditions that its line names; part 15.
-/
import Derived.Test.YtkgphdicnjkgbaaDoorKss1
import Derived.Test.YtkgphdicnjkgbaaDoorKss2
import Derived.Test.YtkgphdicnjkgbaaDoorKss3
import Derived.Test.YtkgphdicnjkgbaaDoorKss4
import Derived.Test.YtkgphdicnjkgbaaDoorKss5
import Derived.Test.YtkgphdicnjkgbaaDoorKss6
import Derived.Test.YtkgphdicnjkgbaaDoorKss7
import Derived.Test.YtkgphdicnjkgbaaDoorKss8
import Derived.Test.YtkgphdicnjkgbaaDoorKss9
import Derived.Test.YtkgphdicnjkgbaaDoorKss10
import Derived.Test.YtkgphdicnjkgbaaDoorKss11
import Derived.Test.YtkgphdicnjkgbaaDoorKss12
import Derived.Test.YtkgphdicnjkgbaaDoorKss13
import Derived.Test.YtkgphdicnjkgbaaDoorKss14
import Derived.Test.YtkgphdicnjkgbaaDoorRows
import Derived.WalkKit
import Derived.LoopTactic
import Derived.Laws.Bits64b
import Derived.WalkSpells
import Derived.WalkLawsBesides
import Derived.StillTactics
import Derived.Laws.Pointers
import Derived.Deep.RegionHeld3
import Derived.Deep.QuietTactic
import Derived.BigQuiet
import Derived.Outline
import Derived.Lib.Hide
import Derived.RowKit3
import Derived.Carry
import Derived.IntWalk
import Derived.Laws.BitsAllLaws
namespace Go.Proofs.YtkgphdicnjkgbaaDoor
open Go Go.RowKit
set_option linter.unusedSimpArgs false
set_option linter.unusedVariables false

theorem gr_x {e f : Int} (hg : goodB e f = true) : grV e f < (pw e - 1) * pw f ∧ (pw e - 1) * pw f ≤ 31 * pw f := by
  obtain ⟨h1, h2, h3, h4⟩ := good_iff.1 hg
  obtain ⟨⟨a1, a2⟩, ⟨b1, b2⟩, ⟨c1, c2⟩, hmul⟩ := pw_facts h1 h2 h3 h4
  exact ⟨by unfold grV; omega, Int.mul_le_mul_of_nonneg_right (by omega) (by omega)⟩

/-- The fields of a pattern that is at most the greatest one. -/
theorem p_parts {e f p : Int} (hg : goodB e f = true) (h0 : 0 ≤ p) (h1 : p ≤ grV e f) : 0 ≤ p / pw f ∧ p / pw f < 31 ∧ p / pw f < pw e - 1 ∧ 0 ≤ p % pw f ∧ p % pw f < pw f ∧ p / pw f * pw f + p % pw f = p := by
  obtain ⟨g1, g2⟩ := gr_x hg
  have hA := pw_pos f
  refine ⟨Int.ediv_nonneg h0 (by omega), Int.ediv_lt_of_lt_mul (by omega) (by omega), Int.ediv_lt_of_lt_mul (by omega) (by omega), Int.emod_nonneg _ (by omega), Int.emod_lt_of_pos _ (by omega), ?_⟩
  rw [Int.mul_comm]
  exact Int.mul_ediv_add_emod _ _

theorem mgN_ok {e f p : Int} (hg : goodB e f = true) (h0 : 0 ≤ p) (h1 : p ≤ grV e f) : Ok Ieee.single (mgN f p) ∧ mgN f p < 2 ^ 190 := by
  obtain ⟨x0, x1, x2, r0, r1, e1⟩ := p_parts hg h0 h1
  obtain ⟨_, _, h3, h4⟩ := good_iff.1 hg
  have c2 : pw f ≤ 1024 := pw_le 10 1024 rfl h4
  obtain ⟨m0, m1⟩ := mg_bd hg h0 h1
  constructor
  · by_cases hx : p / pw f = 0
    · rw [hx, Int.zero_mul, Int.zero_add] at e1
      have := (mgN_low f (p % pw f) r0 r1 (by omega)).1
      rwa [e1] at this
    · have := (mgN_high f (p / pw f) (p % pw f) h3 h4 (by omega) x1 r0 r1).1
      rwa [e1] at this
  · unfold mgN
    have : (mgV f p).toNat < 2 ^ 41 := by omega
    have := Nat.mul_lt_mul_of_pos_right this (Nat.two_pow_pos 149)
    rwa [← Nat.pow_add] at this
end Go.Proofs.YtkgphdicnjkgbaaDoor

namespace Go.Proofs.YtkgphdicnjkgbaaDoor
open Go Go.RowKit
set_option linter.unusedSimpArgs false
set_option linter.unusedVariables false

theorem run_store_flt {P : Program} (w : World) (a : Addr) (m : Mode) (k : FloatKind) (b : Nat) : (store a (.float k b) m).run P w = stored P w a (.float k b) m := run_store P w a _ m rfl

attribute [local go_sem] run_store_flt
end Go.Proofs.YtkgphdicnjkgbaaDoor

