/-
  Contracts of the functions that the laws reach, and the plain facts that they rest on, each under the conditions that its line names; part 25.
-/
import Derived.Test.YtjebechmedhidaaDoorKdb1
import Derived.Test.YtjebechmedhidaaDoorKdb2
import Derived.Test.YtjebechmedhidaaDoorKdb3
import Derived.Test.YtjebechmedhidaaDoorKdb4
import Derived.Test.YtjebechmedhidaaDoorKdb5
import Derived.Test.YtjebechmedhidaaDoorKdb6
import Derived.Test.YtjebechmedhidaaDoorKdb7
import Derived.Test.YtjebechmedhidaaDoorKdb8
import Derived.Test.YtjebechmedhidaaDoorKdb9
import Derived.Test.YtjebechmedhidaaDoorKdb10
import Derived.Test.YtjebechmedhidaaDoorKdb11
import Derived.Test.YtjebechmedhidaaDoorKdb12
import Derived.Test.YtjebechmedhidaaDoorKdb13
import Derived.Test.YtjebechmedhidaaDoorKdb14
import Derived.Test.YtjebechmedhidaaDoorKdb15
import Derived.Test.YtjebechmedhidaaDoorKdb16
import Derived.Test.YtjebechmedhidaaDoorKdb17
import Derived.Test.YtjebechmedhidaaDoorKdb18
import Derived.Test.YtjebechmedhidaaDoorKdb19
import Derived.Test.YtjebechmedhidaaDoorKdb20
import Derived.Test.YtjebechmedhidaaDoorKdb21
import Derived.Test.YtjebechmedhidaaDoorKdb22
import Derived.Test.YtjebechmedhidaaDoorKdb23
import Derived.Test.YtjebechmedhidaaDoorKdb24
import Derived.Test.YtjebechmedhidaaDoorRows
import Derived.WalkKit
import Derived.LoopTactic
import Derived.Laws.Bits64b
import Derived.WalkSpells
import Derived.WalkLawsBesides
import Derived.StillTactics
import Derived.Laws.Pointers
import Derived.Deep.RegionHeld3
import Derived.Deep.QuietTactic
import Derived.BigQuiet
import Derived.Outline
import Derived.Lib.Hide
import Derived.RowKit3
import Derived.Carry
import Derived.IntWalk
import Derived.Laws.EntriesVeiled
import Derived.LoopN
namespace Go.Proofs.YtjebechmedhidaaDoor
open Go Go.RowKit
set_option linter.unusedSimpArgs false
set_option linter.unusedVariables false
set_option maxRecDepth 100000

theorem sign_01 {e f p : Int} (h : patB e f p = true) : (p / pw (e + f)) = 0 ∨ (p / pw (e + f)) = 1 := by
  obtain ⟨hg, p0, p1⟩ := pat_iff.1 h
  have q := pw_pos (e + f)
  have a : 0 ≤ (p / pw (e + f)) := Int.ediv_nonneg p0 (by omega)
  have b : (p / pw (e + f)) < 2 := Int.ediv_lt_of_lt_mul (by omega) p1
  omega

theorem units_sign {e f p : Int} (hp : patB e f p = true) (h : (unitsV e f p) ≠ 0) : ((unitsV e f p) < 0 ↔ (p / pw (e + f)) = 1) := by
  have m := mag_bd e f p hp
  have sg := sign_01 hp
  unfold unitsV at h ⊢
  rcases sg with q | q <;> rw [q] at h ⊢ <;> simp at h ⊢ <;> omega
end Go.Proofs.YtjebechmedhidaaDoor

