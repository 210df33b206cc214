/-
  Contracts of the functions that the laws reach, and the plain facts that they rest on, each under the conditions that its line names; part 26.
-/
import Derived.Test.YtjebechmedhidaaDoorKdb1
import Derived.Test.YtjebechmedhidaaDoorKdb2
import Derived.Test.YtjebechmedhidaaDoorKdb3
import Derived.Test.YtjebechmedhidaaDoorKdb4
import Derived.Test.YtjebechmedhidaaDoorKdb5
import Derived.Test.YtjebechmedhidaaDoorKdb6
import Derived.Test.YtjebechmedhidaaDoorKdb7
import Derived.Test.YtjebechmedhidaaDoorKdb8
import Derived.Test.YtjebechmedhidaaDoorKdb9
import Derived.Test.YtjebechmedhidaaDoorKdb10
import Derived.Test.YtjebechmedhidaaDoorKdb11
import Derived.Test.YtjebechmedhidaaDoorKdb12
import Derived.Test.YtjebechmedhidaaDoorKdb13
import Derived.Test.YtjebechmedhidaaDoorKdb14
import Derived.Test.YtjebechmedhidaaDoorKdb15
import Derived.Test.YtjebechmedhidaaDoorKdb16
import Derived.Test.YtjebechmedhidaaDoorKdb17
import Derived.Test.YtjebechmedhidaaDoorKdb18
import Derived.Test.YtjebechmedhidaaDoorKdb19
import Derived.Test.YtjebechmedhidaaDoorKdb20
import Derived.Test.YtjebechmedhidaaDoorKdb21
import Derived.Test.YtjebechmedhidaaDoorKdb22
import Derived.Test.YtjebechmedhidaaDoorKdb23
import Derived.Test.YtjebechmedhidaaDoorKdb24
import Derived.Test.YtjebechmedhidaaDoorKdb25
import Derived.Test.YtjebechmedhidaaDoorRows
import Derived.WalkKit
import Derived.LoopTactic
import Derived.Laws.Bits64b
import Derived.WalkSpells
import Derived.WalkLawsBesides
import Derived.StillTactics
import Derived.Laws.Pointers
import Derived.Deep.RegionHeld3
import Derived.Deep.QuietTactic
import Derived.BigQuiet
import Derived.Outline
import Derived.Lib.Hide
import Derived.RowKit3
import Derived.Carry
import Derived.IntWalk
import Derived.Laws.EntriesVeiled
import Derived.LoopN
import Derived.Laws.OwnMore
import Derived.OwnWalk
namespace Go.Proofs.YtjebechmedhidaaDoor
open Go Go.RowKit
set_option linter.unusedSimpArgs false
set_option linter.unusedVariables false

theorem od_few {e f p : Int} (hp : patB e f p = true) : -2048 < odV (unitsV e f p) ∧ odV (unitsV e f p) < 2048 := by
  obtain ⟨hg, p0, p1⟩ := pat_iff.1 hp
  obtain ⟨h1, h2, h3, h4⟩ := good_iff.1 hg
  have c2 : pw f ≤ 1024 := pw_le 10 1024 rfl h4
  have c1 := pw_pos f
  have r0 := Int.emod_nonneg p (show pw f ≠ 0 by omega)
  have r1 := Int.emod_lt_of_pos p (show 0 < pw f by omega)
  obtain ⟨m0, m1⟩ := mag_bd e f p hp
  have key : 0 ≤ odV (magV e f p) ∧ odV (magV e f p) < 2048 := by
    have hm : magV e f p = if 0 < p % pw (e + f) / pw f then (p % pw f + pw f) * pw (p % pw (e + f) / pw f - 1) else p % pw f := rfl
    by_cases hx : 0 < p % pw (e + f) / pw f
    · rw [if_pos hx] at hm
      have o := od_scale (x := p % pw f + pw f) (j := p % pw (e + f) / pw f - 1) (by omega) (by omega) (by rw [← hm]; omega) (by rw [← hm]; omega)
      rw [hm, o.1]
      have b := od_bd (p % pw f + pw f) 2047 (by decide) (by omega) (by omega)
      have s := (od_sign (S := p % pw f + pw f) (by omega) (by omega)).1
      omega
    · rw [if_neg hx] at hm
      rw [hm]
      have b := od_bd (p % pw f) 2047 (by decide) (by omega) (by omega)
      have s := (od_sign (S := p % pw f) (by omega) (by omega)).1
      omega
  have hn : odV (-magV e f p) = -odV (magV e f p) := by
    by_cases hz : magV e f p = 0
    · rw [hz]; decide
    · obtain ⟨t0, t1, t2, t3⟩ := tz_spec (magV e f p) hz (by omega) (by omega)
      have := tz_of (-magV e f p) (-odV (magV e f p)) (tzV (magV e f p)) t0 (by omega) (by rw [Int.neg_mul, ← t2]) (by omega) (by omega)
      exact this.2
  unfold unitsV
  split
  · rw [hn]; omega
  · omega

def ARboth (D : Int → Prop) (w : World) (rv : Ending) (w' : World) : Prop := ∃ r : Int, rv = .returned (.tuple #[.int .i64 r, .bool true]) ∧ D r ∧ Ext w w'
end Go.Proofs.YtjebechmedhidaaDoor

namespace Go.Proofs.YtjebechmedhidaaDoor
open Go Go.RowKit
set_option linter.unusedSimpArgs false
set_option linter.unusedVariables false
set_option maxRecDepth 100000

theorem un_small {e f p : Int} (hp : patB e f p = true) : -2048 < odV (unitsV e f p) ∧ odV (unitsV e f p) < 2048 ∧ shE (unitsV e f p) (unV e f) ≤ unV e f + 42 ∧ (unitsV e f p ≠ 0 → unV e f ≤ shE (unitsV e f p) (unV e f)) ∧ (unitsV e f p = 0 → shE (unitsV e f p) (unV e f) = 0) := by
  obtain ⟨o1, o2⟩ := od_few hp
  have ub := units_bd e f p hp
  have u := un_bd (pat_iff.1 hp).1
  refine ⟨o1, o2, ?_⟩
  by_cases h0 : unitsV e f p = 0
  · rw [show shE (unitsV e f p) (unV e f) = 0 from if_pos h0]
    exact ⟨by omega, fun h => absurd h0 h, fun _ => rfl⟩
  · have t := tz_lt (S := unitsV e f p) (b := 43) h0 (by omega) (by omega) (by rw [show pw 43 = 8796093022208 from rfl]; omega)
    rw [show shE (unitsV e f p) (unV e f) = unV e f + tzV (unitsV e f p) from if_neg h0]
    exact ⟨by omega, fun _ => by omega, fun h => absurd h h0⟩
end Go.Proofs.YtjebechmedhidaaDoor

