/-
  Contracts of the functions that the laws reach, and the plain facts that they rest on, each under the conditions that its line names; part 26.
-/
import Derived.Test.YtfgbndjhaiigbacGreatDoorKlo1
import Derived.Test.YtfgbndjhaiigbacGreatDoorKlo2
import Derived.Test.YtfgbndjhaiigbacGreatDoorKlo3
import Derived.Test.YtfgbndjhaiigbacGreatDoorKlo4
import Derived.Test.YtfgbndjhaiigbacGreatDoorKlo5
import Derived.Test.YtfgbndjhaiigbacGreatDoorKlo6
import Derived.Test.YtfgbndjhaiigbacGreatDoorKlo7
import Derived.Test.YtfgbndjhaiigbacGreatDoorKlo8
import Derived.Test.YtfgbndjhaiigbacGreatDoorKlo9
import Derived.Test.YtfgbndjhaiigbacGreatDoorKlo10
import Derived.Test.YtfgbndjhaiigbacGreatDoorKlo11
import Derived.Test.YtfgbndjhaiigbacGreatDoorKlo12
import Derived.Test.YtfgbndjhaiigbacGreatDoorKlo13
import Derived.Test.YtfgbndjhaiigbacGreatDoorKlo14
import Derived.Test.YtfgbndjhaiigbacGreatDoorKlo15
import Derived.Test.YtfgbndjhaiigbacGreatDoorKlo16
import Derived.Test.YtfgbndjhaiigbacGreatDoorKlo17
import Derived.Test.YtfgbndjhaiigbacGreatDoorKlo18
import Derived.Test.YtfgbndjhaiigbacGreatDoorKlo19
import Derived.Test.YtfgbndjhaiigbacGreatDoorKlo20
import Derived.Test.YtfgbndjhaiigbacGreatDoorKlo21
import Derived.Test.YtfgbndjhaiigbacGreatDoorKlo22
import Derived.Test.YtfgbndjhaiigbacGreatDoorKlo23
import Derived.Test.YtfgbndjhaiigbacGreatDoorKlo24
import Derived.Test.YtfgbndjhaiigbacGreatDoorKlo25
import Derived.Test.YtfgbndjhaiigbacGreatDoorRows
import Derived.WalkKit
import Derived.LoopTactic
import Derived.Laws.Bits64b
import Derived.WalkSpells
import Derived.WalkLawsBesides
import Derived.StillTactics
import Derived.Laws.Pointers
import Derived.Deep.RegionHeld3
import Derived.Deep.QuietTactic
import Derived.BigQuiet
import Derived.Outline
import Derived.Lib.Hide
import Derived.RowKit3
import Derived.Carry
import Derived.IntWalk
import Derived.Laws.EntriesVeiled
import Derived.LoopN
import Derived.Laws.OwnMore
import Derived.OwnWalk
namespace Go.Proofs.YtfgbndjhaiigbacGreatDoor
open Go Go.RowKit
set_option linter.unusedSimpArgs false
set_option linter.unusedVariables false

theorem od_few {e f p : Int} (hp : patB e f p = true) : -2048 < odV (unitsV e f p) ∧ odV (unitsV e f p) < 2048 := by
  obtain ⟨hg, p0, p1⟩ := pat_iff.1 hp
  obtain ⟨h1, h2, h3, h4⟩ := good_iff.1 hg
  have c2 : pw f ≤ 1024 := pw_le 10 1024 rfl h4
  have c1 := pw_pos f
  have r0 := Int.emod_nonneg p (show pw f ≠ 0 by omega)
  have r1 := Int.emod_lt_of_pos p (show 0 < pw f by omega)
  obtain ⟨m0, m1⟩ := mag_bd e f p hp
  have key : 0 ≤ odV (magV e f p) ∧ odV (magV e f p) < 2048 := by
    have hm : magV e f p = if 0 < p % pw (e + f) / pw f then (p % pw f + pw f) * pw (p % pw (e + f) / pw f - 1) else p % pw f := rfl
    by_cases hx : 0 < p % pw (e + f) / pw f
    · rw [if_pos hx] at hm
      have o := od_scale (x := p % pw f + pw f) (j := p % pw (e + f) / pw f - 1) (by omega) (by omega) (by rw [← hm]; omega) (by rw [← hm]; omega)
      rw [hm, o.1]
      have b := od_bd (p % pw f + pw f) 2047 (by decide) (by omega) (by omega)
      have s := (od_sign (S := p % pw f + pw f) (by omega) (by omega)).1
      omega
    · rw [if_neg hx] at hm
      rw [hm]
      have b := od_bd (p % pw f) 2047 (by decide) (by omega) (by omega)
      have s := (od_sign (S := p % pw f) (by omega) (by omega)).1
      omega
  have hn : odV (-magV e f p) = -odV (magV e f p) := by
    by_cases hz : magV e f p = 0
    · rw [hz]; decide
    · obtain ⟨t0, t1, t2, t3⟩ := tz_spec (magV e f p) hz (by omega) (by omega)
      have := tz_of (-magV e f p) (-odV (magV e f p)) (tzV (magV e f p)) t0 (by omega) (by rw [Int.neg_mul, ← t2]) (by omega) (by omega)
      exact this.2
  unfold unitsV
  split
  · rw [hn]; omega
  · omega
end Go.Proofs.YtfgbndjhaiigbacGreatDoor

namespace Go.Proofs.YtfgbndjhaiigbacGreatDoor
open Go Go.RowKit
set_option linter.unusedSimpArgs false
set_option linter.unusedVariables false
set_option maxRecDepth 100000

theorem Ext.new2b {X b : World} {B : Obj} {u v : Value} {t : TypeId} (h : Ext ((X.alloc (.cells #[u, v] t)).alloc B) b) : b.cell? ⟨X.heap.size, 0, none⟩ = some u ∧ b.cell? ⟨X.heap.size, 1, none⟩ = some v ∧ b.frozen? ⟨X.heap.size, 0, none⟩ = false ∧ b.frozen? ⟨X.heap.size, 1, none⟩ = false ∧ X.heap.size < b.heap.size :=
  Ext.new2 (Ext.trans (Ext.new _ B) h)

theorem Ext.new2bd {X b : World} {B : Obj} {u v : Value} {t : TypeId} (h : Ext ((X.alloc (.cells #[u, v] t)).alloc B).drew b) : b.cell? ⟨X.heap.size, 0, none⟩ = some u ∧ b.cell? ⟨X.heap.size, 1, none⟩ = some v ∧ b.frozen? ⟨X.heap.size, 0, none⟩ = false ∧ b.frozen? ⟨X.heap.size, 1, none⟩ = false ∧ X.heap.size < b.heap.size :=
  Ext.new2b (Ext.trans (Ext.drew (Ext.refl _)) h)

theorem un_small {e f p : Int} (hp : patB e f p = true) : -2048 < odV (unitsV e f p) ∧ odV (unitsV e f p) < 2048 ∧ shE (unitsV e f p) (unV e f) ≤ unV e f + 42 ∧ (unitsV e f p ≠ 0 → unV e f ≤ shE (unitsV e f p) (unV e f)) ∧ (unitsV e f p = 0 → shE (unitsV e f p) (unV e f) = 0) := by
  obtain ⟨o1, o2⟩ := od_few hp
  have ub := units_bd e f p hp
  have u := un_bd (pat_iff.1 hp).1
  refine ⟨o1, o2, ?_⟩
  by_cases h0 : unitsV e f p = 0
  · rw [show shE (unitsV e f p) (unV e f) = 0 from if_pos h0]
    exact ⟨by omega, fun h => absurd h0 h, fun _ => rfl⟩
  · have t := tz_lt (S := unitsV e f p) (b := 43) h0 (by omega) (by omega) (by rw [show pw 43 = 8796093022208 from rfl]; omega)
    rw [show shE (unitsV e f p) (unV e f) = unV e f + tzV (unitsV e f p) from if_neg h0]
    exact ⟨by omega, fun _ => by omega, fun h => absurd h h0⟩
end Go.Proofs.YtfgbndjhaiigbacGreatDoor

