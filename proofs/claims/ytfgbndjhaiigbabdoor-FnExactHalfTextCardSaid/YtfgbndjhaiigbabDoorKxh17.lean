/-
  Contracts of the functions that the laws reach, and the plain facts that they rest on, each under the conditions that its line names; part 17.
-/
import Derived.Test.YtfgbndjhaiigbabDoorKxh1
import Derived.Test.YtfgbndjhaiigbabDoorKxh2
import Derived.Test.YtfgbndjhaiigbabDoorKxh3
import Derived.Test.YtfgbndjhaiigbabDoorKxh4
import Derived.Test.YtfgbndjhaiigbabDoorKxh5
import Derived.Test.YtfgbndjhaiigbabDoorKxh6
import Derived.Test.YtfgbndjhaiigbabDoorKxh7
import Derived.Test.YtfgbndjhaiigbabDoorKxh8
import Derived.Test.YtfgbndjhaiigbabDoorKxh9
import Derived.Test.YtfgbndjhaiigbabDoorKxh10
import Derived.Test.YtfgbndjhaiigbabDoorKxh11
import Derived.Test.YtfgbndjhaiigbabDoorKxh12
import Derived.Test.YtfgbndjhaiigbabDoorKxh13
import Derived.Test.YtfgbndjhaiigbabDoorKxh14
import Derived.Test.YtfgbndjhaiigbabDoorKxh15
import Derived.Test.YtfgbndjhaiigbabDoorKxh16
import Derived.Test.YtfgbndjhaiigbabDoorRows
import Derived.WalkKit
import Derived.LoopTactic
import Derived.Laws.Bits64b
import Derived.WalkSpells
import Derived.WalkLawsBesides
import Derived.StillTactics
import Derived.Laws.Pointers
import Derived.Deep.RegionHeld3
import Derived.Deep.QuietTactic
import Derived.BigQuiet
import Derived.Outline
import Derived.Lib.Hide
import Derived.RowKit3
import Derived.Carry
import Derived.IntWalk
import Derived.Laws.EntriesVeiled
import Derived.LoopN
import Derived.Laws.BitsAllLaws
import Ieee.Arith
import Derived.Laws.FloatArith
import Derived.ScopeJumps
import Derived.WalkMore
import Derived.Laws.OwnMore
import Derived.OwnWalk
namespace Go.Proofs.YtfgbndjhaiigbabDoor
open Go Go.RowKit
set_option linter.unusedSimpArgs false
set_option linter.unusedVariables false

theorem od_few {e f p : Int} (hp : patB e f p = true) : -2048 < odV (unitsV e f p) ∧ odV (unitsV e f p) < 2048 := by
  obtain ⟨hg, p0, p1⟩ := pat_iff.1 hp
  obtain ⟨h1, h2, h3, h4⟩ := good_iff.1 hg
  have c2 : pw f ≤ 1024 := pw_le 10 1024 rfl h4
  have c1 := pw_pos f
  have r0 := Int.emod_nonneg p (show pw f ≠ 0 by omega)
  have r1 := Int.emod_lt_of_pos p (show 0 < pw f by omega)
  obtain ⟨m0, m1⟩ := mag_bd e f p hp
  have key : 0 ≤ odV (magV e f p) ∧ odV (magV e f p) < 2048 := by
    have hm : magV e f p = if 0 < p % pw (e + f) / pw f then (p % pw f + pw f) * pw (p % pw (e + f) / pw f - 1) else p % pw f := rfl
    by_cases hx : 0 < p % pw (e + f) / pw f
    · rw [if_pos hx] at hm
      have o := od_scale (x := p % pw f + pw f) (j := p % pw (e + f) / pw f - 1) (by omega) (by omega) (by rw [← hm]; omega) (by rw [← hm]; omega)
      rw [hm, o.1]
      have b := od_bd (p % pw f + pw f) 2047 (by decide) (by omega) (by omega)
      have s := (od_sign (S := p % pw f + pw f) (by omega) (by omega)).1
      omega
    · rw [if_neg hx] at hm
      rw [hm]
      have b := od_bd (p % pw f) 2047 (by decide) (by omega) (by omega)
      have s := (od_sign (S := p % pw f) (by omega) (by omega)).1
      omega
  have hn : odV (-magV e f p) = -odV (magV e f p) := by
    by_cases hz : magV e f p = 0
    · rw [hz]; decide
    · obtain ⟨t0, t1, t2, t3⟩ := tz_spec (magV e f p) hz (by omega) (by omega)
      have := tz_of (-magV e f p) (-odV (magV e f p)) (tzV (magV e f p)) t0 (by omega) (by rw [Int.neg_mul, ← t2]) (by omega) (by omega)
      exact this.2
  unfold unitsV
  split
  · rw [hn]; omega
  · omega

theorem kind_parts {e f p : Int} (hp : patB e f p = true) : (kindV e f p = 4 ∧ finB e f p = false ∧ numB e f p = false) ∨ (kindV e f p = 3 ∧ finB e f p = false ∧ numB e f p = true) ∨ (kindV e f p = 0 ∧ finB e f p = true ∧ unitsV e f p = 0) ∨ ((kindV e f p = 1 ∨ kindV e f p = 2) ∧ finB e f p = true ∧ unitsV e f p ≠ 0) := by
  obtain ⟨k0, k1, k2, k3⟩ := kind_units hp
  obtain ⟨l1, l2⟩ := kind_lt e f p hp
  have hc : kindV e f p = 0 ∨ kindV e f p = 1 ∨ kindV e f p = 2 ∨ kindV e f p = 3 ∨ kindV e f p = 4 := by omega
  rw [← l1, ← l2]
  rcases hc with h | h | h | h | h
  · exact Or.inr (Or.inr (Or.inl ⟨h, by rw [h]; rfl, k0 h⟩))
  · exact Or.inr (Or.inr (Or.inr ⟨Or.inl h, by rw [h]; rfl, k1 (Or.inl h)⟩))
  · exact Or.inr (Or.inr (Or.inr ⟨Or.inr h, by rw [h]; rfl, k1 (Or.inr h)⟩))
  · exact Or.inr (Or.inl ⟨h, by rw [h]; rfl, by rw [h]; rfl⟩)
  · exact Or.inl ⟨h, by rw [h]; rfl, by rw [h]; rfl⟩

theorem arZeroK (e f p : Int) (v : Bool) (hp : patB e f p = true) (hv : (kindV e f p == 0) = v) (w : World) : Calls Tryd.prog 74 #[fmt e f, .int .i64 p] w fun rv w' => rv = .returned (.bool v) ∧ Ext w w' := by
  go_enter Tryd.func74, Tryd.ntmps74
  go_wp2_with (go_at_call 108; refine (fmKind_any e f p hp _).mono ?_; rintro rv w1 ⟨rfl, hb⟩; have ns : w.heap.size < w1.heap.size := hb.ltK; have n0 : w1.cell? ⟨w.heap.size, 0, none⟩ = some (.int .i64 e) := hb.cellK; have n1 : w1.cell? ⟨w.heap.size, 1, none⟩ = some (.int .i64 f) := hb.cellK; (first | (have nx := hx.trK hb; clear hx) | have nx := hb); clear hb; try clear hs; try clear g0; try clear g1; have hx := nx; clear nx; have hs := ns; clear ns; have g0 := n0; clear n0; have g1 := n1; clear n1)
  go_ret
  exact ⟨by first | exact ret_bool hv | rfl | exact ret_bool rfl, Ext.auK⟩
end Go.Proofs.YtfgbndjhaiigbabDoor

namespace Go.Proofs.YtfgbndjhaiigbabDoor
open Go Go.RowKit
set_option linter.unusedSimpArgs false
set_option linter.unusedVariables false
set_option maxRecDepth 100000

theorem un_small {e f p : Int} (hp : patB e f p = true) : -2048 < odV (unitsV e f p) ∧ odV (unitsV e f p) < 2048 ∧ shE (unitsV e f p) (unV e f) ≤ unV e f + 42 ∧ (unitsV e f p ≠ 0 → unV e f ≤ shE (unitsV e f p) (unV e f)) ∧ (unitsV e f p = 0 → shE (unitsV e f p) (unV e f) = 0) := by
  obtain ⟨o1, o2⟩ := od_few hp
  have ub := units_bd e f p hp
  have u := un_bd (pat_iff.1 hp).1
  refine ⟨o1, o2, ?_⟩
  by_cases h0 : unitsV e f p = 0
  · rw [show shE (unitsV e f p) (unV e f) = 0 from if_pos h0]
    exact ⟨by omega, fun h => absurd h0 h, fun _ => rfl⟩
  · have t := tz_lt (S := unitsV e f p) (b := 43) h0 (by omega) (by omega) (by rw [show pw 43 = 8796093022208 from rfl]; omega)
    rw [show shE (unitsV e f p) (unV e f) = unV e f + tzV (unitsV e f p) from if_neg h0]
    exact ⟨by omega, fun _ => by omega, fun h => absurd h h0⟩
end Go.Proofs.YtfgbndjhaiigbabDoor

