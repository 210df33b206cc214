/-
  Contracts of the functions that the laws reach, and the plain facts that they rest on, each under the conditions that its line names; part 16.
-/
import Derived.Test.YtkgphdicnjkgbaaDoorKss1
import Derived.Test.YtkgphdicnjkgbaaDoorKss2
import Derived.Test.YtkgphdicnjkgbaaDoorKss3
import Derived.Test.YtkgphdicnjkgbaaDoorKss4
import Derived.Test.YtkgphdicnjkgbaaDoorKss5
import Derived.Test.YtkgphdicnjkgbaaDoorKss6
import Derived.Test.YtkgphdicnjkgbaaDoorKss7
import Derived.Test.YtkgphdicnjkgbaaDoorKss8
import Derived.Test.YtkgphdicnjkgbaaDoorKss9
import Derived.Test.YtkgphdicnjkgbaaDoorKss10
import Derived.Test.YtkgphdicnjkgbaaDoorKss11
import Derived.Test.YtkgphdicnjkgbaaDoorKss12
import Derived.Test.YtkgphdicnjkgbaaDoorKss13
import Derived.Test.YtkgphdicnjkgbaaDoorKss14
import Derived.Test.YtkgphdicnjkgbaaDoorKss15
import Derived.Test.YtkgphdicnjkgbaaDoorRows
import Derived.WalkKit
import Derived.LoopTactic
import Derived.LoopN
import Derived.Laws.OwnMore
import Derived.OwnWalk
import Derived.Deep.AppendLies
import Derived.Laws.Bits64b
import Derived.WalkSpells
import Derived.WalkLawsBesides
import Derived.StillTactics
import Derived.Laws.Pointers
import Derived.Deep.RegionHeld3
import Derived.Deep.QuietTactic
import Derived.BigQuiet
import Derived.Outline
import Derived.Lib.Hide
import Derived.RowKit3
import Derived.Carry
import Derived.IntWalk
import Derived.Laws.BitsAllLaws
import Derived.ScopeJumps
import Derived.WalkMore
namespace Go.Proofs.YtkgphdicnjkgbaaDoor
open Go Go.RowKit
set_option linter.unusedSimpArgs false
set_option linter.unusedVariables false
set_option maxRecDepth 100000

theorem own_ext {w w' : World} {base : Nat} {e : TypeId} {size : Nat} {v : Value} {n : Nat} {xs : List Value} (h : w.ownsRow base e size v n xs) (hb : Ext w w') : w'.ownsRow base e size v n xs :=
  h.kept (row := none) ⟨hb.os, hb.tape, hb.output, hb.size, fun k hk _ => hb.block k hk⟩ (by by_cases h : v.ownBlock = none; exact Or.inl h; exact Or.inr h)

theorem ext_grown {w W w' : World} {row : Option Nat} (hx : Ext w W) (hg : W.grownBy w' row) (hr : ∀ k, row = some k → w.heap.size ≤ k) : Ext w w' :=
  ⟨hg.os.trans hx.os, hg.tape.trans hx.tape, hg.output.trans hx.output, Nat.le_trans hx.size hg.size, fun k hk => (hg.block k (Nat.lt_of_lt_of_le hk hx.size) (fun h => by have := hr k h.symm; omega)).trans (hx.block k hk)⟩

theorem valuesOf2_bad (e f : Int) (v : Value) (hg1 : goodB e f = false) (w : World) : Calls Tryd.prog 29 #[fmt e f, v] w fun rv w' => rv = .returned (.tuple #[.slice none 0 0, .bool false]) ∧ Ext w w' := by
  go_enter Tryd.func29, Tryd.ntmps29
  go_wp2_with (go_at_call 52; refine (isFormat_any e f _).mono ?_; rintro rv w1 ⟨rfl, hb⟩; have ns : w.heap.size < w1.heap.size := hb.ltK; have n0 : w1.cell? ⟨w.heap.size, 0, none⟩ = some (.int .i64 e) := hb.cellK; have n1 : w1.cell? ⟨w.heap.size, 1, none⟩ = some (.int .i64 f) := hb.cellK; (first | (have nx := Ext.trans hx hb; clear hx) | (have nx := Ext.trans (hx.alloc _) hb; clear hx) | (have nx := Ext.trans hx.drew hb; clear hx) | have nx := hb); clear hb; try clear hs; try clear g0; try clear g1; have hx := nx; clear nx; have hs := ns; clear ns; have g0 := n0; clear n0; have g1 := n1; clear n1)
  go_ret2
  exact ⟨rfl, Ext.auK⟩
end Go.Proofs.YtkgphdicnjkgbaaDoor

namespace Go.Proofs.YtkgphdicnjkgbaaDoor
open Go Go.RowKit
set_option linter.unusedSimpArgs false
set_option linter.unusedVariables false
set_option maxRecDepth 100000

theorem mag_mod {e f p : Int} (hp : patB e f p = true) : magV e f p = mgV f (p % pw (e + f)) := by
  obtain ⟨hg, p0, p1⟩ := pat_iff.1 hp
  obtain ⟨h1, h2, h3, h4⟩ := good_iff.1 hg
  have hd : pw (e + f) = pw e * pw f := pw_add e f (by omega) (by omega)
  have hm : p % pw (e + f) % pw f = p % pw f := by
    rw [hd]
    exact Int.emod_emod_of_dvd p ⟨pw e, Int.mul_comm _ _⟩
  unfold magV mgV
  rw [hm]

/-- The size of a finite pattern. -/
theorem fin_size {e f p : Int} (h : finB e f p = true) : goodB e f = true ∧ 0 ≤ p % pw (e + f) ∧ p % pw (e + f) ≤ grV e f ∧ ((unitsV e f p).natAbs : Int) = mgV f (p % pw (e + f)) := by
  obtain ⟨hp, hx⟩ := fin_pat h
  obtain ⟨hg, p0, p1⟩ := pat_iff.1 hp
  have pp := pw_pos (e + f)
  have r0 := Int.emod_nonneg p (show pw (e + f) ≠ 0 by omega)
  have c := pw_pos f
  have le : p % pw (e + f) ≤ grV e f := by
    rw [Int.ediv_lt_iff_lt_mul (by omega)] at hx
    unfold grV
    omega
  refine ⟨hg, r0, le, ?_⟩
  have hb := mag_bd e f p hp
  rw [← mag_mod hp]
  unfold unitsV
  split <;> omega

theorem ns_small {e f a b : Int} (ha : finB e f a = true) (hb : finB e f b = true) : -4398046511104 ≤ unitsV e f a + unitsV e f b ∧ unitsV e f a + unitsV e f b ≤ 4398046511104 ∧ -2199023255552 < unitsV e f a ∧ unitsV e f a < 2199023255552 ∧ -2199023255552 < unitsV e f b ∧ unitsV e f b < 2199023255552 := by
  obtain ⟨hg, a0, a1, a2⟩ := fin_size ha
  obtain ⟨_, b0, b1, b2⟩ := fin_size hb
  have := mg_bd hg a0 a1
  have := mg_bd hg b0 b1
  omega
end Go.Proofs.YtkgphdicnjkgbaaDoor

