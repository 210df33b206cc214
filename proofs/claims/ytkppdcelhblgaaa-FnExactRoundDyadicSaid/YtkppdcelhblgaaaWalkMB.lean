/-
  The contract of the function that finds the pattern below and what is left above it, under the conditions that its line names.
-/
import Derived.Test.YtkppdcelhblgaaaRows
import Derived.Test.YtkppdcelhblgaaaPlain
import Derived.Test.YtkppdcelhblgaaaBelow
import Derived.Test.YtkppdcelhblgaaaNear
import Derived.Test.YtkppdcelhblgaaaDy
import Derived.Test.YtkppdcelhblgaaaDyC
import Derived.Test.YtkppdcelhblgaaaWalkA
import Derived.Test.YtkppdcelhblgaaaWalkDA
import Derived.Test.YtkppdcelhblgaaaLen
import Derived.Test.YtkppdcelhblgaaaWalkDB
import Derived.Test.YtkppdcelhblgaaaFlt
import Derived.Test.YtkppdcelhblgaaaFltO
import Derived.Test.YtkppdcelhblgaaaFltL
import Derived.Test.YtkppdcelhblgaaaFltB2
import Derived.Test.YtkppdcelhblgaaaRnd
import Derived.Test.YtkppdcelhblgaaaRndD
import Derived.Test.YtkppdcelhblgaaaFltU
import Derived.Test.YtkppdcelhblgaaaFltF
import Derived.Test.YtkppdcelhblgaaaFltR
import Derived.Test.YtkppdcelhblgaaaFltG
import Derived.Test.YtkppdcelhblgaaaFloat
import Derived.Test.YtkppdcelhblgaaaWalkC
import Derived.Test.YtkppdcelhblgaaaWalkD
import Derived.Test.YtkppdcelhblgaaaWalkF
import Derived.Test.YtkppdcelhblgaaaWalkW
import Derived.Test.YtkppdcelhblgaaaWalkX
import Derived.Test.YtkppdcelhblgaaaWalkBL
import Derived.Test.YtkppdcelhblgaaaWalkRB
import Derived.Test.YtkppdcelhblgaaaWalkH
import Derived.Test.YtkppdcelhblgaaaWalkI
import Derived.Test.YtkppdcelhblgaaaWalkLX
import Derived.Test.YtkppdcelhblgaaaWalkLY
import Derived.Test.YtkppdcelhblgaaaWalkLZ
import Derived.Test.YtkppdcelhblgaaaWalkMA
import Derived.WalkKit
import Derived.LoopTactic
import Derived.Laws.Bits64b
import Derived.WalkSpells
import Derived.WalkLawsBesides
import Derived.StillTactics
import Derived.Laws.Pointers
import Derived.Deep.RegionHeld3
import Derived.Deep.QuietTactic
import Derived.BigQuiet
import Derived.Outline
import Derived.Lib.Hide
import Derived.RowKit3
import Derived.Carry
import Derived.IntWalk
namespace Go.Proofs.Ytkppdcelhblgaaa
open Go Go.RowKit
set_option linter.unusedSimpArgs false
set_option linter.unusedVariables false

theorem gr_x {e f : Int} (hg : goodB e f = true) : grV e f < (pw e - 1) * pw f ∧ (pw e - 1) * pw f ≤ 31 * pw f := by
  obtain ⟨h1, h2, h3, h4⟩ := good_iff.1 hg
  obtain ⟨⟨a1, a2⟩, ⟨b1, b2⟩, ⟨c1, c2⟩, hmul⟩ := pw_facts h1 h2 h3 h4
  exact ⟨by unfold grV; omega, Int.mul_le_mul_of_nonneg_right (by omega) (by omega)⟩

/-- The fields of a pattern that is at most the greatest one. -/
theorem p_parts {e f p : Int} (hg : goodB e f = true) (h0 : 0 ≤ p) (h1 : p ≤ grV e f) : 0 ≤ p / pw f ∧ p / pw f < 31 ∧ p / pw f < pw e - 1 ∧ 0 ≤ p % pw f ∧ p % pw f < pw f ∧ p / pw f * pw f + p % pw f = p := by
  obtain ⟨g1, g2⟩ := gr_x hg
  have hA := pw_pos f
  refine ⟨Int.ediv_nonneg h0 (by omega), Int.ediv_lt_of_lt_mul (by omega) (by omega), Int.ediv_lt_of_lt_mul (by omega) (by omega), Int.emod_nonneg _ (by omega), Int.emod_lt_of_pos _ (by omega), ?_⟩
  rw [Int.mul_comm]
  exact Int.mul_ediv_add_emod _ _

theorem mgN_ok {e f p : Int} (hg : goodB e f = true) (h0 : 0 ≤ p) (h1 : p ≤ grV e f) : Ok Ieee.single (mgN f p) ∧ mgN f p < 2 ^ 190 := by
  obtain ⟨x0, x1, x2, r0, r1, e1⟩ := p_parts hg h0 h1
  obtain ⟨_, _, h3, h4⟩ := good_iff.1 hg
  have c2 : pw f ≤ 1024 := pw_le 10 1024 rfl h4
  obtain ⟨m0, m1⟩ := mg_bd hg h0 h1
  constructor
  · by_cases hx : p / pw f = 0
    · rw [hx, Int.zero_mul, Int.zero_add] at e1
      have := (mgN_low f (p % pw f) r0 r1 (by omega)).1
      rwa [e1] at this
    · have := (mgN_high f (p / pw f) (p % pw f) h3 h4 (by omega) x1 r0 r1).1
      rwa [e1] at this
  · unfold mgN
    have : (mgV f p).toNat < 2 ^ 41 := by omega
    have := Nat.mul_lt_mul_of_pos_right this (Nat.two_pow_pos 149)
    rwa [← Nat.pow_add] at this

theorem greatest_gr (e f : Int) (hg : goodB e f = true) (w : World) : Calls Try.prog 85 #[fmt e f] w fun rv w' => rv = .returned (.tuple #[.int .i64 (grV e f), .bool true]) ∧ Ext w w' := iGreatestOf_yes e f hg w

theorem fieldsOf_gr (e f p : Int) (hg : goodB e f = true) (h0 : 0 ≤ p) (h1 : p ≤ grV e f) (w : World) : Calls Try.prog 87 #[fmt e f, .int .i64 p] w fun rv w' => rv = .returned (.agg #[.int .i64 0, .int .i64 (p / pw f), .int .i64 (p % pw f)]) ∧ Ext w w' := by
  obtain ⟨g0, g1, g2⟩ := gr_bd2 hg
  have e1 : p / pw (e + f) = 0 := Int.ediv_eq_zero_of_lt h0 (by omega)
  have e2 : p % pw (e + f) = p := Int.emod_eq_of_lt h0 (by omega)
  have := fieldsOf_any e f p hg h0 (by omega) w
  rwa [e1, e2] at this

theorem floatOf_p (e f p : Int) (hg : goodB e f = true) (h0 : 0 ≤ p) (h1 : p ≤ grV e f) (w : World) : Calls Try.prog 86 #[fmt e f, .agg #[.int .i64 0, .int .i64 (p / pw f), .int .i64 (p % pw f)]] w fun rv w' => rv = .returned (.float .f32 (fw Ieee.single (mgN f p))) ∧ Ext w w' := by
  obtain ⟨x0, x1, x2, r0, r1, e1⟩ := p_parts hg h0 h1
  have := floatOf_mg e f 0 (p / pw f) (p % pw f) hg x0 x1 r0 r1 w
  rwa [e1] at this

theorem patternOf_p (e f p : Int) (hg : goodB e f = true) (h0 : 0 ≤ p) (h1 : p ≤ grV e f) (w : World) : Calls Try.prog 62 #[fmt e f, .agg #[.int .i64 0, .int .i64 (p / pw f), .int .i64 (p % pw f)]] w fun rv w' => rv = .returned (.int .i64 p) ∧ Ext w w' := by
  obtain ⟨x0, x1, x2, r0, r1, e1⟩ := p_parts hg h0 h1
  have := patternOf_any e f 0 (p / pw f) (p % pw f) hg (by decide) (by decide) x0 (by omega) r0 r1 w
  rwa [e1, Int.zero_mul, Int.zero_add] at this

theorem step_p (e f p : Int) (hg : goodB e f = true) (h0 : 0 ≤ p) (h1 : p ≤ grV e f) (w : World) : Calls Try.prog 89 #[fmt e f, .int .i64 p] w fun rv w' => rv = .returned (.tuple #[.int .i64 (stV f p), .bool true]) ∧ Ext w w' := by
  obtain ⟨x0, x1, x2, r0, r1, e1⟩ := p_parts hg h0 h1
  obtain ⟨g0, g1, g2⟩ := gr_bd2 hg
  obtain ⟨h1', h2', h3', h4'⟩ := good_iff.1 hg
  obtain ⟨_, ⟨b1, b2⟩, ⟨c1, c2⟩, hmul⟩ := pw_facts h1' h2' h3' h4'
  have hp : patB e f p = true := pat_iff.2 ⟨hg, h0, by omega⟩
  have hf : finB e f p = true := by
    unfold finB
    rw [hp, Bool.true_and, Int.emod_eq_of_lt h0 (by omega), decide_eq_true_eq]
    exact x2
  have := iStepUnits_yes e f p hf w
  rwa [step_st h0 (by omega)] at this

/-- A step, in units of 2^-149. -/
def stN (f p : Int) : Nat := (stV f p).toNat * 2 ^ 149

theorem st_pw {e f p : Int} (hg : goodB e f = true) (h0 : 0 ≤ p) (h1 : p ≤ grV e f) : ∃ s : Nat, stV f p = ((2 ^ s : Nat) : Int) ∧ s ≤ 29 := by
  obtain ⟨x0, x1, x2, r0, r1, e1⟩ := p_parts hg h0 h1
  refine ⟨(max 0 (p / pw f - 1)).toNat, ?_, by omega⟩
  unfold stV
  have := pw_cast (max 0 (p / pw f - 1)).toNat
  rw [Int.toNat_of_nonneg (by omega)] at this
  first | exact this | exact this.symm

theorem stN_ok {e f p : Int} (hg : goodB e f = true) (h0 : 0 ≤ p) (h1 : p ≤ grV e f) : Ok Ieee.single (stN f p) ∧ floatOfInt .f32 (stV f p) = fw Ieee.single (stN f p) := by
  obtain ⟨s, e1, hs⟩ := st_pw hg h0 h1
  unfold stN
  rw [e1, Int.toNat_natCast]
  refine ⟨?_, int_fw (f := Ieee.single) (2 ^ s) 149 (by decide)⟩
  have := ok32 (c := 1) (j := s + 149) (by decide) (by omega)
  rwa [Nat.one_mul, Nat.pow_add] at this

/-- The pattern below, what is left above it, and the step. -/
def SpotOut (e f : Int) (Y : Nat) (w : World) (rv : Ending) (w' : World) : Prop := ∃ p : Int, rv = .returned (.agg #[.int .i64 p, .float .f32 (fw Ieee.single (Y - mgN f p)), .float .f32 (fw Ieee.single (stN f p))]) ∧ BelowQ f (grV e f) (Y : Int) (pw 149) p ∧ Ext w w'

theorem ffP (e f : Int) (Y : Nat) (hg : goodB e f = true) (ok : Ok Ieee.single Y) (w : World) : Calls Try.prog 88 #[fmt e f, .float .f32 (fw Ieee.single (min Y (mgN f (grV e f))))] w fun rv w' => ∃ p : Int, rv = .returned (.agg #[.int .i64 0, .int .i64 (p / pw f), .int .i64 (p % pw f)]) ∧ BelowQ f (grV e f) (Y : Int) (pw 149) p ∧ Ext w w' := by
  obtain ⟨gg0, gg1, gg2⟩ := gr_bd2 hg
  obtain ⟨okG, ltG⟩ := mgN_ok (p := grV e f) hg (by omega) (Int.le_refl _)
  obtain ⟨m0, m1⟩ := mg_bd (p := grV e f) hg (by omega) (Int.le_refl _)
  have hA := pw_pos f
  have okV : Ok Ieee.single (min Y (mgN f (grV e f))) := by
    rcases Nat.le_total Y (mgN f (grV e f)) with h | h
    · rwa [Nat.min_eq_left h]
    · rwa [Nat.min_eq_right h]
  have cG := mgN_cast f (grV e f) m0
  refine (ff_any e f _ hg okV (Nat.lt_of_le_of_lt (Nat.min_le_right _ _) ltG) w).mono ?_
  rintro rv w' ⟨x, r, rfl, x0, ⟨r0, r1⟩, q1, q2, hb⟩
  have e1 : (x * pw f + r) / pw f = x := by
    rw [Int.add_comm, Int.add_mul_ediv_right _ _ (by omega), Int.ediv_eq_zero_of_lt r0 r1, Int.zero_add]
  have e2 : (x * pw f + r) % pw f = r := by
    rw [Int.add_comm, Int.add_mul_emod_self_right]
    exact Int.emod_eq_of_lt r0 r1
  have cV : ((min Y (mgN f (grV e f)) : Nat) : Int) = min (Y : Int) (mgV f (grV e f) * pw 149) := by rw [← cG]; omega
  rw [cV] at q1 q2
  have p0 : 0 ≤ x * pw f + r := Int.add_nonneg (Int.mul_nonneg x0 (by omega)) r0
  exact ⟨x * pw f + r, by rw [e1, e2], below_cut hg p0 q1 q2, hb⟩

end Go.Proofs.Ytkppdcelhblgaaa
