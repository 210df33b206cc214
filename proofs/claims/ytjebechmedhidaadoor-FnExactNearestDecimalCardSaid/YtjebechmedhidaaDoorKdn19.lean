/-
  Contracts of the functions that the laws reach, and the plain facts that they rest on, each under the conditions that its line names; part 19.
-/
import Derived.Test.YtjebechmedhidaaDoorKdn1
import Derived.Test.YtjebechmedhidaaDoorKdn2
import Derived.Test.YtjebechmedhidaaDoorKdn3
import Derived.Test.YtjebechmedhidaaDoorKdn4
import Derived.Test.YtjebechmedhidaaDoorKdn5
import Derived.Test.YtjebechmedhidaaDoorKdn6
import Derived.Test.YtjebechmedhidaaDoorKdn7
import Derived.Test.YtjebechmedhidaaDoorKdn8
import Derived.Test.YtjebechmedhidaaDoorKdn9
import Derived.Test.YtjebechmedhidaaDoorKdn10
import Derived.Test.YtjebechmedhidaaDoorKdn11
import Derived.Test.YtjebechmedhidaaDoorKdn12
import Derived.Test.YtjebechmedhidaaDoorKdn13
import Derived.Test.YtjebechmedhidaaDoorKdn14
import Derived.Test.YtjebechmedhidaaDoorKdn15
import Derived.Test.YtjebechmedhidaaDoorKdn16
import Derived.Test.YtjebechmedhidaaDoorKdn17
import Derived.Test.YtjebechmedhidaaDoorKdn18
import Derived.Test.YtjebechmedhidaaDoorRows
import Derived.WalkKit
import Derived.LoopTactic
import Derived.Laws.Bits64b
import Derived.WalkSpells
import Derived.WalkLawsBesides
import Derived.StillTactics
import Derived.Laws.Pointers
import Derived.Deep.RegionHeld3
import Derived.Deep.QuietTactic
import Derived.BigQuiet
import Derived.Outline
import Derived.Lib.Hide
import Derived.RowKit3
import Derived.Carry
import Derived.IntWalk
import Derived.Shelf.Small.Bits
import Derived.Shelf.Small.Wraps
import Derived.Shelf.Strconv.Itoa0
import Derived.Ground.Names2Prog
import Derived.Shelf.Slices.SearchI
import Derived.Test.YtjebechmedhidaaDoorProg
namespace Go.Proofs.YtjebechmedhidaaDoor
open Go Go.RowKit
set_option linter.unusedSimpArgs false
set_option linter.unusedVariables false

theorem rounded_any (p mode : Int) (R S : Nat) (neg : Bool) (p0 : 0 ≤ p) (p1 : p ≤ 1152921504606846976) (okR : Ok Ieee.single R) (ltR : R < 2 ^ 192) (okS : Ok Ieee.single S) (m0 : 0 ≤ mode) (m1 : mode ≤ 5) (w : World) :
    Calls Tryd.prog 101 #[.agg #[.int .i64 p, .float .f32 (fw Ieee.single R), .float .f32 (fw Ieee.single S)], .int .i64 mode, .bool neg] w fun rv w' => rv = .returned (.int .i64 (rndP (R : Int) (S : Int) p mode neg)) ∧ Ext w w' := by
  have oz : FloatKind.f32.format.order (fw Ieee.single R) 0 = some (if R = 0 then .eq else .gt) := order_zero okR
  by_cases hR : R = 0
  · rw [if_pos hR] at oz
    have e : rndP (R : Int) (S : Int) p mode neg = p := by unfold rndP; rw [if_pos (by omega)]
    rw [e]
    exact rounded_zero p _ _ mode neg p0 p1 oz w
  · rw [if_neg hR] at oz
    have hm := mul_two okR
    have ok2 := ok_two okR ltR
    have hc0 := fun w => compare_fw (2 * R) S ok2 okS w
    have e0 : rndP (R : Int) (S : Int) p mode neg = if upR (R : Int) (S : Int) p mode neg = true then p + 1 else p := by unfold rndP; rw [if_neg (show ¬ (R : Int) = 0 by omega)]
    rw [e0]
    have par : p % 2 = 0 ∨ p % 2 = 1 := by omega
    have hmode : mode = 0 ∨ mode = 1 ∨ mode = 2 ∨ mode = 3 ∨ mode = 4 ∨ mode = 5 := by omega
    rcases hmode with rfl | rfl | rfl | rfl | rfl | rfl
    · have u : upR (R : Int) (S : Int) p 0 neg = decide ((S : Int) < 2 * (R : Int) ∨ (2 * (R : Int) = S ∧ p % 2 = 1)) := rfl
      rw [u]
      rcases Nat.lt_trichotomy (2 * R) S with g | g | g
      · rw [decide_eq_false (by omega)]
        rw [sg_neg (show ((2 * R : Nat) : Int) - S < 0 by omega)] at hc0
        exact rounded_evenL p _ _ neg p0 p1 oz _ hm hc0 w
      · rw [sg_zero (show ((2 * R : Nat) : Int) - S = 0 by omega)] at hc0
        rcases par with h | h
        · rw [decide_eq_false (by omega)]
          exact rounded_evenE p _ _ neg p0 p1 oz _ hm hc0 h w
        · rw [decide_eq_true (by omega)]
          exact rounded_evenO p _ _ neg p0 p1 oz _ hm hc0 h w
      · rw [decide_eq_true (by omega)]
        rw [sg_pos (show 0 < ((2 * R : Nat) : Int) - S by omega)] at hc0
        exact rounded_evenG p _ _ neg p0 p1 oz _ hm hc0 w
    · have u : upR (R : Int) (S : Int) p 1 neg = decide ((S : Int) ≤ 2 * (R : Int)) := rfl
      rw [u]
      rcases Nat.lt_trichotomy (2 * R) S with g | g | g
      · rw [decide_eq_false (by omega)]
        rw [sg_neg (show ((2 * R : Nat) : Int) - S < 0 by omega)] at hc0
        exact rounded_awayL p _ _ neg p0 p1 oz _ hm hc0 w
      · rw [sg_zero (show ((2 * R : Nat) : Int) - S = 0 by omega)] at hc0
        rw [decide_eq_true (by omega)]
        exact rounded_awayM p _ _ neg p0 p1 oz _ hm hc0 w
      · rw [decide_eq_true (by omega)]
        rw [sg_pos (show 0 < ((2 * R : Nat) : Int) - S by omega)] at hc0
        exact rounded_awayG p _ _ neg p0 p1 oz _ hm hc0 w
    · exact rounded_cut p _ _ neg p0 p1 oz w
    · cases neg
      · exact rounded_upP p _ _ p0 p1 oz w
      · exact rounded_upN p _ _ p0 p1 oz w
    · cases neg
      · exact rounded_downP p _ _ p0 p1 oz w
      · exact rounded_downN p _ _ p0 p1 oz w
    · have u : upR (R : Int) (S : Int) p 5 neg = decide (p % 2 = 0) := rfl
      rw [u]
      rcases par with h | h
      · rw [decide_eq_true h]
        exact rounded_oddE p _ _ neg p0 p1 oz h w
      · rw [decide_eq_false (by omega)]
        exact rounded_oddO p _ _ neg p0 p1 oz h w
end Go.Proofs.YtjebechmedhidaaDoor

namespace Go.Proofs.YtjebechmedhidaaDoor
open Go Go.RowKit
set_option linter.unusedSimpArgs false
set_option linter.unusedVariables false

/-- Twice a quotient, and the odd number behind it if something is left. -/
def oqV (n d : Int) : Int := 2 * n.tdiv d + sgV (n.tmod d)

theorem oq_pos {n d : Int} (hd : 0 < d) (h : 0 ≤ n) : oqV n d = 2 * (n / d) + (if n % d = 0 then 0 else 1) := by
  unfold oqV
  rw [Int.tdiv_eq_ediv_of_nonneg h, Int.tmod_eq_emod_of_nonneg h]
  have r0 := Int.emod_nonneg n (show d ≠ 0 by omega)
  by_cases hz : n % d = 0
  · rw [if_pos hz, sg_zero hz]
  · rw [if_neg hz, sg_pos (by omega)]

/-- Of four times a number over twice another one. -/
theorem oq_four {X D : Int} (hD : 0 < D) (h : 0 ≤ X) : oqV (4 * X) (2 * D) = 2 * (2 * X / D) + (if 2 * X % D = 0 then 0 else 1) := by
  rw [oq_pos (by omega) (by omega)]
  have e : 4 * X = 2 * (2 * X) := by omega
  have e1 : 4 * X / (2 * D) = 2 * X / D := by rw [e]; exact Int.mul_ediv_mul_of_pos (a := 2) (2 * X) D (by decide)
  have e2 : 4 * X % (2 * D) = 2 * (2 * X % D) := by rw [e]; exact Int.mul_emod_mul_of_pos (a := 2) (2 * X) D (by decide)
  rw [e1, e2]
  congr 1
  by_cases hz : 2 * X % D = 0
  · rw [if_pos hz, if_pos (by omega)]
  · rw [if_neg hz, if_neg (by omega)]

/-- How many quarters of a unit stand for a fraction. -/
def qrV (e f n d : Int) : Int := oqV (n * pw (2 - unV e f)) (2 * d)
end Go.Proofs.YtjebechmedhidaaDoor

