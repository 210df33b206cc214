/-
  Contracts of the functions that the laws reach, and the plain facts that they rest on, each under the conditions that its line names; part 16.
-/
import Derived.Test.YtcbkhlaiefiieacDoorKyc1
import Derived.Test.YtcbkhlaiefiieacDoorKyc2
import Derived.Test.YtcbkhlaiefiieacDoorKyc3
import Derived.Test.YtcbkhlaiefiieacDoorKyc4
import Derived.Test.YtcbkhlaiefiieacDoorKyc5
import Derived.Test.YtcbkhlaiefiieacDoorKyc6
import Derived.Test.YtcbkhlaiefiieacDoorKyc7
import Derived.Test.YtcbkhlaiefiieacDoorKyc14
import Derived.Test.YtcbkhlaiefiieacDoorKyc15
import Derived.Test.YtcbkhlaiefiieacDoorRows
import Derived.WalkKit
import Derived.LoopTactic
import Derived.Laws.Bits64b
import Derived.WalkSpells
import Derived.WalkLawsBesides
import Derived.StillTactics
import Derived.Laws.Pointers
import Derived.Deep.RegionHeld3
import Derived.Deep.QuietTactic
import Derived.BigQuiet
import Derived.Outline
import Derived.Deep.DeepCutAuto
import Derived.Deep.CutBlock
import Derived.Lib.Hide
import Derived.RowKit3
import Derived.Carry
import Derived.IntWalk
namespace Go.Proofs.YtcbkhlaiefiieacDoor
open Go Go.RowKit
set_option linter.unusedSimpArgs false
set_option linter.unusedVariables false

abbrev tri (a b c : Int) : Value := .agg #[.int .i64 (a), .int .i64 (b), .int .i64 (c)]

/-- The size is told. -/
def SizeOut (e f N k : Int) (w : World) (rv : Ending) (w' : World) : Prop := ∃ u r h : Int, rv = .returned (tri u r h) ∧ SizeOf e f N k u r h ∧ Ext w w'

theorem rdOf_any (e f n d : Int) (hg : goodB e f = true) (hd : RdIn n (d - unV e f)) (w : World) : Calls Tryd.prog 94 #[fmt e f, two n d] w (SizeOut e f (n.natAbs : Int) (d - unV e f) w) := by
  obtain ⟨⟨h1, h2⟩, ⟨h3, h4⟩, h5⟩ := id hd
  obtain ⟨u1, u2, u3, u4⟩ := un_bd hg
  by_cases h0 : n = 0
  · refine (rdOf_zero e f n d hg hd h0 w).mono ?_
    rintro rv w' ⟨rfl, hb⟩
    exact ⟨0, 0, 1, rfl, by subst h0; exact size_zero e f _, hb⟩
  · by_cases hk : 0 ≤ (d - unV e f)
    · by_cases hb4 : 44 < plV n + (d - unV e f)
      · refine (rdOf_great e f n d hg hd h0 hk hb4 w).mono ?_
        rintro rv w' ⟨rfl, hb⟩
        exact ⟨_, 0, 1, rfl, size_great hg h1 h2 h0 hk hb4, hb⟩
      · refine (rdOf_whole e f n d hg hd h0 hk (by omega) w).mono ?_
        rintro rv w' ⟨rfl, hb⟩
        have b := mul_bd (n := n) (j := (d - unV e f)) (k := 44) hk (by omega) (by decide) (by omega) (by omega)
        have b2 : (n.natAbs : Int) * pw (d - unV e f) = (n * pw (d - unV e f)).natAbs := by rw [Int.natAbs_mul, Int.natCast_mul]; congr 1
        rw [show pw 44 = 17592186044416 from rfl] at b
        exact ⟨_, 0, 1, rfl, size_whole (by rw [b2]; omega) (by rw [b2]; omega) hk, hb⟩
    · by_cases hk6 : (d - unV e f) < -60
      · refine (rdOf_tiny e f n d hg hd h0 hk6 w).mono ?_
        rintro rv w' ⟨rfl, hb⟩
        exact ⟨0, 1, 4, rfl, size_tiny hg (by omega) (by have := h5 hk6; omega) hk6 (by omega), hb⟩
      · refine (rdOf_part e f n d hg hd h0 (by omega) (by omega) w).mono ?_
        rintro rv w' ⟨rfl, hb⟩
        exact ⟨_, _, _, rfl, size_part (by omega) (by omega) (by omega) (by omega), hb⟩

theorem gr_bd2 {e f : Int} (hg : goodB e f = true) : 0 < grV e f ∧ grV e f < pw (e + f) ∧ grV e f ≤ 32767 := by
  obtain ⟨h1, h2, h3, h4⟩ := good_iff.1 hg
  obtain ⟨⟨a1, a2⟩, ⟨b1, b2⟩, ⟨c1, c2⟩, hmul⟩ := pw_facts h1 h2 h3 h4
  have := Int.mul_le_mul_of_nonneg_right (show 3 ≤ pw e - 1 by omega) (show 0 ≤ pw f by omega)
  unfold grV
  rw [hmul] at a2
  rw [hmul, Int.sub_mul]
  rw [Int.sub_mul] at this
  omega

theorem step_st {e f p : Int} (h0 : 0 ≤ p) (h1 : p < pw (e + f)) : stepV e f p = stV f p := by
  unfold stepV stV
  rw [Int.emod_eq_of_lt h0 h1]

theorem st_bd {e f p : Int} (hg : goodB e f = true) (h0 : 0 ≤ p) (h1 : p ≤ grV e f) : 1 ≤ stV f p ∧ stV f p ≤ 1073741824 := by
  obtain ⟨g1, g2, g3, g4⟩ := good_iff.1 hg
  obtain ⟨⟨a1, a2⟩, ⟨b1, b2⟩, ⟨c1, c2⟩, hmul⟩ := pw_facts g1 g2 g3 g4
  have hx : p / pw f < pw e - 1 := Int.ediv_lt_of_lt_mul (by omega) (by unfold grV at h1; omega)
  unfold stV
  exact ⟨pw_pos _, pw_le 30 1073741824 rfl (by omega)⟩

theorem mg_bd {e f p : Int} (hg : goodB e f = true) (h0 : 0 ≤ p) (h1 : p ≤ grV e f) : 0 ≤ mgV f p ∧ mgV f p < 2199023255552 := by
  obtain ⟨t0, t1⟩ := pt_lt hg ⟨p, h0, h1, Or.inl rfl⟩
  omega

theorem fmUnits_size (e f p : Int) (hp : patB e f p = true) (h : p < pw (e + f)) (w : World) : Calls Tryd.prog 57 #[fmt e f, .int .i64 p] w fun rv w' => rv = .returned (.int .i64 (mgV f p)) ∧ Ext w w' := by
  have := fmUnits_any e f p hp w
  rwa [units_mg e f p hp h] at this
end Go.Proofs.YtcbkhlaiefiieacDoor

namespace Go.Proofs.YtcbkhlaiefiieacDoor
open Go Go.RowKit
set_option linter.unusedSimpArgs false
set_option linter.unusedVariables false

/-- There are a format and a number. -/
def asB (e f n d : Int) : Bool := goodB e f && dyB n d

theorem as_iff {e f n d : Int} : asB e f n d = true ↔ goodB e f = true ∧ dyB n d = true := by unfold asB; simp

/-- One of the modes. -/
def moB (m : Int) : Bool := decide (0 ≤ m ∧ m ≤ 5)

theorem mo_iff {m : Int} : moB m = true ↔ 0 ≤ m ∧ m ≤ 5 := by unfold moB; simp

/-- What RoundDyadic asks for. -/
def rqB (e f n d m : Int) : Bool := asB e f n d && moB m

theorem rq_iff {e f n d m : Int} : rqB e f n d m = true ↔ (goodB e f = true ∧ dyB n d = true) ∧ 0 ≤ m ∧ m ≤ 5 := by
  unfold rqB; rw [Bool.and_eq_true, as_iff, mo_iff]

/-- What it hands back. -/
def RDout (e f n k mode : Int) (w : World) (rv : Ending) (w' : World) : Prop := ∃ s : Int, rv = .returned (.tuple #[.int .i64 (sgP e f n s), .bool true]) ∧ RndD e f (n.natAbs : Int) k mode (decide (n < 0)) s ∧ Ext w w'
end Go.Proofs.YtcbkhlaiefiieacDoor

