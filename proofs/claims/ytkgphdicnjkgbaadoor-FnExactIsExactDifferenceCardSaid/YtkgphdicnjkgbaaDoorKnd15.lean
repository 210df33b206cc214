/-
  Contracts of the functions that the laws reach, and the plain facts that they rest on, each under the conditions that its line names; part 15.
-/
import Derived.Test.YtkgphdicnjkgbaaDoorKnd1
import Derived.Test.YtkgphdicnjkgbaaDoorKnd2
import Derived.Test.YtkgphdicnjkgbaaDoorKnd3
import Derived.Test.YtkgphdicnjkgbaaDoorKnd4
import Derived.Test.YtkgphdicnjkgbaaDoorKnd5
import Derived.Test.YtkgphdicnjkgbaaDoorKnd6
import Derived.Test.YtkgphdicnjkgbaaDoorKnd7
import Derived.Test.YtkgphdicnjkgbaaDoorKnd14
import Derived.Test.YtkgphdicnjkgbaaDoorRows
import Derived.WalkKit
import Derived.LoopTactic
import Derived.Laws.Bits64b
import Derived.WalkSpells
import Derived.WalkLawsBesides
import Derived.StillTactics
import Derived.Laws.Pointers
import Derived.Deep.RegionHeld3
import Derived.Deep.QuietTactic
import Derived.BigQuiet
import Derived.Outline
import Derived.Deep.DeepCutAuto
import Derived.Deep.CutBlock
import Derived.Lib.Hide
import Derived.RowKit3
import Derived.Carry
import Derived.IntWalk
namespace Go.Proofs.YtkgphdicnjkgbaaDoor
open Go Go.RowKit
set_option linter.unusedSimpArgs false
set_option linter.unusedVariables false

theorem gr_bd2 {e f : Int} (hg : goodB e f = true) : 0 < grV e f ∧ grV e f < pw (e + f) ∧ grV e f ≤ 32767 := by
  obtain ⟨h1, h2, h3, h4⟩ := good_iff.1 hg
  obtain ⟨⟨a1, a2⟩, ⟨b1, b2⟩, ⟨c1, c2⟩, hmul⟩ := pw_facts h1 h2 h3 h4
  have := Int.mul_le_mul_of_nonneg_right (show 3 ≤ pw e - 1 by omega) (show 0 ≤ pw f by omega)
  unfold grV
  rw [hmul] at a2
  rw [hmul, Int.sub_mul]
  rw [Int.sub_mul] at this
  omega

theorem step_st {e f p : Int} (h0 : 0 ≤ p) (h1 : p < pw (e + f)) : stepV e f p = stV f p := by
  unfold stepV stV
  rw [Int.emod_eq_of_lt h0 h1]

theorem st_bd {e f p : Int} (hg : goodB e f = true) (h0 : 0 ≤ p) (h1 : p ≤ grV e f) : 1 ≤ stV f p ∧ stV f p ≤ 1073741824 := by
  obtain ⟨g1, g2, g3, g4⟩ := good_iff.1 hg
  obtain ⟨⟨a1, a2⟩, ⟨b1, b2⟩, ⟨c1, c2⟩, hmul⟩ := pw_facts g1 g2 g3 g4
  have hx : p / pw f < pw e - 1 := Int.ediv_lt_of_lt_mul (by omega) (by unfold grV at h1; omega)
  unfold stV
  exact ⟨pw_pos _, pw_le 30 1073741824 rfl (by omega)⟩

theorem mg_bd {e f p : Int} (hg : goodB e f = true) (h0 : 0 ≤ p) (h1 : p ≤ grV e f) : 0 ≤ mgV f p ∧ mgV f p < 2199023255552 := by
  obtain ⟨t0, t1⟩ := pt_lt hg ⟨p, h0, h1, Or.inl rfl⟩
  omega

theorem fmUnits_size (e f p : Int) (hp : patB e f p = true) (h : p < pw (e + f)) (w : World) : Calls Tryd.prog 21 #[fmt e f, .int .i64 p] w fun rv w' => rv = .returned (.int .i64 (mgV f p)) ∧ Ext w w' := by
  have := fmUnits_any e f p hp w
  rwa [units_mg e f p hp h] at this
end Go.Proofs.YtkgphdicnjkgbaaDoor

namespace Go.Proofs.YtkgphdicnjkgbaaDoor
open Go Go.RowKit
set_option linter.unusedSimpArgs false
set_option linter.unusedVariables false

/-- There are a format and a number. -/
def asB (e f n d : Int) : Bool := goodB e f && dyB n d

theorem as_iff {e f n d : Int} : asB e f n d = true ↔ goodB e f = true ∧ dyB n d = true := by unfold asB; simp

/-- One of the modes. -/
def moB (m : Int) : Bool := decide (0 ≤ m ∧ m ≤ 5)

theorem mo_iff {m : Int} : moB m = true ↔ 0 ≤ m ∧ m ≤ 5 := by unfold moB; simp

/-- What RoundDyadic asks for. -/
def rqB (e f n d m : Int) : Bool := asB e f n d && moB m

theorem rq_iff {e f n d m : Int} : rqB e f n d m = true ↔ (goodB e f = true ∧ dyB n d = true) ∧ 0 ≤ m ∧ m ≤ 5 := by
  unfold rqB; rw [Bool.and_eq_true, as_iff, mo_iff]

/-- What it hands back. -/
def RDout (e f n k mode : Int) (w : World) (rv : Ending) (w' : World) : Prop := ∃ s : Int, rv = .returned (.tuple #[.int .i64 (sgP e f n s), .bool true]) ∧ RndD e f (n.natAbs : Int) k mode (decide (n < 0)) s ∧ Ext w w'
end Go.Proofs.YtkgphdicnjkgbaaDoor

