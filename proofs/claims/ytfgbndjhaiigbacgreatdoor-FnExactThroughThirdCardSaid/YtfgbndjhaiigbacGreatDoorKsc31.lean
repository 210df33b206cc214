/-
  Contracts of the functions that the laws reach, and the plain facts that they rest on, each under the conditions that its line names; part 31.
-/
import Derived.Test.YtfgbndjhaiigbacGreatDoorKsc1
import Derived.Test.YtfgbndjhaiigbacGreatDoorKsc2
import Derived.Test.YtfgbndjhaiigbacGreatDoorKsc3
import Derived.Test.YtfgbndjhaiigbacGreatDoorKsc4
import Derived.Test.YtfgbndjhaiigbacGreatDoorKsc5
import Derived.Test.YtfgbndjhaiigbacGreatDoorKsc6
import Derived.Test.YtfgbndjhaiigbacGreatDoorKsc7
import Derived.Test.YtfgbndjhaiigbacGreatDoorKsc8
import Derived.Test.YtfgbndjhaiigbacGreatDoorKsc9
import Derived.Test.YtfgbndjhaiigbacGreatDoorKsc10
import Derived.Test.YtfgbndjhaiigbacGreatDoorKsc11
import Derived.Test.YtfgbndjhaiigbacGreatDoorKsc12
import Derived.Test.YtfgbndjhaiigbacGreatDoorKsc13
import Derived.Test.YtfgbndjhaiigbacGreatDoorKsc14
import Derived.Test.YtfgbndjhaiigbacGreatDoorKsc15
import Derived.Test.YtfgbndjhaiigbacGreatDoorKsc16
import Derived.Test.YtfgbndjhaiigbacGreatDoorKsc17
import Derived.Test.YtfgbndjhaiigbacGreatDoorKsc18
import Derived.Test.YtfgbndjhaiigbacGreatDoorKsc19
import Derived.Test.YtfgbndjhaiigbacGreatDoorKsc20
import Derived.Test.YtfgbndjhaiigbacGreatDoorKsc21
import Derived.Test.YtfgbndjhaiigbacGreatDoorKsc22
import Derived.Test.YtfgbndjhaiigbacGreatDoorKsc23
import Derived.Test.YtfgbndjhaiigbacGreatDoorKsc24
import Derived.Test.YtfgbndjhaiigbacGreatDoorKsc25
import Derived.Test.YtfgbndjhaiigbacGreatDoorKsc26
import Derived.Test.YtfgbndjhaiigbacGreatDoorKsc27
import Derived.Test.YtfgbndjhaiigbacGreatDoorKsc28
import Derived.Test.YtfgbndjhaiigbacGreatDoorKsc29
import Derived.Test.YtfgbndjhaiigbacGreatDoorKsc30
import Derived.Test.YtfgbndjhaiigbacGreatDoorRows
import Derived.WalkKit
import Derived.LoopTactic
import Derived.Laws.Bits64b
import Derived.WalkSpells
import Derived.WalkLawsBesides
import Derived.StillTactics
import Derived.Laws.Pointers
import Derived.Deep.RegionHeld3
import Derived.Deep.QuietTactic
import Derived.BigQuiet
import Derived.Outline
import Derived.Lib.Hide
import Derived.RowKit3
import Derived.Carry
import Derived.IntWalk
import Derived.BigRegion
import Derived.Handy
import Derived.LoopN
import Derived.Laws.OwnMore
import Derived.OwnWalk
import Derived.Deep.AppendLies
import Derived.Laws.EntriesVeiled
namespace Go.Proofs.YtfgbndjhaiigbacGreatDoor
open Go Go.RowKit
set_option linter.unusedSimpArgs false
set_option linter.unusedVariables false
set_option maxRecDepth 100000

theorem inf_form {e f p : Int} (hp : patB e f p = true) (hk : kindV e f p = 3) : p / pw (e + f) * pw (e + f) + (pw e - 1) * pw f = p := by
  obtain ⟨hg, p0, p1⟩ := pat_iff.1 hp
  have c1 := pw_pos f
  have c2 := pw_pos (e + f)
  have k1 : p % pw (e + f) / pw f = pw e - 1 ∧ p % pw f = 0 := by
    unfold kindV at hk
    by_cases h : p % pw (e + f) / pw f = pw e - 1
    · by_cases h2 : p % pw f = 0
      · exact ⟨h, h2⟩
      · simp [h, h2] at hk
    · have : (p % pw (e + f) / pw f == pw e - 1) = false := by simpa using h
      rw [this] at hk
      simp at hk
      split at hk
      · omega
      · split at hk <;> omega
  obtain ⟨h1, h2, h3, h4⟩ := good_iff.1 hg
  have hd : pw (e + f) = pw e * pw f := pw_add e f (by omega) (by omega)
  have hm : p % pw (e + f) % pw f = p % pw f := by
    rw [hd]
    exact Int.emod_emod_of_dvd p ⟨pw e, Int.mul_comm _ _⟩
  have d1 := Int.mul_ediv_add_emod p (pw (e + f))
  have d2 := Int.mul_ediv_add_emod (p % pw (e + f)) (pw f)
  rw [hm, k1.1, k1.2] at d2
  rw [Int.mul_comm] at d1 d2
  omega
end Go.Proofs.YtfgbndjhaiigbacGreatDoor

namespace Go.Proofs.YtfgbndjhaiigbacGreatDoor
open Go Go.RowKit
set_option linter.unusedSimpArgs false
set_option linter.unusedVariables false
set_option maxRecDepth 100000

theorem pls_zero {e f x mode s : Int} {neg : Bool} (hg : goodB e f = true) (hq : RndD e f 0 x mode neg s) : s = 0 :=
  rnd_one (good_iff.1 hg).2.2.1 (show (0 : Int) < pw 149 by have := pw_pos 149; omega) hq (rnd_null hg)
end Go.Proofs.YtfgbndjhaiigbacGreatDoor

