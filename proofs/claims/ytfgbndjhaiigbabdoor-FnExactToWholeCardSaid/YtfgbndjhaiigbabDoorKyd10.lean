/-
  Contracts of the functions that the laws reach, and the plain facts that they rest on, each under the conditions that its line names; part 10.
-/
import Derived.Test.YtfgbndjhaiigbabDoorKyd3
import Derived.Test.YtfgbndjhaiigbabDoorKyd9
namespace Go.Proofs.YtfgbndjhaiigbabDoor
open Go

theorem fw_lt {f : Ieee.Format} {a b : Nat} (ha : Ok f a) (hb : Ok f b) : fw f a < fw f b ↔ a < b := by
  obtain ⟨_, h1⟩ := fw_val f a ha.1 ha.2.1 ha.2.2
  obtain ⟨_, h2⟩ := fw_val f b hb.1 hb.2.1 hb.2.2
  constructor
  · intro h
    have := vR_lt f.fractionBits _ _ h
    omega
  · intro h
    rcases Nat.lt_trichotomy (fw f a) (fw f b) with g | g | g
    · exact g
    · rw [g] at h1; omega
    · have := vR_lt f.fractionBits _ _ g; omega

theorem fw_fin {f : Ieee.Format} {a : Nat} (ha : Ok f a) : fw f a < f.infRung := (fw_val f a ha.1 ha.2.1 ha.2.2).1
end Go.Proofs.YtfgbndjhaiigbabDoor

