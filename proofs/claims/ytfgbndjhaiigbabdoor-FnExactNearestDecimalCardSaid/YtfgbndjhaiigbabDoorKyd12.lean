/-
  Contracts of the functions that the laws reach, and the plain facts that they rest on, each under the conditions that its line names; part 12.
-/
import Derived.Test.YtfgbndjhaiigbabDoorKyd10
import Derived.Test.YtfgbndjhaiigbabDoorKyd11
namespace Go.Proofs.YtfgbndjhaiigbabDoor
open Go

theorem two_word : fw Ieee.single (2 * 2 ^ 149) = 1073741824 := by
  have ok : Ok Ieee.single (2 * 2 ^ 149) := ok32 (by decide) (by decide)
  refine fw_of Ieee.single _ _ ok ?_
  have := vR_parts 23 128 0 (by decide) (by decide)
  show vR 23 _ = _
  rw [show (1073741824 : Nat) = 128 * 2 ^ 23 + 0 from rfl, this, Nat.add_zero, ← Nat.pow_add]

theorem ok_two {R : Nat} (h : Ok Ieee.single R) (hR : R < 2 ^ 192) : Ok Ieee.single (2 * R) := by
  obtain ⟨⟨c, j, e, hc⟩, _, h3⟩ := h
  have hB : Ieee.single.fractionBits + (2 ^ Ieee.single.exponentBits - 2) = 277 := by decide
  obtain ⟨q, hq⟩ : ∃ q : Nat, q = 277 := ⟨_, rfl⟩
  refine ⟨⟨c, j + 1, ?_, hc⟩, ?_, h3⟩
  · rw [e, Nat.pow_succ, Nat.mul_left_comm, Nat.mul_comm 2 (2 ^ j)]
  · rw [hB, ← hq]
    have : 2 ^ 193 ≤ 2 ^ q := Nat.pow_le_pow_right (by decide) (by omega)
    have e2 : (2 : Nat) ^ 193 = 2 * 2 ^ 192 := by rw [Nat.pow_succ, Nat.mul_comm]
    omega

theorem mul_two {R : Nat} (h : Ok Ieee.single R) : floatBits .mul .f32 1073741824 (fw Ieee.single R) = some (fw Ieee.single (2 * R)) := by
  have ok : Ok Ieee.single (2 * 2 ^ 149) := ok32 (by decide) (by decide)
  have := mul_fw (f := Ieee.single) (v := 2 * R) 149 (by decide) ok h (by rw [Nat.mul_assoc, Nat.mul_comm (2 ^ 149), ← Nat.mul_assoc])
  rw [two_word] at this
  exact this

theorem order_zero {R : Nat} (h : Ok Ieee.single R) : Ieee.single.order (fw Ieee.single R) 0 = some (if R = 0 then .eq else .gt) := by
  have o0 : Ok Ieee.single 0 := by
    have := ok32 (c := 0) (j := 0) (by decide) (by decide)
    rwa [Nat.zero_mul] at this
  have := order_fw h o0
  rw [show fw Ieee.single 0 = 0 from near_zero _ _] at this
  rw [this]
  by_cases hr : R = 0
  · subst hr; rfl
  · rw [if_neg hr, cmp_gt (by omega)]
end Go.Proofs.YtfgbndjhaiigbabDoor

