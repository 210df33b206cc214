/-
  Contracts of the functions that the laws reach, and the plain facts that they rest on, each under the conditions that its line names; part 2.
-/
import Derived.Test.YtmddlbphanlfhaaGreatDoorKps1
import Derived.Lib.BitFns
namespace Go.Proofs.YtmddlbphanlfhaaGreatDoor
open Go

theorem bl_bounds (m : Nat) (h0 : 0 < m) (h : m < 2 ^ 64) : 1 ≤ Lib.bitLen m ∧ 2 ^ (Lib.bitLen m - 1) ≤ m ∧ m < 2 ^ Lib.bitLen m := by
  induction m using Nat.strongRecOn with
  | _ m ih =>
    rw [Lib.bitLen_half m (by omega) h]
    by_cases h1 : m = 1
    · subst h1
      have : Lib.bitLen (1 / 2) = 0 := by decide
      rw [this]; decide
    · obtain ⟨i1, i2, i3⟩ := ih (m / 2) (by omega) (by omega) (by omega)
      have e1 : 2 ^ (1 + Lib.bitLen (m / 2)) = 2 * 2 ^ Lib.bitLen (m / 2) := by rw [Nat.pow_add]
      have e2 : 2 ^ Lib.bitLen (m / 2) = 2 * 2 ^ (Lib.bitLen (m / 2) - 1) := by
        rw [← Nat.pow_succ']; congr 1; omega
      refine ⟨by omega, ?_, ?_⟩
      · rw [show 1 + Lib.bitLen (m / 2) - 1 = Lib.bitLen (m / 2) by omega, e2]; omega
      · rw [e1]; omega

theorem pw_cast (n : Nat) : ((2 ^ n : Nat) : Int) = pw n := by unfold pw; simp

theorem mg_of (f x r : Int) (hf : 1 ≤ f) (hx : 1 ≤ x) (hr0 : 0 ≤ r) (hr1 : r < pw f) : mgV f (x * pw f + r) = (r + pw f) * pw (x - 1) ∧ mgV f (x * pw f + r + 1) = (r + pw f + 1) * pw (x - 1) := by
  have hp := pw_pos f
  have q1 : (x * pw f + r) / pw f = x := by rw [Int.add_comm, Int.add_mul_ediv_right _ _ (by omega), Int.ediv_eq_zero_of_lt hr0 hr1]; omega
  have q2 : (x * pw f + r) % pw f = r := by rw [Int.add_comm, Int.add_mul_emod_self_right]; exact Int.emod_eq_of_lt hr0 hr1
  have h1 : mgV f (x * pw f + r) = (r + pw f) * pw (x - 1) := by unfold mgV; rw [q1, q2, if_pos (by omega)]
  refine ⟨h1, ?_⟩
  rw [mg_step f _ hf (by have := Int.mul_nonneg (show 0 ≤ x by omega) (show 0 ≤ pw f by omega); omega), h1, q1, show max 0 (x - 1) = x - 1 by omega, Int.add_mul _ 1, Int.one_mul]

theorem mg_small (f m : Int) (h0 : 0 ≤ m) (h1 : m < pw f) : mgV f m = m := by
  unfold mgV
  rw [Int.ediv_eq_zero_of_lt h0 h1, if_neg (by omega), Int.emod_eq_of_lt h0 h1]
end Go.Proofs.YtmddlbphanlfhaaGreatDoor

