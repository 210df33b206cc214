/-
  Contracts of the functions that the laws reach, and the plain facts that they rest on, each under the conditions that its line names; part 2.
-/
import Derived.Test.YtdagfocpbnamfaaDoorKbd1
import Derived.Lib.BitFns
namespace Go.Proofs.YtdagfocpbnamfaaDoor
open Go

theorem bl_bounds (m : Nat) (h0 : 0 < m) (h : m < 2 ^ 64) : 1 ≤ Lib.bitLen m ∧ 2 ^ (Lib.bitLen m - 1) ≤ m ∧ m < 2 ^ Lib.bitLen m := by
  induction m using Nat.strongRecOn with
  | _ m ih =>
    rw [Lib.bitLen_half m (by omega) h]
    by_cases h1 : m = 1
    · subst h1
      have : Lib.bitLen (1 / 2) = 0 := by decide
      rw [this]; decide
    · obtain ⟨i1, i2, i3⟩ := ih (m / 2) (by omega) (by omega) (by omega)
      have e1 : 2 ^ (1 + Lib.bitLen (m / 2)) = 2 * 2 ^ Lib.bitLen (m / 2) := by rw [Nat.pow_add]
      have e2 : 2 ^ Lib.bitLen (m / 2) = 2 * 2 ^ (Lib.bitLen (m / 2) - 1) := by
        rw [← Nat.pow_succ']; congr 1; omega
      refine ⟨by omega, ?_, ?_⟩
      · rw [show 1 + Lib.bitLen (m / 2) - 1 = Lib.bitLen (m / 2) by omega, e2]; omega
      · rw [e1]; omega

theorem pw_cast (n : Nat) : ((2 ^ n : Nat) : Int) = pw n := by unfold pw; simp
end Go.Proofs.YtdagfocpbnamfaaDoor

