/-
  Contracts of the functions that the laws reach, and the plain facts that they rest on, each under the conditions that its line names; part 2.
-/
import Derived.Test.YtkgphdicnjkgbaaDoorKss1
import Derived.Lib.BitFns
namespace Go.Proofs.YtkgphdicnjkgbaaDoor
open Go

theorem pw_cast (n : Nat) : ((2 ^ n : Nat) : Int) = pw n := by unfold pw; simp

theorem mg_of (f x r : Int) (hf : 1 ≤ f) (hx : 1 ≤ x) (hr0 : 0 ≤ r) (hr1 : r < pw f) : mgV f (x * pw f + r) = (r + pw f) * pw (x - 1) ∧ mgV f (x * pw f + r + 1) = (r + pw f + 1) * pw (x - 1) := by
  have hp := pw_pos f
  have q1 : (x * pw f + r) / pw f = x := by rw [Int.add_comm, Int.add_mul_ediv_right _ _ (by omega), Int.ediv_eq_zero_of_lt hr0 hr1]; omega
  have q2 : (x * pw f + r) % pw f = r := by rw [Int.add_comm, Int.add_mul_emod_self_right]; exact Int.emod_eq_of_lt hr0 hr1
  have h1 : mgV f (x * pw f + r) = (r + pw f) * pw (x - 1) := by unfold mgV; rw [q1, q2, if_pos (by omega)]
  refine ⟨h1, ?_⟩
  rw [mg_step f _ hf (by have := Int.mul_nonneg (show 0 ≤ x by omega) (show 0 ≤ pw f by omega); omega), h1, q1, show max 0 (x - 1) = x - 1 by omega, Int.add_mul _ 1, Int.one_mul]

theorem mg_small (f m : Int) (h0 : 0 ≤ m) (h1 : m < pw f) : mgV f m = m := by
  unfold mgV
  rw [Int.ediv_eq_zero_of_lt h0 h1, if_neg (by omega), Int.emod_eq_of_lt h0 h1]
end Go.Proofs.YtkgphdicnjkgbaaDoor

