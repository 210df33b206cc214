/-
  Contracts of the functions that the laws reach, and the plain facts that they rest on, each under the conditions that its line names; part 3.
-/
import Derived.Test.YtdagfocpbnamfaaKbk1
import Derived.Test.YtdagfocpbnamfaaKbk2
import Derived.Lib.BitFns
import Derived.Lib.TrailingZeros
namespace Go.Proofs.Ytdagfocpbnamfaa
open Go

/-- How many places n has. -/
def plV (n : Int) : Int := Lib.bitLen n.natAbs

theorem pl_bd (n : Int) (h0 : n ≠ 0) (h1 : -9223372036854775808 ≤ n) (h2 : n < 9223372036854775808) :
    1 ≤ plV n ∧ pw (plV n - 1) ≤ n.natAbs ∧ (n.natAbs : Int) < pw (plV n) := by
  obtain ⟨b1, b2, b3⟩ := bl_bounds n.natAbs (by omega) (by omega)
  unfold plV
  refine ⟨by omega, ?_, ?_⟩
  · have := pw_cast (Lib.bitLen n.natAbs - 1)
    rw [show ((Lib.bitLen n.natAbs : Nat) : Int) - 1 = ((Lib.bitLen n.natAbs - 1 : Nat) : Int) by omega, ← this]
    exact_mod_cast b2
  · rw [← pw_cast]; exact_mod_cast b3

theorem pl_zero : plV 0 = 0 := by decide

theorem pl_nn (n : Int) : 0 ≤ plV n := by unfold plV; omega

theorem pl_le (n k : Int) (hk : 0 ≤ k) (hk2 : k ≤ 63) (h : (n.natAbs : Int) < pw k) : plV n ≤ k := by
  have hkk := pw_le 63 9223372036854775808 rfl hk2
  by_cases h0 : n = 0
  · subst h0; rw [pl_zero]; exact hk
  · obtain ⟨b1, b2, b3⟩ := pl_bd n h0 (by omega) (by omega)
    apply Int.le_of_not_gt
    intro hg
    have := pw_mono (a := k) (b := plV n - 1) (by omega)
    omega

theorem pl_ge (n k : Int) (h : pw k ≤ n.natAbs) (h1 : -9223372036854775808 ≤ n) (h2 : n < 9223372036854775808) : k < plV n := by
  have h0 : n ≠ 0 := by intro h0; subst h0; have := pw_pos k; omega
  obtain ⟨b1, b2, b3⟩ := pl_bd n h0 h1 h2
  apply Int.lt_of_not_ge
  intro hg
  have := pw_mono (a := plV n) (b := k) hg
  omega
end Go.Proofs.Ytdagfocpbnamfaa

namespace Go.Proofs.Ytdagfocpbnamfaa
open Go

theorem plV_abs (n : Int) : plV (n.natAbs : Int) = plV n := by unfold plV; simp
end Go.Proofs.Ytdagfocpbnamfaa

