/-
  Contracts of the functions that the laws reach, and the plain facts that they rest on, each under the conditions that its line names; part 2.
-/
import Derived.Test.YtmddlbphanlfhaaKpo1
import Derived.Lib.BitFns
namespace Go.Proofs.Ytmddlbphanlfhaa
open Go

theorem bl_bounds (m : Nat) (h0 : 0 < m) (h : m < 2 ^ 64) : 1 ≤ Lib.bitLen m ∧ 2 ^ (Lib.bitLen m - 1) ≤ m ∧ m < 2 ^ Lib.bitLen m := by
  induction m using Nat.strongRecOn with
  | _ m ih =>
    rw [Lib.bitLen_half m (by omega) h]
    by_cases h1 : m = 1
    · subst h1
      have : Lib.bitLen (1 / 2) = 0 := by decide
      rw [this]; decide
    · obtain ⟨i1, i2, i3⟩ := ih (m / 2) (by omega) (by omega) (by omega)
      have e1 : 2 ^ (1 + Lib.bitLen (m / 2)) = 2 * 2 ^ Lib.bitLen (m / 2) := by rw [Nat.pow_add]
      have e2 : 2 ^ Lib.bitLen (m / 2) = 2 * 2 ^ (Lib.bitLen (m / 2) - 1) := by
        rw [← Nat.pow_succ']; congr 1; omega
      refine ⟨by omega, ?_, ?_⟩
      · rw [show 1 + Lib.bitLen (m / 2) - 1 = Lib.bitLen (m / 2) by omega, e2]; omega
      · rw [e1]; omega

theorem bl_zero : Lib.bitLen 0 = 0 := by decide

theorem pw_cast (n : Nat) : ((2 ^ n : Nat) : Int) = pw n := by unfold pw; simp

/-- The places behind. -/
def bhV (f m : Int) : Int := max ((Lib.bitLen m.toNat : Int) - (1 + f)) 0

/-- What is left of m: it has the places of a normal pattern, or fits below. -/
theorem cut_cases (f m : Int) (hf : 1 ≤ f) (hm : 0 ≤ m) (hm2 : m < 9223372036854775808) :
    (m < pw f ∧ bhV f m = 0) ∨ (0 ≤ bhV f m ∧ pw f ≤ m / pw (bhV f m) ∧ m / pw (bhV f m) < 2 * pw f ∧ m / pw (bhV f m) * pw (bhV f m) ≤ m ∧ m < (m / pw (bhV f m) + 1) * pw (bhV f m)) := by
  by_cases hs : m < pw f
  · left
    refine ⟨hs, ?_⟩
    unfold bhV
    by_cases h0 : m = 0
    · subst h0; show max ((Lib.bitLen 0 : Int) - _) 0 = 0; rw [bl_zero]; omega
    · obtain ⟨b1, b2, b3⟩ := bl_bounds m.toNat (by omega) (by omega)
      have : ((2 ^ (Lib.bitLen m.toNat - 1) : Nat) : Int) ≤ m := by omega
      rw [pw_cast] at this
      by_cases hL : (Lib.bitLen m.toNat : Int) ≤ 1 + f
      · omega
      · have := pw_mono (a := f) (b := ((Lib.bitLen m.toNat - 1 : Nat) : Int)) (by omega)
        omega
  · right
    have hp := pw_pos f
    obtain ⟨b1, b2, b3⟩ := bl_bounds m.toNat (by omega) (by omega)
    have c2 : pw ((Lib.bitLen m.toNat - 1 : Nat) : Int) ≤ m := by rw [← pw_cast]; omega
    have c3 : m < pw (Lib.bitLen m.toNat : Int) := by rw [← pw_cast]; omega
    have hb : 0 ≤ bhV f m := by unfold bhV; omega
    have q1 := pw_pos (bhV f m)
    have hdiv := Int.mul_ediv_add_emod m (pw (bhV f m))
    have hr0 := Int.emod_nonneg m (show pw (bhV f m) ≠ 0 by omega)
    have hr1 := Int.emod_lt_of_pos m (show 0 < pw (bhV f m) by omega)
    have hc := Int.mul_comm (pw (bhV f m)) (m / pw (bhV f m))
    have hup : m < 2 * pw f * pw (bhV f m) := by
      have e : 2 * pw f * pw (bhV f m) = pw (1 + f + bhV f m) := by
        rw [pw_add (1 + f) _ (by omega) hb, pw_add 1 f (by omega) (by omega)]; rfl
      rw [e]
      have := pw_mono (a := (Lib.bitLen m.toNat : Int)) (b := 1 + f + bhV f m) (by unfold bhV; omega)
      omega
    have hlo : pw f * pw (bhV f m) ≤ m := by
      by_cases hL : (Lib.bitLen m.toNat : Int) ≤ 1 + f
      · have : bhV f m = 0 := by unfold bhV; omega
        rw [this]; show pw f * 1 ≤ m; omega
      · rw [← pw_add f _ (by omega) hb]
        have := pw_mono (a := f + bhV f m) (b := ((Lib.bitLen m.toNat - 1 : Nat) : Int)) (by unfold bhV; omega)
        omega
    refine ⟨hb, (Int.le_ediv_iff_mul_le (by omega)).2 hlo, Int.ediv_lt_of_lt_mul (by omega) hup, by omega, ?_⟩
    rw [Int.add_mul, Int.one_mul]; omega

theorem mg_of (f x r : Int) (hf : 1 ≤ f) (hx : 1 ≤ x) (hr0 : 0 ≤ r) (hr1 : r < pw f) : mgV f (x * pw f + r) = (r + pw f) * pw (x - 1) ∧ mgV f (x * pw f + r + 1) = (r + pw f + 1) * pw (x - 1) := by
  have hp := pw_pos f
  have q1 : (x * pw f + r) / pw f = x := by rw [Int.add_comm, Int.add_mul_ediv_right _ _ (by omega), Int.ediv_eq_zero_of_lt hr0 hr1]; omega
  have q2 : (x * pw f + r) % pw f = r := by rw [Int.add_comm, Int.add_mul_emod_self_right]; exact Int.emod_eq_of_lt hr0 hr1
  have h1 : mgV f (x * pw f + r) = (r + pw f) * pw (x - 1) := by unfold mgV; rw [q1, q2, if_pos (by omega)]
  refine ⟨h1, ?_⟩
  rw [mg_step f _ hf (by have := Int.mul_nonneg (show 0 ≤ x by omega) (show 0 ≤ pw f by omega); omega), h1, q1, show max 0 (x - 1) = x - 1 by omega, Int.add_mul _ 1, Int.one_mul]

theorem mg_small (f m : Int) (h0 : 0 ≤ m) (h1 : m < pw f) : mgV f m = m := by
  unfold mgV
  rw [Int.ediv_eq_zero_of_lt h0 h1, if_neg (by omega), Int.emod_eq_of_lt h0 h1]

/-- A pattern around the lesser of u and the greatest value is the one below u. -/
theorem below_of (f g u p : Int) (hf : 1 ≤ f) (hg : 0 ≤ g) (hp : 0 ≤ p) (h1 : mgV f p ≤ min u (mgV f g)) (h2 : min u (mgV f g) < mgV f (p + 1)) : IsBelow f g u p := by
  have hpg : p ≤ g := by
    by_cases h : p ≤ g
    · exact h
    · have a := mg_mono f (g + 1) p hf (by omega) (by omega)
      have b := mg_step f g hf hg
      have c := pw_pos (max 0 (g / pw f - 1))
      omega
  refine ⟨hp, hpg, by omega, ?_⟩
  by_cases h : u ≤ mgV f g
  · right; omega
  · left
    by_cases h3 : g < p + 1
    · exact h3
    · have := mg_mono f (p + 1) g hf (by omega) (by omega)
      omega
end Go.Proofs.Ytmddlbphanlfhaa

