/-
  Plain facts on dyadic numbers: how often 2 divides a number, what is left, how many places a number has. No Go in sight.
-/
import Derived.Test.YtfgbndjhaiigbabDoorPlain
import Derived.Test.YtfgbndjhaiigbabDoorNear
import Derived.Lib.BitFns
import Derived.Lib.TrailingZeros
namespace Go.Proofs.YtfgbndjhaiigbabDoor
open Go

/-- There is a dyadic number. -/
def dyB (n e : Int) : Bool := decide (-1125899906842624 ≤ n ∧ n ≤ 1125899906842624 ∧ -100 ≤ e ∧ e ≤ 100) && ((n % 2 == 1) || (n == 0 && e == 0))

theorem dy_iff {n e : Int} : dyB n e = true ↔ (-1125899906842624 ≤ n ∧ n ≤ 1125899906842624 ∧ -100 ≤ e ∧ e ≤ 100) ∧ (n % 2 = 1 ∨ (n = 0 ∧ e = 0)) := by
  unfold dyB; simp

/-- How often 2 divides n. -/
def tzV (n : Int) : Int := Lib.ctz 64 n.natAbs
/-- What is left of n. -/
def odV (n : Int) : Int := n / pw (tzV n)
/-- How many places n has. -/
def plV (n : Int) : Int := Lib.bitLen n.natAbs

theorem odd_uniq : ∀ (a b m n : Nat), 2 ^ a * (2 * m + 1) = 2 ^ b * (2 * n + 1) → a = b ∧ m = n
  | 0, 0, m, n, h => by simp at h; omega
  | 0, b + 1, m, n, h => by rw [Nat.pow_succ, Nat.mul_comm (2 ^ b) 2, Nat.mul_assoc] at h; simp at h; omega
  | a + 1, 0, m, n, h => by rw [Nat.pow_succ, Nat.mul_comm (2 ^ a) 2, Nat.mul_assoc] at h; simp at h; omega
  | a + 1, b + 1, m, n, h => by
    have := odd_uniq a b m n (by rw [Nat.pow_succ, Nat.pow_succ, Nat.mul_comm (2 ^ a) 2, Nat.mul_comm (2 ^ b) 2, Nat.mul_assoc, Nat.mul_assoc] at h; omega)
    omega

theorem ctz_spec (x : Nat) (h0 : 0 < x) (h : x < 2 ^ 64) : ∃ m, x = 2 ^ Lib.ctz 64 x * (2 * m + 1) ∧ Lib.ctz 64 x < 64 := by
  unfold Lib.ctz
  rw [if_neg (by omega)]
  exact Lib.ctzFrom_spec 64 x h0 h

theorem ctz_of (x k m : Nat) (h : x = 2 ^ k * (2 * m + 1)) (hx : x < 2 ^ 64) : Lib.ctz 64 x = k := by
  have h0 : 0 < x := by rw [h]; exact Nat.mul_pos (Nat.two_pow_pos k) (by omega)
  obtain ⟨m', h1, _⟩ := ctz_spec x h0 hx
  rw [h1] at h
  exact (odd_uniq _ _ _ _ h).1

theorem tz_spec (n : Int) (h0 : n ≠ 0) (h1 : -9223372036854775808 < n) (h2 : n < 9223372036854775808) :
    0 ≤ tzV n ∧ tzV n < 63 ∧ n = odV n * pw (tzV n) ∧ odV n % 2 = 1 := by
  obtain ⟨m, h3, h4⟩ := ctz_spec n.natAbs (by omega) (by omega)
  have hp := pw_pos (tzV n)
  have hc : ((2 ^ Lib.ctz 64 n.natAbs : Nat) : Int) = pw (tzV n) := by rw [pw_cast]; rfl
  have e : (n.natAbs : Int) = pw (tzV n) * (2 * m + 1) := by
    rw [← hc]; exact_mod_cast h3
  have hlt : tzV n < 63 := by
    apply Int.lt_of_not_ge
    intro hge
    have := pw_ge 63 9223372036854775808 rfl hge
    have h5 : pw (tzV n) * 1 ≤ pw (tzV n) * (2 * m + 1) := Int.mul_le_mul_of_nonneg_left (by omega) (by omega)
    omega
  have key : ∀ q : Int, n = q * pw (tzV n) → odV n = q := by
    intro q hq
    unfold odV
    have : (q * pw (tzV n)) / pw (tzV n) = q := Int.mul_ediv_cancel q (by omega)
    rwa [← hq] at this
  refine ⟨by unfold tzV; omega, hlt, ?_⟩
  rcases Int.lt_or_gt_of_ne h0 with hn | hn
  · have e2 : n = -(2 * (m : Int) + 1) * pw (tzV n) := by rw [Int.neg_mul, Int.mul_comm]; omega
    rw [key _ e2]
    exact ⟨e2, by omega⟩
  · have e2 : n = (2 * (m : Int) + 1) * pw (tzV n) := by rw [Int.mul_comm]; omega
    rw [key _ e2]
    exact ⟨e2, by omega⟩

/-- The number itself and its power tell how often 2 divides. -/
theorem tz_of (n q k : Int) (hk : 0 ≤ k) (hq : q % 2 = 1) (h : n = q * pw k) (h1 : -9223372036854775808 < n) (h2 : n < 9223372036854775808) :
    tzV n = k ∧ odV n = q := by
  have hp := pw_pos k
  have e1 : n.natAbs = 2 ^ k.toNat * (2 * (q.natAbs / 2) + 1) := by
    rw [h, Int.natAbs_mul, Nat.mul_comm]
    have : (pw k).natAbs = 2 ^ k.toNat := by
      have := pw_nat k
      omega
    rw [this]
    congr 1
    omega
  have t : tzV n = k := by
    unfold tzV
    rw [ctz_of _ _ _ e1 (by omega)]
    omega
  refine ⟨t, ?_⟩
  unfold odV
  rw [t, h]
  exact Int.mul_ediv_cancel q (by omega)

/-- A word of 64 bits has as many zeros behind. -/
theorem ctz_wrap (n : Int) (h0 : n ≠ 0) (h1 : -9223372036854775808 < n) (h2 : n < 9223372036854775808) :
    ((Lib.ctz 64 (n % 18446744073709551616).toNat : Nat) : Int) = tzV n := by
  by_cases hn : 0 ≤ n
  · have : (n % 18446744073709551616).toNat = n.natAbs := by omega
    rw [this]; rfl
  · obtain ⟨t0, t1, t2, t3⟩ := tz_spec n h0 h1 h2
    have hp := pw_pos (tzV n)
    have hs : pw (64 - tzV n) = 2 * pw (63 - tzV n) := by
      have := pw_succ (63 - tzV n) (by omega)
      rwa [show 63 - tzV n + 1 = 64 - tzV n by omega] at this
    have hm : pw (64 - tzV n) * pw (tzV n) = 18446744073709551616 := by
      rw [← pw_add _ _ (by omega) t0, show 64 - tzV n + tzV n = 64 by omega]; rfl
    have e : n % 18446744073709551616 = (pw (64 - tzV n) + odV n) * pw (tzV n) := by
      rw [Int.add_mul, hm, ← t2]; omega
    have hpos : 0 < (pw (64 - tzV n) + odV n) * pw (tzV n) := by rw [← e]; omega
    have hq : 0 < pw (64 - tzV n) + odV n := Int.pos_of_mul_pos_left hpos (by omega)
    have e1 : (n % 18446744073709551616).toNat = 2 ^ (tzV n).toNat * (2 * ((pw (64 - tzV n) + odV n).toNat / 2) + 1) := by
      have q2 : 2 * ((pw (64 - tzV n) + odV n).toNat / 2) + 1 = (pw (64 - tzV n) + odV n).toNat := by omega
      rw [q2, e, Nat.mul_comm, Int.toNat_mul (by omega) (by omega)]
      congr 1
    rw [ctz_of _ _ _ e1 (by omega)]
    omega

theorem pl_bd (n : Int) (h0 : n ≠ 0) (h1 : -9223372036854775808 ≤ n) (h2 : n < 9223372036854775808) :
    1 ≤ plV n ∧ pw (plV n - 1) ≤ n.natAbs ∧ (n.natAbs : Int) < pw (plV n) := by
  obtain ⟨b1, b2, b3⟩ := bl_bounds n.natAbs (by omega) (by omega)
  unfold plV
  refine ⟨by omega, ?_, ?_⟩
  · have := pw_cast (Lib.bitLen n.natAbs - 1)
    rw [show ((Lib.bitLen n.natAbs : Nat) : Int) - 1 = ((Lib.bitLen n.natAbs - 1 : Nat) : Int) by omega, ← this]
    exact_mod_cast b2
  · rw [← pw_cast]; exact_mod_cast b3

theorem pl_zero : plV 0 = 0 := by decide

theorem pl_nn (n : Int) : 0 ≤ plV n := by unfold plV; omega

theorem pl_le (n k : Int) (hk : 0 ≤ k) (hk2 : k ≤ 63) (h : (n.natAbs : Int) < pw k) : plV n ≤ k := by
  have hkk := pw_le 63 9223372036854775808 rfl hk2
  by_cases h0 : n = 0
  · subst h0; rw [pl_zero]; exact hk
  · obtain ⟨b1, b2, b3⟩ := pl_bd n h0 (by omega) (by omega)
    apply Int.le_of_not_gt
    intro hg
    have := pw_mono (a := k) (b := plV n - 1) (by omega)
    omega

theorem pl_ge (n k : Int) (h : pw k ≤ n.natAbs) (h1 : -9223372036854775808 ≤ n) (h2 : n < 9223372036854775808) : k < plV n := by
  have h0 : n ≠ 0 := by intro h0; subst h0; have := pw_pos k; omega
  obtain ⟨b1, b2, b3⟩ := pl_bd n h0 h1 h2
  apply Int.lt_of_not_ge
  intro hg
  have := pw_mono (a := plV n) (b := k) hg
  omega
end Go.Proofs.YtfgbndjhaiigbabDoor
