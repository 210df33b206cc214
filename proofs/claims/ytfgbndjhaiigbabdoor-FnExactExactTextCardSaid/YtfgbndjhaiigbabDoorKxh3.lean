/-
  Contracts of the functions that the laws reach, and the plain facts that they rest on, each under the conditions that its line names; part 3.
-/
import Derived.Test.YtfgbndjhaiigbabDoorKxh1
import Derived.Test.YtfgbndjhaiigbabDoorKxh2
import Derived.Lib.BitFns
import Derived.Lib.TrailingZeros
namespace Go.Proofs.YtfgbndjhaiigbabDoor
open Go

/-- There is a dyadic number. -/
def dyB (n e : Int) : Bool := decide (-1125899906842624 ≤ n ∧ n ≤ 1125899906842624 ∧ -100 ≤ e ∧ e ≤ 100) && ((n % 2 == 1) || (n == 0 && e == 0))

theorem dy_iff {n e : Int} : dyB n e = true ↔ (-1125899906842624 ≤ n ∧ n ≤ 1125899906842624 ∧ -100 ≤ e ∧ e ≤ 100) ∧ (n % 2 = 1 ∨ (n = 0 ∧ e = 0)) := by
  unfold dyB; simp

/-- How often 2 divides n. -/
def tzV (n : Int) : Int := Lib.ctz 64 n.natAbs

/-- What is left of n. -/
def odV (n : Int) : Int := n / pw (tzV n)

theorem odd_uniq : ∀ (a b m n : Nat), 2 ^ a * (2 * m + 1) = 2 ^ b * (2 * n + 1) → a = b ∧ m = n
  | 0, 0, m, n, h => by simp at h; omega
  | 0, b + 1, m, n, h => by rw [Nat.pow_succ, Nat.mul_comm (2 ^ b) 2, Nat.mul_assoc] at h; simp at h; omega
  | a + 1, 0, m, n, h => by rw [Nat.pow_succ, Nat.mul_comm (2 ^ a) 2, Nat.mul_assoc] at h; simp at h; omega
  | a + 1, b + 1, m, n, h => by
    have := odd_uniq a b m n (by rw [Nat.pow_succ, Nat.pow_succ, Nat.mul_comm (2 ^ a) 2, Nat.mul_comm (2 ^ b) 2, Nat.mul_assoc, Nat.mul_assoc] at h; omega)
    omega

theorem ctz_spec (x : Nat) (h0 : 0 < x) (h : x < 2 ^ 64) : ∃ m, x = 2 ^ Lib.ctz 64 x * (2 * m + 1) ∧ Lib.ctz 64 x < 64 := by
  unfold Lib.ctz
  rw [if_neg (by omega)]
  exact Lib.ctzFrom_spec 64 x h0 h

theorem ctz_of (x k m : Nat) (h : x = 2 ^ k * (2 * m + 1)) (hx : x < 2 ^ 64) : Lib.ctz 64 x = k := by
  have h0 : 0 < x := by rw [h]; exact Nat.mul_pos (Nat.two_pow_pos k) (by omega)
  obtain ⟨m', h1, _⟩ := ctz_spec x h0 hx
  rw [h1] at h
  exact (odd_uniq _ _ _ _ h).1

theorem tz_spec (n : Int) (h0 : n ≠ 0) (h1 : -9223372036854775808 < n) (h2 : n < 9223372036854775808) :
    0 ≤ tzV n ∧ tzV n < 63 ∧ n = odV n * pw (tzV n) ∧ odV n % 2 = 1 := by
  obtain ⟨m, h3, h4⟩ := ctz_spec n.natAbs (by omega) (by omega)
  have hp := pw_pos (tzV n)
  have hc : ((2 ^ Lib.ctz 64 n.natAbs : Nat) : Int) = pw (tzV n) := by rw [pw_cast]; rfl
  have e : (n.natAbs : Int) = pw (tzV n) * (2 * m + 1) := by
    rw [← hc]; exact_mod_cast h3
  have hlt : tzV n < 63 := by
    apply Int.lt_of_not_ge
    intro hge
    have := pw_ge 63 9223372036854775808 rfl hge
    have h5 : pw (tzV n) * 1 ≤ pw (tzV n) * (2 * m + 1) := Int.mul_le_mul_of_nonneg_left (by omega) (by omega)
    omega
  have key : ∀ q : Int, n = q * pw (tzV n) → odV n = q := by
    intro q hq
    unfold odV
    have : (q * pw (tzV n)) / pw (tzV n) = q := Int.mul_ediv_cancel q (by omega)
    rwa [← hq] at this
  refine ⟨by unfold tzV; omega, hlt, ?_⟩
  rcases Int.lt_or_gt_of_ne h0 with hn | hn
  · have e2 : n = -(2 * (m : Int) + 1) * pw (tzV n) := by rw [Int.neg_mul, Int.mul_comm]; omega
    rw [key _ e2]
    exact ⟨e2, by omega⟩
  · have e2 : n = (2 * (m : Int) + 1) * pw (tzV n) := by rw [Int.mul_comm]; omega
    rw [key _ e2]
    exact ⟨e2, by omega⟩

/-- The number itself and its power tell how often 2 divides. -/
theorem tz_of (n q k : Int) (hk : 0 ≤ k) (hq : q % 2 = 1) (h : n = q * pw k) (h1 : -9223372036854775808 < n) (h2 : n < 9223372036854775808) :
    tzV n = k ∧ odV n = q := by
  have hp := pw_pos k
  have e1 : n.natAbs = 2 ^ k.toNat * (2 * (q.natAbs / 2) + 1) := by
    rw [h, Int.natAbs_mul, Nat.mul_comm]
    have : (pw k).natAbs = 2 ^ k.toNat := by
      have := pw_nat k
      omega
    rw [this]
    congr 1
    omega
  have t : tzV n = k := by
    unfold tzV
    rw [ctz_of _ _ _ e1 (by omega)]
    omega
  refine ⟨t, ?_⟩
  unfold odV
  rw [t, h]
  exact Int.mul_ediv_cancel q (by omega)

/-- A word of 64 bits has as many zeros behind. -/
theorem ctz_wrap (n : Int) (h0 : n ≠ 0) (h1 : -9223372036854775808 < n) (h2 : n < 9223372036854775808) :
    ((Lib.ctz 64 (n % 18446744073709551616).toNat : Nat) : Int) = tzV n := by
  by_cases hn : 0 ≤ n
  · have : (n % 18446744073709551616).toNat = n.natAbs := by omega
    rw [this]; rfl
  · obtain ⟨t0, t1, t2, t3⟩ := tz_spec n h0 h1 h2
    have hp := pw_pos (tzV n)
    have hs : pw (64 - tzV n) = 2 * pw (63 - tzV n) := by
      have := pw_succ (63 - tzV n) (by omega)
      rwa [show 63 - tzV n + 1 = 64 - tzV n by omega] at this
    have hm : pw (64 - tzV n) * pw (tzV n) = 18446744073709551616 := by
      rw [← pw_add _ _ (by omega) t0, show 64 - tzV n + tzV n = 64 by omega]; rfl
    have e : n % 18446744073709551616 = (pw (64 - tzV n) + odV n) * pw (tzV n) := by
      rw [Int.add_mul, hm, ← t2]; omega
    have hpos : 0 < (pw (64 - tzV n) + odV n) * pw (tzV n) := by rw [← e]; omega
    have hq : 0 < pw (64 - tzV n) + odV n := Int.pos_of_mul_pos_left hpos (by omega)
    have e1 : (n % 18446744073709551616).toNat = 2 ^ (tzV n).toNat * (2 * ((pw (64 - tzV n) + odV n).toNat / 2) + 1) := by
      have q2 : 2 * ((pw (64 - tzV n) + odV n).toNat / 2) + 1 = (pw (64 - tzV n) + odV n).toNat := by omega
      rw [q2, e, Nat.mul_comm, Int.toNat_mul (by omega) (by omega)]
      congr 1
    rw [ctz_of _ _ _ e1 (by omega)]
    omega
end Go.Proofs.YtfgbndjhaiigbabDoor

namespace Go.Proofs.YtfgbndjhaiigbabDoor
open Go

/-- S times 2^l is a dyadic number in lowest terms. -/
def nfB (S l : Int) : Bool := S == 0 || dyB (odV S) (l + tzV S)

def nfN (S l : Int) : Int := if nfB S l = true then odV S else 0

def nfE (S l : Int) : Int := if S = 0 then 0 else if nfB S l = true then l + tzV S else 0

theorem od_zero : odV 0 = 0 := by unfold odV; simp

theorem nf_zero {S l : Int} (h : S = 0) : nfB S l = true ∧ nfN S l = 0 ∧ nfE S l = 0 := by
  subst h
  have : nfB 0 l = true := by unfold nfB; simp
  unfold nfN nfE
  rw [if_pos this, od_zero]
  simp [this]

theorem nf_yes {S l : Int} (h0 : S ≠ 0) (h : dyB (odV S) (l + tzV S) = true) : nfB S l = true ∧ nfN S l = odV S ∧ nfE S l = l + tzV S := by
  have : nfB S l = true := by unfold nfB; simp [h]
  unfold nfN nfE
  rw [if_pos this, if_neg h0, if_pos this]
  exact ⟨this, rfl, rfl⟩

theorem nf_no {S l : Int} (h0 : S ≠ 0) (h : dyB (odV S) (l + tzV S) = false) : nfB S l = false ∧ nfN S l = 0 ∧ nfE S l = 0 := by
  have : nfB S l = false := by unfold nfB; simp [h, h0]
  unfold nfN nfE
  rw [this]
  simp

/-- The power of what is left of a number. -/
def shE (n d : Int) : Int := if n = 0 then 0 else d + tzV n

/-- The power of two that is the unit. -/
def unV (e f : Int) : Int := 1 - (pw (e - 1) - 1) - f

theorem un_bd {e f : Int} (hg : goodB e f = true) : -24 ≤ unV e f ∧ unV e f ≤ -1 ∧ 2 ≤ pw (e - 1) ∧ pw (e - 1) ≤ 16 := by
  obtain ⟨h1, h2, h3, h4⟩ := good_iff.1 hg
  have k2 : 2 ≤ pw (e - 1) := pw_ge 1 2 rfl (by omega)
  have k3 : pw (e - 1) ≤ 16 := pw_le 4 16 rfl (by omega)
  unfold unV
  omega

theorem nf_few {S l : Int} (h1 : -9007199254740992 ≤ S) (h2 : S ≤ 9007199254740992) (hs : -1125899906842624 ≤ odV S ∧ odV S ≤ 1125899906842624) (h3 : -100 ≤ l) (h4 : l ≤ 0) : nfB S l = true ∧ nfN S l = odV S ∧ nfE S l = shE S l := by
  by_cases h0 : S = 0
  · subst h0
    obtain ⟨e1, e2, e3⟩ := nf_zero (S := 0) (l := l) rfl
    rw [e1, e2, e3, od_zero]
    exact ⟨rfl, rfl, rfl⟩
  · obtain ⟨t0, t1, t2, t3⟩ := tz_spec S h0 (by omega) (by omega)
    obtain ⟨e1, e2, e3⟩ := nf_yes (S := S) (l := l) h0 (dy_iff.2 ⟨⟨hs.1, hs.2, by omega, by omega⟩, Or.inl t3⟩)
    rw [e1, e2, e3, show shE S l = l + tzV S from if_neg h0]
    exact ⟨rfl, rfl, rfl⟩

theorem od_bd (S b : Int) (hb : 0 ≤ b) (h1 : -b ≤ S) (h2 : S ≤ b) : -b ≤ odV S ∧ odV S ≤ b := by
  have hp := pw_pos (tzV S)
  unfold odV
  constructor
  · apply (Int.le_ediv_iff_mul_le (by omega)).2
    have := Int.mul_le_mul_of_nonneg_left (show 1 ≤ pw (tzV S) by omega) hb
    rw [Int.neg_mul]
    omega
  · apply Int.ediv_le_of_le_mul (by omega)
    have := Int.mul_le_mul_of_nonneg_left (show 1 ≤ pw (tzV S) by omega) hb
    omega

theorem nf_small {S l : Int} (h1 : -1125899906842624 ≤ S) (h2 : S ≤ 1125899906842624) (h3 : -100 ≤ l) (h4 : l ≤ 0) : nfB S l = true ∧ nfN S l = odV S ∧ nfE S l = shE S l :=
  nf_few (by omega) (by omega) (od_bd S 1125899906842624 (by decide) h1 h2) h3 h4
end Go.Proofs.YtfgbndjhaiigbabDoor

namespace Go.Proofs.YtfgbndjhaiigbabDoor
open Go

/-- The greatest pattern. -/
def grV (e f : Int) : Int := (pw e - 1) * pw f - 1
end Go.Proofs.YtfgbndjhaiigbabDoor

namespace Go.Proofs.YtfgbndjhaiigbabDoor
open Go

theorem tz_lt {S b : Int} (h0 : S ≠ 0) (h1 : -9223372036854775808 < S) (h2 : S < 9223372036854775808) (hb : (S.natAbs : Int) < pw b) : 0 ≤ tzV S ∧ tzV S < b := by
  obtain ⟨t0, t1, t2, t3⟩ := tz_spec S h0 h1 h2
  refine ⟨t0, ?_⟩
  apply Int.lt_of_not_ge
  intro h
  have a := pw_mono h
  have p := pw_pos (tzV S)
  have e : (S.natAbs : Int) = (odV S).natAbs * pw (tzV S) := by
    have : S.natAbs = (odV S * pw (tzV S)).natAbs := by rw [← t2]
    rw [this, Int.natAbs_mul, Int.natCast_mul]
    congr 1
  have h3 := Int.mul_le_mul_of_nonneg_right (show 1 ≤ ((odV S).natAbs : Int) by omega) (show 0 ≤ pw (tzV S) by omega)
  omega

theorem od_sign {S : Int} (h1 : -9223372036854775808 < S) (h2 : S < 9223372036854775808) : (odV S < 0 ↔ S < 0) ∧ (odV S = 0 ↔ S = 0) := by
  by_cases h0 : S = 0
  · subst h0
    rw [od_zero]
    omega
  · obtain ⟨t0, t1, t2, t3⟩ := tz_spec S h0 h1 h2
    have p := pw_pos (tzV S)
    refine ⟨?_, by omega⟩
    constructor
    · intro h
      rw [t2]
      exact Int.mul_neg_of_neg_of_pos h (by omega)
    · intro h
      apply Int.lt_of_not_ge
      intro h3
      have := Int.mul_nonneg h3 (show 0 ≤ pw (tzV S) by omega)
      omega
end Go.Proofs.YtfgbndjhaiigbabDoor

