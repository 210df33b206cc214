/-
  Contracts of the functions that the laws reach, and the plain facts that they rest on, each under the conditions that its line names; part 3.
-/
import Derived.Test.YtcpamgmaijjhoaaGreatDoorKrs1
import Derived.Test.YtcpamgmaijjhoaaGreatDoorKrs2
import Derived.Lib.BitFns
import Derived.Lib.TrailingZeros
namespace Go.Proofs.YtcpamgmaijjhoaaGreatDoor
open Go

/-- There is a dyadic number. -/
def dyB (n e : Int) : Bool := decide (-1125899906842624 ≤ n ∧ n ≤ 1125899906842624 ∧ -100 ≤ e ∧ e ≤ 100) && ((n % 2 == 1) || (n == 0 && e == 0))

theorem dy_iff {n e : Int} : dyB n e = true ↔ (-1125899906842624 ≤ n ∧ n ≤ 1125899906842624 ∧ -100 ≤ e ∧ e ≤ 100) ∧ (n % 2 = 1 ∨ (n = 0 ∧ e = 0)) := by
  unfold dyB; simp

/-- How often 2 divides n. -/
def tzV (n : Int) : Int := Lib.ctz 64 n.natAbs

/-- What is left of n. -/
def odV (n : Int) : Int := n / pw (tzV n)

/-- How many places n has. -/
def plV (n : Int) : Int := Lib.bitLen n.natAbs

theorem odd_uniq : ∀ (a b m n : Nat), 2 ^ a * (2 * m + 1) = 2 ^ b * (2 * n + 1) → a = b ∧ m = n
  | 0, 0, m, n, h => by simp at h; omega
  | 0, b + 1, m, n, h => by rw [Nat.pow_succ, Nat.mul_comm (2 ^ b) 2, Nat.mul_assoc] at h; simp at h; omega
  | a + 1, 0, m, n, h => by rw [Nat.pow_succ, Nat.mul_comm (2 ^ a) 2, Nat.mul_assoc] at h; simp at h; omega
  | a + 1, b + 1, m, n, h => by
    have := odd_uniq a b m n (by rw [Nat.pow_succ, Nat.pow_succ, Nat.mul_comm (2 ^ a) 2, Nat.mul_comm (2 ^ b) 2, Nat.mul_assoc, Nat.mul_assoc] at h; omega)
    omega

theorem ctz_spec (x : Nat) (h0 : 0 < x) (h : x < 2 ^ 64) : ∃ m, x = 2 ^ Lib.ctz 64 x * (2 * m + 1) ∧ Lib.ctz 64 x < 64 := by
  unfold Lib.ctz
  rw [if_neg (by omega)]
  exact Lib.ctzFrom_spec 64 x h0 h

theorem ctz_of (x k m : Nat) (h : x = 2 ^ k * (2 * m + 1)) (hx : x < 2 ^ 64) : Lib.ctz 64 x = k := by
  have h0 : 0 < x := by rw [h]; exact Nat.mul_pos (Nat.two_pow_pos k) (by omega)
  obtain ⟨m', h1, _⟩ := ctz_spec x h0 hx
  rw [h1] at h
  exact (odd_uniq _ _ _ _ h).1

theorem tz_spec (n : Int) (h0 : n ≠ 0) (h1 : -9223372036854775808 < n) (h2 : n < 9223372036854775808) :
    0 ≤ tzV n ∧ tzV n < 63 ∧ n = odV n * pw (tzV n) ∧ odV n % 2 = 1 := by
  obtain ⟨m, h3, h4⟩ := ctz_spec n.natAbs (by omega) (by omega)
  have hp := pw_pos (tzV n)
  have hc : ((2 ^ Lib.ctz 64 n.natAbs : Nat) : Int) = pw (tzV n) := by rw [pw_cast]; rfl
  have e : (n.natAbs : Int) = pw (tzV n) * (2 * m + 1) := by
    rw [← hc]; exact_mod_cast h3
  have hlt : tzV n < 63 := by
    apply Int.lt_of_not_ge
    intro hge
    have := pw_ge 63 9223372036854775808 rfl hge
    have h5 : pw (tzV n) * 1 ≤ pw (tzV n) * (2 * m + 1) := Int.mul_le_mul_of_nonneg_left (by omega) (by omega)
    omega
  have key : ∀ q : Int, n = q * pw (tzV n) → odV n = q := by
    intro q hq
    unfold odV
    have : (q * pw (tzV n)) / pw (tzV n) = q := Int.mul_ediv_cancel q (by omega)
    rwa [← hq] at this
  refine ⟨by unfold tzV; omega, hlt, ?_⟩
  rcases Int.lt_or_gt_of_ne h0 with hn | hn
  · have e2 : n = -(2 * (m : Int) + 1) * pw (tzV n) := by rw [Int.neg_mul, Int.mul_comm]; omega
    rw [key _ e2]
    exact ⟨e2, by omega⟩
  · have e2 : n = (2 * (m : Int) + 1) * pw (tzV n) := by rw [Int.mul_comm]; omega
    rw [key _ e2]
    exact ⟨e2, by omega⟩

/-- The number itself and its power tell how often 2 divides. -/
theorem tz_of (n q k : Int) (hk : 0 ≤ k) (hq : q % 2 = 1) (h : n = q * pw k) (h1 : -9223372036854775808 < n) (h2 : n < 9223372036854775808) :
    tzV n = k ∧ odV n = q := by
  have hp := pw_pos k
  have e1 : n.natAbs = 2 ^ k.toNat * (2 * (q.natAbs / 2) + 1) := by
    rw [h, Int.natAbs_mul, Nat.mul_comm]
    have : (pw k).natAbs = 2 ^ k.toNat := by
      have := pw_nat k
      omega
    rw [this]
    congr 1
    omega
  have t : tzV n = k := by
    unfold tzV
    rw [ctz_of _ _ _ e1 (by omega)]
    omega
  refine ⟨t, ?_⟩
  unfold odV
  rw [t, h]
  exact Int.mul_ediv_cancel q (by omega)

/-- A word of 64 bits has as many zeros behind. -/
theorem ctz_wrap (n : Int) (h0 : n ≠ 0) (h1 : -9223372036854775808 < n) (h2 : n < 9223372036854775808) :
    ((Lib.ctz 64 (n % 18446744073709551616).toNat : Nat) : Int) = tzV n := by
  by_cases hn : 0 ≤ n
  · have : (n % 18446744073709551616).toNat = n.natAbs := by omega
    rw [this]; rfl
  · obtain ⟨t0, t1, t2, t3⟩ := tz_spec n h0 h1 h2
    have hp := pw_pos (tzV n)
    have hs : pw (64 - tzV n) = 2 * pw (63 - tzV n) := by
      have := pw_succ (63 - tzV n) (by omega)
      rwa [show 63 - tzV n + 1 = 64 - tzV n by omega] at this
    have hm : pw (64 - tzV n) * pw (tzV n) = 18446744073709551616 := by
      rw [← pw_add _ _ (by omega) t0, show 64 - tzV n + tzV n = 64 by omega]; rfl
    have e : n % 18446744073709551616 = (pw (64 - tzV n) + odV n) * pw (tzV n) := by
      rw [Int.add_mul, hm, ← t2]; omega
    have hpos : 0 < (pw (64 - tzV n) + odV n) * pw (tzV n) := by rw [← e]; omega
    have hq : 0 < pw (64 - tzV n) + odV n := Int.pos_of_mul_pos_left hpos (by omega)
    have e1 : (n % 18446744073709551616).toNat = 2 ^ (tzV n).toNat * (2 * ((pw (64 - tzV n) + odV n).toNat / 2) + 1) := by
      have q2 : 2 * ((pw (64 - tzV n) + odV n).toNat / 2) + 1 = (pw (64 - tzV n) + odV n).toNat := by omega
      rw [q2, e, Nat.mul_comm, Int.toNat_mul (by omega) (by omega)]
      congr 1
    rw [ctz_of _ _ _ e1 (by omega)]
    omega

theorem pl_bd (n : Int) (h0 : n ≠ 0) (h1 : -9223372036854775808 ≤ n) (h2 : n < 9223372036854775808) :
    1 ≤ plV n ∧ pw (plV n - 1) ≤ n.natAbs ∧ (n.natAbs : Int) < pw (plV n) := by
  obtain ⟨b1, b2, b3⟩ := bl_bounds n.natAbs (by omega) (by omega)
  unfold plV
  refine ⟨by omega, ?_, ?_⟩
  · have := pw_cast (Lib.bitLen n.natAbs - 1)
    rw [show ((Lib.bitLen n.natAbs : Nat) : Int) - 1 = ((Lib.bitLen n.natAbs - 1 : Nat) : Int) by omega, ← this]
    exact_mod_cast b2
  · rw [← pw_cast]; exact_mod_cast b3

theorem pl_zero : plV 0 = 0 := by decide

theorem pl_nn (n : Int) : 0 ≤ plV n := by unfold plV; omega

theorem pl_le (n k : Int) (hk : 0 ≤ k) (hk2 : k ≤ 63) (h : (n.natAbs : Int) < pw k) : plV n ≤ k := by
  have hkk := pw_le 63 9223372036854775808 rfl hk2
  by_cases h0 : n = 0
  · subst h0; rw [pl_zero]; exact hk
  · obtain ⟨b1, b2, b3⟩ := pl_bd n h0 (by omega) (by omega)
    apply Int.le_of_not_gt
    intro hg
    have := pw_mono (a := k) (b := plV n - 1) (by omega)
    omega

theorem pl_ge (n k : Int) (h : pw k ≤ n.natAbs) (h1 : -9223372036854775808 ≤ n) (h2 : n < 9223372036854775808) : k < plV n := by
  have h0 : n ≠ 0 := by intro h0; subst h0; have := pw_pos k; omega
  obtain ⟨b1, b2, b3⟩ := pl_bd n h0 h1 h2
  apply Int.lt_of_not_ge
  intro hg
  have := pw_mono (a := plV n) (b := k) hg
  omega
end Go.Proofs.YtcpamgmaijjhoaaGreatDoor

namespace Go.Proofs.YtcpamgmaijjhoaaGreatDoor
open Go

/-- The sign. -/
def sgV (n : Int) : Int := if n < 0 then -1 else if 0 < n then 1 else 0

theorem sg_neg {n : Int} (h : n < 0) : sgV n = -1 := by unfold sgV; rw [if_pos h]

theorem sg_pos {n : Int} (h : 0 < n) : sgV n = 1 := by unfold sgV; rw [if_neg (by omega), if_pos h]

theorem sg_zero {n : Int} (h : n = 0) : sgV n = 0 := by subst h; rfl

theorem sg_mul {n m : Int} (h : 0 < m) : sgV (n * m) = sgV n := by
  rcases Int.lt_trichotomy n 0 with g | g | g
  · rw [sg_neg g, sg_neg (Int.mul_neg_of_neg_of_pos g h)]
  · subst g; simp
  · rw [sg_pos g, sg_pos (Int.mul_pos g h)]

theorem plV_abs (n : Int) : plV (n.natAbs : Int) = plV n := by unfold plV; simp
end Go.Proofs.YtcpamgmaijjhoaaGreatDoor

namespace Go.Proofs.YtcpamgmaijjhoaaGreatDoor
open Go

/-- S times 2^l is a dyadic number in lowest terms. -/
def nfB (S l : Int) : Bool := S == 0 || dyB (odV S) (l + tzV S)

def nfN (S l : Int) : Int := if nfB S l = true then odV S else 0

def nfE (S l : Int) : Int := if S = 0 then 0 else if nfB S l = true then l + tzV S else 0

theorem od_zero : odV 0 = 0 := by unfold odV; simp

theorem nf_zero {S l : Int} (h : S = 0) : nfB S l = true ∧ nfN S l = 0 ∧ nfE S l = 0 := by
  subst h
  have : nfB 0 l = true := by unfold nfB; simp
  unfold nfN nfE
  rw [if_pos this, od_zero]
  simp [this]

theorem nf_yes {S l : Int} (h0 : S ≠ 0) (h : dyB (odV S) (l + tzV S) = true) : nfB S l = true ∧ nfN S l = odV S ∧ nfE S l = l + tzV S := by
  have : nfB S l = true := by unfold nfB; simp [h]
  unfold nfN nfE
  rw [if_pos this, if_neg h0, if_pos this]
  exact ⟨this, rfl, rfl⟩

theorem nf_no {S l : Int} (h0 : S ≠ 0) (h : dyB (odV S) (l + tzV S) = false) : nfB S l = false ∧ nfN S l = 0 ∧ nfE S l = 0 := by
  have : nfB S l = false := by unfold nfB; simp [h, h0]
  unfold nfN nfE
  rw [this]
  simp

theorem mul_bd {n k j : Int} (hj : 0 ≤ j) (hk : plV n + j ≤ k) (_ : k ≤ 62) (h1 : -9223372036854775808 < n) (h2 : n < 9223372036854775808) : ((n * pw j).natAbs : Int) < pw k := by
  by_cases h0 : n = 0
  · subst h0; have := pw_pos k; simp; omega
  · obtain ⟨q1, q2, q3⟩ := pl_bd n h0 (by omega) (by omega)
    have hp := pw_pos j
    have e1 : ((n * pw j).natAbs : Int) = n.natAbs * pw j := by
      rw [Int.natAbs_mul, Int.natCast_mul]; congr 1
    have e2 : (n.natAbs : Int) * pw j < pw (plV n) * pw j := Int.mul_lt_mul_of_pos_right (by omega) (by omega)
    rw [← pw_add (plV n) j (by omega) hj] at e2
    have := pw_mono hk
    omega

/-- The power of what is left of a number. -/
def shE (n d : Int) : Int := if n = 0 then 0 else d + tzV n

/-- The power of two that is the unit. -/
def unV (e f : Int) : Int := 1 - (pw (e - 1) - 1) - f

theorem un_bd {e f : Int} (hg : goodB e f = true) : -24 ≤ unV e f ∧ unV e f ≤ -1 ∧ 2 ≤ pw (e - 1) ∧ pw (e - 1) ≤ 16 := by
  obtain ⟨h1, h2, h3, h4⟩ := good_iff.1 hg
  have k2 : 2 ≤ pw (e - 1) := pw_ge 1 2 rfl (by omega)
  have k3 : pw (e - 1) ≤ 16 := pw_le 4 16 rfl (by omega)
  unfold unV
  omega

theorem nf_few {S l : Int} (h1 : -9007199254740992 ≤ S) (h2 : S ≤ 9007199254740992) (hs : -1125899906842624 ≤ odV S ∧ odV S ≤ 1125899906842624) (h3 : -100 ≤ l) (h4 : l ≤ 0) : nfB S l = true ∧ nfN S l = odV S ∧ nfE S l = shE S l := by
  by_cases h0 : S = 0
  · subst h0
    obtain ⟨e1, e2, e3⟩ := nf_zero (S := 0) (l := l) rfl
    rw [e1, e2, e3, od_zero]
    exact ⟨rfl, rfl, rfl⟩
  · obtain ⟨t0, t1, t2, t3⟩ := tz_spec S h0 (by omega) (by omega)
    obtain ⟨e1, e2, e3⟩ := nf_yes (S := S) (l := l) h0 (dy_iff.2 ⟨⟨hs.1, hs.2, by omega, by omega⟩, Or.inl t3⟩)
    rw [e1, e2, e3, show shE S l = l + tzV S from if_neg h0]
    exact ⟨rfl, rfl, rfl⟩

theorem od_bd (S b : Int) (hb : 0 ≤ b) (h1 : -b ≤ S) (h2 : S ≤ b) : -b ≤ odV S ∧ odV S ≤ b := by
  have hp := pw_pos (tzV S)
  unfold odV
  constructor
  · apply (Int.le_ediv_iff_mul_le (by omega)).2
    have := Int.mul_le_mul_of_nonneg_left (show 1 ≤ pw (tzV S) by omega) hb
    rw [Int.neg_mul]
    omega
  · apply Int.ediv_le_of_le_mul (by omega)
    have := Int.mul_le_mul_of_nonneg_left (show 1 ≤ pw (tzV S) by omega) hb
    omega

theorem nf_small {S l : Int} (h1 : -1125899906842624 ≤ S) (h2 : S ≤ 1125899906842624) (h3 : -100 ≤ l) (h4 : l ≤ 0) : nfB S l = true ∧ nfN S l = odV S ∧ nfE S l = shE S l :=
  nf_few (by omega) (by omega) (od_bd S 1125899906842624 (by decide) h1 h2) h3 h4
end Go.Proofs.YtcpamgmaijjhoaaGreatDoor

namespace Go.Proofs.YtcpamgmaijjhoaaGreatDoor
open Go

/-- The step behind a pattern with the sign 0. -/
def stV (f p : Int) : Int := pw (max 0 (p / pw f - 1))

/-- Whether the upper one is taken: A above the lower one, B between both. -/
def upR (A B p mode : Int) (neg : Bool) : Bool :=
  if mode = 0 then decide (B < 2 * A ∨ (2 * A = B ∧ p % 2 = 1)) else if mode = 1 then decide (B ≤ 2 * A) else if mode = 3 then !neg else if mode = 4 then neg else if mode = 5 then decide (p % 2 = 0) else false

def rndP (A B p mode : Int) (neg : Bool) : Int := if A = 0 then p else if upR A B p mode neg = true then p + 1 else p

/-- p is the greatest pattern up to g of at most X / D units. -/
def BelowQ (f g X D p : Int) : Prop := 0 ≤ p ∧ p ≤ g ∧ mgV f p * D ≤ X ∧ (g < p + 1 ∨ X < mgV f (p + 1) * D)

/-- X / D units are rounded to r. -/
def IsRnd (f g X D mode : Int) (neg : Bool) (r : Int) : Prop := ∃ p, BelowQ f g X D p ∧ r = rndP (X - mgV f p * D) (stV f p * D) p mode neg

/-- Twice a value, or twice a midpoint. -/
def Pt (f g T : Int) : Prop := ∃ p, 0 ≤ p ∧ p ≤ g ∧ (T = 2 * mgV f p ∨ T = 2 * mgV f p + stV f p)

theorem belowq_one {f g X D p q : Int} (hf : 1 ≤ f) (hD : 0 < D) (hp : BelowQ f g X D p) (hq : BelowQ f g X D q) : p = q := by
  obtain ⟨p0, p1, p2, p3⟩ := hp
  obtain ⟨q0, q1, q2, q3⟩ := hq
  rcases Int.lt_trichotomy p q with h | h | h
  · have := Int.mul_le_mul_of_nonneg_right (mg_mono f (p + 1) q hf (by omega) (by omega)) (show 0 ≤ D by omega); omega
  · exact h
  · have := Int.mul_le_mul_of_nonneg_right (mg_mono f (q + 1) p hf (by omega) (by omega)) (show 0 ≤ D by omega); omega

theorem rnd_one {f g X D mode r s : Int} {neg : Bool} (hf : 1 ≤ f) (hD : 0 < D) (hr : IsRnd f g X D mode neg r) (hs : IsRnd f g X D mode neg s) : r = s := by
  obtain ⟨p, hp, rfl⟩ := hr
  obtain ⟨q, hq, rfl⟩ := hs
  rw [belowq_one hf hD hp hq]

theorem sg_same {a b : Int} (h : sgV a = sgV b) : (a < 0 ↔ b < 0) ∧ (a = 0 ↔ b = 0) ∧ (0 < a ↔ 0 < b) := by
  rcases Int.lt_trichotomy a 0 with g | g | g <;> rcases Int.lt_trichotomy b 0 with k | k | k
  · omega
  · rw [sg_neg g, sg_zero k] at h; cases h
  · rw [sg_neg g, sg_pos k] at h; cases h
  · rw [sg_zero g, sg_neg k] at h; cases h
  · omega
  · rw [sg_zero g, sg_pos k] at h; cases h
  · rw [sg_pos g, sg_neg k] at h; cases h
  · rw [sg_pos g, sg_zero k] at h; cases h
  · omega

/-- What lies in the same way among the points is rounded in the same way. -/
theorem rnd_move {f g X D Y E mode r : Int} {neg : Bool} (H : ∀ T, Pt f g T → sgV (2 * X - T * D) = sgV (2 * Y - T * E)) (hr : IsRnd f g X D mode neg r) : IsRnd f g Y E mode neg r := by
  obtain ⟨p, ⟨p0, p1, p2, p3⟩, rfl⟩ := hr
  have e : ∀ a b : Int, 2 * a * b = 2 * (a * b) := fun a b => Int.mul_assoc 2 a b
  have h1 := sg_same (H _ ⟨p, p0, p1, Or.inl rfl⟩)
  have h2 := sg_same (H _ ⟨p, p0, p1, Or.inr rfl⟩)
  rw [e, e] at h1
  rw [Int.add_mul, Int.add_mul, e, e] at h2
  have hB : BelowQ f g Y E p := by
    refine ⟨p0, p1, by omega, ?_⟩
    by_cases hg : g < p + 1
    · exact Or.inl hg
    · have h3 := sg_same (H _ ⟨p + 1, by omega, by omega, Or.inl rfl⟩)
      rw [e, e] at h3
      right
      omega
  refine ⟨p, hB, ?_⟩
  have z : X - mgV f p * D = 0 ↔ Y - mgV f p * E = 0 := by omega
  unfold rndP
  by_cases h0 : X - mgV f p * D = 0
  · rw [if_pos h0, if_pos (z.1 h0)]
  · rw [if_neg h0, if_neg (fun h => h0 (z.2 h))]
    have hu : upR (X - mgV f p * D) (stV f p * D) p mode neg = upR (Y - mgV f p * E) (stV f p * E) p mode neg := by
      unfold upR
      have c1 : decide (stV f p * D < 2 * (X - mgV f p * D) ∨ (2 * (X - mgV f p * D) = stV f p * D ∧ p % 2 = 1)) = decide (stV f p * E < 2 * (Y - mgV f p * E) ∨ (2 * (Y - mgV f p * E) = stV f p * E ∧ p % 2 = 1)) := by
        rw [decide_eq_decide]; omega
      have c2 : decide (stV f p * D ≤ 2 * (X - mgV f p * D)) = decide (stV f p * E ≤ 2 * (Y - mgV f p * E)) := by
        rw [decide_eq_decide]; omega
      rw [c1, c2]
    rw [hu]

/-- How the points look: few places. -/
theorem pt_few {e f T : Int} (hg : goodB e f = true) (h : Pt f ((pw e - 1) * pw f - 1) T) : ∃ M s : Int, T = M * pw s ∧ 0 ≤ M ∧ M < 4096 ∧ 0 ≤ s ∧ s ≤ 30 := by
  obtain ⟨h1, h2, h3, h4⟩ := good_iff.1 hg
  obtain ⟨⟨a1, a2⟩, ⟨b1, b2⟩, ⟨c1, c2⟩, hmul⟩ := pw_facts h1 h2 h3 h4
  obtain ⟨p, p0, p1, h⟩ := h
  have x0 : 0 ≤ p / pw f := Int.ediv_nonneg p0 (by omega)
  have r0 := Int.emod_nonneg p (show pw f ≠ 0 by omega)
  have r1 := Int.emod_lt_of_pos p (show 0 < pw f by omega)
  have hx : p / pw f < pw e - 1 := Int.ediv_lt_of_lt_mul (by omega) (by omega)
  by_cases hn : 0 < p / pw f
  · have hm : mgV f p = (p % pw f + pw f) * pw (p / pw f - 1) := by unfold mgV; rw [if_pos hn]
    have hs : stV f p = pw (p / pw f - 1) := by unfold stV; rw [show max 0 (p / pw f - 1) = p / pw f - 1 by omega]
    have e2 : pw (p / pw f) = 2 * pw (p / pw f - 1) := by
      have := pw_succ (p / pw f - 1) (by omega)
      rwa [show p / pw f - 1 + 1 = p / pw f by omega] at this
    rcases h with rfl | rfl
    · refine ⟨p % pw f + pw f, p / pw f, ?_, by omega, by omega, x0, by omega⟩
      rw [hm, e2, ← Int.mul_assoc, ← Int.mul_assoc, Int.mul_comm _ 2]
    · refine ⟨2 * (p % pw f + pw f) + 1, p / pw f - 1, ?_, by omega, by omega, by omega, by omega⟩
      rw [hm, hs, Int.add_mul (2 * (p % pw f + pw f)) 1, Int.one_mul, Int.mul_assoc 2]
  · have hm : mgV f p = p % pw f := by unfold mgV; rw [if_neg hn]
    have hs : stV f p = 1 := by unfold stV; rw [show max 0 (p / pw f - 1) = 0 by omega]; rfl
    rcases h with rfl | rfl
    · refine ⟨2 * (p % pw f), 0, ?_, by omega, by omega, by omega, by omega⟩
      rw [hm]; show _ = _ * (1 : Int); omega
    · refine ⟨2 * (p % pw f) + 1, 0, ?_, by omega, by omega, by omega, by omega⟩
      rw [hm, hs]; show _ = _ * (1 : Int); omega

/-- The first 24 places, the last one odd if something is cut off. -/
def kpV (n : Int) : Int := if plV n ≤ 24 then n else if n % pw (plV n - 24) = 0 then n else if n / pw (plV n - 24) % 2 = 1 then n / pw (plV n - 24) * pw (plV n - 24) else (n / pw (plV n - 24) + 1) * pw (plV n - 24)

/-- It lies in the same way beside numbers of fewer places. -/
theorem kp_cmp {n M s a : Int} (h0 : 0 ≤ n) (h1 : n < 9223372036854775808) (hM : 0 ≤ M) (hM2 : M < 8388608) (_ : 0 ≤ s) (ha : 0 ≤ a) :
    sgV (n * pw a - M * pw s) = sgV (kpV n * pw a - M * pw s) := by
  unfold kpV
  by_cases hp : plV n ≤ 24
  · rw [if_pos hp]
  · rw [if_neg hp]
    have hn0 : n ≠ 0 := by intro h; subst h; rw [pl_zero] at hp; omega
    obtain ⟨b1, b2, b3⟩ := pl_bd n hn0 (by omega) h1
    have hnn : (n.natAbs : Int) = n := by omega
    rw [hnn] at b2 b3
    generalize hb : plV n - 24 = b at *
    have hB := pw_pos b
    have hA := pw_pos a
    have e1 : pw (plV n - 1) = 8388608 * pw b := by
      rw [show plV n - 1 = 23 + b by omega, pw_add 23 b (by decide) (by omega)]; rfl
    have hdiv := Int.mul_ediv_add_emod n (pw b)
    have hr0 := Int.emod_nonneg n (show pw b ≠ 0 by omega)
    have hr1 := Int.emod_lt_of_pos n (show 0 < pw b by omega)
    by_cases hz : n % pw b = 0
    · rw [if_pos hz]
    · rw [if_neg hz]
      have hq : 8388608 ≤ n / pw b := (Int.le_ediv_iff_mul_le (by omega)).2 (by omega)
      generalize n / pw b = q at *
      have hc : pw b * q = q * pw b := Int.mul_comm _ _
      have hlo : q * pw b < n := by omega
      have hhi : n < (q + 1) * pw b := by rw [Int.add_mul, Int.one_mul]; omega
      have lo := Int.mul_lt_mul_of_pos_right hlo (show 0 < pw a by omega)
      have hi := Int.mul_lt_mul_of_pos_right hhi (show 0 < pw a by omega)
      have eab : pw (b + a) = pw b * pw a := pw_add b a (by omega) ha
      rw [Int.mul_assoc, ← eab] at lo hi
      have hAB := pw_pos (b + a)
      have step : (q + 1) * pw (b + a) = q * pw (b + a) + pw (b + a) := by rw [Int.add_mul, Int.one_mul]
      by_cases hsab : s ≤ b + a
      · have hV : M * pw s < q * pw (b + a) := by
          have t1 : M * pw s ≤ M * pw (b + a) := Int.mul_le_mul_of_nonneg_left (pw_mono hsab) hM
          have t2 : M * pw (b + a) < q * pw (b + a) := Int.mul_lt_mul_of_pos_right (by omega) (by omega)
          omega
        rw [sg_pos (by omega)]
        by_cases hodd : q % 2 = 1
        · rw [if_pos hodd, Int.mul_assoc, ← eab, sg_pos (by omega)]
        · rw [if_neg hodd, Int.mul_assoc, ← eab, sg_pos (by omega)]
      · have eS : pw s = 2 * pw (s - (b + a) - 1) * pw (b + a) := by
          have t := pw_succ (s - (b + a) - 1) (by omega)
          rw [← t, ← pw_add _ _ (by omega) (by omega)]
          congr 1; omega
        have eV : M * pw s = (2 * (M * pw (s - (b + a) - 1))) * pw (b + a) := by
          rw [eS, ← Int.mul_assoc, ← Int.mul_assoc, Int.mul_comm M 2, Int.mul_assoc 2 M]
        rw [eV]
        generalize M * pw (s - (b + a) - 1) = t at *
        by_cases hodd : q % 2 = 1
        · rw [if_pos hodd, Int.mul_assoc q (pw b) (pw a), ← eab]
          rcases Int.lt_or_le (2 * t) q with g | g
          · have := Int.mul_lt_mul_of_pos_right g (show 0 < pw (b + a) by omega)
            rw [sg_pos (by omega), sg_pos (by omega)]
          · have := Int.mul_le_mul_of_nonneg_right (show q + 1 ≤ 2 * t by omega) (show 0 ≤ pw (b + a) by omega)
            rw [sg_neg (by omega), sg_neg (by omega)]
        · rw [if_neg hodd, Int.mul_assoc (q + 1) (pw b) (pw a), ← eab]
          rcases Int.lt_or_le q (2 * t) with g | g
          · have := Int.mul_le_mul_of_nonneg_right (show q + 1 + 1 ≤ 2 * t by omega) (show 0 ≤ pw (b + a) by omega)
            rw [Int.add_mul (q + 1), Int.one_mul] at this
            rw [sg_neg (by omega), sg_neg (by omega)]
          · have := Int.mul_le_mul_of_nonneg_right (show 2 * t ≤ q by omega) (show 0 ≤ pw (b + a) by omega)
            rw [sg_pos (by omega), sg_pos (by omega)]
end Go.Proofs.YtcpamgmaijjhoaaGreatDoor

namespace Go.Proofs.YtcpamgmaijjhoaaGreatDoor
open Go

/-- The greatest pattern. -/
def grV (e f : Int) : Int := (pw e - 1) * pw f - 1

/-- n times 2^k units, n at least 0, k at least -149, are rounded to r. -/
def RndD (e f n k mode : Int) (neg : Bool) (r : Int) : Prop := IsRnd f (grV e f) (n * pw (k + 149)) (pw 149) mode neg r

theorem pt_lt {e f T : Int} (hg : goodB e f = true) (h : Pt f (grV e f) T) : 0 ≤ T ∧ T < 4398046511104 := by
  obtain ⟨M, s, rfl, h1, h2, h3, h4⟩ := pt_few hg h
  have hs := pw_pos s
  have h5 := pw_le 30 1073741824 rfl h4
  have a1 := Int.mul_nonneg h1 (show 0 ≤ pw s by omega)
  have a2 : M * pw s ≤ 4095 * 1073741824 := Int.mul_le_mul (by omega) h5 (by omega) (by omega)
  omega

/-- The first places alone, and not more than the limit. -/
theorem rnd_cap {e f n k mode r : Int} {neg : Bool} (hg : goodB e f = true) (h0 : 0 ≤ n) (h1 : n < 9223372036854775808) (hk : -149 ≤ k)
    (hr : RndD e f n k mode neg r) : IsRnd f (grV e f) (min (kpV n * pw (k + 149)) (pw 190)) (pw 149) mode neg r := by
  refine rnd_move ?_ hr
  intro T hT
  obtain ⟨t0, t1⟩ := pt_lt hg hT
  obtain ⟨M, s, rfl, m0, m1, s0, s1⟩ := pt_few hg hT
  have ea : pw (k + 149 + 1) = 2 * pw (k + 149) := pw_succ _ (by omega)
  have es : pw (s + 149) = pw s * pw 149 := pw_add s 149 s0 (by decide)
  have c1 := kp_cmp (n := n) (M := M) (s := s + 149) (a := k + 149 + 1) h0 h1 m0 (by omega) (by omega) (by omega)
  have c2 := kp_cmp (n := n) (M := 1) (s := 190) (a := k + 149) h0 h1 (by decide) (by decide) (by decide) (by omega)
  rw [es, ea, ← Int.mul_assoc, ← Int.mul_assoc, ← Int.mul_assoc, Int.mul_comm n 2, Int.mul_comm (kpV n) 2, Int.mul_assoc 2, Int.mul_assoc 2] at c1
  rw [Int.one_mul] at c2
  have hcap : M * pw s * pw 149 < 2 * pw 190 := by
    have e1 : 2 * pw 190 = 4398046511104 * pw 149 := by
      have : pw 190 = pw 41 * pw 149 := pw_add 41 149 (by decide) (by decide)
      rw [this, ← Int.mul_assoc]; rfl
    rw [e1]
    exact Int.mul_lt_mul_of_pos_right t1 (by have := pw_pos 149; omega)
  generalize kpV n * pw (k + 149) = Y at *
  generalize n * pw (k + 149) = X at *
  have s2 := sg_same c2
  by_cases hY : Y ≤ pw 190
  · rw [Int.min_eq_left hY]
    exact c1
  · rw [Int.min_eq_right (by omega), sg_pos (by omega), sg_pos (by omega)]
end Go.Proofs.YtcpamgmaijjhoaaGreatDoor

namespace Go.Proofs.YtcpamgmaijjhoaaGreatDoor
open Go

/-- A size with the sign of a number. -/
def sgP (e f n s : Int) : Int := if n < 0 then pw (e + f) + s else s

/-- Where the model's rounding of n times 2^k units is told. -/
def RdIn (n k : Int) : Prop := (-1152921504606846976 < n ∧ n < 1152921504606846976) ∧ (-149 ≤ k ∧ k ≤ 149) ∧ (k < -60 → -1125899906842624 ≤ n ∧ n ≤ 1125899906842624)

theorem rd_dy {e f n d : Int} (hg : goodB e f = true) (hd : dyB n d = true) : RdIn n (d - unV e f) := by
  obtain ⟨⟨h1, h2, h3, h4⟩, _⟩ := dy_iff.1 hd
  obtain ⟨u1, u2, u3, u4⟩ := un_bd hg
  exact ⟨by omega, by omega, fun _ => by omega⟩

theorem pl_60 {n : Int} (h1 : -1152921504606846976 < n) (h2 : n < 1152921504606846976) : plV n ≤ 60 :=
  pl_le n 60 (by decide) (by decide) (by rw [show pw 60 = 1152921504606846976 from rfl]; omega)

/-- The rounding of a size that is told so. -/
theorem rnd_told {e f u r h p : Int} (hh : 0 < h) (hr0 : 0 ≤ r) (hr1 : r < h) (hp : IsBelow f (grV e f) u p) : BelowQ f (grV e f) (u * h + r) h p := by
  obtain ⟨p0, p1, p2, p3⟩ := hp
  refine ⟨p0, p1, ?_, ?_⟩
  · have := Int.mul_le_mul_of_nonneg_right p2 (show 0 ≤ h by omega)
    omega
  · rcases p3 with p3 | p3
    · exact Or.inl p3
    · right
      have := Int.mul_le_mul_of_nonneg_right (show u + 1 ≤ mgV f (p + 1) by omega) (show 0 ≤ h by omega)
      rw [Int.add_mul, Int.one_mul] at this
      omega

/-- Above the lower one: 0 if the number is its value. -/
theorem told_zero {f u r h p : Int} (hh : 0 < h) (hr0 : 0 ≤ r) (hm : mgV f p ≤ u) : u * h + r - mgV f p * h = 0 ↔ mgV f p = u ∧ r = 0 := by
  constructor
  · intro hz
    by_cases he : mgV f p = u
    · rw [he] at hz; exact ⟨he, by omega⟩
    · have := Int.mul_le_mul_of_nonneg_right (show mgV f p + 1 ≤ u by omega) (show 0 ≤ h by omega)
      rw [Int.add_mul, Int.one_mul] at this
      omega
  · rintro ⟨rfl, rfl⟩
    omega
end Go.Proofs.YtcpamgmaijjhoaaGreatDoor

namespace Go.Proofs.YtcpamgmaijjhoaaGreatDoor
open Go

/-- 4096 times a value, or so many 4096ths of the step above it. -/
def PtC (f g T : Int) : Prop := ∃ p j, 0 ≤ p ∧ p ≤ g ∧ 0 ≤ j ∧ j < 4096 ∧ T = 4096 * mgV f p + j * stV f p

/-- X / D and Y / E lie alike among these. -/
def SameC (f g X D Y E : Int) : Prop := (∀ T, PtC f g T → (T * D ≤ 4096 * X ↔ T * E ≤ 4096 * Y)) ∧ (∀ p, 0 ≤ p → p ≤ g → (mgV f p * D < X ↔ mgV f p * E < Y))

theorem SameC.symm {f g X D Y E : Int} (h : SameC f g X D Y E) : SameC f g Y E X D := ⟨fun T hT => (h.1 T hT).symm, fun p a b => (h.2 p a b).symm⟩

theorem SameC.trans {f g X D Y E Z F : Int} (h : SameC f g X D Y E) (k : SameC f g Y E Z F) : SameC f g X D Z F := ⟨fun T hT => (h.1 T hT).trans (k.1 T hT), fun p a b => (h.2 p a b).trans (k.2 p a b)⟩

theorem SameC.refl (f g X D : Int) : SameC f g X D X D := ⟨fun _ _ => Iff.rfl, fun _ _ _ => Iff.rfl⟩

theorem ptc_val {f g p : Int} (p0 : 0 ≤ p) (p1 : p ≤ g) : PtC f g (4096 * mgV f p) := ⟨p, 0, p0, p1, by decide, by decide, by omega⟩

theorem same_val {f g X D Y E p : Int} (h : SameC f g X D Y E) (p0 : 0 ≤ p) (p1 : p ≤ g) : mgV f p * D ≤ X ↔ mgV f p * E ≤ Y := by
  have := h.1 _ (ptc_val p0 p1)
  rw [Int.mul_assoc, Int.mul_assoc] at this
  omega

/-- The pattern below is the same. -/
theorem same_below {f g X D Y E p : Int} (h : SameC f g X D Y E) (hp : BelowQ f g X D p) : BelowQ f g Y E p := by
  obtain ⟨p0, p1, p2, p3⟩ := hp
  refine ⟨p0, p1, (same_val h p0 p1).1 p2, ?_⟩
  by_cases hg : g < p + 1
  · exact Or.inl hg
  · right
    have := same_val (p := p + 1) h (by omega) (by omega)
    omega

/-- How many 4096ths of the step lie below. -/
def chQ (f X D p : Int) : Int := 4096 * (X - mgV f p * D) / (stV f p * D)

theorem st_pos (f p : Int) : 0 < stV f p := by unfold stV; have := pw_pos (max 0 (p / pw f - 1)); omega

theorem mg_stC (f p : Int) (hf : 1 ≤ f) (hp : 0 ≤ p) : mgV f (p + 1) = mgV f p + stV f p := mg_step f p hf hp

theorem ch_iff {f X D p C : Int} (hD : 0 < D) : C = chQ f X D p ↔ (4096 * mgV f p + C * stV f p) * D ≤ 4096 * X ∧ 4096 * X < (4096 * mgV f p + (C + 1) * stV f p) * D := by
  have hs := st_pos f p
  have hB := Int.mul_pos hs hD
  unfold chQ
  have e1 : (4096 * mgV f p + C * stV f p) * D = 4096 * (mgV f p * D) + C * (stV f p * D) := by rw [Int.add_mul, Int.mul_assoc, Int.mul_assoc]
  have e2 : (4096 * mgV f p + (C + 1) * stV f p) * D = 4096 * (mgV f p * D) + C * (stV f p * D) + stV f p * D := by
    rw [Int.add_mul, Int.mul_assoc, Int.mul_assoc, Int.add_mul, Int.one_mul]; omega
  rw [e1, e2]
  generalize stV f p * D = B at *
  generalize mgV f p * D = m at *
  constructor
  · rintro rfl
    have h1 := Int.mul_ediv_add_emod (4096 * (X - m)) B
    have h2 := Int.emod_nonneg (4096 * (X - m)) (show B ≠ 0 by omega)
    have h3 := Int.emod_lt_of_pos (4096 * (X - m)) hB
    rw [Int.mul_comm] at h1
    omega
  · rintro ⟨h1, h2⟩
    have a1 : C ≤ 4096 * (X - m) / B := (Int.le_ediv_iff_mul_le hB).2 (by omega)
    have a2 : 4096 * (X - m) / B < C + 1 := Int.ediv_lt_of_lt_mul hB (by rw [Int.add_mul, Int.one_mul]; omega)
    omega

/-- The chance is the same, where the upper pattern is finite or the size a value. -/
theorem same_ch {f g X D Y E p : Int} (hf : 1 ≤ f) (hD : 0 < D) (hE : 0 < E) (h : SameC f g X D Y E) (hp : BelowQ f g X D p) (hk : p + 1 ≤ g ∨ X ≤ mgV f p * D) : chQ f X D p = chQ f Y E p ∧ 0 ≤ chQ f X D p ∧ chQ f X D p < 4096 ∧ (chQ f X D p = 0 ∨ p + 1 ≤ g) := by
  have hq := same_below h hp
  obtain ⟨p0, p1, p2, p3⟩ := hp
  obtain ⟨_, _, q2, q3⟩ := hq
  have hs := st_pos f p
  obtain ⟨c1, c2⟩ := (ch_iff (f := f) (X := X) (D := D) (p := p) hD).1 rfl
  generalize hC : chQ f X D p = C at *
  have c0 : 0 ≤ C := by
    rw [← hC]; unfold chQ
    exact Int.ediv_nonneg (by omega) (Int.mul_nonneg (by omega) (by omega))
  have hu := mg_stC f p hf p0
  have cu : C < 4096 ∧ (C = 0 ∨ p + 1 ≤ g) := by
    rcases hk with hk | hk
    · refine ⟨?_, Or.inr hk⟩
      have p4 : X < mgV f (p + 1) * D := by omega
      rw [hu, Int.add_mul] at p4
      rcases Int.lt_or_le C 4096 with g | g
      · exact g
      · exfalso
        have t := Int.mul_le_mul_of_nonneg_right g (show 0 ≤ stV f p by omega)
        have t2 := Int.mul_le_mul_of_nonneg_right (show 4096 * mgV f p + 4096 * stV f p ≤ 4096 * mgV f p + C * stV f p by omega) (show 0 ≤ D by omega)
        rw [← Int.mul_add, Int.mul_assoc, Int.add_mul] at t2
        omega
    · have z : C = 0 := by
        rw [← hC]; unfold chQ
        rw [show X - mgV f p * D = 0 by omega]; simp
      exact ⟨by omega, Or.inl z⟩
  refine ⟨?_, c0, cu.1, cu.2⟩
  rw [ch_iff hE]
  refine ⟨(h.1 _ ⟨p, C, p0, p1, c0, cu.1, rfl⟩).1 c1, ?_⟩
  by_cases hc : C + 1 < 4096
  · have := h.1 _ ⟨p, C + 1, p0, p1, by omega, hc, rfl⟩
    omega
  · have hg : p + 1 ≤ g := by omega
    have e3 : C + 1 = 4096 := by omega
    rw [e3, ← Int.mul_add, ← hu, Int.mul_assoc]
    omega

/-- The points have few places. -/
theorem ptc_few {e f T : Int} (hg : goodB e f = true) (h : PtC f (grV e f) T) : ∃ M s : Int, T = M * pw s ∧ 0 ≤ M ∧ M < 8388608 ∧ 0 ≤ s ∧ s ≤ 29 := by
  obtain ⟨h1, h2, h3, h4⟩ := good_iff.1 hg
  obtain ⟨⟨a1, a2⟩, ⟨b1, b2⟩, ⟨c1, c2⟩, hmul⟩ := pw_facts h1 h2 h3 h4
  obtain ⟨p, j, p0, p1, j0, j1, rfl⟩ := h
  unfold grV at p1
  have x0 : 0 ≤ p / pw f := Int.ediv_nonneg p0 (by omega)
  have r0 := Int.emod_nonneg p (show pw f ≠ 0 by omega)
  have r1 := Int.emod_lt_of_pos p (show 0 < pw f by omega)
  have hx : p / pw f < pw e - 1 := Int.ediv_lt_of_lt_mul (by omega) (by omega)
  by_cases hn : 0 < p / pw f
  · have hm : mgV f p = (p % pw f + pw f) * pw (p / pw f - 1) := by unfold mgV; rw [if_pos hn]
    have hs : stV f p = pw (p / pw f - 1) := by unfold stV; rw [show max 0 (p / pw f - 1) = p / pw f - 1 by omega]
    refine ⟨4096 * (p % pw f + pw f) + j, p / pw f - 1, ?_, by omega, by omega, by omega, by omega⟩
    rw [hm, hs, Int.add_mul (4096 * (p % pw f + pw f)) j, Int.mul_assoc]
  · have hm : mgV f p = p % pw f := by unfold mgV; rw [if_neg hn]
    have hs : stV f p = 1 := by unfold stV; rw [show max 0 (p / pw f - 1) = 0 by omega]; rfl
    refine ⟨4096 * (p % pw f) + j, 0, ?_, by omega, by omega, by omega, by omega⟩
    rw [hm, hs]; show _ = _ * (1 : Int); omega

theorem ptc_lt {e f T : Int} (hg : goodB e f = true) (h : PtC f (grV e f) T) : 0 ≤ T ∧ T < 4503599627370496 := by
  obtain ⟨M, s, rfl, h1, h2, h3, h4⟩ := ptc_few hg h
  have hs := pw_pos s
  have h5 := pw_le 29 536870912 rfl h4
  have a1 := Int.mul_nonneg h1 (show 0 ≤ pw s by omega)
  have a2 : M * pw s ≤ 8388607 * 536870912 := Int.mul_le_mul (by omega) h5 (by omega) (by omega)
  omega

/-- What has the same sign against all points lies alike. -/
theorem same_of_sg {f g X D Y E : Int} (H : ∀ T, PtC f g T → sgV (4096 * X - T * D) = sgV (4096 * Y - T * E)) : SameC f g X D Y E := by
  refine ⟨fun T hT => ?_, fun p p0 p1 => ?_⟩
  · have := sg_same (H T hT)
    omega
  · have := sg_same (H _ (ptc_val p0 p1))
    rw [Int.mul_assoc, Int.mul_assoc] at this
    omega

/-- The first places alone, and not more than the limit. -/
theorem same_cap {e f n k : Int} (hg : goodB e f = true) (h0 : 0 ≤ n) (h1 : n < 9223372036854775808) (hk : -149 ≤ k) :
    SameC f (grV e f) (n * pw (k + 149)) (pw 149) (min (kpV n * pw (k + 149)) (pw 190)) (pw 149) := by
  refine same_of_sg fun T hT => ?_
  obtain ⟨t0, t1⟩ := ptc_lt hg hT
  obtain ⟨M, s, rfl, m0, m1, s0, s1⟩ := ptc_few hg hT
  have ea : pw (k + 149 + 12) = 4096 * pw (k + 149) := by
    rw [pw_add _ 12 (by omega) (by decide), Int.mul_comm]; rfl
  have es : pw (s + 149) = pw s * pw 149 := pw_add s 149 s0 (by decide)
  have c1 := kp_cmp (n := n) (M := M) (s := s + 149) (a := k + 149 + 12) h0 h1 m0 (by omega) (by omega) (by omega)
  have c2 := kp_cmp (n := n) (M := 1) (s := 190) (a := k + 149) h0 h1 (by decide) (by decide) (by decide) (by omega)
  rw [es, ea, ← Int.mul_assoc, ← Int.mul_assoc, ← Int.mul_assoc, Int.mul_comm n 4096, Int.mul_comm (kpV n) 4096, Int.mul_assoc 4096, Int.mul_assoc 4096] at c1
  rw [Int.one_mul] at c2
  have hcap : M * pw s * pw 149 < 4096 * pw 190 := by
    have e1 : 4096 * pw 190 = 9007199254740992 * pw 149 := by
      have : pw 190 = pw 41 * pw 149 := pw_add 41 149 (by decide) (by decide)
      rw [this, ← Int.mul_assoc]; rfl
    rw [e1]
    exact Int.mul_lt_mul_of_pos_right (by omega) (by have := pw_pos 149; omega)
  generalize kpV n * pw (k + 149) = Y at *
  generalize n * pw (k + 149) = X at *
  have s2 := sg_same c2
  by_cases hY : Y ≤ pw 190
  · rw [Int.min_eq_left hY]
    exact c1
  · rw [Int.min_eq_right (by omega), sg_pos (by omega), sg_pos (by omega)]

theorem same_up {f g X D m : Int} (hm : 0 < m) : SameC f g X D (X * m) (D * m) := by
  refine same_of_sg fun T _ => ?_
  rw [← Int.mul_assoc, ← Int.mul_assoc, ← Int.sub_mul]
  exact (sg_mul hm).symm

theorem samec_whole {f g n k : Int} (hk : 0 ≤ k) : SameC f g (n * pw k) 1 (n * pw (k + 149)) (pw 149) := by
  have e1 : pw (k + 149) = pw k * pw 149 := pw_add k 149 hk (by decide)
  have := same_up (f := f) (g := g) (X := n * pw k) (D := 1) (m := pw 149) (by have := pw_pos 149; omega)
  rwa [Int.one_mul, Int.mul_assoc, ← e1] at this

theorem samec_part {f g n k : Int} (hk : k ≤ 0) (hk2 : -149 ≤ k) : SameC f g n (pw (-k)) (n * pw (k + 149)) (pw 149) := by
  have e1 : pw 149 = pw (-k) * pw (k + 149) := by
    rw [← pw_add (-k) (k + 149) (by omega) (by omega)]
    congr 1; omega
  have := same_up (f := f) (g := g) (X := n) (D := pw (-k)) (m := pw (k + 149)) (by have := pw_pos (k + 149); omega)
  rwa [← e1] at this

theorem samec_great {e f X Y D E : Int} (hg : goodB e f = true) (hD : 0 < D) (hE : 0 < E) (hX : 2199023255552 * D ≤ X) (hY : 2199023255552 * E ≤ Y) : SameC f (grV e f) X D Y E := by
  refine same_of_sg fun T hT => ?_
  obtain ⟨t0, t1⟩ := ptc_lt hg hT
  have a := Int.mul_lt_mul_of_pos_right t1 hD
  have b := Int.mul_lt_mul_of_pos_right t1 hE
  rw [sg_pos (by omega), sg_pos (by omega)]

/-- A rest in 2^18 times q parts, told in 2^19 parts, with one that tells that there is more. -/
theorem samec_jam {f g u r q : Int} (hq : 0 < q) (hr0 : 0 ≤ r) (hr1 : r < 262144 * q) :
    SameC f g (u * (262144 * q) + r) (262144 * q) (u * 524288 + (2 * (r / q) + (if 0 < r % q then 1 else 0))) 524288 := by
  have hd := Int.mul_ediv_add_emod r q
  have h0 := Int.emod_nonneg r (show q ≠ 0 by omega)
  have h1 := Int.emod_lt_of_pos r hq
  rw [Int.mul_comm] at hd
  have hb : r / q < 262144 := Int.ediv_lt_of_lt_mul hq hr1
  have hb0 : 0 ≤ r / q := Int.ediv_nonneg hr0 (by omega)
  generalize r / q = t at *
  generalize r % q = z at *
  subst hd
  refine ⟨fun T _ => ?_, fun p _ _ => ?_⟩
  · have e1 : T * (262144 * q) ≤ 4096 * (u * (262144 * q) + (t * q + z)) ↔ ((T - 4096 * u) * 64 - t) * q ≤ z := by
      have a1 : T * (262144 * q) = 262144 * (T * q) := by rw [← Int.mul_assoc, Int.mul_comm T, Int.mul_assoc]
      have a2 : u * (262144 * q) = 262144 * (u * q) := by rw [← Int.mul_assoc, Int.mul_comm u, Int.mul_assoc]
      have a3 : ((T - 4096 * u) * 64 - t) * q = 64 * (T * q) - 262144 * (u * q) - t * q := by
        rw [Int.sub_mul, Int.mul_comm (T - 4096 * u) 64, Int.mul_assoc, Int.sub_mul, Int.mul_assoc]; omega
      rw [a1, a2, a3]; omega
    rw [e1]
    generalize hx : (T - 4096 * u) * 64 - t = x
    have e2 : T * 524288 ≤ 4096 * (u * 524288 + (2 * t + (if 0 < z then 1 else 0))) ↔ 2 * x ≤ (if 0 < z then 1 else 0) := by split <;> omega
    rw [e2]
    constructor
    · intro h
      rcases Int.lt_or_le x 1 with k | k
      · split <;> omega
      · have := Int.mul_le_mul_of_nonneg_right k (show 0 ≤ q by omega)
        omega
    · intro h
      have : x ≤ 0 := by revert h; split <;> omega
      have := Int.mul_le_mul_of_nonneg_right this (show 0 ≤ q by omega)
      omega
  · have a2 : ∀ v : Int, v * (262144 * q) = 262144 * (v * q) := fun v => by rw [← Int.mul_assoc, Int.mul_comm v, Int.mul_assoc]
    rw [a2, a2]
    generalize mgV f p = m
    rcases Int.lt_trichotomy m u with k | k | k
    · have := Int.mul_le_mul_of_nonneg_right (show m + 1 ≤ u by omega) (show 0 ≤ q by omega)
      rw [Int.add_mul, Int.one_mul] at this
      have t2 := Int.mul_nonneg hb0 (show 0 ≤ q by omega)
      constructor
      · intro _; split <;> omega
      · intro _; omega
    · subst k
      constructor
      · intro h
        have : 0 < t * q + z := by omega
        rcases Int.lt_or_le 0 t with k | k
        · split <;> omega
        · have : t = 0 := by omega
          subst this
          rw [if_pos (by omega)]; omega
      · intro h
        rcases Int.lt_or_le 0 t with k | k
        · have := Int.mul_pos k hq; omega
        · have : t = 0 := by omega
          subst this
          have : 0 < z := by
            rcases Int.lt_or_le 0 z with k2 | k2
            · exact k2
            · rw [if_neg (by omega)] at h; omega
          omega
    · have := Int.mul_le_mul_of_nonneg_right (show u + 1 ≤ m by omega) (show 0 ≤ q by omega)
      rw [Int.add_mul, Int.one_mul] at this
      have t3 := Int.mul_le_mul_of_nonneg_right (show t + 1 ≤ 262144 by omega) (show 0 ≤ q by omega)
      rw [Int.add_mul, Int.one_mul] at t3
      constructor
      · intro h; omega
      · intro h; exfalso; revert h; split <;> omega

/-- Less than 2^-60 of a unit and its parts: the places in front alone, but not none. -/
theorem samec_tiny {e f N j : Int} (hg : goodB e f = true) (h0 : 0 < N) (h1 : N ≤ 1125899906842624) (hj : 1 ≤ j) (hj2 : j ≤ 89) :
    SameC f (grV e f) (max 1 (N / pw j)) 1152921504606846976 (N * pw (-60 - j + 149)) (pw 149) := by
  have hp := pw_pos j
  have e60 : pw 149 = pw (60 + j) * pw (-60 - j + 149) := by
    rw [← pw_add (60 + j) _ (by omega) (by omega)]; congr 1; omega
  have e48 : pw (60 + j) = 4096 * (281474976710656 * pw j) := by
    rw [pw_add 60 j (by decide) (by omega), ← Int.mul_assoc]; rfl
  have s1 : SameC f (grV e f) N (pw (60 + j)) (N * pw (-60 - j + 149)) (pw 149) := by
    rw [e60]; exact same_up (by have := pw_pos (-60 - j + 149); omega)
  refine SameC.trans ?_ s1
  have hd := Int.mul_ediv_add_emod N (pw j)
  have z0 := Int.emod_nonneg N (show pw j ≠ 0 by omega)
  have z1 := Int.emod_lt_of_pos N (show 0 < pw j by omega)
  have p2 : (2 : Int) ≤ pw j := pw_ge 1 2 rfl hj
  have t0 : 0 ≤ N / pw j := Int.ediv_nonneg (by omega) (by omega)
  have t1 : N / pw j ≤ 562949953421312 := by
    have := Int.mul_le_mul_of_nonneg_left p2 t0
    rw [Int.mul_comm] at hd
    omega
  rw [Int.mul_comm] at hd
  have hK : ∀ x : Int, x * pw (60 + j) = 4096 * (281474976710656 * (x * pw j)) := fun x => by
    rw [e48]
    generalize pw j = q
    rw [Int.mul_left_comm, Int.mul_left_comm x]
  refine ⟨fun T hT => ?_, fun p q0 q1 => ?_⟩
  · obtain ⟨a0, a1⟩ := ptc_lt hg hT
    rw [hK]
    have e1 : 4096 * (281474976710656 * (T * pw j)) ≤ 4096 * N ↔ 281474976710656 * T ≤ N / pw j := by
      rw [Int.le_ediv_iff_mul_le (by omega), Int.mul_assoc]; omega
    rw [e1]
    generalize N / pw j = t at *
    omega
  · rw [hK]
    have e1 : 4096 * (281474976710656 * (mgV f p * pw j)) < N ↔ mgV f p ≤ 0 := by
      constructor
      · intro h
        rcases Int.lt_or_le 0 (mgV f p) with k | k
        · have := Int.mul_le_mul_of_nonneg_right (show 1 ≤ mgV f p by omega) (show 0 ≤ pw j by omega)
          omega
        · exact k
      · intro h
        have := Int.mul_le_mul_of_nonneg_right h (show 0 ≤ pw j by omega)
        omega
    rw [e1]
    generalize N / pw j = t at *
    omega

/-- Where the size is too great for a chance. -/
theorem same_fail {f g X D Y E p : Int} (h : SameC f g X D Y E) (hp : BelowQ f g X D p) : mgV f p * D < X ↔ mgV f p * E < Y := h.2 p hp.1 hp.2.1

/-- So many bits of twelve. -/
theorem ch_bits {f X D p b : Int} (hD : 0 < D) (b0 : 0 ≤ b) (b1 : b ≤ 12) : chQ f X D p / pw (12 - b) = pw b * (X - mgV f p * D) / (stV f p * D) := by
  have hB := Int.mul_pos (st_pos f p) hD
  unfold chQ
  generalize stV f p * D = B at *
  generalize X - mgV f p * D = A at *
  have e1 : pw 12 = pw (12 - b) * pw b := by rw [← pw_add _ _ (by omega) b0]; congr 1; omega
  have hq := pw_pos (12 - b)
  rw [show (4096 : Int) = pw 12 from rfl, e1, Int.mul_assoc, Int.ediv_ediv_of_nonneg (by omega), Int.mul_comm B]
  exact Int.mul_ediv_mul_of_pos _ _ (by omega)
end Go.Proofs.YtcpamgmaijjhoaaGreatDoor

namespace Go.Proofs.YtcpamgmaijjhoaaGreatDoor
open Go

theorem belowq_exC (f X D : Int) (hX : 0 ≤ X) (n : Nat) : ∃ p, BelowQ f (n : Int) X D p := by
  induction n with
  | zero =>
    refine ⟨0, by decide, by decide, ?_, .inl (by decide)⟩
    rw [show mgV f 0 = 0 by
      unfold mgV
      rw [if_neg (by rw [Int.zero_ediv]; decide), Int.zero_emod], Int.zero_mul]
    exact hX
  | succ n ih =>
    obtain ⟨p, p0, p1, p2, p3⟩ := ih
    by_cases h : mgV f ((n + 1 : Nat) : Int) * D ≤ X
    · exact ⟨_, by omega, Int.le_refl _, h, .inl (by omega)⟩
    · refine ⟨p, p0, by omega, p2, .inr ?_⟩
      rcases p3 with p3 | p3
      · have : p + 1 = ((n + 1 : Nat) : Int) := by omega
        rw [this]; omega
      · exact p3

/-- The pattern below X / 2^149 units. -/
noncomputable def loV (e f X : Int) : Int := Classical.epsilon (fun p => BelowQ f (grV e f) X (pw 149) p)

/-- It is a value, or there is a finite pattern above it. -/
noncomputable def okV (e f X : Int) : Bool := decide (loV e f X + 1 ≤ grV e f ∨ X ≤ mgV f (loV e f X) * pw 149)

/-- It lies above the value. -/
noncomputable def upC (e f X : Int) : Bool := decide (mgV f (loV e f X) * pw 149 < X)

/-- The chance, of so many bits. -/
noncomputable def chC (e f X b : Int) : Int := chQ f X (pw 149) (loV e f X) / pw (12 - b)

theorem p149 : (0 : Int) < pw 149 := by have := pw_pos 149; omega

theorem gr_nnC {e f : Int} (hg : goodB e f = true) : 0 ≤ grV e f := by
  obtain ⟨h1, h2, h3, h4⟩ := good_iff.1 hg
  obtain ⟨⟨a1, a2⟩, ⟨b1, b2⟩, ⟨c1, c2⟩, hmul⟩ := pw_facts h1 h2 h3 h4
  unfold grV
  have := Int.mul_le_mul_of_nonneg_right (show 1 ≤ pw e - 1 by omega) (show 0 ≤ pw f by omega)
  omega

theorem lo_spec {e f X : Int} (hg : goodB e f = true) (h0 : 0 ≤ X) : BelowQ f (grV e f) X (pw 149) (loV e f X) := by
  have := belowq_exC f X (pw 149) h0 (grV e f).toNat
  rw [Int.toNat_of_nonneg (gr_nnC hg)] at this
  exact Classical.epsilon_spec (p := fun p => BelowQ f (grV e f) X (pw 149) p) this

theorem lo_is {e f X p : Int} (hg : goodB e f = true) (h : BelowQ f (grV e f) X (pw 149) p) : p = loV e f X :=
  belowq_one (good_iff.1 hg).2.2.1 p149 h (Classical.epsilon_spec (p := fun p => BelowQ f (grV e f) X (pw 149) p) ⟨p, h⟩)

theorem ch_facts {e f X b : Int} (hg : goodB e f = true) (h0 : 0 ≤ X) (b0 : 0 ≤ b) (b1 : b ≤ 12) (ok : okV e f X = true) :
    0 ≤ chC e f X b ∧ chC e f X b < pw b ∧ (upC e f X = false → chC e f X b = 0) ∧ (upC e f X = true → loV e f X + 1 ≤ grV e f) := by
  have hl := lo_spec hg h0
  unfold okV at ok
  rw [decide_eq_true_eq] at ok
  obtain ⟨_, c0, c1, c2⟩ := same_ch (good_iff.1 hg).2.2.1 p149 p149 (SameC.refl f (grV e f) X (pw 149)) hl ok
  have hq := pw_pos (12 - b)
  refine ⟨Int.ediv_nonneg c0 (by omega), ?_, fun hu => ?_, fun hu => ?_⟩
  · have e1 : pw 12 = pw b * pw (12 - b) := by rw [← pw_add _ _ b0 (by omega)]; congr 1; omega
    exact Int.ediv_lt_of_lt_mul (by omega) (by rw [← e1]; exact c1)
  · unfold upC at hu
    rw [decide_eq_false_iff_not] at hu
    have hz : X - mgV f (loV e f X) * pw 149 = 0 := by have := hl.2.2.1; omega
    unfold chC chQ
    rw [hz]; simp
  · unfold upC at hu
    rw [decide_eq_true_eq] at hu
    omega

/-- The same, told by another size that lies alike. -/
theorem ch_told {e f X Y E p : Int} (hg : goodB e f = true) (hE : 0 < E) (h : SameC f (grV e f) Y E X (pw 149)) (hp : BelowQ f (grV e f) Y E p) :
    p = loV e f X ∧ okV e f X = decide (p + 1 ≤ grV e f ∨ Y ≤ mgV f p * E) ∧ upC e f X = decide (mgV f p * E < Y) ∧
    (okV e f X = true → ∀ b, 0 ≤ b → b ≤ 12 → chC e f X b = pw b * (Y - mgV f p * E) / (stV f p * E)) := by
  have hx := same_below h hp
  have e1 := lo_is hg hx
  subst e1
  have h2 := same_fail h hp
  have h3 := hx.2.2.1
  have h4 := hp.2.2.1
  have k1 : okV e f X = decide (loV e f X + 1 ≤ grV e f ∨ Y ≤ mgV f (loV e f X) * E) := by
    unfold okV; rw [decide_eq_decide]; omega
  refine ⟨rfl, k1, ?_, fun ok b b0 b1 => ?_⟩
  · unfold upC; rw [decide_eq_decide]; omega
  · rw [k1, decide_eq_true_eq] at ok
    obtain ⟨c, _⟩ := same_ch (good_iff.1 hg).2.2.1 hE p149 h hp ok
    unfold chC
    rw [← c, ch_bits hE b0 b1]
end Go.Proofs.YtcpamgmaijjhoaaGreatDoor

