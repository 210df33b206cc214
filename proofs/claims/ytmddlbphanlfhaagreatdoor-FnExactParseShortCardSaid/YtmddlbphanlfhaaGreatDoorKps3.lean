/-
  Contracts of the functions that the laws reach, and the plain facts that they rest on, each under the conditions that its line names; part 3.
-/
import Derived.Test.YtmddlbphanlfhaaGreatDoorKps1
import Derived.Test.YtmddlbphanlfhaaGreatDoorKps2
import Derived.Lib.BitFns
import Derived.Lib.TrailingZeros
namespace Go.Proofs.YtmddlbphanlfhaaGreatDoor
open Go

/-- How many places n has. -/
def plV (n : Int) : Int := Lib.bitLen n.natAbs

theorem pl_bd (n : Int) (h0 : n ≠ 0) (h1 : -9223372036854775808 ≤ n) (h2 : n < 9223372036854775808) :
    1 ≤ plV n ∧ pw (plV n - 1) ≤ n.natAbs ∧ (n.natAbs : Int) < pw (plV n) := by
  obtain ⟨b1, b2, b3⟩ := bl_bounds n.natAbs (by omega) (by omega)
  unfold plV
  refine ⟨by omega, ?_, ?_⟩
  · have := pw_cast (Lib.bitLen n.natAbs - 1)
    rw [show ((Lib.bitLen n.natAbs : Nat) : Int) - 1 = ((Lib.bitLen n.natAbs - 1 : Nat) : Int) by omega, ← this]
    exact_mod_cast b2
  · rw [← pw_cast]; exact_mod_cast b3

theorem pl_zero : plV 0 = 0 := by decide

theorem pl_nn (n : Int) : 0 ≤ plV n := by unfold plV; omega

theorem pl_le (n k : Int) (hk : 0 ≤ k) (hk2 : k ≤ 63) (h : (n.natAbs : Int) < pw k) : plV n ≤ k := by
  have hkk := pw_le 63 9223372036854775808 rfl hk2
  by_cases h0 : n = 0
  · subst h0; rw [pl_zero]; exact hk
  · obtain ⟨b1, b2, b3⟩ := pl_bd n h0 (by omega) (by omega)
    apply Int.le_of_not_gt
    intro hg
    have := pw_mono (a := k) (b := plV n - 1) (by omega)
    omega
end Go.Proofs.YtmddlbphanlfhaaGreatDoor

namespace Go.Proofs.YtmddlbphanlfhaaGreatDoor
open Go

/-- The sign. -/
def sgV (n : Int) : Int := if n < 0 then -1 else if 0 < n then 1 else 0

theorem sg_neg {n : Int} (h : n < 0) : sgV n = -1 := by unfold sgV; rw [if_pos h]

theorem sg_pos {n : Int} (h : 0 < n) : sgV n = 1 := by unfold sgV; rw [if_neg (by omega), if_pos h]

theorem sg_zero {n : Int} (h : n = 0) : sgV n = 0 := by subst h; rfl

theorem sg_mul {n m : Int} (h : 0 < m) : sgV (n * m) = sgV n := by
  rcases Int.lt_trichotomy n 0 with g | g | g
  · rw [sg_neg g, sg_neg (Int.mul_neg_of_neg_of_pos g h)]
  · subst g; simp
  · rw [sg_pos g, sg_pos (Int.mul_pos g h)]
end Go.Proofs.YtmddlbphanlfhaaGreatDoor

namespace Go.Proofs.YtmddlbphanlfhaaGreatDoor
open Go

/-- The power of two that is the unit. -/
def unV (e f : Int) : Int := 1 - (pw (e - 1) - 1) - f

theorem un_bd {e f : Int} (hg : goodB e f = true) : -24 ≤ unV e f ∧ unV e f ≤ -1 ∧ 2 ≤ pw (e - 1) ∧ pw (e - 1) ≤ 16 := by
  obtain ⟨h1, h2, h3, h4⟩ := good_iff.1 hg
  have k2 : 2 ≤ pw (e - 1) := pw_ge 1 2 rfl (by omega)
  have k3 : pw (e - 1) ≤ 16 := pw_le 4 16 rfl (by omega)
  unfold unV
  omega
end Go.Proofs.YtmddlbphanlfhaaGreatDoor

namespace Go.Proofs.YtmddlbphanlfhaaGreatDoor
open Go

/-- The step behind a pattern with the sign 0. -/
def stV (f p : Int) : Int := pw (max 0 (p / pw f - 1))

/-- Whether the upper one is taken: A above the lower one, B between both. -/
def upR (A B p mode : Int) (neg : Bool) : Bool :=
  if mode = 0 then decide (B < 2 * A ∨ (2 * A = B ∧ p % 2 = 1)) else if mode = 1 then decide (B ≤ 2 * A) else if mode = 3 then !neg else if mode = 4 then neg else if mode = 5 then decide (p % 2 = 0) else false

def rndP (A B p mode : Int) (neg : Bool) : Int := if A = 0 then p else if upR A B p mode neg = true then p + 1 else p

/-- p is the greatest pattern up to g of at most X / D units. -/
def BelowQ (f g X D p : Int) : Prop := 0 ≤ p ∧ p ≤ g ∧ mgV f p * D ≤ X ∧ (g < p + 1 ∨ X < mgV f (p + 1) * D)

/-- X / D units are rounded to r. -/
def IsRnd (f g X D mode : Int) (neg : Bool) (r : Int) : Prop := ∃ p, BelowQ f g X D p ∧ r = rndP (X - mgV f p * D) (stV f p * D) p mode neg

/-- Twice a value, or twice a midpoint. -/
def Pt (f g T : Int) : Prop := ∃ p, 0 ≤ p ∧ p ≤ g ∧ (T = 2 * mgV f p ∨ T = 2 * mgV f p + stV f p)

theorem belowq_one {f g X D p q : Int} (hf : 1 ≤ f) (hD : 0 < D) (hp : BelowQ f g X D p) (hq : BelowQ f g X D q) : p = q := by
  obtain ⟨p0, p1, p2, p3⟩ := hp
  obtain ⟨q0, q1, q2, q3⟩ := hq
  rcases Int.lt_trichotomy p q with h | h | h
  · have := Int.mul_le_mul_of_nonneg_right (mg_mono f (p + 1) q hf (by omega) (by omega)) (show 0 ≤ D by omega); omega
  · exact h
  · have := Int.mul_le_mul_of_nonneg_right (mg_mono f (q + 1) p hf (by omega) (by omega)) (show 0 ≤ D by omega); omega

theorem rnd_one {f g X D mode r s : Int} {neg : Bool} (hf : 1 ≤ f) (hD : 0 < D) (hr : IsRnd f g X D mode neg r) (hs : IsRnd f g X D mode neg s) : r = s := by
  obtain ⟨p, hp, rfl⟩ := hr
  obtain ⟨q, hq, rfl⟩ := hs
  rw [belowq_one hf hD hp hq]

theorem sg_same {a b : Int} (h : sgV a = sgV b) : (a < 0 ↔ b < 0) ∧ (a = 0 ↔ b = 0) ∧ (0 < a ↔ 0 < b) := by
  rcases Int.lt_trichotomy a 0 with g | g | g <;> rcases Int.lt_trichotomy b 0 with k | k | k
  · omega
  · rw [sg_neg g, sg_zero k] at h; cases h
  · rw [sg_neg g, sg_pos k] at h; cases h
  · rw [sg_zero g, sg_neg k] at h; cases h
  · omega
  · rw [sg_zero g, sg_pos k] at h; cases h
  · rw [sg_pos g, sg_neg k] at h; cases h
  · rw [sg_pos g, sg_zero k] at h; cases h
  · omega

/-- What lies in the same way among the points is rounded in the same way. -/
theorem rnd_move {f g X D Y E mode r : Int} {neg : Bool} (H : ∀ T, Pt f g T → sgV (2 * X - T * D) = sgV (2 * Y - T * E)) (hr : IsRnd f g X D mode neg r) : IsRnd f g Y E mode neg r := by
  obtain ⟨p, ⟨p0, p1, p2, p3⟩, rfl⟩ := hr
  have e : ∀ a b : Int, 2 * a * b = 2 * (a * b) := fun a b => Int.mul_assoc 2 a b
  have h1 := sg_same (H _ ⟨p, p0, p1, Or.inl rfl⟩)
  have h2 := sg_same (H _ ⟨p, p0, p1, Or.inr rfl⟩)
  rw [e, e] at h1
  rw [Int.add_mul, Int.add_mul, e, e] at h2
  have hB : BelowQ f g Y E p := by
    refine ⟨p0, p1, by omega, ?_⟩
    by_cases hg : g < p + 1
    · exact Or.inl hg
    · have h3 := sg_same (H _ ⟨p + 1, by omega, by omega, Or.inl rfl⟩)
      rw [e, e] at h3
      right
      omega
  refine ⟨p, hB, ?_⟩
  have z : X - mgV f p * D = 0 ↔ Y - mgV f p * E = 0 := by omega
  unfold rndP
  by_cases h0 : X - mgV f p * D = 0
  · rw [if_pos h0, if_pos (z.1 h0)]
  · rw [if_neg h0, if_neg (fun h => h0 (z.2 h))]
    have hu : upR (X - mgV f p * D) (stV f p * D) p mode neg = upR (Y - mgV f p * E) (stV f p * E) p mode neg := by
      unfold upR
      have c1 : decide (stV f p * D < 2 * (X - mgV f p * D) ∨ (2 * (X - mgV f p * D) = stV f p * D ∧ p % 2 = 1)) = decide (stV f p * E < 2 * (Y - mgV f p * E) ∨ (2 * (Y - mgV f p * E) = stV f p * E ∧ p % 2 = 1)) := by
        rw [decide_eq_decide]; omega
      have c2 : decide (stV f p * D ≤ 2 * (X - mgV f p * D)) = decide (stV f p * E ≤ 2 * (Y - mgV f p * E)) := by
        rw [decide_eq_decide]; omega
      rw [c1, c2]
    rw [hu]

/-- How the points look: few places. -/
theorem pt_few {e f T : Int} (hg : goodB e f = true) (h : Pt f ((pw e - 1) * pw f - 1) T) : ∃ M s : Int, T = M * pw s ∧ 0 ≤ M ∧ M < 4096 ∧ 0 ≤ s ∧ s ≤ 30 := by
  obtain ⟨h1, h2, h3, h4⟩ := good_iff.1 hg
  obtain ⟨⟨a1, a2⟩, ⟨b1, b2⟩, ⟨c1, c2⟩, hmul⟩ := pw_facts h1 h2 h3 h4
  obtain ⟨p, p0, p1, h⟩ := h
  have x0 : 0 ≤ p / pw f := Int.ediv_nonneg p0 (by omega)
  have r0 := Int.emod_nonneg p (show pw f ≠ 0 by omega)
  have r1 := Int.emod_lt_of_pos p (show 0 < pw f by omega)
  have hx : p / pw f < pw e - 1 := Int.ediv_lt_of_lt_mul (by omega) (by omega)
  by_cases hn : 0 < p / pw f
  · have hm : mgV f p = (p % pw f + pw f) * pw (p / pw f - 1) := by unfold mgV; rw [if_pos hn]
    have hs : stV f p = pw (p / pw f - 1) := by unfold stV; rw [show max 0 (p / pw f - 1) = p / pw f - 1 by omega]
    have e2 : pw (p / pw f) = 2 * pw (p / pw f - 1) := by
      have := pw_succ (p / pw f - 1) (by omega)
      rwa [show p / pw f - 1 + 1 = p / pw f by omega] at this
    rcases h with rfl | rfl
    · refine ⟨p % pw f + pw f, p / pw f, ?_, by omega, by omega, x0, by omega⟩
      rw [hm, e2, ← Int.mul_assoc, ← Int.mul_assoc, Int.mul_comm _ 2]
    · refine ⟨2 * (p % pw f + pw f) + 1, p / pw f - 1, ?_, by omega, by omega, by omega, by omega⟩
      rw [hm, hs, Int.add_mul (2 * (p % pw f + pw f)) 1, Int.one_mul, Int.mul_assoc 2]
  · have hm : mgV f p = p % pw f := by unfold mgV; rw [if_neg hn]
    have hs : stV f p = 1 := by unfold stV; rw [show max 0 (p / pw f - 1) = 0 by omega]; rfl
    rcases h with rfl | rfl
    · refine ⟨2 * (p % pw f), 0, ?_, by omega, by omega, by omega, by omega⟩
      rw [hm]; show _ = _ * (1 : Int); omega
    · refine ⟨2 * (p % pw f) + 1, 0, ?_, by omega, by omega, by omega, by omega⟩
      rw [hm, hs]; show _ = _ * (1 : Int); omega

/-- The first 24 places, the last one odd if something is cut off. -/
def kpV (n : Int) : Int := if plV n ≤ 24 then n else if n % pw (plV n - 24) = 0 then n else if n / pw (plV n - 24) % 2 = 1 then n / pw (plV n - 24) * pw (plV n - 24) else (n / pw (plV n - 24) + 1) * pw (plV n - 24)

/-- It lies in the same way beside numbers of fewer places. -/
theorem kp_cmp {n M s a : Int} (h0 : 0 ≤ n) (h1 : n < 9223372036854775808) (hM : 0 ≤ M) (hM2 : M < 8388608) (_ : 0 ≤ s) (ha : 0 ≤ a) :
    sgV (n * pw a - M * pw s) = sgV (kpV n * pw a - M * pw s) := by
  unfold kpV
  by_cases hp : plV n ≤ 24
  · rw [if_pos hp]
  · rw [if_neg hp]
    have hn0 : n ≠ 0 := by intro h; subst h; rw [pl_zero] at hp; omega
    obtain ⟨b1, b2, b3⟩ := pl_bd n hn0 (by omega) h1
    have hnn : (n.natAbs : Int) = n := by omega
    rw [hnn] at b2 b3
    generalize hb : plV n - 24 = b at *
    have hB := pw_pos b
    have hA := pw_pos a
    have e1 : pw (plV n - 1) = 8388608 * pw b := by
      rw [show plV n - 1 = 23 + b by omega, pw_add 23 b (by decide) (by omega)]; rfl
    have hdiv := Int.mul_ediv_add_emod n (pw b)
    have hr0 := Int.emod_nonneg n (show pw b ≠ 0 by omega)
    have hr1 := Int.emod_lt_of_pos n (show 0 < pw b by omega)
    by_cases hz : n % pw b = 0
    · rw [if_pos hz]
    · rw [if_neg hz]
      have hq : 8388608 ≤ n / pw b := (Int.le_ediv_iff_mul_le (by omega)).2 (by omega)
      generalize n / pw b = q at *
      have hc : pw b * q = q * pw b := Int.mul_comm _ _
      have hlo : q * pw b < n := by omega
      have hhi : n < (q + 1) * pw b := by rw [Int.add_mul, Int.one_mul]; omega
      have lo := Int.mul_lt_mul_of_pos_right hlo (show 0 < pw a by omega)
      have hi := Int.mul_lt_mul_of_pos_right hhi (show 0 < pw a by omega)
      have eab : pw (b + a) = pw b * pw a := pw_add b a (by omega) ha
      rw [Int.mul_assoc, ← eab] at lo hi
      have hAB := pw_pos (b + a)
      have step : (q + 1) * pw (b + a) = q * pw (b + a) + pw (b + a) := by rw [Int.add_mul, Int.one_mul]
      by_cases hsab : s ≤ b + a
      · have hV : M * pw s < q * pw (b + a) := by
          have t1 : M * pw s ≤ M * pw (b + a) := Int.mul_le_mul_of_nonneg_left (pw_mono hsab) hM
          have t2 : M * pw (b + a) < q * pw (b + a) := Int.mul_lt_mul_of_pos_right (by omega) (by omega)
          omega
        rw [sg_pos (by omega)]
        by_cases hodd : q % 2 = 1
        · rw [if_pos hodd, Int.mul_assoc, ← eab, sg_pos (by omega)]
        · rw [if_neg hodd, Int.mul_assoc, ← eab, sg_pos (by omega)]
      · have eS : pw s = 2 * pw (s - (b + a) - 1) * pw (b + a) := by
          have t := pw_succ (s - (b + a) - 1) (by omega)
          rw [← t, ← pw_add _ _ (by omega) (by omega)]
          congr 1; omega
        have eV : M * pw s = (2 * (M * pw (s - (b + a) - 1))) * pw (b + a) := by
          rw [eS, ← Int.mul_assoc, ← Int.mul_assoc, Int.mul_comm M 2, Int.mul_assoc 2 M]
        rw [eV]
        generalize M * pw (s - (b + a) - 1) = t at *
        by_cases hodd : q % 2 = 1
        · rw [if_pos hodd, Int.mul_assoc q (pw b) (pw a), ← eab]
          rcases Int.lt_or_le (2 * t) q with g | g
          · have := Int.mul_lt_mul_of_pos_right g (show 0 < pw (b + a) by omega)
            rw [sg_pos (by omega), sg_pos (by omega)]
          · have := Int.mul_le_mul_of_nonneg_right (show q + 1 ≤ 2 * t by omega) (show 0 ≤ pw (b + a) by omega)
            rw [sg_neg (by omega), sg_neg (by omega)]
        · rw [if_neg hodd, Int.mul_assoc (q + 1) (pw b) (pw a), ← eab]
          rcases Int.lt_or_le q (2 * t) with g | g
          · have := Int.mul_le_mul_of_nonneg_right (show q + 1 + 1 ≤ 2 * t by omega) (show 0 ≤ pw (b + a) by omega)
            rw [Int.add_mul (q + 1), Int.one_mul] at this
            rw [sg_neg (by omega), sg_neg (by omega)]
          · have := Int.mul_le_mul_of_nonneg_right (show 2 * t ≤ q by omega) (show 0 ≤ pw (b + a) by omega)
            rw [sg_pos (by omega), sg_pos (by omega)]
end Go.Proofs.YtmddlbphanlfhaaGreatDoor

namespace Go.Proofs.YtmddlbphanlfhaaGreatDoor
open Go

/-- The greatest pattern. -/
def grV (e f : Int) : Int := (pw e - 1) * pw f - 1

/-- n times 2^k units, n at least 0, k at least -149, are rounded to r. -/
def RndD (e f n k mode : Int) (neg : Bool) (r : Int) : Prop := IsRnd f (grV e f) (n * pw (k + 149)) (pw 149) mode neg r

theorem pt_lt {e f T : Int} (hg : goodB e f = true) (h : Pt f (grV e f) T) : 0 ≤ T ∧ T < 4398046511104 := by
  obtain ⟨M, s, rfl, h1, h2, h3, h4⟩ := pt_few hg h
  have hs := pw_pos s
  have h5 := pw_le 30 1073741824 rfl h4
  have a1 := Int.mul_nonneg h1 (show 0 ≤ pw s by omega)
  have a2 : M * pw s ≤ 4095 * 1073741824 := Int.mul_le_mul (by omega) h5 (by omega) (by omega)
  omega

/-- The first places alone, and not more than the limit. -/
theorem rnd_cap {e f n k mode r : Int} {neg : Bool} (hg : goodB e f = true) (h0 : 0 ≤ n) (h1 : n < 9223372036854775808) (hk : -149 ≤ k)
    (hr : RndD e f n k mode neg r) : IsRnd f (grV e f) (min (kpV n * pw (k + 149)) (pw 190)) (pw 149) mode neg r := by
  refine rnd_move ?_ hr
  intro T hT
  obtain ⟨t0, t1⟩ := pt_lt hg hT
  obtain ⟨M, s, rfl, m0, m1, s0, s1⟩ := pt_few hg hT
  have ea : pw (k + 149 + 1) = 2 * pw (k + 149) := pw_succ _ (by omega)
  have es : pw (s + 149) = pw s * pw 149 := pw_add s 149 s0 (by decide)
  have c1 := kp_cmp (n := n) (M := M) (s := s + 149) (a := k + 149 + 1) h0 h1 m0 (by omega) (by omega) (by omega)
  have c2 := kp_cmp (n := n) (M := 1) (s := 190) (a := k + 149) h0 h1 (by decide) (by decide) (by decide) (by omega)
  rw [es, ea, ← Int.mul_assoc, ← Int.mul_assoc, ← Int.mul_assoc, Int.mul_comm n 2, Int.mul_comm (kpV n) 2, Int.mul_assoc 2, Int.mul_assoc 2] at c1
  rw [Int.one_mul] at c2
  have hcap : M * pw s * pw 149 < 2 * pw 190 := by
    have e1 : 2 * pw 190 = 4398046511104 * pw 149 := by
      have : pw 190 = pw 41 * pw 149 := pw_add 41 149 (by decide) (by decide)
      rw [this, ← Int.mul_assoc]; rfl
    rw [e1]
    exact Int.mul_lt_mul_of_pos_right t1 (by have := pw_pos 149; omega)
  generalize kpV n * pw (k + 149) = Y at *
  generalize n * pw (k + 149) = X at *
  have s2 := sg_same c2
  by_cases hY : Y ≤ pw 190
  · rw [Int.min_eq_left hY]
    exact c1
  · rw [Int.min_eq_right (by omega), sg_pos (by omega), sg_pos (by omega)]

/-- How often and where: multiplied by a power. -/
theorem sg_up {X D T m : Int} (hm : 0 < m) : sgV (2 * (X * m) - T * (D * m)) = sgV (2 * X - T * D) := by
  rw [← Int.mul_assoc, ← Int.mul_assoc, ← Int.sub_mul]
  exact sg_mul hm

/-- Parts of a unit. -/
theorem rnd_part {e f n k mode r : Int} {neg : Bool} (hk : k ≤ 0) (hk2 : -149 ≤ k) (hr : IsRnd f (grV e f) n (pw (-k)) mode neg r) : RndD e f n k mode neg r := by
  refine rnd_move ?_ hr
  intro T _
  have e1 : pw 149 = pw (-k) * pw (k + 149) := by
    rw [← pw_add (-k) (k + 149) (by omega) (by omega)]
    congr 1; omega
  have hp := pw_pos (k + 149)
  have := sg_up (X := n) (D := pw (-k)) (T := T) (m := pw (k + 149)) (by omega)
  rw [← e1] at this
  exact this.symm

/-- A fraction in halves of a unit, and whether something is left. -/
theorem rnd_frac {e f X D mode r : Int} {neg : Bool} (hD : 0 < D) (_ : 0 ≤ X) (hr : IsRnd f (grV e f) X D mode neg r) : RndD e f (2 * (2 * X / D) + (if 2 * X % D = 0 then 0 else 1)) (-2) mode neg r := by
  have h2 : IsRnd f (grV e f) (2 * (2 * X / D) + (if 2 * X % D = 0 then 0 else 1)) (pw 2) mode neg r := by
    refine rnd_move ?_ hr
    intro T _
    have hdiv := Int.mul_ediv_add_emod (2 * X) D
    have hr0 := Int.emod_nonneg (2 * X) (show D ≠ 0 by omega)
    have hr1 := Int.emod_lt_of_pos (2 * X) hD
    generalize 2 * X / D = q at *
    generalize 2 * X % D = t at *
    have hc : D * q = q * D := Int.mul_comm _ _
    have p2 : pw 2 = 4 := rfl
    rw [p2]
    have key : 2 * X - T * D = (q - T) * D + t := by rw [Int.sub_mul]; omega
    rw [key]
    rcases Int.lt_trichotomy q T with h | h | h
    · have := Int.mul_le_mul_of_nonneg_right (show q - T ≤ -1 by omega) (show 0 ≤ D by omega)
      rw [Int.neg_mul, Int.one_mul] at this
      rw [sg_neg (by omega), sg_neg (by split <;> omega)]
    · subst h
      rw [Int.sub_self, Int.zero_mul, Int.zero_add]
      by_cases ht : t = 0
      · rw [if_pos ht, sg_zero ht, sg_zero (by omega)]
      · rw [if_neg ht, sg_pos (by omega), sg_pos (by omega)]
    · have := Int.mul_le_mul_of_nonneg_right (show 1 ≤ q - T by omega) (show 0 ≤ D by omega)
      rw [Int.one_mul] at this
      rw [sg_pos (by omega), sg_pos (by split <;> omega)]
  exact rnd_part (by decide) (by decide) h2
end Go.Proofs.YtmddlbphanlfhaaGreatDoor

namespace Go.Proofs.YtmddlbphanlfhaaGreatDoor
open Go

/-- A size with the sign of a number. -/
def sgP (e f n s : Int) : Int := if n < 0 then pw (e + f) + s else s

/-- How the part above the lower pattern stands to the half of the step: -1 below it, 0 at it, 1 above it. -/
def hfV (x r h : Int) : Int := if x = -1 then sgV (2 * r - h) else if x = 0 ∧ 0 < r then 1 else sgV x

theorem hf_is {x r h A B : Int} (hr0 : 0 ≤ r) (hr1 : r < h) (hAB : 2 * A - B = x * h + 2 * r) : (hfV x r h = 1 ↔ B < 2 * A) ∧ (hfV x r h = 0 ↔ 2 * A = B) ∧ (hfV x r h = -1 ↔ 2 * A < B) := by
  have key : sgV (2 * A - B) = hfV x r h := by
    unfold hfV
    rw [hAB]
    by_cases h1 : x = -1
    · rw [if_pos h1]
      subst h1
      congr 1
      omega
    · rw [if_neg h1]
      by_cases h2 : x = 0 ∧ 0 < r
      · rw [if_pos h2]
        obtain ⟨rfl, h3⟩ := h2
        rw [sg_pos (by omega)]
      · rw [if_neg h2]
        rcases Int.lt_trichotomy x 0 with g | g | g
        · have := Int.mul_le_mul_of_nonneg_right (show x ≤ -2 by omega) (show 0 ≤ h by omega)
          rw [sg_neg (by omega), sg_neg g]
        · subst g
          have : r = 0 := by omega
          subst this
          simp
        · have := Int.mul_le_mul_of_nonneg_right (show 1 ≤ x by omega) (show 0 ≤ h by omega)
          rw [sg_pos (by omega), sg_pos g]
  rw [← key]
  rcases Int.lt_trichotomy (2 * A) B with g | g | g
  · rw [sg_neg (by omega)]; omega
  · rw [sg_zero (by omega)]; omega
  · rw [sg_pos (by omega)]; omega

/-- The rounding of a size that is told so. -/
theorem rnd_told {e f u r h p : Int} (hh : 0 < h) (hr0 : 0 ≤ r) (hr1 : r < h) (hp : IsBelow f (grV e f) u p) : BelowQ f (grV e f) (u * h + r) h p := by
  obtain ⟨p0, p1, p2, p3⟩ := hp
  refine ⟨p0, p1, ?_, ?_⟩
  · have := Int.mul_le_mul_of_nonneg_right p2 (show 0 ≤ h by omega)
    omega
  · rcases p3 with p3 | p3
    · exact Or.inl p3
    · right
      have := Int.mul_le_mul_of_nonneg_right (show u + 1 ≤ mgV f (p + 1) by omega) (show 0 ≤ h by omega)
      rw [Int.add_mul, Int.one_mul] at this
      omega

/-- Above the lower one: 0 if the number is its value. -/
theorem told_zero {f u r h p : Int} (hh : 0 < h) (hr0 : 0 ≤ r) (hm : mgV f p ≤ u) : u * h + r - mgV f p * h = 0 ↔ mgV f p = u ∧ r = 0 := by
  constructor
  · intro hz
    by_cases he : mgV f p = u
    · rw [he] at hz; exact ⟨he, by omega⟩
    · have := Int.mul_le_mul_of_nonneg_right (show mgV f p + 1 ≤ u by omega) (show 0 ≤ h by omega)
      rw [Int.add_mul, Int.one_mul] at this
      omega
  · rintro ⟨rfl, rfl⟩
    omega
end Go.Proofs.YtmddlbphanlfhaaGreatDoor

namespace Go.Proofs.YtmddlbphanlfhaaGreatDoor
open Go

/-- Powers of ten. -/
def tenN : Nat → Int
  | 0 => 1
  | k + 1 => tenN k * 10

/-- Digits times a power of ten, but a limit at most. -/
def numN (d : Int) : Nat → Int
  | 0 => d
  | k + 1 => min (10 * numN d k) 1000000

theorem tenN_pos (k : Nat) : 1 ≤ tenN k := by
  induction k with
  | zero => decide
  | succ k ih => show 1 ≤ tenN k * 10; omega

theorem tenN_mono {a b : Nat} (h : a ≤ b) : tenN a ≤ tenN b := by
  obtain ⟨n, rfl⟩ : ∃ n : Nat, b = a + n := ⟨b - a, by omega⟩
  induction n with
  | zero => exact Int.le_refl _
  | succ n ih =>
    have h1 := ih (by omega)
    have h2 := tenN_pos (a + n)
    have h3 : tenN (a + (n + 1)) = tenN (a + n) * 10 := rfl
    omega

theorem tenN_le {k : Nat} (n : Nat) (c : Int) (hc : tenN n = c) (h : k ≤ n) : tenN k ≤ c := hc ▸ tenN_mono h

theorem tenN_ge {k : Nat} (n : Nat) (c : Int) (hc : tenN n = c) (h : n ≤ k) : c ≤ tenN k := hc ▸ tenN_mono h

theorem numN_bd {d : Int} (h0 : 0 ≤ d) (h1 : d < 1000000) (k : Nat) : 0 ≤ numN d k ∧ numN d k ≤ 1000000 := by
  induction k with
  | zero => exact ⟨h0, by show d ≤ _; omega⟩
  | succ k ih =>
    show 0 ≤ min (10 * numN d k) 1000000 ∧ min (10 * numN d k) 1000000 ≤ 1000000
    omega

theorem numN_val {d : Int} (h0 : 0 ≤ d) (h1 : d < 1000000) (k : Nat) : numN d k = min (d * tenN k) 1000000 := by
  induction k with
  | zero =>
    show d = min (d * 1) 1000000
    omega
  | succ k ih =>
    show min (10 * numN d k) 1000000 = min (d * (tenN k * 10)) 1000000
    have h2 : 0 ≤ d * tenN k := Int.mul_nonneg h0 (by have := tenN_pos k; omega)
    rw [← Int.mul_assoc, ih]
    omega

theorem mg_step2 (f p : Int) (hf : 1 ≤ f) (hp : 0 ≤ p) : mgV f (p + 1) = mgV f p + stV f p := mg_step f p hf hp

/-- Behind the greatest value. -/
theorem mg_top {e f : Int} (hg : goodB e f = true) : mgV f (grV e f + 1) = pw (-unV e f) * pw (pw (e - 1)) := by
  obtain ⟨h1, h2, h3, h4⟩ := good_iff.1 hg
  obtain ⟨⟨a1, a2⟩, ⟨b1, b2⟩, ⟨c1, c2⟩, hmul⟩ := pw_facts h1 h2 h3 h4
  have u := un_bd hg
  have he : pw e = 2 * pw (e - 1) := by
    have := pw_succ (e - 1) (by omega)
    rwa [Int.sub_add_cancel] at this
  have hq : grV e f + 1 = (pw e - 1) * pw f := by unfold grV; omega
  rw [hq]
  unfold mgV
  rw [Int.mul_emod_left, Int.mul_ediv_cancel _ (show pw f ≠ 0 by omega), if_pos (by omega), Int.zero_add, ← pw_add _ _ (by omega) (by omega), ← pw_add _ _ (by unfold unV; omega) (by omega)]
  congr 1
  unfold unV
  omega

theorem pt_top {e f T : Int} (hg : goodB e f = true) (h : Pt f (grV e f) T) : 0 ≤ T ∧ T ≤ 131072 * pw (-unV e f) := by
  refine ⟨(pt_lt hg h).1, ?_⟩
  have hf := (good_iff.1 hg).2.2.1
  have u := un_bd hg
  obtain ⟨p, p0, p1, h⟩ := h
  have s := mg_step2 f p hf p0
  have m := mg_mono f (p + 1) (grV e f + 1) hf (by omega) (by omega)
  rw [mg_top hg] at m
  have c := pw_le (a := pw (e - 1)) 16 65536 rfl (by omega)
  have d := pw_pos (-unV e f)
  have k : pw (-unV e f) * pw (pw (e - 1)) ≤ pw (-unV e f) * 65536 := Int.mul_le_mul_of_nonneg_left c (by omega)
  have st : 0 < stV f p := by have := pw_pos (max 0 (p / pw f - 1)); unfold stV; omega
  omega

/-- Sizes far behind the greatest value are all alike. -/
theorem rnd_far {e f X Y D E mode r : Int} {neg : Bool} (hg : goodB e f = true) (hD : 0 < D) (hE : 0 < E) (hX : 131072 * pw (-unV e f) * D ≤ X) (hY : 131072 * pw (-unV e f) * E ≤ Y) (hr : IsRnd f (grV e f) X D mode neg r) : IsRnd f (grV e f) Y E mode neg r := by
  refine rnd_move ?_ hr
  intro T hT
  obtain ⟨t0, t1⟩ := pt_top hg hT
  have d := pw_pos (-unV e f)
  have a1 := Int.mul_le_mul_of_nonneg_right t1 (show 0 ≤ D by omega)
  have a2 := Int.mul_le_mul_of_nonneg_right t1 (show 0 ≤ E by omega)
  have x1 : 0 < 131072 * pw (-unV e f) * D := Int.mul_pos (by omega) hD
  have x2 : 0 < 131072 * pw (-unV e f) * E := Int.mul_pos (by omega) hE
  rw [sg_pos (by omega), sg_pos (by omega)]

/-- How v units lie to d times ten to the t. -/
def tcV (e f v d t : Int) : Int := sgV (v * tenN (-t).toNat - d * tenN t.toNat * pw (-unV e f))

theorem tri_cmp {u r h v X : Int} (hx : u * h + r = X) (r0 : 0 ≤ r) (r1 : r < h) : (if v = u then -sgV r else sgV (v - u)) = sgV (v * h - X) := by
  have hh : 0 < h := by omega
  by_cases e1 : v = u
  · rw [if_pos e1, e1]
    have : u * h - X = -r := by omega
    rw [this]
    rcases Int.lt_or_eq_of_le r0 with g | g
    · rw [sg_pos g, sg_neg (by omega)]
    · rw [← g]; rfl
  · rw [if_neg e1]
    have d1 : (v - u) * h = v * h - u * h := Int.sub_mul _ _ _
    rcases Int.lt_or_lt_of_ne e1 with g | g
    · have := Int.mul_le_mul_of_nonneg_right (show v - u ≤ -1 by omega) (show 0 ≤ h by omega)
      rw [sg_neg (by omega), sg_neg (by omega)]
    · have := Int.mul_le_mul_of_nonneg_right (show 1 ≤ v - u by omega) (show 0 ≤ h by omega)
      rw [sg_pos (by omega), sg_pos (by omega)]
end Go.Proofs.YtmddlbphanlfhaaGreatDoor

