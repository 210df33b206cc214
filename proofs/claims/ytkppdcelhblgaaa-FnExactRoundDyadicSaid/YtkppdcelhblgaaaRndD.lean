/-
  Plain facts on rounding dyadic numbers and fractions: all that is done on the way leaves the size as it lies among the points. No Go in sight.
-/
import Derived.Test.YtkppdcelhblgaaaRnd
namespace Go.Proofs.Ytkppdcelhblgaaa
open Go

/-- The greatest pattern. -/
def grV (e f : Int) : Int := (pw e - 1) * pw f - 1
/-- n times 2^k units, n at least 0, k at least -149, are rounded to r. -/
def RndD (e f n k mode : Int) (neg : Bool) (r : Int) : Prop := IsRnd f (grV e f) (n * pw (k + 149)) (pw 149) mode neg r

theorem pt_lt {e f T : Int} (hg : goodB e f = true) (h : Pt f (grV e f) T) : 0 ≤ T ∧ T < 4398046511104 := by
  obtain ⟨M, s, rfl, h1, h2, h3, h4⟩ := pt_few hg h
  have hs := pw_pos s
  have h5 := pw_le 30 1073741824 rfl h4
  have a1 := Int.mul_nonneg h1 (show 0 ≤ pw s by omega)
  have a2 : M * pw s ≤ 4095 * 1073741824 := Int.mul_le_mul (by omega) h5 (by omega) (by omega)
  omega

theorem two_sg (X T D : Int) : 2 * X - T * D = 2 * X - T * D := rfl

/-- The first places alone, and not more than the limit. -/
theorem rnd_cap {e f n k mode r : Int} {neg : Bool} (hg : goodB e f = true) (h0 : 0 ≤ n) (h1 : n < 9223372036854775808) (hk : -149 ≤ k)
    (hr : RndD e f n k mode neg r) : IsRnd f (grV e f) (min (kpV n * pw (k + 149)) (pw 190)) (pw 149) mode neg r := by
  refine rnd_move ?_ hr
  intro T hT
  obtain ⟨t0, t1⟩ := pt_lt hg hT
  obtain ⟨M, s, rfl, m0, m1, s0, s1⟩ := pt_few hg hT
  have ea : pw (k + 149 + 1) = 2 * pw (k + 149) := pw_succ _ (by omega)
  have es : pw (s + 149) = pw s * pw 149 := pw_add s 149 s0 (by decide)
  have c1 := kp_cmp (n := n) (M := M) (s := s + 149) (a := k + 149 + 1) h0 h1 m0 (by omega) (by omega) (by omega)
  have c2 := kp_cmp (n := n) (M := 1) (s := 190) (a := k + 149) h0 h1 (by decide) (by decide) (by decide) (by omega)
  rw [es, ea, ← Int.mul_assoc, ← Int.mul_assoc, ← Int.mul_assoc, Int.mul_comm n 2, Int.mul_comm (kpV n) 2, Int.mul_assoc 2, Int.mul_assoc 2] at c1
  rw [Int.one_mul] at c2
  have hcap : M * pw s * pw 149 < 2 * pw 190 := by
    have e1 : 2 * pw 190 = 4398046511104 * pw 149 := by
      have : pw 190 = pw 41 * pw 149 := pw_add 41 149 (by decide) (by decide)
      rw [this, ← Int.mul_assoc]; rfl
    rw [e1]
    exact Int.mul_lt_mul_of_pos_right t1 (by have := pw_pos 149; omega)
  generalize kpV n * pw (k + 149) = Y at *
  generalize n * pw (k + 149) = X at *
  have s2 := sg_same c2
  by_cases hY : Y ≤ pw 190
  · rw [Int.min_eq_left hY]
    exact c1
  · rw [Int.min_eq_right (by omega), sg_pos (by omega), sg_pos (by omega)]

/-- How often and where: multiplied by a power. -/
theorem sg_up {X D T m : Int} (hm : 0 < m) : sgV (2 * (X * m) - T * (D * m)) = sgV (2 * X - T * D) := by
  rw [← Int.mul_assoc, ← Int.mul_assoc, ← Int.sub_mul]
  exact sg_mul hm

/-- Whole units. -/
theorem rnd_whole {e f n k mode r : Int} {neg : Bool} (hk : 0 ≤ k) (hr : IsRnd f (grV e f) (n * pw k) 1 mode neg r) : RndD e f n k mode neg r := by
  refine rnd_move ?_ hr
  intro T _
  have e1 : pw (k + 149) = pw k * pw 149 := pw_add k 149 hk (by decide)
  have hp := pw_pos 149
  have := sg_up (X := n * pw k) (D := 1) (T := T) (m := pw 149) (by omega)
  rw [Int.one_mul, Int.mul_assoc, ← e1] at this
  exact this.symm

/-- Parts of a unit. -/
theorem rnd_part {e f n k mode r : Int} {neg : Bool} (hk : k ≤ 0) (hk2 : -149 ≤ k) (hr : IsRnd f (grV e f) n (pw (-k)) mode neg r) : RndD e f n k mode neg r := by
  refine rnd_move ?_ hr
  intro T _
  have e1 : pw 149 = pw (-k) * pw (k + 149) := by
    rw [← pw_add (-k) (k + 149) (by omega) (by omega)]
    congr 1; omega
  have hp := pw_pos (k + 149)
  have := sg_up (X := n) (D := pw (-k)) (T := T) (m := pw (k + 149)) (by omega)
  rw [← e1] at this
  exact this.symm

/-- Great sizes are all alike. -/
theorem rnd_great {e f X Y D E mode r : Int} {neg : Bool} (hg : goodB e f = true) (hD : 0 < D) (hE : 0 < E) (hX : 2199023255552 * D ≤ X) (hY : 2199023255552 * E ≤ Y) (hr : IsRnd f (grV e f) X D mode neg r) : IsRnd f (grV e f) Y E mode neg r := by
  refine rnd_move ?_ hr
  intro T hT
  obtain ⟨t0, t1⟩ := pt_lt hg hT
  have a := Int.mul_lt_mul_of_pos_right t1 hD
  have b := Int.mul_lt_mul_of_pos_right t1 hE
  rw [sg_pos (by omega), sg_pos (by omega)]

/-- Sizes below half of a unit, but not 0, are all alike. -/
theorem rnd_tiny {e f X Y D E mode r : Int} {neg : Bool} (hg : goodB e f = true) (hX0 : 0 < X) (hX : 2 * X < D) (hY0 : 0 < Y) (hY : 2 * Y < E) (hr : IsRnd f (grV e f) X D mode neg r) : IsRnd f (grV e f) Y E mode neg r := by
  refine rnd_move ?_ hr
  intro T hT
  obtain ⟨t0, t1⟩ := pt_lt hg hT
  by_cases hz : T = 0
  · subst hz
    rw [Int.zero_mul, Int.zero_mul, sg_pos (by omega), sg_pos (by omega)]
  · have a := Int.mul_le_mul_of_nonneg_right (show 1 ≤ T by omega) (show 0 ≤ D by omega)
    have b := Int.mul_le_mul_of_nonneg_right (show 1 ≤ T by omega) (show 0 ≤ E by omega)
    rw [Int.one_mul] at a b
    rw [sg_neg (by omega), sg_neg (by omega)]

/-- A fraction in halves of a unit, and whether something is left. -/
theorem rnd_frac {e f X D mode r : Int} {neg : Bool} (hD : 0 < D) (_ : 0 ≤ X) (hr : IsRnd f (grV e f) X D mode neg r) : RndD e f (2 * (2 * X / D) + (if 2 * X % D = 0 then 0 else 1)) (-2) mode neg r := by
  have h2 : IsRnd f (grV e f) (2 * (2 * X / D) + (if 2 * X % D = 0 then 0 else 1)) (pw 2) mode neg r := by
    refine rnd_move ?_ hr
    intro T _
    have hdiv := Int.mul_ediv_add_emod (2 * X) D
    have hr0 := Int.emod_nonneg (2 * X) (show D ≠ 0 by omega)
    have hr1 := Int.emod_lt_of_pos (2 * X) hD
    generalize 2 * X / D = q at *
    generalize 2 * X % D = t at *
    have hc : D * q = q * D := Int.mul_comm _ _
    have p2 : pw 2 = 4 := rfl
    rw [p2]
    have key : 2 * X - T * D = (q - T) * D + t := by rw [Int.sub_mul]; omega
    rw [key]
    rcases Int.lt_trichotomy q T with h | h | h
    · have := Int.mul_le_mul_of_nonneg_right (show q - T ≤ -1 by omega) (show 0 ≤ D by omega)
      rw [Int.neg_mul, Int.one_mul] at this
      rw [sg_neg (by omega), sg_neg (by split <;> omega)]
    · subst h
      rw [Int.sub_self, Int.zero_mul, Int.zero_add]
      by_cases ht : t = 0
      · rw [if_pos ht, sg_zero ht, sg_zero (by omega)]
      · rw [if_neg ht, sg_pos (by omega), sg_pos (by omega)]
    · have := Int.mul_le_mul_of_nonneg_right (show 1 ≤ q - T by omega) (show 0 ≤ D by omega)
      rw [Int.one_mul] at this
      rw [sg_pos (by omega), sg_pos (by split <;> omega)]
  exact rnd_part (by decide) (by decide) h2
end Go.Proofs.Ytkppdcelhblgaaa
