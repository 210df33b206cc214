/-
  Plain facts on rounding: a size that lies anyhow among the values and the midpoints of a format is rounded by how it lies there, and by nothing else. No Go in sight.
-/
import Derived.Test.YtkppdcelhblgaaaDyC
namespace Go.Proofs.Ytkppdcelhblgaaa
open Go

/-- The step behind a pattern with the sign 0. -/
def stV (f p : Int) : Int := pw (max 0 (p / pw f - 1))
/-- Whether the upper one is taken: A above the lower one, B between both. -/
def upR (A B p mode : Int) (neg : Bool) : Bool :=
  if mode = 0 then decide (B < 2 * A ∨ (2 * A = B ∧ p % 2 = 1)) else if mode = 1 then decide (B ≤ 2 * A) else if mode = 3 then !neg else if mode = 4 then neg else if mode = 5 then decide (p % 2 = 0) else false
def rndP (A B p mode : Int) (neg : Bool) : Int := if A = 0 then p else if upR A B p mode neg = true then p + 1 else p
/-- p is the greatest pattern up to g of at most X / D units. -/
def BelowQ (f g X D p : Int) : Prop := 0 ≤ p ∧ p ≤ g ∧ mgV f p * D ≤ X ∧ (g < p + 1 ∨ X < mgV f (p + 1) * D)
/-- X / D units are rounded to r. -/
def IsRnd (f g X D mode : Int) (neg : Bool) (r : Int) : Prop := ∃ p, BelowQ f g X D p ∧ r = rndP (X - mgV f p * D) (stV f p * D) p mode neg
/-- Twice a value, or twice a midpoint. -/
def Pt (f g T : Int) : Prop := ∃ p, 0 ≤ p ∧ p ≤ g ∧ (T = 2 * mgV f p ∨ T = 2 * mgV f p + stV f p)

theorem belowq_one {f g X D p q : Int} (hf : 1 ≤ f) (hD : 0 < D) (hp : BelowQ f g X D p) (hq : BelowQ f g X D q) : p = q := by
  obtain ⟨p0, p1, p2, p3⟩ := hp
  obtain ⟨q0, q1, q2, q3⟩ := hq
  rcases Int.lt_trichotomy p q with h | h | h
  · have := Int.mul_le_mul_of_nonneg_right (mg_mono f (p + 1) q hf (by omega) (by omega)) (show 0 ≤ D by omega); omega
  · exact h
  · have := Int.mul_le_mul_of_nonneg_right (mg_mono f (q + 1) p hf (by omega) (by omega)) (show 0 ≤ D by omega); omega

theorem rnd_one {f g X D mode r s : Int} {neg : Bool} (hf : 1 ≤ f) (hD : 0 < D) (hr : IsRnd f g X D mode neg r) (hs : IsRnd f g X D mode neg s) : r = s := by
  obtain ⟨p, hp, rfl⟩ := hr
  obtain ⟨q, hq, rfl⟩ := hs
  rw [belowq_one hf hD hp hq]

theorem sg_same {a b : Int} (h : sgV a = sgV b) : (a < 0 ↔ b < 0) ∧ (a = 0 ↔ b = 0) ∧ (0 < a ↔ 0 < b) := by
  rcases Int.lt_trichotomy a 0 with g | g | g <;> rcases Int.lt_trichotomy b 0 with k | k | k
  · omega
  · rw [sg_neg g, sg_zero k] at h; cases h
  · rw [sg_neg g, sg_pos k] at h; cases h
  · rw [sg_zero g, sg_neg k] at h; cases h
  · omega
  · rw [sg_zero g, sg_pos k] at h; cases h
  · rw [sg_pos g, sg_neg k] at h; cases h
  · rw [sg_pos g, sg_zero k] at h; cases h
  · omega

/-- What lies in the same way among the points is rounded in the same way. -/
theorem rnd_move {f g X D Y E mode r : Int} {neg : Bool} (H : ∀ T, Pt f g T → sgV (2 * X - T * D) = sgV (2 * Y - T * E)) (hr : IsRnd f g X D mode neg r) : IsRnd f g Y E mode neg r := by
  obtain ⟨p, ⟨p0, p1, p2, p3⟩, rfl⟩ := hr
  have e : ∀ a b : Int, 2 * a * b = 2 * (a * b) := fun a b => Int.mul_assoc 2 a b
  have h1 := sg_same (H _ ⟨p, p0, p1, Or.inl rfl⟩)
  have h2 := sg_same (H _ ⟨p, p0, p1, Or.inr rfl⟩)
  rw [e, e] at h1
  rw [Int.add_mul, Int.add_mul, e, e] at h2
  have hB : BelowQ f g Y E p := by
    refine ⟨p0, p1, by omega, ?_⟩
    by_cases hg : g < p + 1
    · exact Or.inl hg
    · have h3 := sg_same (H _ ⟨p + 1, by omega, by omega, Or.inl rfl⟩)
      rw [e, e] at h3
      right
      omega
  refine ⟨p, hB, ?_⟩
  have z : X - mgV f p * D = 0 ↔ Y - mgV f p * E = 0 := by omega
  unfold rndP
  by_cases h0 : X - mgV f p * D = 0
  · rw [if_pos h0, if_pos (z.1 h0)]
  · rw [if_neg h0, if_neg (fun h => h0 (z.2 h))]
    have hu : upR (X - mgV f p * D) (stV f p * D) p mode neg = upR (Y - mgV f p * E) (stV f p * E) p mode neg := by
      unfold upR
      have c1 : decide (stV f p * D < 2 * (X - mgV f p * D) ∨ (2 * (X - mgV f p * D) = stV f p * D ∧ p % 2 = 1)) = decide (stV f p * E < 2 * (Y - mgV f p * E) ∨ (2 * (Y - mgV f p * E) = stV f p * E ∧ p % 2 = 1)) := by
        rw [decide_eq_decide]; omega
      have c2 : decide (stV f p * D ≤ 2 * (X - mgV f p * D)) = decide (stV f p * E ≤ 2 * (Y - mgV f p * E)) := by
        rw [decide_eq_decide]; omega
      rw [c1, c2]
    rw [hu]

/-- How the points look: few places. -/
theorem pt_few {e f T : Int} (hg : goodB e f = true) (h : Pt f ((pw e - 1) * pw f - 1) T) : ∃ M s : Int, T = M * pw s ∧ 0 ≤ M ∧ M < 4096 ∧ 0 ≤ s ∧ s ≤ 30 := by
  obtain ⟨h1, h2, h3, h4⟩ := good_iff.1 hg
  obtain ⟨⟨a1, a2⟩, ⟨b1, b2⟩, ⟨c1, c2⟩, hmul⟩ := pw_facts h1 h2 h3 h4
  obtain ⟨p, p0, p1, h⟩ := h
  have x0 : 0 ≤ p / pw f := Int.ediv_nonneg p0 (by omega)
  have r0 := Int.emod_nonneg p (show pw f ≠ 0 by omega)
  have r1 := Int.emod_lt_of_pos p (show 0 < pw f by omega)
  have hx : p / pw f < pw e - 1 := Int.ediv_lt_of_lt_mul (by omega) (by omega)
  by_cases hn : 0 < p / pw f
  · have hm : mgV f p = (p % pw f + pw f) * pw (p / pw f - 1) := by unfold mgV; rw [if_pos hn]
    have hs : stV f p = pw (p / pw f - 1) := by unfold stV; rw [show max 0 (p / pw f - 1) = p / pw f - 1 by omega]
    have e2 : pw (p / pw f) = 2 * pw (p / pw f - 1) := by
      have := pw_succ (p / pw f - 1) (by omega)
      rwa [show p / pw f - 1 + 1 = p / pw f by omega] at this
    rcases h with rfl | rfl
    · refine ⟨p % pw f + pw f, p / pw f, ?_, by omega, by omega, x0, by omega⟩
      rw [hm, e2, ← Int.mul_assoc, ← Int.mul_assoc, Int.mul_comm _ 2]
    · refine ⟨2 * (p % pw f + pw f) + 1, p / pw f - 1, ?_, by omega, by omega, by omega, by omega⟩
      rw [hm, hs, Int.add_mul (2 * (p % pw f + pw f)) 1, Int.one_mul, Int.mul_assoc 2]
  · have hm : mgV f p = p % pw f := by unfold mgV; rw [if_neg hn]
    have hs : stV f p = 1 := by unfold stV; rw [show max 0 (p / pw f - 1) = 0 by omega]; rfl
    rcases h with rfl | rfl
    · refine ⟨2 * (p % pw f), 0, ?_, by omega, by omega, by omega, by omega⟩
      rw [hm]; show _ = _ * (1 : Int); omega
    · refine ⟨2 * (p % pw f) + 1, 0, ?_, by omega, by omega, by omega, by omega⟩
      rw [hm, hs]; show _ = _ * (1 : Int); omega

/-- The first 24 places, the last one odd if something is cut off. -/
def kpV (n : Int) : Int := if plV n ≤ 24 then n else if n % pw (plV n - 24) = 0 then n else if n / pw (plV n - 24) % 2 = 1 then n / pw (plV n - 24) * pw (plV n - 24) else (n / pw (plV n - 24) + 1) * pw (plV n - 24)

/-- It lies in the same way beside numbers of fewer places. -/
theorem kp_cmp {n M s a : Int} (h0 : 0 ≤ n) (h1 : n < 9223372036854775808) (hM : 0 ≤ M) (hM2 : M < 8388608) (_ : 0 ≤ s) (ha : 0 ≤ a) :
    sgV (n * pw a - M * pw s) = sgV (kpV n * pw a - M * pw s) := by
  unfold kpV
  by_cases hp : plV n ≤ 24
  · rw [if_pos hp]
  · rw [if_neg hp]
    have hn0 : n ≠ 0 := by intro h; subst h; rw [pl_zero] at hp; omega
    obtain ⟨b1, b2, b3⟩ := pl_bd n hn0 (by omega) h1
    have hnn : (n.natAbs : Int) = n := by omega
    rw [hnn] at b2 b3
    generalize hb : plV n - 24 = b at *
    have hB := pw_pos b
    have hA := pw_pos a
    have e1 : pw (plV n - 1) = 8388608 * pw b := by
      rw [show plV n - 1 = 23 + b by omega, pw_add 23 b (by decide) (by omega)]; rfl
    have hdiv := Int.mul_ediv_add_emod n (pw b)
    have hr0 := Int.emod_nonneg n (show pw b ≠ 0 by omega)
    have hr1 := Int.emod_lt_of_pos n (show 0 < pw b by omega)
    by_cases hz : n % pw b = 0
    · rw [if_pos hz]
    · rw [if_neg hz]
      have hq : 8388608 ≤ n / pw b := (Int.le_ediv_iff_mul_le (by omega)).2 (by omega)
      generalize n / pw b = q at *
      have hc : pw b * q = q * pw b := Int.mul_comm _ _
      have hlo : q * pw b < n := by omega
      have hhi : n < (q + 1) * pw b := by rw [Int.add_mul, Int.one_mul]; omega
      have lo := Int.mul_lt_mul_of_pos_right hlo (show 0 < pw a by omega)
      have hi := Int.mul_lt_mul_of_pos_right hhi (show 0 < pw a by omega)
      have eab : pw (b + a) = pw b * pw a := pw_add b a (by omega) ha
      rw [Int.mul_assoc, ← eab] at lo hi
      have hAB := pw_pos (b + a)
      have step : (q + 1) * pw (b + a) = q * pw (b + a) + pw (b + a) := by rw [Int.add_mul, Int.one_mul]
      by_cases hsab : s ≤ b + a
      · have hV : M * pw s < q * pw (b + a) := by
          have t1 : M * pw s ≤ M * pw (b + a) := Int.mul_le_mul_of_nonneg_left (pw_mono hsab) hM
          have t2 : M * pw (b + a) < q * pw (b + a) := Int.mul_lt_mul_of_pos_right (by omega) (by omega)
          omega
        rw [sg_pos (by omega)]
        by_cases hodd : q % 2 = 1
        · rw [if_pos hodd, Int.mul_assoc, ← eab, sg_pos (by omega)]
        · rw [if_neg hodd, Int.mul_assoc, ← eab, sg_pos (by omega)]
      · have eS : pw s = 2 * pw (s - (b + a) - 1) * pw (b + a) := by
          have t := pw_succ (s - (b + a) - 1) (by omega)
          rw [← t, ← pw_add _ _ (by omega) (by omega)]
          congr 1; omega
        have eV : M * pw s = (2 * (M * pw (s - (b + a) - 1))) * pw (b + a) := by
          rw [eS, ← Int.mul_assoc, ← Int.mul_assoc, Int.mul_comm M 2, Int.mul_assoc 2 M]
        rw [eV]
        generalize M * pw (s - (b + a) - 1) = t at *
        by_cases hodd : q % 2 = 1
        · rw [if_pos hodd, Int.mul_assoc q (pw b) (pw a), ← eab]
          rcases Int.lt_or_le (2 * t) q with g | g
          · have := Int.mul_lt_mul_of_pos_right g (show 0 < pw (b + a) by omega)
            rw [sg_pos (by omega), sg_pos (by omega)]
          · have := Int.mul_le_mul_of_nonneg_right (show q + 1 ≤ 2 * t by omega) (show 0 ≤ pw (b + a) by omega)
            rw [sg_neg (by omega), sg_neg (by omega)]
        · rw [if_neg hodd, Int.mul_assoc (q + 1) (pw b) (pw a), ← eab]
          rcases Int.lt_or_le q (2 * t) with g | g
          · have := Int.mul_le_mul_of_nonneg_right (show q + 1 + 1 ≤ 2 * t by omega) (show 0 ≤ pw (b + a) by omega)
            rw [Int.add_mul (q + 1), Int.one_mul] at this
            rw [sg_neg (by omega), sg_neg (by omega)]
          · have := Int.mul_le_mul_of_nonneg_right (show 2 * t ≤ q by omega) (show 0 ≤ pw (b + a) by omega)
            rw [sg_pos (by omega), sg_pos (by omega)]
end Go.Proofs.Ytkppdcelhblgaaa
