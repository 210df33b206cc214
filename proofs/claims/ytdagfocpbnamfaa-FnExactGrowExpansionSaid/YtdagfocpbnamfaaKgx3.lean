/-
  Contracts of the functions that the laws reach, and the plain facts that they rest on, each under the conditions that its line names; part 3.
-/
import Derived.Test.YtdagfocpbnamfaaKgx1
import Derived.Test.YtdagfocpbnamfaaKgx2
import Derived.Lib.BitFns
import Derived.Lib.TrailingZeros
namespace Go.Proofs.Ytdagfocpbnamfaa
open Go

/-- The sign. -/
def sgV (n : Int) : Int := if n < 0 then -1 else if 0 < n then 1 else 0

theorem sg_neg {n : Int} (h : n < 0) : sgV n = -1 := by unfold sgV; rw [if_pos h]

theorem sg_pos {n : Int} (h : 0 < n) : sgV n = 1 := by unfold sgV; rw [if_neg (by omega), if_pos h]

theorem sg_zero {n : Int} (h : n = 0) : sgV n = 0 := by subst h; rfl

theorem sg_mul {n m : Int} (h : 0 < m) : sgV (n * m) = sgV n := by
  rcases Int.lt_trichotomy n 0 with g | g | g
  · rw [sg_neg g, sg_neg (Int.mul_neg_of_neg_of_pos g h)]
  · subst g; simp
  · rw [sg_pos g, sg_pos (Int.mul_pos g h)]
end Go.Proofs.Ytdagfocpbnamfaa

namespace Go.Proofs.Ytdagfocpbnamfaa
open Go

/-- The step behind a pattern with the sign 0. -/
def stV (f p : Int) : Int := pw (max 0 (p / pw f - 1))

/-- Whether the upper one is taken: A above the lower one, B between both. -/
def upR (A B p mode : Int) (neg : Bool) : Bool :=
  if mode = 0 then decide (B < 2 * A ∨ (2 * A = B ∧ p % 2 = 1)) else if mode = 1 then decide (B ≤ 2 * A) else if mode = 3 then !neg else if mode = 4 then neg else if mode = 5 then decide (p % 2 = 0) else false

def rndP (A B p mode : Int) (neg : Bool) : Int := if A = 0 then p else if upR A B p mode neg = true then p + 1 else p

/-- p is the greatest pattern up to g of at most X / D units. -/
def BelowQ (f g X D p : Int) : Prop := 0 ≤ p ∧ p ≤ g ∧ mgV f p * D ≤ X ∧ (g < p + 1 ∨ X < mgV f (p + 1) * D)

/-- X / D units are rounded to r. -/
def IsRnd (f g X D mode : Int) (neg : Bool) (r : Int) : Prop := ∃ p, BelowQ f g X D p ∧ r = rndP (X - mgV f p * D) (stV f p * D) p mode neg

/-- Twice a value, or twice a midpoint. -/
def Pt (f g T : Int) : Prop := ∃ p, 0 ≤ p ∧ p ≤ g ∧ (T = 2 * mgV f p ∨ T = 2 * mgV f p + stV f p)

theorem belowq_one {f g X D p q : Int} (hf : 1 ≤ f) (hD : 0 < D) (hp : BelowQ f g X D p) (hq : BelowQ f g X D q) : p = q := by
  obtain ⟨p0, p1, p2, p3⟩ := hp
  obtain ⟨q0, q1, q2, q3⟩ := hq
  rcases Int.lt_trichotomy p q with h | h | h
  · have := Int.mul_le_mul_of_nonneg_right (mg_mono f (p + 1) q hf (by omega) (by omega)) (show 0 ≤ D by omega); omega
  · exact h
  · have := Int.mul_le_mul_of_nonneg_right (mg_mono f (q + 1) p hf (by omega) (by omega)) (show 0 ≤ D by omega); omega

theorem rnd_one {f g X D mode r s : Int} {neg : Bool} (hf : 1 ≤ f) (hD : 0 < D) (hr : IsRnd f g X D mode neg r) (hs : IsRnd f g X D mode neg s) : r = s := by
  obtain ⟨p, hp, rfl⟩ := hr
  obtain ⟨q, hq, rfl⟩ := hs
  rw [belowq_one hf hD hp hq]

theorem sg_same {a b : Int} (h : sgV a = sgV b) : (a < 0 ↔ b < 0) ∧ (a = 0 ↔ b = 0) ∧ (0 < a ↔ 0 < b) := by
  rcases Int.lt_trichotomy a 0 with g | g | g <;> rcases Int.lt_trichotomy b 0 with k | k | k
  · omega
  · rw [sg_neg g, sg_zero k] at h; cases h
  · rw [sg_neg g, sg_pos k] at h; cases h
  · rw [sg_zero g, sg_neg k] at h; cases h
  · omega
  · rw [sg_zero g, sg_pos k] at h; cases h
  · rw [sg_pos g, sg_neg k] at h; cases h
  · rw [sg_pos g, sg_zero k] at h; cases h
  · omega

/-- What lies in the same way among the points is rounded in the same way. -/
theorem rnd_move {f g X D Y E mode r : Int} {neg : Bool} (H : ∀ T, Pt f g T → sgV (2 * X - T * D) = sgV (2 * Y - T * E)) (hr : IsRnd f g X D mode neg r) : IsRnd f g Y E mode neg r := by
  obtain ⟨p, ⟨p0, p1, p2, p3⟩, rfl⟩ := hr
  have e : ∀ a b : Int, 2 * a * b = 2 * (a * b) := fun a b => Int.mul_assoc 2 a b
  have h1 := sg_same (H _ ⟨p, p0, p1, Or.inl rfl⟩)
  have h2 := sg_same (H _ ⟨p, p0, p1, Or.inr rfl⟩)
  rw [e, e] at h1
  rw [Int.add_mul, Int.add_mul, e, e] at h2
  have hB : BelowQ f g Y E p := by
    refine ⟨p0, p1, by omega, ?_⟩
    by_cases hg : g < p + 1
    · exact Or.inl hg
    · have h3 := sg_same (H _ ⟨p + 1, by omega, by omega, Or.inl rfl⟩)
      rw [e, e] at h3
      right
      omega
  refine ⟨p, hB, ?_⟩
  have z : X - mgV f p * D = 0 ↔ Y - mgV f p * E = 0 := by omega
  unfold rndP
  by_cases h0 : X - mgV f p * D = 0
  · rw [if_pos h0, if_pos (z.1 h0)]
  · rw [if_neg h0, if_neg (fun h => h0 (z.2 h))]
    have hu : upR (X - mgV f p * D) (stV f p * D) p mode neg = upR (Y - mgV f p * E) (stV f p * E) p mode neg := by
      unfold upR
      have c1 : decide (stV f p * D < 2 * (X - mgV f p * D) ∨ (2 * (X - mgV f p * D) = stV f p * D ∧ p % 2 = 1)) = decide (stV f p * E < 2 * (Y - mgV f p * E) ∨ (2 * (Y - mgV f p * E) = stV f p * E ∧ p % 2 = 1)) := by
        rw [decide_eq_decide]; omega
      have c2 : decide (stV f p * D ≤ 2 * (X - mgV f p * D)) = decide (stV f p * E ≤ 2 * (Y - mgV f p * E)) := by
        rw [decide_eq_decide]; omega
      rw [c1, c2]
    rw [hu]

/-- How the points look: few places. -/
theorem pt_few {e f T : Int} (hg : goodB e f = true) (h : Pt f ((pw e - 1) * pw f - 1) T) : ∃ M s : Int, T = M * pw s ∧ 0 ≤ M ∧ M < 4096 ∧ 0 ≤ s ∧ s ≤ 30 := by
  obtain ⟨h1, h2, h3, h4⟩ := good_iff.1 hg
  obtain ⟨⟨a1, a2⟩, ⟨b1, b2⟩, ⟨c1, c2⟩, hmul⟩ := pw_facts h1 h2 h3 h4
  obtain ⟨p, p0, p1, h⟩ := h
  have x0 : 0 ≤ p / pw f := Int.ediv_nonneg p0 (by omega)
  have r0 := Int.emod_nonneg p (show pw f ≠ 0 by omega)
  have r1 := Int.emod_lt_of_pos p (show 0 < pw f by omega)
  have hx : p / pw f < pw e - 1 := Int.ediv_lt_of_lt_mul (by omega) (by omega)
  by_cases hn : 0 < p / pw f
  · have hm : mgV f p = (p % pw f + pw f) * pw (p / pw f - 1) := by unfold mgV; rw [if_pos hn]
    have hs : stV f p = pw (p / pw f - 1) := by unfold stV; rw [show max 0 (p / pw f - 1) = p / pw f - 1 by omega]
    have e2 : pw (p / pw f) = 2 * pw (p / pw f - 1) := by
      have := pw_succ (p / pw f - 1) (by omega)
      rwa [show p / pw f - 1 + 1 = p / pw f by omega] at this
    rcases h with rfl | rfl
    · refine ⟨p % pw f + pw f, p / pw f, ?_, by omega, by omega, x0, by omega⟩
      rw [hm, e2, ← Int.mul_assoc, ← Int.mul_assoc, Int.mul_comm _ 2]
    · refine ⟨2 * (p % pw f + pw f) + 1, p / pw f - 1, ?_, by omega, by omega, by omega, by omega⟩
      rw [hm, hs, Int.add_mul (2 * (p % pw f + pw f)) 1, Int.one_mul, Int.mul_assoc 2]
  · have hm : mgV f p = p % pw f := by unfold mgV; rw [if_neg hn]
    have hs : stV f p = 1 := by unfold stV; rw [show max 0 (p / pw f - 1) = 0 by omega]; rfl
    rcases h with rfl | rfl
    · refine ⟨2 * (p % pw f), 0, ?_, by omega, by omega, by omega, by omega⟩
      rw [hm]; show _ = _ * (1 : Int); omega
    · refine ⟨2 * (p % pw f) + 1, 0, ?_, by omega, by omega, by omega, by omega⟩
      rw [hm, hs]; show _ = _ * (1 : Int); omega
end Go.Proofs.Ytdagfocpbnamfaa

namespace Go.Proofs.Ytdagfocpbnamfaa
open Go

/-- The greatest pattern. -/
def grV (e f : Int) : Int := (pw e - 1) * pw f - 1

theorem pt_lt {e f T : Int} (hg : goodB e f = true) (h : Pt f (grV e f) T) : 0 ≤ T ∧ T < 4398046511104 := by
  obtain ⟨M, s, rfl, h1, h2, h3, h4⟩ := pt_few hg h
  have hs := pw_pos s
  have h5 := pw_le 30 1073741824 rfl h4
  have a1 := Int.mul_nonneg h1 (show 0 ≤ pw s by omega)
  have a2 : M * pw s ≤ 4095 * 1073741824 := Int.mul_le_mul (by omega) h5 (by omega) (by omega)
  omega

/-- How often and where: multiplied by a power. -/
theorem sg_up {X D T m : Int} (hm : 0 < m) : sgV (2 * (X * m) - T * (D * m)) = sgV (2 * X - T * D) := by
  rw [← Int.mul_assoc, ← Int.mul_assoc, ← Int.sub_mul]
  exact sg_mul hm
end Go.Proofs.Ytdagfocpbnamfaa

namespace Go.Proofs.Ytdagfocpbnamfaa
open Go

/-- How the part above the lower pattern stands to the half of the step: -1 below it, 0 at it, 1 above it. -/
def hfV (x r h : Int) : Int := if x = -1 then sgV (2 * r - h) else if x = 0 ∧ 0 < r then 1 else sgV x

theorem hf_is {x r h A B : Int} (hr0 : 0 ≤ r) (hr1 : r < h) (hAB : 2 * A - B = x * h + 2 * r) : (hfV x r h = 1 ↔ B < 2 * A) ∧ (hfV x r h = 0 ↔ 2 * A = B) ∧ (hfV x r h = -1 ↔ 2 * A < B) := by
  have key : sgV (2 * A - B) = hfV x r h := by
    unfold hfV
    rw [hAB]
    by_cases h1 : x = -1
    · rw [if_pos h1]
      subst h1
      congr 1
      omega
    · rw [if_neg h1]
      by_cases h2 : x = 0 ∧ 0 < r
      · rw [if_pos h2]
        obtain ⟨rfl, h3⟩ := h2
        rw [sg_pos (by omega)]
      · rw [if_neg h2]
        rcases Int.lt_trichotomy x 0 with g | g | g
        · have := Int.mul_le_mul_of_nonneg_right (show x ≤ -2 by omega) (show 0 ≤ h by omega)
          rw [sg_neg (by omega), sg_neg g]
        · subst g
          have : r = 0 := by omega
          subst this
          simp
        · have := Int.mul_le_mul_of_nonneg_right (show 1 ≤ x by omega) (show 0 ≤ h by omega)
          rw [sg_pos (by omega), sg_pos g]
  rw [← key]
  rcases Int.lt_trichotomy (2 * A) B with g | g | g
  · rw [sg_neg (by omega)]; omega
  · rw [sg_zero (by omega)]; omega
  · rw [sg_pos (by omega)]; omega

/-- The rounding of a size that is told so. -/
theorem rnd_told {e f u r h p : Int} (hh : 0 < h) (hr0 : 0 ≤ r) (hr1 : r < h) (hp : IsBelow f (grV e f) u p) : BelowQ f (grV e f) (u * h + r) h p := by
  obtain ⟨p0, p1, p2, p3⟩ := hp
  refine ⟨p0, p1, ?_, ?_⟩
  · have := Int.mul_le_mul_of_nonneg_right p2 (show 0 ≤ h by omega)
    omega
  · rcases p3 with p3 | p3
    · exact Or.inl p3
    · right
      have := Int.mul_le_mul_of_nonneg_right (show u + 1 ≤ mgV f (p + 1) by omega) (show 0 ≤ h by omega)
      rw [Int.add_mul, Int.one_mul] at this
      omega

/-- Above the lower one: 0 if the number is its value. -/
theorem told_zero {f u r h p : Int} (hh : 0 < h) (hr0 : 0 ≤ r) (hm : mgV f p ≤ u) : u * h + r - mgV f p * h = 0 ↔ mgV f p = u ∧ r = 0 := by
  constructor
  · intro hz
    by_cases he : mgV f p = u
    · rw [he] at hz; exact ⟨he, by omega⟩
    · have := Int.mul_le_mul_of_nonneg_right (show mgV f p + 1 ≤ u by omega) (show 0 ≤ h by omega)
      rw [Int.add_mul, Int.one_mul] at this
      omega
  · rintro ⟨rfl, rfl⟩
    omega
end Go.Proofs.Ytdagfocpbnamfaa

