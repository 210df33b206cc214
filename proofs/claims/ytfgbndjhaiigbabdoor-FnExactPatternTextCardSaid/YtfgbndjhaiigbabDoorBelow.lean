/-
  Sizes of patterns in units grow with the pattern, and the greatest pattern of at most u units is one alone. No Go in sight.
-/
import Derived.Test.YtfgbndjhaiigbabDoorPlain
namespace Go.Proofs.YtfgbndjhaiigbabDoor
open Go

/-- The size of a pattern with the sign 0, in units. -/
def mgV (f p : Int) : Int := if 0 < p / pw f then (p % pw f + pw f) * pw (p / pw f - 1) else p % pw f

theorem mg_step (f p : Int) (hf : 1 ≤ f) (hp : 0 ≤ p) : mgV f (p + 1) = mgV f p + pw (max 0 (p / pw f - 1)) := by
  have hA : 2 ≤ pw f := pw_ge 1 2 rfl hf
  have x0 : 0 ≤ p / pw f := Int.ediv_nonneg hp (by omega)
  have r0 := Int.emod_nonneg p (show pw f ≠ 0 by omega)
  have r1 := Int.emod_lt_of_pos p (show 0 < pw f by omega)
  have hs := Int.mul_ediv_add_emod p (pw f)
  have z : pw 0 = 1 := rfl
  by_cases hr : p % pw f + 1 < pw f
  · have q1 : (p + 1) / pw f = p / pw f := by
      rw [Int.ediv_eq_iff_of_pos (by omega)]
      rw [Int.mul_comm]
      omega
    have q2 : (p + 1) % pw f = p % pw f + 1 := by
      rw [Int.emod_def, q1]; omega
    unfold mgV
    rw [q1, q2]
    by_cases hx : 0 < p / pw f
    · rw [if_pos hx, if_pos hx, show max 0 (p / pw f - 1) = p / pw f - 1 by omega, show p % pw f + 1 + pw f = (p % pw f + pw f) + 1 by omega, Int.add_mul _ 1, Int.one_mul]
    · rw [if_neg hx, if_neg hx, show max 0 (p / pw f - 1) = 0 by omega, z]
  · have q1 : (p + 1) / pw f = p / pw f + 1 := by
      rw [Int.ediv_eq_iff_of_pos (by omega)]
      rw [Int.add_mul, Int.mul_comm (p / pw f)]
      omega
    have q2 : (p + 1) % pw f = 0 := by
      rw [Int.emod_def, q1, Int.mul_add]; omega
    unfold mgV
    rw [q1, q2, if_pos (by omega), show p / pw f + 1 - 1 = p / pw f by omega, Int.zero_add]
    by_cases hx : 0 < p / pw f
    · rw [if_pos hx, show max 0 (p / pw f - 1) = p / pw f - 1 by omega]
      have e1 : pw (p / pw f) = 2 * pw (p / pw f - 1) := by
        have := pw_succ (p / pw f - 1) (by omega)
        rwa [show p / pw f - 1 + 1 = p / pw f by omega] at this
      rw [e1, show p % pw f + pw f = 2 * pw f - 1 by omega, Int.sub_mul, Int.one_mul, ← Int.mul_assoc, Int.mul_comm (pw f) 2]
      omega
    · rw [if_neg hx, show max 0 (p / pw f - 1) = 0 by omega, show p / pw f = 0 by omega, z]
      omega

theorem mg_mono (f p q : Int) (hf : 1 ≤ f) (hp : 0 ≤ p) (h : p ≤ q) : mgV f p ≤ mgV f q := by
  obtain ⟨n, rfl⟩ : ∃ n : Nat, q = p + n := ⟨(q - p).toNat, by omega⟩
  induction n with
  | zero => simp
  | succ n ih =>
    have h1 := ih (by omega)
    have h2 := mg_step f (p + n) hf (by omega)
    have h3 := pw_pos (max 0 ((p + n) / pw f - 1))
    rw [show p + ((n + 1 : Nat) : Int) = p + n + 1 by omega]
    omega

/-- p is the greatest pattern up to g of at most u units. -/
def IsBelow (f g u p : Int) : Prop := 0 ≤ p ∧ p ≤ g ∧ mgV f p ≤ u ∧ (g < p + 1 ∨ u < mgV f (p + 1))

theorem below_one (f g u p q : Int) (hf : 1 ≤ f) (hp : IsBelow f g u p) (hq : IsBelow f g u q) : p = q := by
  obtain ⟨p0, p1, p2, p3⟩ := hp
  obtain ⟨q0, q1, q2, q3⟩ := hq
  rcases Int.lt_trichotomy p q with h | h | h
  · have := mg_mono f (p + 1) q hf (by omega) (by omega); omega
  · exact h
  · have := mg_mono f (q + 1) p hf (by omega) (by omega); omega

/-- A step of the search: all bits from n on are laid. -/
def Search (f g u n p : Int) : Prop := 0 ≤ p ∧ p ≤ g ∧ mgV f p ≤ u ∧ (g < p + pw n ∨ u < mgV f (p + pw n))

theorem search_take {f g u n p : Int} (hn : 1 ≤ n) (h : Search f g u n p) (h1 : p + pw (n - 1) ≤ g) (h2 : mgV f (p + pw (n - 1)) ≤ u) : Search f g u (n - 1) (p + pw (n - 1)) := by
  obtain ⟨p0, p1, p2, p3⟩ := h
  have e1 : pw n = 2 * pw (n - 1) := by
    have := pw_succ (n - 1) (by omega)
    rwa [show n - 1 + 1 = n by omega] at this
  have q := pw_pos (n - 1)
  rw [e1, show p + 2 * pw (n - 1) = p + pw (n - 1) + pw (n - 1) by omega] at p3
  exact ⟨by omega, h1, h2, p3⟩

theorem search_leave {f g u n p : Int} (h : Search f g u n p) (h1 : g < p + pw (n - 1) ∨ u < mgV f (p + pw (n - 1))) : Search f g u (n - 1) p := ⟨h.1, h.2.1, h.2.2.1, h1⟩

theorem search_done {f g u p : Int} (h : Search f g u 0 p) : IsBelow f g u p := h
end Go.Proofs.YtfgbndjhaiigbabDoor
