/-
  Plain facts on the words of numbers that are at least 0, told by their parts: an exponent part and the places behind the first one. No Go in sight.
-/
import Derived.Test.YtkppdcelhblgaaaFltO
namespace Go.Proofs.Ytkppdcelhblgaaa
open Ieee

/-- A word told by its parts. -/
theorem vR_parts (F E M : Nat) (hE : 1 ≤ E) (hM : M < 2 ^ F) : vR F (E * 2 ^ F + M) = (2 ^ F + M) * 2 ^ (E - 1) := by
  have := vR_high F (E - 1) (2 ^ F + M) (by omega) (by rw [Nat.pow_succ]; omega)
  rw [← this]
  congr 1
  have : E * 2 ^ F = (E - 1) * 2 ^ F + 2 ^ F := by
    conv => lhs; rw [show E = E - 1 + 1 by omega]
    rw [Nat.add_mul, Nat.one_mul]
  omega

/-- Words stand for different numbers. -/
theorem vR_lt (F a b : Nat) (h : a < b) : vR F a < vR F b := by
  have hF := Nat.two_pow_pos F
  have step : ∀ x : Nat, vR F x < vR F (x + 1) := by
    intro x
    by_cases h1 : x + 1 < 2 ^ (F + 1)
    · rw [vR_low F x (by omega), vR_low F (x + 1) h1]; omega
    · rw [Nat.pow_succ] at h1
      have e0 := Nat.div_add_mod x (2 ^ F)
      have m0 := Nat.mod_lt x hF
      have q1 : 1 ≤ x / 2 ^ F := by
        apply (Nat.le_div_iff_mul_le hF).2
        omega
      have e1 : x = x / 2 ^ F * 2 ^ F + x % 2 ^ F := by rw [Nat.mul_comm]; omega
      have v1 : vR F x = (2 ^ F + x % 2 ^ F) * 2 ^ (x / 2 ^ F - 1) := by
        conv => lhs; rw [e1]
        exact vR_parts F _ _ q1 m0
      generalize x / 2 ^ F = q at *
      generalize x % 2 ^ F = r at *
      have hp := Nat.two_pow_pos (q - 1)
      by_cases hr : r + 1 < 2 ^ F
      · have v2 : vR F (x + 1) = (2 ^ F + (r + 1)) * 2 ^ (q - 1) := by
          have : x + 1 = q * 2 ^ F + (r + 1) := by omega
          rw [this]
          exact vR_parts F _ _ q1 hr
        rw [v1, v2]
        exact Nat.mul_lt_mul_of_pos_right (by omega) hp
      · have v2 : vR F (x + 1) = (2 ^ F + 0) * 2 ^ (q + 1 - 1) := by
          have : x + 1 = (q + 1) * 2 ^ F + 0 := by rw [Nat.add_mul]; omega
          rw [this]
          exact vR_parts F _ _ (by omega) hF
        rw [v1, v2]
        have e2 : 2 ^ (q + 1 - 1) = 2 * 2 ^ (q - 1) := by
          rw [show q + 1 - 1 = q - 1 + 1 by omega, Nat.pow_succ, Nat.mul_comm]
        rw [e2, Nat.add_zero, ← Nat.mul_assoc]
        exact Nat.mul_lt_mul_of_pos_right (by omega) hp
  obtain ⟨d, rfl⟩ : ∃ d, b = a + d + 1 := ⟨b - a - 1, by omega⟩
  induction d with
  | zero => exact step a
  | succ d ih => exact Nat.lt_trans (ih (by omega)) (step (a + d + 1))

/-- The word of what a word stands for. -/
theorem fw_of (f : Ieee.Format) (b v : Nat) (hv : Ok f v) (h : vR f.fractionBits b = v) : fw f v = b := by
  obtain ⟨_, h2⟩ := fw_val f v hv.1 hv.2.1 hv.2.2
  rcases Nat.lt_trichotomy (fw f v) b with g | g | g
  · have := vR_lt f.fractionBits _ _ g; omega
  · exact g
  · have := vR_lt f.fractionBits _ _ g; omega

/-- A small number times a power, below a power. -/
theorem few_lt {c j a b : Nat} (hc : c < 2 ^ a) (h : a + j ≤ b) : c * 2 ^ j < 2 ^ b := by
  have h1 : c * 2 ^ j < 2 ^ a * 2 ^ j := Nat.mul_lt_mul_of_pos_right hc (Nat.two_pow_pos j)
  rw [← Nat.pow_add] at h1
  exact Nat.lt_of_lt_of_le h1 (Nat.pow_le_pow_right (by decide) h)

theorem ok64 {c j : Nat} (hc : c < 2 ^ 53) (h : j ≤ 2045) : Ok Ieee.double (c * 2 ^ j) :=
  ⟨⟨c, j, rfl, hc⟩, few_lt hc (by show 53 + j ≤ 52 + (2 ^ 11 - 2); omega), by decide⟩
theorem ok32 {c j : Nat} (hc : c < 2 ^ 24) (h : j ≤ 253) : Ok Ieee.single (c * 2 ^ j) :=
  ⟨⟨c, j, rfl, hc⟩, few_lt hc (by show 24 + j ≤ 23 + (2 ^ 8 - 2); omega), by decide⟩

/-- The word of a number from 2^t to 2^(t+1), in double. -/
theorem word64 (c t : Nat) (h0 : 2 ^ t ≤ c) (h1 : c < 2 ^ (t + 1)) (ht : t ≤ 52) (j : Nat) (hj : j + t ≤ 2000) (hj2 : 52 ≤ j + t) :
    fw Ieee.double (c * 2 ^ j) = (j + t - 51) * 2 ^ 52 + (c * 2 ^ (52 - t) - 2 ^ 52) ∧ c * 2 ^ (52 - t) - 2 ^ 52 < 2 ^ 52 := by
  have a0 : 2 ^ 52 ≤ c * 2 ^ (52 - t) := by
    have : 2 ^ t * 2 ^ (52 - t) ≤ c * 2 ^ (52 - t) := Nat.mul_le_mul_right _ h0
    rwa [← Nat.pow_add, show t + (52 - t) = 52 by omega] at this
  have a1 : c * 2 ^ (52 - t) < 2 ^ 53 := few_lt h1 (by omega)
  have hM : c * 2 ^ (52 - t) - 2 ^ 52 < 2 ^ 52 := by omega
  refine ⟨?_, hM⟩
  refine fw_of Ieee.double _ _ (ok64 (Nat.lt_of_lt_of_le h1 (Nat.pow_le_pow_right (by decide) (by omega))) (by omega)) ?_
  rw [show Ieee.double.fractionBits = 52 from rfl, vR_parts 52 _ _ (by omega) hM, show 2 ^ 52 + (c * 2 ^ (52 - t) - 2 ^ 52) = c * 2 ^ (52 - t) by omega, Nat.mul_assoc, ← Nat.pow_add]
  congr 2
  omega

/-- Words of numbers that are at least 0 stand as their numbers do. -/
theorem order_pos {f : Ieee.Format} {x y : Nat} (hx : x < f.infRung) (hy : y < f.infRung) : f.order x y = some (compare x y) := by
  obtain ⟨m, k, h1, h2⟩ := read_pos f x hx
  obtain ⟨n, l, h3, h4⟩ := read_pos f y hy
  unfold Ieee.Format.order
  rw [h1, h3]
  simp only [Datum.order, place_min, signed]
  have d1 : (f.leastPlace + (k : Int) - (f.leastPlace + ((min k l : Nat) : Int))).toNat = k - min k l := by omega
  have d2 : (f.leastPlace + (l : Int) - (f.leastPlace + ((min k l : Nat) : Int))).toNat = l - min k l := by omega
  rw [d1, d2]
  have e1 := up_part m k (min k l) (by omega)
  have e2 := up_part n l (min k l) (by omega)
  rw [h2] at e1
  rw [h4] at e2
  have hp := Nat.two_pow_pos (min k l)
  congr 1
  simp only [Bool.false_eq_true, if_false]
  generalize m <<< (k - min k l) = a at *
  generalize n <<< (l - min k l) = b at *
  generalize 2 ^ min k l = p at *
  rcases Nat.lt_trichotomy x y with h | h | h
  · have := vR_lt f.fractionBits _ _ h
    rw [← e1, ← e2] at this
    have := Nat.lt_of_mul_lt_mul_right this
    rw [Int.compare_eq_lt.2 (by omega), Nat.compare_eq_lt.2 h]
  · subst h
    rw [← e2] at e1
    have := Nat.eq_of_mul_eq_mul_right hp e1
    rw [Int.compare_eq_eq.2 (by omega), Nat.compare_eq_eq.2 rfl]
  · have := vR_lt f.fractionBits _ _ h
    rw [← e1, ← e2] at this
    have := Nat.lt_of_mul_lt_mul_right this
    rw [Int.compare_eq_gt.2 (by omega), Nat.compare_eq_gt.2 h]
end Go.Proofs.Ytkppdcelhblgaaa
