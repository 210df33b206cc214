/-
  Plain facts on taking a float apart into the fields of a format: what is got is the pattern below. No Go in sight.
-/
import Derived.Test.YtkppdcelhblgaaaFltU
namespace Go.Proofs.Ytkppdcelhblgaaa
open Go

/-- A single word told by its parts. -/
theorem single_parts {V : Nat} (h : Ok Ieee.single V) (h1 : 8388608 ≤ V) : ∃ E M : Nat, fw Ieee.single V = E * 8388608 + M ∧ M < 8388608 ∧ 1 ≤ E ∧ V = (8388608 + M) * 2 ^ (E - 1) ∧ E ≤ 254 := by
  obtain ⟨b1, b2⟩ := fw_val Ieee.single V h.1 h.2.1 h.2.2
  have hf : Ieee.single.fractionBits = 23 := rfl
  rw [hf] at b2
  have hi : Ieee.single.infRung = 255 * 8388608 := by decide
  rw [hi] at b1
  generalize fw Ieee.single V = b at *
  have hb : 8388608 ≤ b := by
    apply Nat.le_of_not_lt
    intro hlt
    have := vR_low 23 b (by omega)
    omega
  have hE : 1 ≤ b / 8388608 := (Nat.le_div_iff_mul_le (by decide)).2 (by omega)
  have hM := Nat.mod_lt b (show 0 < 8388608 by decide)
  have hd := Nat.div_add_mod b 8388608
  refine ⟨b / 8388608, b % 8388608, by omega, hM, hE, ?_, by omega⟩
  have e : b / 8388608 * 2 ^ 23 + b % 8388608 = b := by omega
  have := vR_parts 23 (b / 8388608) (b % 8388608) hE hM
  rw [e, b2] at this
  exact this

/-- The pattern below a size, out of the parts of its word. -/
theorem parts_below {f : Int} {E M V : Nat} (h3 : 1 ≤ f) (h4 : f ≤ 10) (hM : M < 8388608) (hE : 1 ≤ E) (hV : V = (8388608 + M) * 2 ^ (E - 1)) (hbig : pw f * pw 149 ≤ (V : Int)) :
    (1 ≤ (E : Int) - 126 - f) ∧ (0 ≤ (M : Int) / pw (23 - f) ∧ (M : Int) / pw (23 - f) < pw f) ∧
    mgV f (((E : Int) - 126 - f) * pw f + (M : Int) / pw (23 - f)) * pw 149 ≤ V ∧ (V : Int) < mgV f (((E : Int) - 126 - f) * pw f + (M : Int) / pw (23 - f) + 1) * pw 149 := by
  have hA := pw_pos f
  have hB := pw_pos (23 - f)
  have e23 : pw (23 - f) * pw f = 8388608 := by
    rw [← pw_add (23 - f) f (by omega) (by omega), show 23 - f + f = 23 by omega]; rfl
  have hVi : (V : Int) = (8388608 + (M : Int)) * pw ((E : Int) - 1) := by
    rw [hV, Int.natCast_mul, show ((8388608 + M : Nat) : Int) = 8388608 + (M : Int) by omega]
    congr 1
    rw [pw_cast]
    congr 1
    omega
  have hx : 1 ≤ (E : Int) - 126 - f := by
    apply Int.le_of_not_gt
    intro hlt
    have hP := pw_pos ((E : Int) - 1)
    have a1 : (8388608 + (M : Int)) * pw ((E : Int) - 1) < 16777216 * pw ((E : Int) - 1) := Int.mul_lt_mul_of_pos_right (by omega) (by omega)
    have a2 : (16777216 : Int) * pw ((E : Int) - 1) = pw (24 + ((E : Int) - 1)) := (pw_add 24 ((E : Int) - 1) (by decide) (by omega)).symm
    have a3 : pw f * pw 149 = pw (f + 149) := (pw_add f 149 (by omega) (by decide)).symm
    have a4 := pw_mono (a := 24 + ((E : Int) - 1)) (b := f + 149) (by omega)
    omega
  have r0 : 0 ≤ (M : Int) / pw (23 - f) := Int.ediv_nonneg (by omega) (by omega)
  have r1 : (M : Int) / pw (23 - f) < pw f := Int.ediv_lt_of_lt_mul (by omega) (by rw [Int.mul_comm, e23]; omega)
  obtain ⟨m1, m2⟩ := mg_of f ((E : Int) - 126 - f) ((M : Int) / pw (23 - f)) h3 hx r0 r1
  refine ⟨hx, ⟨r0, r1⟩, ?_, ?_⟩
  · rw [m1, hVi]
    have e1 : pw ((E : Int) - 126 - f - 1) * pw 149 = pw (23 - f) * pw ((E : Int) - 1) := by
      rw [← pw_add _ _ (by omega) (by decide), ← pw_add _ _ (by omega) (by omega)]
      congr 1; omega
    rw [Int.mul_assoc, e1, ← Int.mul_assoc]
    apply Int.mul_le_mul_of_nonneg_right _ (by have := pw_pos ((E : Int) - 1); omega)
    have hd := Int.mul_ediv_add_emod (M : Int) (pw (23 - f))
    have hm0 := Int.emod_nonneg (M : Int) (show pw (23 - f) ≠ 0 by omega)
    rw [Int.add_mul, Int.mul_comm (pw f), e23, Int.mul_comm ((M : Int) / pw (23 - f))]
    omega
  · rw [m2, hVi]
    have e1 : pw ((E : Int) - 126 - f - 1) * pw 149 = pw (23 - f) * pw ((E : Int) - 1) := by
      rw [← pw_add _ _ (by omega) (by decide), ← pw_add _ _ (by omega) (by omega)]
      congr 1; omega
    rw [Int.mul_assoc, e1, ← Int.mul_assoc]
    apply Int.mul_lt_mul_of_pos_right _ (by have := pw_pos ((E : Int) - 1); omega)
    have hd := Int.mul_ediv_add_emod (M : Int) (pw (23 - f))
    have hm1 := Int.emod_lt_of_pos (M : Int) (show 0 < pw (23 - f) by omega)
    rw [Int.add_mul, Int.add_mul, Int.one_mul, Int.mul_comm (pw f), e23, Int.mul_comm ((M : Int) / pw (23 - f))]
    omega

/-- The word's bits that are the fraction. -/
theorem parts_frac {f : Int} {E M : Nat} (h3 : 1 ≤ f) (h4 : f ≤ 10) (hM : M < 8388608) : ((E * 8388608 + M : Nat) : Int) / pw (23 - f) % pw f = (M : Int) / pw (23 - f) := by
  have hA := pw_pos f
  have hB := pw_pos (23 - f)
  have e23 : pw f * pw (23 - f) = 8388608 := by
    rw [← pw_add f (23 - f) (by omega) (by omega), show f + (23 - f) = 23 by omega]; rfl
  have r0 : 0 ≤ (M : Int) / pw (23 - f) := Int.ediv_nonneg (by omega) (by omega)
  have r1 : (M : Int) / pw (23 - f) < pw f := Int.ediv_lt_of_lt_mul (by omega) (by rw [e23]; omega)
  have e : ((E * 8388608 + M : Nat) : Int) = (M : Int) + (E : Int) * pw f * pw (23 - f) := by
    rw [Int.mul_assoc, e23]; omega
  rw [e, Int.add_mul_ediv_right _ _ (by omega), Int.add_mul_emod_self_right, Int.emod_eq_of_lt r0 r1]

/-- Below a size that is cut at the greatest value. -/
theorem below_cut {e f V p : Int} (hg : goodB e f = true) (p0 : 0 ≤ p) (h1 : mgV f p * pw 149 ≤ min V (mgV f (grV e f) * pw 149)) (h2 : min V (mgV f (grV e f) * pw 149) < mgV f (p + 1) * pw 149) : BelowQ f (grV e f) V (pw 149) p := by
  obtain ⟨f1, _⟩ : 1 ≤ f ∧ f ≤ 10 := by
    obtain ⟨_, _, h3, h4⟩ := good_iff.1 hg
    exact ⟨h3, h4⟩
  have hP := pw_pos 149
  have hg0 : 0 ≤ grV e f := by
    obtain ⟨g1, g2, g3, g4⟩ := good_iff.1 hg
    obtain ⟨_, ⟨b1, _⟩, ⟨c1, _⟩, _⟩ := pw_facts g1 g2 g3 g4
    have := Int.mul_le_mul (show 1 ≤ pw e - 1 by omega) (show 1 ≤ pw f by omega) (by decide) (by omega)
    unfold grV; omega
  have hpg : p ≤ grV e f := by
    apply Int.le_of_not_gt
    intro hlt
    have a := mg_mono f (grV e f + 1) p f1 (by omega) (by omega)
    have b := mg_step f (grV e f) f1 hg0
    have c := pw_pos (max 0 (grV e f / pw f - 1))
    have d := Int.mul_lt_mul_of_pos_right (show mgV f (grV e f) < mgV f p by omega) (show 0 < pw 149 by omega)
    omega
  refine ⟨p0, hpg, by omega, ?_⟩
  by_cases hV : V ≤ mgV f (grV e f) * pw 149
  · right; omega
  · left
    apply Int.lt_of_not_ge
    intro hle
    have a := mg_mono f (p + 1) (grV e f) f1 (by omega) hle
    have d := Int.mul_le_mul_of_nonneg_right a (show 0 ≤ pw 149 by omega)
    omega
end Go.Proofs.Ytkppdcelhblgaaa
