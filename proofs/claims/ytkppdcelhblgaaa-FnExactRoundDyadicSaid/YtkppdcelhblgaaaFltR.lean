/-
  Plain facts on what is left above the pattern below: it is exact, or it is at least a step. No Go in sight.
-/
import Derived.Test.YtkppdcelhblgaaaFltF
namespace Go.Proofs.Ytkppdcelhblgaaa
open Go

/-- Every finite single word is the word of a number. -/
theorem word_self {x : Nat} (h : x < Ieee.single.infRung) : Ok Ieee.single (vR 23 x) ∧ fw Ieee.single (vR 23 x) = x := by
  have hi : Ieee.single.infRung = 255 * 8388608 := by decide
  rw [hi] at h
  have ok : Ok Ieee.single (vR 23 x) := by
    by_cases hb : x < 8388608
    · rw [vR_low 23 x (by omega)]
      have := ok32 (c := x) (j := 0) (by omega) (by decide)
      rwa [Nat.pow_zero, Nat.mul_one] at this
    · have hM := Nat.mod_lt x (show 0 < 8388608 by decide)
      have hd := Nat.div_add_mod x 8388608
      have hE : 1 ≤ x / 8388608 := (Nat.le_div_iff_mul_le (by decide)).2 (by omega)
      have e : x / 8388608 * 2 ^ 23 + x % 8388608 = x := by omega
      have := vR_parts 23 (x / 8388608) (x % 8388608) hE hM
      rw [e] at this
      rw [this]
      exact ok32 (by omega) (by omega)
  exact ⟨ok, fw_of Ieee.single x _ ok rfl⟩

theorem cut_ge (n d k : Nat) (h : k * 2 ^ d ≤ n) (hd : d ≤ n.log2) : k ≤ Ieee.Toward.even.cut false n d := by
  unfold Ieee.Toward.cut
  have hg : 1 <<< min d (n.log2 + 2) = 2 ^ d := by rw [Nat.min_eq_left (by omega), Nat.shiftLeft_eq, Nat.one_mul]
  simp only [hg]
  have := (Nat.le_div_iff_mul_le (Nat.two_pow_pos d)).2 h
  omega

theorem cut_le (n d k : Nat) (h : n < k * 2 ^ d) (hd : d ≤ n.log2) : Ieee.Toward.even.cut false n d ≤ k := by
  unfold Ieee.Toward.cut
  have hg : 1 <<< min d (n.log2 + 2) = 2 ^ d := by rw [Nat.min_eq_left (by omega), Nat.shiftLeft_eq, Nat.one_mul]
  simp only [hg]
  have := (Nat.div_lt_iff_lt_mul (Nat.two_pow_pos d)).2 h
  have tb : ∀ b : Bool, b.toNat ≤ 1 := by decide
  exact Nat.le_trans (Nat.add_le_add_left (tb _) _) (by omega)

/-- What is rounded to a single is at least any power of two that it is at least. -/
theorem single_ge {R s : Nat} (h : 2 ^ s ≤ R) (hR : R < 2 ^ 191) : fw Ieee.single R < Ieee.single.infRung ∧ 2 ^ s ≤ vR 23 (fw Ieee.single R) ∧ vR 23 (fw Ieee.single R) < 2 ^ 192 := by
  have h0 : R ≠ 0 := by have := Nat.two_pow_pos s; omega
  have l0 : 2 ^ R.log2 ≤ R := Nat.log2_self_le h0
  have l1 : R < 2 ^ (R.log2 + 1) := Nat.lt_log2_self
  have hs : s ≤ R.log2 := by
    have : 2 ^ s < 2 ^ (R.log2 + 1) := Nat.lt_of_le_of_lt h l1
    have := (Nat.pow_lt_pow_iff_right (by decide : 1 < 2)).1 this
    omega
  have hL : R.log2 < 191 := (Nat.log2_lt h0).2 hR
  have hi : Ieee.single.infRung = 255 * 2 ^ 23 := by decide
  have hb : Ieee.single.binade = 2 ^ 23 := rfl
  have hF : Ieee.single.fractionBits = 23 := rfl
  by_cases hsm : R.log2 < 24
  · have ok : Ok Ieee.single R := by
      have : R < 2 ^ 24 := Nat.lt_of_lt_of_le l1 (Nat.pow_le_pow_right (by decide) (by omega))
      have := ok32 (c := R) (j := 0) this (by decide)
      rwa [Nat.pow_zero, Nat.mul_one] at this
    obtain ⟨a, b⟩ := fw_val Ieee.single R ok.1 ok.2.1 ok.2.2
    rw [hF] at b
    exact ⟨a, by rw [b]; exact h, by rw [b]; exact Nat.lt_trans hR (Nat.pow_lt_pow_right (by decide) (by decide))⟩
  · have e : fw Ieee.single R = (R.log2 - 23) * 2 ^ 23 + Ieee.Toward.even.cut false R (R.log2 - 23) ∧ 2 ^ 23 ≤ Ieee.Toward.even.cut false R (R.log2 - 23) ∧ Ieee.Toward.even.cut false R (R.log2 - 23) ≤ 2 ^ 24 := by
      have c0 : 2 ^ 23 ≤ Ieee.Toward.even.cut false R (R.log2 - 23) := cut_ge _ _ _ (by rw [← Nat.pow_add, show 23 + (R.log2 - 23) = R.log2 by omega]; exact l0) (by omega)
      have c1 : Ieee.Toward.even.cut false R (R.log2 - 23) ≤ 2 ^ 24 := cut_le _ _ _ (by rw [← Nat.pow_add, show 24 + (R.log2 - 23) = R.log2 + 1 by omega]; exact l1) (by omega)
      refine ⟨?_, c0, c1⟩
      unfold fw Ieee.Format.nearest
      rw [if_neg h0]
      have hlast : max (Ieee.single.leastPlace + (R.log2 : Int) - Ieee.single.fractionBits) Ieee.single.leastPlace = Ieee.single.leastPlace + ((R.log2 - 23 : Nat) : Int) := by
        rw [hF]; omega
      simp only [hlast]
      rw [show (Ieee.single.leastPlace - (Ieee.single.leastPlace + ((R.log2 - 23 : Nat) : Int))).toNat = 0 by omega, show (Ieee.single.leastPlace + ((R.log2 - 23 : Nat) : Int) - Ieee.single.leastPlace).toNat = R.log2 - 23 by omega, Nat.shiftLeft_zero, hb, hi]
      unfold Ieee.Format.word
      rw [if_neg (by decide)]
      apply Nat.min_eq_left
      have : (R.log2 - 23 + 2) * 2 ^ 23 ≤ 255 * 2 ^ 23 := Nat.mul_le_mul_right _ (by omega)
      rw [Nat.add_mul] at this
      omega
    obtain ⟨e1, e2, e3⟩ := e
    refine ⟨?_, ?_, ?_⟩
    · rw [e1, hi]
      have : (R.log2 - 23 + 3) * 2 ^ 23 ≤ 255 * 2 ^ 23 := Nat.mul_le_mul_right _ (by omega)
      rw [Nat.add_mul] at this
      omega
    · rw [e1]
      have a1 : vR 23 ((R.log2 - 23) * 2 ^ 23 + 2 ^ 23) = 2 ^ R.log2 := by
        rw [vR_high 23 (R.log2 - 23) (2 ^ 23) (Nat.le_refl _) (by decide), ← Nat.pow_add]
        congr 1; omega
      have a2 : vR 23 ((R.log2 - 23) * 2 ^ 23 + 2 ^ 23) ≤ vR 23 ((R.log2 - 23) * 2 ^ 23 + Ieee.Toward.even.cut false R (R.log2 - 23)) := by
        rcases Nat.lt_or_ge (2 ^ 23) (Ieee.Toward.even.cut false R (R.log2 - 23)) with g | g
        · exact Nat.le_of_lt (vR_lt 23 _ _ (by omega))
        · rw [show Ieee.Toward.even.cut false R (R.log2 - 23) = 2 ^ 23 by omega]; exact Nat.le_refl _
      rw [a1] at a2
      exact Nat.le_trans (Nat.pow_le_pow_right (by decide) hs) a2
    · have b0 : fw Ieee.single R < 169 * 2 ^ 23 + 1 := by
        rw [e1]
        have : (R.log2 - 23) * 2 ^ 23 ≤ 167 * 2 ^ 23 := Nat.mul_le_mul_right _ (by omega)
        omega
      have b1 := vR_lt 23 _ _ b0
      have b2 := vR_parts 23 169 1 (by decide) (by decide)
      rw [b2] at b1
      refine Nat.lt_trans b1 ?_
      have b3 : (2 : Nat) ^ 192 = 2 ^ 24 * 2 ^ 168 := by rw [← Nat.pow_add]
      rw [b3]
      exact Nat.mul_lt_mul_of_pos_right (by decide) (Nat.two_pow_pos _)
end Go.Proofs.Ytkppdcelhblgaaa
