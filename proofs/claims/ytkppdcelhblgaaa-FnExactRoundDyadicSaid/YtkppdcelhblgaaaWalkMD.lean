/-
  What is left above the pattern below: it is exact, or it is at least a step.
-/
import Derived.Test.YtkppdcelhblgaaaRows
import Derived.Test.YtkppdcelhblgaaaPlain
import Derived.Test.YtkppdcelhblgaaaBelow
import Derived.Test.YtkppdcelhblgaaaNear
import Derived.Test.YtkppdcelhblgaaaDy
import Derived.Test.YtkppdcelhblgaaaDyC
import Derived.Test.YtkppdcelhblgaaaWalkA
import Derived.Test.YtkppdcelhblgaaaWalkDA
import Derived.Test.YtkppdcelhblgaaaLen
import Derived.Test.YtkppdcelhblgaaaWalkDB
import Derived.Test.YtkppdcelhblgaaaFlt
import Derived.Test.YtkppdcelhblgaaaFltO
import Derived.Test.YtkppdcelhblgaaaFltL
import Derived.Test.YtkppdcelhblgaaaFltB2
import Derived.Test.YtkppdcelhblgaaaRnd
import Derived.Test.YtkppdcelhblgaaaRndD
import Derived.Test.YtkppdcelhblgaaaFltU
import Derived.Test.YtkppdcelhblgaaaFltF
import Derived.Test.YtkppdcelhblgaaaFltR
import Derived.Test.YtkppdcelhblgaaaFltG
import Derived.Test.YtkppdcelhblgaaaFloat
import Derived.Test.YtkppdcelhblgaaaWalkC
import Derived.Test.YtkppdcelhblgaaaWalkD
import Derived.Test.YtkppdcelhblgaaaWalkF
import Derived.Test.YtkppdcelhblgaaaWalkW
import Derived.Test.YtkppdcelhblgaaaWalkX
import Derived.Test.YtkppdcelhblgaaaWalkBL
import Derived.Test.YtkppdcelhblgaaaWalkRB
import Derived.Test.YtkppdcelhblgaaaWalkH
import Derived.Test.YtkppdcelhblgaaaWalkI
import Derived.Test.YtkppdcelhblgaaaWalkLX
import Derived.Test.YtkppdcelhblgaaaWalkLY
import Derived.Test.YtkppdcelhblgaaaWalkLZ
import Derived.Test.YtkppdcelhblgaaaWalkMA
import Derived.Test.YtkppdcelhblgaaaWalkMB
import Derived.WalkKit
import Derived.LoopTactic
import Derived.Laws.Bits64b
import Derived.WalkSpells
import Derived.WalkLawsBesides
import Derived.StillTactics
import Derived.Laws.Pointers
import Derived.Deep.RegionHeld3
import Derived.Deep.QuietTactic
import Derived.BigQuiet
import Derived.Outline
import Derived.Lib.Hide
import Derived.RowKit3
import Derived.Carry
import Derived.IntWalk
namespace Go.Proofs.Ytkppdcelhblgaaa
open Go Go.RowKit
set_option linter.unusedSimpArgs false
set_option linter.unusedVariables false

theorem low_parts {e f p : Int} (hg : goodB e f = true) (h0 : 0 ≤ p) (h1 : p ≤ grV e f) : ∃ M s : Nat, mgN f p = M * 2 ^ (s + 149) ∧ stN f p = 2 ^ (s + 149) ∧ s ≤ 29 := by
  obtain ⟨x0, x1, x2, r0, r1, e1⟩ := p_parts hg h0 h1
  obtain ⟨_, _, h3, h4⟩ := good_iff.1 hg
  obtain ⟨s, es, hs⟩ := st_pw hg h0 h1
  have e2 : stN f p = 2 ^ (s + 149) := by
    unfold stN
    rw [es, Int.toNat_natCast, ← Nat.pow_add]
  by_cases hx : p / pw f = 0
  · refine ⟨(mgV f p).toNat * 1, s, ?_, e2, hs⟩
    have s0 : s = 0 := by
      unfold stV at es
      rw [hx] at es
      have e3 : ((2 ^ s : Nat) : Int) = 1 := by rw [← es]; rfl
      have e4 : 2 ^ s = 1 := by omega
      cases s with
      | zero => rfl
      | succ s => rw [Nat.pow_succ] at e4; omega
    subst s0
    unfold mgN
    rw [Nat.mul_one, Nat.zero_add]
  · have := (mg_of f (p / pw f) (p % pw f) h3 (by omega) r0 r1).1
    rw [e1] at this
    have es2 : pw (p / pw f - 1) = ((2 ^ s : Nat) : Int) := by
      unfold stV at es
      rwa [show max 0 (p / pw f - 1) = p / pw f - 1 by omega] at es
    rw [es2] at this
    refine ⟨(p % pw f + pw f).toNat, s, ?_, e2, hs⟩
    have e3 : mgV f p = (((p % pw f + pw f).toNat * 2 ^ s : Nat) : Int) := by
      rw [this, Int.natCast_mul, Int.toNat_of_nonneg (by omega)]
    unfold mgN
    rw [e3, Int.toNat_natCast, Nat.mul_assoc, ← Nat.pow_add]

theorem rest_ok {e f p : Int} {Y : Nat} (hg : goodB e f = true) (okY : Ok Ieee.single Y) (hY : Y < 2 ^ 191) (h0 : 0 ≤ p) (h1 : p ≤ grV e f) (hl : mgN f p ≤ Y) :
    ∃ R : Nat, Ok Ieee.single R ∧ R < 2 ^ 192 ∧ fw Ieee.single (Y - mgN f p) = fw Ieee.single R ∧ (R = Y - mgN f p ∨ (stN f p ≤ R ∧ stN f p ≤ Y - mgN f p)) := by
  obtain ⟨M, s, em, es, hs⟩ := low_parts hg h0 h1
  rw [em] at hl ⊢
  rw [es]
  by_cases hr : 2 ^ (s + 149) ≤ Y - M * 2 ^ (s + 149)
  · obtain ⟨a, b, b2⟩ := single_ge hr (Nat.lt_of_le_of_lt (Nat.sub_le _ _) hY)
    obtain ⟨c, d⟩ := word_self a
    exact ⟨_, c, b2, d.symm, .inr ⟨b, hr⟩⟩
  · refine ⟨_, ⟨?_, Nat.lt_of_le_of_lt (Nat.sub_le _ _) okY.2.1, okY.2.2⟩, Nat.lt_trans (Nat.lt_of_le_of_lt (Nat.sub_le _ _) hY) (Nat.pow_lt_pow_right (by decide) (by decide)), rfl, .inl rfl⟩
    obtain ⟨c, j, ec, hc⟩ := okY.1
    rcases Nat.le_total j (s + 149) with g | g
    · refine ⟨c - M * 2 ^ (s + 149 - j), j, ?_, Nat.lt_of_le_of_lt (Nat.sub_le _ _) hc⟩
      rw [ec, Nat.sub_mul, Nat.mul_assoc, ← Nat.pow_add, show s + 149 - j + j = s + 149 by omega]
    · have e : Y - M * 2 ^ (s + 149) = (c * 2 ^ (j - (s + 149)) - M) * 2 ^ (s + 149) := by
        rw [ec, Nat.sub_mul, Nat.mul_assoc, ← Nat.pow_add, show j - (s + 149) + (s + 149) = j by omega]
      rw [e] at hr ⊢
      have z : c * 2 ^ (j - (s + 149)) - M = 0 := by
        rcases Nat.eq_zero_or_pos (c * 2 ^ (j - (s + 149)) - M) with z | z
        · exact z
        · exact absurd (Nat.le_mul_of_pos_left _ z) hr
      rw [z]
      exact ⟨0, 0, by simp, Nat.two_pow_pos _⟩

/-- What is left, as it is or at least a step, is rounded alike. -/
theorem rnd_rest {e f p mode : Int} {Y R : Nat} {neg : Bool} (hg : goodB e f = true) (h0 : 0 ≤ p) (h1 : p ≤ grV e f) (hl : mgN f p ≤ Y) (h : R = Y - mgN f p ∨ (stN f p ≤ R ∧ stN f p ≤ Y - mgN f p)) :
    rndP (R : Int) (stN f p : Int) p mode neg = rndP ((Y : Int) - mgV f p * pw 149) (stV f p * pw 149) p mode neg := by
  have c := mgN_cast f p (mg_bd hg h0 h1).1
  have s1 := (st_bd hg h0 h1).1
  have c2 : ((stN f p : Nat) : Int) = stV f p * pw 149 := by
    unfold stN
    rw [Int.natCast_mul, Int.toNat_of_nonneg (by omega), show ((2 ^ 149 : Nat) : Int) = pw 149 from pw_cast 149]
  rw [← c, ← c2]
  have e1 : (Y : Int) - ((mgN f p : Nat) : Int) = ((Y - mgN f p : Nat) : Int) := by omega
  rw [e1]
  rcases h with h | ⟨h2, h3⟩
  · rw [h]
  · have hp := pw_pos 149
    have hs : 0 < ((stN f p : Nat) : Int) := by rw [c2]; exact Int.mul_pos (by omega) (by omega)
    generalize Y - mgN f p = A at *
    generalize stN f p = B at *
    have u : upR (R : Int) (B : Int) p mode neg = upR (A : Int) (B : Int) p mode neg := by
      unfold upR
      have q1 : decide ((B : Int) < 2 * (R : Int) ∨ (2 * (R : Int) = B ∧ p % 2 = 1)) = decide ((B : Int) < 2 * (A : Int) ∨ (2 * (A : Int) = B ∧ p % 2 = 1)) := by
        rw [decide_eq_decide]; omega
      have q2 : decide ((B : Int) ≤ 2 * (R : Int)) = decide ((B : Int) ≤ 2 * (A : Int)) := by
        rw [decide_eq_decide]; omega
      rw [q1, q2]
    unfold rndP
    rw [u, if_neg (show ¬ (R : Int) = 0 by omega), if_neg (show ¬ (A : Int) = 0 by omega)]

end Go.Proofs.Ytkppdcelhblgaaa
