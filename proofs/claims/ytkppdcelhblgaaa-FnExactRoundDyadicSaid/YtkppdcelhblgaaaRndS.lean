/-
  Plain facts on how a size is told: whole units, and a part of one more. No Go in sight.
-/
import Derived.Test.YtkppdcelhblgaaaRndD
import Derived.Test.YtkppdcelhblgaaaDyS
namespace Go.Proofs.Ytkppdcelhblgaaa
open Go

/-- u units and r / h of one more are rounded as N times 2^k units are. -/
def SizeOf (e f N k u r h : Int) : Prop := 0 ≤ u ∧ u ≤ 1152921504606846976 ∧ 0 ≤ r ∧ r < h ∧ h ≤ 1152921504606846976 ∧ ∀ mode neg s, IsRnd f (grV e f) (u * h + r) h mode neg s → RndD e f N k mode neg s

theorem size_zero (e f k : Int) : SizeOf e f 0 k 0 0 1 := by
  refine ⟨by decide, by decide, by decide, by decide, by decide, fun mode neg s hr => ?_⟩
  refine rnd_move ?_ hr
  intro T _
  rw [Int.zero_mul, Int.mul_one, Int.zero_mul]
  have hp := pw_pos 149
  have e1 : 2 * (0 : Int) - T * pw 149 = (2 * (0 + 0) - T) * pw 149 := by rw [Int.sub_mul]; simp
  rw [e1, sg_mul (by omega)]

theorem size_great {e f n k : Int} (hg : goodB e f = true) (h1 : -1152921504606846976 < n) (h2 : n < 1152921504606846976) (h0 : n ≠ 0) (hk : 0 ≤ k) (hb : 44 < plV n + k) : SizeOf e f (n.natAbs : Int) k (pw 44) 0 1 := by
  obtain ⟨b1, b2, b3⟩ := pl_bd n h0 (by omega) (by omega)
  refine ⟨by decide, by decide, by decide, by decide, by decide, fun mode neg s hr => ?_⟩
  refine rnd_great hg (by decide) (by have := pw_pos 149; omega) (by decide) ?_ hr
  have e1 : pw (plV n - 1 + (k + 149)) = pw (plV n - 1) * pw (k + 149) := pw_add _ _ (by omega) (by omega)
  have e2 : (2199023255552 : Int) * pw 149 = pw (41 + 149) := (pw_add 41 149 (by decide) (by decide)).symm
  have e3 := pw_mono (a := 41 + 149) (b := plV n - 1 + (k + 149)) (by omega)
  have e4 := Int.mul_le_mul_of_nonneg_right b2 (show 0 ≤ pw (k + 149) by have := pw_pos (k + 149); omega)
  omega

theorem size_whole {e f N k : Int} (h0 : 0 ≤ N * pw k) (h1 : N * pw k ≤ 1152921504606846976) (hk : 0 ≤ k) : SizeOf e f N k (N * pw k) 0 1 := by
  refine ⟨h0, h1, by decide, by decide, by decide, fun mode neg s hr => ?_⟩
  rw [Int.mul_one, Int.add_zero] at hr
  exact rnd_whole hk hr

theorem size_tiny {e f N k : Int} (hg : goodB e f = true) (h0 : 0 < N) (h1 : N ≤ 1125899906842624) (hk : k < -60) (hk2 : -149 ≤ k) : SizeOf e f N k 0 1 4 := by
  refine ⟨by decide, by decide, by decide, by decide, by decide, fun mode neg s hr => ?_⟩
  have hp := pw_pos (k + 149)
  have a1 := Int.mul_pos h0 (show 0 < pw (k + 149) by omega)
  have a2 : N * pw (k + 149) ≤ 1125899906842624 * pw (k + 149) := Int.mul_le_mul_of_nonneg_right h1 (by omega)
  have a3 : (4503599627370496 : Int) * pw (k + 149) = pw (52 + (k + 149)) := (pw_add 52 (k + 149) (by decide) (by omega)).symm
  have a4 := pw_mono (a := 52 + (k + 149)) (b := 149) (by omega)
  exact rnd_tiny hg (by decide) (by decide) a1 (by omega) hr

theorem size_part {e f N k : Int} (h0 : 0 ≤ N) (h1 : N ≤ 1152921504606846976) (hk : k < 0) (hk2 : -60 ≤ k) : SizeOf e f N k (N / pw (-k)) (N % pw (-k)) (pw (-k)) := by
  have hp := pw_pos (-k)
  have p2 := pw_le (a := -k) 60 1152921504606846976 rfl (by omega)
  have hd := Int.mul_ediv_add_emod N (pw (-k))
  have hr0 := Int.emod_nonneg N (show pw (-k) ≠ 0 by omega)
  have hr1 := Int.emod_lt_of_pos N (show 0 < pw (-k) by omega)
  have hq0 : 0 ≤ N / pw (-k) := Int.ediv_nonneg h0 (by omega)
  have hq1 : N / pw (-k) ≤ N := Int.ediv_le_self _ h0
  refine ⟨hq0, by omega, hr0, hr1, p2, fun mode neg s hr => ?_⟩
  rw [Int.mul_comm, hd] at hr
  exact rnd_part (by omega) (by omega) hr

/-- A size with the sign of a number. -/
def sgP (e f n s : Int) : Int := if n < 0 then pw (e + f) + s else s

/-- Where the model's rounding of n times 2^k units is told. -/
def RdIn (n k : Int) : Prop := (-1152921504606846976 < n ∧ n < 1152921504606846976) ∧ (-149 ≤ k ∧ k ≤ 149) ∧ (k < -60 → -1125899906842624 ≤ n ∧ n ≤ 1125899906842624)

theorem rd_dy {e f n d : Int} (hg : goodB e f = true) (hd : dyB n d = true) : RdIn n (d - unV e f) := by
  obtain ⟨⟨h1, h2, h3, h4⟩, _⟩ := dy_iff.1 hd
  obtain ⟨u1, u2, u3, u4⟩ := un_bd hg
  exact ⟨by omega, by omega, fun _ => by omega⟩

theorem pl_60 {n : Int} (h1 : -1152921504606846976 < n) (h2 : n < 1152921504606846976) : plV n ≤ 60 :=
  pl_le n 60 (by decide) (by decide) (by rw [show pw 60 = 1152921504606846976 from rfl]; omega)

/-- How the part above the lower pattern stands to the half of the step: -1 below it, 0 at it, 1 above it. -/
def hfV (x r h : Int) : Int := if x = -1 then sgV (2 * r - h) else if x = 0 ∧ 0 < r then 1 else sgV x

theorem hf_is {x r h A B : Int} (hr0 : 0 ≤ r) (hr1 : r < h) (hAB : 2 * A - B = x * h + 2 * r) : (hfV x r h = 1 ↔ B < 2 * A) ∧ (hfV x r h = 0 ↔ 2 * A = B) ∧ (hfV x r h = -1 ↔ 2 * A < B) := by
  have key : sgV (2 * A - B) = hfV x r h := by
    unfold hfV
    rw [hAB]
    by_cases h1 : x = -1
    · rw [if_pos h1]
      subst h1
      congr 1
      omega
    · rw [if_neg h1]
      by_cases h2 : x = 0 ∧ 0 < r
      · rw [if_pos h2]
        obtain ⟨rfl, h3⟩ := h2
        rw [sg_pos (by omega)]
      · rw [if_neg h2]
        rcases Int.lt_trichotomy x 0 with g | g | g
        · have := Int.mul_le_mul_of_nonneg_right (show x ≤ -2 by omega) (show 0 ≤ h by omega)
          rw [sg_neg (by omega), sg_neg g]
        · subst g
          have : r = 0 := by omega
          subst this
          simp
        · have := Int.mul_le_mul_of_nonneg_right (show 1 ≤ x by omega) (show 0 ≤ h by omega)
          rw [sg_pos (by omega), sg_pos g]
  rw [← key]
  rcases Int.lt_trichotomy (2 * A) B with g | g | g
  · rw [sg_neg (by omega)]; omega
  · rw [sg_zero (by omega)]; omega
  · rw [sg_pos (by omega)]; omega

/-- The rounding of a size that is told so. -/
theorem rnd_told {e f u r h p : Int} (hh : 0 < h) (hr0 : 0 ≤ r) (hr1 : r < h) (hp : IsBelow f (grV e f) u p) : BelowQ f (grV e f) (u * h + r) h p := by
  obtain ⟨p0, p1, p2, p3⟩ := hp
  refine ⟨p0, p1, ?_, ?_⟩
  · have := Int.mul_le_mul_of_nonneg_right p2 (show 0 ≤ h by omega)
    omega
  · rcases p3 with p3 | p3
    · exact Or.inl p3
    · right
      have := Int.mul_le_mul_of_nonneg_right (show u + 1 ≤ mgV f (p + 1) by omega) (show 0 ≤ h by omega)
      rw [Int.add_mul, Int.one_mul] at this
      omega

/-- Above the lower one: 0 if the number is its value. -/
theorem told_zero {f u r h p : Int} (hh : 0 < h) (hr0 : 0 ≤ r) (hm : mgV f p ≤ u) : u * h + r - mgV f p * h = 0 ↔ mgV f p = u ∧ r = 0 := by
  constructor
  · intro hz
    by_cases he : mgV f p = u
    · rw [he] at hz; exact ⟨he, by omega⟩
    · have := Int.mul_le_mul_of_nonneg_right (show mgV f p + 1 ≤ u by omega) (show 0 ≤ h by omega)
      rw [Int.add_mul, Int.one_mul] at this
      omega
  · rintro ⟨rfl, rfl⟩
    omega
end Go.Proofs.Ytkppdcelhblgaaa
