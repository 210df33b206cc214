/-
  Contracts of the functions that the laws reach, and the plain facts that they rest on, each under the conditions that its line names; part 12.
-/
import Derived.Test.YtcbkhlaiefiieacKya10
import Derived.Test.YtcbkhlaiefiieacKya11
namespace Go.Proofs.Ytcbkhlaiefiieac
open Go

theorem fbits_fw (F X R : Nat) (hf0 : 1 ≤ F) (hf : F ≤ 10) (hx0 : 1 ≤ X) (hx : X < 31) (hr : R < 2 ^ F) :
    Ok Ieee.single ((R + 2 ^ F) * 2 ^ (X - 1) * 2 ^ 149) ∧ fbitsN F X R = fw Ieee.single ((R + 2 ^ F) * 2 ^ (X - 1) * 2 ^ 149) := by
  have e0 : (R + 2 ^ F) * 2 ^ (X - 1) * 2 ^ 149 = (R + 2 ^ F) * 2 ^ (X - 1 + 149) := by rw [Nat.mul_assoc, ← Nat.pow_add]
  have hF : 2 ^ F ≤ 2 ^ 10 := Nat.pow_le_pow_right (by decide) hf
  have ok : Ok Ieee.single ((R + 2 ^ F) * 2 ^ (X - 1) * 2 ^ 149) := by
    rw [e0]
    exact ok32 (by omega) (by omega)
  refine ⟨ok, (fw_of Ieee.single _ _ ok ?_).symm⟩
  have s : 2 ^ F * 2 ^ (23 - F) = 2 ^ 23 := by rw [← Nat.pow_add]; congr 1; omega
  have hM : R * 2 ^ (23 - F) < 2 ^ 23 := by
    rw [← s]
    exact Nat.mul_lt_mul_of_pos_right hr (Nat.two_pow_pos _)
  have := vR_parts 23 (X - 1 + F + 127) (R * 2 ^ (23 - F)) (by omega) hM
  unfold fbitsN
  show vR 23 _ = _
  rw [this, ← s, ← Nat.add_mul, Nat.mul_assoc, ← Nat.pow_add, e0, Nat.add_comm (2 ^ F) R]
  congr 2
  omega

theorem int_single (n : Nat) (h : n < 1024) : Ok Ieee.single (n * 2 ^ 149) ∧ floatOfInt .f32 (n : Int) = fw Ieee.single (n * 2 ^ 149) :=
  ⟨ok32 (by omega) (by decide), int_fw (f := Ieee.single) n 149 (by decide)⟩

/-- The number of a pattern, in units of 2^-149. -/
def mgN (f p : Int) : Nat := (mgV f p).toNat * 2 ^ 149

theorem mgN_cast (f p : Int) (h : 0 ≤ mgV f p) : ((mgN f p : Nat) : Int) = mgV f p * pw 149 := by
  have p149 : pw 149 = ((2 ^ 149 : Nat) : Int) := (pw_cast 149).symm
  unfold mgN
  rw [Int.natCast_mul, Int.toNat_of_nonneg h, p149]

theorem mgN_low (f r : Int) (h0 : 0 ≤ r) (h1 : r < pw f) (h2 : r < 1024) : Ok Ieee.single (mgN f r) ∧ floatOfInt .f32 r = fw Ieee.single (mgN f r) := by
  have := int_single r.toNat (by omega)
  rw [Int.toNat_of_nonneg h0] at this
  unfold mgN
  rw [mg_small f r h0 h1]
  exact this

theorem mgN_high (f x r : Int) (h3 : 1 ≤ f) (h4 : f ≤ 10) (hx0 : 1 ≤ x) (hx1 : x < 31) (hr0 : 0 ≤ r) (hr1 : r < pw f) : Ok Ieee.single (mgN f (x * pw f + r)) ∧ fbitsN f.toNat x.toNat r.toNat = fw Ieee.single (mgN f (x * pw f + r)) := by
  obtain ⟨F, hF⟩ : ∃ F : Nat, f = (F : Int) := ⟨f.toNat, by omega⟩
  obtain ⟨X, hX⟩ : ∃ X : Nat, x = (X : Int) := ⟨x.toNat, by omega⟩
  obtain ⟨R, hR⟩ : ∃ R : Nat, r = (R : Int) := ⟨r.toNat, by omega⟩
  subst hF hX hR
  have hr2 : R < 2 ^ F := by
    have := pw_cast F
    omega
  have := fbits_fw F X R (by omega) (by omega) (by omega) (by omega) hr2
  have e := (mg_of (F : Int) (X : Int) (R : Int) h3 hx0 hr0 hr1).1
  have e2 : mgV (F : Int) ((X : Int) * pw (F : Int) + R) = (((R + 2 ^ F) * 2 ^ (X - 1) : Nat) : Int) := by
    rw [e, Int.natCast_mul, Int.natCast_add, pw_cast, pw_cast]
    congr 2
    omega
  unfold mgN
  rw [e2, Int.toNat_natCast]
  simpa using this
end Go.Proofs.Ytcbkhlaiefiieac

namespace Go.Proofs.Ytcbkhlaiefiieac
open Go

theorem two_word : fw Ieee.single (2 * 2 ^ 149) = 1073741824 := by
  have ok : Ok Ieee.single (2 * 2 ^ 149) := ok32 (by decide) (by decide)
  refine fw_of Ieee.single _ _ ok ?_
  have := vR_parts 23 128 0 (by decide) (by decide)
  show vR 23 _ = _
  rw [show (1073741824 : Nat) = 128 * 2 ^ 23 + 0 from rfl, this, Nat.add_zero, ← Nat.pow_add]

theorem ok_two {R : Nat} (h : Ok Ieee.single R) (hR : R < 2 ^ 192) : Ok Ieee.single (2 * R) := by
  obtain ⟨⟨c, j, e, hc⟩, _, h3⟩ := h
  have hB : Ieee.single.fractionBits + (2 ^ Ieee.single.exponentBits - 2) = 277 := by decide
  obtain ⟨q, hq⟩ : ∃ q : Nat, q = 277 := ⟨_, rfl⟩
  refine ⟨⟨c, j + 1, ?_, hc⟩, ?_, h3⟩
  · rw [e, Nat.pow_succ, Nat.mul_left_comm, Nat.mul_comm 2 (2 ^ j)]
  · rw [hB, ← hq]
    have : 2 ^ 193 ≤ 2 ^ q := Nat.pow_le_pow_right (by decide) (by omega)
    have e2 : (2 : Nat) ^ 193 = 2 * 2 ^ 192 := by rw [Nat.pow_succ, Nat.mul_comm]
    omega

theorem mul_two {R : Nat} (h : Ok Ieee.single R) : floatBits .mul .f32 1073741824 (fw Ieee.single R) = some (fw Ieee.single (2 * R)) := by
  have ok : Ok Ieee.single (2 * 2 ^ 149) := ok32 (by decide) (by decide)
  have := mul_fw (f := Ieee.single) (v := 2 * R) 149 (by decide) ok h (by rw [Nat.mul_assoc, Nat.mul_comm (2 ^ 149), ← Nat.mul_assoc])
  rw [two_word] at this
  exact this

theorem order_zero {R : Nat} (h : Ok Ieee.single R) : Ieee.single.order (fw Ieee.single R) 0 = some (if R = 0 then .eq else .gt) := by
  have o0 : Ok Ieee.single 0 := by
    have := ok32 (c := 0) (j := 0) (by decide) (by decide)
    rwa [Nat.zero_mul] at this
  have := order_fw h o0
  rw [show fw Ieee.single 0 = 0 from near_zero _ _] at this
  rw [this]
  by_cases hr : R = 0
  · subst hr; rfl
  · rw [if_neg hr, cmp_gt (by omega)]
end Go.Proofs.Ytcbkhlaiefiieac

namespace Go.Proofs.Ytcbkhlaiefiieac
open Go

theorem mg_st {f p : Int} (hf : 1 ≤ f) (hp : 0 ≤ p) : mgV f p + stV f p ≤ 2 * pw f * stV f p ∧ 1 ≤ stV f p ∧ 0 ≤ mgV f p ∧ mgV f (p + 1) = mgV f p + stV f p := by
  have x0 := pw_pos f
  have q0 : 0 ≤ p / pw f := Int.ediv_nonneg hp (by omega)
  have r0 := Int.emod_nonneg p (show pw f ≠ 0 by omega)
  have r1 := Int.emod_lt_of_pos p (show 0 < pw f by omega)
  have s1 := pw_pos (max 0 (p / pw f - 1))
  refine ⟨?_, s1, ?_, mg_step f p hf hp⟩
  · by_cases hn : 0 < p / pw f
    · have hm : mgV f p = (p % pw f + pw f) * pw (p / pw f - 1) := by unfold mgV; rw [if_pos hn]
      have hs : stV f p = pw (p / pw f - 1) := by unfold stV; rw [show max 0 (p / pw f - 1) = p / pw f - 1 by omega]
      have s2 := pw_pos (p / pw f - 1)
      rw [hm, hs]
      have := Int.mul_le_mul_of_nonneg_right (show p % pw f + pw f + 1 ≤ 2 * pw f by omega) (show 0 ≤ pw (p / pw f - 1) by omega)
      rw [Int.add_mul _ 1, Int.one_mul] at this
      exact this
    · have hm : mgV f p = p % pw f := by unfold mgV; rw [if_neg hn]
      have hs : stV f p = 1 := by unfold stV; rw [show max 0 (p / pw f - 1) = 0 by omega]; rfl
      rw [hm, hs]
      omega
  · by_cases hn : 0 < p / pw f
    · have s2 := pw_pos (p / pw f - 1)
      unfold mgV; rw [if_pos hn]
      exact Int.mul_nonneg (by omega) (by omega)
    · unfold mgV; rw [if_neg hn]; exact r0

theorem mg_half {f p : Int} (hf : 1 ≤ f) (hf2 : f ≤ 10) (hp : 1 ≤ p) : mgV f p ≤ 2048 * stV f p ∧ mgV f p ≤ 2048 * stV f (p - 1) ∧ mgV f p = mgV f (p - 1) + stV f (p - 1) ∧ mgV f (p + 1) = mgV f p + stV f p ∧ 1 ≤ stV f p ∧ 1 ≤ stV f (p - 1) := by
  have c := pw_le 10 1024 rfl hf2
  obtain ⟨a1, a2, a3, a4⟩ := mg_st hf (show 0 ≤ p by omega)
  obtain ⟨b1, b2, b3, b4⟩ := mg_st hf (show 0 ≤ p - 1 by omega)
  rw [show p - 1 + 1 = p by omega] at b4
  have d1 := Int.mul_le_mul_of_nonneg_right (show 2 * pw f ≤ 2048 by omega) (show 0 ≤ stV f p by omega)
  have d2 := Int.mul_le_mul_of_nonneg_right (show 2 * pw f ≤ 2048 by omega) (show 0 ≤ stV f (p - 1) by omega)
  exact ⟨by omega, by omega, b4, a4, a2, b2⟩

/-- What lies very near to a value is rounded to it. -/
theorem rn_self {f g Y D p : Int} (hf : 1 ≤ f) (hf2 : f ≤ 10) (hD : 0 < D) (p1 : 1 ≤ p) (pg : p ≤ g) (h1 : 4096 * (mgV f p * D - Y) < mgV f p * D) (h2 : 4096 * (Y - mgV f p * D) < mgV f p * D) : IsRnd f g Y D 0 false p := by
  obtain ⟨a1, a2, a3, a4, a5, a6⟩ := mg_half hf hf2 p1
  have m1 := Int.mul_le_mul_of_nonneg_right a1 (show 0 ≤ D by omega)
  have m2 := Int.mul_le_mul_of_nonneg_right a2 (show 0 ≤ D by omega)
  rw [Int.mul_assoc] at m1 m2
  have m3 : mgV f p * D = mgV f (p - 1) * D + stV f (p - 1) * D := by rw [a3, Int.add_mul]
  have m4 : mgV f (p + 1) * D = mgV f p * D + stV f p * D := by rw [a4, Int.add_mul]
  have m5 := Int.mul_le_mul_of_nonneg_right a5 (show 0 ≤ D by omega)
  have m6 := Int.mul_le_mul_of_nonneg_right a6 (show 0 ≤ D by omega)
  by_cases hY : mgV f p * D ≤ Y
  · refine ⟨p, ⟨by omega, pg, hY, Or.inr (by omega)⟩, ?_⟩
    unfold rndP
    by_cases z : Y - mgV f p * D = 0
    · rw [if_pos z]
    · rw [if_neg z]
      have : upR (Y - mgV f p * D) (stV f p * D) p 0 false = false := by
        unfold upR
        rw [if_pos rfl]
        exact decide_eq_false (by omega)
      rw [this, if_neg (by decide)]
  · refine ⟨p - 1, ⟨by omega, by omega, by omega, Or.inr (by rw [show p - 1 + 1 = p by omega]; omega)⟩, ?_⟩
    unfold rndP
    rw [if_neg (by omega)]
    have : upR (Y - mgV f (p - 1) * D) (stV f (p - 1) * D) (p - 1) 0 false = true := by
      unfold upR
      rw [if_pos rfl]
      exact decide_eq_true (Or.inl (by omega))
    rw [this, if_pos rfl]
    omega

/-- What is rounded to a single lies near. -/
theorem single_near {R : Nat} (h : 16777216 ≤ R) (hR : R < 2 ^ 191) : fw Ieee.single R < Ieee.single.infRung ∧ ∃ d : Nat, 2 ^ d * 8388608 ≤ R ∧ vR 23 (fw Ieee.single R) ≤ R + 2 ^ d ∧ R ≤ vR 23 (fw Ieee.single R) + 2 ^ d := by
  have h0 : R ≠ 0 := by omega
  have l0 : 2 ^ R.log2 ≤ R := Nat.log2_self_le h0
  have l1 : R < 2 ^ (R.log2 + 1) := Nat.lt_log2_self
  have hs : 24 ≤ R.log2 := (Nat.le_log2 h0).2 (by omega)
  have hL : R.log2 < 191 := (Nat.log2_lt h0).2 hR
  have hi : Ieee.single.infRung = 255 * 2 ^ 23 := by decide
  have hb : Ieee.single.binade = 2 ^ 23 := rfl
  have hF : Ieee.single.fractionBits = 23 := rfl
  obtain ⟨d, hd⟩ : ∃ d, R.log2 - 23 = d := ⟨_, rfl⟩
  have c0 : 2 ^ 23 ≤ Ieee.Toward.even.cut false R d := cut_ge _ _ _ (by rw [← Nat.pow_add, show 23 + d = R.log2 by omega]; exact l0) (by omega)
  have c1 : Ieee.Toward.even.cut false R d ≤ 2 ^ 24 := cut_le _ _ _ (by rw [← Nat.pow_add, show 24 + d = R.log2 + 1 by omega]; exact l1) (by omega)
  have hp := Nat.two_pow_pos d
  have k0 : R / 2 ^ d ≤ Ieee.Toward.even.cut false R d := cut_ge _ _ _ (Nat.div_mul_le_self _ _) (by omega)
  have k1 : Ieee.Toward.even.cut false R d ≤ R / 2 ^ d + 1 := cut_le _ _ _ (by
    have := Nat.lt_mul_div_succ R hp
    rw [Nat.mul_comm] at this
    exact this) (by omega)
  have e : fw Ieee.single R = d * 2 ^ 23 + Ieee.Toward.even.cut false R d := by
    unfold fw Ieee.Format.nearest
    rw [if_neg h0]
    have hlast : max (Ieee.single.leastPlace + (R.log2 : Int) - Ieee.single.fractionBits) Ieee.single.leastPlace = Ieee.single.leastPlace + (d : Int) := by
      rw [hF]; omega
    simp only [hlast]
    rw [show (Ieee.single.leastPlace - (Ieee.single.leastPlace + (d : Int))).toNat = 0 by omega, show (Ieee.single.leastPlace + (d : Int) - Ieee.single.leastPlace).toNat = d by omega, Nat.shiftLeft_zero, hb, hi]
    unfold Ieee.Format.word
    rw [if_neg (by decide)]
    apply Nat.min_eq_left
    have : (d + 2) * 2 ^ 23 ≤ 255 * 2 ^ 23 := Nat.mul_le_mul_right _ (by omega)
    rw [Nat.add_mul] at this
    omega
  generalize Ieee.Toward.even.cut false R d = c at *
  have hv : vR 23 (d * 2 ^ 23 + c) = c * 2 ^ d := by
    by_cases hc : c < 2 ^ 24
    · exact vR_high 23 d c c0 hc
    · obtain rfl : c = 2 ^ 24 := by omega
      have := vR_high 23 (d + 1) (2 ^ 23) (Nat.le_refl _) (by decide)
      have e3 : 2 ^ (d + 1) = 2 * 2 ^ d := by rw [Nat.pow_succ, Nat.mul_comm]
      rw [show d * 2 ^ 23 + 2 ^ 24 = (d + 1) * 2 ^ 23 + 2 ^ 23 by omega, this, e3]
      omega
  refine ⟨?_, d, ?_, ?_, ?_⟩
  · rw [e, hi]
    have : (d + 3) * 2 ^ 23 ≤ 255 * 2 ^ 23 := Nat.mul_le_mul_right _ (by omega)
    rw [Nat.add_mul] at this
    omega
  · have : 2 ^ R.log2 = 2 ^ d * 8388608 := by rw [show R.log2 = d + 23 by omega, Nat.pow_add]
    omega
  · rw [e, hv]
    have a1 := Nat.mul_le_mul_right (2 ^ d) k1
    have a2 := Nat.div_mul_le_self R (2 ^ d)
    rw [Nat.add_mul] at a1
    omega
  · rw [e, hv]
    have a1 := Nat.mul_le_mul_right (2 ^ d) k0
    have a2 := Nat.div_add_mod R (2 ^ d)
    have a3 := Nat.mod_lt R hp
    rw [Nat.mul_comm] at a2
    omega

/-- A value has few places. -/
theorem mg_few {e f p : Int} (hg : goodB e f = true) (p0 : 0 ≤ p) (p1 : p ≤ grV e f) : ∃ M s : Nat, mgV f p = ((M * 2 ^ s : Nat) : Int) ∧ M < 2048 ∧ s ≤ 29 := by
  obtain ⟨h1, h2, h3, h4⟩ := good_iff.1 hg
  obtain ⟨⟨a1, a2⟩, ⟨b1, b2⟩, ⟨c1, c2⟩, hmul⟩ := pw_facts h1 h2 h3 h4
  have x0 : 0 ≤ p / pw f := Int.ediv_nonneg p0 (by omega)
  have r0 := Int.emod_nonneg p (show pw f ≠ 0 by omega)
  have r1 := Int.emod_lt_of_pos p (show 0 < pw f by omega)
  have hx : p / pw f < pw e - 1 := Int.ediv_lt_of_lt_mul (by omega) (by unfold grV at p1; omega)
  by_cases hn : 0 < p / pw f
  · refine ⟨(p % pw f + pw f).toNat, (p / pw f - 1).toNat, ?_, by omega, by omega⟩
    unfold mgV
    rw [if_pos hn, Int.natCast_mul, pw_cast, Int.toNat_of_nonneg (by omega), Int.toNat_of_nonneg (by omega)]
  · refine ⟨(p % pw f).toNat, 0, ?_, by omega, by omega⟩
    unfold mgV
    rw [if_neg hn]
    simp
    omega

/-- Two numbers with few places: their sum and their difference have few places, or one is much greater. -/
theorem two_few {MA MB i j A B : Nat} (hA : A = MA * 2 ^ i) (hB : B = MB * 2 ^ j) (a1 : MA < 2048) (b1 : MB < 2048) (hi : i ≤ 30) (hj : j ≤ 30) (h : B ≤ A) :
    (∃ c k, A + B = c * 2 ^ k ∧ c < 16777216 ∧ k ≤ 30) ∧ (∃ c k, A - B = c * 2 ^ k ∧ c < 16777216 ∧ k ≤ 30) ∨ 8192 * B < A := by
  subst hA hB
  rcases Nat.lt_or_ge i j with g | g
  · left
    have e : 2 ^ j = 2 ^ (j - i) * 2 ^ i := by rw [← Nat.pow_add]; congr 1; omega
    rw [e, ← Nat.mul_assoc] at h ⊢
    have := Nat.le_of_mul_le_mul_right h (Nat.two_pow_pos i)
    exact ⟨⟨MA + MB * 2 ^ (j - i), i, by rw [Nat.add_mul], by omega, hi⟩, ⟨MA - MB * 2 ^ (j - i), i, by rw [Nat.sub_mul], by omega, hi⟩⟩
  · have e : 2 ^ i = 2 ^ (i - j) * 2 ^ j := by rw [← Nat.pow_add]; congr 1; omega
    rw [e, ← Nat.mul_assoc] at h ⊢
    have hp := Nat.two_pow_pos j
    generalize MA * 2 ^ (i - j) = X at *
    by_cases hc : X + MB < 16777216
    · left
      exact ⟨⟨X + MB, j, by rw [Nat.add_mul], hc, hj⟩, ⟨X - MB, j, by rw [Nat.sub_mul], by omega, hj⟩⟩
    · right
      rw [← Nat.mul_assoc]
      exact Nat.mul_lt_mul_of_pos_right (by omega) hp

/-- The single nearest to the sum or the difference of two values. -/
theorem sum_single {e f p q : Int} {A B X : Nat} (hg : goodB e f = true) (p0 : 0 ≤ p) (p1 : p ≤ grV e f) (q0 : 0 ≤ q) (q1 : q ≤ grV e f) (hA : mgV f p = A) (hB : mgV f q = B) (h : B ≤ A) (hX : X = A + B ∨ X = A - B) :
    ∃ V : Nat, Ok Ieee.single V ∧ V < 2 ^ 191 ∧ fw Ieee.single V = fw Ieee.single (X * 2 ^ 149) ∧ (V = X * 2 ^ 149 ∨ 8192 * B < A) ∧ (V = 0 ↔ X = 0) ∧ ∀ s, IsRnd f (grV e f) V (pw 149) 0 false s → IsRnd f (grV e f) X 1 0 false s := by
  obtain ⟨_, _, f1, f2⟩ := good_iff.1 hg
  obtain ⟨MA, i, hA2, a1, ai⟩ := mg_few hg p0 p1
  obtain ⟨MB, j, hB2, b1, bj⟩ := mg_few hg q0 q1
  have eA : A = MA * 2 ^ i := by omega
  have eB : B = MB * 2 ^ j := by omega
  have p149 : pw 149 = ((2 ^ 149 : Nat) : Int) := (pw_cast 149).symm
  have key : (∃ c k, X = c * 2 ^ k ∧ c < 16777216 ∧ k ≤ 30) ∨ 8192 * B < A := by
    rcases two_few eA eB a1 b1 (by omega) (by omega) h with ⟨k1, k2⟩ | k
    · left
      rcases hX with rfl | rfl
      · exact k1
      · exact k2
    · exact Or.inr k
  have up : ∀ s, IsRnd f (grV e f) (((X * 2 ^ 149 : Nat) : Int)) (pw 149) 0 false s → IsRnd f (grV e f) X 1 0 false s := by
    intro s hs
    refine rnd_move (fun T _ => ?_) hs
    rw [Int.natCast_mul, ← p149]
    have := sg_up (X := (X : Int)) (D := 1) (T := T) (m := pw 149) (by have := pw_pos 149; omega)
    rw [Int.one_mul] at this
    exact this
  have hP := Nat.two_pow_pos 149
  have hAlt : A < 2 ^ 40 := by rw [eA]; exact few_lt (a := 11) (by omega) (by omega)
  have x1 : X ≤ 2 * A := by rcases hX with rfl | rfl <;> omega
  have hlt : X * 2 ^ 149 < 2 ^ 190 := by
    rw [show (190 : Nat) = 41 + 149 from rfl, Nat.pow_add]
    exact Nat.mul_lt_mul_of_pos_right (by omega) (Nat.two_pow_pos 149)
  rcases key with ⟨c, k, hc, c1, k1⟩ | k
  · have e1 : X * 2 ^ 149 = c * 2 ^ (k + 149) := by rw [hc, Nat.mul_assoc, ← Nat.pow_add]
    refine ⟨X * 2 ^ 149, by rw [e1]; exact ok32 (by omega) (by omega), ?_, rfl, Or.inl rfl, ?_, up⟩
    · exact Nat.lt_trans hlt (Nat.pow_lt_pow_right (by decide) (by decide))
    · constructor
      · intro z
        rcases Nat.eq_zero_or_pos X with g | g
        · exact g
        · have := Nat.mul_pos g hP; omega
      · intro z; rw [z, Nat.zero_mul]
  · have A0 : 1 ≤ A := by omega
    obtain ⟨P, hPe⟩ : ∃ P : Nat, P = 2 ^ 149 := ⟨_, rfl⟩
    rw [← hPe] at hP p149 up ⊢
    have P24 : 16777216 * 2 ≤ P := by rw [hPe]; decide
    have x0 : A ≤ 2 * X := by rcases hX with rfl | rfl <;> omega
    have hR0 : 16777216 ≤ X * P := by
      have := Nat.mul_le_mul (show 1 ≤ X by omega) P24
      omega
    have hR2 : X * P < 2 ^ 190 := by rw [hPe]; exact hlt
    have hR1 : X * P < 2 ^ 191 := Nat.lt_trans hR2 (by decide)
    obtain ⟨w0, d, d1, d2, d3⟩ := single_near hR0 hR1
    obtain ⟨o1, o2⟩ := word_self w0
    have pp : 1 ≤ p := by
      rcases Int.lt_or_le p 1 with z | z
      · exfalso
        obtain rfl : p = 0 := by omega
        have : mgV f 0 = 0 := by
          have x0 := pw_pos f
          unfold mgV
          rw [if_neg (by simp)]; simp
        omega
      · exact z
    generalize hV : vR 23 (fw Ieee.single (X * P)) = V at *
    have AP : mgV f p * pw 149 = ((A * P : Nat) : Int) := by rw [hA, p149, Int.natCast_mul]
    have BP : 8192 * (B * P) + 1 ≤ A * P := by
      have := Nat.mul_le_mul_right P (show 8192 * B + 1 ≤ A from k)
      rw [Nat.add_mul, Nat.mul_assoc] at this
      omega
    have XP : X * P = A * P + B * P ∨ X * P = A * P - B * P := by
      rcases hX with rfl | rfl
      · left; rw [Nat.add_mul]
      · right; rw [Nat.sub_mul]
    have X1 : IsRnd f (grV e f) X 1 0 false p := by
      refine rn_self f1 f2 (by decide) pp p1 ?_ ?_ <;> rw [hA] <;> omega
    have V1 : IsRnd f (grV e f) V (pw 149) 0 false p := by
      refine rn_self f1 f2 (by omega) pp p1 ?_ ?_ <;> rw [AP] <;> omega
    refine ⟨V, o1, ?_, o2, Or.inr k, ⟨fun z => by omega, fun z => by omega⟩, ?_⟩
    · have : (2 : Nat) ^ 191 = 2 * 2 ^ 190 := by rw [Nat.pow_succ, Nat.mul_comm]
      omega
    · intro s hs
      rw [rnd_one f1 (by omega) hs V1]
      exact X1
end Go.Proofs.Ytcbkhlaiefiieac

namespace Go.Proofs.Ytcbkhlaiefiieac
open Go

/-- The word of a size and a sign. -/
def sw (f : Ieee.Format) (s : Bool) (v : Nat) : Nat := f.word s (fw f v)

/-- A size with its sign. -/
def sv (s : Bool) (v : Nat) : Int := if s = true then -(v : Int) else v

theorem sw_def (f : Ieee.Format) (s : Bool) (v : Nat) : f.word s (fw f v) = sw f s v := rfl

theorem sw_pos (f : Ieee.Format) (v : Nat) : sw f false v = fw f v := rfl

theorem read_word {f : Ieee.Format} {b : Nat} (s : Bool) (h : b < f.infRung) {m : Nat} {p : Int} (hr : f.read b = .number false m p) : f.read (f.word s b) = .number s m p := by
  cases s
  · exact hr
  · have hs : b < f.signWeight := Nat.lt_trans h f.infRung_lt
    have hw : 0 < f.signWeight := by omega
    show f.read (f.signWeight + b) = _
    unfold Ieee.Format.read at hr ⊢
    have e1 : (f.signWeight + b) / f.signWeight % 2 = 1 := by
      rw [Nat.add_div_left _ hw, Nat.div_eq_of_lt hs]
    have e2 : (f.signWeight + b) % f.signWeight = b := by
      rw [Nat.add_mod_left, Nat.mod_eq_of_lt hs]
    have e3 : b / f.signWeight % 2 = 0 := by rw [Nat.div_eq_of_lt hs]
    have e4 : b % f.signWeight = b := Nat.mod_eq_of_lt hs
    simp only [e1, e2]
    simp only [e3, e4] at hr
    by_cases hb : b < f.binade
    · rw [if_pos hb] at hr ⊢
      cases hr; rfl
    · rw [if_neg hb, if_pos h] at hr ⊢
      cases hr; rfl

theorem read_sw {f : Ieee.Format} {v : Nat} (s : Bool) (h : Ok f v) : ∃ m k : Nat, f.read (sw f s v) = .number s m (f.leastPlace + k) ∧ m * 2 ^ k = v := by
  obtain ⟨m, k, h1, h2⟩ := read_fw h
  exact ⟨m, k, read_word s (fw_fin h) h1, h2⟩

theorem near_word (f : Ieee.Format) (s : Bool) (m : Nat) (p : Int) : f.nearest s m p = f.word s (f.nearest false m p) := by
  cases s
  · unfold Ieee.Format.nearest
    split
    · rfl
    · rfl
  · unfold Ieee.Format.nearest
    split
    · rfl
    · rfl

theorem sign_part (s : Bool) (m k q : Nat) (h : q ≤ k) : Ieee.signed s m (k - q) * ((2 ^ q : Nat) : Int) = sv s (m * 2 ^ k) := by
  have e := up_part m k q h
  unfold Ieee.signed sv
  cases s
  · rw [if_neg (by decide), if_neg (by decide), ← e, Int.natCast_mul]
  · rw [if_pos rfl, if_pos rfl, ← e, Int.natCast_mul, Int.neg_mul]

theorem sum_sw {f : Ieee.Format} {a b : Nat} {s t : Bool} (ha : Ok f a) (hb : Ok f b) : ((f.read (sw f s a)).sum (f.read (sw f t b))).map f.write = some (sw f (if sv s a + sv t b = 0 then s && t else decide (sv s a + sv t b < 0)) (sv s a + sv t b).natAbs) := by
  obtain ⟨m, k, h1, h2⟩ := read_sw s ha
  obtain ⟨n, l, h3, h4⟩ := read_sw t hb
  rw [h1, h3]
  simp only [Ieee.Datum.sum, place_min]
  have d1 : (f.leastPlace + (k : Int) - (f.leastPlace + ((min k l : Nat) : Int))).toNat = k - min k l := by omega
  have d2 : (f.leastPlace + (l : Int) - (f.leastPlace + ((min k l : Nat) : Int))).toNat = l - min k l := by omega
  rw [d1, d2]
  have e1 := sign_part s m k (min k l) (by omega)
  have e2 := sign_part t n l (min k l) (by omega)
  rw [h2] at e1
  rw [h4] at e2
  generalize Ieee.signed s m (k - min k l) = x at *
  generalize Ieee.signed t n (l - min k l) = y at *
  have hp := Nat.two_pow_pos (min k l)
  have e3 : sv s a + sv t b = (x + y) * ((2 ^ min k l : Nat) : Int) := by rw [Int.add_mul, e1, e2]
  rw [e3]
  generalize hz : x + y = z
  have c1 : (if z * ((2 ^ min k l : Nat) : Int) = 0 then s && t else decide (z * ((2 ^ min k l : Nat) : Int) < 0)) = (if z = 0 then s && t else decide (z < 0)) := by
    by_cases g : z = 0
    · rw [if_pos g, if_pos (by rw [g, Int.zero_mul])]
    · have g2 : ¬ z * ((2 ^ min k l : Nat) : Int) = 0 := fun h => (Int.mul_eq_zero.1 h).elim g (by omega)
      rw [if_neg g, if_neg g2]
      rw [decide_eq_decide]
      constructor
      · intro h
        apply Int.lt_of_not_ge
        intro h3
        have := Int.mul_nonneg h3 (show (0 : Int) ≤ ((2 ^ min k l : Nat) : Int) by omega)
        omega
      · intro h; exact Int.mul_neg_of_neg_of_pos h (by omega)
  rw [c1]
  simp only [Option.map_some, Option.some.injEq]
  show f.nearest _ z.natAbs _ = _
  rw [near_word]
  unfold sw
  congr 1
  have := near_fw f z.natAbs (min k l) 0 (z * ((2 ^ min k l : Nat) : Int)).natAbs (by rw [Int.natAbs_mul, Int.natAbs_natCast]; simp)
  rw [← this]
  congr 1
  simp

theorem add_sw {f : Ieee.Format} {a b : Nat} {s t : Bool} (ha : Ok f a) (hb : Ok f b) : f.add (sw f s a) (sw f t b) = some (sw f (if sv s a + sv t b = 0 then s && t else decide (sv s a + sv t b < 0)) (sv s a + sv t b).natAbs) := sum_sw ha hb

theorem sub_sw {f : Ieee.Format} {a b : Nat} {s t : Bool} (ha : Ok f a) (hb : Ok f b) : f.sub (sw f s a) (sw f t b) = some (sw f (if sv s a + sv (!t) b = 0 then s && !t else decide (sv s a + sv (!t) b < 0)) (sv s a + sv (!t) b).natAbs) := by
  rw [← sum_sw ha hb]
  unfold Ieee.Format.sub
  obtain ⟨m, k, h1, h2⟩ := read_fw hb
  have r1 := read_word t (fw_fin hb) h1
  have r2 := read_word (!t) (fw_fin hb) h1
  show Option.map _ (Ieee.Datum.sum _ (f.read (f.word t (fw f b))).opposite) = Option.map _ (Ieee.Datum.sum _ (f.read (f.word (!t) (fw f b))))
  rw [r1, r2]
  rfl

theorem order_sw {f : Ieee.Format} {a b : Nat} {s t : Bool} (ha : Ok f a) (hb : Ok f b) : f.order (sw f s a) (sw f t b) = some (compare (sv s a) (sv t b)) := by
  obtain ⟨m, k, h1, h2⟩ := read_sw s ha
  obtain ⟨n, l, h3, h4⟩ := read_sw t hb
  unfold Ieee.Format.order
  rw [h1, h3]
  simp only [Ieee.Datum.order, place_min]
  have d1 : (f.leastPlace + (k : Int) - (f.leastPlace + ((min k l : Nat) : Int))).toNat = k - min k l := by omega
  have d2 : (f.leastPlace + (l : Int) - (f.leastPlace + ((min k l : Nat) : Int))).toNat = l - min k l := by omega
  rw [d1, d2]
  have e1 := sign_part s m k (min k l) (by omega)
  have e2 := sign_part t n l (min k l) (by omega)
  rw [h2] at e1
  rw [h4] at e2
  have hp := Nat.two_pow_pos (min k l)
  generalize Ieee.signed s m (k - min k l) = x at *
  generalize Ieee.signed t n (l - min k l) = y at *
  congr 1
  rw [← e1, ← e2]
  have hp2 : (0 : Int) < ((2 ^ min k l : Nat) : Int) := by omega
  generalize ((2 ^ min k l : Nat) : Int) = p at *
  rcases Int.lt_trichotomy x y with h | h | h
  · rw [Int.compare_eq_lt.2 h, Int.compare_eq_lt.2 (Int.mul_lt_mul_of_pos_right h hp2)]
  · subst h
    rw [Int.compare_eq_eq.2 rfl, Int.compare_eq_eq.2 rfl]
  · rw [Int.compare_eq_gt.2 h, Int.compare_eq_gt.2 (Int.mul_lt_mul_of_pos_right h hp2)]

theorem cut_zero_s (s : Bool) (n d : Nat) : Ieee.Toward.zero.cut s n d = n / 2 ^ d := by
  have := cut_zero n d
  unfold Ieee.Toward.cut at *
  exact this

theorem whole_sw {f : Ieee.Format} {v : Nat} (B : Nat) (s : Bool) (hB : f.leastPlace = -(B : Int)) (h : Ok f (v * 2 ^ B)) : ∃ i : Int, 0 ≤ i ∧ (f.read (sw f s (v * 2 ^ B))).integral .zero = .number s v 0 := by
  obtain ⟨m, k, h1, h2⟩ := read_sw s h
  refine ⟨0, by decide, ?_⟩
  rw [h1]
  simp only [Ieee.Datum.integral]
  congr 1
  rw [cut_zero_s, Nat.shiftLeft_eq, hB]
  by_cases g : B ≤ k
  · rw [show (-(B : Int) + (k : Int)).toNat = k - B by omega, show (-(-(B : Int) + (k : Int))).toNat = 0 by omega, Nat.pow_zero, Nat.div_one]
    have e : m * 2 ^ k = m * 2 ^ (k - B) * 2 ^ B := by rw [Nat.mul_assoc, ← Nat.pow_add, show k - B + B = k by omega]
    rw [e] at h2
    exact Nat.eq_of_mul_eq_mul_right (Nat.two_pow_pos B) h2
  · rw [show (-(B : Int) + (k : Int)).toNat = 0 by omega, show (-(-(B : Int) + (k : Int))).toNat = B - k by omega, Nat.pow_zero, Nat.mul_one]
    have e : v * 2 ^ B = v * 2 ^ (B - k) * 2 ^ k := by rw [Nat.mul_assoc, ← Nat.pow_add, show B - k + k = B by omega]
    rw [e] at h2
    have h3 := Nat.eq_of_mul_eq_mul_right (Nat.two_pow_pos k) h2
    rw [h3, Nat.mul_div_cancel _ (Nat.two_pow_pos _)]

/-- Cut towards 0, a whole number is itself. -/
theorem int_sw {v : Nat} (s : Bool) (h : Ok Ieee.single (v * 2 ^ 149)) (hv : v < 9223372036854775808) : floatToIntVal .f32 (sw Ieee.single s (v * 2 ^ 149)) .i64 = some (sv s v) := by
  obtain ⟨B, hB⟩ : ∃ B : Nat, B = 149 := ⟨_, rfl⟩
  rw [← hB] at h ⊢
  obtain ⟨_, _, h2⟩ := whole_sw (f := Ieee.single) B s (by rw [hB]; decide) h
  unfold floatToIntVal
  have h3 : (FloatKind.f32.decode (sw Ieee.single s (v * 2 ^ B))).toInt .zero = some (sv s v) := by
    show ((Ieee.single.read (sw Ieee.single s (v * 2 ^ B))).toInt .zero) = _
    unfold Ieee.Datum.toInt
    rw [h2]
    simp only [Option.some.injEq, Ieee.signed, Nat.shiftLeft_zero]
    rfl
  rw [h3]
  simp only
  rw [if_pos]
  unfold sv
  constructor
  · show (-9223372036854775808 : Int) ≤ _; split <;> omega
  · show _ ≤ (9223372036854775807 : Int); split <;> omega

/-- The same number in least units of a double. -/
def up64 (v : Nat) : Nat := v * 2 ^ 925

/-- Of single to double. -/
theorem wide_sw {v : Nat} (s : Bool) (h : Ok Ieee.single v) : floatToFloatBits .f32 (sw Ieee.single s v) .f64 = some (sw Ieee.double s (up64 v)) ∧ Ok Ieee.double (up64 v) := by
  unfold up64
  obtain ⟨D, hD⟩ : ∃ D : Nat, D = 925 := ⟨_, rfl⟩
  rw [← hD]
  have ok : Ok Ieee.double (v * 2 ^ D) := by
    obtain ⟨⟨c, j, e, hc⟩, h2, _⟩ := h
    have hF : Ieee.single.fractionBits = 23 := rfl
    rw [hF] at hc
    have hB : Ieee.single.fractionBits + (2 ^ Ieee.single.exponentBits - 2) = 277 := by decide
    obtain ⟨q, hq⟩ : ∃ q : Nat, q = 277 := ⟨_, rfl⟩
    rw [hB, ← hq] at h2
    by_cases hz : c = 0
    · rw [e, hz, Nat.zero_mul, Nat.zero_mul]
      have := ok64 (c := 0) (j := 0) (by decide) (by decide)
      rwa [Nat.zero_mul] at this
    · have hj : j < q := by
        have : 2 ^ j < 2 ^ q := by
          have : 1 * 2 ^ j ≤ c * 2 ^ j := Nat.mul_le_mul_right _ (by omega)
          rw [Nat.one_mul, ← e] at this
          exact Nat.lt_of_le_of_lt this h2
        exact (Nat.pow_lt_pow_iff_right (by decide : 1 < 2)).1 this
      rw [e, Nat.mul_assoc, ← Nat.pow_add]
      exact ok64 (by omega) (by omega)
  refine ⟨?_, ok⟩
  obtain ⟨m, k, h1, h2⟩ := read_sw s h
  unfold floatToFloatBits
  rw [if_neg (by decide)]
  have h3 : FloatKind.f32.decode (sw Ieee.single s v) = .number s m (Ieee.single.leastPlace + k) := h1
  rw [h3]
  have h4 : FloatKind.f64.encode (.number s m (Ieee.single.leastPlace + k)) = sw Ieee.double s (v * 2 ^ D) := by
    show Ieee.double.nearest s m (Ieee.single.leastPlace + k) = _
    rw [near_word]
    unfold sw
    congr 1
    have := near_fw Ieee.double m (D + k) 0 (v * 2 ^ D) (by rw [Nat.add_comm, Nat.pow_add, ← Nat.mul_assoc, h2]; simp)
    rw [← this]
    congr 1
    have e1 : Ieee.single.leastPlace = Ieee.double.leastPlace + 925 := by decide
    rw [e1, hD]
    omega
  simp only [h4]
  have h5 : (FloatKind.f64.decode (sw Ieee.double s (v * 2 ^ D))).isInfinity = false := by
    obtain ⟨m2, k2, h6, _⟩ := read_sw s ok
    show (Ieee.double.read (sw Ieee.double s (v * 2 ^ D))).isInfinity = false
    rw [h6]
    rfl
  rw [h5]
  rfl

/-- Of double to single. -/
theorem slim_sw {v : Nat} (s : Bool) (h : Ok Ieee.single v) : floatToFloatBits .f64 (sw Ieee.double s (up64 v)) .f32 = some (sw Ieee.single s v) := by
  obtain ⟨_, ok⟩ := wide_sw s h
  unfold up64 at *
  obtain ⟨D, hD⟩ : ∃ D : Nat, D = 925 := ⟨_, rfl⟩
  rw [← hD] at ok ⊢
  obtain ⟨m, k, h1, h2⟩ := read_sw s ok
  unfold floatToFloatBits
  rw [if_neg (by decide)]
  have h3 : FloatKind.f64.decode (sw Ieee.double s (v * 2 ^ D)) = .number s m (Ieee.double.leastPlace + k) := h1
  rw [h3]
  have h4 : FloatKind.f32.encode (.number s m (Ieee.double.leastPlace + k)) = sw Ieee.single s v := by
    show Ieee.single.nearest s m (Ieee.double.leastPlace + k) = _
    rw [near_word]
    unfold sw
    congr 1
    have := near_fw Ieee.single m k D v h2
    rw [← this]
    congr 1
    have e1 : Ieee.single.leastPlace = Ieee.double.leastPlace + 925 := by decide
    rw [e1, hD]
    omega
  simp only [h4]
  have h5 : (FloatKind.f32.decode (sw Ieee.single s v)).isInfinity = false := by
    obtain ⟨m2, k2, h6, _⟩ := read_sw s h
    show (Ieee.single.read (sw Ieee.single s v)).isInfinity = false
    rw [h6]
    rfl
  rw [h5]
  rfl

/-- A whole number is left as it is by what cuts off the places behind the point. -/
theorem trunc_sw {v : Nat} (s : Bool) (h : Ok Ieee.double (v * 2 ^ 1074)) : FloatKind.f64.encode ((FloatKind.f64.decode (sw Ieee.double s (v * 2 ^ 1074))).integral .zero) = sw Ieee.double s (v * 2 ^ 1074) := by
  obtain ⟨B, hB⟩ : ∃ B : Nat, B = 1074 := ⟨_, rfl⟩
  rw [← hB] at h ⊢
  obtain ⟨_, _, h2⟩ := whole_sw (f := Ieee.double) B s (by rw [hB]; decide) h
  have h3 : (FloatKind.f64.decode (sw Ieee.double s (v * 2 ^ B))).integral .zero = .number s v 0 := h2
  rw [h3]
  show Ieee.double.nearest s v 0 = _
  rw [near_word]
  unfold sw
  congr 1
  have := near_fw Ieee.double v B 0 (v * 2 ^ B) (by simp)
  rw [← this]
  congr 1
  have e1 : Ieee.double.leastPlace = -1074 := by decide
  rw [e1, hB]
  decide

theorem sw_lt {f : Ieee.Format} {v : Nat} (h : Ok f v) : fw f v < f.signWeight := Nat.lt_trans (fw_fin h) f.infRung_lt

/-- A word with the other sign. -/
theorem neg_word (s : Bool) (b : Nat) (h : b < 2147483648) : Op.negFloat .f32 (Ieee.single.word s b) = Ieee.single.word (!s) b := by
  have e : Ieee.single.signWeight = 2 ^ 31 := by decide
  have x := nat_xor_pow b 31 (by omega)
  unfold Op.negFloat
  show Ieee.single.word s b ^^^ 2 ^ 31 = _
  cases s
  · show b ^^^ 2 ^ 31 = Ieee.single.signWeight + b
    rw [x, e, Nat.add_comm]
  · show (Ieee.single.signWeight + b) ^^^ 2 ^ 31 = b
    rw [e, Nat.add_comm, ← x, Nat.xor_assoc, Nat.xor_self, Nat.xor_zero]

theorem neg_sw {v : Nat} (s : Bool) (h : Ok Ieee.single v) : Op.negFloat .f32 (sw Ieee.single s v) = sw Ieee.single (!s) v := by
  have := sw_lt h
  have e : Ieee.single.signWeight = 2147483648 := by decide
  exact neg_word s _ (by omega)

/-- The size is the greater one of both signs. -/
theorem max_sw {P : Program} {v : Nat} (s : Bool) (h : Ok Ieee.single v) (ts : Array TypeId) (t : TypeId) (w : World) :
    (Builtin.max_ ts t #[.float .f32 (sw Ieee.single s v), .float .f32 (sw Ieee.single (!s) v)]).run P w = .ok (.float .f32 (fw Ieee.single v)) w := by
  have o := order_sw (s := s) (t := !s) h h
  have e : Builtin.max_ ts t #[.float .f32 (sw Ieee.single s v), .float .f32 (sw Ieee.single (!s) v)] = Builtin.max2 (.float .f32 (sw Ieee.single s v)) (.float .f32 (sw Ieee.single (!s) v)) := by simp [Builtin.max_]
  rw [e]
  unfold Builtin.max2
  have hf : FloatKind.f32.format = Ieee.single := rfl
  have o2 : FloatKind.f32.format.order (sw Ieee.single s v) (sw Ieee.single (!s) v) = some (compare (sv s v) (sv (!s) v)) := by rw [hf]; exact o
  have P1 : ∀ b : Nat, (pure (Value.float .f32 b) : Sem Value).run P w = .ok (.float .f32 b) w := fun b => rfl
  by_cases hz : v = 0
  · have c0 : compare (sv s v) (sv (!s) v) = .eq := by rw [hz]; cases s <;> decide
    clear hz
    rw [c0] at o2
    simp only [o2]
    obtain ⟨m, k, h1, _⟩ := read_sw s h
    have h2 : FloatKind.f32.decode (sw Ieee.single s v) = .number s m (Ieee.single.leastPlace + k) := h1
    have h3 : (FloatKind.f32.decode (sw Ieee.single s v)).neg = s := by rw [h2]; rfl
    rw [h3]
    clear h1 h2 h3 o o2 c0
    cases s
    · rw [if_neg (by decide), sw_pos]; exact P1 _
    · rw [if_pos rfl, show (!true) = false from rfl, sw_pos]; exact P1 _
  · cases s
    · have c1 : compare (sv false v) (sv (!false) v) = .gt := Int.compare_eq_gt.2 (by unfold sv; simp; omega)
      rw [c1] at o2
      simp only [o2]
      rw [sw_pos]; exact P1 _
    · have c1 : compare (sv true v) (sv (!true) v) = .lt := Int.compare_eq_lt.2 (by unfold sv; simp; omega)
      rw [c1] at o2
      simp only [o2]
      rw [show (!true) = false from rfl, sw_pos]; exact P1 _

/-- The sign of a word, and a size with a sign, in bits. -/
theorem sign_bits (s : Bool) (c : Nat) (h : c < 9223372036854775808) : bits .and .u64 ((Ieee.double.word s c : Nat) : Int) 9223372036854775808 = if s = true then 9223372036854775808 else 0 := by
  have e : Ieee.double.signWeight = 9223372036854775808 := by decide
  have hw : Ieee.double.word s c < 18446744073709551616 := by
    unfold Ieee.Format.word
    rw [e]
    split <;> omega
  have := bits_and_u64_nat (Ieee.double.word s c) 9223372036854775808 hw (by decide)
  rw [show ((9223372036854775808 : Nat) : Int) = 9223372036854775808 from rfl] at this
  rw [this]
  have t : ∀ x : Nat, x < 2 ^ 63 → x &&& 2 ^ 63 = 0 := by
    intro x hx
    apply Nat.eq_of_testBit_eq
    intro i
    rw [Nat.testBit_and, Nat.testBit_two_pow, Nat.zero_testBit]
    by_cases hi : 63 = i
    · subst hi; rw [Nat.testBit_lt_two_pow hx]; rfl
    · rw [decide_eq_false hi, Bool.and_false]
  cases s
  · rw [if_neg (by decide)]
    show ((c &&& 2 ^ 63 : Nat) : Int) = 0
    rw [t c (by omega)]; rfl
  · rw [if_pos rfl]
    show (((Ieee.double.signWeight + c) &&& 2 ^ 63 : Nat) : Int) = _
    have x : Ieee.double.signWeight + c = 2 ^ 63 ||| c := by
      have := Nat.two_pow_add_eq_or_of_lt (show c < 2 ^ 63 by omega) 1
      rw [Nat.mul_one] at this
      rw [e, ← this]
    rw [x, Nat.and_or_distrib_right, Nat.and_self, t c (by omega), Nat.or_zero]
    rfl

theorem put_sign (s : Bool) (b : Nat) (h : b < 9223372036854775808) : bits .or .u64 (b : Int) (if s = true then 9223372036854775808 else 0) = ((Ieee.double.word s b : Nat) : Int) := by
  have e : Ieee.double.signWeight = 9223372036854775808 := by decide
  cases s
  · rw [if_neg (by decide)]
    have := bits_or_u64_nat b 0 (by omega) (by decide)
    rw [show ((0 : Nat) : Int) = 0 from rfl] at this
    rw [this, Nat.or_zero]
    rfl
  · rw [if_pos rfl]
    have := bits_or_u64_nat b 9223372036854775808 (by omega) (by decide)
    rw [show ((9223372036854775808 : Nat) : Int) = 9223372036854775808 from rfl] at this
    rw [this]
    congr 1
    show _ = Ieee.double.signWeight + b
    have x := Nat.two_pow_add_eq_or_of_lt (show b < 2 ^ 63 by omega) 1
    rw [Nat.mul_one] at x
    rw [e, Nat.or_comm, ← x]

/-- Infinite words. -/
theorem wide_inf (s : Bool) : floatToFloatBits .f64 (Ieee.double.word s Ieee.double.infRung) .f32 = some (Ieee.single.word s Ieee.single.infRung) := by
  cases s <;> decide +kernel

theorem order_self {v : Nat} (s : Bool) (h : Ok Ieee.double v) : FloatKind.f64.format.order (sw Ieee.double s v) (sw Ieee.double s v) = some .eq := by
  have := order_sw (s := s) (t := s) h h
  rw [Int.compare_eq_eq.2 rfl] at this
  exact this
end Go.Proofs.Ytcbkhlaiefiieac

namespace Go.Proofs.Ytcbkhlaiefiieac
open Go

/-- The word of a whole number. -/
def cw (u : Int) : Nat := sw Ieee.single (decide (u < 0)) (u.natAbs * 2 ^ 149)

theorem int_cw (u : Int) : floatOfInt .f32 u = cw u := by
  show Ieee.single.nearest (decide (u < 0)) u.natAbs 0 = _
  rw [near_word]
  unfold cw sw
  congr 1
  have := near_fw Ieee.single u.natAbs 149 0 (u.natAbs * 2 ^ 149) (by simp)
  rw [← this]
  congr 1

theorem sv_cw (u : Int) : sv (decide (u < 0)) (u.natAbs * 2 ^ 149) = u * pw 149 := by
  have p149 : pw 149 = ((2 ^ 149 : Nat) : Int) := (pw_cast 149).symm
  rw [p149]
  generalize 2 ^ 149 = P
  unfold sv
  by_cases h : u < 0
  · rw [decide_eq_true h, if_pos rfl, Int.natCast_mul, ← Int.neg_mul]
    congr 1
    omega
  · rw [decide_eq_false h, if_neg (by decide), Int.natCast_mul]
    congr 1
    omega

/-- Sums of whole numbers. -/
theorem add_cw {a b : Int} (ha : Ok Ieee.single (a.natAbs * 2 ^ 149)) (hb : Ok Ieee.single (b.natAbs * 2 ^ 149)) : floatBits .add .f32 (cw a) (cw b) = some (cw (a + b)) := by
  have h := add_sw (s := decide (a < 0)) (t := decide (b < 0)) ha hb
  rw [sv_cw, sv_cw, ← Int.add_mul] at h
  have hp := pw_pos 149
  have p149 : pw 149 = ((2 ^ 149 : Nat) : Int) := (pw_cast 149).symm
  show Ieee.single.add _ _ = _
  unfold cw
  rw [h]
  have e1 : ((a + b) * pw 149).natAbs = (a + b).natAbs * 2 ^ 149 := by
    rw [Int.natAbs_mul, p149, Int.natAbs_natCast]
  rw [e1]
  congr 2
  by_cases z : a + b = 0
  · rw [z, Int.zero_mul, if_pos rfl]
    by_cases g : a < 0
    · rw [decide_eq_true g, decide_eq_false (show ¬ b < 0 by omega)]; rfl
    · rw [decide_eq_false g]; rfl
  · have z2 : (a + b) * pw 149 ≠ 0 := fun h => (Int.mul_eq_zero.1 h).elim z (by omega)
    rw [if_neg z2, decide_eq_decide]
    constructor
    · intro h
      apply Int.lt_of_not_ge
      intro h3
      have := Int.mul_nonneg h3 (show (0 : Int) ≤ pw 149 by omega)
      omega
    · intro h; exact Int.mul_neg_of_neg_of_pos h (by omega)

theorem zero_cw : cw 0 = 0 := by
  unfold cw
  rw [show decide ((0 : Int) < 0) = false from rfl, sw_pos, show (0 : Int).natAbs = 0 from rfl, Nat.zero_mul]
  exact near_zero _ _

theorem ok_zero : Ok Ieee.single ((0 : Int).natAbs * 2 ^ 149) := by
  rw [show (0 : Int).natAbs = 0 from rfl, Nat.zero_mul]
  have := ok32 (c := 0) (j := 0) (by decide) (by decide)
  rwa [Nat.zero_mul] at this

/-- 0 and a whole number. -/
theorem add_zero_cw {a : Int} (ha : Ok Ieee.single (a.natAbs * 2 ^ 149)) : floatBits .add .f32 0 (cw a) = some (cw a) := by
  have := add_cw ok_zero ha
  rwa [zero_cw, Int.zero_add] at this

/-- The same sum by a number that the single holds. -/
theorem cw_same {u : Int} {V : Nat} (h : fw Ieee.single V = fw Ieee.single (u.natAbs * 2 ^ 149)) : cw u = sw Ieee.single (decide (u < 0)) V := by
  unfold cw sw
  rw [h]

theorem ok_abs {f p u : Int} (h : Ok Ieee.single (mgN f p)) (hu : (u.natAbs : Int) = mgV f p) : Ok Ieee.single (u.natAbs * 2 ^ 149) := by
  unfold mgN at h
  rwa [← hu, Int.toNat_natCast] at h

/-- A value's word. -/
theorem cw_mg {f p u : Int} (hu : (u.natAbs : Int) = mgV f p) : cw u = sw Ieee.single (decide (u < 0)) (mgN f p) := by
  unfold cw mgN
  rw [← hu, Int.toNat_natCast]

theorem trunc_up {v : Nat} (s : Bool) (h : Ok Ieee.single (v * 2 ^ 149)) : FloatKind.f64.encode ((FloatKind.f64.decode (sw Ieee.double s (up64 (v * 2 ^ 149)))).integral .zero) = sw Ieee.double s (up64 (v * 2 ^ 149)) := by
  obtain ⟨_, ok⟩ := wide_sw s h
  have e : up64 (v * 2 ^ 149) = v * 2 ^ 1074 := by
    unfold up64
    obtain ⟨D, hD⟩ : ∃ D : Nat, D = 925 := ⟨_, rfl⟩
    obtain ⟨B, hB⟩ : ∃ B : Nat, B = 1074 := ⟨_, rfl⟩
    rw [← hD, ← hB, Nat.mul_assoc, ← Nat.pow_add, show 149 + D = B by omega]
  rw [e] at ok ⊢
  exact trunc_sw s ok

theorem up_numb {v : Nat} (s : Bool) (h : Ok Ieee.double v) : ∃ m i, FloatKind.f64.decode (sw Ieee.double s v) = .number s m i := by
  obtain ⟨m, k, h1, _⟩ := read_sw s h
  exact ⟨m, _, h1⟩

/-- A size below the limit. -/
theorem up_lt {v : Nat} (h : Ok Ieee.single v) (hv : v < 2 ^ 190) : FloatKind.f64.format.order (fw Ieee.double (up64 v)) 4791830003522207744 = some .lt := by
  obtain ⟨_, ok⟩ := wide_sw false h
  have w := pow64 41 (by decide)
  obtain ⟨B, hB⟩ : ∃ B : Nat, B = 1074 + 41 := ⟨_, rfl⟩
  rw [← hB] at w
  have o2 : Ok Ieee.double (2 ^ B) := by
    have := ok64 (c := 1) (j := B) (by decide) (by omega)
    rwa [Nat.one_mul] at this
  have o := order_fw ok o2
  rw [w] at o
  have hlt : up64 v < 2 ^ B := by
    unfold up64
    obtain ⟨D, hD⟩ : ∃ D : Nat, D = 925 := ⟨_, rfl⟩
    rw [← hD, show B = 190 + D by omega, Nat.pow_add]
    exact Nat.mul_lt_mul_of_pos_right hv (Nat.two_pow_pos D)
  rw [cmp_lt hlt] at o
  exact o

theorem order_same {v : Nat} (h : Ok Ieee.double v) : FloatKind.f64.format.order (fw Ieee.double v) (fw Ieee.double v) = some .eq := by
  have := order_fw h h
  rw [cmp_eq rfl] at this
  exact this

theorem trunc_mg {f p : Int} (h : Ok Ieee.single (mgN f p)) : FloatKind.f64.encode ((FloatKind.f64.decode (fw Ieee.double (up64 (mgN f p)))).integral .zero) = fw Ieee.double (up64 (mgN f p)) := by
  unfold mgN at h ⊢
  have := trunc_up (v := (mgV f p).toNat) false h
  rw [sw_pos] at this
  exact this

theorem int_mg {f p : Int} (t : Bool) (h : Ok Ieee.single (mgN f p)) (hv : mgV f p < 9223372036854775808) : floatToIntVal .f32 (sw Ieee.single t (mgN f p)) .i64 = some (sv t (mgV f p).toNat) := by
  unfold mgN at h ⊢
  exact int_sw (v := (mgV f p).toNat) t h (by omega)

theorem up_numf {v : Nat} (h : Ok Ieee.double v) : ∃ s m i, FloatKind.f64.decode (fw Ieee.double v) = .number s m i := by
  obtain ⟨m, i, h⟩ := up_numb false h
  rw [sw_pos] at h
  exact ⟨_, m, i, h⟩
end Go.Proofs.Ytcbkhlaiefiieac

namespace Go.Proofs.Ytcbkhlaiefiieac
open Go
set_option linter.unusedVariables false

theorem st_dvd {f p q : Int} (hf : 1 ≤ f) (h0 : 0 ≤ p) (h : p ≤ q) : stV f p ∣ stV f q := by
  have x0 := pw_pos f
  have := Int.ediv_le_ediv (show 0 < pw f by omega) h
  unfold stV
  refine ⟨pw (max 0 (q / pw f - 1) - max 0 (p / pw f - 1)), ?_⟩
  rw [← pw_add _ _ (by omega) (by omega)]
  congr 1
  omega

theorem st_dvd_mg {f p : Int} (hf : 1 ≤ f) (h0 : 0 ≤ p) : stV f p ∣ mgV f p := by
  unfold stV mgV
  by_cases hn : 0 < p / pw f
  · rw [if_pos hn, show max 0 (p / pw f - 1) = p / pw f - 1 by omega]
    exact ⟨_, Int.mul_comm _ _⟩
  · rw [if_neg hn, show max 0 (p / pw f - 1) = 0 by omega]
    exact ⟨_, (Int.one_mul _).symm⟩

/-- A multiple of the step is a value. -/
theorem mult_val {f p N : Int} (hf : 1 ≤ f) (h0 : 0 ≤ p) (h1 : mgV f p ≤ N) (h2 : N < mgV f (p + 1)) (hd : stV f p ∣ N) : N = mgV f p := by
  obtain ⟨a1, a2, a3, a4⟩ := mg_st hf h0
  have d : stV f p ∣ N - mgV f p := Int.dvd_sub hd (st_dvd_mg hf h0)
  obtain ⟨k, hk⟩ := d
  rcases Int.lt_trichotomy k 0 with g | g | g
  · have := Int.mul_le_mul_of_nonneg_left (show k ≤ -1 by omega) (show 0 ≤ stV f p by omega)
    rw [Int.mul_neg, Int.mul_one] at this
    omega
  · rw [g, Int.mul_zero] at hk; omega
  · have := Int.mul_le_mul_of_nonneg_left (show 1 ≤ k by omega) (show 0 ≤ stV f p by omega)
    rw [Int.mul_one] at this
    omega

/-- No value is nearer. -/
theorem near_best {f t N s z : Int} (hf : 1 ≤ f) (t0 : 0 ≤ t) (h1 : mgV f t ≤ N) (h2 : N < mgV f (t + 1)) (hs : s = rndP (N - mgV f t) (stV f t) t 0 false) (z0 : 0 ≤ z) : ((N - mgV f s).natAbs : Int) ≤ ((N - mgV f z).natAbs : Int) := by
  obtain ⟨a1, a2, a3, a4⟩ := mg_st hf t0
  have hz : mgV f z ≤ mgV f t ∨ mgV f (t + 1) ≤ mgV f z := by
    rcases Int.lt_or_le t z with g | g
    · right; exact mg_mono f (t + 1) z hf (by omega) (by omega)
    · left; exact mg_mono f z t hf z0 g
  unfold rndP at hs
  by_cases c : N - mgV f t = 0
  · rw [if_pos c] at hs
    subst hs
    omega
  · rw [if_neg c] at hs
    unfold upR at hs
    rw [if_pos rfl] at hs
    by_cases d : stV f t < 2 * (N - mgV f t) ∨ (2 * (N - mgV f t) = stV f t ∧ t % 2 = 1)
    · rw [decide_eq_true d, if_pos rfl] at hs
      subst hs
      omega
    · rw [decide_eq_false d, if_neg (by decide)] at hs
      subst hs
      omega

theorem st_two {e f p : Int} (hg : goodB e f = true) (h0 : 0 ≤ p) (h1 : p ≤ grV e f) : ∃ s : Nat, stV f p = ((2 ^ s : Nat) : Int) ∧ s ≤ 30 := by
  obtain ⟨h2, h3, h4, h5⟩ := good_iff.1 hg
  obtain ⟨⟨a1, a2⟩, ⟨b1, b2⟩, ⟨c1, c2⟩, hmul⟩ := pw_facts h2 h3 h4 h5
  have x0 : 0 ≤ p / pw f := Int.ediv_nonneg h0 (by omega)
  have hx : p / pw f < pw e - 1 := Int.ediv_lt_of_lt_mul (by omega) (by unfold grV at h1; omega)
  refine ⟨(max 0 (p / pw f - 1)).toNat, ?_, by omega⟩
  unfold stV
  rw [pw_cast, Int.toNat_of_nonneg (by omega)]

/-- The error of a sum of two values, the first of which is not the lesser one in size. -/
theorem two_sum {e f p q s X Y S : Int} (hg : goodB e f = true) (p0 : 0 ≤ p) (p1 : p ≤ grV e f) (q0 : 0 ≤ q) (q1 : q ≤ grV e f) (hX : (X.natAbs : Int) = mgV f p) (hY : (Y.natAbs : Int) = mgV f q) (h : Y.natAbs ≤ X.natAbs)
    (hs : IsRnd f (grV e f) ((X + Y).natAbs : Int) 1 0 false s) (s1 : s ≤ grV e f) (hS : S = if X + Y < 0 then -mgV f s else mgV f s) :
    (∃ c k : Nat, (X - S).natAbs = c * 2 ^ k ∧ c < 16777216 ∧ k ≤ 30) ∧ ∃ r, 0 ≤ r ∧ r ≤ grV e f ∧ ((X + Y - S).natAbs : Int) = mgV f r := by
  obtain ⟨_, _, f1, f2⟩ := good_iff.1 hg
  have c10 := pw_le 10 1024 rfl f2
  obtain ⟨t, ⟨t0, t1, t2, t3⟩, hr⟩ := hs
  rw [Int.mul_one] at t2 t3 hr
  rw [Int.mul_one] at hr
  obtain ⟨T1, T2, T3, T4⟩ := mg_st f1 t0
  obtain ⟨Q1, Q2, Q3, Q4⟩ := mg_st f1 q0
  have hN : ((X + Y).natAbs : Int) < mgV f (t + 1) := by
    rcases t3 with g | g
    · have : s ≤ t := by omega
      unfold rndP at hr
      by_cases c : ((X + Y).natAbs : Int) - mgV f t = 0
      · omega
      · rw [if_neg c] at hr
        unfold upR at hr
        rw [if_pos rfl] at hr
        by_cases d : stV f t < 2 * (((X + Y).natAbs : Int) - mgV f t) ∨ (2 * (((X + Y).natAbs : Int) - mgV f t) = stV f t ∧ t % 2 = 1)
        · rw [decide_eq_true d, if_pos rfl] at hr; omega
        · omega
    · exact g
  have s0 : 0 ≤ s := by
    unfold rndP at hr
    split at hr
    · omega
    · split at hr <;> omega
  by_cases hv : ((X + Y).natAbs : Int) = mgV f t
  · have st : s = t := by
      unfold rndP at hr
      rwa [if_pos (by omega)] at hr
    have e1 : S = X + Y := by
      rw [hS, st]
      split <;> omega
    obtain ⟨M, k, m1, m2, m3⟩ := mg_few hg q0 q1
    refine ⟨⟨M, k, by omega, by omega, by omega⟩, 0, Int.le_refl 0, by omega, ?_⟩
    rw [e1, Int.sub_self]
    have x0 := pw_pos f
    unfold mgV
    rw [if_neg (by simp)]; simp
  · have hqp : q ≤ p := by
      apply Int.le_of_not_gt
      intro g
      have := mg_mono f (p + 1) q f1 (by omega) (by omega)
      obtain ⟨P1, P2, P3, P4⟩ := mg_st f1 p0
      omega
    have dX : stV f q ∣ X := Int.dvd_natAbs.1 (by rw [hX]; exact Int.dvd_trans (st_dvd f1 q0 hqp) (st_dvd_mg f1 p0))
    have dY : stV f q ∣ Y := Int.dvd_natAbs.1 (by rw [hY]; exact st_dvd_mg f1 q0)
    have hqt : q < t := by
      apply Int.lt_of_not_ge
      intro g
      exact hv (mult_val f1 t0 t2 hN (Int.dvd_trans (st_dvd f1 t0 g) (Int.dvd_natAbs.2 (Int.dvd_add dX dY))))
    have dt : stV f q ∣ stV f t := st_dvd f1 q0 (by omega)
    have dm : stV f q ∣ mgV f t := Int.dvd_trans dt (st_dvd_mg f1 t0)
    have ds : stV f q ∣ mgV f s := by
      have : s = t ∨ s = t + 1 := by
        unfold rndP at hr
        split at hr
        · exact Or.inl hr
        · split at hr
          · exact Or.inr hr
          · exact Or.inl hr
      rcases this with rfl | rfl
      · exact dm
      · rw [T4]; exact Int.dvd_add dm dt
    have dS : stV f q ∣ S := by
      rw [hS]
      split
      · exact Int.dvd_neg.2 ds
      · exact ds
    have nb := near_best (z := p) f1 t0 t2 hN hr p0
    have S3 := (mg_st f1 s0).2.2.1
    have P3 := (mg_st f1 p0).2.2.1
    have bE : (X + Y - S).natAbs ≤ Y.natAbs := by
      have e1 : (X + Y - S).natAbs = (((X + Y).natAbs : Int) - mgV f s).natAbs := by
        rw [hS]
        split <;> omega
      omega
    have dE : stV f q ∣ X + Y - S := Int.dvd_sub (Int.dvd_add dX dY) dS
    have dXS : stV f q ∣ X - S := Int.dvd_sub dX dS
    refine ⟨?_, ?_⟩
    · obtain ⟨k, k1, k2⟩ := st_two hg q0 q1
      obtain ⟨m, hm⟩ := dXS
      refine ⟨m.natAbs, k, ?_, ?_, k2⟩
      · rw [hm, Int.natAbs_mul, k1, Int.natAbs_natCast, Nat.mul_comm]
      · have b1 : ((X - S).natAbs : Int) ≤ 2 * mgV f q := by omega
        have b2 : ((X - S).natAbs : Int) = stV f q * (m.natAbs : Int) := by
          rw [hm, Int.natAbs_mul, Int.natCast_mul]
          congr 1
          first | done | omega
        have b3 : 2 * pw f * stV f q ≤ 2048 * stV f q := Int.mul_le_mul_of_nonneg_right (by omega) (by omega)
        apply Nat.lt_of_not_ge
        intro g
        have := Int.mul_le_mul_of_nonneg_left (show (16777216 : Int) ≤ (m.natAbs : Int) by omega) (show 0 ≤ stV f q by omega)
        omega
    · obtain ⟨r, r0, r1, r2, r3⟩ : ∃ r, BelowQ f (grV e f) ((X + Y - S).natAbs : Int) 1 r := by
        have hb : ∀ n : Nat, ∃ r, BelowQ f (n : Int) ((X + Y - S).natAbs : Int) 1 r := by
          intro n
          induction n with
          | zero =>
            refine ⟨0, by decide, by decide, ?_, .inl (by decide)⟩
            have : mgV f 0 = 0 := by
              unfold mgV
              rw [if_neg (by simp)]; simp
            rw [this]; omega
          | succ n ih =>
            obtain ⟨r, r0, r1, r2, r3⟩ := ih
            by_cases g : mgV f ((n + 1 : Nat) : Int) * 1 ≤ ((X + Y - S).natAbs : Int)
            · exact ⟨_, by omega, Int.le_refl _, g, .inl (by omega)⟩
            · refine ⟨r, r0, by omega, r2, .inr ?_⟩
              rcases r3 with r3 | r3
              · have : r + 1 = ((n + 1 : Nat) : Int) := by omega
                rw [this]; omega
              · exact r3
        have := hb (grV e f).toNat
        rwa [Int.toNat_of_nonneg (by omega)] at this
      rw [Int.mul_one] at r2 r3
      refine ⟨r, r0, r1, ?_⟩
      have rq : r ≤ q := by
        apply Int.le_of_not_gt
        intro g
        have := mg_mono f (q + 1) r f1 (by omega) (by omega)
        omega
      rcases r3 with g | g
      · have : q = r := by omega
        subst this
        omega
      · exact mult_val f1 r0 r2 g (Int.dvd_trans (st_dvd f1 r0 rq) (Int.dvd_natAbs.2 dE))
end Go.Proofs.Ytcbkhlaiefiieac

namespace Go.Proofs.Ytcbkhlaiefiieac
open Go

theorem ord_cw {a b : Nat} (ha : Ok Ieee.single (a * 2 ^ 149)) (hb : Ok Ieee.single (b * 2 ^ 149)) :
    (a < b → FloatKind.f32.format.order (fw Ieee.single (a * 2 ^ 149)) (fw Ieee.single (b * 2 ^ 149)) = some .lt) ∧ (a = b → FloatKind.f32.format.order (fw Ieee.single (a * 2 ^ 149)) (fw Ieee.single (b * 2 ^ 149)) = some .eq) ∧ (b < a → FloatKind.f32.format.order (fw Ieee.single (a * 2 ^ 149)) (fw Ieee.single (b * 2 ^ 149)) = some .gt) := by
  have hf : FloatKind.f32.format = Ieee.single := rfl
  rw [hf]
  have o := order_fw ha hb
  rw [o]
  have hp := Nat.two_pow_pos 149
  generalize 2 ^ 149 = P at *
  refine ⟨fun h => ?_, fun h => ?_, fun h => ?_⟩
  · rw [cmp_lt (Nat.mul_lt_mul_of_pos_right h hp)]
  · rw [cmp_eq (by rw [h])]
  · rw [cmp_gt (Nat.mul_lt_mul_of_pos_right h hp)]

/-- The word of a size. -/
def zw (u : Int) : Nat := fw Ieee.single (u.natAbs * 2 ^ 149)

theorem ord_zw {a b : Int} (ha : Ok Ieee.single (a.natAbs * 2 ^ 149)) (hb : Ok Ieee.single (b.natAbs * 2 ^ 149)) :
    (a.natAbs < b.natAbs → FloatKind.f32.format.order (zw a) (zw b) = some .lt) ∧ (a.natAbs = b.natAbs → FloatKind.f32.format.order (zw a) (zw b) = some .eq) ∧ (b.natAbs < a.natAbs → FloatKind.f32.format.order (zw a) (zw b) = some .gt) := ord_cw ha hb
end Go.Proofs.Ytcbkhlaiefiieac

