/-
  Contracts of the functions that the laws reach, and the plain facts that they rest on, each under the conditions that its line names; part 12.
-/
import Derived.Test.YtcpamgmaijjhoaaGreatDoorKrs3
import Derived.Test.YtcpamgmaijjhoaaGreatDoorKrs10
import Derived.Test.YtcpamgmaijjhoaaGreatDoorKrs11
namespace Go.Proofs.YtcpamgmaijjhoaaGreatDoor
open Go

theorem fbits_fw (F X R : Nat) (hf0 : 1 ≤ F) (hf : F ≤ 10) (hx0 : 1 ≤ X) (hx : X < 31) (hr : R < 2 ^ F) :
    Ok Ieee.single ((R + 2 ^ F) * 2 ^ (X - 1) * 2 ^ 149) ∧ fbitsN F X R = fw Ieee.single ((R + 2 ^ F) * 2 ^ (X - 1) * 2 ^ 149) := by
  have e0 : (R + 2 ^ F) * 2 ^ (X - 1) * 2 ^ 149 = (R + 2 ^ F) * 2 ^ (X - 1 + 149) := by rw [Nat.mul_assoc, ← Nat.pow_add]
  have hF : 2 ^ F ≤ 2 ^ 10 := Nat.pow_le_pow_right (by decide) hf
  have ok : Ok Ieee.single ((R + 2 ^ F) * 2 ^ (X - 1) * 2 ^ 149) := by
    rw [e0]
    exact ok32 (by omega) (by omega)
  refine ⟨ok, (fw_of Ieee.single _ _ ok ?_).symm⟩
  have s : 2 ^ F * 2 ^ (23 - F) = 2 ^ 23 := by rw [← Nat.pow_add]; congr 1; omega
  have hM : R * 2 ^ (23 - F) < 2 ^ 23 := by
    rw [← s]
    exact Nat.mul_lt_mul_of_pos_right hr (Nat.two_pow_pos _)
  have := vR_parts 23 (X - 1 + F + 127) (R * 2 ^ (23 - F)) (by omega) hM
  unfold fbitsN
  show vR 23 _ = _
  rw [this, ← s, ← Nat.add_mul, Nat.mul_assoc, ← Nat.pow_add, e0, Nat.add_comm (2 ^ F) R]
  congr 2
  omega

theorem int_single (n : Nat) (h : n < 1024) : Ok Ieee.single (n * 2 ^ 149) ∧ floatOfInt .f32 (n : Int) = fw Ieee.single (n * 2 ^ 149) :=
  ⟨ok32 (by omega) (by decide), int_fw (f := Ieee.single) n 149 (by decide)⟩

/-- The number of a pattern, in units of 2^-149. -/
def mgN (f p : Int) : Nat := (mgV f p).toNat * 2 ^ 149

theorem mgN_cast (f p : Int) (h : 0 ≤ mgV f p) : ((mgN f p : Nat) : Int) = mgV f p * pw 149 := by
  have p149 : pw 149 = ((2 ^ 149 : Nat) : Int) := (pw_cast 149).symm
  unfold mgN
  rw [Int.natCast_mul, Int.toNat_of_nonneg h, p149]

theorem mgN_low (f r : Int) (h0 : 0 ≤ r) (h1 : r < pw f) (h2 : r < 1024) : Ok Ieee.single (mgN f r) ∧ floatOfInt .f32 r = fw Ieee.single (mgN f r) := by
  have := int_single r.toNat (by omega)
  rw [Int.toNat_of_nonneg h0] at this
  unfold mgN
  rw [mg_small f r h0 h1]
  exact this

theorem mgN_high (f x r : Int) (h3 : 1 ≤ f) (h4 : f ≤ 10) (hx0 : 1 ≤ x) (hx1 : x < 31) (hr0 : 0 ≤ r) (hr1 : r < pw f) : Ok Ieee.single (mgN f (x * pw f + r)) ∧ fbitsN f.toNat x.toNat r.toNat = fw Ieee.single (mgN f (x * pw f + r)) := by
  obtain ⟨F, hF⟩ : ∃ F : Nat, f = (F : Int) := ⟨f.toNat, by omega⟩
  obtain ⟨X, hX⟩ : ∃ X : Nat, x = (X : Int) := ⟨x.toNat, by omega⟩
  obtain ⟨R, hR⟩ : ∃ R : Nat, r = (R : Int) := ⟨r.toNat, by omega⟩
  subst hF hX hR
  have hr2 : R < 2 ^ F := by
    have := pw_cast F
    omega
  have := fbits_fw F X R (by omega) (by omega) (by omega) (by omega) hr2
  have e := (mg_of (F : Int) (X : Int) (R : Int) h3 hx0 hr0 hr1).1
  have e2 : mgV (F : Int) ((X : Int) * pw (F : Int) + R) = (((R + 2 ^ F) * 2 ^ (X - 1) : Nat) : Int) := by
    rw [e, Int.natCast_mul, Int.natCast_add, pw_cast, pw_cast]
    congr 2
    omega
  unfold mgN
  rw [e2, Int.toNat_natCast]
  simpa using this
end Go.Proofs.YtcpamgmaijjhoaaGreatDoor

namespace Go.Proofs.YtcpamgmaijjhoaaGreatDoor
open Go

theorem two_word : fw Ieee.single (2 * 2 ^ 149) = 1073741824 := by
  have ok : Ok Ieee.single (2 * 2 ^ 149) := ok32 (by decide) (by decide)
  refine fw_of Ieee.single _ _ ok ?_
  have := vR_parts 23 128 0 (by decide) (by decide)
  show vR 23 _ = _
  rw [show (1073741824 : Nat) = 128 * 2 ^ 23 + 0 from rfl, this, Nat.add_zero, ← Nat.pow_add]

theorem ok_two {R : Nat} (h : Ok Ieee.single R) (hR : R < 2 ^ 192) : Ok Ieee.single (2 * R) := by
  obtain ⟨⟨c, j, e, hc⟩, _, h3⟩ := h
  have hB : Ieee.single.fractionBits + (2 ^ Ieee.single.exponentBits - 2) = 277 := by decide
  obtain ⟨q, hq⟩ : ∃ q : Nat, q = 277 := ⟨_, rfl⟩
  refine ⟨⟨c, j + 1, ?_, hc⟩, ?_, h3⟩
  · rw [e, Nat.pow_succ, Nat.mul_left_comm, Nat.mul_comm 2 (2 ^ j)]
  · rw [hB, ← hq]
    have : 2 ^ 193 ≤ 2 ^ q := Nat.pow_le_pow_right (by decide) (by omega)
    have e2 : (2 : Nat) ^ 193 = 2 * 2 ^ 192 := by rw [Nat.pow_succ, Nat.mul_comm]
    omega

theorem mul_two {R : Nat} (h : Ok Ieee.single R) : floatBits .mul .f32 1073741824 (fw Ieee.single R) = some (fw Ieee.single (2 * R)) := by
  have ok : Ok Ieee.single (2 * 2 ^ 149) := ok32 (by decide) (by decide)
  have := mul_fw (f := Ieee.single) (v := 2 * R) 149 (by decide) ok h (by rw [Nat.mul_assoc, Nat.mul_comm (2 ^ 149), ← Nat.mul_assoc])
  rw [two_word] at this
  exact this

theorem order_zero {R : Nat} (h : Ok Ieee.single R) : Ieee.single.order (fw Ieee.single R) 0 = some (if R = 0 then .eq else .gt) := by
  have o0 : Ok Ieee.single 0 := by
    have := ok32 (c := 0) (j := 0) (by decide) (by decide)
    rwa [Nat.zero_mul] at this
  have := order_fw h o0
  rw [show fw Ieee.single 0 = 0 from near_zero _ _] at this
  rw [this]
  by_cases hr : R = 0
  · subst hr; rfl
  · rw [if_neg hr, cmp_gt (by omega)]
end Go.Proofs.YtcpamgmaijjhoaaGreatDoor

namespace Go.Proofs.YtcpamgmaijjhoaaGreatDoor
open Go

/-- The word of a size and a sign. -/
def sw (f : Ieee.Format) (s : Bool) (v : Nat) : Nat := f.word s (fw f v)

/-- A size with its sign. -/
def sv (s : Bool) (v : Nat) : Int := if s = true then -(v : Int) else v

theorem sw_pos (f : Ieee.Format) (v : Nat) : sw f false v = fw f v := rfl

theorem read_word {f : Ieee.Format} {b : Nat} (s : Bool) (h : b < f.infRung) {m : Nat} {p : Int} (hr : f.read b = .number false m p) : f.read (f.word s b) = .number s m p := by
  cases s
  · exact hr
  · have hs : b < f.signWeight := Nat.lt_trans h f.infRung_lt
    have hw : 0 < f.signWeight := by omega
    show f.read (f.signWeight + b) = _
    unfold Ieee.Format.read at hr ⊢
    have e1 : (f.signWeight + b) / f.signWeight % 2 = 1 := by
      rw [Nat.add_div_left _ hw, Nat.div_eq_of_lt hs]
    have e2 : (f.signWeight + b) % f.signWeight = b := by
      rw [Nat.add_mod_left, Nat.mod_eq_of_lt hs]
    have e3 : b / f.signWeight % 2 = 0 := by rw [Nat.div_eq_of_lt hs]
    have e4 : b % f.signWeight = b := Nat.mod_eq_of_lt hs
    simp only [e1, e2]
    simp only [e3, e4] at hr
    by_cases hb : b < f.binade
    · rw [if_pos hb] at hr ⊢
      cases hr; rfl
    · rw [if_neg hb, if_pos h] at hr ⊢
      cases hr; rfl

theorem read_sw {f : Ieee.Format} {v : Nat} (s : Bool) (h : Ok f v) : ∃ m k : Nat, f.read (sw f s v) = .number s m (f.leastPlace + k) ∧ m * 2 ^ k = v := by
  obtain ⟨m, k, h1, h2⟩ := read_fw h
  exact ⟨m, k, read_word s (fw_fin h) h1, h2⟩

theorem near_word (f : Ieee.Format) (s : Bool) (m : Nat) (p : Int) : f.nearest s m p = f.word s (f.nearest false m p) := by
  cases s
  · unfold Ieee.Format.nearest
    split
    · rfl
    · rfl
  · unfold Ieee.Format.nearest
    split
    · rfl
    · rfl

theorem cut_zero_s (s : Bool) (n d : Nat) : Ieee.Toward.zero.cut s n d = n / 2 ^ d := by
  have := cut_zero n d
  unfold Ieee.Toward.cut at *
  exact this

theorem whole_sw {f : Ieee.Format} {v : Nat} (B : Nat) (s : Bool) (hB : f.leastPlace = -(B : Int)) (h : Ok f (v * 2 ^ B)) : ∃ i : Int, 0 ≤ i ∧ (f.read (sw f s (v * 2 ^ B))).integral .zero = .number s v 0 := by
  obtain ⟨m, k, h1, h2⟩ := read_sw s h
  refine ⟨0, by decide, ?_⟩
  rw [h1]
  simp only [Ieee.Datum.integral]
  congr 1
  rw [cut_zero_s, Nat.shiftLeft_eq, hB]
  by_cases g : B ≤ k
  · rw [show (-(B : Int) + (k : Int)).toNat = k - B by omega, show (-(-(B : Int) + (k : Int))).toNat = 0 by omega, Nat.pow_zero, Nat.div_one]
    have e : m * 2 ^ k = m * 2 ^ (k - B) * 2 ^ B := by rw [Nat.mul_assoc, ← Nat.pow_add, show k - B + B = k by omega]
    rw [e] at h2
    exact Nat.eq_of_mul_eq_mul_right (Nat.two_pow_pos B) h2
  · rw [show (-(B : Int) + (k : Int)).toNat = 0 by omega, show (-(-(B : Int) + (k : Int))).toNat = B - k by omega, Nat.pow_zero, Nat.mul_one]
    have e : v * 2 ^ B = v * 2 ^ (B - k) * 2 ^ k := by rw [Nat.mul_assoc, ← Nat.pow_add, show B - k + k = B by omega]
    rw [e] at h2
    have h3 := Nat.eq_of_mul_eq_mul_right (Nat.two_pow_pos k) h2
    rw [h3, Nat.mul_div_cancel _ (Nat.two_pow_pos _)]

/-- Cut towards 0, a whole number is itself. -/
theorem int_sw {v : Nat} (s : Bool) (h : Ok Ieee.single (v * 2 ^ 149)) (hv : v < 9223372036854775808) : floatToIntVal .f32 (sw Ieee.single s (v * 2 ^ 149)) .i64 = some (sv s v) := by
  obtain ⟨B, hB⟩ : ∃ B : Nat, B = 149 := ⟨_, rfl⟩
  rw [← hB] at h ⊢
  obtain ⟨_, _, h2⟩ := whole_sw (f := Ieee.single) B s (by rw [hB]; decide) h
  unfold floatToIntVal
  have h3 : (FloatKind.f32.decode (sw Ieee.single s (v * 2 ^ B))).toInt .zero = some (sv s v) := by
    show ((Ieee.single.read (sw Ieee.single s (v * 2 ^ B))).toInt .zero) = _
    unfold Ieee.Datum.toInt
    rw [h2]
    simp only [Option.some.injEq, Ieee.signed, Nat.shiftLeft_zero]
    rfl
  rw [h3]
  simp only
  rw [if_pos]
  unfold sv
  constructor
  · show (-9223372036854775808 : Int) ≤ _; split <;> omega
  · show _ ≤ (9223372036854775807 : Int); split <;> omega

/-- The same number in least units of a double. -/
def up64 (v : Nat) : Nat := v * 2 ^ 925

/-- Of single to double. -/
theorem wide_sw {v : Nat} (s : Bool) (h : Ok Ieee.single v) : floatToFloatBits .f32 (sw Ieee.single s v) .f64 = some (sw Ieee.double s (up64 v)) ∧ Ok Ieee.double (up64 v) := by
  unfold up64
  obtain ⟨D, hD⟩ : ∃ D : Nat, D = 925 := ⟨_, rfl⟩
  rw [← hD]
  have ok : Ok Ieee.double (v * 2 ^ D) := by
    obtain ⟨⟨c, j, e, hc⟩, h2, _⟩ := h
    have hF : Ieee.single.fractionBits = 23 := rfl
    rw [hF] at hc
    have hB : Ieee.single.fractionBits + (2 ^ Ieee.single.exponentBits - 2) = 277 := by decide
    obtain ⟨q, hq⟩ : ∃ q : Nat, q = 277 := ⟨_, rfl⟩
    rw [hB, ← hq] at h2
    by_cases hz : c = 0
    · rw [e, hz, Nat.zero_mul, Nat.zero_mul]
      have := ok64 (c := 0) (j := 0) (by decide) (by decide)
      rwa [Nat.zero_mul] at this
    · have hj : j < q := by
        have : 2 ^ j < 2 ^ q := by
          have : 1 * 2 ^ j ≤ c * 2 ^ j := Nat.mul_le_mul_right _ (by omega)
          rw [Nat.one_mul, ← e] at this
          exact Nat.lt_of_le_of_lt this h2
        exact (Nat.pow_lt_pow_iff_right (by decide : 1 < 2)).1 this
      rw [e, Nat.mul_assoc, ← Nat.pow_add]
      exact ok64 (by omega) (by omega)
  refine ⟨?_, ok⟩
  obtain ⟨m, k, h1, h2⟩ := read_sw s h
  unfold floatToFloatBits
  rw [if_neg (by decide)]
  have h3 : FloatKind.f32.decode (sw Ieee.single s v) = .number s m (Ieee.single.leastPlace + k) := h1
  rw [h3]
  have h4 : FloatKind.f64.encode (.number s m (Ieee.single.leastPlace + k)) = sw Ieee.double s (v * 2 ^ D) := by
    show Ieee.double.nearest s m (Ieee.single.leastPlace + k) = _
    rw [near_word]
    unfold sw
    congr 1
    have := near_fw Ieee.double m (D + k) 0 (v * 2 ^ D) (by rw [Nat.add_comm, Nat.pow_add, ← Nat.mul_assoc, h2]; simp)
    rw [← this]
    congr 1
    have e1 : Ieee.single.leastPlace = Ieee.double.leastPlace + 925 := by decide
    rw [e1, hD]
    omega
  simp only [h4]
  have h5 : (FloatKind.f64.decode (sw Ieee.double s (v * 2 ^ D))).isInfinity = false := by
    obtain ⟨m2, k2, h6, _⟩ := read_sw s ok
    show (Ieee.double.read (sw Ieee.double s (v * 2 ^ D))).isInfinity = false
    rw [h6]
    rfl
  rw [h5]
  rfl
end Go.Proofs.YtcpamgmaijjhoaaGreatDoor

namespace Go.Proofs.YtcpamgmaijjhoaaGreatDoor
open Go

/-- The word of a whole number. -/
def cw (u : Int) : Nat := sw Ieee.single (decide (u < 0)) (u.natAbs * 2 ^ 149)

theorem int_cw (u : Int) : floatOfInt .f32 u = cw u := by
  show Ieee.single.nearest (decide (u < 0)) u.natAbs 0 = _
  rw [near_word]
  unfold cw sw
  congr 1
  have := near_fw Ieee.single u.natAbs 149 0 (u.natAbs * 2 ^ 149) (by simp)
  rw [← this]
  congr 1

/-- A value's word. -/
theorem cw_mg {f p u : Int} (hu : (u.natAbs : Int) = mgV f p) : cw u = sw Ieee.single (decide (u < 0)) (mgN f p) := by
  unfold cw mgN
  rw [← hu, Int.toNat_natCast]

theorem int_mg {f p : Int} (t : Bool) (h : Ok Ieee.single (mgN f p)) (hv : mgV f p < 9223372036854775808) : floatToIntVal .f32 (sw Ieee.single t (mgN f p)) .i64 = some (sv t (mgV f p).toNat) := by
  unfold mgN at h ⊢
  exact int_sw (v := (mgV f p).toNat) t h (by omega)
end Go.Proofs.YtcpamgmaijjhoaaGreatDoor

namespace Go.Proofs.YtcpamgmaijjhoaaGreatDoor
open Go

theorem read_posC (f : Ieee.Format) (b : Nat) (h : b < f.infRung) : ∃ m k : Nat, f.read b = .number false m (f.leastPlace + k) ∧ m * 2 ^ k = vR f.fractionBits b ∧ m < 2 ^ (f.fractionBits + 1) := by
  have hs : b < f.signWeight := Nat.lt_trans h f.infRung_lt
  have e1 : b / f.signWeight % 2 = 0 := by rw [Nat.div_eq_of_lt hs]
  have e2 : b % f.signWeight = b := Nat.mod_eq_of_lt hs
  have hp := Nat.two_pow_pos f.fractionBits
  unfold Ieee.Format.read
  simp only [e1, e2]
  unfold vR
  by_cases hb : b < f.binade
  · have hb2 : b < 2 ^ f.fractionBits := hb
    rw [if_pos hb, if_pos hb2]
    exact ⟨b, 0, by simp, by simp, by rw [Nat.pow_succ]; omega⟩
  · have hb2 : ¬ b < 2 ^ f.fractionBits := hb
    rw [if_neg hb, if_pos h, if_neg hb2]
    refine ⟨_, _, rfl, rfl, ?_⟩
    have := Nat.mod_lt b hp
    have e3 : f.binade = 2 ^ f.fractionBits := rfl
    rw [Nat.pow_succ, e3]
    omega

theorem div_fw {f : Ieee.Format} {a t v : Nat} (B : Nat) (hB : f.leastPlace = -(B : Int)) (ha : Ok f a) (hb : Ok f (2 ^ t)) (h : a * 2 ^ B = v * 2 ^ t) : f.div (fw f a) (fw f (2 ^ t)) = some (fw f v) := by
  obtain ⟨x1, x2⟩ := fw_val f a ha.1 ha.2.1 ha.2.2
  obtain ⟨y1, y2⟩ := fw_val f (2 ^ t) hb.1 hb.2.1 hb.2.2
  obtain ⟨m, k, h1, h2, hm⟩ := read_posC f _ x1
  obtain ⟨n, l, h3, h4, hn⟩ := read_posC f _ y1
  rw [x2] at h2
  rw [y2] at h4
  have hlt : l ≤ t := by
    have : 2 ^ l ∣ 2 ^ t := ⟨n, by rw [← h4, Nat.mul_comm]⟩
    exact (Nat.pow_dvd_pow_iff_le_right (by decide)).1 this
  have en : n = 2 ^ (t - l) := by
    have e : 2 ^ t = 2 ^ (t - l) * 2 ^ l := by rw [← Nat.pow_add, Nat.sub_add_cancel hlt]
    rw [e] at h4
    exact Nat.eq_of_mul_eq_mul_right (Nat.two_pow_pos l) h4
  have hnp : 0 < n := by rw [en]; exact Nat.two_pow_pos _
  unfold Ieee.Format.div
  rw [h1, h3]
  have hn0 : ¬ n = 0 := by omega
  simp only [Ieee.Datum.quotient, if_neg hn0, Option.map_some, Option.some.injEq]
  have hlog : n.log2 = t - l := by rw [en]; exact Nat.log2_two_pow
  have hlm : m.log2 ≤ f.fractionBits := by
    by_cases hm0 : m = 0
    · subst hm0; exact Nat.zero_le _
    · exact Nat.lt_succ_iff.1 ((Nat.log2_lt hm0).2 hm)
  generalize hmore : f.fractionBits + 2 + n.log2 - m.log2 = more
  have hge : t - l ≤ more := by rw [← hmore, hlog]; omega
  have ed : m <<< more = m * 2 ^ (more - (t - l)) * n := by
    rw [Nat.shiftLeft_eq, en, Nat.mul_assoc, ← Nat.pow_add, Nat.sub_add_cancel hge]
  have z : (m <<< more % n != 0) = false := by rw [ed, Nat.mul_mod_left]; rfl
  rw [z, ed, Nat.mul_div_cancel _ hnp]
  show f.nearest false (2 * (m * 2 ^ (more - (t - l))) + 0) _ = _
  rw [Nat.add_zero]
  have key := near_fw f (2 * (m * 2 ^ (more - (t - l)))) (k + B) (l + more + 1) v (by
    have e1 : 2 * (m * 2 ^ (more - (t - l))) * 2 ^ (k + B) = 2 * 2 ^ (more - (t - l)) * (m * 2 ^ k * 2 ^ B) := by
      rw [Nat.pow_add 2 k B]
      generalize 2 ^ (more - (t - l)) = X
      generalize 2 ^ k = K
      generalize 2 ^ B = Z
      rw [Nat.mul_assoc 2 (m * X), Nat.mul_assoc 2 X]
      congr 1
      rw [Nat.mul_comm m X, Nat.mul_assoc X m, Nat.mul_assoc m K]
    rw [e1, h2, h, show l + more + 1 = 1 + ((more - (t - l)) + t) by omega, Nat.pow_add 2 1, Nat.pow_add]
    generalize 2 ^ (more - (t - l)) = X
    generalize 2 ^ t = Z
    rw [show 2 ^ 1 = 2 from rfl, Nat.mul_assoc 2 X, Nat.mul_left_comm v 2, Nat.mul_left_comm X v])
  rw [← key]
  congr 1
  rw [hB]
  omega

/-- What is left above a value, in steps: few places, and far above the least ones. -/
theorem quot_parts {f p : Int} {Y S c j M s : Nat} (hY : Y = c * 2 ^ j) (hc : c < 2 ^ 24) (hj : 50 ≤ j) (hj2 : j ≤ 253) (em : mgN f p = M * 2 ^ (s + 149)) (es : S = 2 ^ (s + 149)) (hs : s = 0 ∨ 0 < M) (hl : mgN f p ≤ Y) (hr : Y - mgN f p < S) :
    ∃ v c2 i : Nat, Y - mgN f p = v * 2 ^ s ∧ v = c2 * 2 ^ i ∧ c2 < 2 ^ 24 ∧ 50 ≤ i ∧ i ≤ 253 ∧ v < 2 ^ 149 ∧ Ok Ieee.single (Y - mgN f p) := by
  by_cases hz : Y - mgN f p = 0
  · refine ⟨0, 0, 50, by omega, by omega, by decide, by decide, by decide, Nat.two_pow_pos _, ?_⟩
    rw [hz]
    have := ok32 (c := 0) (j := 0) (by decide) (by decide)
    rwa [Nat.zero_mul] at this
  · have hM : M * 2 ^ (s + 149) ≤ Y := by omega
    rw [em] at hz hr ⊢
    rw [es] at hr
    have hjs : s = 0 ∨ s + 126 ≤ j := by
      rcases hs with hs | hs
      · exact .inl hs
      · right
        have h1 : 2 ^ (s + 149) ≤ c * 2 ^ j := by
          rw [← hY]; exact Nat.le_trans (Nat.le_mul_of_pos_left _ hs) hM
        have h2 : c * 2 ^ j < 2 ^ (24 + j) := by rw [Nat.pow_add]; exact Nat.mul_lt_mul_of_pos_right hc (Nat.two_pow_pos _)
        have h3 := (Nat.pow_lt_pow_iff_right (a := 2) (by decide)).1 (Nat.lt_of_le_of_lt h1 h2)
        omega
    have hle : j ≤ s + 149 := by
      rcases Nat.lt_or_ge (s + 149) j with g | g
      · exfalso
        have e : Y - M * 2 ^ (s + 149) = (c * 2 ^ (j - (s + 149)) - M) * 2 ^ (s + 149) := by
          rw [hY, Nat.sub_mul, Nat.mul_assoc, ← Nat.pow_add, show j - (s + 149) + (s + 149) = j by omega]
        rw [e] at hr hz
        have : c * 2 ^ (j - (s + 149)) - M = 0 := by
          rcases Nat.eq_zero_or_pos (c * 2 ^ (j - (s + 149)) - M) with z | z
          · exact z
          · exact absurd (Nat.le_mul_of_pos_left (2 ^ (s + 149)) z) (by omega)
        rw [this] at hz
        omega
      · exact g
    have e : Y - M * 2 ^ (s + 149) = (c - M * 2 ^ (s + 149 - j)) * 2 ^ j := by
      rw [hY, Nat.sub_mul, Nat.mul_assoc, ← Nat.pow_add, show s + 149 - j + j = s + 149 by omega]
    have c2 : c - M * 2 ^ (s + 149 - j) < 2 ^ 24 := Nat.lt_of_le_of_lt (Nat.sub_le _ _) hc
    generalize c - M * 2 ^ (s + 149 - j) = d at *
    have e2 : d * 2 ^ j = d * 2 ^ (j - s) * 2 ^ s := by rw [Nat.mul_assoc, ← Nat.pow_add, show j - s + s = j by omega]
    refine ⟨d * 2 ^ (j - s), d, j - s, by rw [e, e2], rfl, c2, by omega, by omega, ?_, ?_⟩
    · rw [e, e2, Nat.pow_add, Nat.mul_comm (2 ^ s)] at hr
      exact Nat.lt_of_mul_lt_mul_right hr
    · rw [e]; exact ok32 c2 hj2
end Go.Proofs.YtcpamgmaijjhoaaGreatDoor

