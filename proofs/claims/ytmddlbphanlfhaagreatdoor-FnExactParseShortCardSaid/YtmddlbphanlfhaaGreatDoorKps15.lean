/-
  Contracts of the functions that the laws reach, and the plain facts that they rest on, each under the conditions that its line names; part 15.
-/
import Derived.Test.YtmddlbphanlfhaaGreatDoorKps3
import Derived.Test.YtmddlbphanlfhaaGreatDoorKps14
namespace Go.Proofs.YtmddlbphanlfhaaGreatDoor
open Go

/-- The first places, and how many zeros behind. -/
theorem kp_parts {n : Int} (h0 : 0 ≤ n) (h1 : n < 4611686018427387904) : ∃ c b : Nat, kpV n = (c : Int) * pw b ∧ c < 16777216 ∧ b ≤ 40 ∧ (n ≠ 0 → 0 < c) := by
  unfold kpV
  by_cases hn0 : n = 0
  · subst hn0
    exact ⟨0, 0, by rw [if_pos (by rw [pl_zero]; decide)]; simp, by decide, by decide, fun h => absurd rfl h⟩
  · obtain ⟨b1, b2, b3⟩ := pl_bd n hn0 (by omega) (by omega)
    have hnn : (n.natAbs : Int) = n := by omega
    rw [hnn] at b2 b3
    have pl62 : plV n ≤ 62 := pl_le n 62 (by decide) (by decide) (by rw [show pw 62 = 4611686018427387904 from rfl]; omega)
    by_cases hp : plV n ≤ 24
    · rw [if_pos hp]
      have := pw_le 24 16777216 rfl hp
      exact ⟨n.toNat, 0, by rw [show pw ((0 : Nat) : Int) = 1 from rfl]; omega, by omega, by decide, fun _ => by omega⟩
    · rw [if_neg hp]
      obtain ⟨b, hb⟩ : ∃ b : Nat, plV n - 24 = b := ⟨(plV n - 24).toNat, by omega⟩
      rw [hb]
      have hB := pw_pos (b : Int)
      have e1 : pw (plV n) = 16777216 * pw b := by
        rw [show plV n = 24 + (b : Int) by omega, pw_add 24 b (by decide) (by omega)]; rfl
      have e2 : pw (plV n - 1) = 8388608 * pw b := by
        rw [show plV n - 1 = 23 + (b : Int) by omega, pw_add 23 b (by decide) (by omega)]; rfl
      have hq1 : n / pw b < 16777216 := Int.ediv_lt_of_lt_mul (by omega) (by omega)
      have hq0 : 8388608 ≤ n / pw b := (Int.le_ediv_iff_mul_le (by omega)).2 (by omega)
      have hd := Int.mul_ediv_add_emod n (pw b)
      have hc : pw b * (n / pw b) = n / pw b * pw b := Int.mul_comm _ _
      by_cases hz : n % pw b = 0
      · rw [if_pos hz]
        refine ⟨(n / pw b).toNat, b, ?_, by omega, by omega, fun _ => by omega⟩
        rw [Int.toNat_of_nonneg (by omega)]
        omega
      · rw [if_neg hz]
        by_cases ho : n / pw b % 2 = 1
        · rw [if_pos ho]
          refine ⟨(n / pw b).toNat, b, ?_, by omega, by omega, fun _ => by omega⟩
          rw [Int.toNat_of_nonneg (by omega)]
        · rw [if_neg ho]
          refine ⟨(n / pw b + 1).toNat, b, ?_, by omega, by omega, fun _ => by omega⟩
          rw [Int.toNat_of_nonneg (by omega)]

theorem fw_lt {f : Ieee.Format} {a b : Nat} (ha : Ok f a) (hb : Ok f b) : fw f a < fw f b ↔ a < b := by
  obtain ⟨_, h1⟩ := fw_val f a ha.1 ha.2.1 ha.2.2
  obtain ⟨_, h2⟩ := fw_val f b hb.1 hb.2.1 hb.2.2
  constructor
  · intro h
    have := vR_lt f.fractionBits _ _ h
    omega
  · intro h
    rcases Nat.lt_trichotomy (fw f a) (fw f b) with g | g | g
    · exact g
    · rw [g] at h1; omega
    · have := vR_lt f.fractionBits _ _ g; omega

theorem fw_fin {f : Ieee.Format} {a : Nat} (ha : Ok f a) : fw f a < f.infRung := (fw_val f a ha.1 ha.2.1 ha.2.2).1

/-- The least of two. -/
theorem min_fw {P : Program} {k : FloatKind} {a b : Nat} (ha : Ok k.format a) (hb : Ok k.format b) (ts : Array TypeId) (t : TypeId) (w : World) :
    (Builtin.min_ ts t #[.float k (fw k.format a), .float k (fw k.format b)]).run P w = .ok (.float k (fw k.format (min a b))) w := by
  have o := order_pos (fw_fin ha) (fw_fin hb)
  have hl := fw_lt ha hb
  have hl2 := fw_lt hb ha
  have e : Builtin.min_ ts t #[.float k (fw k.format a), .float k (fw k.format b)] = Builtin.min2 (.float k (fw k.format a)) (.float k (fw k.format b)) := by simp [Builtin.min_]
  rw [e]
  unfold Builtin.min2
  rcases Nat.lt_trichotomy a b with h | h | h
  · rw [cmp_lt (hl.2 h)] at o
    simp only [o]
    rw [Nat.min_eq_left (Nat.le_of_lt h)]
    rfl
  · subst h
    rw [cmp_eq rfl] at o
    simp only [o]
    rw [Nat.min_self]
    split <;> rfl
  · rw [cmp_gt (hl2.2 h)] at o
    simp only [o]
    rw [Nat.min_eq_right (Nat.le_of_lt h)]
    rfl

/-- A power of two, in double. -/
theorem pow64 (k : Nat) (h : k ≤ 900) : fw Ieee.double (2 ^ (1074 + k)) = (1023 + k) * 4503599627370496 := by
  have := (word64 1 0 (by decide) (by decide) (by decide) (1074 + k) (by omega) (by omega)).1
  rw [Nat.one_mul] at this
  rw [this]
  omega

theorem one_word (B : Nat) (hB : B = 1074) : fw Ieee.double (2 ^ B) = 4607182418800017408 := by
  have := (word64 1 0 (by decide) (by decide) (by decide) B (by omega) (by omega)).1
  rw [Nat.one_mul] at this
  rw [this]
  omega

/-- One times a number. -/
theorem one_mul64 {v : Nat} (h : Ok Ieee.double v) : Ieee.double.mul 4607182418800017408 (fw Ieee.double v) = some (fw Ieee.double v) := by
  obtain ⟨B, hB⟩ : ∃ B : Nat, B = 1074 := ⟨_, rfl⟩
  rw [← one_word B hB]
  have o1 := ok64 (c := 1) (j := B) (by decide) (by omega)
  rw [Nat.one_mul] at o1
  exact mul_fw (f := Ieee.double) B (by rw [hB]; decide) o1 h (Nat.mul_comm _ _)

/-- Of double to single. -/
theorem conv_fw {a v : Nat} (ha : Ok Ieee.double a) (hv : Ok Ieee.single v) (h : a = v * 2 ^ 925) : floatToFloatBits .f64 (fw Ieee.double a) .f32 = some (fw Ieee.single v) := by
  obtain ⟨m, i, h1, h2⟩ := to_fw (f := Ieee.double) (g := Ieee.single) 925 (by decide) ha h
  unfold floatToFloatBits
  rw [if_neg (by decide)]
  have h3 : FloatKind.f64.decode (fw Ieee.double a) = .number false m i := h1
  rw [h3]
  have h4 : FloatKind.f32.encode (.number false m i) = fw Ieee.single v := h2
  simp only [h4]
  have h5 : (FloatKind.f32.decode (fw Ieee.single v)).isInfinity = false := by
    obtain ⟨m2, k2, h6, _⟩ := read_fw hv
    show (Ieee.single.read (fw Ieee.single v)).isInfinity = false
    rw [h6]
    rfl
  rw [h5]
  rfl

theorem or_one (q : Nat) : q ||| 1 = if q % 2 = 1 then q else q + 1 := by
  have h2 := Nat.two_pow_add_eq_or_of_lt (show 1 < 2 ^ 1 by decide) (q / 2)
  by_cases h : q % 2 = 1
  · rw [if_pos h]
    have e : q = 2 ^ 1 * (q / 2) ||| 1 := by rw [← h2]; omega
    conv => lhs; rw [e]
    rw [Nat.or_assoc, Nat.or_self, ← h2]
    omega
  · rw [if_neg h]
    have e : q = 2 ^ 1 * (q / 2) := by omega
    conv => lhs; rw [e]
    rw [← h2]
    omega

/-- The last of the places made 1. -/
theorem or_last (q : Int) (b : Nat) (h0 : 0 ≤ q) (h1 : (q + 1) * pw b < 9223372036854775808) : bits .or .i64 (q * pw b) (pw b) = (if q % 2 = 1 then q else q + 1) * pw b := by
  obtain ⟨q, rfl⟩ := Int.eq_ofNat_of_zero_le h0
  have hp := pw_pos (b : Int)
  have e1 : pw (b : Int) = ((2 ^ b : Nat) : Int) := (pw_cast b).symm
  rw [Int.add_mul, Int.one_mul] at h1
  have q0 : 0 ≤ (q : Int) * pw b := Int.mul_nonneg (by omega) (by omega)
  rw [e1] at h1 q0 hp ⊢
  have e2 : (q : Int) * ((2 ^ b : Nat) : Int) = ((q * 2 ^ b : Nat) : Int) := by simp
  rw [e2] at h1 q0 ⊢
  rw [(bits_i64_nat _ _ (by omega) (by omega)).1]
  have e3 : q * 2 ^ b ||| 2 ^ b = (q ||| 1) * 2 ^ b := by
    have := @Nat.shiftLeft_or_distrib b q 1
    rw [Nat.shiftLeft_eq, Nat.shiftLeft_eq, Nat.shiftLeft_eq, Nat.one_mul] at this
    exact this.symm
  rw [e3, or_one]
  by_cases h : q % 2 = 1
  · rw [if_pos h, if_pos (by omega)]; simp
  · rw [if_neg h, if_neg (by omega)]
    simp
end Go.Proofs.YtmddlbphanlfhaaGreatDoor

namespace Go.Proofs.YtmddlbphanlfhaaGreatDoor
open Go

/-- A single word told by its parts. -/
theorem single_parts {V : Nat} (h : Ok Ieee.single V) (h1 : 8388608 ≤ V) : ∃ E M : Nat, fw Ieee.single V = E * 8388608 + M ∧ M < 8388608 ∧ 1 ≤ E ∧ V = (8388608 + M) * 2 ^ (E - 1) ∧ E ≤ 254 := by
  obtain ⟨b1, b2⟩ := fw_val Ieee.single V h.1 h.2.1 h.2.2
  have hf : Ieee.single.fractionBits = 23 := rfl
  rw [hf] at b2
  have hi : Ieee.single.infRung = 255 * 8388608 := by decide
  rw [hi] at b1
  generalize fw Ieee.single V = b at *
  have hb : 8388608 ≤ b := by
    apply Nat.le_of_not_lt
    intro hlt
    have := vR_low 23 b (by omega)
    omega
  have hE : 1 ≤ b / 8388608 := (Nat.le_div_iff_mul_le (by decide)).2 (by omega)
  have hM := Nat.mod_lt b (show 0 < 8388608 by decide)
  have hd := Nat.div_add_mod b 8388608
  refine ⟨b / 8388608, b % 8388608, by omega, hM, hE, ?_, by omega⟩
  have e : b / 8388608 * 2 ^ 23 + b % 8388608 = b := by omega
  have := vR_parts 23 (b / 8388608) (b % 8388608) hE hM
  rw [e, b2] at this
  exact this

/-- The pattern below a size, out of the parts of its word. -/
theorem parts_below {f : Int} {E M V : Nat} (h3 : 1 ≤ f) (h4 : f ≤ 10) (hM : M < 8388608) (hE : 1 ≤ E) (hV : V = (8388608 + M) * 2 ^ (E - 1)) (hbig : pw f * pw 149 ≤ (V : Int)) :
    (1 ≤ (E : Int) - 126 - f) ∧ (0 ≤ (M : Int) / pw (23 - f) ∧ (M : Int) / pw (23 - f) < pw f) ∧
    mgV f (((E : Int) - 126 - f) * pw f + (M : Int) / pw (23 - f)) * pw 149 ≤ V ∧ (V : Int) < mgV f (((E : Int) - 126 - f) * pw f + (M : Int) / pw (23 - f) + 1) * pw 149 := by
  have hA := pw_pos f
  have hB := pw_pos (23 - f)
  have e23 : pw (23 - f) * pw f = 8388608 := by
    rw [← pw_add (23 - f) f (by omega) (by omega), show 23 - f + f = 23 by omega]; rfl
  have hVi : (V : Int) = (8388608 + (M : Int)) * pw ((E : Int) - 1) := by
    rw [hV, Int.natCast_mul, show ((8388608 + M : Nat) : Int) = 8388608 + (M : Int) by omega]
    congr 1
    rw [pw_cast]
    congr 1
    omega
  have hx : 1 ≤ (E : Int) - 126 - f := by
    apply Int.le_of_not_gt
    intro hlt
    have hP := pw_pos ((E : Int) - 1)
    have a1 : (8388608 + (M : Int)) * pw ((E : Int) - 1) < 16777216 * pw ((E : Int) - 1) := Int.mul_lt_mul_of_pos_right (by omega) (by omega)
    have a2 : (16777216 : Int) * pw ((E : Int) - 1) = pw (24 + ((E : Int) - 1)) := (pw_add 24 ((E : Int) - 1) (by decide) (by omega)).symm
    have a3 : pw f * pw 149 = pw (f + 149) := (pw_add f 149 (by omega) (by decide)).symm
    have a4 := pw_mono (a := 24 + ((E : Int) - 1)) (b := f + 149) (by omega)
    omega
  have r0 : 0 ≤ (M : Int) / pw (23 - f) := Int.ediv_nonneg (by omega) (by omega)
  have r1 : (M : Int) / pw (23 - f) < pw f := Int.ediv_lt_of_lt_mul (by omega) (by rw [Int.mul_comm, e23]; omega)
  obtain ⟨m1, m2⟩ := mg_of f ((E : Int) - 126 - f) ((M : Int) / pw (23 - f)) h3 hx r0 r1
  refine ⟨hx, ⟨r0, r1⟩, ?_, ?_⟩
  · rw [m1, hVi]
    have e1 : pw ((E : Int) - 126 - f - 1) * pw 149 = pw (23 - f) * pw ((E : Int) - 1) := by
      rw [← pw_add _ _ (by omega) (by decide), ← pw_add _ _ (by omega) (by omega)]
      congr 1; omega
    rw [Int.mul_assoc, e1, ← Int.mul_assoc]
    apply Int.mul_le_mul_of_nonneg_right _ (by have := pw_pos ((E : Int) - 1); omega)
    have hd := Int.mul_ediv_add_emod (M : Int) (pw (23 - f))
    have hm0 := Int.emod_nonneg (M : Int) (show pw (23 - f) ≠ 0 by omega)
    rw [Int.add_mul, Int.mul_comm (pw f), e23, Int.mul_comm ((M : Int) / pw (23 - f))]
    omega
  · rw [m2, hVi]
    have e1 : pw ((E : Int) - 126 - f - 1) * pw 149 = pw (23 - f) * pw ((E : Int) - 1) := by
      rw [← pw_add _ _ (by omega) (by decide), ← pw_add _ _ (by omega) (by omega)]
      congr 1; omega
    rw [Int.mul_assoc, e1, ← Int.mul_assoc]
    apply Int.mul_lt_mul_of_pos_right _ (by have := pw_pos ((E : Int) - 1); omega)
    have hd := Int.mul_ediv_add_emod (M : Int) (pw (23 - f))
    have hm1 := Int.emod_lt_of_pos (M : Int) (show 0 < pw (23 - f) by omega)
    rw [Int.add_mul, Int.add_mul, Int.one_mul, Int.mul_comm (pw f), e23, Int.mul_comm ((M : Int) / pw (23 - f))]
    omega

/-- The word's bits that are the fraction. -/
theorem parts_frac {f : Int} {E M : Nat} (h3 : 1 ≤ f) (h4 : f ≤ 10) (hM : M < 8388608) : ((E * 8388608 + M : Nat) : Int) / pw (23 - f) % pw f = (M : Int) / pw (23 - f) := by
  have hA := pw_pos f
  have hB := pw_pos (23 - f)
  have e23 : pw f * pw (23 - f) = 8388608 := by
    rw [← pw_add f (23 - f) (by omega) (by omega), show f + (23 - f) = 23 by omega]; rfl
  have r0 : 0 ≤ (M : Int) / pw (23 - f) := Int.ediv_nonneg (by omega) (by omega)
  have r1 : (M : Int) / pw (23 - f) < pw f := Int.ediv_lt_of_lt_mul (by omega) (by rw [e23]; omega)
  have e : ((E * 8388608 + M : Nat) : Int) = (M : Int) + (E : Int) * pw f * pw (23 - f) := by
    rw [Int.mul_assoc, e23]; omega
  rw [e, Int.add_mul_ediv_right _ _ (by omega), Int.add_mul_emod_self_right, Int.emod_eq_of_lt r0 r1]

/-- Below a size that is cut at the greatest value. -/
theorem below_cut {e f V p : Int} (hg : goodB e f = true) (p0 : 0 ≤ p) (h1 : mgV f p * pw 149 ≤ min V (mgV f (grV e f) * pw 149)) (h2 : min V (mgV f (grV e f) * pw 149) < mgV f (p + 1) * pw 149) : BelowQ f (grV e f) V (pw 149) p := by
  obtain ⟨f1, _⟩ : 1 ≤ f ∧ f ≤ 10 := by
    obtain ⟨_, _, h3, h4⟩ := good_iff.1 hg
    exact ⟨h3, h4⟩
  have hP := pw_pos 149
  have hg0 : 0 ≤ grV e f := by
    obtain ⟨g1, g2, g3, g4⟩ := good_iff.1 hg
    obtain ⟨_, ⟨b1, _⟩, ⟨c1, _⟩, _⟩ := pw_facts g1 g2 g3 g4
    have := Int.mul_le_mul (show 1 ≤ pw e - 1 by omega) (show 1 ≤ pw f by omega) (by decide) (by omega)
    unfold grV; omega
  have hpg : p ≤ grV e f := by
    apply Int.le_of_not_gt
    intro hlt
    have a := mg_mono f (grV e f + 1) p f1 (by omega) (by omega)
    have b := mg_step f (grV e f) f1 hg0
    have c := pw_pos (max 0 (grV e f / pw f - 1))
    have d := Int.mul_lt_mul_of_pos_right (show mgV f (grV e f) < mgV f p by omega) (show 0 < pw 149 by omega)
    omega
  refine ⟨p0, hpg, by omega, ?_⟩
  by_cases hV : V ≤ mgV f (grV e f) * pw 149
  · right; omega
  · left
    apply Int.lt_of_not_ge
    intro hle
    have a := mg_mono f (p + 1) (grV e f) f1 (by omega) hle
    have d := Int.mul_le_mul_of_nonneg_right a (show 0 ≤ pw 149 by omega)
    omega
end Go.Proofs.YtmddlbphanlfhaaGreatDoor

namespace Go.Proofs.YtmddlbphanlfhaaGreatDoor
open Go

/-- Every finite single word is the word of a number. -/
theorem word_self {x : Nat} (h : x < Ieee.single.infRung) : Ok Ieee.single (vR 23 x) ∧ fw Ieee.single (vR 23 x) = x := by
  have hi : Ieee.single.infRung = 255 * 8388608 := by decide
  rw [hi] at h
  have ok : Ok Ieee.single (vR 23 x) := by
    by_cases hb : x < 8388608
    · rw [vR_low 23 x (by omega)]
      have := ok32 (c := x) (j := 0) (by omega) (by decide)
      rwa [Nat.pow_zero, Nat.mul_one] at this
    · have hM := Nat.mod_lt x (show 0 < 8388608 by decide)
      have hd := Nat.div_add_mod x 8388608
      have hE : 1 ≤ x / 8388608 := (Nat.le_div_iff_mul_le (by decide)).2 (by omega)
      have e : x / 8388608 * 2 ^ 23 + x % 8388608 = x := by omega
      have := vR_parts 23 (x / 8388608) (x % 8388608) hE hM
      rw [e] at this
      rw [this]
      exact ok32 (by omega) (by omega)
  exact ⟨ok, fw_of Ieee.single x _ ok rfl⟩

theorem cut_ge (n d k : Nat) (h : k * 2 ^ d ≤ n) (hd : d ≤ n.log2) : k ≤ Ieee.Toward.even.cut false n d := by
  unfold Ieee.Toward.cut
  have hg : 1 <<< min d (n.log2 + 2) = 2 ^ d := by rw [Nat.min_eq_left (by omega), Nat.shiftLeft_eq, Nat.one_mul]
  simp only [hg]
  have := (Nat.le_div_iff_mul_le (Nat.two_pow_pos d)).2 h
  omega

theorem cut_le (n d k : Nat) (h : n < k * 2 ^ d) (hd : d ≤ n.log2) : Ieee.Toward.even.cut false n d ≤ k := by
  unfold Ieee.Toward.cut
  have hg : 1 <<< min d (n.log2 + 2) = 2 ^ d := by rw [Nat.min_eq_left (by omega), Nat.shiftLeft_eq, Nat.one_mul]
  simp only [hg]
  have := (Nat.div_lt_iff_lt_mul (Nat.two_pow_pos d)).2 h
  have tb : ∀ b : Bool, b.toNat ≤ 1 := by decide
  exact Nat.le_trans (Nat.add_le_add_left (tb _) _) (by omega)

/-- What is rounded to a single is at least any power of two that it is at least. -/
theorem single_ge {R s : Nat} (h : 2 ^ s ≤ R) (hR : R < 2 ^ 191) : fw Ieee.single R < Ieee.single.infRung ∧ 2 ^ s ≤ vR 23 (fw Ieee.single R) ∧ vR 23 (fw Ieee.single R) < 2 ^ 192 := by
  have h0 : R ≠ 0 := by have := Nat.two_pow_pos s; omega
  have l0 : 2 ^ R.log2 ≤ R := Nat.log2_self_le h0
  have l1 : R < 2 ^ (R.log2 + 1) := Nat.lt_log2_self
  have hs : s ≤ R.log2 := by
    have : 2 ^ s < 2 ^ (R.log2 + 1) := Nat.lt_of_le_of_lt h l1
    have := (Nat.pow_lt_pow_iff_right (by decide : 1 < 2)).1 this
    omega
  have hL : R.log2 < 191 := (Nat.log2_lt h0).2 hR
  have hi : Ieee.single.infRung = 255 * 2 ^ 23 := by decide
  have hb : Ieee.single.binade = 2 ^ 23 := rfl
  have hF : Ieee.single.fractionBits = 23 := rfl
  by_cases hsm : R.log2 < 24
  · have ok : Ok Ieee.single R := by
      have : R < 2 ^ 24 := Nat.lt_of_lt_of_le l1 (Nat.pow_le_pow_right (by decide) (by omega))
      have := ok32 (c := R) (j := 0) this (by decide)
      rwa [Nat.pow_zero, Nat.mul_one] at this
    obtain ⟨a, b⟩ := fw_val Ieee.single R ok.1 ok.2.1 ok.2.2
    rw [hF] at b
    exact ⟨a, by rw [b]; exact h, by rw [b]; exact Nat.lt_trans hR (Nat.pow_lt_pow_right (by decide) (by decide))⟩
  · have e : fw Ieee.single R = (R.log2 - 23) * 2 ^ 23 + Ieee.Toward.even.cut false R (R.log2 - 23) ∧ 2 ^ 23 ≤ Ieee.Toward.even.cut false R (R.log2 - 23) ∧ Ieee.Toward.even.cut false R (R.log2 - 23) ≤ 2 ^ 24 := by
      have c0 : 2 ^ 23 ≤ Ieee.Toward.even.cut false R (R.log2 - 23) := cut_ge _ _ _ (by rw [← Nat.pow_add, show 23 + (R.log2 - 23) = R.log2 by omega]; exact l0) (by omega)
      have c1 : Ieee.Toward.even.cut false R (R.log2 - 23) ≤ 2 ^ 24 := cut_le _ _ _ (by rw [← Nat.pow_add, show 24 + (R.log2 - 23) = R.log2 + 1 by omega]; exact l1) (by omega)
      refine ⟨?_, c0, c1⟩
      unfold fw Ieee.Format.nearest
      rw [if_neg h0]
      have hlast : max (Ieee.single.leastPlace + (R.log2 : Int) - Ieee.single.fractionBits) Ieee.single.leastPlace = Ieee.single.leastPlace + ((R.log2 - 23 : Nat) : Int) := by
        rw [hF]; omega
      simp only [hlast]
      rw [show (Ieee.single.leastPlace - (Ieee.single.leastPlace + ((R.log2 - 23 : Nat) : Int))).toNat = 0 by omega, show (Ieee.single.leastPlace + ((R.log2 - 23 : Nat) : Int) - Ieee.single.leastPlace).toNat = R.log2 - 23 by omega, Nat.shiftLeft_zero, hb, hi]
      unfold Ieee.Format.word
      rw [if_neg (by decide)]
      apply Nat.min_eq_left
      have : (R.log2 - 23 + 2) * 2 ^ 23 ≤ 255 * 2 ^ 23 := Nat.mul_le_mul_right _ (by omega)
      rw [Nat.add_mul] at this
      omega
    obtain ⟨e1, e2, e3⟩ := e
    refine ⟨?_, ?_, ?_⟩
    · rw [e1, hi]
      have : (R.log2 - 23 + 3) * 2 ^ 23 ≤ 255 * 2 ^ 23 := Nat.mul_le_mul_right _ (by omega)
      rw [Nat.add_mul] at this
      omega
    · rw [e1]
      have a1 : vR 23 ((R.log2 - 23) * 2 ^ 23 + 2 ^ 23) = 2 ^ R.log2 := by
        rw [vR_high 23 (R.log2 - 23) (2 ^ 23) (Nat.le_refl _) (by decide), ← Nat.pow_add]
        congr 1; omega
      have a2 : vR 23 ((R.log2 - 23) * 2 ^ 23 + 2 ^ 23) ≤ vR 23 ((R.log2 - 23) * 2 ^ 23 + Ieee.Toward.even.cut false R (R.log2 - 23)) := by
        rcases Nat.lt_or_ge (2 ^ 23) (Ieee.Toward.even.cut false R (R.log2 - 23)) with g | g
        · exact Nat.le_of_lt (vR_lt 23 _ _ (by omega))
        · rw [show Ieee.Toward.even.cut false R (R.log2 - 23) = 2 ^ 23 by omega]; exact Nat.le_refl _
      rw [a1] at a2
      exact Nat.le_trans (Nat.pow_le_pow_right (by decide) hs) a2
    · have b0 : fw Ieee.single R < 169 * 2 ^ 23 + 1 := by
        rw [e1]
        have : (R.log2 - 23) * 2 ^ 23 ≤ 167 * 2 ^ 23 := Nat.mul_le_mul_right _ (by omega)
        omega
      have b1 := vR_lt 23 _ _ b0
      have b2 := vR_parts 23 169 1 (by decide) (by decide)
      rw [b2] at b1
      refine Nat.lt_trans b1 ?_
      have b3 : (2 : Nat) ^ 192 = 2 ^ 24 * 2 ^ 168 := by rw [← Nat.pow_add]
      rw [b3]
      exact Nat.mul_lt_mul_of_pos_right (by decide) (Nat.two_pow_pos _)
end Go.Proofs.YtmddlbphanlfhaaGreatDoor

