/-
  Plain facts on the first places of a number, as a float holds them, and on the least of two words. No Go in sight.
-/
import Derived.Test.YtkppdcelhblgaaaFltB2
import Derived.Test.YtkppdcelhblgaaaRndD
namespace Go.Proofs.Ytkppdcelhblgaaa
open Go

/-- The first places, and how many zeros behind. -/
theorem kp_parts {n : Int} (h0 : 0 ≤ n) (h1 : n < 4611686018427387904) : ∃ c b : Nat, kpV n = (c : Int) * pw b ∧ c < 16777216 ∧ b ≤ 40 ∧ (n ≠ 0 → 0 < c) := by
  unfold kpV
  by_cases hn0 : n = 0
  · subst hn0
    exact ⟨0, 0, by rw [if_pos (by rw [pl_zero]; decide)]; simp, by decide, by decide, fun h => absurd rfl h⟩
  · obtain ⟨b1, b2, b3⟩ := pl_bd n hn0 (by omega) (by omega)
    have hnn : (n.natAbs : Int) = n := by omega
    rw [hnn] at b2 b3
    have pl62 : plV n ≤ 62 := pl_le n 62 (by decide) (by decide) (by rw [show pw 62 = 4611686018427387904 from rfl]; omega)
    by_cases hp : plV n ≤ 24
    · rw [if_pos hp]
      have := pw_le 24 16777216 rfl hp
      exact ⟨n.toNat, 0, by rw [show pw ((0 : Nat) : Int) = 1 from rfl]; omega, by omega, by decide, fun _ => by omega⟩
    · rw [if_neg hp]
      obtain ⟨b, hb⟩ : ∃ b : Nat, plV n - 24 = b := ⟨(plV n - 24).toNat, by omega⟩
      rw [hb]
      have hB := pw_pos (b : Int)
      have e1 : pw (plV n) = 16777216 * pw b := by
        rw [show plV n = 24 + (b : Int) by omega, pw_add 24 b (by decide) (by omega)]; rfl
      have e2 : pw (plV n - 1) = 8388608 * pw b := by
        rw [show plV n - 1 = 23 + (b : Int) by omega, pw_add 23 b (by decide) (by omega)]; rfl
      have hq1 : n / pw b < 16777216 := Int.ediv_lt_of_lt_mul (by omega) (by omega)
      have hq0 : 8388608 ≤ n / pw b := (Int.le_ediv_iff_mul_le (by omega)).2 (by omega)
      have hd := Int.mul_ediv_add_emod n (pw b)
      have hc : pw b * (n / pw b) = n / pw b * pw b := Int.mul_comm _ _
      by_cases hz : n % pw b = 0
      · rw [if_pos hz]
        refine ⟨(n / pw b).toNat, b, ?_, by omega, by omega, fun _ => by omega⟩
        rw [Int.toNat_of_nonneg (by omega)]
        omega
      · rw [if_neg hz]
        by_cases ho : n / pw b % 2 = 1
        · rw [if_pos ho]
          refine ⟨(n / pw b).toNat, b, ?_, by omega, by omega, fun _ => by omega⟩
          rw [Int.toNat_of_nonneg (by omega)]
        · rw [if_neg ho]
          refine ⟨(n / pw b + 1).toNat, b, ?_, by omega, by omega, fun _ => by omega⟩
          rw [Int.toNat_of_nonneg (by omega)]

theorem fw_lt {f : Ieee.Format} {a b : Nat} (ha : Ok f a) (hb : Ok f b) : fw f a < fw f b ↔ a < b := by
  obtain ⟨_, h1⟩ := fw_val f a ha.1 ha.2.1 ha.2.2
  obtain ⟨_, h2⟩ := fw_val f b hb.1 hb.2.1 hb.2.2
  constructor
  · intro h
    have := vR_lt f.fractionBits _ _ h
    omega
  · intro h
    rcases Nat.lt_trichotomy (fw f a) (fw f b) with g | g | g
    · exact g
    · rw [g] at h1; omega
    · have := vR_lt f.fractionBits _ _ g; omega

theorem fw_fin {f : Ieee.Format} {a : Nat} (ha : Ok f a) : fw f a < f.infRung := (fw_val f a ha.1 ha.2.1 ha.2.2).1

/-- The least of two. -/
theorem min_fw {P : Program} {k : FloatKind} {a b : Nat} (ha : Ok k.format a) (hb : Ok k.format b) (ts : Array TypeId) (t : TypeId) (w : World) :
    (Builtin.min_ ts t #[.float k (fw k.format a), .float k (fw k.format b)]).run P w = .ok (.float k (fw k.format (min a b))) w := by
  have o := order_pos (fw_fin ha) (fw_fin hb)
  have hl := fw_lt ha hb
  have hl2 := fw_lt hb ha
  have e : Builtin.min_ ts t #[.float k (fw k.format a), .float k (fw k.format b)] = Builtin.min2 (.float k (fw k.format a)) (.float k (fw k.format b)) := by simp [Builtin.min_]
  rw [e]
  unfold Builtin.min2
  rcases Nat.lt_trichotomy a b with h | h | h
  · rw [cmp_lt (hl.2 h)] at o
    simp only [o]
    rw [Nat.min_eq_left (Nat.le_of_lt h)]
    rfl
  · subst h
    rw [cmp_eq rfl] at o
    simp only [o]
    rw [Nat.min_self]
    split <;> rfl
  · rw [cmp_gt (hl2.2 h)] at o
    simp only [o]
    rw [Nat.min_eq_right (Nat.le_of_lt h)]
    rfl

/-- A power of two, in double. -/
theorem pow64 (k : Nat) (h : k ≤ 900) : fw Ieee.double (2 ^ (1074 + k)) = (1023 + k) * 4503599627370496 := by
  have := (word64 1 0 (by decide) (by decide) (by decide) (1074 + k) (by omega) (by omega)).1
  rw [Nat.one_mul] at this
  rw [this]
  omega

theorem one_word (B : Nat) (hB : B = 1074) : fw Ieee.double (2 ^ B) = 4607182418800017408 := by
  have := (word64 1 0 (by decide) (by decide) (by decide) B (by omega) (by omega)).1
  rw [Nat.one_mul] at this
  rw [this]
  omega

/-- One times a number. -/
theorem one_mul64 {v : Nat} (h : Ok Ieee.double v) : Ieee.double.mul 4607182418800017408 (fw Ieee.double v) = some (fw Ieee.double v) := by
  obtain ⟨B, hB⟩ : ∃ B : Nat, B = 1074 := ⟨_, rfl⟩
  rw [← one_word B hB]
  have o1 := ok64 (c := 1) (j := B) (by decide) (by omega)
  rw [Nat.one_mul] at o1
  exact mul_fw (f := Ieee.double) B (by rw [hB]; decide) o1 h (Nat.mul_comm _ _)

/-- Of double to single. -/
theorem conv_fw {a v : Nat} (ha : Ok Ieee.double a) (hv : Ok Ieee.single v) (h : a = v * 2 ^ 925) : floatToFloatBits .f64 (fw Ieee.double a) .f32 = some (fw Ieee.single v) := by
  obtain ⟨m, i, h1, h2⟩ := to_fw (f := Ieee.double) (g := Ieee.single) 925 (by decide) ha h
  unfold floatToFloatBits
  rw [if_neg (by decide)]
  have h3 : FloatKind.f64.decode (fw Ieee.double a) = .number false m i := h1
  rw [h3]
  have h4 : FloatKind.f32.encode (.number false m i) = fw Ieee.single v := h2
  simp only [h4]
  have h5 : (FloatKind.f32.decode (fw Ieee.single v)).isInfinity = false := by
    obtain ⟨m2, k2, h6, _⟩ := read_fw hv
    show (Ieee.single.read (fw Ieee.single v)).isInfinity = false
    rw [h6]
    rfl
  rw [h5]
  rfl

theorem or_one (q : Nat) : q ||| 1 = if q % 2 = 1 then q else q + 1 := by
  have h2 := Nat.two_pow_add_eq_or_of_lt (show 1 < 2 ^ 1 by decide) (q / 2)
  by_cases h : q % 2 = 1
  · rw [if_pos h]
    have e : q = 2 ^ 1 * (q / 2) ||| 1 := by rw [← h2]; omega
    conv => lhs; rw [e]
    rw [Nat.or_assoc, Nat.or_self, ← h2]
    omega
  · rw [if_neg h]
    have e : q = 2 ^ 1 * (q / 2) := by omega
    conv => lhs; rw [e]
    rw [← h2]
    omega

/-- The last of the places made 1. -/
theorem or_last (q : Int) (b : Nat) (h0 : 0 ≤ q) (h1 : (q + 1) * pw b < 9223372036854775808) : bits .or .i64 (q * pw b) (pw b) = (if q % 2 = 1 then q else q + 1) * pw b := by
  obtain ⟨q, rfl⟩ := Int.eq_ofNat_of_zero_le h0
  have hp := pw_pos (b : Int)
  have e1 : pw (b : Int) = ((2 ^ b : Nat) : Int) := (pw_cast b).symm
  rw [Int.add_mul, Int.one_mul] at h1
  have q0 : 0 ≤ (q : Int) * pw b := Int.mul_nonneg (by omega) (by omega)
  rw [e1] at h1 q0 hp ⊢
  have e2 : (q : Int) * ((2 ^ b : Nat) : Int) = ((q * 2 ^ b : Nat) : Int) := by simp
  rw [e2] at h1 q0 ⊢
  rw [(bits_i64_nat _ _ (by omega) (by omega)).1]
  have e3 : q * 2 ^ b ||| 2 ^ b = (q ||| 1) * 2 ^ b := by
    have := @Nat.shiftLeft_or_distrib b q 1
    rw [Nat.shiftLeft_eq, Nat.shiftLeft_eq, Nat.shiftLeft_eq, Nat.one_mul] at this
    exact this.symm
  rw [e3, or_one]
  by_cases h : q % 2 = 1
  · rw [if_pos h, if_pos (by omega)]; simp
  · rw [if_neg h, if_neg (by omega)]
    simp
end Go.Proofs.Ytkppdcelhblgaaa
