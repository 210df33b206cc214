/-
  Contracts of the functions that the laws reach, and the plain facts that they rest on, each under the conditions that its line names; part 1.
-/
import Derived.WalkKit
namespace Go.Proofs.Ytmddlbphanlfhaa
open Go

/-- The power of two. -/
def pw (n : Int) : Int := 2 ^ n.toNat

/-- There is a format. -/
def goodB (e f : Int) : Bool := decide (2 ≤ e ∧ e ≤ 5 ∧ 1 ≤ f ∧ f ≤ 10)

/-- There are a format and a pattern. -/
def patB (e f p : Int) : Bool := goodB e f && decide (0 ≤ p ∧ p < 2 * pw (e + f))

theorem good_iff {e f : Int} : goodB e f = true ↔ 2 ≤ e ∧ e ≤ 5 ∧ 1 ≤ f ∧ f ≤ 10 := by unfold goodB; simp

theorem pat_iff {e f p : Int} : patB e f p = true ↔ goodB e f = true ∧ 0 ≤ p ∧ p < 2 * pw (e + f) := by unfold patB; simp

theorem pw_add (a b : Int) (ha : 0 ≤ a) (hb : 0 ≤ b) : pw (a + b) = pw a * pw b := by
  unfold pw
  rw [Int.toNat_add ha hb, Int.pow_add]

theorem pw_pos (a : Int) : 1 ≤ pw a := by
  unfold pw
  have := Int.pow_pos (n := 2) (m := a.toNat) (by decide)
  omega

theorem pw_mono {a b : Int} (h : a ≤ b) : pw a ≤ pw b := by
  unfold pw
  exact_mod_cast Nat.pow_le_pow_right (n := 2) (by decide) (show a.toNat ≤ b.toNat by omega)

theorem pw_le {a : Int} (b : Int) (c : Int) (hc : pw b = c) (h : a ≤ b) : pw a ≤ c := hc ▸ pw_mono h

theorem pw_ge {a : Int} (b : Int) (c : Int) (hc : pw b = c) (h : b ≤ a) : c ≤ pw a := hc ▸ pw_mono h

theorem pw_succ (a : Int) (ha : 0 ≤ a) : pw (a + 1) = 2 * pw a := by rw [pw_add a 1 ha (by decide)]; show pw a * 2 = _; omega

theorem pw_of (n : Int) : (2 : Int) ^ n.toNat = pw n := rfl

theorem pw_nat (n : Int) : ((2 ^ n.toNat : Nat) : Int) = pw n := by unfold pw; simp

/-- What the walks want to know of a format's powers. -/
theorem pw_facts {e f : Int} (h1 : 2 ≤ e) (h2 : e ≤ 5) (h3 : 1 ≤ f) (h4 : f ≤ 10) :
    (8 ≤ pw (e + f) ∧ pw (e + f) ≤ 32768) ∧ (4 ≤ pw e ∧ pw e ≤ 32) ∧ (2 ≤ pw f ∧ pw f ≤ 1024) ∧ pw (e + f) = pw e * pw f :=
  ⟨⟨pw_ge 3 8 rfl (by omega), pw_le 15 32768 rfl (by omega)⟩, ⟨pw_ge 2 4 rfl h1, pw_le 5 32 rfl h2⟩, ⟨pw_ge 1 2 rfl h3, pw_le 10 1024 rfl h4⟩, pw_add e f (by omega) (by omega)⟩

/-- The exponent field, twice. -/
theorem field_eq (p a b : Int) (hp : 0 ≤ p) (ha : 0 ≤ a) (hb : 0 ≤ b) : p / b % a = p % (a * b) / b := by
  obtain ⟨p, rfl⟩ := Int.eq_ofNat_of_zero_le hp
  obtain ⟨a, rfl⟩ := Int.eq_ofNat_of_zero_le ha
  obtain ⟨b, rfl⟩ := Int.eq_ofNat_of_zero_le hb
  have := Nat.mod_mul_right_div_self p b a
  rw [Nat.mul_comm a b |> congrArg (fun x : Nat => (x : Int)) |> fun h => (by exact_mod_cast h : (a : Int) * b = b * a)]
  exact_mod_cast this.symm

theorem i64_wrap_small (n : Int) (h0 : 0 ≤ n) (h1 : n < 2 ^ 63) : IntKind.i64.wrap n = n := by rw [IntKind.wrap_i64]; omega

/-- The lowest bits are the remainder. -/
theorem and_pw (x n : Int) (h0 : 0 ≤ x) (h1 : x < 9223372036854775808) (hn : n ≤ 62) : bits .and .i64 x (pw n - 1) = x % pw n :=
  bits_mask .i64 63 (by decide) i64_wrap_small n.toNat (by omega) x h0 (by omega)

theorem bits_i64_nat (a b : Nat) (ha : a < 9223372036854775808) (hb : b < 9223372036854775808) :
    bits .or .i64 (a : Int) (b : Int) = ((a ||| b : Nat) : Int) ∧ bits .xor .i64 (a : Int) (b : Int) = ((a ^^^ b : Nat) : Int) := by
  have hx : a ||| b < 2 ^ 63 := Nat.or_lt_two_pow (by omega) (by omega)
  have hy : a ^^^ b < 2 ^ 63 := Nat.xor_lt_two_pow (by omega) (by omega)
  have h1 : (BitVec.ofInt 64 (a : Int)).toNat = a := by
    rw [BitVec.ofInt_natCast, BitVec.toNat_ofNat]; exact Nat.mod_eq_of_lt (by omega)
  have h2 : (BitVec.ofInt 64 (b : Int)).toNat = b := by
    rw [BitVec.ofInt_natCast, BitVec.toNat_ofNat]; exact Nat.mod_eq_of_lt (by omega)
  constructor
  · show IntKind.i64.wrap ((BitVec.ofInt 64 (a : Int) ||| BitVec.ofInt 64 (b : Int)).toNat : Int) = _
    rw [BitVec.toNat_or, h1, h2, i64_wrap_small _ (by omega) (by omega)]
  · show IntKind.i64.wrap ((BitVec.ofInt 64 (a : Int) ^^^ BitVec.ofInt 64 (b : Int)).toNat : Int) = _
    rw [BitVec.toNat_xor, h1, h2, i64_wrap_small _ (by omega) (by omega)]

/-- Bits laid behind a number. -/
theorem or_pw (a b n : Int) (ha : 0 ≤ a) (hb : 0 ≤ b) (hbn : b < pw n) (hm : a * pw n + b < 9223372036854775808) : bits .or .i64 (a * pw n) b = a * pw n + b := by
  obtain ⟨a, rfl⟩ := Int.eq_ofNat_of_zero_le ha
  obtain ⟨b, rfl⟩ := Int.eq_ofNat_of_zero_le hb
  rw [← pw_nat] at *
  have hb' : b < 2 ^ n.toNat := by exact_mod_cast hbn
  have e : (a : Int) * ((2 ^ n.toNat : Nat) : Int) = ((2 ^ n.toNat * a : Nat) : Int) := by rw [Nat.mul_comm]; simp
  rw [e] at hm ⊢
  rw [(bits_i64_nat _ _ (by omega) (by omega)).1, ← Nat.two_pow_add_eq_or_of_lt hb' a]
  simp

theorem nat_xor_pow (p n : Nat) (h : p < 2 ^ n) : p ^^^ 2 ^ n = p + 2 ^ n := by
  apply Nat.eq_of_testBit_eq
  intro i
  rw [Nat.testBit_xor, Nat.testBit_two_pow, Nat.add_comm p]
  rcases Nat.lt_trichotomy i n with hi | hi | hi
  · rw [Nat.testBit_two_pow_add_gt hi, decide_eq_false (by omega), Bool.xor_false]
  · subst hi; rw [Nat.testBit_two_pow_add_eq]; simp
  · have h1 : p < 2 ^ i := Nat.lt_trans h (Nat.pow_lt_pow_right (by decide) hi)
    have h2 : 2 ^ n + p < 2 ^ i := Nat.lt_of_lt_of_le (by omega : 2 ^ n + p < 2 ^ (n + 1)) (Nat.pow_le_pow_right (by decide) hi)
    rw [Nat.testBit_lt_two_pow h1, Nat.testBit_lt_two_pow h2]; simp; omega

/-- The highest bit turned. -/
theorem xor_pw (p n : Int) (h0 : 0 ≤ p) (h1 : p < 2 * pw n) (hn : n ≤ 61) : bits .xor .i64 p (pw n) = (1 - p / pw n) * pw n + p % pw n := by
  have hq : pw n ≤ 2305843009213693952 := pw_le 61 _ rfl hn
  obtain ⟨p, rfl⟩ := Int.eq_ofNat_of_zero_le h0
  have hpos := pw_pos n
  rw [← pw_nat] at *
  rw [(bits_i64_nat _ _ (by omega) (by omega)).2]
  by_cases h : p < 2 ^ n.toNat
  · have q1 : (p : Int) / ((2 ^ n.toNat : Nat) : Int) = 0 := Int.ediv_eq_zero_of_lt h0 (by omega)
    have q2 : (p : Int) % ((2 ^ n.toNat : Nat) : Int) = p := Int.emod_eq_of_lt h0 (by omega)
    rw [nat_xor_pow p _ h, q1, q2]
    omega
  · have hd : p - 2 ^ n.toNat < 2 ^ n.toNat := by omega
    have q1 : (p : Int) / ((2 ^ n.toNat : Nat) : Int) = 1 := by
      rw [Int.ediv_eq_iff_of_pos (by omega)] <;> omega
    have q2 : (p : Int) % ((2 ^ n.toNat : Nat) : Int) = p - ((2 ^ n.toNat : Nat) : Int) := by
      rw [Int.emod_def, q1]; omega
    have q3 : p ^^^ 2 ^ n.toNat = p - 2 ^ n.toNat := by
      have := nat_xor_pow (p - 2 ^ n.toNat) _ hd
      rw [show p - 2 ^ n.toNat + 2 ^ n.toNat = p by omega] at this
      have t := congrArg (· ^^^ 2 ^ n.toNat) this
      simp only [Nat.xor_assoc, Nat.xor_self, Nat.xor_zero] at t
      exact t.symm
    rw [q3, q1, q2]
    omega
end Go.Proofs.Ytmddlbphanlfhaa

namespace Go.Proofs.Ytmddlbphanlfhaa
open Go

/-- The size of a pattern with the sign 0, in units. -/
def mgV (f p : Int) : Int := if 0 < p / pw f then (p % pw f + pw f) * pw (p / pw f - 1) else p % pw f

theorem mg_step (f p : Int) (hf : 1 ≤ f) (hp : 0 ≤ p) : mgV f (p + 1) = mgV f p + pw (max 0 (p / pw f - 1)) := by
  have hA : 2 ≤ pw f := pw_ge 1 2 rfl hf
  have x0 : 0 ≤ p / pw f := Int.ediv_nonneg hp (by omega)
  have r0 := Int.emod_nonneg p (show pw f ≠ 0 by omega)
  have r1 := Int.emod_lt_of_pos p (show 0 < pw f by omega)
  have hs := Int.mul_ediv_add_emod p (pw f)
  have z : pw 0 = 1 := rfl
  by_cases hr : p % pw f + 1 < pw f
  · have q1 : (p + 1) / pw f = p / pw f := by
      rw [Int.ediv_eq_iff_of_pos (by omega)]
      rw [Int.mul_comm]
      omega
    have q2 : (p + 1) % pw f = p % pw f + 1 := by
      rw [Int.emod_def, q1]; omega
    unfold mgV
    rw [q1, q2]
    by_cases hx : 0 < p / pw f
    · rw [if_pos hx, if_pos hx, show max 0 (p / pw f - 1) = p / pw f - 1 by omega, show p % pw f + 1 + pw f = (p % pw f + pw f) + 1 by omega, Int.add_mul _ 1, Int.one_mul]
    · rw [if_neg hx, if_neg hx, show max 0 (p / pw f - 1) = 0 by omega, z]
  · have q1 : (p + 1) / pw f = p / pw f + 1 := by
      rw [Int.ediv_eq_iff_of_pos (by omega)]
      rw [Int.add_mul, Int.mul_comm (p / pw f)]
      omega
    have q2 : (p + 1) % pw f = 0 := by
      rw [Int.emod_def, q1, Int.mul_add]; omega
    unfold mgV
    rw [q1, q2, if_pos (by omega), show p / pw f + 1 - 1 = p / pw f by omega, Int.zero_add]
    by_cases hx : 0 < p / pw f
    · rw [if_pos hx, show max 0 (p / pw f - 1) = p / pw f - 1 by omega]
      have e1 : pw (p / pw f) = 2 * pw (p / pw f - 1) := by
        have := pw_succ (p / pw f - 1) (by omega)
        rwa [show p / pw f - 1 + 1 = p / pw f by omega] at this
      rw [e1, show p % pw f + pw f = 2 * pw f - 1 by omega, Int.sub_mul, Int.one_mul, ← Int.mul_assoc, Int.mul_comm (pw f) 2]
      omega
    · rw [if_neg hx, show max 0 (p / pw f - 1) = 0 by omega, show p / pw f = 0 by omega, z]
      omega

theorem mg_mono (f p q : Int) (hf : 1 ≤ f) (hp : 0 ≤ p) (h : p ≤ q) : mgV f p ≤ mgV f q := by
  obtain ⟨n, rfl⟩ : ∃ n : Nat, q = p + n := ⟨(q - p).toNat, by omega⟩
  induction n with
  | zero => simp
  | succ n ih =>
    have h1 := ih (by omega)
    have h2 := mg_step f (p + n) hf (by omega)
    have h3 := pw_pos (max 0 ((p + n) / pw f - 1))
    rw [show p + ((n + 1 : Nat) : Int) = p + n + 1 by omega]
    omega

/-- p is the greatest pattern up to g of at most u units. -/
def IsBelow (f g u p : Int) : Prop := 0 ≤ p ∧ p ≤ g ∧ mgV f p ≤ u ∧ (g < p + 1 ∨ u < mgV f (p + 1))

theorem below_one (f g u p q : Int) (hf : 1 ≤ f) (hp : IsBelow f g u p) (hq : IsBelow f g u q) : p = q := by
  obtain ⟨p0, p1, p2, p3⟩ := hp
  obtain ⟨q0, q1, q2, q3⟩ := hq
  rcases Int.lt_trichotomy p q with h | h | h
  · have := mg_mono f (p + 1) q hf (by omega) (by omega); omega
  · exact h
  · have := mg_mono f (q + 1) p hf (by omega) (by omega); omega

/-- A step of the search: all bits from n on are laid. -/
def Search (f g u n p : Int) : Prop := 0 ≤ p ∧ p ≤ g ∧ mgV f p ≤ u ∧ (g < p + pw n ∨ u < mgV f (p + pw n))

theorem search_take {f g u n p : Int} (hn : 1 ≤ n) (h : Search f g u n p) (h1 : p + pw (n - 1) ≤ g) (h2 : mgV f (p + pw (n - 1)) ≤ u) : Search f g u (n - 1) (p + pw (n - 1)) := by
  obtain ⟨p0, p1, p2, p3⟩ := h
  have e1 : pw n = 2 * pw (n - 1) := by
    have := pw_succ (n - 1) (by omega)
    rwa [show n - 1 + 1 = n by omega] at this
  have q := pw_pos (n - 1)
  rw [e1, show p + 2 * pw (n - 1) = p + pw (n - 1) + pw (n - 1) by omega] at p3
  exact ⟨by omega, h1, h2, p3⟩

theorem search_leave {f g u n p : Int} (h : Search f g u n p) (h1 : g < p + pw (n - 1) ∨ u < mgV f (p + pw (n - 1))) : Search f g u (n - 1) p := ⟨h.1, h.2.1, h.2.2.1, h1⟩

theorem search_done {f g u p : Int} (h : Search f g u 0 p) : IsBelow f g u p := h
end Go.Proofs.Ytmddlbphanlfhaa

namespace Go.Proofs.Ytmddlbphanlfhaa
open Go

/-- There are a format and a finite pattern. -/
def finB (e f p : Int) : Bool := patB e f p && decide (p % pw (e + f) / pw f < pw e - 1)

/-- There are a format and a pattern that is a number. -/
def numB (e f p : Int) : Bool := patB e f p && (decide (p % pw (e + f) / pw f < pw e - 1) || (p % pw (e + f) / pw f == pw e - 1 && p % pw f == 0))

/-- There are a format and a zero. -/
def zerB (e f p : Int) : Bool := patB e f p && (p % pw (e + f) / pw f == 0 && p % pw f == 0)
end Go.Proofs.Ytmddlbphanlfhaa

namespace Go.Proofs.Ytmddlbphanlfhaa
open Go

/-- The greatest size of an end. -/
def inV (e f : Int) : Int := (pw e - 1) * pw f

theorem in_bd {e f : Int} (hg : goodB e f = true) : 6 ≤ inV e f ∧ inV e f < pw (e + f) ∧ pw (e + f) ≤ 32768 := by
  obtain ⟨h1, h2, h3, h4⟩ := good_iff.1 hg
  obtain ⟨⟨a1, a2⟩, ⟨b1, b2⟩, ⟨c1, c2⟩, hmul⟩ := pw_facts h1 h2 h3 h4
  have h5 := Int.mul_le_mul (show 3 ≤ pw e - 1 by omega) c1 (by decide) (by omega)
  unfold inV
  rw [Int.sub_mul] at h5 ⊢
  omega

theorem num_mag {e f p : Int} : numB e f p = true ↔ patB e f p = true ∧ p % pw (e + f) ≤ inV e f := by
  unfold numB inV
  rw [Bool.and_eq_true, Bool.or_eq_true, Bool.and_eq_true, decide_eq_true_eq, beq_iff_eq, beq_iff_eq]
  refine and_congr_right fun hp => ?_
  obtain ⟨hg, p0, p1⟩ := pat_iff.1 hp
  obtain ⟨h1, h2, h3, h4⟩ := good_iff.1 hg
  have hA := pw_pos f
  have hd : pw f ∣ pw (e + f) := ⟨pw e, by rw [pw_add e f (by omega) (by omega), Int.mul_comm]⟩
  have em : p % pw f = p % pw (e + f) % pw f := (Int.emod_emod_of_dvd _ hd).symm
  rw [em]
  generalize p % pw (e + f) = m
  have hm := Int.mul_ediv_add_emod m (pw f)
  have r0 := Int.emod_nonneg m (show pw f ≠ 0 by omega)
  have r1 := Int.emod_lt_of_pos m (show 0 < pw f by omega)
  constructor
  · rintro (h | ⟨h, k⟩)
    · have := Int.mul_le_mul_of_nonneg_left (show m / pw f ≤ pw e - 1 - 1 by omega) (show 0 ≤ pw f by omega)
      rw [Int.mul_sub] at this
      rw [Int.mul_comm (pw e - 1)]
      omega
    · rw [h] at hm
      rw [Int.mul_comm (pw e - 1)]
      omega
  · intro h
    by_cases hlt : m < (pw e - 1) * pw f
    · exact .inl ((Int.ediv_lt_iff_lt_mul (by omega)).2 hlt)
    · have e1 : m = (pw e - 1) * pw f := by omega
      refine .inr ⟨?_, ?_⟩
      · rw [e1]; exact Int.mul_ediv_cancel _ (by omega)
      · rw [e1]; exact Int.mul_emod_left _ _

theorem fin_mag2 {e f p : Int} : finB e f p = true ↔ patB e f p = true ∧ p % pw (e + f) < inV e f := by
  have hA := pw_pos f
  unfold finB inV
  rw [Bool.and_eq_true, decide_eq_true_eq]
  exact and_congr_right fun _ => Int.ediv_lt_iff_lt_mul (by omega)

/-- A pattern's parts. -/
theorem pat_parts {e f p : Int} (hp : patB e f p = true) : goodB e f = true ∧ ((0 ≤ p ∧ p < pw (e + f) ∧ p / pw (e + f) = 0 ∧ p % pw (e + f) = p) ∨ (pw (e + f) ≤ p ∧ p < 2 * pw (e + f) ∧ p / pw (e + f) = 1 ∧ p % pw (e + f) = p - pw (e + f))) := by
  obtain ⟨hg, p0, p1⟩ := pat_iff.1 hp
  have hP := pw_pos (e + f)
  refine ⟨hg, ?_⟩
  by_cases h : p < pw (e + f)
  · exact .inl ⟨p0, h, Int.ediv_eq_zero_of_lt p0 h, Int.emod_eq_of_lt p0 h⟩
  · refine .inr ⟨by omega, p1, ?_, ?_⟩
    · rw [show p = (p - pw (e + f)) + 1 * pw (e + f) by omega, Int.add_mul_ediv_right _ _ (by omega), Int.ediv_eq_zero_of_lt (by omega) (by omega)]; rfl
    · rw [show p = (p - pw (e + f)) + pw (e + f) by omega, Int.add_emod_right, Int.emod_eq_of_lt (by omega) (by omega)]; omega
end Go.Proofs.Ytmddlbphanlfhaa

