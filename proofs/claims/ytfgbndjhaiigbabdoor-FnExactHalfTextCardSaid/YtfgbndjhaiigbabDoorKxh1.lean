/-
  Contracts of the functions that the laws reach, and the plain facts that they rest on, each under the conditions that its line names; part 1.
-/
import Derived.WalkKit
namespace Go.Proofs.YtfgbndjhaiigbabDoor
open Go

/-- The power of two. -/
def pw (n : Int) : Int := 2 ^ n.toNat

/-- There is a format. -/
def goodB (e f : Int) : Bool := decide (2 ≤ e ∧ e ≤ 5 ∧ 1 ≤ f ∧ f ≤ 10)

/-- There are a format and a pattern. -/
def patB (e f p : Int) : Bool := goodB e f && decide (0 ≤ p ∧ p < 2 * pw (e + f))

theorem good_iff {e f : Int} : goodB e f = true ↔ 2 ≤ e ∧ e ≤ 5 ∧ 1 ≤ f ∧ f ≤ 10 := by unfold goodB; simp

theorem pat_iff {e f p : Int} : patB e f p = true ↔ goodB e f = true ∧ 0 ≤ p ∧ p < 2 * pw (e + f) := by unfold patB; simp

theorem pw_add (a b : Int) (ha : 0 ≤ a) (hb : 0 ≤ b) : pw (a + b) = pw a * pw b := by
  unfold pw
  rw [Int.toNat_add ha hb, Int.pow_add]

theorem pw_pos (a : Int) : 1 ≤ pw a := by
  unfold pw
  have := Int.pow_pos (n := 2) (m := a.toNat) (by decide)
  omega

theorem pw_mono {a b : Int} (h : a ≤ b) : pw a ≤ pw b := by
  unfold pw
  exact_mod_cast Nat.pow_le_pow_right (n := 2) (by decide) (show a.toNat ≤ b.toNat by omega)

theorem pw_le {a : Int} (b : Int) (c : Int) (hc : pw b = c) (h : a ≤ b) : pw a ≤ c := hc ▸ pw_mono h

theorem pw_ge {a : Int} (b : Int) (c : Int) (hc : pw b = c) (h : b ≤ a) : c ≤ pw a := hc ▸ pw_mono h

theorem pw_succ (a : Int) (ha : 0 ≤ a) : pw (a + 1) = 2 * pw a := by rw [pw_add a 1 ha (by decide)]; show pw a * 2 = _; omega

theorem pw_of (n : Int) : (2 : Int) ^ n.toNat = pw n := rfl

theorem pw_nat (n : Int) : ((2 ^ n.toNat : Nat) : Int) = pw n := by unfold pw; simp

/-- What the walks want to know of a format's powers. -/
theorem pw_facts {e f : Int} (h1 : 2 ≤ e) (h2 : e ≤ 5) (h3 : 1 ≤ f) (h4 : f ≤ 10) :
    (8 ≤ pw (e + f) ∧ pw (e + f) ≤ 32768) ∧ (4 ≤ pw e ∧ pw e ≤ 32) ∧ (2 ≤ pw f ∧ pw f ≤ 1024) ∧ pw (e + f) = pw e * pw f :=
  ⟨⟨pw_ge 3 8 rfl (by omega), pw_le 15 32768 rfl (by omega)⟩, ⟨pw_ge 2 4 rfl h1, pw_le 5 32 rfl h2⟩, ⟨pw_ge 1 2 rfl h3, pw_le 10 1024 rfl h4⟩, pw_add e f (by omega) (by omega)⟩

/-- The exponent field, twice. -/
theorem field_eq (p a b : Int) (hp : 0 ≤ p) (ha : 0 ≤ a) (hb : 0 ≤ b) : p / b % a = p % (a * b) / b := by
  obtain ⟨p, rfl⟩ := Int.eq_ofNat_of_zero_le hp
  obtain ⟨a, rfl⟩ := Int.eq_ofNat_of_zero_le ha
  obtain ⟨b, rfl⟩ := Int.eq_ofNat_of_zero_le hb
  have := Nat.mod_mul_right_div_self p b a
  rw [Nat.mul_comm a b |> congrArg (fun x : Nat => (x : Int)) |> fun h => (by exact_mod_cast h : (a : Int) * b = b * a)]
  exact_mod_cast this.symm

theorem i64_wrap_small (n : Int) (h0 : 0 ≤ n) (h1 : n < 2 ^ 63) : IntKind.i64.wrap n = n := by rw [IntKind.wrap_i64]; omega

/-- The lowest bits are the remainder. -/
theorem and_pw (x n : Int) (h0 : 0 ≤ x) (h1 : x < 9223372036854775808) (hn : n ≤ 62) : bits .and .i64 x (pw n - 1) = x % pw n :=
  bits_mask .i64 63 (by decide) i64_wrap_small n.toNat (by omega) x h0 (by omega)

theorem bits_i64_nat (a b : Nat) (ha : a < 9223372036854775808) (hb : b < 9223372036854775808) :
    bits .or .i64 (a : Int) (b : Int) = ((a ||| b : Nat) : Int) ∧ bits .xor .i64 (a : Int) (b : Int) = ((a ^^^ b : Nat) : Int) := by
  have hx : a ||| b < 2 ^ 63 := Nat.or_lt_two_pow (by omega) (by omega)
  have hy : a ^^^ b < 2 ^ 63 := Nat.xor_lt_two_pow (by omega) (by omega)
  have h1 : (BitVec.ofInt 64 (a : Int)).toNat = a := by
    rw [BitVec.ofInt_natCast, BitVec.toNat_ofNat]; exact Nat.mod_eq_of_lt (by omega)
  have h2 : (BitVec.ofInt 64 (b : Int)).toNat = b := by
    rw [BitVec.ofInt_natCast, BitVec.toNat_ofNat]; exact Nat.mod_eq_of_lt (by omega)
  constructor
  · show IntKind.i64.wrap ((BitVec.ofInt 64 (a : Int) ||| BitVec.ofInt 64 (b : Int)).toNat : Int) = _
    rw [BitVec.toNat_or, h1, h2, i64_wrap_small _ (by omega) (by omega)]
  · show IntKind.i64.wrap ((BitVec.ofInt 64 (a : Int) ^^^ BitVec.ofInt 64 (b : Int)).toNat : Int) = _
    rw [BitVec.toNat_xor, h1, h2, i64_wrap_small _ (by omega) (by omega)]

/-- Bits laid behind a number. -/
theorem or_pw (a b n : Int) (ha : 0 ≤ a) (hb : 0 ≤ b) (hbn : b < pw n) (hm : a * pw n + b < 9223372036854775808) : bits .or .i64 (a * pw n) b = a * pw n + b := by
  obtain ⟨a, rfl⟩ := Int.eq_ofNat_of_zero_le ha
  obtain ⟨b, rfl⟩ := Int.eq_ofNat_of_zero_le hb
  rw [← pw_nat] at *
  have hb' : b < 2 ^ n.toNat := by exact_mod_cast hbn
  have e : (a : Int) * ((2 ^ n.toNat : Nat) : Int) = ((2 ^ n.toNat * a : Nat) : Int) := by rw [Nat.mul_comm]; simp
  rw [e] at hm ⊢
  rw [(bits_i64_nat _ _ (by omega) (by omega)).1, ← Nat.two_pow_add_eq_or_of_lt hb' a]
  simp
end Go.Proofs.YtfgbndjhaiigbabDoor

namespace Go.Proofs.YtfgbndjhaiigbabDoor
open Go

/-- The size of a pattern with the sign 0, in units. -/
def mgV (f p : Int) : Int := if 0 < p / pw f then (p % pw f + pw f) * pw (p / pw f - 1) else p % pw f
end Go.Proofs.YtfgbndjhaiigbabDoor

namespace Go.Proofs.YtfgbndjhaiigbabDoor
open Go

/-- There are a format and a finite pattern. -/
def finB (e f p : Int) : Bool := patB e f p && decide (p % pw (e + f) / pw f < pw e - 1)

/-- There are a format and a pattern that is a number. -/
def numB (e f p : Int) : Bool := patB e f p && (decide (p % pw (e + f) / pw f < pw e - 1) || (p % pw (e + f) / pw f == pw e - 1 && p % pw f == 0))
end Go.Proofs.YtfgbndjhaiigbabDoor

