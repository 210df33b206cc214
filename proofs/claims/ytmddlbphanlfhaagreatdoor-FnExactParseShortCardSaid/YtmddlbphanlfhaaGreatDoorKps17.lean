/-
  Contracts of the functions that the laws reach, and the plain facts that they rest on, each under the conditions that its line names; part 17.
-/
import Derived.Test.YtmddlbphanlfhaaGreatDoorKps15
import Derived.Test.YtmddlbphanlfhaaGreatDoorKps16
namespace Go.Proofs.YtmddlbphanlfhaaGreatDoor
open Go

theorem fbits_fw (F X R : Nat) (hf0 : 1 ≤ F) (hf : F ≤ 10) (hx0 : 1 ≤ X) (hx : X < 31) (hr : R < 2 ^ F) :
    Ok Ieee.single ((R + 2 ^ F) * 2 ^ (X - 1) * 2 ^ 149) ∧ fbitsN F X R = fw Ieee.single ((R + 2 ^ F) * 2 ^ (X - 1) * 2 ^ 149) := by
  have e0 : (R + 2 ^ F) * 2 ^ (X - 1) * 2 ^ 149 = (R + 2 ^ F) * 2 ^ (X - 1 + 149) := by rw [Nat.mul_assoc, ← Nat.pow_add]
  have hF : 2 ^ F ≤ 2 ^ 10 := Nat.pow_le_pow_right (by decide) hf
  have ok : Ok Ieee.single ((R + 2 ^ F) * 2 ^ (X - 1) * 2 ^ 149) := by
    rw [e0]
    exact ok32 (by omega) (by omega)
  refine ⟨ok, (fw_of Ieee.single _ _ ok ?_).symm⟩
  have s : 2 ^ F * 2 ^ (23 - F) = 2 ^ 23 := by rw [← Nat.pow_add]; congr 1; omega
  have hM : R * 2 ^ (23 - F) < 2 ^ 23 := by
    rw [← s]
    exact Nat.mul_lt_mul_of_pos_right hr (Nat.two_pow_pos _)
  have := vR_parts 23 (X - 1 + F + 127) (R * 2 ^ (23 - F)) (by omega) hM
  unfold fbitsN
  show vR 23 _ = _
  rw [this, ← s, ← Nat.add_mul, Nat.mul_assoc, ← Nat.pow_add, e0, Nat.add_comm (2 ^ F) R]
  congr 2
  omega

theorem int_single (n : Nat) (h : n < 1024) : Ok Ieee.single (n * 2 ^ 149) ∧ floatOfInt .f32 (n : Int) = fw Ieee.single (n * 2 ^ 149) :=
  ⟨ok32 (by omega) (by decide), int_fw (f := Ieee.single) n 149 (by decide)⟩

/-- The number of a pattern, in units of 2^-149. -/
def mgN (f p : Int) : Nat := (mgV f p).toNat * 2 ^ 149

theorem mgN_cast (f p : Int) (h : 0 ≤ mgV f p) : ((mgN f p : Nat) : Int) = mgV f p * pw 149 := by
  have p149 : pw 149 = ((2 ^ 149 : Nat) : Int) := (pw_cast 149).symm
  unfold mgN
  rw [Int.natCast_mul, Int.toNat_of_nonneg h, p149]

theorem mgN_low (f r : Int) (h0 : 0 ≤ r) (h1 : r < pw f) (h2 : r < 1024) : Ok Ieee.single (mgN f r) ∧ floatOfInt .f32 r = fw Ieee.single (mgN f r) := by
  have := int_single r.toNat (by omega)
  rw [Int.toNat_of_nonneg h0] at this
  unfold mgN
  rw [mg_small f r h0 h1]
  exact this

theorem mgN_high (f x r : Int) (h3 : 1 ≤ f) (h4 : f ≤ 10) (hx0 : 1 ≤ x) (hx1 : x < 31) (hr0 : 0 ≤ r) (hr1 : r < pw f) : Ok Ieee.single (mgN f (x * pw f + r)) ∧ fbitsN f.toNat x.toNat r.toNat = fw Ieee.single (mgN f (x * pw f + r)) := by
  obtain ⟨F, hF⟩ : ∃ F : Nat, f = (F : Int) := ⟨f.toNat, by omega⟩
  obtain ⟨X, hX⟩ : ∃ X : Nat, x = (X : Int) := ⟨x.toNat, by omega⟩
  obtain ⟨R, hR⟩ : ∃ R : Nat, r = (R : Int) := ⟨r.toNat, by omega⟩
  subst hF hX hR
  have hr2 : R < 2 ^ F := by
    have := pw_cast F
    omega
  have := fbits_fw F X R (by omega) (by omega) (by omega) (by omega) hr2
  have e := (mg_of (F : Int) (X : Int) (R : Int) h3 hx0 hr0 hr1).1
  have e2 : mgV (F : Int) ((X : Int) * pw (F : Int) + R) = (((R + 2 ^ F) * 2 ^ (X - 1) : Nat) : Int) := by
    rw [e, Int.natCast_mul, Int.natCast_add, pw_cast, pw_cast]
    congr 2
    omega
  unfold mgN
  rw [e2, Int.toNat_natCast]
  simpa using this
end Go.Proofs.YtmddlbphanlfhaaGreatDoor

namespace Go.Proofs.YtmddlbphanlfhaaGreatDoor
open Go

theorem two_word : fw Ieee.single (2 * 2 ^ 149) = 1073741824 := by
  have ok : Ok Ieee.single (2 * 2 ^ 149) := ok32 (by decide) (by decide)
  refine fw_of Ieee.single _ _ ok ?_
  have := vR_parts 23 128 0 (by decide) (by decide)
  show vR 23 _ = _
  rw [show (1073741824 : Nat) = 128 * 2 ^ 23 + 0 from rfl, this, Nat.add_zero, ← Nat.pow_add]

theorem ok_two {R : Nat} (h : Ok Ieee.single R) (hR : R < 2 ^ 192) : Ok Ieee.single (2 * R) := by
  obtain ⟨⟨c, j, e, hc⟩, _, h3⟩ := h
  have hB : Ieee.single.fractionBits + (2 ^ Ieee.single.exponentBits - 2) = 277 := by decide
  obtain ⟨q, hq⟩ : ∃ q : Nat, q = 277 := ⟨_, rfl⟩
  refine ⟨⟨c, j + 1, ?_, hc⟩, ?_, h3⟩
  · rw [e, Nat.pow_succ, Nat.mul_left_comm, Nat.mul_comm 2 (2 ^ j)]
  · rw [hB, ← hq]
    have : 2 ^ 193 ≤ 2 ^ q := Nat.pow_le_pow_right (by decide) (by omega)
    have e2 : (2 : Nat) ^ 193 = 2 * 2 ^ 192 := by rw [Nat.pow_succ, Nat.mul_comm]
    omega

theorem mul_two {R : Nat} (h : Ok Ieee.single R) : floatBits .mul .f32 1073741824 (fw Ieee.single R) = some (fw Ieee.single (2 * R)) := by
  have ok : Ok Ieee.single (2 * 2 ^ 149) := ok32 (by decide) (by decide)
  have := mul_fw (f := Ieee.single) (v := 2 * R) 149 (by decide) ok h (by rw [Nat.mul_assoc, Nat.mul_comm (2 ^ 149), ← Nat.mul_assoc])
  rw [two_word] at this
  exact this

theorem order_zero {R : Nat} (h : Ok Ieee.single R) : Ieee.single.order (fw Ieee.single R) 0 = some (if R = 0 then .eq else .gt) := by
  have o0 : Ok Ieee.single 0 := by
    have := ok32 (c := 0) (j := 0) (by decide) (by decide)
    rwa [Nat.zero_mul] at this
  have := order_fw h o0
  rw [show fw Ieee.single 0 = 0 from near_zero _ _] at this
  rw [this]
  by_cases hr : R = 0
  · subst hr; rfl
  · rw [if_neg hr, cmp_gt (by omega)]
end Go.Proofs.YtmddlbphanlfhaaGreatDoor

