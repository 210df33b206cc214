/-
  Contracts of the functions that the laws reach, and the plain facts that they rest on, each under the conditions that its line names; part 1.
-/
import Derived.WalkKit
namespace Go.Proofs.YtdagfocpbnamfaaDoor
open Go

/-- The power of two. -/
def pw (n : Int) : Int := 2 ^ n.toNat

/-- There is a format. -/
def goodB (e f : Int) : Bool := decide (2 ≤ e ∧ e ≤ 5 ∧ 1 ≤ f ∧ f ≤ 10)

theorem good_iff {e f : Int} : goodB e f = true ↔ 2 ≤ e ∧ e ≤ 5 ∧ 1 ≤ f ∧ f ≤ 10 := by unfold goodB; simp

theorem pw_add (a b : Int) (ha : 0 ≤ a) (hb : 0 ≤ b) : pw (a + b) = pw a * pw b := by
  unfold pw
  rw [Int.toNat_add ha hb, Int.pow_add]

theorem pw_pos (a : Int) : 1 ≤ pw a := by
  unfold pw
  have := Int.pow_pos (n := 2) (m := a.toNat) (by decide)
  omega

theorem pw_mono {a b : Int} (h : a ≤ b) : pw a ≤ pw b := by
  unfold pw
  exact_mod_cast Nat.pow_le_pow_right (n := 2) (by decide) (show a.toNat ≤ b.toNat by omega)

theorem pw_le {a : Int} (b : Int) (c : Int) (hc : pw b = c) (h : a ≤ b) : pw a ≤ c := hc ▸ pw_mono h

theorem pw_ge {a : Int} (b : Int) (c : Int) (hc : pw b = c) (h : b ≤ a) : c ≤ pw a := hc ▸ pw_mono h

theorem pw_succ (a : Int) (ha : 0 ≤ a) : pw (a + 1) = 2 * pw a := by rw [pw_add a 1 ha (by decide)]; show pw a * 2 = _; omega

theorem pw_of (n : Int) : (2 : Int) ^ n.toNat = pw n := rfl

theorem pw_nat (n : Int) : ((2 ^ n.toNat : Nat) : Int) = pw n := by unfold pw; simp

/-- What the walks want to know of a format's powers. -/
theorem pw_facts {e f : Int} (h1 : 2 ≤ e) (h2 : e ≤ 5) (h3 : 1 ≤ f) (h4 : f ≤ 10) :
    (8 ≤ pw (e + f) ∧ pw (e + f) ≤ 32768) ∧ (4 ≤ pw e ∧ pw e ≤ 32) ∧ (2 ≤ pw f ∧ pw f ≤ 1024) ∧ pw (e + f) = pw e * pw f :=
  ⟨⟨pw_ge 3 8 rfl (by omega), pw_le 15 32768 rfl (by omega)⟩, ⟨pw_ge 2 4 rfl h1, pw_le 5 32 rfl h2⟩, ⟨pw_ge 1 2 rfl h3, pw_le 10 1024 rfl h4⟩, pw_add e f (by omega) (by omega)⟩
end Go.Proofs.YtdagfocpbnamfaaDoor

