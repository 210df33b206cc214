/-
  Contracts of the functions that the laws reach, and the plain facts that they rest on, each under the conditions that its line names; part 9.
-/
import Derived.Test.YtafkcgpfllloiabDoorKSN3
import Derived.Test.YtafkcgpfllloiabDoorKSN8
namespace Go.Proofs.YtafkcgpfllloiabDoor
open Go

theorem one_word (B : Nat) (hB : B = 1074) : fw Ieee.double (2 ^ B) = 4607182418800017408 := by
  have := (word64 1 0 (by decide) (by decide) (by decide) B (by omega) (by omega)).1
  rw [Nat.one_mul] at this
  rw [this]
  omega

/-- One times a number. -/
theorem one_mul64 {v : Nat} (h : Ok Ieee.double v) : Ieee.double.mul 4607182418800017408 (fw Ieee.double v) = some (fw Ieee.double v) := by
  obtain ⟨B, hB⟩ : ∃ B : Nat, B = 1074 := ⟨_, rfl⟩
  rw [← one_word B hB]
  have o1 := ok64 (c := 1) (j := B) (by decide) (by omega)
  rw [Nat.one_mul] at o1
  exact mul_fw (f := Ieee.double) B (by rw [hB]; decide) o1 h (Nat.mul_comm _ _)

/-- Of double to single. -/
theorem conv_fw {a v : Nat} (ha : Ok Ieee.double a) (hv : Ok Ieee.single v) (h : a = v * 2 ^ 925) : floatToFloatBits .f64 (fw Ieee.double a) .f32 = some (fw Ieee.single v) := by
  obtain ⟨m, i, h1, h2⟩ := to_fw (f := Ieee.double) (g := Ieee.single) 925 (by decide) ha h
  unfold floatToFloatBits
  rw [if_neg (by decide)]
  have h3 : FloatKind.f64.decode (fw Ieee.double a) = .number false m i := h1
  rw [h3]
  have h4 : FloatKind.f32.encode (.number false m i) = fw Ieee.single v := h2
  simp only [h4]
  have h5 : (FloatKind.f32.decode (fw Ieee.single v)).isInfinity = false := by
    obtain ⟨m2, k2, h6, _⟩ := read_fw hv
    show (Ieee.single.read (fw Ieee.single v)).isInfinity = false
    rw [h6]
    rfl
  rw [h5]
  rfl
end Go.Proofs.YtafkcgpfllloiabDoor

