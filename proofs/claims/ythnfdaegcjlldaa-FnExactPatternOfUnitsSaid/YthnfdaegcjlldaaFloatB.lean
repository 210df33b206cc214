/-
  The single of a size of a finite pattern has the bits that the pattern's fields say, for all formats and fields. No Go in sight.
-/
import Derived.Test.YthnfdaegcjlldaaPlain
import Derived.Test.YthnfdaegcjlldaaFloat
namespace Go.Proofs.Ythnfdaegcjlldaa
open Go

def chbN (F X R : Nat) : Bool := floatOfInt .f32 (((R + 2 ^ F) * 2 ^ (X - 1) : Nat) : Int) == fbitsN F X R

theorem chb1 : (List.range 31).all (fun X => X == 0 || (List.range (2 ^ 1)).all fun R => chbN 1 X R) = true := by decide +kernel

theorem chb2 : (List.range 31).all (fun X => X == 0 || (List.range (2 ^ 2)).all fun R => chbN 2 X R) = true := by decide +kernel

theorem chb3 : (List.range 31).all (fun X => X == 0 || (List.range (2 ^ 3)).all fun R => chbN 3 X R) = true := by decide +kernel

theorem chb4 : (List.range 31).all (fun X => X == 0 || (List.range (2 ^ 4)).all fun R => chbN 4 X R) = true := by decide +kernel

theorem chb5 : (List.range 31).all (fun X => X == 0 || (List.range (2 ^ 5)).all fun R => chbN 5 X R) = true := by decide +kernel

theorem chb6 : (List.range 31).all (fun X => X == 0 || (List.range (2 ^ 6)).all fun R => chbN 6 X R) = true := by decide +kernel

theorem chb7 : (List.range 31).all (fun X => X == 0 || (List.range (2 ^ 7)).all fun R => chbN 7 X R) = true := by decide +kernel

theorem chb8 : (List.range 31).all (fun X => X == 0 || (List.range (2 ^ 8)).all fun R => chbN 8 X R) = true := by decide +kernel

theorem chb9 : (List.range 31).all (fun X => X == 0 || (List.range (2 ^ 9)).all fun R => chbN 9 X R) = true := by decide +kernel

theorem chb10 : (List.range 31).all (fun X => X == 0 || (List.range (2 ^ 10)).all fun R => chbN 10 X R) = true := by decide +kernel

theorem chb_of {F X R : Nat} (h : (List.range 31).all (fun X => X == 0 || (List.range (2 ^ F)).all fun R => chbN F X R) = true) (hx0 : 1 ≤ X) (hx : X < 31) (hr : R < 2 ^ F) : chbN F X R = true := by
  have h1 := List.all_eq_true.1 h X (List.mem_range.2 hx)
  have h2 : (X == 0) = false := by simp; omega
  rw [h2, Bool.false_or] at h1
  exact List.all_eq_true.1 h1 R (List.mem_range.2 hr)

theorem chb_any (F X R : Nat) (hf0 : 1 ≤ F) (hf : F ≤ 10) (hx0 : 1 ≤ X) (hx : X < 31) (hr : R < 2 ^ F) : floatOfInt .f32 (((R + 2 ^ F) * 2 ^ (X - 1) : Nat) : Int) = fbitsN F X R := by
  have h : chbN F X R = true := by
    have : F = 1 ∨ F = 2 ∨ F = 3 ∨ F = 4 ∨ F = 5 ∨ F = 6 ∨ F = 7 ∨ F = 8 ∨ F = 9 ∨ F = 10 := by omega
    rcases this with rfl | rfl | rfl | rfl | rfl | rfl | rfl | rfl | rfl | rfl
    · exact chb_of chb1 hx0 hx hr
    · exact chb_of chb2 hx0 hx hr
    · exact chb_of chb3 hx0 hx hr
    · exact chb_of chb4 hx0 hx hr
    · exact chb_of chb5 hx0 hx hr
    · exact chb_of chb6 hx0 hx hr
    · exact chb_of chb7 hx0 hx hr
    · exact chb_of chb8 hx0 hx hr
    · exact chb_of chb9 hx0 hx hr
    · exact chb_of chb10 hx0 hx hr
  unfold chbN at h
  simpa using h
end Go.Proofs.Ythnfdaegcjlldaa
