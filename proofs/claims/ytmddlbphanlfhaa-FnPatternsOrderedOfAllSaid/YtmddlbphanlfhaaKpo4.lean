/-
  Contracts of the functions that the laws reach, and the plain facts that they rest on, each under the conditions that its line names; part 4.
-/
import Derived.Test.YtmddlbphanlfhaaKpo1
import Derived.Laws.FloatArith
namespace Go.Proofs.Ytmddlbphanlfhaa
open Go

/-- The bits of the single for the fields of a normal pattern. -/
def fbitsN (F X R : Nat) : Nat := (X - 1 + F + 127) * 8388608 + R * 2 ^ (23 - F)

def chkN (F X R : Nat) : Bool := floatToIntVal .f32 (fbitsN F X R) .i64 == some (((R + 2 ^ F) * 2 ^ (X - 1) : Nat) : Int)

theorem sub_all : (List.range 1024).all (fun n => floatToIntVal .f32 (floatOfInt .f32 n) .i64 == some (n : Int)) = true := by decide +kernel

theorem chk1 : (List.range 31).all (fun X => X == 0 || (List.range (2 ^ 1)).all fun R => chkN 1 X R) = true := by decide +kernel

theorem chk2 : (List.range 31).all (fun X => X == 0 || (List.range (2 ^ 2)).all fun R => chkN 2 X R) = true := by decide +kernel

theorem chk3 : (List.range 31).all (fun X => X == 0 || (List.range (2 ^ 3)).all fun R => chkN 3 X R) = true := by decide +kernel

theorem chk4 : (List.range 31).all (fun X => X == 0 || (List.range (2 ^ 4)).all fun R => chkN 4 X R) = true := by decide +kernel

theorem chk5 : (List.range 31).all (fun X => X == 0 || (List.range (2 ^ 5)).all fun R => chkN 5 X R) = true := by decide +kernel

theorem chk6 : (List.range 31).all (fun X => X == 0 || (List.range (2 ^ 6)).all fun R => chkN 6 X R) = true := by decide +kernel

theorem chk7 : (List.range 31).all (fun X => X == 0 || (List.range (2 ^ 7)).all fun R => chkN 7 X R) = true := by decide +kernel

theorem chk8 : (List.range 31).all (fun X => X == 0 || (List.range (2 ^ 8)).all fun R => chkN 8 X R) = true := by decide +kernel

theorem chk9 : (List.range 31).all (fun X => X == 0 || (List.range (2 ^ 9)).all fun R => chkN 9 X R) = true := by decide +kernel

theorem chk10 : (List.range 31).all (fun X => X == 0 || (List.range (2 ^ 10)).all fun R => chkN 10 X R) = true := by decide +kernel

theorem chk_of {F X R : Nat} (h : (List.range 31).all (fun X => X == 0 || (List.range (2 ^ F)).all fun R => chkN F X R) = true) (hx0 : 1 ≤ X) (hx : X < 31) (hr : R < 2 ^ F) : chkN F X R = true := by
  have h1 := List.all_eq_true.1 h X (List.mem_range.2 hx)
  have h2 : (X == 0) = false := by simp; omega
  rw [h2, Bool.false_or] at h1
  exact List.all_eq_true.1 h1 R (List.mem_range.2 hr)

theorem chk_any (F X R : Nat) (hf0 : 1 ≤ F) (hf : F ≤ 10) (hx0 : 1 ≤ X) (hx : X < 31) (hr : R < 2 ^ F) : floatToIntVal .f32 (fbitsN F X R) .i64 = some (((R + 2 ^ F) * 2 ^ (X - 1) : Nat) : Int) := by
  have h : chkN F X R = true := by
    have : F = 1 ∨ F = 2 ∨ F = 3 ∨ F = 4 ∨ F = 5 ∨ F = 6 ∨ F = 7 ∨ F = 8 ∨ F = 9 ∨ F = 10 := by omega
    rcases this with rfl | rfl | rfl | rfl | rfl | rfl | rfl | rfl | rfl | rfl
    · exact chk_of chk1 hx0 hx hr
    · exact chk_of chk2 hx0 hx hr
    · exact chk_of chk3 hx0 hx hr
    · exact chk_of chk4 hx0 hx hr
    · exact chk_of chk5 hx0 hx hr
    · exact chk_of chk6 hx0 hx hr
    · exact chk_of chk7 hx0 hx hr
    · exact chk_of chk8 hx0 hx hr
    · exact chk_of chk9 hx0 hx hr
    · exact chk_of chk10 hx0 hx hr
  unfold chkN at h
  simpa using h

theorem sub_any (n : Nat) (h : n < 1024) : floatToIntVal .f32 (floatOfInt .f32 n) .i64 = some (n : Int) := by
  have := List.all_eq_true.1 sub_all n (List.mem_range.2 h)
  simpa using this
end Go.Proofs.Ytmddlbphanlfhaa

namespace Go.Proofs.Ytmddlbphanlfhaa
open Go

def chbN (F X R : Nat) : Bool := floatOfInt .f32 (((R + 2 ^ F) * 2 ^ (X - 1) : Nat) : Int) == fbitsN F X R

theorem chb1 : (List.range 31).all (fun X => X == 0 || (List.range (2 ^ 1)).all fun R => chbN 1 X R) = true := by decide +kernel

theorem chb2 : (List.range 31).all (fun X => X == 0 || (List.range (2 ^ 2)).all fun R => chbN 2 X R) = true := by decide +kernel

theorem chb3 : (List.range 31).all (fun X => X == 0 || (List.range (2 ^ 3)).all fun R => chbN 3 X R) = true := by decide +kernel

theorem chb4 : (List.range 31).all (fun X => X == 0 || (List.range (2 ^ 4)).all fun R => chbN 4 X R) = true := by decide +kernel

theorem chb5 : (List.range 31).all (fun X => X == 0 || (List.range (2 ^ 5)).all fun R => chbN 5 X R) = true := by decide +kernel

theorem chb6 : (List.range 31).all (fun X => X == 0 || (List.range (2 ^ 6)).all fun R => chbN 6 X R) = true := by decide +kernel

theorem chb7 : (List.range 31).all (fun X => X == 0 || (List.range (2 ^ 7)).all fun R => chbN 7 X R) = true := by decide +kernel

theorem chb8 : (List.range 31).all (fun X => X == 0 || (List.range (2 ^ 8)).all fun R => chbN 8 X R) = true := by decide +kernel

theorem chb9 : (List.range 31).all (fun X => X == 0 || (List.range (2 ^ 9)).all fun R => chbN 9 X R) = true := by decide +kernel

theorem chb10 : (List.range 31).all (fun X => X == 0 || (List.range (2 ^ 10)).all fun R => chbN 10 X R) = true := by decide +kernel

theorem chb_of {F X R : Nat} (h : (List.range 31).all (fun X => X == 0 || (List.range (2 ^ F)).all fun R => chbN F X R) = true) (hx0 : 1 ≤ X) (hx : X < 31) (hr : R < 2 ^ F) : chbN F X R = true := by
  have h1 := List.all_eq_true.1 h X (List.mem_range.2 hx)
  have h2 : (X == 0) = false := by simp; omega
  rw [h2, Bool.false_or] at h1
  exact List.all_eq_true.1 h1 R (List.mem_range.2 hr)

theorem chb_any (F X R : Nat) (hf0 : 1 ≤ F) (hf : F ≤ 10) (hx0 : 1 ≤ X) (hx : X < 31) (hr : R < 2 ^ F) : floatOfInt .f32 (((R + 2 ^ F) * 2 ^ (X - 1) : Nat) : Int) = fbitsN F X R := by
  have h : chbN F X R = true := by
    have : F = 1 ∨ F = 2 ∨ F = 3 ∨ F = 4 ∨ F = 5 ∨ F = 6 ∨ F = 7 ∨ F = 8 ∨ F = 9 ∨ F = 10 := by omega
    rcases this with rfl | rfl | rfl | rfl | rfl | rfl | rfl | rfl | rfl | rfl
    · exact chb_of chb1 hx0 hx hr
    · exact chb_of chb2 hx0 hx hr
    · exact chb_of chb3 hx0 hx hr
    · exact chb_of chb4 hx0 hx hr
    · exact chb_of chb5 hx0 hx hr
    · exact chb_of chb6 hx0 hx hr
    · exact chb_of chb7 hx0 hx hr
    · exact chb_of chb8 hx0 hx hr
    · exact chb_of chb9 hx0 hx hr
    · exact chb_of chb10 hx0 hx hr
  unfold chbN at h
  simpa using h
end Go.Proofs.Ytmddlbphanlfhaa

