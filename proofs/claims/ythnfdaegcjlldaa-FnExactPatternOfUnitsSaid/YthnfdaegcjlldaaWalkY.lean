/-
  Contracts of the functions that compare numbers, each under the conditions that its line names.
-/
import Derived.Test.YthnfdaegcjlldaaRows
import Derived.Test.YthnfdaegcjlldaaPlain
import Derived.Test.YthnfdaegcjlldaaDefs
import Derived.Test.YthnfdaegcjlldaaWalkA
import Derived.Test.YthnfdaegcjlldaaWalkF
import Derived.Test.YthnfdaegcjlldaaWalkC
import Derived.Test.YthnfdaegcjlldaaWalkD
import Derived.Test.YthnfdaegcjlldaaWalkE
import Derived.Test.YthnfdaegcjlldaaWalkS
import Derived.Test.YthnfdaegcjlldaaWalkT
import Derived.Test.YthnfdaegcjlldaaWalkU
import Derived.Test.YthnfdaegcjlldaaWalkV
import Derived.Test.YthnfdaegcjlldaaWalkW
import Derived.Test.YthnfdaegcjlldaaWalkX
import Derived.WalkKit
import Derived.WalkSpells
import Derived.WalkLawsBesides
import Derived.StillTactics
import Derived.Laws.Pointers
import Derived.Deep.RegionHeld3
import Derived.Deep.QuietTactic
import Derived.BigQuiet
import Derived.Outline
import Derived.Lib.Hide
import Derived.RowKit3
import Derived.Carry
import Derived.IntWalk
namespace Go.Proofs.Ythnfdaegcjlldaa
open Go Go.RowKit
set_option linter.unusedSimpArgs false
set_option linter.unusedVariables false

theorem zer_iff (e f p : Int) (hp : patB e f p = true) : zerB e f p = (p % pw (e + f) == 0) := by
  obtain ⟨hg0, _, _⟩ := pat_iff.1 hp
  obtain ⟨h1, h2, h3, h4⟩ := good_iff.1 hg0
  obtain ⟨_, _, ⟨c1, c2⟩, hmul⟩ := pw_facts h1 h2 h3 h4
  obtain ⟨_, ⟨z0, z1⟩, ⟨x0, x1⟩, ⟨r0, r1⟩, _⟩ := field_bd e f p hp
  have hr : p % pw f = p % pw (e + f) % pw f := (Int.emod_emod_of_dvd p ⟨pw e, by rw [hmul, Int.mul_comm]⟩).symm
  unfold zerB
  rw [hp, Bool.true_and, Bool.eq_iff_iff]
  simp only [Bool.and_eq_true, beq_iff_eq]
  constructor
  · rintro ⟨a, b⟩
    have := Int.mul_ediv_add_emod (p % pw (e + f)) (pw f)
    rw [a, ← hr, b] at this
    omega
  · intro a
    rw [hr, a]
    exact ⟨Int.zero_ediv _, Int.zero_emod _⟩

/-- The key of a number, the same for both zeros. -/
def vkV (e f p : Int) : Int := if (p % pw (e + f) == 0) = true then 0 else keyV e f p

theorem valueKey_no (e f p : Int) (hg : numB e f p = false) (w : World) : Calls Try.prog 65 #[fmt e f, .int .i64 p] w fun rv w' => rv = .returned (.tuple #[.int .i64 0, .bool false]) ∧ Ext w w' := by
  have hz : zerB e f p = false := by
    cases hp : patB e f p
    · simp [zerB, hp]
    · cases hz : zerB e f p
      · rfl
      · have hx : numB e f p = true := by
          obtain ⟨hg0, _, _⟩ := pat_iff.1 hp
          obtain ⟨h1, h2, h3, h4⟩ := good_iff.1 hg0
          obtain ⟨_, ⟨b1, b2⟩, _, _⟩ := pw_facts h1 h2 h3 h4
          unfold zerB at hz
          rw [hp] at hz
          simp only [Bool.true_and, Bool.and_eq_true, beq_iff_eq] at hz
          unfold numB
          rw [hp, hz.1]
          simp only [Bool.true_and, Bool.or_eq_true, decide_eq_true_eq]
          exact .inl (by omega)
        rw [hg] at hx; cases hx
  go_enter Try.func65, Try.ntmps65
  go_wp2_with (first | (go_at_call 41; refine (hasZero_any e f _ _).mono ?_; rintro rv w1 ⟨rfl, hb⟩; have ns : w.heap.size < w1.heap.size := hb.lt (by first | with_reducible assumption | omega | (simp; done) | (simp; omega)); have n0 : w1.cell? ⟨w.heap.size, 0, none⟩ = some (.int .i64 e) := (hb.cells _ _ (by first | with_reducible assumption | omega | (simp; done) | (simp; omega))).trans (by first | with_reducible assumption | (simp; done) | (simp; with_reducible assumption)); have n1 : w1.cell? ⟨w.heap.size, 1, none⟩ = some (.int .i64 f) := (hb.cells _ _ (by first | with_reducible assumption | omega | (simp; done) | (simp; omega))).trans (by first | with_reducible assumption | (simp; done) | (simp; with_reducible assumption)); (first | (have nx := Ext.trans hx hb; clear hx) | (have nx := Ext.trans (hx.alloc _) hb; clear hx) | (have nx := Ext.trans hx.drew hb; clear hx) | have nx := hb); clear hb; try clear hs; try clear g0; try clear g1; have hx := nx; clear nx; have hs := ns; clear ns; have g0 := n0; clear n0; have g1 := n1; clear n1) | (go_at_call 28; refine (iOrderKey_no e f _ hg _).mono ?_; rintro rv w1 ⟨rfl, hb⟩; have ns : w.heap.size < w1.heap.size := hb.lt (by first | with_reducible assumption | omega | (simp; done) | (simp; omega)); have n0 : w1.cell? ⟨w.heap.size, 0, none⟩ = some (.int .i64 e) := (hb.cells _ _ (by first | with_reducible assumption | omega | (simp; done) | (simp; omega))).trans (by first | with_reducible assumption | (simp; done) | (simp; with_reducible assumption)); have n1 : w1.cell? ⟨w.heap.size, 1, none⟩ = some (.int .i64 f) := (hb.cells _ _ (by first | with_reducible assumption | omega | (simp; done) | (simp; omega))).trans (by first | with_reducible assumption | (simp; done) | (simp; with_reducible assumption)); (first | (have nx := Ext.trans hx hb; clear hx) | (have nx := Ext.trans (hx.alloc _) hb; clear hx) | (have nx := Ext.trans hx.drew hb; clear hx) | have nx := hb); clear hb; try clear hs; try clear g0; try clear g1; have hx := nx; clear nx; have hs := ns; clear ns; have g0 := n0; clear n0; have g1 := n1; clear n1))
  go_ret2
  exact ⟨rfl, (by repeat (first | exact Ext.refl _ | with_reducible assumption | apply Ext.alloc | apply Ext.drew | apply Ext.drewN | (refine Ext.setRow ?_ (by simp) _) | (refine Ext.setCell ?_ (by simp) _) | (refine Ext.trans ?_ (by with_reducible assumption))))⟩

theorem valueKey_yes (e f p : Int) (hg : numB e f p = true) (w : World) : Calls Try.prog 65 #[fmt e f, .int .i64 p] w fun rv w' => rv = .returned (.tuple #[.int .i64 (vkV e f p), .bool true]) ∧ Ext w w' := by
  have hq := zer_iff e f p (num_pat hg)
  cases hz : zerB e f p
  · have hk : vkV e f p = keyV e f p := by unfold vkV; rw [← hq, hz]; rfl
    have Hk := Lib.hid hk; clear hk hq
    go_enter Try.func65, Try.ntmps65
    go_wp2_with (first | (go_at_call 41; refine (hasZero_any e f _ _).mono ?_; rintro rv w1 ⟨rfl, hb⟩; have ns : w.heap.size < w1.heap.size := hb.lt (by first | with_reducible assumption | omega | (simp; done) | (simp; omega)); have n0 : w1.cell? ⟨w.heap.size, 0, none⟩ = some (.int .i64 e) := (hb.cells _ _ (by first | with_reducible assumption | omega | (simp; done) | (simp; omega))).trans (by first | with_reducible assumption | (simp; done) | (simp; with_reducible assumption)); have n1 : w1.cell? ⟨w.heap.size, 1, none⟩ = some (.int .i64 f) := (hb.cells _ _ (by first | with_reducible assumption | omega | (simp; done) | (simp; omega))).trans (by first | with_reducible assumption | (simp; done) | (simp; with_reducible assumption)); (first | (have nx := Ext.trans hx hb; clear hx) | (have nx := Ext.trans (hx.alloc _) hb; clear hx) | (have nx := Ext.trans hx.drew hb; clear hx) | have nx := hb); clear hb; try clear hs; try clear g0; try clear g1; have hx := nx; clear nx; have hs := ns; clear ns; have g0 := n0; clear n0; have g1 := n1; clear n1) | (go_at_call 28; refine (iOrderKey_yes e f _ hg _).mono ?_; rintro rv w1 ⟨rfl, hb⟩; have ns : w.heap.size < w1.heap.size := hb.lt (by first | with_reducible assumption | omega | (simp; done) | (simp; omega)); have n0 : w1.cell? ⟨w.heap.size, 0, none⟩ = some (.int .i64 e) := (hb.cells _ _ (by first | with_reducible assumption | omega | (simp; done) | (simp; omega))).trans (by first | with_reducible assumption | (simp; done) | (simp; with_reducible assumption)); have n1 : w1.cell? ⟨w.heap.size, 1, none⟩ = some (.int .i64 f) := (hb.cells _ _ (by first | with_reducible assumption | omega | (simp; done) | (simp; omega))).trans (by first | with_reducible assumption | (simp; done) | (simp; with_reducible assumption)); (first | (have nx := Ext.trans hx hb; clear hx) | (have nx := Ext.trans (hx.alloc _) hb; clear hx) | (have nx := Ext.trans hx.drew hb; clear hx) | have nx := hb); clear hb; try clear hs; try clear g0; try clear g1; have hx := nx; clear nx; have hs := ns; clear ns; have g0 := n0; clear n0; have g1 := n1; clear n1))
    go_ret2
    exact ⟨ret_ib Hk.out.symm, (by repeat (first | exact Ext.refl _ | with_reducible assumption | apply Ext.alloc | apply Ext.drew | apply Ext.drewN | (refine Ext.setRow ?_ (by simp) _) | (refine Ext.setCell ?_ (by simp) _) | (refine Ext.trans ?_ (by with_reducible assumption))))⟩
  · have hk : vkV e f p = 0 := by unfold vkV; rw [← hq, hz]; rfl
    have Hk := Lib.hid hk; clear hk hq
    go_enter Try.func65, Try.ntmps65
    go_wp2_with (first | (go_at_call 41; refine (hasZero_any e f _ _).mono ?_; rintro rv w1 ⟨rfl, hb⟩; have ns : w.heap.size < w1.heap.size := hb.lt (by first | with_reducible assumption | omega | (simp; done) | (simp; omega)); have n0 : w1.cell? ⟨w.heap.size, 0, none⟩ = some (.int .i64 e) := (hb.cells _ _ (by first | with_reducible assumption | omega | (simp; done) | (simp; omega))).trans (by first | with_reducible assumption | (simp; done) | (simp; with_reducible assumption)); have n1 : w1.cell? ⟨w.heap.size, 1, none⟩ = some (.int .i64 f) := (hb.cells _ _ (by first | with_reducible assumption | omega | (simp; done) | (simp; omega))).trans (by first | with_reducible assumption | (simp; done) | (simp; with_reducible assumption)); (first | (have nx := Ext.trans hx hb; clear hx) | (have nx := Ext.trans (hx.alloc _) hb; clear hx) | (have nx := Ext.trans hx.drew hb; clear hx) | have nx := hb); clear hb; try clear hs; try clear g0; try clear g1; have hx := nx; clear nx; have hs := ns; clear ns; have g0 := n0; clear n0; have g1 := n1; clear n1) | (go_at_call 28; refine (iOrderKey_yes e f _ hg _).mono ?_; rintro rv w1 ⟨rfl, hb⟩; have ns : w.heap.size < w1.heap.size := hb.lt (by first | with_reducible assumption | omega | (simp; done) | (simp; omega)); have n0 : w1.cell? ⟨w.heap.size, 0, none⟩ = some (.int .i64 e) := (hb.cells _ _ (by first | with_reducible assumption | omega | (simp; done) | (simp; omega))).trans (by first | with_reducible assumption | (simp; done) | (simp; with_reducible assumption)); have n1 : w1.cell? ⟨w.heap.size, 1, none⟩ = some (.int .i64 f) := (hb.cells _ _ (by first | with_reducible assumption | omega | (simp; done) | (simp; omega))).trans (by first | with_reducible assumption | (simp; done) | (simp; with_reducible assumption)); (first | (have nx := Ext.trans hx hb; clear hx) | (have nx := Ext.trans (hx.alloc _) hb; clear hx) | (have nx := Ext.trans hx.drew hb; clear hx) | have nx := hb); clear hb; try clear hs; try clear g0; try clear g1; have hx := nx; clear nx; have hs := ns; clear ns; have g0 := n0; clear n0; have g1 := n1; clear n1))
    go_ret2
    exact ⟨ret_ib Hk.out.symm, (by repeat (first | exact Ext.refl _ | with_reducible assumption | apply Ext.alloc | apply Ext.drew | apply Ext.drewN | (refine Ext.setRow ?_ (by simp) _) | (refine Ext.setCell ?_ (by simp) _) | (refine Ext.trans ?_ (by with_reducible assumption))))⟩

theorem isNaN_any (x : Int) (w : World) : Calls Try.prog 81 #[.int .i64 x] w fun rv w' => rv = .returned (.bool false) ∧ w = w' := by
  go_enter Try.func81, Try.ntmps81
  go_wp2
  go_ret
  exact ⟨rfl, rfl⟩

/-- The sign of a difference. -/
def cmpV (x y : Int) : Int := if x < y then -1 else if y < x then 1 else 0

theorem compare_any (x y : Int) (w : World) : Calls Try.prog 66 #[.int .i64 x, .int .i64 y] w fun rv w' => rv = .returned (.int .i64 (cmpV x y)) ∧ w = w' := by
  by_cases h1 : x < y
  · have hk : cmpV x y = -1 := by unfold cmpV; rw [if_pos h1]
    have Hk := Lib.hid hk; clear hk
    go_enter Try.func66, Try.ntmps66
    go_wp2_with (go_at_call 81; refine (isNaN_any _ _).mono ?_; rintro rv w1 ⟨rfl, rfl⟩)
    go_ret
    exact ⟨ret_int Hk.out.symm, rfl⟩
  · by_cases h2 : y < x
    · have hk : cmpV x y = 1 := by unfold cmpV; rw [if_neg h1, if_pos h2]
      have Hk := Lib.hid hk; clear hk
      go_enter Try.func66, Try.ntmps66
      go_wp2_with (go_at_call 81; refine (isNaN_any _ _).mono ?_; rintro rv w1 ⟨rfl, rfl⟩)
      go_ret
      exact ⟨ret_int Hk.out.symm, rfl⟩
    · have hk : cmpV x y = 0 := by unfold cmpV; rw [if_neg h1, if_neg h2]
      have Hk := Lib.hid hk; clear hk
      go_enter Try.func66, Try.ntmps66
      go_wp2_with (go_at_call 81; refine (isNaN_any _ _).mono ?_; rintro rv w1 ⟨rfl, rfl⟩)
      go_ret
      exact ⟨ret_int Hk.out.symm, rfl⟩

/-- What comparing answers. -/
def cmpB (e f a b : Int) : Bool := numB e f a && numB e f b

theorem iCompareOf_no (e f a b : Int) (hg : cmpB e f a b = false) (w : World) : Calls Try.prog 26 #[fmt e f, .int .i64 a, .int .i64 b] w fun rv w' => rv = .returned (.tuple #[.int .i64 0, .bool false]) ∧ Ext w w' := by
  cases ha : numB e f a
  · go_enter Try.func26, Try.ntmps26
    go_wp2_with (go_at_call 65; refine (valueKey_no e f a ha _).mono ?_; rintro rv w1 ⟨rfl, hb⟩; have ns : w.heap.size < w1.heap.size := hb.lt (by first | with_reducible assumption | omega | (simp; done) | (simp; omega)); have n0 : w1.cell? ⟨w.heap.size, 0, none⟩ = some (.int .i64 e) := (hb.cells _ _ (by first | with_reducible assumption | omega | (simp; done) | (simp; omega))).trans (by first | with_reducible assumption | (simp; done) | (simp; with_reducible assumption)); have n1 : w1.cell? ⟨w.heap.size, 1, none⟩ = some (.int .i64 f) := (hb.cells _ _ (by first | with_reducible assumption | omega | (simp; done) | (simp; omega))).trans (by first | with_reducible assumption | (simp; done) | (simp; with_reducible assumption)); (first | (have nx := Ext.trans hx hb; clear hx) | (have nx := Ext.trans (hx.alloc _) hb; clear hx) | (have nx := Ext.trans hx.drew hb; clear hx) | have nx := hb); clear hb; try clear hs; try clear g0; try clear g1; have hx := nx; clear nx; have hs := ns; clear ns; have g0 := n0; clear n0; have g1 := n1; clear n1)
    go_ret2
    exact ⟨rfl, (by repeat (first | exact Ext.refl _ | with_reducible assumption | apply Ext.alloc | apply Ext.drew | apply Ext.drewN | (refine Ext.setRow ?_ (by simp) _) | (refine Ext.setCell ?_ (by simp) _) | (refine Ext.trans ?_ (by with_reducible assumption))))⟩
  · have hb0 : numB e f b = false := by unfold cmpB at hg; rw [ha] at hg; simpa using hg
    go_enter Try.func26, Try.ntmps26
    go_wp2_with fail
    (go_at_call 65; refine (valueKey_yes e f a ha _).mono ?_; rintro rv w1 ⟨rfl, hb⟩; have ns : w.heap.size < w1.heap.size := hb.lt (by first | with_reducible assumption | omega | (simp; done) | (simp; omega)); have n0 : w1.cell? ⟨w.heap.size, 0, none⟩ = some (.int .i64 e) := (hb.cells _ _ (by first | with_reducible assumption | omega | (simp; done) | (simp; omega))).trans (by first | with_reducible assumption | (simp; done) | (simp; with_reducible assumption)); have n1 : w1.cell? ⟨w.heap.size, 1, none⟩ = some (.int .i64 f) := (hb.cells _ _ (by first | with_reducible assumption | omega | (simp; done) | (simp; omega))).trans (by first | with_reducible assumption | (simp; done) | (simp; with_reducible assumption)); (first | (have nx := Ext.trans hx hb; clear hx) | (have nx := Ext.trans (hx.alloc _) hb; clear hx) | (have nx := Ext.trans hx.drew hb; clear hx) | have nx := hb); clear hb; try clear hs; try clear g0; try clear g1; have hx := nx; clear nx; have hs := ns; clear ns; have g0 := n0; clear n0; have g1 := n1; clear n1)
    go_wp2_with fail
    (go_at_call 65; refine (valueKey_no e f b hb0 _).mono ?_; rintro rv w1 ⟨rfl, hb⟩; have ns : w.heap.size < w1.heap.size := hb.lt (by first | with_reducible assumption | omega | (simp; done) | (simp; omega)); have n0 : w1.cell? ⟨w.heap.size, 0, none⟩ = some (.int .i64 e) := (hb.cells _ _ (by first | with_reducible assumption | omega | (simp; done) | (simp; omega))).trans (by first | with_reducible assumption | (simp; done) | (simp; with_reducible assumption)); have n1 : w1.cell? ⟨w.heap.size, 1, none⟩ = some (.int .i64 f) := (hb.cells _ _ (by first | with_reducible assumption | omega | (simp; done) | (simp; omega))).trans (by first | with_reducible assumption | (simp; done) | (simp; with_reducible assumption)); (first | (have nx := Ext.trans hx hb; clear hx) | (have nx := Ext.trans (hx.alloc _) hb; clear hx) | (have nx := Ext.trans hx.drew hb; clear hx) | have nx := hb); clear hb; try clear hs; try clear g0; try clear g1; have hx := nx; clear nx; have hs := ns; clear ns; have g0 := n0; clear n0; have g1 := n1; clear n1)
    go_wp2_with fail
    go_ret2
    exact ⟨rfl, (by repeat (first | exact Ext.refl _ | with_reducible assumption | apply Ext.alloc | apply Ext.drew | apply Ext.drewN | (refine Ext.setRow ?_ (by simp) _) | (refine Ext.setCell ?_ (by simp) _) | (refine Ext.trans ?_ (by with_reducible assumption))))⟩

theorem iCompareOf_yes (e f a b : Int) (hg : cmpB e f a b = true) (w : World) : Calls Try.prog 26 #[fmt e f, .int .i64 a, .int .i64 b] w fun rv w' => rv = .returned (.tuple #[.int .i64 (cmpV (vkV e f a) (vkV e f b)), .bool true]) ∧ Ext w w' := by
  obtain ⟨ha, hb0⟩ : numB e f a = true ∧ numB e f b = true := by unfold cmpB at hg; simpa using hg
  go_enter Try.func26, Try.ntmps26
  go_wp2_with fail
  (go_at_call 65; refine (valueKey_yes e f a ha _).mono ?_; rintro rv w1 ⟨rfl, hb⟩; have ns : w.heap.size < w1.heap.size := hb.lt (by first | with_reducible assumption | omega | (simp; done) | (simp; omega)); have n0 : w1.cell? ⟨w.heap.size, 0, none⟩ = some (.int .i64 e) := (hb.cells _ _ (by first | with_reducible assumption | omega | (simp; done) | (simp; omega))).trans (by first | with_reducible assumption | (simp; done) | (simp; with_reducible assumption)); have n1 : w1.cell? ⟨w.heap.size, 1, none⟩ = some (.int .i64 f) := (hb.cells _ _ (by first | with_reducible assumption | omega | (simp; done) | (simp; omega))).trans (by first | with_reducible assumption | (simp; done) | (simp; with_reducible assumption)); (first | (have nx := Ext.trans hx hb; clear hx) | (have nx := Ext.trans (hx.alloc _) hb; clear hx) | (have nx := Ext.trans hx.drew hb; clear hx) | have nx := hb); clear hb; try clear hs; try clear g0; try clear g1; have hx := nx; clear nx; have hs := ns; clear ns; have g0 := n0; clear n0; have g1 := n1; clear n1)
  go_wp2_with fail
  (go_at_call 65; refine (valueKey_yes e f b hb0 _).mono ?_; rintro rv w1 ⟨rfl, hb⟩; have ns : w.heap.size < w1.heap.size := hb.lt (by first | with_reducible assumption | omega | (simp; done) | (simp; omega)); have n0 : w1.cell? ⟨w.heap.size, 0, none⟩ = some (.int .i64 e) := (hb.cells _ _ (by first | with_reducible assumption | omega | (simp; done) | (simp; omega))).trans (by first | with_reducible assumption | (simp; done) | (simp; with_reducible assumption)); have n1 : w1.cell? ⟨w.heap.size, 1, none⟩ = some (.int .i64 f) := (hb.cells _ _ (by first | with_reducible assumption | omega | (simp; done) | (simp; omega))).trans (by first | with_reducible assumption | (simp; done) | (simp; with_reducible assumption)); (first | (have nx := Ext.trans hx hb; clear hx) | (have nx := Ext.trans (hx.alloc _) hb; clear hx) | (have nx := Ext.trans hx.drew hb; clear hx) | have nx := hb); clear hb; try clear hs; try clear g0; try clear g1; have hx := nx; clear nx; have hs := ns; clear ns; have g0 := n0; clear n0; have g1 := n1; clear n1)
  go_wp2_with (go_at_call 66; refine (compare_any _ _ _).mono ?_; rintro rv w1 ⟨rfl, rfl⟩)
  go_ret2
  exact ⟨rfl, (by repeat (first | exact Ext.refl _ | with_reducible assumption | apply Ext.alloc | apply Ext.drew | apply Ext.drewN | (refine Ext.setRow ?_ (by simp) _) | (refine Ext.setCell ?_ (by simp) _) | (refine Ext.trans ?_ (by with_reducible assumption))))⟩

end Go.Proofs.Ythnfdaegcjlldaa
