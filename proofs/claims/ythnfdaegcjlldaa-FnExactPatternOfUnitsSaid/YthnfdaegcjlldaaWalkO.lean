/-
  Contracts of the functions that tell the next pattern downwards, each under the conditions that its line names.
-/
import Derived.Test.YthnfdaegcjlldaaRows
import Derived.Test.YthnfdaegcjlldaaPlain
import Derived.Test.YthnfdaegcjlldaaDefs
import Derived.Test.YthnfdaegcjlldaaWalkA
import Derived.Test.YthnfdaegcjlldaaWalkC
import Derived.Test.YthnfdaegcjlldaaWalkD
import Derived.Test.YthnfdaegcjlldaaWalkE
import Derived.Test.YthnfdaegcjlldaaWalkW
import Derived.Test.YthnfdaegcjlldaaWalkX
import Derived.Test.YthnfdaegcjlldaaWalkY
import Derived.Test.YthnfdaegcjlldaaWalkN
import Derived.Test.YthnfdaegcjlldaaWalkM
import Derived.WalkKit
import Derived.WalkSpells
import Derived.WalkLawsBesides
import Derived.StillTactics
import Derived.Laws.Pointers
import Derived.Deep.RegionHeld3
import Derived.Deep.QuietTactic
import Derived.BigQuiet
import Derived.Outline
import Derived.Lib.Hide
import Derived.RowKit3
import Derived.Carry
import Derived.IntWalk
namespace Go.Proofs.Ythnfdaegcjlldaa
open Go Go.RowKit
set_option linter.unusedSimpArgs false
set_option linter.unusedVariables false

/-- The pattern with the other sign. -/
def negV (e f p : Int) : Int := (1 - p / pw (e + f)) * pw (e + f) + p % pw (e + f)

theorem sum_of (e f s m : Int) (hg : goodB e f = true) (hs0 : 0 ≤ s) (hs1 : s ≤ 1) (hm0 : 0 ≤ m) (hm1 : m < pw (e + f)) :
    patB e f (s * pw (e + f) + m) = true ∧ (s * pw (e + f) + m) / pw (e + f) = s ∧ (s * pw (e + f) + m) % pw (e + f) = m := by
  obtain ⟨h1, h2, h3, h4⟩ := good_iff.1 hg
  have a1 := (pw_facts h1 h2 h3 h4).1.1
  have hs : s = 0 ∨ s = 1 := by omega
  have q1 : (s * pw (e + f) + m) % pw (e + f) = m := by rw [Int.add_comm, Int.add_mul_emod_self_right]; exact Int.emod_eq_of_lt hm0 hm1
  have q2 : (s * pw (e + f) + m) / pw (e + f) = s := by rw [Int.add_comm, Int.add_mul_ediv_right _ _ (by omega), Int.ediv_eq_zero_of_lt hm0 hm1]; omega
  refine ⟨pat_iff.2 ⟨hg, ?_, ?_⟩, q2, q1⟩ <;> rcases hs with rfl | rfl <;> omega

theorem neg_fact (e f p : Int) (hp : patB e f p = true) : patB e f (negV e f p) = true ∧ negV e f p / pw (e + f) = 1 - p / pw (e + f) ∧ negV e f p % pw (e + f) = p % pw (e + f) ∧ negV e f (negV e f p) = p := by
  obtain ⟨hg0, _, _⟩ := pat_iff.1 hp
  obtain ⟨⟨s0, s1⟩, ⟨z0, z1⟩, _, _, hsum⟩ := field_bd e f p hp
  obtain ⟨n1, n2, n3⟩ := sum_of e f (1 - p / pw (e + f)) (p % pw (e + f)) hg0 (by omega) (by omega) z0 z1
  refine ⟨n1, n2, n3, ?_⟩
  unfold negV
  rw [n2, n3, hsum.symm.symm |> fun _ => show 1 - (1 - p / pw (e + f)) = p / pw (e + f) by omega]
  exact hsum.symm

theorem neg_num (e f p : Int) (hp : patB e f p = true) : numB e f (negV e f p) = numB e f p := by
  obtain ⟨n1, n2, n3, _⟩ := neg_fact e f p hp
  have r1 := (size_fact e f p hp).2
  have r2 := (size_fact e f _ n1).2
  unfold numB
  rw [n1, hp, r2, r1, n3]

theorem up_pat (e f p : Int) (h : upB e f p = true) : patB e f (upV e f p) = true := by
  have hp := num_pat (up_num h).1
  obtain ⟨hg0, p0, p1⟩ := pat_iff.1 hp
  obtain ⟨h1, h2, h3, h4⟩ := good_iff.1 hg0
  have a1 := (pw_facts h1 h2 h3 h4).1.1
  refine pat_iff.2 ⟨hg0, ?_⟩
  unfold upV
  split
  · omega
  · rcases sign_lt e f p hp with ⟨l1, l2⟩ | ⟨l1, l2⟩
    · rw [l1]; simp only [beq_self_eq_true, if_true]; omega
    · rw [l1]; simp only [show ((1 : Int) == 0) = false from rfl, Bool.false_eq_true, if_false]; omega

/-- There is a next pattern downwards. -/
def downB (e f p : Int) : Bool := patB e f p && upB e f (negV e f p)

/-- The next pattern downwards. -/
def downV (e f p : Int) : Int := negV e f (upV e f (negV e f p))

theorem inf_pat (e f : Int) (hg : goodB e f = true) : patB e f ((pw e - 1) * pw f) = true := by
  obtain ⟨h1, h2, h3, h4⟩ := good_iff.1 hg
  have b1 := (pw_facts h1 h2 h3 h4).2.1.1
  have c1 := (pw_facts h1 h2 h3 h4).2.2.1.1
  have a1 := (pw_facts h1 h2 h3 h4).1.1
  refine pat_iff.2 ⟨hg, Int.mul_nonneg (by omega) (by omega), ?_⟩
  rw [Int.sub_mul, ← (pw_facts h1 h2 h3 h4).2.2.2]; omega

theorem down_iff (e f p : Int) (hp : patB e f p = true) : upB e f (negV e f p) = (numB e f p && !(p == negV e f ((pw e - 1) * pw f))) := by
  obtain ⟨hg0, _, _⟩ := pat_iff.1 hp
  obtain ⟨_, _, _, n4⟩ := neg_fact e f p hp
  obtain ⟨_, _, _, i4⟩ := neg_fact e f _ (inf_pat e f hg0)
  unfold upB
  rw [neg_num e f p hp]
  congr 2
  rw [Bool.eq_iff_iff]
  simp only [beq_iff_eq]
  exact ⟨fun h => by rw [← h, n4], fun h => by rw [h, i4]⟩

theorem negateV_any (e f p : Int) (hg : patB e f p = true) (w : World) : Calls Try.prog 61 #[fmt e f, .int .i64 p] w fun rv w' => rv = .returned (.int .i64 (negV e f p)) ∧ Ext w w' := fmNegate_any e f p hg w

theorem iNegateV_any (e f p : Int) (hg : patB e f p = true) (w : World) : Calls Try.prog 62 #[fmt e f, .int .i64 p] w fun rv w' => rv = .returned (.tuple #[.int .i64 (negV e f p), .bool true]) ∧ Ext w w' := iNegateOf_yes e f p hg w

theorem iNextDown_no (e f p : Int) (hg : downB e f p = false) (w : World) : Calls Try.prog 24 #[fmt e f, .int .i64 p] w fun rv w' => rv = .returned (.tuple #[.int .i64 0, .bool false]) ∧ Ext w w' := by
  cases hp : patB e f p
  · go_enter Try.func24, Try.ntmps24
    go_wp2_with (go_at_call 62; refine (iNegateOf_no e f _ hp _).mono ?_; rintro rv w1 ⟨rfl, hb⟩; have ns : w.heap.size < w1.heap.size := hb.lt (by first | with_reducible assumption | omega | (simp; done) | (simp; omega)); have n0 : w1.cell? ⟨w.heap.size, 0, none⟩ = some (.int .i64 e) := (hb.cells _ _ (by first | with_reducible assumption | omega | (simp; done) | (simp; omega))).trans (by first | with_reducible assumption | (simp; done) | (simp; with_reducible assumption)); have n1 : w1.cell? ⟨w.heap.size, 1, none⟩ = some (.int .i64 f) := (hb.cells _ _ (by first | with_reducible assumption | omega | (simp; done) | (simp; omega))).trans (by first | with_reducible assumption | (simp; done) | (simp; with_reducible assumption)); (first | (have nx := Ext.trans hx hb; clear hx) | (have nx := Ext.trans (hx.alloc _) hb; clear hx) | (have nx := Ext.trans hx.drew hb; clear hx) | have nx := hb); clear hb; try clear hs; try clear g0; try clear g1; have hx := nx; clear nx; have hs := ns; clear ns; have g0 := n0; clear n0; have g1 := n1; clear n1)
    go_ret2
    exact ⟨rfl, (by repeat (first | exact Ext.refl _ | with_reducible assumption | apply Ext.alloc | apply Ext.drew | apply Ext.drewN | (refine Ext.setRow ?_ (by simp) _) | (refine Ext.setCell ?_ (by simp) _) | (refine Ext.trans ?_ (by with_reducible assumption))))⟩
  · have hu : upB e f (negV e f p) = false := by unfold downB at hg; rw [hp] at hg; simpa using hg
    go_enter Try.func24, Try.ntmps24
    go_wp2_with fail
    (go_at_call 62; refine (iNegateV_any e f p hp _).mono ?_; rintro rv w1 ⟨rfl, hb⟩; have ns : w.heap.size < w1.heap.size := hb.lt (by first | with_reducible assumption | omega | (simp; done) | (simp; omega)); have n0 : w1.cell? ⟨w.heap.size, 0, none⟩ = some (.int .i64 e) := (hb.cells _ _ (by first | with_reducible assumption | omega | (simp; done) | (simp; omega))).trans (by first | with_reducible assumption | (simp; done) | (simp; with_reducible assumption)); have n1 : w1.cell? ⟨w.heap.size, 1, none⟩ = some (.int .i64 f) := (hb.cells _ _ (by first | with_reducible assumption | omega | (simp; done) | (simp; omega))).trans (by first | with_reducible assumption | (simp; done) | (simp; with_reducible assumption)); (first | (have nx := Ext.trans hx hb; clear hx) | (have nx := Ext.trans (hx.alloc _) hb; clear hx) | (have nx := Ext.trans hx.drew hb; clear hx) | have nx := hb); clear hb; try clear hs; try clear g0; try clear g1; have hx := nx; clear nx; have hs := ns; clear ns; have g0 := n0; clear n0; have g1 := n1; clear n1)
    go_wp2_with fail
    (go_at_call 22; refine (iNextUp_no e f _ hu _).mono ?_; rintro rv w1 ⟨rfl, hb⟩; have ns : w.heap.size < w1.heap.size := hb.lt (by first | with_reducible assumption | omega | (simp; done) | (simp; omega)); have n0 : w1.cell? ⟨w.heap.size, 0, none⟩ = some (.int .i64 e) := (hb.cells _ _ (by first | with_reducible assumption | omega | (simp; done) | (simp; omega))).trans (by first | with_reducible assumption | (simp; done) | (simp; with_reducible assumption)); have n1 : w1.cell? ⟨w.heap.size, 1, none⟩ = some (.int .i64 f) := (hb.cells _ _ (by first | with_reducible assumption | omega | (simp; done) | (simp; omega))).trans (by first | with_reducible assumption | (simp; done) | (simp; with_reducible assumption)); (first | (have nx := Ext.trans hx hb; clear hx) | (have nx := Ext.trans (hx.alloc _) hb; clear hx) | (have nx := Ext.trans hx.drew hb; clear hx) | have nx := hb); clear hb; try clear hs; try clear g0; try clear g1; have hx := nx; clear nx; have hs := ns; clear ns; have g0 := n0; clear n0; have g1 := n1; clear n1)
    go_wp2_with fail
    go_ret2
    exact ⟨rfl, (by repeat (first | exact Ext.refl _ | with_reducible assumption | apply Ext.alloc | apply Ext.drew | apply Ext.drewN | (refine Ext.setRow ?_ (by simp) _) | (refine Ext.setCell ?_ (by simp) _) | (refine Ext.trans ?_ (by with_reducible assumption))))⟩

theorem iNextDown_yes (e f p : Int) (hg : downB e f p = true) (w : World) : Calls Try.prog 24 #[fmt e f, .int .i64 p] w fun rv w' => rv = .returned (.tuple #[.int .i64 (downV e f p), .bool true]) ∧ Ext w w' := by
  obtain ⟨hp, hu⟩ : patB e f p = true ∧ upB e f (negV e f p) = true := by unfold downB at hg; simpa using hg
  have hp2 := up_pat e f _ hu
  go_enter Try.func24, Try.ntmps24
  go_wp2_with fail
  (go_at_call 62; refine (iNegateV_any e f p hp _).mono ?_; rintro rv w1 ⟨rfl, hb⟩; have ns : w.heap.size < w1.heap.size := hb.lt (by first | with_reducible assumption | omega | (simp; done) | (simp; omega)); have n0 : w1.cell? ⟨w.heap.size, 0, none⟩ = some (.int .i64 e) := (hb.cells _ _ (by first | with_reducible assumption | omega | (simp; done) | (simp; omega))).trans (by first | with_reducible assumption | (simp; done) | (simp; with_reducible assumption)); have n1 : w1.cell? ⟨w.heap.size, 1, none⟩ = some (.int .i64 f) := (hb.cells _ _ (by first | with_reducible assumption | omega | (simp; done) | (simp; omega))).trans (by first | with_reducible assumption | (simp; done) | (simp; with_reducible assumption)); (first | (have nx := Ext.trans hx hb; clear hx) | (have nx := Ext.trans (hx.alloc _) hb; clear hx) | (have nx := Ext.trans hx.drew hb; clear hx) | have nx := hb); clear hb; try clear hs; try clear g0; try clear g1; have hx := nx; clear nx; have hs := ns; clear ns; have g0 := n0; clear n0; have g1 := n1; clear n1)
  go_wp2_with fail
  (go_at_call 22; refine (iNextUp_yes e f _ hu _).mono ?_; rintro rv w1 ⟨rfl, hb⟩; have ns : w.heap.size < w1.heap.size := hb.lt (by first | with_reducible assumption | omega | (simp; done) | (simp; omega)); have n0 : w1.cell? ⟨w.heap.size, 0, none⟩ = some (.int .i64 e) := (hb.cells _ _ (by first | with_reducible assumption | omega | (simp; done) | (simp; omega))).trans (by first | with_reducible assumption | (simp; done) | (simp; with_reducible assumption)); have n1 : w1.cell? ⟨w.heap.size, 1, none⟩ = some (.int .i64 f) := (hb.cells _ _ (by first | with_reducible assumption | omega | (simp; done) | (simp; omega))).trans (by first | with_reducible assumption | (simp; done) | (simp; with_reducible assumption)); (first | (have nx := Ext.trans hx hb; clear hx) | (have nx := Ext.trans (hx.alloc _) hb; clear hx) | (have nx := Ext.trans hx.drew hb; clear hx) | have nx := hb); clear hb; try clear hs; try clear g0; try clear g1; have hx := nx; clear nx; have hs := ns; clear ns; have g0 := n0; clear n0; have g1 := n1; clear n1)
  go_wp2_with fail
  (go_at_call 62; refine (iNegateV_any e f _ hp2 _).mono ?_; rintro rv w1 ⟨rfl, hb⟩; have ns : w.heap.size < w1.heap.size := hb.lt (by first | with_reducible assumption | omega | (simp; done) | (simp; omega)); have n0 : w1.cell? ⟨w.heap.size, 0, none⟩ = some (.int .i64 e) := (hb.cells _ _ (by first | with_reducible assumption | omega | (simp; done) | (simp; omega))).trans (by first | with_reducible assumption | (simp; done) | (simp; with_reducible assumption)); have n1 : w1.cell? ⟨w.heap.size, 1, none⟩ = some (.int .i64 f) := (hb.cells _ _ (by first | with_reducible assumption | omega | (simp; done) | (simp; omega))).trans (by first | with_reducible assumption | (simp; done) | (simp; with_reducible assumption)); (first | (have nx := Ext.trans hx hb; clear hx) | (have nx := Ext.trans (hx.alloc _) hb; clear hx) | (have nx := Ext.trans hx.drew hb; clear hx) | have nx := hb); clear hb; try clear hs; try clear g0; try clear g1; have hx := nx; clear nx; have hs := ns; clear ns; have g0 := n0; clear n0; have g1 := n1; clear n1)
  go_wp2_with fail
  go_ret2
  exact ⟨rfl, (by repeat (first | exact Ext.refl _ | with_reducible assumption | apply Ext.alloc | apply Ext.drew | apply Ext.drewN | (refine Ext.setRow ?_ (by simp) _) | (refine Ext.setCell ?_ (by simp) _) | (refine Ext.trans ?_ (by with_reducible assumption))))⟩

theorem fmNumber_is (e f p : Int) (b : Bool) (h : numB e f p = b) (w : World) : Calls Try.prog 57 #[fmt e f, .int .i64 p] w fun rv w' => rv = .returned (.bool b) ∧ Ext w w' := by
  have := fmNumber_any e f p w
  rwa [h] at this

theorem sNextDown_no (e f p : Int) (hg : downB e f p = false) (w : World) : Calls Try.prog 23 #[fmt e f, .int .i64 p] w fun rv w' => rv = .returned (.tuple #[.int .i64 0, .bool false]) ∧ Ext w w' := by
  cases hn : numB e f p
  · go_enter Try.func23, Try.ntmps23
    go_wp2_with fail
    first | (go_region_with ((go_at_call 57; refine (fmNumber_is e f _ false hn _).mono ?_; rintro rv w1 ⟨rfl, hb⟩; have ns : w.heap.size < w1.heap.size := hb.lt (by first | with_reducible assumption | omega | (simp; done) | (simp; omega)); have n0 : w1.cell? ⟨w.heap.size, 0, none⟩ = some (.int .i64 e) := (hb.cells _ _ (by first | with_reducible assumption | omega | (simp; done) | (simp; omega))).trans (by first | with_reducible assumption | (simp; done) | (simp; with_reducible assumption)); have n1 : w1.cell? ⟨w.heap.size, 1, none⟩ = some (.int .i64 f) := (hb.cells _ _ (by first | with_reducible assumption | omega | (simp; done) | (simp; omega))).trans (by first | with_reducible assumption | (simp; done) | (simp; with_reducible assumption)); (first | (have nx := Ext.trans hx hb; clear hx) | (have nx := Ext.trans (hx.alloc _) hb; clear hx) | (have nx := Ext.trans hx.drew hb; clear hx) | have nx := hb); clear hb; try clear hs; try clear g0; try clear g1; have hx := nx; clear nx; have hs := ns; clear ns; have g0 := n0; clear n0; have g1 := n1; clear n1))) | fail
    all_goals
      go_wp2
      go_ret2
      exact ⟨rfl, (by repeat (first | exact Ext.refl _ | with_reducible assumption | apply Ext.alloc | apply Ext.drew | apply Ext.drewN | (refine Ext.setRow ?_ (by simp) _) | (refine Ext.setCell ?_ (by simp) _) | (refine Ext.trans ?_ (by with_reducible assumption))))⟩
  · have hp := num_pat hn
    have hp2 := hp
    have hp3 := hp
    obtain ⟨hg0, p0, _⟩ := pat_iff.1 hp
    have hip := inf_pat e f hg0
    have hi : (p == negV e f ((pw e - 1) * pw f)) = true := by unfold downB at hg; rw [hp, down_iff e f p hp, hn] at hg; simpa using hg
    go_enter Try.func23, Try.ntmps23
    go_wp2_with fail
    go_region_held3 (fun w' => w'.cell? ⟨w.heap.size, 0, none⟩ = some (.int .i64 e) ∧ w'.cell? ⟨w.heap.size, 1, none⟩ = some (.int .i64 f) ∧ w.heap.size < w'.heap.size) ((refine ⟨?_, ?_, ?_⟩ <;> first | with_reducible assumption | ((rw [cell_setRow_far _ _ _ _ _ (by omega)]); with_reducible assumption) | ((rw [setRow_size]); with_reducible assumption) | ((repeat rw [World.cell?_setCell_far _ _ _ _ (by simp)]); with_reducible assumption) | (simp; done) | (simp [World.setCell]; first | done | omega) | (simp [go_sem, World.cell?_alloc_past, World.cell?_setCell_far, *]; done))) ((first | (go_at_call 57; refine (fmNumber_any e f _ _).mono ?_; rintro rv w1 ⟨rfl, hb⟩; have ns : w.heap.size < w1.heap.size := hb.lt (by first | with_reducible assumption | omega | (simp; done) | (simp; omega)); have n0 : w1.cell? ⟨w.heap.size, 0, none⟩ = some (.int .i64 e) := (hb.cells _ _ (by first | with_reducible assumption | omega | (simp; done) | (simp; omega))).trans (by first | with_reducible assumption | (simp; done) | (simp; with_reducible assumption)); have n1 : w1.cell? ⟨w.heap.size, 1, none⟩ = some (.int .i64 f) := (hb.cells _ _ (by first | with_reducible assumption | omega | (simp; done) | (simp; omega))).trans (by first | with_reducible assumption | (simp; done) | (simp; with_reducible assumption)); (first | (have nx := Ext.trans hx hb; clear hx) | (have nx := Ext.trans (hx.alloc _) hb; clear hx) | (have nx := Ext.trans hx.drew hb; clear hx) | have nx := hb); clear hb; try clear hs; try clear g0; try clear g1; have hx := nx; clear nx; have hs := ns; clear ns; have g0 := n0; clear n0; have g1 := n1; clear n1) | (go_at_call 58; refine (fmInfinite_any e f hg0 _).mono ?_; rintro rv w1 ⟨rfl, hb⟩; have ns : w.heap.size < w1.heap.size := hb.lt (by first | with_reducible assumption | omega | (simp; done) | (simp; omega)); have n0 : w1.cell? ⟨w.heap.size, 0, none⟩ = some (.int .i64 e) := (hb.cells _ _ (by first | with_reducible assumption | omega | (simp; done) | (simp; omega))).trans (by first | with_reducible assumption | (simp; done) | (simp; with_reducible assumption)); have n1 : w1.cell? ⟨w.heap.size, 1, none⟩ = some (.int .i64 f) := (hb.cells _ _ (by first | with_reducible assumption | omega | (simp; done) | (simp; omega))).trans (by first | with_reducible assumption | (simp; done) | (simp; with_reducible assumption)); (first | (have nx := Ext.trans hx hb; clear hx) | (have nx := Ext.trans (hx.alloc _) hb; clear hx) | (have nx := Ext.trans hx.drew hb; clear hx) | have nx := hb); clear hb; try clear hs; try clear g0; try clear g1; have hx := nx; clear nx; have hs := ns; clear ns; have g0 := n0; clear n0; have g1 := n1; clear n1) | (go_at_call 61; refine (negateV_any e f _ (by first | exact hip | exact hp | exact hp2 | exact hp3) _).mono ?_; rintro rv w1 ⟨rfl, hb⟩; have ns : w.heap.size < w1.heap.size := hb.lt (by first | with_reducible assumption | omega | (simp; done) | (simp; omega)); have n0 : w1.cell? ⟨w.heap.size, 0, none⟩ = some (.int .i64 e) := (hb.cells _ _ (by first | with_reducible assumption | omega | (simp; done) | (simp; omega))).trans (by first | with_reducible assumption | (simp; done) | (simp; with_reducible assumption)); have n1 : w1.cell? ⟨w.heap.size, 1, none⟩ = some (.int .i64 f) := (hb.cells _ _ (by first | with_reducible assumption | omega | (simp; done) | (simp; omega))).trans (by first | with_reducible assumption | (simp; done) | (simp; with_reducible assumption)); (first | (have nx := Ext.trans hx hb; clear hx) | (have nx := Ext.trans (hx.alloc _) hb; clear hx) | (have nx := Ext.trans hx.drew hb; clear hx) | have nx := hb); clear hb; try clear hs; try clear g0; try clear g1; have hx := nx; clear nx; have hs := ns; clear ns; have g0 := n0; clear n0; have g1 := n1; clear n1)))
    go_wp2
    go_ret2
    exact ⟨rfl, (by repeat (first | exact Ext.refl _ | with_reducible assumption | apply Ext.alloc | apply Ext.drew | apply Ext.drewN | (refine Ext.setRow ?_ (by simp) _) | (refine Ext.setCell ?_ (by simp) _) | (refine Ext.trans ?_ (by with_reducible assumption))))⟩

theorem sNextDown_yes (e f p : Int) (hg : downB e f p = true) (w : World) : Calls Try.prog 23 #[fmt e f, .int .i64 p] w fun rv w' => rv = .returned (.tuple #[.int .i64 (downV e f p), .bool true]) ∧ Ext w w' := by
  obtain ⟨hp, hu⟩ : patB e f p = true ∧ upB e f (negV e f p) = true := by unfold downB at hg; simpa using hg
  have hu' := hu
  rw [down_iff e f p hp] at hu'
  obtain ⟨hn, hi⟩ : numB e f p = true ∧ (p == negV e f ((pw e - 1) * pw f)) = false := by simpa using hu'
  obtain ⟨hg0, p0, _⟩ := pat_iff.1 hp
  have hip := inf_pat e f hg0
  have hp2 := (neg_fact e f p hp).1
  have hp3 := up_pat e f _ hu
  clear hu'
  go_enter Try.func23, Try.ntmps23
  go_wp2_with fail
  go_region_held3 (fun w' => w'.cell? ⟨w.heap.size, 0, none⟩ = some (.int .i64 e) ∧ w'.cell? ⟨w.heap.size, 1, none⟩ = some (.int .i64 f) ∧ w.heap.size < w'.heap.size) ((refine ⟨?_, ?_, ?_⟩ <;> first | with_reducible assumption | ((rw [cell_setRow_far _ _ _ _ _ (by omega)]); with_reducible assumption) | ((rw [setRow_size]); with_reducible assumption) | ((repeat rw [World.cell?_setCell_far _ _ _ _ (by simp)]); with_reducible assumption) | (simp; done) | (simp [World.setCell]; first | done | omega) | (simp [go_sem, World.cell?_alloc_past, World.cell?_setCell_far, *]; done))) ((first | (go_at_call 57; refine (fmNumber_any e f _ _).mono ?_; rintro rv w1 ⟨rfl, hb⟩; have ns : w.heap.size < w1.heap.size := hb.lt (by first | with_reducible assumption | omega | (simp; done) | (simp; omega)); have n0 : w1.cell? ⟨w.heap.size, 0, none⟩ = some (.int .i64 e) := (hb.cells _ _ (by first | with_reducible assumption | omega | (simp; done) | (simp; omega))).trans (by first | with_reducible assumption | (simp; done) | (simp; with_reducible assumption)); have n1 : w1.cell? ⟨w.heap.size, 1, none⟩ = some (.int .i64 f) := (hb.cells _ _ (by first | with_reducible assumption | omega | (simp; done) | (simp; omega))).trans (by first | with_reducible assumption | (simp; done) | (simp; with_reducible assumption)); (first | (have nx := Ext.trans hx hb; clear hx) | (have nx := Ext.trans (hx.alloc _) hb; clear hx) | (have nx := Ext.trans hx.drew hb; clear hx) | have nx := hb); clear hb; try clear hs; try clear g0; try clear g1; have hx := nx; clear nx; have hs := ns; clear ns; have g0 := n0; clear n0; have g1 := n1; clear n1) | (go_at_call 58; refine (fmInfinite_any e f hg0 _).mono ?_; rintro rv w1 ⟨rfl, hb⟩; have ns : w.heap.size < w1.heap.size := hb.lt (by first | with_reducible assumption | omega | (simp; done) | (simp; omega)); have n0 : w1.cell? ⟨w.heap.size, 0, none⟩ = some (.int .i64 e) := (hb.cells _ _ (by first | with_reducible assumption | omega | (simp; done) | (simp; omega))).trans (by first | with_reducible assumption | (simp; done) | (simp; with_reducible assumption)); have n1 : w1.cell? ⟨w.heap.size, 1, none⟩ = some (.int .i64 f) := (hb.cells _ _ (by first | with_reducible assumption | omega | (simp; done) | (simp; omega))).trans (by first | with_reducible assumption | (simp; done) | (simp; with_reducible assumption)); (first | (have nx := Ext.trans hx hb; clear hx) | (have nx := Ext.trans (hx.alloc _) hb; clear hx) | (have nx := Ext.trans hx.drew hb; clear hx) | have nx := hb); clear hb; try clear hs; try clear g0; try clear g1; have hx := nx; clear nx; have hs := ns; clear ns; have g0 := n0; clear n0; have g1 := n1; clear n1) | (go_at_call 61; refine (negateV_any e f _ (by first | exact hip | exact hp | exact hp2 | exact hp3) _).mono ?_; rintro rv w1 ⟨rfl, hb⟩; have ns : w.heap.size < w1.heap.size := hb.lt (by first | with_reducible assumption | omega | (simp; done) | (simp; omega)); have n0 : w1.cell? ⟨w.heap.size, 0, none⟩ = some (.int .i64 e) := (hb.cells _ _ (by first | with_reducible assumption | omega | (simp; done) | (simp; omega))).trans (by first | with_reducible assumption | (simp; done) | (simp; with_reducible assumption)); have n1 : w1.cell? ⟨w.heap.size, 1, none⟩ = some (.int .i64 f) := (hb.cells _ _ (by first | with_reducible assumption | omega | (simp; done) | (simp; omega))).trans (by first | with_reducible assumption | (simp; done) | (simp; with_reducible assumption)); (first | (have nx := Ext.trans hx hb; clear hx) | (have nx := Ext.trans (hx.alloc _) hb; clear hx) | (have nx := Ext.trans hx.drew hb; clear hx) | have nx := hb); clear hb; try clear hs; try clear g0; try clear g1; have hx := nx; clear nx; have hs := ns; clear ns; have g0 := n0; clear n0; have g1 := n1; clear n1)))
  go_wp2
  go_region_held3 (fun w' => w'.cell? ⟨w.heap.size, 0, none⟩ = some (.int .i64 e) ∧ w'.cell? ⟨w.heap.size, 1, none⟩ = some (.int .i64 f) ∧ w.heap.size < w'.heap.size) ((refine ⟨?_, ?_, ?_⟩ <;> first | with_reducible assumption | ((rw [cell_setRow_far _ _ _ _ _ (by omega)]); with_reducible assumption) | ((rw [setRow_size]); with_reducible assumption) | ((repeat rw [World.cell?_setCell_far _ _ _ _ (by simp)]); with_reducible assumption) | (simp; done) | (simp [World.setCell]; first | done | omega) | (simp [go_sem, World.cell?_alloc_past, World.cell?_setCell_far, *]; done))) ((first | (go_at_call 61; refine (negateV_any e f _ (by first | exact hip | exact hp | exact hp2 | exact hp3) _).mono ?_; rintro rv w1 ⟨rfl, hb⟩; have ns : w.heap.size < w1.heap.size := hb.lt (by first | with_reducible assumption | omega | (simp; done) | (simp; omega)); have n0 : w1.cell? ⟨w.heap.size, 0, none⟩ = some (.int .i64 e) := (hb.cells _ _ (by first | with_reducible assumption | omega | (simp; done) | (simp; omega))).trans (by first | with_reducible assumption | (simp; done) | (simp; with_reducible assumption)); have n1 : w1.cell? ⟨w.heap.size, 1, none⟩ = some (.int .i64 f) := (hb.cells _ _ (by first | with_reducible assumption | omega | (simp; done) | (simp; omega))).trans (by first | with_reducible assumption | (simp; done) | (simp; with_reducible assumption)); (first | (have nx := Ext.trans hx hb; clear hx) | (have nx := Ext.trans (hx.alloc _) hb; clear hx) | (have nx := Ext.trans hx.drew hb; clear hx) | have nx := hb); clear hb; try clear hs; try clear g0; try clear g1; have hx := nx; clear nx; have hs := ns; clear ns; have g0 := n0; clear n0; have g1 := n1; clear n1) | (go_at_call 59; refine (fmUp_any e f _ (by exact hp2) _).mono ?_; rintro rv w1 ⟨rfl, hb⟩; have ns : w.heap.size < w1.heap.size := hb.lt (by first | with_reducible assumption | omega | (simp; done) | (simp; omega)); have n0 : w1.cell? ⟨w.heap.size, 0, none⟩ = some (.int .i64 e) := (hb.cells _ _ (by first | with_reducible assumption | omega | (simp; done) | (simp; omega))).trans (by first | with_reducible assumption | (simp; done) | (simp; with_reducible assumption)); have n1 : w1.cell? ⟨w.heap.size, 1, none⟩ = some (.int .i64 f) := (hb.cells _ _ (by first | with_reducible assumption | omega | (simp; done) | (simp; omega))).trans (by first | with_reducible assumption | (simp; done) | (simp; with_reducible assumption)); (first | (have nx := Ext.trans hx hb; clear hx) | (have nx := Ext.trans (hx.alloc _) hb; clear hx) | (have nx := Ext.trans hx.drew hb; clear hx) | have nx := hb); clear hb; try clear hs; try clear g0; try clear g1; have hx := nx; clear nx; have hs := ns; clear ns; have g0 := n0; clear n0; have g1 := n1; clear n1)))
  go_wp2
  go_ret2
  exact ⟨rfl, (by repeat (first | exact Ext.refl _ | with_reducible assumption | apply Ext.alloc | apply Ext.drew | apply Ext.drewN | (refine Ext.setRow ?_ (by simp) _) | (refine Ext.setCell ?_ (by simp) _) | (refine Ext.trans ?_ (by with_reducible assumption))))⟩


end Go.Proofs.Ythnfdaegcjlldaa
