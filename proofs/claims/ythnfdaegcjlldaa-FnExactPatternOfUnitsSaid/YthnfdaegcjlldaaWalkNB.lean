/-
  Contracts of the functions that tell the greatest pattern of at most so many units, each under the conditions that its line names.
-/
import Derived.Test.YthnfdaegcjlldaaRows
import Derived.Test.YthnfdaegcjlldaaPlain
import Derived.Test.YthnfdaegcjlldaaDefs
import Derived.Test.YthnfdaegcjlldaaFloat
import Derived.Test.YthnfdaegcjlldaaFloatB
import Derived.Test.YthnfdaegcjlldaaBelow
import Derived.Test.YthnfdaegcjlldaaNear
import Derived.Test.YthnfdaegcjlldaaWalkA
import Derived.Test.YthnfdaegcjlldaaWalkC
import Derived.Test.YthnfdaegcjlldaaWalkD
import Derived.Test.YthnfdaegcjlldaaWalkE
import Derived.Test.YthnfdaegcjlldaaWalkW
import Derived.Test.YthnfdaegcjlldaaWalkX
import Derived.Test.YthnfdaegcjlldaaWalkBL
import Derived.Test.YthnfdaegcjlldaaWalkH
import Derived.Test.YthnfdaegcjlldaaWalkI
import Derived.Test.YthnfdaegcjlldaaWalkFF
import Derived.Test.YthnfdaegcjlldaaLen
import Derived.WalkKit
import Derived.WalkSpells
import Derived.WalkLawsBesides
import Derived.StillTactics
import Derived.Laws.Pointers
import Derived.Deep.RegionHeld3
import Derived.Deep.QuietTactic
import Derived.BigQuiet
import Derived.Outline
import Derived.Lib.Hide
import Derived.RowKit3
import Derived.Carry
import Derived.IntWalk
namespace Go.Proofs.Ythnfdaegcjlldaa
open Go Go.RowKit
set_option linter.unusedSimpArgs false
set_option linter.unusedVariables false

/-- There are a format and a number of units. -/
def nbB (e f u : Int) : Bool := goodB e f && decide (0 ≤ u ∧ u ≤ 2199023255552)

/-- What is handed back. -/
def NearOut (e f u : Int) (w : World) (rv : Ending) (w' : World) : Prop := ∃ p : Int, rv = .returned (.tuple #[.int .i64 p, .bool true]) ∧ IsBelow f ((pw e - 1) * pw f - 1) u p ∧ Ext w w'

theorem nb_iff {e f u : Int} : nbB e f u = true ↔ goodB e f = true ∧ 0 ≤ u ∧ u ≤ 2199023255552 := by unfold nbB; simp

theorem sNearestBelow_no (e f u : Int) (hg : nbB e f u = false) (w : World) : Calls Try.prog 19 #[fmt e f, .int .i64 u] w fun rv w' => rv = .returned (.tuple #[.int .i64 0, .bool false]) ∧ Ext w w' := by
  cases h0 : goodB e f
  · go_enter Try.func19, Try.ntmps19
    go_wp2_with (go_at_call 45; refine (fmGood_any e f _).mono ?_; rintro rv w1 ⟨rfl, hb⟩; have ns : w.heap.size < w1.heap.size := hb.lt (by first | with_reducible assumption | omega | (simp; done) | (simp; omega)); have n0 : w1.cell? ⟨w.heap.size, 0, none⟩ = some (.int .i64 e) := (hb.cells _ _ (by first | with_reducible assumption | omega | (simp; done) | (simp; omega))).trans (by first | with_reducible assumption | (simp; done) | (simp; with_reducible assumption)); have n1 : w1.cell? ⟨w.heap.size, 1, none⟩ = some (.int .i64 f) := (hb.cells _ _ (by first | with_reducible assumption | omega | (simp; done) | (simp; omega))).trans (by first | with_reducible assumption | (simp; done) | (simp; with_reducible assumption)); (first | (have nx := Ext.trans hx hb; clear hx) | (have nx := Ext.trans (hx.alloc _) hb; clear hx) | (have nx := Ext.trans hx.drew hb; clear hx) | have nx := hb); clear hb; try clear hs; try clear g0; try clear g1; have hx := nx; clear nx; have hs := ns; clear ns; have g0 := n0; clear n0; have g1 := n1; clear n1)
    go_ret2
    exact ⟨rfl, (by repeat (first | exact Ext.refl _ | with_reducible assumption | apply Ext.alloc | apply Ext.drew | apply Ext.drewN | (refine Ext.setRow ?_ (by simp) _) | (refine Ext.setCell ?_ (by simp) _) | (refine Ext.trans ?_ (by with_reducible assumption))))⟩
  · have hd : decide (0 ≤ u ∧ u ≤ 2199023255552) = false := by unfold nbB at hg; rw [h0] at hg; simpa using hg
    clear hg
    go_enter Try.func19, Try.ntmps19
    go_wp2_with (first | (go_at_call 45; refine (fmGood_any e f _).mono ?_; rintro rv w1 ⟨rfl, hb⟩; have ns : w.heap.size < w1.heap.size := hb.lt (by first | with_reducible assumption | omega | (simp; done) | (simp; omega)); have n0 : w1.cell? ⟨w.heap.size, 0, none⟩ = some (.int .i64 e) := (hb.cells _ _ (by first | with_reducible assumption | omega | (simp; done) | (simp; omega))).trans (by first | with_reducible assumption | (simp; done) | (simp; with_reducible assumption)); have n1 : w1.cell? ⟨w.heap.size, 1, none⟩ = some (.int .i64 f) := (hb.cells _ _ (by first | with_reducible assumption | omega | (simp; done) | (simp; omega))).trans (by first | with_reducible assumption | (simp; done) | (simp; with_reducible assumption)); (first | (have nx := Ext.trans hx hb; clear hx) | (have nx := Ext.trans (hx.alloc _) hb; clear hx) | (have nx := Ext.trans hx.drew hb; clear hx) | have nx := hb); clear hb; try clear hs; try clear g0; try clear g1; have hx := nx; clear nx; have hs := ns; clear ns; have g0 := n0; clear n0; have g1 := n1; clear n1) | (go_at_call 51; refine (l1In_any _ _ _ _).mono ?_; rintro rv w1 ⟨rfl, rfl⟩))
    go_ret2
    exact ⟨rfl, (by repeat (first | exact Ext.refl _ | with_reducible assumption | apply Ext.alloc | apply Ext.drew | apply Ext.drewN | (refine Ext.setRow ?_ (by simp) _) | (refine Ext.setCell ?_ (by simp) _) | (refine Ext.trans ?_ (by with_reducible assumption))))⟩

theorem sNearestBelow_yes (e f u : Int) (hg : nbB e f u = true) (w : World) : Calls Try.prog 19 #[fmt e f, .int .i64 u] w (NearOut e f u w) := by
  obtain ⟨hg0, u0, u1⟩ := nb_iff.1 hg
  go_enter Try.func19, Try.ntmps19
  go_wp2_with (first | (go_at_call 45; refine (fmGood_any e f _).mono ?_; rintro rv w1 ⟨rfl, hb⟩; have ns : w.heap.size < w1.heap.size := hb.lt (by first | with_reducible assumption | omega | (simp; done) | (simp; omega)); have n0 : w1.cell? ⟨w.heap.size, 0, none⟩ = some (.int .i64 e) := (hb.cells _ _ (by first | with_reducible assumption | omega | (simp; done) | (simp; omega))).trans (by first | with_reducible assumption | (simp; done) | (simp; with_reducible assumption)); have n1 : w1.cell? ⟨w.heap.size, 1, none⟩ = some (.int .i64 f) := (hb.cells _ _ (by first | with_reducible assumption | omega | (simp; done) | (simp; omega))).trans (by first | with_reducible assumption | (simp; done) | (simp; with_reducible assumption)); (first | (have nx := Ext.trans hx hb; clear hx) | (have nx := Ext.trans (hx.alloc _) hb; clear hx) | (have nx := Ext.trans hx.drew hb; clear hx) | have nx := hb); clear hb; try clear hs; try clear g0; try clear g1; have hx := nx; clear nx; have hs := ns; clear ns; have g0 := n0; clear n0; have g1 := n1; clear n1) | (go_at_call 51; refine (l1In_any _ _ _ _).mono ?_; rintro rv w1 ⟨rfl, rfl⟩))
  go_at_call 47
  refine (fmBelow_any e f u hg0 u0 _).mono ?_
  rintro rv w2 ⟨q, rfl, hq, hb⟩
  go_wp2_with fail
  go_ret2
  exact ⟨q, rfl, hq, (by repeat (first | exact Ext.refl _ | with_reducible assumption | apply Ext.alloc | apply Ext.drew | apply Ext.drewN | (refine Ext.setRow ?_ (by simp) _) | (refine Ext.setCell ?_ (by simp) _) | (refine Ext.trans ?_ (by with_reducible assumption))))⟩

theorem iNearestBelow_no (e f u : Int) (hg : nbB e f u = false) (w : World) : Calls Try.prog 20 #[fmt e f, .int .i64 u] w fun rv w' => rv = .returned (.tuple #[.int .i64 0, .bool false]) ∧ Ext w w' := by
  cases h0 : goodB e f
  · go_enter Try.func20, Try.ntmps20
    go_wp2_with (go_at_call 52; refine (isFormat_any e f _).mono ?_; rintro rv w1 ⟨rfl, hb⟩; have ns : w.heap.size < w1.heap.size := hb.lt (by first | with_reducible assumption | omega | (simp; done) | (simp; omega)); have n0 : w1.cell? ⟨w.heap.size, 0, none⟩ = some (.int .i64 e) := (hb.cells _ _ (by first | with_reducible assumption | omega | (simp; done) | (simp; omega))).trans (by first | with_reducible assumption | (simp; done) | (simp; with_reducible assumption)); have n1 : w1.cell? ⟨w.heap.size, 1, none⟩ = some (.int .i64 f) := (hb.cells _ _ (by first | with_reducible assumption | omega | (simp; done) | (simp; omega))).trans (by first | with_reducible assumption | (simp; done) | (simp; with_reducible assumption)); (first | (have nx := Ext.trans hx hb; clear hx) | (have nx := Ext.trans (hx.alloc _) hb; clear hx) | (have nx := Ext.trans hx.drew hb; clear hx) | have nx := hb); clear hb; try clear hs; try clear g0; try clear g1; have hx := nx; clear nx; have hs := ns; clear ns; have g0 := n0; clear n0; have g1 := n1; clear n1)
    go_ret2
    exact ⟨rfl, (by repeat (first | exact Ext.refl _ | with_reducible assumption | apply Ext.alloc | apply Ext.drew | apply Ext.drewN | (refine Ext.setRow ?_ (by simp) _) | (refine Ext.setCell ?_ (by simp) _) | (refine Ext.trans ?_ (by with_reducible assumption))))⟩
  · have hd : ¬ (0 ≤ u ∧ u ≤ 2199023255552) := by unfold nbB at hg; rw [h0] at hg; simpa using hg
    clear hg
    by_cases hu : 0 ≤ u
    · have hu2 : ¬ u ≤ 2199023255552 := fun h => hd ⟨hu, h⟩
      clear hd
      go_enter Try.func20, Try.ntmps20
      go_wp2_with (go_at_call 52; refine (isFormat_any e f _).mono ?_; rintro rv w1 ⟨rfl, hb⟩; have ns : w.heap.size < w1.heap.size := hb.lt (by first | with_reducible assumption | omega | (simp; done) | (simp; omega)); have n0 : w1.cell? ⟨w.heap.size, 0, none⟩ = some (.int .i64 e) := (hb.cells _ _ (by first | with_reducible assumption | omega | (simp; done) | (simp; omega))).trans (by first | with_reducible assumption | (simp; done) | (simp; with_reducible assumption)); have n1 : w1.cell? ⟨w.heap.size, 1, none⟩ = some (.int .i64 f) := (hb.cells _ _ (by first | with_reducible assumption | omega | (simp; done) | (simp; omega))).trans (by first | with_reducible assumption | (simp; done) | (simp; with_reducible assumption)); (first | (have nx := Ext.trans hx hb; clear hx) | (have nx := Ext.trans (hx.alloc _) hb; clear hx) | (have nx := Ext.trans hx.drew hb; clear hx) | have nx := hb); clear hb; try clear hs; try clear g0; try clear g1; have hx := nx; clear nx; have hs := ns; clear ns; have g0 := n0; clear n0; have g1 := n1; clear n1)
      go_ret2
      exact ⟨rfl, (by repeat (first | exact Ext.refl _ | with_reducible assumption | apply Ext.alloc | apply Ext.drew | apply Ext.drewN | (refine Ext.setRow ?_ (by simp) _) | (refine Ext.setCell ?_ (by simp) _) | (refine Ext.trans ?_ (by with_reducible assumption))))⟩
    · clear hd
      go_enter Try.func20, Try.ntmps20
      go_wp2_with (go_at_call 52; refine (isFormat_any e f _).mono ?_; rintro rv w1 ⟨rfl, hb⟩; have ns : w.heap.size < w1.heap.size := hb.lt (by first | with_reducible assumption | omega | (simp; done) | (simp; omega)); have n0 : w1.cell? ⟨w.heap.size, 0, none⟩ = some (.int .i64 e) := (hb.cells _ _ (by first | with_reducible assumption | omega | (simp; done) | (simp; omega))).trans (by first | with_reducible assumption | (simp; done) | (simp; with_reducible assumption)); have n1 : w1.cell? ⟨w.heap.size, 1, none⟩ = some (.int .i64 f) := (hb.cells _ _ (by first | with_reducible assumption | omega | (simp; done) | (simp; omega))).trans (by first | with_reducible assumption | (simp; done) | (simp; with_reducible assumption)); (first | (have nx := Ext.trans hx hb; clear hx) | (have nx := Ext.trans (hx.alloc _) hb; clear hx) | (have nx := Ext.trans hx.drew hb; clear hx) | have nx := hb); clear hb; try clear hs; try clear g0; try clear g1; have hx := nx; clear nx; have hs := ns; clear ns; have g0 := n0; clear n0; have g1 := n1; clear n1)
      go_ret2
      exact ⟨rfl, (by repeat (first | exact Ext.refl _ | with_reducible assumption | apply Ext.alloc | apply Ext.drew | apply Ext.drewN | (refine Ext.setRow ?_ (by simp) _) | (refine Ext.setCell ?_ (by simp) _) | (refine Ext.trans ?_ (by with_reducible assumption))))⟩

theorem fin_great (e f : Int) (hg : goodB e f = true) : finB e f ((pw e - 1) * pw f - 1) = true := by
  obtain ⟨g0, g1⟩ := great_lt hg
  obtain ⟨h1, h2, h3, h4⟩ := good_iff.1 hg
  obtain ⟨_, ⟨b1, b2⟩, ⟨c1, c2⟩, hmul⟩ := pw_facts h1 h2 h3 h4
  have hp : patB e f ((pw e - 1) * pw f - 1) = true := pat_iff.2 ⟨hg, g0, by omega⟩
  unfold finB
  rw [hp, Bool.true_and, Int.emod_eq_of_lt g0 g1, decide_eq_true_eq]
  exact Int.ediv_lt_of_lt_mul (by omega) (by omega)

theorem iUnitsOf_great (e f : Int) (hg : goodB e f = true) (w : World) : Calls Try.prog 16 #[fmt e f, .int .i64 ((pw e - 1) * pw f - 1)] w fun rv w' => rv = .returned (.tuple #[.int .i64 (mgV f ((pw e - 1) * pw f - 1)), .bool true]) ∧ Ext w w' := by
  have := iUnitsOf_yes e f ((pw e - 1) * pw f - 1) (fin_great e f hg) w
  have hp := (fin_pat (fin_great e f hg)).1
  rwa [units_mg e f ((pw e - 1) * pw f - 1) hp (great_lt hg).2] at this

theorem frontPlaces_is (f m z : Int) (hf : 1 ≤ f) (hf2 : f ≤ 10) (hm0 : 0 ≤ m) (hm1 : m < 9223372036854775808) (hz : m / pw (bhV f m) * pw (bhV f m) = z) (w : World) : Calls Try.prog 54 #[.int .i64 m, .int .i64 (1 + f)] w fun rv w' => rv = .returned (.int .i64 z) ∧ w = w' := by
  have := frontPlaces_any f m hf hf2 hm0 hm1 w
  rwa [hz] at this

theorem fieldsOfFloat_size (e f x r : Int) (hg : goodB e f = true) (hx0 : 1 ≤ x) (hx1 : x < 31) (hr0 : 0 ≤ r) (hr1 : r < pw f) (w : World) : Calls Try.prog 56 #[fmt e f, .float .f32 (floatOfInt .f32 ((r + pw f) * pw (x - 1)))] w fun rv w' => rv = .returned (.agg #[.int .i64 0, .int .i64 x, .int .i64 r]) ∧ Ext w w' := by
  obtain ⟨h1, h2, h3, h4⟩ := good_iff.1 hg
  have h := chb_any f.toNat x.toNat r.toNat (by omega) (by omega) (by omega) (by omega) (by rw [← pw_nat] at hr1; omega)
  have e1 : (((r.toNat + 2 ^ f.toNat) * 2 ^ (x.toNat - 1) : Nat) : Int) = (r + pw f) * pw (x - 1) := by
    rw [Int.natCast_mul, Int.natCast_add, Int.toNat_of_nonneg hr0, pw_nat]
    congr 1
    rw [← pw_nat]
    congr 2
    omega
  rw [e1] at h
  rw [h]
  exact fieldsOfFloat_norm e f x r hg hx0 hx1 hr0 hr1 w

theorem near_cases (e f u : Int) (hg : goodB e f = true) (u0 : 0 ≤ u) (u1 : u ≤ 2199023255552) :
    (0 ≤ min u (mgV f ((pw e - 1) * pw f - 1)) ∧ min u (mgV f ((pw e - 1) * pw f - 1)) < 9223372036854775808) ∧ ((min u (mgV f ((pw e - 1) * pw f - 1)) < pw f ∧ min u (mgV f ((pw e - 1) * pw f - 1)) / pw (bhV f (min u (mgV f ((pw e - 1) * pw f - 1)))) * pw (bhV f (min u (mgV f ((pw e - 1) * pw f - 1)))) = min u (mgV f ((pw e - 1) * pw f - 1)) ∧ IsBelow f ((pw e - 1) * pw f - 1) u (min u (mgV f ((pw e - 1) * pw f - 1)))) ∨
      ∃ x r : Int, 1 ≤ x ∧ x < pw e - 1 ∧ 0 ≤ r ∧ r < pw f ∧ min u (mgV f ((pw e - 1) * pw f - 1)) / pw (bhV f (min u (mgV f ((pw e - 1) * pw f - 1)))) * pw (bhV f (min u (mgV f ((pw e - 1) * pw f - 1)))) = (r + pw f) * pw (x - 1) ∧ IsBelow f ((pw e - 1) * pw f - 1) u (x * pw f + r)) := by
  obtain ⟨h1, h2, h3, h4⟩ := good_iff.1 hg
  obtain ⟨_, ⟨b1, b2⟩, ⟨c1, c2⟩, hmul⟩ := pw_facts h1 h2 h3 h4
  obtain ⟨g0, g1⟩ := great_lt hg
  have m0 : 0 ≤ mgV f ((pw e - 1) * pw f - 1) := by
    have := mg_mono f 0 ((pw e - 1) * pw f - 1) h3 (by omega) g0
    rw [mg_small f 0 (by omega) (by omega)] at this
    exact this
  have hM0 : 0 ≤ min u (mgV f ((pw e - 1) * pw f - 1)) := by omega
  have hM1 : min u (mgV f ((pw e - 1) * pw f - 1)) < 9223372036854775808 := by omega
  refine ⟨⟨hM0, hM1⟩, ?_⟩
  have hb := below_of f ((pw e - 1) * pw f - 1) u
  rcases cut_cases f (min u (mgV f ((pw e - 1) * pw f - 1))) h3 hM0 hM1 with ⟨l1, l2⟩ | ⟨l0, l1, l2, l3, l4⟩
  · left
    refine ⟨l1, by rw [l2]; show min u (mgV f ((pw e - 1) * pw f - 1)) / 1 * 1 = _; rw [Int.ediv_one, Int.mul_one], hb _ h3 g0 hM0 ?_ ?_⟩
    · rw [mg_small f _ hM0 l1]; omega
    · rw [mg_step f _ h3 hM0, mg_small f _ hM0 l1]
      have := pw_pos (max 0 ((min u (mgV f ((pw e - 1) * pw f - 1))) / pw f - 1))
      omega
  · right
    have r0 : 0 ≤ min u (mgV f ((pw e - 1) * pw f - 1)) / pw (bhV f (min u (mgV f ((pw e - 1) * pw f - 1)))) - pw f := by omega
    have r1 : min u (mgV f ((pw e - 1) * pw f - 1)) / pw (bhV f (min u (mgV f ((pw e - 1) * pw f - 1)))) - pw f < pw f := by omega
    have hmg := mg_of f (bhV f (min u (mgV f ((pw e - 1) * pw f - 1))) + 1) (min u (mgV f ((pw e - 1) * pw f - 1)) / pw (bhV f (min u (mgV f ((pw e - 1) * pw f - 1)))) - pw f) h3 (by omega) r0 r1
    rw [show bhV f (min u (mgV f ((pw e - 1) * pw f - 1))) + 1 - 1 = bhV f (min u (mgV f ((pw e - 1) * pw f - 1))) by omega, show min u (mgV f ((pw e - 1) * pw f - 1)) / pw (bhV f (min u (mgV f ((pw e - 1) * pw f - 1)))) - pw f + pw f = min u (mgV f ((pw e - 1) * pw f - 1)) / pw (bhV f (min u (mgV f ((pw e - 1) * pw f - 1)))) by omega] at hmg
    have hx0 : 0 ≤ (bhV f (min u (mgV f ((pw e - 1) * pw f - 1))) + 1) * pw f := Int.mul_nonneg (by omega) (by omega)
    have hI := hb ((bhV f (min u (mgV f ((pw e - 1) * pw f - 1))) + 1) * pw f + (min u (mgV f ((pw e - 1) * pw f - 1)) / pw (bhV f (min u (mgV f ((pw e - 1) * pw f - 1)))) - pw f)) h3 g0 (by omega) (by rw [hmg.1]; exact l3) (by rw [hmg.2]; exact l4)
    refine ⟨bhV f (min u (mgV f ((pw e - 1) * pw f - 1))) + 1, min u (mgV f ((pw e - 1) * pw f - 1)) / pw (bhV f (min u (mgV f ((pw e - 1) * pw f - 1)))) - pw f, by omega, ?_, r0, r1, ?_, hI⟩
    · have h := hI.2.1
      by_cases hx : bhV f (min u (mgV f ((pw e - 1) * pw f - 1))) + 1 < pw e - 1
      · exact hx
      · have : (pw e - 1) * pw f ≤ (bhV f (min u (mgV f ((pw e - 1) * pw f - 1))) + 1) * pw f := Int.mul_le_mul_of_nonneg_right (by omega) (by omega)
        omega
    · rw [show bhV f (min u (mgV f ((pw e - 1) * pw f - 1))) + 1 - 1 = bhV f (min u (mgV f ((pw e - 1) * pw f - 1))) by omega, show min u (mgV f ((pw e - 1) * pw f - 1)) / pw (bhV f (min u (mgV f ((pw e - 1) * pw f - 1)))) - pw f + pw f = min u (mgV f ((pw e - 1) * pw f - 1)) / pw (bhV f (min u (mgV f ((pw e - 1) * pw f - 1)))) by omega]

set_option maxHeartbeats 1600000 in
theorem iNearestBelow_yes (e f u : Int) (hg : nbB e f u = true) (w : World) : Calls Try.prog 20 #[fmt e f, .int .i64 u] w (NearOut e f u w) := by
  obtain ⟨hg0, u0, u1⟩ := nb_iff.1 hg
  obtain ⟨h1, h2, h3, h4⟩ := good_iff.1 hg0
  have b1 := (pw_facts h1 h2 h3 h4).2.1.1
  have c1 := (pw_facts h1 h2 h3 h4).2.2.1.1
  have c2 := (pw_facts h1 h2 h3 h4).2.2.1.2
  obtain ⟨⟨M0, M1⟩, hc⟩ := near_cases e f u hg0 u0 u1
  rcases hc with ⟨l1, hz, hi⟩ | ⟨x, r, hx0, hx2, hr0, hr1, hz, hi⟩
  · have b0 : 0 < pw e := by omega
    have f0 : 0 < pw f := by omega
    have HZ := Lib.hid hz; have HI := Lib.hid hi; clear hz hi
    go_enter Try.func20, Try.ntmps20
    go_wp2_with (first | (go_at_call 52; refine (isFormat_any e f _).mono ?_; rintro rv w1 ⟨rfl, hb⟩; have ns : w.heap.size < w1.heap.size := hb.lt (by first | with_reducible assumption | omega | (simp; done) | (simp; omega)); have n0 : w1.cell? ⟨w.heap.size, 0, none⟩ = some (.int .i64 e) := (hb.cells _ _ (by first | with_reducible assumption | omega | (simp; done) | (simp; omega))).trans (by first | with_reducible assumption | (simp; done) | (simp; with_reducible assumption)); have n1 : w1.cell? ⟨w.heap.size, 1, none⟩ = some (.int .i64 f) := (hb.cells _ _ (by first | with_reducible assumption | omega | (simp; done) | (simp; omega))).trans (by first | with_reducible assumption | (simp; done) | (simp; with_reducible assumption)); (first | (have nx := Ext.trans hx hb; clear hx) | (have nx := Ext.trans (hx.alloc _) hb; clear hx) | (have nx := Ext.trans hx.drew hb; clear hx) | have nx := hb); clear hb; try clear hs; try clear g0; try clear g1; have hx := nx; clear nx; have hs := ns; clear ns; have g0 := n0; clear n0; have g1 := n1; clear n1) | (go_at_call 53; refine (iGreatestOf_yes e f hg0 _).mono ?_; rintro rv w1 ⟨rfl, hb⟩; have ns : w.heap.size < w1.heap.size := hb.lt (by first | with_reducible assumption | omega | (simp; done) | (simp; omega)); have n0 : w1.cell? ⟨w.heap.size, 0, none⟩ = some (.int .i64 e) := (hb.cells _ _ (by first | with_reducible assumption | omega | (simp; done) | (simp; omega))).trans (by first | with_reducible assumption | (simp; done) | (simp; with_reducible assumption)); have n1 : w1.cell? ⟨w.heap.size, 1, none⟩ = some (.int .i64 f) := (hb.cells _ _ (by first | with_reducible assumption | omega | (simp; done) | (simp; omega))).trans (by first | with_reducible assumption | (simp; done) | (simp; with_reducible assumption)); (first | (have nx := Ext.trans hx hb; clear hx) | (have nx := Ext.trans (hx.alloc _) hb; clear hx) | (have nx := Ext.trans hx.drew hb; clear hx) | have nx := hb); clear hb; try clear hs; try clear g0; try clear g1; have hx := nx; clear nx; have hs := ns; clear ns; have g0 := n0; clear n0; have g1 := n1; clear n1) | (go_at_call 16; refine (iUnitsOf_great e f hg0 _).mono ?_; rintro rv w1 ⟨rfl, hb⟩; have ns : w.heap.size < w1.heap.size := hb.lt (by first | with_reducible assumption | omega | (simp; done) | (simp; omega)); have n0 : w1.cell? ⟨w.heap.size, 0, none⟩ = some (.int .i64 e) := (hb.cells _ _ (by first | with_reducible assumption | omega | (simp; done) | (simp; omega))).trans (by first | with_reducible assumption | (simp; done) | (simp; with_reducible assumption)); have n1 : w1.cell? ⟨w.heap.size, 1, none⟩ = some (.int .i64 f) := (hb.cells _ _ (by first | with_reducible assumption | omega | (simp; done) | (simp; omega))).trans (by first | with_reducible assumption | (simp; done) | (simp; with_reducible assumption)); (first | (have nx := Ext.trans hx hb; clear hx) | (have nx := Ext.trans (hx.alloc _) hb; clear hx) | (have nx := Ext.trans hx.drew hb; clear hx) | have nx := hb); clear hb; try clear hs; try clear g0; try clear g1; have hx := nx; clear nx; have hs := ns; clear ns; have g0 := n0; clear n0; have g1 := n1; clear n1))
    (go_at_call 54; refine (frontPlaces_is f _ _ h3 h4 (by assumption) (by assumption) HZ.out _).mono ?_; rintro rv w1 ⟨rfl, rfl⟩)
    go_wp2_with fail
    go_region_held3 (fun w' => w'.cell? ⟨w.heap.size, 0, none⟩ = some (.int .i64 e) ∧ w'.cell? ⟨w.heap.size, 1, none⟩ = some (.int .i64 f) ∧ w.heap.size < w'.heap.size) ((refine ⟨?_, ?_, ?_⟩ <;> first | with_reducible assumption | ((rw [cell_setRow_far _ _ _ _ _ (by omega)]); with_reducible assumption) | ((rw [setRow_size]); with_reducible assumption) | ((repeat rw [World.cell?_setCell_far _ _ _ _ (by simp)]); with_reducible assumption) | (simp; done) | (simp [World.setCell]; first | done | omega) | (simp [go_sem, World.cell?_alloc_past, World.cell?_setCell_far, *]; done))) ((first | (go_at_call 56; refine (fieldsOfFloat_sub e f _ hg0 (by assumption) (by assumption) _).mono ?_; rintro rv w1 ⟨rfl, hb⟩; have ns : w.heap.size < w1.heap.size := hb.lt (by first | with_reducible assumption | omega | (simp; done) | (simp; omega)); have n0 : w1.cell? ⟨w.heap.size, 0, none⟩ = some (.int .i64 e) := (hb.cells _ _ (by first | with_reducible assumption | omega | (simp; done) | (simp; omega))).trans (by first | with_reducible assumption | (simp; done) | (simp; with_reducible assumption)); have n1 : w1.cell? ⟨w.heap.size, 1, none⟩ = some (.int .i64 f) := (hb.cells _ _ (by first | with_reducible assumption | omega | (simp; done) | (simp; omega))).trans (by first | with_reducible assumption | (simp; done) | (simp; with_reducible assumption)); (first | (have nx := Ext.trans hx hb; clear hx) | (have nx := Ext.trans (hx.alloc _) hb; clear hx) | (have nx := Ext.trans hx.drew hb; clear hx) | have nx := hb); clear hb; try clear hs; try clear g0; try clear g1; have hx := nx; clear nx; have hs := ns; clear ns; have g0 := n0; clear n0; have g1 := n1; clear n1) | (go_at_call 55; refine (patternOf_any e f _ _ _ hg0 (by omega) (by omega) (by omega) (by omega) (by omega) (by omega) _).mono ?_; rintro rv w1 ⟨rfl, hb⟩; have ns : w.heap.size < w1.heap.size := hb.lt (by first | with_reducible assumption | omega | (simp; done) | (simp; omega)); have n0 : w1.cell? ⟨w.heap.size, 0, none⟩ = some (.int .i64 e) := (hb.cells _ _ (by first | with_reducible assumption | omega | (simp; done) | (simp; omega))).trans (by first | with_reducible assumption | (simp; done) | (simp; with_reducible assumption)); have n1 : w1.cell? ⟨w.heap.size, 1, none⟩ = some (.int .i64 f) := (hb.cells _ _ (by first | with_reducible assumption | omega | (simp; done) | (simp; omega))).trans (by first | with_reducible assumption | (simp; done) | (simp; with_reducible assumption)); (first | (have nx := Ext.trans hx hb; clear hx) | (have nx := Ext.trans (hx.alloc _) hb; clear hx) | (have nx := Ext.trans hx.drew hb; clear hx) | have nx := hb); clear hb; try clear hs; try clear g0; try clear g1; have hx := nx; clear nx; have hs := ns; clear ns; have g0 := n0; clear n0; have g1 := n1; clear n1)))
    go_wp2
    go_ret2
    exact ⟨_, rfl, HI.out, (by repeat (first | exact Ext.refl _ | with_reducible assumption | apply Ext.alloc | apply Ext.drew | apply Ext.drewN | (refine Ext.setRow ?_ (by simp) _) | (refine Ext.setCell ?_ (by simp) _) | (refine Ext.trans ?_ (by with_reducible assumption))))⟩
  · have b2 := (pw_facts h1 h2 h3 h4).2.1.2
    have hx1 : x < 31 := by omega
    have hx3 : x < pw e := by omega
    have HZ := Lib.hid hz; have HI := Lib.hid hi; clear hz hi
    go_enter Try.func20, Try.ntmps20
    go_wp2_with (first | (go_at_call 52; refine (isFormat_any e f _).mono ?_; rintro rv w1 ⟨rfl, hb⟩; have ns : w.heap.size < w1.heap.size := hb.lt (by first | with_reducible assumption | omega | (simp; done) | (simp; omega)); have n0 : w1.cell? ⟨w.heap.size, 0, none⟩ = some (.int .i64 e) := (hb.cells _ _ (by first | with_reducible assumption | omega | (simp; done) | (simp; omega))).trans (by first | with_reducible assumption | (simp; done) | (simp; with_reducible assumption)); have n1 : w1.cell? ⟨w.heap.size, 1, none⟩ = some (.int .i64 f) := (hb.cells _ _ (by first | with_reducible assumption | omega | (simp; done) | (simp; omega))).trans (by first | with_reducible assumption | (simp; done) | (simp; with_reducible assumption)); (first | (have nx := Ext.trans hx hb; clear hx) | (have nx := Ext.trans (hx.alloc _) hb; clear hx) | (have nx := Ext.trans hx.drew hb; clear hx) | have nx := hb); clear hb; try clear hs; try clear g0; try clear g1; have hx := nx; clear nx; have hs := ns; clear ns; have g0 := n0; clear n0; have g1 := n1; clear n1) | (go_at_call 53; refine (iGreatestOf_yes e f hg0 _).mono ?_; rintro rv w1 ⟨rfl, hb⟩; have ns : w.heap.size < w1.heap.size := hb.lt (by first | with_reducible assumption | omega | (simp; done) | (simp; omega)); have n0 : w1.cell? ⟨w.heap.size, 0, none⟩ = some (.int .i64 e) := (hb.cells _ _ (by first | with_reducible assumption | omega | (simp; done) | (simp; omega))).trans (by first | with_reducible assumption | (simp; done) | (simp; with_reducible assumption)); have n1 : w1.cell? ⟨w.heap.size, 1, none⟩ = some (.int .i64 f) := (hb.cells _ _ (by first | with_reducible assumption | omega | (simp; done) | (simp; omega))).trans (by first | with_reducible assumption | (simp; done) | (simp; with_reducible assumption)); (first | (have nx := Ext.trans hx hb; clear hx) | (have nx := Ext.trans (hx.alloc _) hb; clear hx) | (have nx := Ext.trans hx.drew hb; clear hx) | have nx := hb); clear hb; try clear hs; try clear g0; try clear g1; have hx := nx; clear nx; have hs := ns; clear ns; have g0 := n0; clear n0; have g1 := n1; clear n1) | (go_at_call 16; refine (iUnitsOf_great e f hg0 _).mono ?_; rintro rv w1 ⟨rfl, hb⟩; have ns : w.heap.size < w1.heap.size := hb.lt (by first | with_reducible assumption | omega | (simp; done) | (simp; omega)); have n0 : w1.cell? ⟨w.heap.size, 0, none⟩ = some (.int .i64 e) := (hb.cells _ _ (by first | with_reducible assumption | omega | (simp; done) | (simp; omega))).trans (by first | with_reducible assumption | (simp; done) | (simp; with_reducible assumption)); have n1 : w1.cell? ⟨w.heap.size, 1, none⟩ = some (.int .i64 f) := (hb.cells _ _ (by first | with_reducible assumption | omega | (simp; done) | (simp; omega))).trans (by first | with_reducible assumption | (simp; done) | (simp; with_reducible assumption)); (first | (have nx := Ext.trans hx hb; clear hx) | (have nx := Ext.trans (hx.alloc _) hb; clear hx) | (have nx := Ext.trans hx.drew hb; clear hx) | have nx := hb); clear hb; try clear hs; try clear g0; try clear g1; have hx := nx; clear nx; have hs := ns; clear ns; have g0 := n0; clear n0; have g1 := n1; clear n1))
    (go_at_call 54; refine (frontPlaces_is f _ _ h3 h4 (by assumption) (by assumption) HZ.out _).mono ?_; rintro rv w1 ⟨rfl, rfl⟩)
    go_wp2_with fail
    go_region_held3 (fun w' => w'.cell? ⟨w.heap.size, 0, none⟩ = some (.int .i64 e) ∧ w'.cell? ⟨w.heap.size, 1, none⟩ = some (.int .i64 f) ∧ w.heap.size < w'.heap.size) ((refine ⟨?_, ?_, ?_⟩ <;> first | with_reducible assumption | ((rw [cell_setRow_far _ _ _ _ _ (by omega)]); with_reducible assumption) | ((rw [setRow_size]); with_reducible assumption) | ((repeat rw [World.cell?_setCell_far _ _ _ _ (by simp)]); with_reducible assumption) | (simp; done) | (simp [World.setCell]; first | done | omega) | (simp [go_sem, World.cell?_alloc_past, World.cell?_setCell_far, *]; done))) ((first | (go_at_call 56; refine (fieldsOfFloat_size e f _ _ hg0 (by assumption) (by assumption) (by assumption) (by assumption) _).mono ?_; rintro rv w1 ⟨rfl, hb⟩; have ns : w.heap.size < w1.heap.size := hb.lt (by first | with_reducible assumption | omega | (simp; done) | (simp; omega)); have n0 : w1.cell? ⟨w.heap.size, 0, none⟩ = some (.int .i64 e) := (hb.cells _ _ (by first | with_reducible assumption | omega | (simp; done) | (simp; omega))).trans (by first | with_reducible assumption | (simp; done) | (simp; with_reducible assumption)); have n1 : w1.cell? ⟨w.heap.size, 1, none⟩ = some (.int .i64 f) := (hb.cells _ _ (by first | with_reducible assumption | omega | (simp; done) | (simp; omega))).trans (by first | with_reducible assumption | (simp; done) | (simp; with_reducible assumption)); (first | (have nx := Ext.trans hx hb; clear hx) | (have nx := Ext.trans (hx.alloc _) hb; clear hx) | (have nx := Ext.trans hx.drew hb; clear hx) | have nx := hb); clear hb; try clear hs; try clear g0; try clear g1; have hx := nx; clear nx; have hs := ns; clear ns; have g0 := n0; clear n0; have g1 := n1; clear n1) | (go_at_call 55; refine (patternOf_any e f _ _ _ hg0 (by omega) (by omega) (by omega) (by omega) (by omega) (by omega) _).mono ?_; rintro rv w1 ⟨rfl, hb⟩; have ns : w.heap.size < w1.heap.size := hb.lt (by first | with_reducible assumption | omega | (simp; done) | (simp; omega)); have n0 : w1.cell? ⟨w.heap.size, 0, none⟩ = some (.int .i64 e) := (hb.cells _ _ (by first | with_reducible assumption | omega | (simp; done) | (simp; omega))).trans (by first | with_reducible assumption | (simp; done) | (simp; with_reducible assumption)); have n1 : w1.cell? ⟨w.heap.size, 1, none⟩ = some (.int .i64 f) := (hb.cells _ _ (by first | with_reducible assumption | omega | (simp; done) | (simp; omega))).trans (by first | with_reducible assumption | (simp; done) | (simp; with_reducible assumption)); (first | (have nx := Ext.trans hx hb; clear hx) | (have nx := Ext.trans (hx.alloc _) hb; clear hx) | (have nx := Ext.trans hx.drew hb; clear hx) | have nx := hb); clear hb; try clear hs; try clear g0; try clear g1; have hx := nx; clear nx; have hs := ns; clear ns; have g0 := n0; clear n0; have g1 := n1; clear n1)))
    go_wp2
    go_ret2
    exact ⟨_, rfl, HI.out, (by repeat (first | exact Ext.refl _ | with_reducible assumption | apply Ext.alloc | apply Ext.drew | apply Ext.drewN | (refine Ext.setRow ?_ (by simp) _) | (refine Ext.setCell ?_ (by simp) _) | (refine Ext.trans ?_ (by with_reducible assumption))))⟩

end Go.Proofs.Ythnfdaegcjlldaa
