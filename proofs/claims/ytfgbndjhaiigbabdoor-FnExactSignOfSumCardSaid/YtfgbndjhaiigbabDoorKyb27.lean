/-
  Contracts of the functions that the laws reach, and the plain facts that they rest on, each under the conditions that its line names; part 27.
-/
import Derived.Test.YtfgbndjhaiigbabDoorKyb1
import Derived.Test.YtfgbndjhaiigbabDoorKyb2
import Derived.Test.YtfgbndjhaiigbabDoorKyb3
import Derived.Test.YtfgbndjhaiigbabDoorKyb4
import Derived.Test.YtfgbndjhaiigbabDoorKyb5
import Derived.Test.YtfgbndjhaiigbabDoorKyb6
import Derived.Test.YtfgbndjhaiigbabDoorKyb7
import Derived.Test.YtfgbndjhaiigbabDoorKyb8
import Derived.Test.YtfgbndjhaiigbabDoorKyb9
import Derived.Test.YtfgbndjhaiigbabDoorKyb10
import Derived.Test.YtfgbndjhaiigbabDoorKyb11
import Derived.Test.YtfgbndjhaiigbabDoorKyb12
import Derived.Test.YtfgbndjhaiigbabDoorKyb13
import Derived.Test.YtfgbndjhaiigbabDoorKyb14
import Derived.Test.YtfgbndjhaiigbabDoorKyb15
import Derived.Test.YtfgbndjhaiigbabDoorKyb16
import Derived.Test.YtfgbndjhaiigbabDoorKyb17
import Derived.Test.YtfgbndjhaiigbabDoorKyb18
import Derived.Test.YtfgbndjhaiigbabDoorKyb19
import Derived.Test.YtfgbndjhaiigbabDoorKyb20
import Derived.Test.YtfgbndjhaiigbabDoorKyb21
import Derived.Test.YtfgbndjhaiigbabDoorRows
import Derived.WalkKit
import Derived.LoopTactic
import Derived.LoopN
import Derived.Laws.OwnMore
import Derived.OwnWalk
import Derived.Deep.AppendLies
import Derived.Laws.Bits64b
import Derived.WalkSpells
import Derived.WalkLawsBesides
import Derived.StillTactics
import Derived.Laws.Pointers
import Derived.Deep.RegionHeld3
import Derived.Deep.QuietTactic
import Derived.BigQuiet
import Derived.Outline
import Derived.Lib.Hide
import Derived.RowKit3
import Derived.Carry
import Derived.IntWalk
namespace Go.Proofs.YtfgbndjhaiigbabDoor
open Go Go.RowKit
set_option linter.unusedSimpArgs false
set_option linter.unusedVariables false
set_option maxRecDepth 100000

theorem own_ext {w w' : World} {base : Nat} {e : TypeId} {size : Nat} {v : Value} {n : Nat} {xs : List Value} (h : w.ownsRow base e size v n xs) (hb : Ext w w') : w'.ownsRow base e size v n xs :=
  h.kept (row := none) ⟨hb.os, hb.tape, hb.output, hb.size, fun k hk _ => hb.block k hk⟩ (by by_cases h : v.ownBlock = none; exact Or.inl h; exact Or.inr h)

theorem ext_grown {w W w' : World} {row : Option Nat} (hx : Ext w W) (hg : W.grownBy w' row) (hr : ∀ k, row = some k → w.heap.size ≤ k) : Ext w w' :=
  ⟨hg.os.trans hx.os, hg.tape.trans hx.tape, hg.output.trans hx.output, Nat.le_trans hx.size hg.size, fun k hk => (hg.block k (Nat.lt_of_lt_of_le hk hx.size) (fun h => by have := hr k h.symm; omega)).trans (hx.block k hk)⟩

theorem valuesOf2_bad (e f : Int) (v : Value) (hg1 : goodB e f = false) (w : World) : Calls Tryd.prog 50 #[fmt e f, v] w fun rv w' => rv = .returned (.tuple #[.slice none 0 0, .bool false]) ∧ Ext w w' := by
  go_enter Tryd.func50, Tryd.ntmps50
  go_wp2_with (go_at_call 100; refine (isFormat_any e f _).mono ?_; rintro rv w1 ⟨rfl, hb⟩; have ns : w.heap.size < w1.heap.size := hb.lt (by first | with_reducible assumption | omega | (simp; done) | (simp; omega)); have n0 : w1.cell? ⟨w.heap.size, 0, none⟩ = some (.int .i64 e) := (hb.cells _ _ (by first | with_reducible assumption | omega | (simp; done) | (simp; omega))).trans (by first | with_reducible assumption | (simp; done) | (simp; with_reducible assumption) | (rw [cell_alloc_before _ _ _ _ (by omega)]; with_reducible assumption) | (simp [go_sem, *]; done)); have n1 : w1.cell? ⟨w.heap.size, 1, none⟩ = some (.int .i64 f) := (hb.cells _ _ (by first | with_reducible assumption | omega | (simp; done) | (simp; omega))).trans (by first | with_reducible assumption | (simp; done) | (simp; with_reducible assumption) | (rw [cell_alloc_before _ _ _ _ (by omega)]; with_reducible assumption) | (simp [go_sem, *]; done)); (first | (have nx := Ext.trans hx hb; clear hx) | (have nx := Ext.trans (hx.alloc _) hb; clear hx) | (have nx := Ext.trans hx.drew hb; clear hx) | have nx := hb); clear hb; try clear hs; try clear g0; try clear g1; have hx := nx; clear nx; have hs := ns; clear ns; have g0 := n0; clear n0; have g1 := n1; clear n1)
  go_ret2
  exact ⟨rfl, (by repeat (first | exact Ext.refl _ | with_reducible assumption | apply Ext.alloc | apply Ext.drew | apply Ext.drewN | (refine Ext.setRow ?_ (by first | (simp; done) | (simp; omega) | omega) _) | (refine Ext.setCell ?_ (by first | (simp; done) | (simp; omega) | omega) _) | (refine Ext.trans ?_ (by with_reducible assumption))))⟩
end Go.Proofs.YtfgbndjhaiigbabDoor

namespace Go.Proofs.YtfgbndjhaiigbabDoor
open Go Go.RowKit
set_option linter.unusedSimpArgs false
set_option linter.unusedVariables false
set_option maxRecDepth 100000

/-- s is what u units are rounded to, without the sign. -/
def NSp (e f u s : Int) : Prop := IsRnd f (grV e f) (u.natAbs : Int) 1 0 false s

noncomputable def nsP (e f u : Int) : Int := Classical.epsilon (fun s => NSp e f u s)

/-- A pattern with the sign of u, and 0 for both zeros. -/
def exV (e f u s : Int) : Int := if s = 0 then 0 else if u < 0 then pw (e + f) + s else s

/-- The near sum whose exact one is u units. -/
noncomputable def nsV (e f u : Int) : Int := exV e f u (nsP e f u)

noncomputable def nsB (e f u : Int) : Bool := decide (nsP e f u ≤ grV e f)

noncomputable def nsR (e f u : Int) : Int := if nsB e f u = true then nsV e f u else 0

theorem nsP_ex {e f u : Int} (hg : goodB e f = true) : NSp e f u (nsP e f u) := by
  have h : ∃ s, NSp e f u s := by
    obtain ⟨p, hp⟩ := belowq_ex f (u.natAbs : Int) 1 (good_iff.1 hg).2.2.1 (by omega) (grV e f).toNat
    rw [Int.toNat_of_nonneg (by have := (gr_bd2 hg).1; omega)] at hp
    exact ⟨_, p, hp, rfl⟩
  exact Classical.epsilon_spec h

theorem nsP_one {e f u s : Int} (hg : goodB e f = true) (h : NSp e f u s) : s = nsP e f u := rnd_one (good_iff.1 hg).2.2.1 (by decide) h (nsP_ex hg)

theorem nsP_bd {e f u : Int} (hg : goodB e f = true) : 0 ≤ nsP e f u ∧ nsP e f u ≤ grV e f + 1 := rnd_top (nsP_ex hg)

theorem mg_zero (f : Int) : mgV f 0 = 0 := by
  unfold mgV
  rw [if_neg (by simp)]; simp

theorem rnd_self {f g D p : Int} (hf : 1 ≤ f) (hD : 0 < D) (p0 : 0 ≤ p) (p1 : p ≤ g) : IsRnd f g (mgV f p * D) D 0 false p := by
  obtain ⟨a1, a2, a3, a4⟩ := mg_st hf p0
  have := Int.mul_lt_mul_of_pos_right (show mgV f p < mgV f (p + 1) by omega) hD
  refine ⟨p, ⟨p0, p1, Int.le_refl _, Or.inr this⟩, ?_⟩
  unfold rndP
  rw [if_pos (by omega)]

theorem nsP_val {e f u s : Int} (hg : goodB e f = true) (s0 : 0 ≤ s) (s1 : s ≤ grV e f) (h : (u.natAbs : Int) = mgV f s) : nsP e f u = s := by
  refine (nsP_one hg ?_).symm
  have := rnd_self (g := grV e f) (D := 1) (good_iff.1 hg).2.2.1 (by decide) s0 s1
  unfold NSp
  rw [h]
  rwa [Int.mul_one] at this

theorem nsP_zero {e f u : Int} (hg : goodB e f = true) : nsP e f u = 0 ↔ u = 0 := by
  constructor
  · intro h
    have h2 : NSp e f u (nsP e f u) := nsP_ex hg
    rw [h] at h2
    obtain ⟨p, ⟨p0, p1, p2, p3⟩, hr⟩ := h2
    have hp : p = 0 := by
      unfold rndP at hr
      split at hr
      · omega
      · split at hr <;> omega
    subst hp
    have hf := (good_iff.1 hg).2.2.1
    obtain ⟨a1, a2, a3, a4⟩ := mg_st hf (Int.le_refl 0)
    have g0 := (gr_bd2 hg).1
    have c := pw_pos f
    have e1 : stV f 0 = 1 := by
      unfold stV
      rw [show (0 : Int) / pw f = 0 by simp]; decide
    rw [Int.zero_add] at a4 p3
    rw [mg_zero] at a4
    rcases p3 with p3 | p3
    · omega
    · rw [a4, e1] at p3
      omega
  · intro h
    subst h
    exact nsP_val hg (Int.le_refl 0) (by have := (gr_bd2 hg).1; omega) (by rw [mg_zero]; rfl)

theorem kind_lt3 {e f p : Int} (hp : patB e f p = true) : decide (kindV e f p < 3) = finB e f p := by
  unfold finB kindV
  rw [hp, Bool.true_and]
  by_cases h : p % pw (e + f) / pw f = pw e - 1
  · rw [if_pos (by simpa using h), decide_eq_false (show ¬ (p % pw (e + f) / pw f < pw e - 1) by omega)]
    apply decide_eq_false
    split <;> omega
  · rw [if_neg (by simpa using h)]
    obtain ⟨hg, p0, p1⟩ := pat_iff.1 hp
    obtain ⟨h1, h2, h3, h4⟩ := good_iff.1 hg
    obtain ⟨⟨a1, a2⟩, ⟨b1, b2⟩, ⟨c1, c2⟩, hmul⟩ := pw_facts h1 h2 h3 h4
    have r1 := Int.emod_lt_of_pos p (show 0 < pw (e + f) by omega)
    have : p % pw (e + f) / pw f < pw e := Int.ediv_lt_of_lt_mul (by omega) (by rw [← hmul]; exact r1)
    rw [decide_eq_true (show p % pw (e + f) / pw f < pw e - 1 by omega)]
    apply decide_eq_true
    split
    · omega
    · split <;> omega

theorem ns_pat {e f u : Int} (hg : goodB e f = true) : patB e f (nsV e f u) = true ∧ finB e f (nsV e f u) = nsB e f u := by
  obtain ⟨s0, s1⟩ := nsP_bd (u := u) hg
  obtain ⟨q1, q2, q3, q4⟩ := s_parts hg s0 s1
  have pp := pw_pos (e + f)
  have lt : nsP e f u < pw (e + f) := by
    have := Int.emod_lt_of_pos (nsP e f u) (show 0 < pw (e + f) by omega)
    omega
  have hm : nsV e f u % pw (e + f) = nsP e f u := by
    unfold nsV exV
    by_cases z : nsP e f u = 0
    · rw [if_pos z, z]; simp
    · rw [if_neg z]
      split
      · rw [Int.add_comm, Int.add_emod_right]; exact q3
      · exact q3
  have hp : patB e f (nsV e f u) = true := by
    refine pat_iff.2 ⟨hg, ?_, ?_⟩ <;> (unfold nsV exV; split; omega; split <;> omega)
  refine ⟨hp, ?_⟩
  unfold finB nsB
  rw [hp, Bool.true_and, hm, decide_eq_decide]
  exact q4

theorem mag_mod {e f p : Int} (hp : patB e f p = true) : magV e f p = mgV f (p % pw (e + f)) := by
  obtain ⟨hg, p0, p1⟩ := pat_iff.1 hp
  obtain ⟨h1, h2, h3, h4⟩ := good_iff.1 hg
  have hd : pw (e + f) = pw e * pw f := pw_add e f (by omega) (by omega)
  have hm : p % pw (e + f) % pw f = p % pw f := by
    rw [hd]
    exact Int.emod_emod_of_dvd p ⟨pw e, Int.mul_comm _ _⟩
  unfold magV mgV
  rw [hm]

/-- The size of a finite pattern. -/
theorem fin_size {e f p : Int} (h : finB e f p = true) : goodB e f = true ∧ 0 ≤ p % pw (e + f) ∧ p % pw (e + f) ≤ grV e f ∧ ((unitsV e f p).natAbs : Int) = mgV f (p % pw (e + f)) := by
  obtain ⟨hp, hx⟩ := fin_pat h
  obtain ⟨hg, p0, p1⟩ := pat_iff.1 hp
  have pp := pw_pos (e + f)
  have r0 := Int.emod_nonneg p (show pw (e + f) ≠ 0 by omega)
  have c := pw_pos f
  have le : p % pw (e + f) ≤ grV e f := by
    rw [Int.ediv_lt_iff_lt_mul (by omega)] at hx
    unfold grV
    omega
  refine ⟨hg, r0, le, ?_⟩
  have hb := mag_bd e f p hp
  rw [← mag_mod hp]
  unfold unitsV
  split <;> omega

theorem ns_small {e f a b : Int} (ha : finB e f a = true) (hb : finB e f b = true) : -4398046511104 ≤ unitsV e f a + unitsV e f b ∧ unitsV e f a + unitsV e f b ≤ 4398046511104 ∧ -2199023255552 < unitsV e f a ∧ unitsV e f a < 2199023255552 ∧ -2199023255552 < unitsV e f b ∧ unitsV e f b < 2199023255552 := by
  obtain ⟨hg, a0, a1, a2⟩ := fin_size ha
  obtain ⟨_, b0, b1, b2⟩ := fin_size hb
  have := mg_bd hg a0 a1
  have := mg_bd hg b0 b1
  omega

/-- The zero with the sign 0 for both. -/
def ezV (e f p : Int) : Int := if p % pw (e + f) = 0 then 0 else p

theorem exZero_any (e f p : Int) (hg : goodB e f = true) (hp : 0 ≤ p) (w : World) : Calls Tryd.prog 105 #[fmt e f, .int .i64 p] w fun rv w' => rv = .returned (.int .i64 (ezV e f p)) ∧ Ext w w' := by
  by_cases h : p % pw (e + f) = 0
  · have e1 : ezV e f p = 0 := if_pos h
    have hz : (p % pw (e + f) == 0) = true := by simpa using h
    rw [e1]
    clear h e1
    go_enter Tryd.func105, Tryd.ntmps105
    go_wp2_with (go_at_call 75; refine (fmSize_any e f p hg hp _).mono ?_; rintro rv w1 ⟨rfl, hb⟩; have ns : w.heap.size < w1.heap.size := hb.lt (by first | with_reducible assumption | omega | (simp; done) | (simp; omega)); have n0 : w1.cell? ⟨w.heap.size, 0, none⟩ = some (.int .i64 e) := (hb.cells _ _ (by first | with_reducible assumption | omega | (simp; done) | (simp; omega))).trans (by first | with_reducible assumption | (simp; done) | (simp; with_reducible assumption) | (rw [cell_alloc_before _ _ _ _ (by omega)]; with_reducible assumption) | (simp [go_sem, *]; done)); have n1 : w1.cell? ⟨w.heap.size, 1, none⟩ = some (.int .i64 f) := (hb.cells _ _ (by first | with_reducible assumption | omega | (simp; done) | (simp; omega))).trans (by first | with_reducible assumption | (simp; done) | (simp; with_reducible assumption) | (rw [cell_alloc_before _ _ _ _ (by omega)]; with_reducible assumption) | (simp [go_sem, *]; done)); (first | (have nx := Ext.trans hx hb; clear hx) | (have nx := Ext.trans (hx.alloc _) hb; clear hx) | (have nx := Ext.trans hx.drew hb; clear hx) | have nx := hb); clear hb; try clear hs; try clear g0; try clear g1; have hx := nx; clear nx; have hs := ns; clear ns; have g0 := n0; clear n0; have g1 := n1; clear n1)
    go_ret
    exact ⟨rfl, (by repeat (first | exact Ext.refl _ | with_reducible assumption | apply Ext.alloc | apply Ext.drew | apply Ext.drewN | (refine Ext.setRow ?_ (by first | (simp; done) | (simp; omega) | omega) _) | (refine Ext.setCell ?_ (by first | (simp; done) | (simp; omega) | omega) _) | (refine Ext.trans ?_ (by with_reducible assumption))))⟩
  · have e1 : ezV e f p = p := if_neg h
    have hz : (p % pw (e + f) == 0) = false := by simpa using h
    rw [e1]
    clear h e1
    go_enter Tryd.func105, Tryd.ntmps105
    go_wp2_with (go_at_call 75; refine (fmSize_any e f p hg hp _).mono ?_; rintro rv w1 ⟨rfl, hb⟩; have ns : w.heap.size < w1.heap.size := hb.lt (by first | with_reducible assumption | omega | (simp; done) | (simp; omega)); have n0 : w1.cell? ⟨w.heap.size, 0, none⟩ = some (.int .i64 e) := (hb.cells _ _ (by first | with_reducible assumption | omega | (simp; done) | (simp; omega))).trans (by first | with_reducible assumption | (simp; done) | (simp; with_reducible assumption) | (rw [cell_alloc_before _ _ _ _ (by omega)]; with_reducible assumption) | (simp [go_sem, *]; done)); have n1 : w1.cell? ⟨w.heap.size, 1, none⟩ = some (.int .i64 f) := (hb.cells _ _ (by first | with_reducible assumption | omega | (simp; done) | (simp; omega))).trans (by first | with_reducible assumption | (simp; done) | (simp; with_reducible assumption) | (rw [cell_alloc_before _ _ _ _ (by omega)]; with_reducible assumption) | (simp [go_sem, *]; done)); (first | (have nx := Ext.trans hx hb; clear hx) | (have nx := Ext.trans (hx.alloc _) hb; clear hx) | (have nx := Ext.trans hx.drew hb; clear hx) | have nx := hb); clear hb; try clear hs; try clear g0; try clear g1; have hx := nx; clear nx; have hs := ns; clear ns; have g0 := n0; clear n0; have g1 := n1; clear n1)
    go_ret
    exact ⟨rfl, (by repeat (first | exact Ext.refl _ | with_reducible assumption | apply Ext.alloc | apply Ext.drew | apply Ext.drewN | (refine Ext.setRow ?_ (by first | (simp; done) | (simp; omega) | omega) _) | (refine Ext.setCell ?_ (by first | (simp; done) | (simp; omega) | omega) _) | (refine Ext.trans ?_ (by with_reducible assumption))))⟩

theorem exFits_any (e f p : Int) (hp : patB e f p = true) (w : World) : Calls Tryd.prog 54 #[fmt e f, .int .i64 p] w fun rv w' => rv = .returned (.bool (finB e f p)) ∧ Ext w w' := by
  rw [← kind_lt3 hp]
  go_enter Tryd.func54, Tryd.ntmps54
  go_wp2_with (go_at_call 108; refine (fmKind_any e f p hp _).mono ?_; rintro rv w1 ⟨rfl, hb⟩; have ns : w.heap.size < w1.heap.size := hb.lt (by first | with_reducible assumption | omega | (simp; done) | (simp; omega)); have n0 : w1.cell? ⟨w.heap.size, 0, none⟩ = some (.int .i64 e) := (hb.cells _ _ (by first | with_reducible assumption | omega | (simp; done) | (simp; omega))).trans (by first | with_reducible assumption | (simp; done) | (simp; with_reducible assumption) | (rw [cell_alloc_before _ _ _ _ (by omega)]; with_reducible assumption) | (simp [go_sem, *]; done)); have n1 : w1.cell? ⟨w.heap.size, 1, none⟩ = some (.int .i64 f) := (hb.cells _ _ (by first | with_reducible assumption | omega | (simp; done) | (simp; omega))).trans (by first | with_reducible assumption | (simp; done) | (simp; with_reducible assumption) | (rw [cell_alloc_before _ _ _ _ (by omega)]; with_reducible assumption) | (simp [go_sem, *]; done)); (first | (have nx := Ext.trans hx hb; clear hx) | (have nx := Ext.trans (hx.alloc _) hb; clear hx) | (have nx := Ext.trans hx.drew hb; clear hx) | have nx := hb); clear hb; try clear hs; try clear g0; try clear g1; have hx := nx; clear nx; have hs := ns; clear ns; have g0 := n0; clear n0; have g1 := n1; clear n1)
  go_ret
  exact ⟨rfl, (by repeat (first | exact Ext.refl _ | with_reducible assumption | apply Ext.alloc | apply Ext.drew | apply Ext.drewN | (refine Ext.setRow ?_ (by first | (simp; done) | (simp; omega) | omega) _) | (refine Ext.setCell ?_ (by first | (simp; done) | (simp; omega) | omega) _) | (refine Ext.trans ?_ (by with_reducible assumption))))⟩

set_option maxHeartbeats 3200000 in
theorem exOf_n (e f u : Int) (hg : goodB e f = true) (h1 : -35184372088832 ≤ u) (h2 : u ≤ 35184372088832) (hd : decide (u < 0) = true) (w : World) : Calls Tryd.prog 53 #[fmt e f, .int .i64 u] w fun rv w' => rv = .returned (.int .i64 (nsV e f u)) ∧ Ext w w' := by
  have EQ := Lib.hid (fun (s : Int) (h : IsRnd f (grV e f) ((u.natAbs : Int) * 1 + 0) 1 0 true s) => nsP_one (s := s) hg (by
    rw [Int.mul_one, Int.add_zero] at h
    exact h))
  have RSG : RowKit.Hid (∀ (s : Int) (hs : s = nsP e f u) (w : World), Calls Tryd.prog 106 #[fmt e f, .int .i64 s, .bool true] w fun rv w' => rv = .returned (.int .i64 (pw (e + f) + s)) ∧ Ext w w') := fun s hs w => by
    obtain ⟨s0, s1⟩ := nsP_bd (u := u) hg
    have gb := gr_bd2 hg
    have := rdSigned_any e f s true hg (by omega) (by omega) w
    exact this
  have EZ : RowKit.Hid (∀ (s : Int) (hs : s = nsP e f u) (w : World), Calls Tryd.prog 105 #[fmt e f, .int .i64 (pw (e + f) + s)] w fun rv w' => rv = .returned (.int .i64 (nsV e f u)) ∧ Ext w w') := fun s hs w => by
    obtain ⟨s0, s1⟩ := nsP_bd (u := u) hg
    obtain ⟨q1, q2, q3, q4⟩ := s_parts hg s0 s1
    have pp := pw_pos (e + f)
    have := exZero_any e f (pw (e + f) + s) hg (by omega) w
    have e1 : ezV e f (pw (e + f) + s) = nsV e f u := by
      unfold ezV nsV exV
      rw [hs]
      rw [Int.add_comm, Int.add_emod_right, q3, if_pos (of_decide_eq_true hd), Int.add_comm]
    rw [e1] at this
    exact this
  go_enter Tryd.func53, Tryd.ntmps53
  go_wp2_with fail
  go_region_held3 (fun w' => w'.cell? ⟨w.heap.size, 0, none⟩ = some (.int .i64 e) ∧ w'.cell? ⟨w.heap.size, 1, none⟩ = some (.int .i64 f) ∧ w.heap.size < w'.heap.size) ((refine ⟨?_, ?_, ?_⟩ <;> first | with_reducible assumption | ((rw [cell_setRow_far _ _ _ _ _ (by omega)]); with_reducible assumption) | ((rw [setRow_size]); with_reducible assumption) | ((repeat rw [World.cell?_setCell_far _ _ _ _ (by simp)]); with_reducible assumption) | (simp; done) | (simp [World.setCell]; first | done | omega) | (simp [go_sem, World.cell?_alloc_past, World.cell?_setCell_far, *]; done))) ((first | (go_at_call 41; refine (l1Abs_nat u (by omega) (by omega) _).mono ?_; rintro rv w1 ⟨rfl, rfl⟩) | (go_at_call 107; refine (rdSize_any e f (u.natAbs : Int) 0 1 0 true hg (by omega) (by omega) (by omega) (by omega) (by omega) (by omega) (by omega) _).mono ?_; rintro rv w1 ⟨s, rfl, hq, hb⟩; have HQ := Lib.hid (EQ.out s hq); clear hq; have ns : w.heap.size < w1.heap.size := hb.lt (by first | with_reducible assumption | omega | (simp; done) | (simp; omega)); have n0 : w1.cell? ⟨w.heap.size, 0, none⟩ = some (.int .i64 e) := (hb.cells _ _ (by first | with_reducible assumption | omega | (simp; done) | (simp; omega))).trans (by first | with_reducible assumption | (simp; done) | (simp; with_reducible assumption) | (rw [cell_alloc_before _ _ _ _ (by omega)]; with_reducible assumption) | (simp [go_sem, *]; done)); have n1 : w1.cell? ⟨w.heap.size, 1, none⟩ = some (.int .i64 f) := (hb.cells _ _ (by first | with_reducible assumption | omega | (simp; done) | (simp; omega))).trans (by first | with_reducible assumption | (simp; done) | (simp; with_reducible assumption) | (rw [cell_alloc_before _ _ _ _ (by omega)]; with_reducible assumption) | (simp [go_sem, *]; done)); (first | (have nx := Ext.trans hx hb; clear hx) | (have nx := Ext.trans (hx.alloc _) hb; clear hx) | (have nx := Ext.trans hx.drew hb; clear hx) | have nx := hb); clear hb; try clear hs; try clear g0; try clear g1; have hx := nx; clear nx; have hs := ns; clear ns; have g0 := n0; clear n0; have g1 := n1; clear n1) | (go_at_call 106; refine (RSG.out _ HQ.out _).mono ?_; rintro rv w1 ⟨rfl, hb⟩; have ns : w.heap.size < w1.heap.size := hb.lt (by first | with_reducible assumption | omega | (simp; done) | (simp; omega)); have n0 : w1.cell? ⟨w.heap.size, 0, none⟩ = some (.int .i64 e) := (hb.cells _ _ (by first | with_reducible assumption | omega | (simp; done) | (simp; omega))).trans (by first | with_reducible assumption | (simp; done) | (simp; with_reducible assumption) | (rw [cell_alloc_before _ _ _ _ (by omega)]; with_reducible assumption) | (simp [go_sem, *]; done)); have n1 : w1.cell? ⟨w.heap.size, 1, none⟩ = some (.int .i64 f) := (hb.cells _ _ (by first | with_reducible assumption | omega | (simp; done) | (simp; omega))).trans (by first | with_reducible assumption | (simp; done) | (simp; with_reducible assumption) | (rw [cell_alloc_before _ _ _ _ (by omega)]; with_reducible assumption) | (simp [go_sem, *]; done)); (first | (have nx := Ext.trans hx hb; clear hx) | (have nx := Ext.trans (hx.alloc _) hb; clear hx) | (have nx := Ext.trans hx.drew hb; clear hx) | have nx := hb); clear hb; try clear hs; try clear g0; try clear g1; have hx := nx; clear nx; have hs := ns; clear ns; have g0 := n0; clear n0; have g1 := n1; clear n1) | (go_at_call 105; refine (EZ.out _ HQ.out _).mono ?_; rintro rv w1 ⟨rfl, hb⟩; have ns : w.heap.size < w1.heap.size := hb.lt (by first | with_reducible assumption | omega | (simp; done) | (simp; omega)); have n0 : w1.cell? ⟨w.heap.size, 0, none⟩ = some (.int .i64 e) := (hb.cells _ _ (by first | with_reducible assumption | omega | (simp; done) | (simp; omega))).trans (by first | with_reducible assumption | (simp; done) | (simp; with_reducible assumption) | (rw [cell_alloc_before _ _ _ _ (by omega)]; with_reducible assumption) | (simp [go_sem, *]; done)); have n1 : w1.cell? ⟨w.heap.size, 1, none⟩ = some (.int .i64 f) := (hb.cells _ _ (by first | with_reducible assumption | omega | (simp; done) | (simp; omega))).trans (by first | with_reducible assumption | (simp; done) | (simp; with_reducible assumption) | (rw [cell_alloc_before _ _ _ _ (by omega)]; with_reducible assumption) | (simp [go_sem, *]; done)); (first | (have nx := Ext.trans hx hb; clear hx) | (have nx := Ext.trans (hx.alloc _) hb; clear hx) | (have nx := Ext.trans hx.drew hb; clear hx) | have nx := hb); clear hb; try clear hs; try clear g0; try clear g1; have hx := nx; clear nx; have hs := ns; clear ns; have g0 := n0; clear n0; have g1 := n1; clear n1)))
  go_wp2_with fail
  go_ret
  exact ⟨rfl, (by repeat (first | exact Ext.refl _ | with_reducible assumption | apply Ext.alloc | apply Ext.drew | apply Ext.drewN | (refine Ext.setRow ?_ (by first | (simp; done) | (simp; omega) | omega) _) | (refine Ext.setCell ?_ (by first | (simp; done) | (simp; omega) | omega) _) | (refine Ext.trans ?_ (by with_reducible assumption))))⟩

set_option maxHeartbeats 3200000 in
theorem exOf_p (e f u : Int) (hg : goodB e f = true) (h1 : -35184372088832 ≤ u) (h2 : u ≤ 35184372088832) (hd : decide (u < 0) = false) (w : World) : Calls Tryd.prog 53 #[fmt e f, .int .i64 u] w fun rv w' => rv = .returned (.int .i64 (nsV e f u)) ∧ Ext w w' := by
  have EQ := Lib.hid (fun (s : Int) (h : IsRnd f (grV e f) ((u.natAbs : Int) * 1 + 0) 1 0 false s) => nsP_one (s := s) hg (by
    rw [Int.mul_one, Int.add_zero] at h
    exact h))
  have RSG : RowKit.Hid (∀ (s : Int) (hs : s = nsP e f u) (w : World), Calls Tryd.prog 106 #[fmt e f, .int .i64 s, .bool false] w fun rv w' => rv = .returned (.int .i64 (s)) ∧ Ext w w') := fun s hs w => by
    obtain ⟨s0, s1⟩ := nsP_bd (u := u) hg
    have gb := gr_bd2 hg
    have := rdSigned_any e f s false hg (by omega) (by omega) w
    exact this
  have EZ : RowKit.Hid (∀ (s : Int) (hs : s = nsP e f u) (w : World), Calls Tryd.prog 105 #[fmt e f, .int .i64 (s)] w fun rv w' => rv = .returned (.int .i64 (nsV e f u)) ∧ Ext w w') := fun s hs w => by
    obtain ⟨s0, s1⟩ := nsP_bd (u := u) hg
    obtain ⟨q1, q2, q3, q4⟩ := s_parts hg s0 s1
    have pp := pw_pos (e + f)
    have := exZero_any e f (s) hg (by omega) w
    have e1 : ezV e f (s) = nsV e f u := by
      unfold ezV nsV exV
      rw [hs]
      rw [q3, if_neg (of_decide_eq_false hd)]
    rw [e1] at this
    exact this
  go_enter Tryd.func53, Tryd.ntmps53
  go_wp2_with fail
  go_region_held3 (fun w' => w'.cell? ⟨w.heap.size, 0, none⟩ = some (.int .i64 e) ∧ w'.cell? ⟨w.heap.size, 1, none⟩ = some (.int .i64 f) ∧ w.heap.size < w'.heap.size) ((refine ⟨?_, ?_, ?_⟩ <;> first | with_reducible assumption | ((rw [cell_setRow_far _ _ _ _ _ (by omega)]); with_reducible assumption) | ((rw [setRow_size]); with_reducible assumption) | ((repeat rw [World.cell?_setCell_far _ _ _ _ (by simp)]); with_reducible assumption) | (simp; done) | (simp [World.setCell]; first | done | omega) | (simp [go_sem, World.cell?_alloc_past, World.cell?_setCell_far, *]; done))) ((first | (go_at_call 41; refine (l1Abs_nat u (by omega) (by omega) _).mono ?_; rintro rv w1 ⟨rfl, rfl⟩) | (go_at_call 107; refine (rdSize_any e f (u.natAbs : Int) 0 1 0 false hg (by omega) (by omega) (by omega) (by omega) (by omega) (by omega) (by omega) _).mono ?_; rintro rv w1 ⟨s, rfl, hq, hb⟩; have HQ := Lib.hid (EQ.out s hq); clear hq; have ns : w.heap.size < w1.heap.size := hb.lt (by first | with_reducible assumption | omega | (simp; done) | (simp; omega)); have n0 : w1.cell? ⟨w.heap.size, 0, none⟩ = some (.int .i64 e) := (hb.cells _ _ (by first | with_reducible assumption | omega | (simp; done) | (simp; omega))).trans (by first | with_reducible assumption | (simp; done) | (simp; with_reducible assumption) | (rw [cell_alloc_before _ _ _ _ (by omega)]; with_reducible assumption) | (simp [go_sem, *]; done)); have n1 : w1.cell? ⟨w.heap.size, 1, none⟩ = some (.int .i64 f) := (hb.cells _ _ (by first | with_reducible assumption | omega | (simp; done) | (simp; omega))).trans (by first | with_reducible assumption | (simp; done) | (simp; with_reducible assumption) | (rw [cell_alloc_before _ _ _ _ (by omega)]; with_reducible assumption) | (simp [go_sem, *]; done)); (first | (have nx := Ext.trans hx hb; clear hx) | (have nx := Ext.trans (hx.alloc _) hb; clear hx) | (have nx := Ext.trans hx.drew hb; clear hx) | have nx := hb); clear hb; try clear hs; try clear g0; try clear g1; have hx := nx; clear nx; have hs := ns; clear ns; have g0 := n0; clear n0; have g1 := n1; clear n1) | (go_at_call 106; refine (RSG.out _ HQ.out _).mono ?_; rintro rv w1 ⟨rfl, hb⟩; have ns : w.heap.size < w1.heap.size := hb.lt (by first | with_reducible assumption | omega | (simp; done) | (simp; omega)); have n0 : w1.cell? ⟨w.heap.size, 0, none⟩ = some (.int .i64 e) := (hb.cells _ _ (by first | with_reducible assumption | omega | (simp; done) | (simp; omega))).trans (by first | with_reducible assumption | (simp; done) | (simp; with_reducible assumption) | (rw [cell_alloc_before _ _ _ _ (by omega)]; with_reducible assumption) | (simp [go_sem, *]; done)); have n1 : w1.cell? ⟨w.heap.size, 1, none⟩ = some (.int .i64 f) := (hb.cells _ _ (by first | with_reducible assumption | omega | (simp; done) | (simp; omega))).trans (by first | with_reducible assumption | (simp; done) | (simp; with_reducible assumption) | (rw [cell_alloc_before _ _ _ _ (by omega)]; with_reducible assumption) | (simp [go_sem, *]; done)); (first | (have nx := Ext.trans hx hb; clear hx) | (have nx := Ext.trans (hx.alloc _) hb; clear hx) | (have nx := Ext.trans hx.drew hb; clear hx) | have nx := hb); clear hb; try clear hs; try clear g0; try clear g1; have hx := nx; clear nx; have hs := ns; clear ns; have g0 := n0; clear n0; have g1 := n1; clear n1) | (go_at_call 105; refine (EZ.out _ HQ.out _).mono ?_; rintro rv w1 ⟨rfl, hb⟩; have ns : w.heap.size < w1.heap.size := hb.lt (by first | with_reducible assumption | omega | (simp; done) | (simp; omega)); have n0 : w1.cell? ⟨w.heap.size, 0, none⟩ = some (.int .i64 e) := (hb.cells _ _ (by first | with_reducible assumption | omega | (simp; done) | (simp; omega))).trans (by first | with_reducible assumption | (simp; done) | (simp; with_reducible assumption) | (rw [cell_alloc_before _ _ _ _ (by omega)]; with_reducible assumption) | (simp [go_sem, *]; done)); have n1 : w1.cell? ⟨w.heap.size, 1, none⟩ = some (.int .i64 f) := (hb.cells _ _ (by first | with_reducible assumption | omega | (simp; done) | (simp; omega))).trans (by first | with_reducible assumption | (simp; done) | (simp; with_reducible assumption) | (rw [cell_alloc_before _ _ _ _ (by omega)]; with_reducible assumption) | (simp [go_sem, *]; done)); (first | (have nx := Ext.trans hx hb; clear hx) | (have nx := Ext.trans (hx.alloc _) hb; clear hx) | (have nx := Ext.trans hx.drew hb; clear hx) | have nx := hb); clear hb; try clear hs; try clear g0; try clear g1; have hx := nx; clear nx; have hs := ns; clear ns; have g0 := n0; clear n0; have g1 := n1; clear n1)))
  go_wp2_with fail
  go_ret
  exact ⟨rfl, (by repeat (first | exact Ext.refl _ | with_reducible assumption | apply Ext.alloc | apply Ext.drew | apply Ext.drewN | (refine Ext.setRow ?_ (by first | (simp; done) | (simp; omega) | omega) _) | (refine Ext.setCell ?_ (by first | (simp; done) | (simp; omega) | omega) _) | (refine Ext.trans ?_ (by with_reducible assumption))))⟩
end Go.Proofs.YtfgbndjhaiigbabDoor

namespace Go.Proofs.YtfgbndjhaiigbabDoor
open Go Go.RowKit
set_option linter.unusedSimpArgs false
set_option linter.unusedVariables false
set_option maxRecDepth 100000

theorem exOf_any (e f u : Int) (hg : goodB e f = true) (h1 : -35184372088832 ≤ u) (h2 : u ≤ 35184372088832) (w : World) : Calls Tryd.prog 53 #[fmt e f, .int .i64 u] w fun rv w' => rv = .returned (.int .i64 (nsV e f u)) ∧ Ext w w' := by
  by_cases h : u < 0
  · exact exOf_n e f u hg h1 h2 (decide_eq_true h) w
  · exact exOf_p e f u hg h1 h2 (decide_eq_false h) w
end Go.Proofs.YtfgbndjhaiigbabDoor

