/-
  Contracts of the functions that the laws reach, and the plain facts that they rest on, each under the conditions that its line names; part 39.
-/
import Derived.Test.YtfgbndjhaiigbaaGreatDoorKdj1
import Derived.Test.YtfgbndjhaiigbaaGreatDoorKdj2
import Derived.Test.YtfgbndjhaiigbaaGreatDoorKdj3
import Derived.Test.YtfgbndjhaiigbaaGreatDoorKdj4
import Derived.Test.YtfgbndjhaiigbaaGreatDoorKdj5
import Derived.Test.YtfgbndjhaiigbaaGreatDoorKdj6
import Derived.Test.YtfgbndjhaiigbaaGreatDoorKdj7
import Derived.Test.YtfgbndjhaiigbaaGreatDoorKdj8
import Derived.Test.YtfgbndjhaiigbaaGreatDoorKdj9
import Derived.Test.YtfgbndjhaiigbaaGreatDoorKdj10
import Derived.Test.YtfgbndjhaiigbaaGreatDoorKdj11
import Derived.Test.YtfgbndjhaiigbaaGreatDoorKdj12
import Derived.Test.YtfgbndjhaiigbaaGreatDoorKdj13
import Derived.Test.YtfgbndjhaiigbaaGreatDoorKdj14
import Derived.Test.YtfgbndjhaiigbaaGreatDoorKdj15
import Derived.Test.YtfgbndjhaiigbaaGreatDoorKdj16
import Derived.Test.YtfgbndjhaiigbaaGreatDoorKdj17
import Derived.Test.YtfgbndjhaiigbaaGreatDoorKdj18
import Derived.Test.YtfgbndjhaiigbaaGreatDoorKdj19
import Derived.Test.YtfgbndjhaiigbaaGreatDoorKdj20
import Derived.Test.YtfgbndjhaiigbaaGreatDoorKdj21
import Derived.Test.YtfgbndjhaiigbaaGreatDoorKdj22
import Derived.Test.YtfgbndjhaiigbaaGreatDoorKdj23
import Derived.Test.YtfgbndjhaiigbaaGreatDoorKdj24
import Derived.Test.YtfgbndjhaiigbaaGreatDoorKdj25
import Derived.Test.YtfgbndjhaiigbaaGreatDoorKdj26
import Derived.Test.YtfgbndjhaiigbaaGreatDoorKdj27
import Derived.Test.YtfgbndjhaiigbaaGreatDoorKdj28
import Derived.Test.YtfgbndjhaiigbaaGreatDoorKdj29
import Derived.Test.YtfgbndjhaiigbaaGreatDoorKdj30
import Derived.Test.YtfgbndjhaiigbaaGreatDoorKdj31
import Derived.Test.YtfgbndjhaiigbaaGreatDoorKdj32
import Derived.Test.YtfgbndjhaiigbaaGreatDoorKdj33
import Derived.Test.YtfgbndjhaiigbaaGreatDoorKdj34
import Derived.Test.YtfgbndjhaiigbaaGreatDoorKdj35
import Derived.Test.YtfgbndjhaiigbaaGreatDoorKdj36
import Derived.Test.YtfgbndjhaiigbaaGreatDoorKdj37
import Derived.Test.YtfgbndjhaiigbaaGreatDoorKdj38
import Derived.Test.YtfgbndjhaiigbaaGreatDoorRows
import Derived.WalkKit
import Derived.LoopTactic
import Derived.Laws.Bits64b
import Derived.WalkSpells
import Derived.WalkLawsBesides
import Derived.StillTactics
import Derived.Laws.Pointers
import Derived.Deep.RegionHeld3
import Derived.Deep.QuietTactic
import Derived.BigQuiet
import Derived.Outline
import Derived.Lib.Hide
import Derived.RowKit3
import Derived.Carry
import Derived.IntWalk
import Derived.LoopN
import Derived.Maps.RangeWalk
import Derived.Maps.OwnSet
import Derived.DeepKeys4
import Derived.Handy
import Derived.Laws.OwnMore
import Derived.OwnWalk
import Derived.Deep.AppendLies
import Derived.Laws.EntriesVeiled
namespace Go.Proofs.YtfgbndjhaiigbaaGreatDoor
open Go Go.RowKit Go.Maps
set_option linter.unusedSimpArgs false
set_option linter.unusedVariables false
set_option maxRecDepth 100000

theorem qu_pat {e f : Int} (hg : goodB e f = true) : patB e f (quV e f) = true ∧ enV e f (quV e f) = 0 ∧ kindV e f (quV e f) = 4 := by
  obtain ⟨h1, h2, h3, h4⟩ := good_iff.1 hg
  obtain ⟨⟨a1, a2⟩, ⟨b1, b2⟩, ⟨c1, c2⟩, hmul⟩ := pw_facts h1 h2 h3 h4
  have q1 : pw (f - 1 + 1) = 2 * pw (f - 1) := pw_succ (f - 1) (by omega)
  rw [show f - 1 + 1 = f by omega] at q1
  have q2 := pw_pos (f - 1)
  have i1 : inV e f = pw (e + f) - pw f := by unfold inV; rw [Int.sub_mul, ← hmul]; omega
  have hq : quV e f = inV e f + pw (f - 1) := rfl
  obtain ⟨j0, j1, j2⟩ := in_bd hg
  have hp : patB e f (quV e f) = true := pat_iff.2 ⟨hg, by omega, by omega⟩
  have hn : numB e f (quV e f) = false := Bool.eq_false_iff.2 (fun h => by
    have := (num_mag.1 h).2
    rw [Int.emod_eq_of_lt (by omega) (by omega)] at this
    omega)
  refine ⟨hp, by unfold enV; rw [hn]; simp, ?_⟩
  rcases kind_parts hp with ⟨q, _⟩ | ⟨_, _, q⟩ | ⟨_, q, _⟩ | ⟨_, q, _⟩
  · exact q
  · rw [hn] at q; cases q
  · have := fin_num q; rw [hn] at this; cases this
  · have := fin_num q; rw [hn] at this; cases this

/-- A number with its sign, as an end. -/
theorem en_form {e f s m : Int} (hg : goodB e f = true) (s0 : 0 ≤ s) (s1 : s ≤ inV e f) (hm : m = 0 ∨ m = 1) :
    enB e f (enV e f (s + m * pw (e + f))) = true ∧ sfV e f (enV e f (s + m * pw (e + f))) = (if m = 0 then s else -s) ∧ numB e f (s + m * pw (e + f)) = true := by
  have hn := sm_num hg s0 s1 hm
  have hp := (num_mag.1 hn).1
  obtain ⟨i0, i1, i2⟩ := in_bd hg
  have hP := pw_pos (e + f)
  have em : (s + m * pw (e + f)) % pw (e + f) = s := by
    rw [Int.add_mul_emod_self_right]; exact Int.emod_eq_of_lt s0 (by omega)
  by_cases hz : s = 0
  · have e0 := en_zero hp (by rw [em]; exact hz)
    rw [e0]
    have p0 : patB e f 0 = true := pat_iff.2 ⟨hg, Int.le_refl _, by omega⟩
    have z0 : (0 : Int) % pw (e + f) = 0 := Int.zero_emod _
    refine ⟨en_iff.2 ⟨num_mag.2 ⟨p0, by omega⟩, by omega⟩, ?_, hn⟩
    unfold sfV
    rw [if_neg (by omega)]
    split <;> omega
  · have hzr : zerB e f (s + m * pw (e + f)) = false := Bool.eq_false_iff.2 (fun h => by
      have := (zer_mag.1 h).2; rw [em] at this; exact hz this)
    have e0 : enV e f (s + m * pw (e + f)) = s + m * pw (e + f) := by unfold enV; rw [hzr, hn]; rfl
    rw [e0]
    refine ⟨en_iff.2 ⟨hn, fun q => ?_⟩, ?_, hn⟩
    · rw [q, Int.emod_self] at em; omega
    · unfold sfV
      rcases hm with rfl | rfl
      · rw [Int.zero_mul, Int.add_zero, if_neg (by omega), if_pos rfl]
      · rw [Int.one_mul, if_pos (by omega), if_neg (by decide)]; omega

/-- What is rounded down, and up: two results for one corner. -/
def CrF (e f r4 r3 : Int) : Prop := (r4 = quV e f ∧ r3 = quV e f) ∨ ∃ m s4 s3 : Int, (m = 0 ∨ m = 1) ∧ r4 = s4 + m * pw (e + f) ∧ r3 = s3 + m * pw (e + f) ∧ (0 ≤ s4 ∧ s4 ≤ inV e f) ∧ (0 ≤ s3 ∧ s3 ≤ inV e f) ∧ (m = 0 → s4 ≤ s3) ∧ (m = 1 → s3 ≤ s4)

/-- .. of a result that is finite before it is rounded. -/
def CrN (e f r4 r3 : Int) : Prop := sfV e f (enV e f r4) < inV e f ∧ -inV e f < sfV e f (enV e f r3)

theorem cr_facts {e f r4 r3 : Int} (hg : goodB e f = true) (h : CrF e f r4 r3) : enB e f (enV e f r4) = true ∧ enB e f (enV e f r3) = true ∧ sfV e f (enV e f r4) ≤ sfV e f (enV e f r3) ∧ patB e f r4 = true ∧ patB e f r3 = true ∧
    (kindV e f r4 = 4 ∧ kindV e f r3 = 4 ∧ enV e f r4 = 0 ∧ enV e f r3 = 0 ∨ kindV e f r4 ≠ 4 ∧ izV e f r4 = enV e f r4 ∧ izV e f r3 = enV e f r3) := by
  rcases h with ⟨rfl, rfl⟩ | ⟨m, s4, s3, hm, rfl, rfl, h4, h3, l0, l1⟩
  · obtain ⟨q1, q2, q3⟩ := qu_pat hg
    rw [q2]
    obtain ⟨i0, i1, i2⟩ := in_bd hg
    have p0 : patB e f 0 = true := pat_iff.2 ⟨hg, Int.le_refl _, by omega⟩
    have z0 : (0 : Int) % pw (e + f) = 0 := Int.zero_emod _
    have e0 : enB e f 0 = true := en_iff.2 ⟨num_mag.2 ⟨p0, by omega⟩, by omega⟩
    exact ⟨e0, e0, Int.le_refl _, q1, q1, .inl ⟨q3, q3, rfl, rfl⟩⟩
  · obtain ⟨a1, a2, a3⟩ := en_form hg h4.1 h4.2 hm
    obtain ⟨b1, b2, b3⟩ := en_form hg h3.1 h3.2 hm
    refine ⟨a1, b1, ?_, (num_mag.1 a3).1, (num_mag.1 b3).1, .inr ⟨num_kind a3, iz_en a3, iz_en b3⟩⟩
    rw [a2, b2]
    rcases hm with rfl | rfl
    · rw [if_pos rfl, if_pos rfl]; exact l0 rfl
    · rw [if_neg (by decide), if_neg (by decide)]; have := l1 rfl; omega

theorem rnd_pair {e f n k s4 s3 : Int} {neg : Bool} (hg : goodB e f = true) (h4 : RndD e f n k 4 neg s4) (h3 : RndD e f n k 3 neg s3) :
    (0 ≤ s4 ∧ s4 ≤ inV e f) ∧ (0 ≤ s3 ∧ s3 ≤ inV e f) ∧ (neg = false → s4 ≤ s3 ∧ s4 < inV e f) ∧ (neg = true → s3 ≤ s4 ∧ s3 < inV e f) := by
  have t4 := rnd_top2 h4
  have t3 := rnd_top2 h3
  obtain ⟨p, hp, e4⟩ := h4
  obtain ⟨q, hq, e3⟩ := h3
  obtain rfl := belowq_one (good_iff.1 hg).2.2.1 (by have := pw_pos 149; omega) hp hq
  have hb := hp.2.1
  have hi := in_gr e f
  refine ⟨by omega, by omega, ?_, ?_⟩
  · rintro rfl
    unfold rndP upR at e4 e3
    simp at e4 e3
    split at e3 <;> omega
  · rintro rfl
    unfold rndP upR at e4 e3
    simp at e4 e3
    split at e4 <;> omega

theorem sx_or {e f a b : Int} (ha : patB e f a = true) (hb : patB e f b = true) : sxV e f a b = 0 ∨ sxV e f a b = 1 := by
  unfold sxV
  rcases sign_or ha with h | h <;> rcases sign_or hb with k | k <;> rw [h, k] <;> decide

/-- Products as functions. -/
noncomputable def tmF (e f a b mode : Int) : Int := Classical.epsilon (fun r => TmD e f a b mode r)

noncomputable def dvF (e f a b mode : Int) : Int := Classical.epsilon (fun r => DvD e f a b mode r)

theorem tm_ex {e f a b mode : Int} (ha : patB e f a = true) (hb : patB e f b = true) (m0 : 0 ≤ mode) (m1 : mode ≤ 5) (w : World) : TmD e f a b mode (tmF e f a b mode) := by
  obtain ⟨_, _, _, ⟨r, _, hd, _⟩, _⟩ := arTimes_any e f a b mode ha hb m0 m1 w []
  exact Classical.epsilon_spec (p := fun r => TmD e f a b mode r) ⟨r, hd⟩

theorem dv_ex {e f a b mode : Int} (ha : patB e f a = true) (hb : patB e f b = true) (m0 : 0 ≤ mode) (m1 : mode ≤ 5) (w : World) : DvD e f a b mode (dvF e f a b mode) := by
  obtain ⟨_, _, _, ⟨r, _, hd, _⟩, _⟩ := arDivide_any e f a b mode ha hb m0 m1 w []
  exact Classical.epsilon_spec (p := fun r => DvD e f a b mode r) ⟨r, hd⟩

theorem dv_form {e f a b r4 r3 : Int} (ha : patB e f a = true) (hb : patB e f b = true) (h4 : DvD e f a b 4 r4) (h3 : DvD e f a b 3 r3) :
    CrF e f r4 r3 ∧ (kindV e f a < 3 → kindV e f b < 3 → kindV e f b ≠ 0 → CrN e f r4 r3) ∧ (¬ dqP e f a b → kindV e f a = 3 → r4 = sxV e f a b * pw (e + f) + inV e f ∧ r3 = sxV e f a b * pw (e + f) + inV e f) := by
  have hg := (pat_iff.1 ha).1
  obtain ⟨i0, i1, i2⟩ := in_bd hg
  have hs := sx_or ha hb
  have key : ∀ m s4 s3 : Int, (m = 0 ∨ m = 1) → (0 ≤ s4 ∧ s4 ≤ inV e f) → (0 ≤ s3 ∧ s3 ≤ inV e f) → (m = 0 → s4 < inV e f) → (m = 1 → s3 < inV e f) → CrN e f (s4 + m * pw (e + f)) (s3 + m * pw (e + f)) := by
    intro m s4 s3 hm p4 p3 f0 f1
    obtain ⟨_, v4, _⟩ := en_form hg p4.1 p4.2 hm
    obtain ⟨_, v3, _⟩ := en_form hg p3.1 p3.2 hm
    unfold CrN
    rw [v4, v3]
    rcases hm with rfl | rfl
    · rw [if_pos rfl, if_pos rfl]; have := f0 rfl; omega
    · rw [if_neg (by decide), if_neg (by decide)]; have := f1 rfl; omega
  have q0 : dqP e f a b → kindV e f b ≠ 0 → ¬ (kindV e f a < 3 ∧ kindV e f b < 3) := by rintro (q | q | ⟨q, r⟩ | ⟨q, r⟩) <;> omega
  have q1 : dqP e f a b → (kindV e f a = 1 ∨ kindV e f a = 2) → (kindV e f b = 1 ∨ kindV e f b = 2) → False := by rintro (q | q | ⟨q, r⟩ | ⟨q, r⟩) <;> omega
  rcases h4 with ⟨a1, rfl⟩ | ⟨a1, a2, rfl⟩ | ⟨a1, a2, a3, a4, rfl⟩ | ⟨a1, a2, s4, rfl, c4⟩ <;> rcases h3 with ⟨b1, rfl⟩ | ⟨b1, b2, rfl⟩ | ⟨b1, b2, b3, b4, rfl⟩ | ⟨b1, b2, s3, rfl, c3⟩
  · exact ⟨.inl ⟨rfl, rfl⟩, fun k1 k2 k3 => absurd ⟨k1, k2⟩ (q0 a1 k3), fun k => absurd a1 k⟩
  · exact absurd a1 b1
  · exact absurd a1 b1
  · exact (q1 a1 b1 b2).elim
  · exact absurd b1 a1
  · exact ⟨.inr ⟨sxV e f a b, inV e f, inV e f, hs, Int.add_comm _ _, Int.add_comm _ _, by omega, by omega, fun _ => Int.le_refl _, fun _ => Int.le_refl _⟩, fun k1 k2 k3 => by omega, fun _ _ => ⟨rfl, rfl⟩⟩
  · omega
  · omega
  · exact absurd b1 a1
  · omega
  · refine ⟨.inr ⟨sxV e f a b, 0, 0, hs, (Int.zero_add _).symm, (Int.zero_add _).symm, by omega, by omega, fun _ => Int.le_refl _, fun _ => Int.le_refl _⟩, fun k1 k2 k3 => ?_, fun _ k => absurd k a2⟩
    have := key (sxV e f a b) 0 0 hs (by omega) (by omega) (fun _ => by omega) (fun _ => by omega)
    rwa [Int.zero_add] at this
  · omega
  · exact (q1 b1 a1 a2).elim
  · omega
  · omega
  · obtain ⟨p4, p3, pf, pt⟩ := rnd_pair hg c4 c3
    exact ⟨.inr ⟨sxV e f a b, s4, s3, hs, rfl, rfl, p4, p3, fun z => (pf (by rw [z]; rfl)).1, fun z => (pt (by rw [z]; rfl)).1⟩, fun _ _ _ => key _ _ _ hs p4 p3 (fun z => (pf (by rw [z]; rfl)).2) (fun z => (pt (by rw [z]; rfl)).2), fun _ k => by omega⟩

theorem arTimes_fn (e f a b mode : Int) (ha : patB e f a = true) (hb : patB e f b = true) (m0 : 0 ≤ mode) (m1 : mode ≤ 5) (w : World) : Calls Tryz.prog 69 #[fmt e f, .int .i64 a, .int .i64 b, .int .i64 mode] w fun rv w' => rv = .returned (.int .i64 (tmF e f a b mode)) ∧ Ext w w' := by
  have hp := tm_ex ha hb m0 m1 w
  refine (arTimes_any e f a b mode ha hb m0 m1 w).mono ?_
  rintro rv w' ⟨r, rfl, hd, hx⟩
  obtain rfl := tm_one (pat_iff.1 ha).1 hd hp
  exact ⟨rfl, hx⟩

theorem arDivide_fn (e f a b mode : Int) (ha : patB e f a = true) (hb : patB e f b = true) (m0 : 0 ≤ mode) (m1 : mode ≤ 5) (w : World) : Calls Tryz.prog 71 #[fmt e f, .int .i64 a, .int .i64 b, .int .i64 mode] w fun rv w' => rv = .returned (.int .i64 (dvF e f a b mode)) ∧ Ext w w' := by
  have hp := dv_ex ha hb m0 m1 w
  refine (arDivide_any e f a b mode ha hb m0 m1 w).mono ?_
  rintro rv w' ⟨r, rfl, hd, hx⟩
  obtain rfl := dv_one (pat_iff.1 ha).1 hd hp
  exact ⟨rfl, hx⟩

theorem iDivide_fn (e f a b mode : Int) (ha : patB e f a = true) (hb : patB e f b = true) (m0 : 0 ≤ mode) (m1 : mode ≤ 5) (w : World) (hT : TW w) : Calls Tryz.prog 35 #[fmt e f, .int .i64 a, .int .i64 b, .int .i64 mode] w fun rv w' => rv = .returned (.tuple #[.int .i64 (dvF e f a b mode), .bool true]) ∧ Ext w w' := by
  have hp := dv_ex ha hb m0 m1 w
  refine (iDivideOf_yes e f a b mode (ab_iff.2 ⟨ha, hb, m0, m1⟩) w hT).mono ?_
  rintro rv w' ⟨r, rfl, hd, hx⟩
  obtain rfl := dv_one (pat_iff.1 ha).1 hd hp
  exact ⟨rfl, hx⟩

/-- Four corners: what is rounded down and up at the i-th, with what is asked of them. -/
structure Corners (e f : Int) (D U : Nat → Int) : Prop where
  cr : ∀ t, t < 4 → CrF e f (D t) (U t)
  dn : ∃ t, t < 4 ∧ sfV e f (enV e f (D t)) < inV e f
  up : ∃ t, t < 4 ∧ -inV e f < sfV e f (enV e f (U t))

theorem min_at (g : Nat → Int) : ∀ n, 0 < n → ∃ i, i < n ∧ ∀ j, j < n → g i ≤ g j
  | 0, h => by omega
  | 1, _ => ⟨0, by omega, fun j hj => by rw [show j = 0 by omega]; exact Int.le_refl _⟩
  | n + 2, _ => by
    obtain ⟨i, hi, h⟩ := min_at g (n + 1) (by omega)
    by_cases hc : g i ≤ g (n + 1)
    · exact ⟨i, by omega, fun j hj => by
        by_cases hj2 : j < n + 1
        · exact h j hj2
        · rw [show j = n + 1 by omega]; exact hc⟩
    · exact ⟨n + 1, by omega, fun j hj => by
        by_cases hj2 : j < n + 1
        · have := h j hj2; omega
        · rw [show j = n + 1 by omega]; exact Int.le_refl _⟩

theorem fin_sf {e f p : Int} (h : enB e f p = true) : finB e f p = true ↔ -inV e f < sfV e f p ∧ sfV e f p < inV e f := by
  obtain ⟨hg, _, _, ca⟩ := en_parts h
  obtain ⟨i0, i1, i2⟩ := in_bd hg
  rcases ca with ⟨_, _, q1, q2, q3, _⟩ | ⟨_, _, q1, q2, q3⟩ <;> rw [q3] <;> omega

/-- The least and the greatest corner make an interval. -/
theorem corner_iv {e f : Int} {D U : Nat → Int} (hg : goodB e f = true) (h : Corners e f D U) {i j : Nat} (hi : i < 4) (hj : j < 4) (li : ∀ t, t < 4 → sfV e f (enV e f (D i)) ≤ sfV e f (enV e f (D t))) (lj : ∀ t, t < 4 → sfV e f (enV e f (U t)) ≤ sfV e f (enV e f (U j))) : ivB e f (enV e f (D i)) (enV e f (U j)) = true := by
  obtain ⟨x0, x1, x2, _⟩ := cr_facts hg (h.cr i hi)
  obtain ⟨y0, y1, y2, _⟩ := cr_facts hg (h.cr j hj)
  obtain ⟨t, ht, hd⟩ := h.dn
  obtain ⟨s, hs, hu⟩ := h.up
  have q1 := li t ht
  have q2 := lj s hs
  have q3 := lj i hi
  rw [iv_three x0 y1, decide_eq_true (show sfV e f (enV e f (D i)) ≤ sfV e f (enV e f (U j)) by omega), Bool.true_and, Bool.or_eq_true]
  by_cases hq : enV e f (D i) = enV e f (U j)
  · right
    have e9 : sfV e f (enV e f (D i)) = sfV e f (enV e f (U j)) := congrArg _ hq
    exact (fin_sf x0).2 ⟨by omega, by omega⟩
  · left; simpa using hq
end Go.Proofs.YtfgbndjhaiigbaaGreatDoor

namespace Go.Proofs.YtfgbndjhaiigbaaGreatDoor
open Go Go.RowKit Go.Maps
set_option linter.unusedSimpArgs false
set_option linter.unusedVariables false
set_option maxRecDepth 100000

theorem inf_sf {e f m : Int} (hg : goodB e f = true) (hm : m = 0 ∨ m = 1) : sfV e f (enV e f (m * pw (e + f) + inV e f)) = if m = 0 then inV e f else -inV e f := by
  obtain ⟨i0, i1, i2⟩ := in_bd hg
  have := (en_form (s := inV e f) hg (by omega) (Int.le_refl _) hm).2.1
  rwa [Int.add_comm] at this

theorem zero_sf (e f : Int) (hg : goodB e f = true) : sfV e f 0 = 0 := by
  have := pw_pos (e + f)
  unfold sfV; rw [if_neg (by omega)]

theorem kind_bd {e f p : Int} (h : enB e f p = true) : 0 ≤ kindV e f p ∧ kindV e f p ≤ 3 := by
  have h4 := end_kind h
  have hp := (en_parts h).2.2.1
  have := (kind_lt e f p hp).2
  rw [(en_parts h).2.1, decide_eq_true_eq] at this
  refine ⟨?_, by omega⟩
  unfold kindV
  split
  · split <;> omega
  · split
    · omega
    · split <;> omega

theorem sx_val {e f a b x y : Int} (hx : a / pw (e + f) = x) (hy : b / pw (e + f) = y) : sxV e f a b = (x + y) % 2 := by unfold sxV; rw [hx, hy]

/-- Two corners with an infinite end of either sign on one side. -/
theorem inf_two {e f : Int} (hg : goodB e f = true) {r s u v : Int} {z : Int} (hz : z = 0 ∨ z = 1) (h1 : r = ((1 + z) % 2) * pw (e + f) + inV e f ∧ u = ((1 + z) % 2) * pw (e + f) + inV e f) (h2 : s = ((0 + z) % 2) * pw (e + f) + inV e f ∧ v = ((0 + z) % 2) * pw (e + f) + inV e f) :
    (sfV e f (enV e f r) < inV e f ∨ sfV e f (enV e f s) < inV e f) ∧ (-inV e f < sfV e f (enV e f u) ∨ -inV e f < sfV e f (enV e f v)) := by
  obtain ⟨i0, i1, i2⟩ := in_bd hg
  obtain ⟨rfl, rfl⟩ := h1
  obtain ⟨rfl, rfl⟩ := h2
  have a0 := inf_sf (m := 0) hg (.inl rfl)
  have a1 := inf_sf (m := 1) hg (.inr rfl)
  rw [if_pos rfl] at a0
  rw [if_neg (by decide)] at a1
  rcases hz with rfl | rfl
  · rw [show ((1 : Int) + 0) % 2 = 1 from rfl, show ((0 : Int) + 0) % 2 = 0 from rfl, a0, a1]
    omega
  · rw [show ((1 : Int) + 1) % 2 = 0 from rfl, show ((0 : Int) + 1) % 2 = 1 from rfl, a0, a1]
    omega

/-- An interval has the number 0. -/
def hz0 (e f c d : Int) : Bool := decide (sfV e f c ≤ 0) && decide (0 ≤ sfV e f d)

theorem kind_sf {e f p : Int} (h : enB e f p = true) : (kindV e f p = 0 ↔ sfV e f p = 0) ∧ (kindV e f p = 3 ↔ sfV e f p = inV e f ∨ sfV e f p = -inV e f) := by
  obtain ⟨hg, hn, hp, ca⟩ := en_parts h
  obtain ⟨i0, i1, i2⟩ := in_bd hg
  have k0 := kind_zer hp
  have k3 := (kind_lt e f p hp).1
  have kb := kind_bd h
  have ff := fin_sf h
  have hz : kindV e f p = 0 ↔ p % pw (e + f) = 0 := by
    rw [Bool.eq_iff_iff, beq_iff_eq, beq_iff_eq] at k0; exact k0
  have pp := (pat_parts hp).2
  refine ⟨?_, ?_⟩
  · rw [hz]
    rcases ca with ⟨_, _, q1, _, _, _⟩ | ⟨_, _, q1, _, _⟩ <;> rcases pp with ⟨_, _, _, q⟩ | ⟨_, _, _, q⟩ <;> omega
  · have b3 : kindV e f p = 3 ↔ ¬ finB e f p = true := by rw [← k3, decide_eq_true_eq]; omega
    rw [b3, ff]
    rcases ca with ⟨_, _, q1, _, _, _⟩ | ⟨_, _, q1, _, _⟩ <;> omega

theorem dv_corners {e f a b c d : Int} (h1 : ivB e f a b = true) (h2 : ivB e f c d = true) (hz : hz0 e f c d = false) (w : World) : Corners e f (fun t : Nat => dvF e f (if t / 2 = 0 then a else b) (if t % 2 = 0 then c else d) 4) (fun t : Nat => dvF e f (if t / 2 = 0 then a else b) (if t % 2 = 0 then c else d) 3) := by
  obtain ⟨ea, eb, _⟩ := iv_parts h1
  obtain ⟨ec, ed, lcd, _⟩ := iv_parts h2
  obtain ⟨hg, _, pa, _⟩ := en_parts ea
  have pb := (en_parts eb).2.2.1
  have pc := (en_parts ec).2.2.1
  have pd := (en_parts ed).2.2.1
  obtain ⟨i0, i1, i2⟩ := in_bd hg
  have FF : ∀ x y, patB e f x = true → patB e f y = true → _ := fun x y hx hy => dv_form hx hy (dv_ex (mode := 4) hx hy (by decide) (by decide) w) (dv_ex (mode := 3) hx hy (by decide) (by decide) w)
  have f0 := FF a c pa pc
  have f1 := FF a d pa pd
  have f2 := FF b c pb pc
  have f3 := FF b d pb pd
  have ka := kind_bd ea
  have kb := kind_bd eb
  have kc := kind_bd ec
  have kd := kind_bd ed
  have nz : 0 < sfV e f c ∨ sfV e f d < 0 := by
    unfold hz0 at hz
    by_cases q1 : sfV e f c ≤ 0
    · by_cases q2 : 0 ≤ sfV e f d
      · rw [decide_eq_true q1, decide_eq_true q2] at hz; cases hz
      · omega
    · omega
  obtain ⟨c0, c3⟩ := kind_sf ec
  obtain ⟨d0, d3⟩ := kind_sf ed
  have hc0 : kindV e f c ≠ 0 := fun q => by have := c0.1 q; omega
  have hd0 : kindV e f d ≠ 0 := fun q => by have := d0.1 q; omega
  have four : ∀ t : Nat, t < 4 → t = 0 ∨ t = 1 ∨ t = 2 ∨ t = 3 := fun t h => by omega
  have hcd : kindV e f c < 3 ∨ kindV e f d < 3 := by
    by_cases q : kindV e f c < 3
    · exact .inl q
    · by_cases q2 : kindV e f d < 3
      · exact .inr q2
      · exfalso
        have x3 : kindV e f c = 3 := by omega
        have y3 : kindV e f d = 3 := by omega
        have s1 := low_sign h2 x3
        have s2 := high_sign h2 y3
        obtain ⟨_, _, _, cc⟩ := en_parts ec
        obtain ⟨_, _, _, cd⟩ := en_parts ed
        have pp := (pat_parts pc).2
        have pq := (pat_parts pd).2
        rcases cc with ⟨_, _, q1, _, _, _⟩ | ⟨_, _, q1, _, _⟩ <;> rcases cd with ⟨_, _, q2, _, _, _⟩ | ⟨_, _, q2, _, _⟩ <;> rcases pp with ⟨_, _, q3, _⟩ | ⟨_, _, q3, _⟩ <;> rcases pq with ⟨_, _, q4, _⟩ | ⟨_, _, q4, _⟩ <;> omega
  have key : ((sfV e f (enV e f (dvF e f a c 4)) < inV e f ∨ sfV e f (enV e f (dvF e f a d 4)) < inV e f ∨ sfV e f (enV e f (dvF e f b c 4)) < inV e f ∨ sfV e f (enV e f (dvF e f b d 4)) < inV e f) ∧
      (-inV e f < sfV e f (enV e f (dvF e f a c 3)) ∨ -inV e f < sfV e f (enV e f (dvF e f a d 3)) ∨ -inV e f < sfV e f (enV e f (dvF e f b c 3)) ∨ -inV e f < sfV e f (enV e f (dvF e f b d 3)))) := by
    by_cases xa : kindV e f a = 3 ∧ kindV e f b = 3
    · have sa := low_sign h1 xa.1
      have sb := high_sign h1 xa.2
      rcases hcd with q | q
      · have n0 : ¬ dqP e f a c := by rintro (q | q | ⟨q, r⟩ | ⟨q, r⟩) <;> omega
        have n2 : ¬ dqP e f b c := by rintro (q | q | ⟨q, r⟩ | ⟨q, r⟩) <;> omega
        have r0 := f0.2.2 n0 xa.1
        have r2 := f2.2.2 n2 xa.2
        rw [sx_val sa rfl] at r0
        rw [sx_val sb rfl] at r2
        obtain ⟨g1, g2⟩ := inf_two hg (sign_or pc) r0 r2
        exact ⟨g1.elim .inl (fun q => .inr (.inr (.inl q))), g2.elim .inl (fun q => .inr (.inr (.inl q)))⟩
      · have n0 : ¬ dqP e f a d := by rintro (q | q | ⟨q, r⟩ | ⟨q, r⟩) <;> omega
        have n2 : ¬ dqP e f b d := by rintro (q | q | ⟨q, r⟩ | ⟨q, r⟩) <;> omega
        have r0 := f1.2.2 n0 xa.1
        have r2 := f3.2.2 n2 xa.2
        rw [sx_val sa rfl] at r0
        rw [sx_val sb rfl] at r2
        obtain ⟨g1, g2⟩ := inf_two hg (sign_or pd) r0 r2
        exact ⟨g1.elim (fun q => .inr (.inl q)) (fun q => .inr (.inr (.inr q))), g2.elim (fun q => .inr (.inl q)) (fun q => .inr (.inr (.inr q)))⟩
    · by_cases xf : kindV e f a < 3
      · by_cases yf : kindV e f c < 3
        · have q := f0.2.1 xf yf hc0; exact ⟨.inl q.1, .inl q.2⟩
        · have q := f1.2.1 xf (by omega) hd0; exact ⟨.inr (.inl q.1), .inr (.inl q.2)⟩
      · by_cases yf : kindV e f c < 3
        · have q := f2.2.1 (by omega) yf hc0; exact ⟨.inr (.inr (.inl q.1)), .inr (.inr (.inl q.2))⟩
        · have q := f3.2.1 (by omega) (by omega) hd0; exact ⟨.inr (.inr (.inr q.1)), .inr (.inr (.inr q.2))⟩
  refine ⟨fun t ht => ?_, ?_, ?_⟩
  · rcases four t ht with rfl | rfl | rfl | rfl
    · exact f0.1
    · exact f1.1
    · exact f2.1
    · exact f3.1
  · rcases key.1 with q | q | q | q
    · exact ⟨0, by omega, q⟩
    · exact ⟨1, by omega, q⟩
    · exact ⟨2, by omega, q⟩
    · exact ⟨3, by omega, q⟩
  · rcases key.2 with q | q | q | q
    · exact ⟨0, by omega, q⟩
    · exact ⟨1, by omega, q⟩
    · exact ⟨2, by omega, q⟩
    · exact ⟨3, by omega, q⟩

set_option maxHeartbeats 3200000 in
theorem both_Divide (e f a b : Int) (ha : patB e f a = true) (hb : patB e f b = true) (w : World) (hT : TW w) :
    Calls Tryz.prog 93 #[fmt e f, .func (.func 35) #[] #[], two a b, two a b] w fun rv w' => rv = .returned (two (enV e f (dvF e f a b 4)) (enV e f (dvF e f a b 3))) ∧ Ext w w' := by
  have L1 := Lib.hid (fun w hT => iDivide_fn e f a b 4 ha hb (by decide) (by decide) w hT)
  have H1 := Lib.hid (fun w hT => iDivide_fn e f a b 3 ha hb (by decide) (by decide) w hT)
  have WE := Lib.hid (fun w => withEnds_any e f (dvF e f a b 4) (dvF e f a b 3) w)
  clear ha hb
  generalize enV e f (dvF e f a b 4) = u at *
  generalize enV e f (dvF e f a b 3) = v at *
  generalize dvF e f a b 4 = p at *
  generalize dvF e f a b 3 = q at *
  go_enter Tryz.func93, Tryz.ntmps93
  go_wp2_with (first | (go_at_call 35; (with_reducible refine (L1.out _ (hT.ext Ext.auK)).mono ?_); rintro rv w1 ⟨rfl, hb⟩; have ns : w.heap.size + 3 < w1.heap.size := hb.ltK; have n0 : w1.cell? ⟨w.heap.size, 0, none⟩ = some (.int .i64 e) := hb.cellK; have n1 : w1.cell? ⟨w.heap.size, 1, none⟩ = some (.int .i64 f) := hb.cellK; have n2 : w1.cell? ⟨w.heap.size + 1, 0, none⟩ = some (.int .i64 a) := hb.cellK; have n3 : w1.cell? ⟨w.heap.size + 1, 1, none⟩ = some (.int .i64 b) := hb.cellK; have n4 : w1.cell? ⟨w.heap.size + 2, 0, none⟩ = some (.int .i64 a) := hb.cellK; have n5 : w1.cell? ⟨w.heap.size + 2, 1, none⟩ = some (.int .i64 b) := hb.cellK; have n6 : w1.cell? ⟨w.heap.size + 3, 0, none⟩ = some (.int .i64 0) := hb.cellK; have n7 : w1.cell? ⟨w.heap.size + 3, 1, none⟩ = some (.int .i64 0) := hb.cellK; have nz0 : w1.frozen? ⟨w.heap.size + 3, 0, none⟩ = false := hb.frzK; have nz1 : w1.frozen? ⟨w.heap.size + 3, 1, none⟩ = false := hb.frzK; (first | (have nx := hx.trK hb; clear hx) | have nx := hb); clear hb; try clear hs; try clear g0; try clear g1; try clear g2; try clear g3; try clear g4; try clear g5; try clear g6; try clear g7; try clear z0; try clear z1; have hx := nx; clear nx; have hs := ns; clear ns; have g0 := n0; clear n0; have g1 := n1; clear n1; have g2 := n2; clear n2; have g3 := n3; clear n3; have g4 := n4; clear n4; have g5 := n5; clear n5; have g6 := n6; clear n6; have g7 := n7; clear n7; have z0 := nz0; clear nz0; have z1 := nz1; clear nz1) | (go_at_call 35; (with_reducible refine (H1.out _ (hT.ext Ext.auK)).mono ?_); rintro rv w1 ⟨rfl, hb⟩; have ns : w.heap.size + 3 < w1.heap.size := hb.ltK; have n0 : w1.cell? ⟨w.heap.size, 0, none⟩ = some (.int .i64 e) := hb.cellK; have n1 : w1.cell? ⟨w.heap.size, 1, none⟩ = some (.int .i64 f) := hb.cellK; have n2 : w1.cell? ⟨w.heap.size + 1, 0, none⟩ = some (.int .i64 a) := hb.cellK; have n3 : w1.cell? ⟨w.heap.size + 1, 1, none⟩ = some (.int .i64 b) := hb.cellK; have n4 : w1.cell? ⟨w.heap.size + 2, 0, none⟩ = some (.int .i64 a) := hb.cellK; have n5 : w1.cell? ⟨w.heap.size + 2, 1, none⟩ = some (.int .i64 b) := hb.cellK; have n6 : w1.cell? ⟨w.heap.size + 3, 0, none⟩ = some (.int .i64 0) := hb.cellK; have n7 : w1.cell? ⟨w.heap.size + 3, 1, none⟩ = some (.int .i64 0) := hb.cellK; have nz0 : w1.frozen? ⟨w.heap.size + 3, 0, none⟩ = false := hb.frzK; have nz1 : w1.frozen? ⟨w.heap.size + 3, 1, none⟩ = false := hb.frzK; (first | (have nx := hx.trK hb; clear hx) | have nx := hb); clear hb; try clear hs; try clear g0; try clear g1; try clear g2; try clear g3; try clear g4; try clear g5; try clear g6; try clear g7; try clear z0; try clear z1; have hx := nx; clear nx; have hs := ns; clear ns; have g0 := n0; clear n0; have g1 := n1; clear n1; have g2 := n2; clear n2; have g3 := n3; clear n3; have g4 := n4; clear n4; have g5 := n5; clear n5; have g6 := n6; clear n6; have g7 := n7; clear n7; have z0 := nz0; clear nz0; have z1 := nz1; clear nz1) | (go_at_call 56; refine (WE.out _).mono ?_; rintro rv w1 ⟨rfl, hb⟩; have ns : w.heap.size + 3 < w1.heap.size := hb.ltK; have n0 : w1.cell? ⟨w.heap.size, 0, none⟩ = some (.int .i64 e) := hb.cellK; have n1 : w1.cell? ⟨w.heap.size, 1, none⟩ = some (.int .i64 f) := hb.cellK; have n2 : w1.cell? ⟨w.heap.size + 1, 0, none⟩ = some (.int .i64 a) := hb.cellK; have n3 : w1.cell? ⟨w.heap.size + 1, 1, none⟩ = some (.int .i64 b) := hb.cellK; have n4 : w1.cell? ⟨w.heap.size + 2, 0, none⟩ = some (.int .i64 a) := hb.cellK; have n5 : w1.cell? ⟨w.heap.size + 2, 1, none⟩ = some (.int .i64 b) := hb.cellK; have n6 : w1.cell? ⟨w.heap.size + 3, 0, none⟩ = some (.int .i64 0) := hb.cellK; have n7 : w1.cell? ⟨w.heap.size + 3, 1, none⟩ = some (.int .i64 0) := hb.cellK; have nz0 : w1.frozen? ⟨w.heap.size + 3, 0, none⟩ = false := hb.frzK; have nz1 : w1.frozen? ⟨w.heap.size + 3, 1, none⟩ = false := hb.frzK; (first | (have nx := hx.trK hb; clear hx) | have nx := hb); clear hb; try clear hs; try clear g0; try clear g1; try clear g2; try clear g3; try clear g4; try clear g5; try clear g6; try clear g7; try clear z0; try clear z1; have hx := nx; clear nx; have hs := ns; clear ns; have g0 := n0; clear n0; have g1 := n1; clear n1; have g2 := n2; clear n2; have g3 := n3; clear n3; have g4 := n4; clear n4; have g5 := n5; clear n5; have g6 := n6; clear n6; have g7 := n7; clear n7; have z0 := nz0; clear nz0; have z1 := nz1; clear nz1))
  exact bodyPost_ret (v := two u v) (by simp [results, Tryz.results93, go_sem, *]) rfl ⟨rfl, Ext.auK⟩
end Go.Proofs.YtfgbndjhaiigbaaGreatDoor

namespace Go.Proofs.YtfgbndjhaiigbaaGreatDoor
open Go Go.RowKit Go.Maps
set_option linter.unusedSimpArgs false
set_option linter.unusedVariables false
set_option maxRecDepth 100000

/-- The least value rounded down so far, as the model keeps it; the greatest one rounded up. -/
def loI (e f : Int) (D : Nat → Int) (t : Nat) (x : Int) : Prop := (t = 0 ∧ x = -1) ∨ (0 < t ∧ 0 ≤ x ∧ patB e f x = true ∧ ∃ i, i < t ∧ izV e f x = enV e f (D i) ∧ ∀ s, s < t → sfV e f (enV e f (D i)) ≤ sfV e f (enV e f (D s)))

def hiI (e f : Int) (U : Nat → Int) (t : Nat) (x : Int) : Prop := (t = 0 ∧ x = -1) ∨ (0 < t ∧ 0 ≤ x ∧ patB e f x = true ∧ ∃ i, i < t ∧ izV e f x = enV e f (U i) ∧ ∀ s, s < t → sfV e f (enV e f (U s)) ≤ sfV e f (enV e f (U i)))

theorem pat_nn {e f x : Int} (h : patB e f x = true) : 0 ≤ x := (pat_iff.1 h).2.1

theorem lo_first {e f : Int} {D : Nat → Int} {y : Int} (hp : patB e f y = true) (hy : izV e f y = enV e f (D 0)) : loI e f D 1 y := .inr ⟨by omega, pat_nn hp, hp, 0, by omega, hy, fun s hs => by rw [show s = 0 by omega]; exact Int.le_refl _⟩

theorem hi_first {e f : Int} {D : Nat → Int} {y : Int} (hp : patB e f y = true) (hy : izV e f y = enV e f (D 0)) : hiI e f D 1 y := .inr ⟨by omega, pat_nn hp, hp, 0, by omega, hy, fun s hs => by rw [show s = 0 by omega]; exact Int.le_refl _⟩

/-- The order of what is kept, by steps. -/
theorem ls_en {e f x y X Y : Int} (hx : izV e f x = X) (hy : izV e f y = Y) (eX : enB e f X = true) (eY : enB e f Y = true) : lsB e f x y = true ↔ sfV e f X < sfV e f Y := by
  unfold lsB
  rw [hx, hy, decide_eq_true_eq]
  have := key_sf eY eX
  omega

theorem lo_new {e f : Int} {D : Nat → Int} {t : Nat} {x y : Int} (hD : ∀ s, enB e f (enV e f (D s)) = true) (h : loI e f D t x) (ht : 0 < t) (hp : patB e f y = true) (hy : izV e f y = enV e f (D t)) (hl : lsB e f y x = true) : loI e f D (t + 1) y := by
  rcases h with ⟨h, _⟩ | ⟨_, _, _, i, hi, hx, hm⟩
  · omega
  have q := (ls_en hy hx (hD t) (hD i)).1 hl
  refine .inr ⟨by omega, pat_nn hp, hp, t, by omega, hy, fun s hs => ?_⟩
  by_cases hst : s < t
  · have := hm s hst; omega
  · rw [show s = t by omega]; exact Int.le_refl _

theorem lo_old {e f : Int} {D : Nat → Int} {t : Nat} {x y : Int} (hD : ∀ s, enB e f (enV e f (D s)) = true) (h : loI e f D t x) (ht : 0 < t) (hy : izV e f y = enV e f (D t)) (hl : lsB e f y x = false) : loI e f D (t + 1) x := by
  rcases h with ⟨h, _⟩ | ⟨_, h0, hp, i, hi, hx, hm⟩
  · omega
  have q := ls_en hy hx (hD t) (hD i)
  rw [hl] at q
  refine .inr ⟨by omega, h0, hp, i, by omega, hx, fun s hs => ?_⟩
  by_cases hst : s < t
  · exact hm s hst
  · rw [show s = t by omega]
    by_cases hc : sfV e f (enV e f (D t)) < sfV e f (enV e f (D i))
    · have := q.2 hc; cases this
    · omega

theorem hi_new {e f : Int} {D : Nat → Int} {t : Nat} {x y : Int} (hD : ∀ s, enB e f (enV e f (D s)) = true) (h : hiI e f D t x) (ht : 0 < t) (hp : patB e f y = true) (hy : izV e f y = enV e f (D t)) (hl : lsB e f x y = true) : hiI e f D (t + 1) y := by
  rcases h with ⟨h, _⟩ | ⟨_, _, _, i, hi, hx, hm⟩
  · omega
  have q := (ls_en hx hy (hD i) (hD t)).1 hl
  refine .inr ⟨by omega, pat_nn hp, hp, t, by omega, hy, fun s hs => ?_⟩
  by_cases hst : s < t
  · have := hm s hst; omega
  · rw [show s = t by omega]; exact Int.le_refl _

theorem hi_old {e f : Int} {D : Nat → Int} {t : Nat} {x y : Int} (hD : ∀ s, enB e f (enV e f (D s)) = true) (h : hiI e f D t x) (ht : 0 < t) (hy : izV e f y = enV e f (D t)) (hl : lsB e f x y = false) : hiI e f D (t + 1) x := by
  rcases h with ⟨h, _⟩ | ⟨_, h0, hp, i, hi, hx, hm⟩
  · omega
  have q := ls_en hx hy (hD i) (hD t)
  rw [hl] at q
  refine .inr ⟨by omega, h0, hp, i, by omega, hx, fun s hs => ?_⟩
  by_cases hst : s < t
  · exact hm s hst
  · rw [show s = t by omega]
    by_cases hc : sfV e f (enV e f (D i)) < sfV e f (enV e f (D t))
    · have := q.2 hc; cases this
    · omega

/-- One corner more: what the model keeps behind it. -/
theorem four_step {e f lo hi : Int} {D U : Nat → Int} {t : Nat} (hg : goodB e f = true) (hD : ∀ s, enB e f (enV e f (D s)) = true) (hU : ∀ s, enB e f (enV e f (U s)) = true) (HL : loI e f D t lo) (HH : hiI e f U t hi) (pdn : patB e f (D t) = true) (pup : patB e f (U t) = true)
    (CF : kindV e f (D t) = 4 ∧ kindV e f (U t) = 4 ∧ enV e f (D t) = 0 ∧ enV e f (U t) = 0 ∨ kindV e f (D t) ≠ 4 ∧ izV e f (D t) = enV e f (D t) ∧ izV e f (U t) = enV e f (U t)) :
    ∃ b fst l1 l2 : Bool, (kindV e f (D t) == 4) = b ∧ (fst = true → lo = -1 ∧ hi = -1 ∧ l1 = false ∧ l2 = false) ∧
      (fst = false → ¬ lo < 0 ∧ ¬ hi < 0 ∧ patB e f lo = true ∧ patB e f hi = true ∧ patB e f (cond b 0 (D t)) = true ∧ patB e f (cond b 0 (U t)) = true ∧ lsB e f (cond b 0 (D t)) lo = l1 ∧ lsB e f hi (cond b 0 (U t)) = l2) ∧
      loI e f D (t + 1) (cond (fst || l1) (cond b 0 (D t)) lo) ∧ hiI e f U (t + 1) (cond (fst || l2) (cond b 0 (U t)) hi) := by
  have p0 : patB e f 0 = true := pat_iff.2 ⟨hg, Int.le_refl _, by have := pw_pos (e + f); omega⟩
  have iz0 : izV e f 0 = 0 := by unfold izV; rw [Int.zero_emod]; rfl
  obtain ⟨b, X, Y, hb, hX, hY, pX, pY, qX, qY⟩ : ∃ (b : Bool) (X Y : Int), (kindV e f (D t) == 4) = b ∧ cond b 0 (D t) = X ∧ cond b 0 (U t) = Y ∧ patB e f X = true ∧ patB e f Y = true ∧ izV e f X = enV e f (D t) ∧ izV e f Y = enV e f (U t) := by
    rcases CF with ⟨kn, ku, e0, e1⟩ | ⟨kn, e0, e1⟩
    · exact ⟨true, 0, 0, by rw [kn]; rfl, rfl, rfl, p0, p0, iz0.trans e0.symm, iz0.trans e1.symm⟩
    · exact ⟨false, D t, U t, by simpa using kn, rfl, rfl, pdn, pup, e0, e1⟩
  rw [hb]
  by_cases ht : t = 0
  · subst ht
    have hlo : lo = -1 := by rcases HL with ⟨_, q⟩ | ⟨q, _⟩; exact q; omega
    have hhi : hi = -1 := by rcases HH with ⟨_, q⟩ | ⟨q, _⟩; exact q; omega
    refine ⟨b, true, false, false, rfl, fun _ => ⟨hlo, hhi, rfl, rfl⟩, fun h => (by cases h), ?_, ?_⟩
    · show loI e f D 1 (cond b 0 (D 0)); rw [hX]; exact lo_first pX qX
    · show hiI e f U 1 (cond b 0 (U 0)); rw [hY]; exact hi_first pY qY
  · have hp : 0 < t := Nat.pos_of_ne_zero ht
    have l0 : ¬ lo < 0 := by rcases HL with ⟨q, _⟩ | ⟨_, q, _⟩ <;> omega
    have h0 : ¬ hi < 0 := by rcases HH with ⟨q, _⟩ | ⟨_, q, _⟩ <;> omega
    have plo : patB e f lo = true := by rcases HL with ⟨q, _⟩ | ⟨_, _, q, _⟩; omega; exact q
    have phi : patB e f hi = true := by rcases HH with ⟨q, _⟩ | ⟨_, _, q, _⟩; omega; exact q
    refine ⟨b, false, lsB e f X lo, lsB e f hi Y, rfl, fun h => (by cases h), fun _ => ⟨l0, h0, plo, phi, by rw [hX]; exact pX, by rw [hY]; exact pY, by rw [hX], by rw [hY]⟩, ?_, ?_⟩
    · rw [hX, Bool.false_or]
      show loI e f D (t + 1) (cond (lsB e f X lo) X lo)
      cases l1 : lsB e f X lo
      · exact lo_old hD HL hp qX l1
      · exact lo_new hD HL hp pX qX l1
    · rw [hY, Bool.false_or]
      show hiI e f U (t + 1) (cond (lsB e f hi Y) Y hi)
      cases l2 : lsB e f hi Y
      · exact hi_old hU HH hp qY l2
      · exact hi_new hU HH hp pY qY l2

set_option maxHeartbeats 40000000 in
theorem ivFour_divide (e f a b c d : Int) (pa : patB e f a = true) (pb : patB e f b = true) (pc : patB e f c = true) (pd : patB e f d = true) (D U : Nat → Int) (hDd : D = (fun t : Nat => dvF e f (if t / 2 = 0 then a else b) (if t % 2 = 0 then c else d) 4)) (hUd : U = (fun t : Nat => dvF e f (if t / 2 = 0 then a else b) (if t % 2 = 0 then c else d) 3)) (hcr : ∀ t, CrF e f (D t) (U t)) (w : World) :
    Calls Tryz.prog 45 #[fmt e f, two a b, two c d, .bool true] w fun rv w' => (∃ x y : Int, rv = .returned (two x y) ∧ (∃ i, i < 4 ∧ x = enV e f (D i) ∧ ∀ s, s < 4 → sfV e f (enV e f (D i)) ≤ sfV e f (enV e f (D s))) ∧ (∃ i, i < 4 ∧ y = enV e f (U i) ∧ ∀ s, s < 4 → sfV e f (enV e f (U s)) ≤ sfV e f (enV e f (U i)))) ∧ Ext w w' := by
  have hg := (pat_iff.1 pa).1
  have hDe : ∀ s, enB e f (enV e f (D s)) = true := fun s => (cr_facts hg (hcr s)).1
  have hUe : ∀ s, enB e f (enV e f (U s)) = true := fun s => (cr_facts hg (hcr s)).2.1
  have HCR := Lib.hid hcr
  have p0 : patB e f 0 = true := pat_iff.2 ⟨hg, Int.le_refl _, by have := pw_pos (e + f); omega⟩
  have iz0 : izV e f 0 = 0 := by unfold izV; rw [Int.zero_emod]; rfl
  have HDd := Lib.hid hDd
  have HUd := Lib.hid hUd
  clear hDd hUd hcr
  go_enter Tryz.func45, Tryz.ntmps45
  go_wp2_with go_in
  go_loopw [9, 10, 23] (fun s9 s10 x wr => ∃ (k : Nat) (lo hi : Int), s9 = .int .i64 lo ∧ s10 = .int .i64 hi ∧ x = .int .i64 (k : Int) ∧ k ≤ 2 ∧ RowKit.Hid (loI e f D (2 * k) lo) ∧ RowKit.Hid (hiI e f U (2 * k) hi) ∧ wr.cell? ⟨w.heap.size, 0, none⟩ = some (.int .i64 e) ∧ wr.cell? ⟨w.heap.size, 1, none⟩ = some (.int .i64 f) ∧ wr.cell? ⟨w.heap.size + 1, 0, none⟩ = some (.int .i64 a) ∧ wr.cell? ⟨w.heap.size + 1, 1, none⟩ = some (.int .i64 b) ∧ wr.cell? ⟨w.heap.size + 2, 0, none⟩ = some (.int .i64 c) ∧ wr.cell? ⟨w.heap.size + 2, 1, none⟩ = some (.int .i64 d) ∧ wr.cell? ⟨w.heap.size + 4, 0, none⟩ = some (.int .i64 a) ∧ wr.cell? ⟨w.heap.size + 4, 1, none⟩ = some (.int .i64 b) ∧ wr.cell? ⟨w.heap.size + 3, 0, none⟩ = some (.int .i64 0) ∧ wr.cell? ⟨w.heap.size + 3, 1, none⟩ = some (.int .i64 0) ∧ wr.frozen? ⟨w.heap.size + 3, 0, none⟩ = false ∧ wr.frozen? ⟨w.heap.size + 3, 1, none⟩ = false ∧ w.heap.size + 4 < wr.heap.size ∧ Ext w wr) (fun _ _ x _ => 2 - (intOf x).toNat)
  case atStart => exact ⟨0, -1, -1, rfl, rfl, rfl, by omega, Lib.hid (.inl ⟨rfl, rfl⟩), Lib.hid (.inl ⟨rfl, rfl⟩), by first | (simp; done) | (simp [go_sem]; done), by first | (simp; done) | (simp [go_sem]; done), by first | (simp; done) | (simp [go_sem]; done), by first | (simp; done) | (simp [go_sem]; done), by first | (simp; done) | (simp [go_sem]; done), by first | (simp; done) | (simp [go_sem]; done), by first | (simp; done) | (simp [go_sem]; done), by first | (simp; done) | (simp [go_sem]; done), by first | (simp; done) | (simp [go_sem]; done), by first | (simp; done) | (simp [go_sem]; done), by first | (simp; done) | (simp [go_sem]; done), by first | (simp; done) | (simp [go_sem]; done), by first | (simp; done) | (simp; omega), Ext.auK⟩
  case round =>
    obtain ⟨k, lo, hi, rfl, rfl, rfl, hk, HL, HH, g0, g1, g2, g3, g4, g5, g6, g7, r0, r1, z0, z1, hs, hx⟩ := hrel
    obtain ⟨wo, hwo⟩ : ∃ x, x = wr := ⟨_, rfl⟩
    subst hwo
    have hso : w.heap.size + 4 < wo.heap.size := hs
    by_cases hlt : k < 2
    · have k1 : ((k : Nat) : Int) < 2 := by omega
      have k0 : (0 : Int) ≤ (k : Int) := by omega
      have k2 : ((k : Int)).toNat = k := by omega
      have u1 : IntKind.i64.wrap ((k : Int) + 1) = (k : Int) + 1 := IntWalk.i64_in _ (by omega)
      obtain ⟨av, hav⟩ : ∃ z, z = (if k = 0 then a else b) := ⟨_, rfl⟩
      have ga : wo.cell? ⟨w.heap.size + 4, k, none⟩ = some (.int .i64 av) := by
        have : k = 0 ∨ k = 1 := by omega
        rcases this with rfl | rfl
        · rw [hav, if_pos rfl]; exact g6
        · rw [hav, if_neg (by decide)]; exact g7
      have pav : patB e f av = true := by rw [hav]; split; exact pa; exact pb
      have HAV := Lib.hid hav
      clear hav
      have fa0 : ∀ o : Obj, (wo.alloc o).cell? ⟨w.heap.size, 0, none⟩ = some (.int .i64 e) := fun o => ((Ext.new wo o).cells _ _ (by omega)).trans g0
      have fa1 : ∀ o : Obj, (wo.alloc o).cell? ⟨w.heap.size, 1, none⟩ = some (.int .i64 f) := fun o => ((Ext.new wo o).cells _ _ (by omega)).trans g1
      have fa2 : ∀ o : Obj, (wo.alloc o).cell? ⟨w.heap.size + 1, 0, none⟩ = some (.int .i64 a) := fun o => ((Ext.new wo o).cells _ _ (by omega)).trans g2
      have fa3 : ∀ o : Obj, (wo.alloc o).cell? ⟨w.heap.size + 1, 1, none⟩ = some (.int .i64 b) := fun o => ((Ext.new wo o).cells _ _ (by omega)).trans g3
      have fa4 : ∀ o : Obj, (wo.alloc o).cell? ⟨w.heap.size + 2, 0, none⟩ = some (.int .i64 c) := fun o => ((Ext.new wo o).cells _ _ (by omega)).trans g4
      have fa5 : ∀ o : Obj, (wo.alloc o).cell? ⟨w.heap.size + 2, 1, none⟩ = some (.int .i64 d) := fun o => ((Ext.new wo o).cells _ _ (by omega)).trans g5
      have fa6 : ∀ o : Obj, (wo.alloc o).cell? ⟨w.heap.size + 4, 0, none⟩ = some (.int .i64 a) := fun o => ((Ext.new wo o).cells _ _ (by omega)).trans g6
      have fa7 : ∀ o : Obj, (wo.alloc o).cell? ⟨w.heap.size + 4, 1, none⟩ = some (.int .i64 b) := fun o => ((Ext.new wo o).cells _ _ (by omega)).trans g7
      have fa8 : ∀ o : Obj, (wo.alloc o).cell? ⟨w.heap.size + 3, 0, none⟩ = some (.int .i64 0) := fun o => ((Ext.new wo o).cells _ _ (by omega)).trans r0
      have fa9 : ∀ o : Obj, (wo.alloc o).cell? ⟨w.heap.size + 3, 1, none⟩ = some (.int .i64 0) := fun o => ((Ext.new wo o).cells _ _ (by omega)).trans r1
      have fz0 : ∀ o : Obj, (wo.alloc o).frozen? ⟨w.heap.size + 3, 0, none⟩ = false := fun o => ((Ext.new wo o).frz _ _ (by omega)).trans z0
      have fz1 : ∀ o : Obj, (wo.alloc o).frozen? ⟨w.heap.size + 3, 1, none⟩ = false := fun o => ((Ext.new wo o).frz _ _ (by omega)).trans z1
      go_wp2_with go_in
      go_loopw [9, 10, 33] (fun s9 s10 y wr => ∃ (j : Nat) (lo hi : Int), s9 = .int .i64 lo ∧ s10 = .int .i64 hi ∧ y = .int .i64 (j : Int) ∧ j ≤ 2 ∧ RowKit.Hid (loI e f D (2 * k + j) lo) ∧ RowKit.Hid (hiI e f U (2 * k + j) hi) ∧ wr.cell? ⟨w.heap.size, 0, none⟩ = some (.int .i64 e) ∧ wr.cell? ⟨w.heap.size, 1, none⟩ = some (.int .i64 f) ∧ wr.cell? ⟨w.heap.size + 1, 0, none⟩ = some (.int .i64 a) ∧ wr.cell? ⟨w.heap.size + 1, 1, none⟩ = some (.int .i64 b) ∧ wr.cell? ⟨w.heap.size + 2, 0, none⟩ = some (.int .i64 c) ∧ wr.cell? ⟨w.heap.size + 2, 1, none⟩ = some (.int .i64 d) ∧ wr.cell? ⟨w.heap.size + 4, 0, none⟩ = some (.int .i64 a) ∧ wr.cell? ⟨w.heap.size + 4, 1, none⟩ = some (.int .i64 b) ∧ wr.cell? ⟨wo.heap.size, 0, none⟩ = some (.int .i64 c) ∧ wr.cell? ⟨wo.heap.size, 1, none⟩ = some (.int .i64 d) ∧ wr.cell? ⟨w.heap.size + 3, 0, none⟩ = some (.int .i64 0) ∧ wr.cell? ⟨w.heap.size + 3, 1, none⟩ = some (.int .i64 0) ∧ wr.frozen? ⟨w.heap.size + 3, 0, none⟩ = false ∧ wr.frozen? ⟨w.heap.size + 3, 1, none⟩ = false ∧ wo.heap.size < wr.heap.size ∧ Ext w wr) (fun _ _ y _ => 2 - (intOf y).toNat)
      case atStart => exact ⟨0, lo, hi, rfl, rfl, rfl, by omega, HL, HH, fa0 _, fa1 _, fa2 _, fa3 _, fa4 _, fa5 _, fa6 _, fa7 _, by simp [go_sem], by simp [go_sem], fa8 _, fa9 _, fz0 _, fz1 _, by first | (simp; done) | (simp; omega), Ext.auK⟩
      case round =>
        clear HL HH g0 g1 g2 g3 g4 g5 g6 g7 r0 r1 z0 z1 hs hx ga fa0 fa1 fa2 fa3 fa4 fa5 fa6 fa7 fa8 fa9 fz0 fz1
        obtain ⟨j, lo, hi, rfl, rfl, rfl, hj, HL, HH, g0, g1, g2, g3, g4, g5, g6, g7, g8, g9, r0, r1, z0, z1, hs, hx⟩ := hrel
        by_cases hlj : j < 2
        · have j1 : ((j : Nat) : Int) < 2 := by omega
          have j0 : (0 : Int) ≤ (j : Int) := by omega
          have j2 : ((j : Int)).toNat = j := by omega
          have v1 : IntKind.i64.wrap ((j : Int) + 1) = (j : Int) + 1 := IntWalk.i64_in _ (by omega)
          obtain ⟨bv, hbv⟩ : ∃ z, z = (if j = 0 then c else d) := ⟨_, rfl⟩
          have gb : wr.cell? ⟨wo.heap.size, j, none⟩ = some (.int .i64 bv) := by
            have : j = 0 ∨ j = 1 := by omega
            rcases this with rfl | rfl
            · rw [hbv, if_pos rfl]; exact g8
            · rw [hbv, if_neg (by decide)]; exact g9
          have pbv : patB e f bv = true := by rw [hbv]; split; exact pc; exact pd
          have e1 : (2 * k + j) / 2 = k := by omega
          have e2 : (2 * k + j) % 2 = j := by omega
          have HDt : RowKit.Hid (D (2 * k + j) = dvF e f av bv 4) := Lib.hid (by rw [HDd.out, HAV.out, hbv]; show dvF e f (if (2 * k + j) / 2 = 0 then a else b) (if (2 * k + j) % 2 = 0 then c else d) 4 = _; rw [e1, e2])
          have HUt : RowKit.Hid (U (2 * k + j) = dvF e f av bv 3) := Lib.hid (by rw [HUd.out, HAV.out, hbv]; show dvF e f (if (2 * k + j) / 2 = 0 then a else b) (if (2 * k + j) % 2 = 0 then c else d) 3 = _; rw [e1, e2])
          have TM4 := Lib.hid (fun w => arTimes_fn e f av bv 4 pav pbv (by decide) (by decide) w)
          have TM3 := Lib.hid (fun w => arTimes_fn e f av bv 3 pav pbv (by decide) (by decide) w)
          have DV4 := Lib.hid (fun w => arDivide_fn e f av bv 4 pav pbv (by decide) (by decide) w)
          have DV3 := Lib.hid (fun w => arDivide_fn e f av bv 3 pav pbv (by decide) (by decide) w)
          obtain ⟨_, _, _, pdn, pup, CF⟩ := cr_facts hg (HCR.out (2 * k + j))
          obtain ⟨b, fst, l1, l2, hb, ft, ff, hl2, hh2⟩ := four_step hg hDe hUe HL.out HH.out pdn pup CF
          rw [HDt.out] at pdn hb ff hl2
          rw [HUt.out] at pup ff hh2
          clear hbv e1 e2 HAV pav pbv pa pb pc pd CF
          generalize dvF e f av bv 4 = dn at *
          generalize dvF e f av bv 3 = up at *
          generalize tmF e f av bv 4 = x4 at *
          generalize tmF e f av bv 3 = x3 at *
          have NK := Lib.hid (fun w => arNoK e f dn b pdn hb w)
          have FN := Lib.hid ff
          have FS := Lib.hid (fun (h : fst = false) => (⟨fun w => by have q := ff h; rw [← q.2.2.2.2.2.2.1]; exact ivLess_any e f (cond b 0 dn) lo q.2.2.2.2.1 q.2.2.1 w, fun w => by have q := ff h; rw [← q.2.2.2.2.2.2.2]; exact ivLess_any e f hi (cond b 0 up) q.2.2.2.1 q.2.2.2.2.2.1 w⟩ : (∀ w, Calls Tryz.prog 51 #[fmt e f, .int .i64 (cond b 0 dn), .int .i64 lo] w fun rv w' => rv = .returned (.bool l1) ∧ Ext w w') ∧ (∀ w, Calls Tryz.prog 51 #[fmt e f, .int .i64 hi, .int .i64 (cond b 0 up)] w fun rv w' => rv = .returned (.bool l2) ∧ Ext w w')))
          have FT := Lib.hid ft
          have HL2 := Lib.hid hl2
          have HH2 := Lib.hid hh2
          clear HL HH HDt HUt hb ft ff hl2 hh2
          rw [show 2 * k + j + 1 = 2 * k + (j + 1) by omega] at HL2 HH2
          cases fst <;> (first | (obtain ⟨l0, h0, _⟩ := FN.out rfl; obtain ⟨L1, L2⟩ := FS.out rfl; have LL := Lib.hid L1; have LH := Lib.hid L2; clear L1 L2) | (obtain ⟨hlo, hhi, z1, z2⟩ := FT.out rfl; subst hlo hhi z1 z2; have LL := NK; have LH := NK)) <;> cases b <;> (try cases l1) <;> (try cases l2) <;> simp only [cond, Bool.or_true, Bool.or_false] at LL LH HL2 HH2 <;> clear FN FT FS
          all_goals go_wp2_with fail
          all_goals go_region_held3 (fun w' => w'.cell? ⟨w.heap.size, 0, none⟩ = some (.int .i64 e) ∧ w'.cell? ⟨w.heap.size, 1, none⟩ = some (.int .i64 f) ∧ w'.cell? ⟨w.heap.size + 1, 0, none⟩ = some (.int .i64 a) ∧ w'.cell? ⟨w.heap.size + 1, 1, none⟩ = some (.int .i64 b) ∧ w'.cell? ⟨w.heap.size + 2, 0, none⟩ = some (.int .i64 c) ∧ w'.cell? ⟨w.heap.size + 2, 1, none⟩ = some (.int .i64 d) ∧ w'.cell? ⟨w.heap.size + 4, 0, none⟩ = some (.int .i64 a) ∧ w'.cell? ⟨w.heap.size + 4, 1, none⟩ = some (.int .i64 b) ∧ w'.cell? ⟨wo.heap.size, 0, none⟩ = some (.int .i64 c) ∧ w'.cell? ⟨wo.heap.size, 1, none⟩ = some (.int .i64 d) ∧ wo.heap.size < w'.heap.size) ((refine ⟨?_, ?_, ?_, ?_, ?_, ?_, ?_, ?_, ?_, ?_, ?_⟩ <;> first | with_reducible assumption | ((repeat first | rw [cell_set_far _ _ _ _ _ _ (by omega)] | rw [cell_alloc_before _ _ _ _ (by omega)] | rw [cell_alloc_drew _ _ _ _ (by omega)] | rw [cell_drew]); with_reducible assumption) | ((rw [cell_setRow_far _ _ _ _ _ (by omega)]); with_reducible assumption) | ((rw [setRow_size]); with_reducible assumption) | (simp; done) | (simp [World.setCell]; first | done | omega) | (simp [go_sem, World.cell?_alloc_past, World.cell?_setCell_far, *]; done))) ((first | (go_at_call 69; (with_reducible refine (TM4.out _).mono ?_); rintro rv w1 ⟨rfl, hb⟩; have ns : wo.heap.size < w1.heap.size := hb.ltK; have n0 : w1.cell? ⟨w.heap.size, 0, none⟩ = some (.int .i64 e) := hb.cellK; have n1 : w1.cell? ⟨w.heap.size, 1, none⟩ = some (.int .i64 f) := hb.cellK; have n2 : w1.cell? ⟨w.heap.size + 1, 0, none⟩ = some (.int .i64 a) := hb.cellK; have n3 : w1.cell? ⟨w.heap.size + 1, 1, none⟩ = some (.int .i64 b) := hb.cellK; have n4 : w1.cell? ⟨w.heap.size + 2, 0, none⟩ = some (.int .i64 c) := hb.cellK; have n5 : w1.cell? ⟨w.heap.size + 2, 1, none⟩ = some (.int .i64 d) := hb.cellK; have n6 : w1.cell? ⟨w.heap.size + 4, 0, none⟩ = some (.int .i64 a) := hb.cellK; have n7 : w1.cell? ⟨w.heap.size + 4, 1, none⟩ = some (.int .i64 b) := hb.cellK; have n8 : w1.cell? ⟨wo.heap.size, 0, none⟩ = some (.int .i64 c) := hb.cellK; have n9 : w1.cell? ⟨wo.heap.size, 1, none⟩ = some (.int .i64 d) := hb.cellK; have n10 : w1.cell? ⟨w.heap.size + 3, 0, none⟩ = some (.int .i64 0) := hb.cellK; have n11 : w1.cell? ⟨w.heap.size + 3, 1, none⟩ = some (.int .i64 0) := hb.cellK; have nz0 : w1.frozen? ⟨w.heap.size + 3, 0, none⟩ = false := hb.frzK; have nz1 : w1.frozen? ⟨w.heap.size + 3, 1, none⟩ = false := hb.frzK; (first | (have nx := hx.trK hb; clear hx) | have nx := hb); clear hb; try clear hs; try clear g0; try clear g1; try clear g2; try clear g3; try clear g4; try clear g5; try clear g6; try clear g7; try clear g8; try clear g9; try clear g10; try clear g11; try clear z0; try clear z1; have hx := nx; clear nx; have hs := ns; clear ns; have g0 := n0; clear n0; have g1 := n1; clear n1; have g2 := n2; clear n2; have g3 := n3; clear n3; have g4 := n4; clear n4; have g5 := n5; clear n5; have g6 := n6; clear n6; have g7 := n7; clear n7; have g8 := n8; clear n8; have g9 := n9; clear n9; have g10 := n10; clear n10; have g11 := n11; clear n11; have z0 := nz0; clear nz0; have z1 := nz1; clear nz1) | (go_at_call 69; (with_reducible refine (TM3.out _).mono ?_); rintro rv w1 ⟨rfl, hb⟩; have ns : wo.heap.size < w1.heap.size := hb.ltK; have n0 : w1.cell? ⟨w.heap.size, 0, none⟩ = some (.int .i64 e) := hb.cellK; have n1 : w1.cell? ⟨w.heap.size, 1, none⟩ = some (.int .i64 f) := hb.cellK; have n2 : w1.cell? ⟨w.heap.size + 1, 0, none⟩ = some (.int .i64 a) := hb.cellK; have n3 : w1.cell? ⟨w.heap.size + 1, 1, none⟩ = some (.int .i64 b) := hb.cellK; have n4 : w1.cell? ⟨w.heap.size + 2, 0, none⟩ = some (.int .i64 c) := hb.cellK; have n5 : w1.cell? ⟨w.heap.size + 2, 1, none⟩ = some (.int .i64 d) := hb.cellK; have n6 : w1.cell? ⟨w.heap.size + 4, 0, none⟩ = some (.int .i64 a) := hb.cellK; have n7 : w1.cell? ⟨w.heap.size + 4, 1, none⟩ = some (.int .i64 b) := hb.cellK; have n8 : w1.cell? ⟨wo.heap.size, 0, none⟩ = some (.int .i64 c) := hb.cellK; have n9 : w1.cell? ⟨wo.heap.size, 1, none⟩ = some (.int .i64 d) := hb.cellK; have n10 : w1.cell? ⟨w.heap.size + 3, 0, none⟩ = some (.int .i64 0) := hb.cellK; have n11 : w1.cell? ⟨w.heap.size + 3, 1, none⟩ = some (.int .i64 0) := hb.cellK; have nz0 : w1.frozen? ⟨w.heap.size + 3, 0, none⟩ = false := hb.frzK; have nz1 : w1.frozen? ⟨w.heap.size + 3, 1, none⟩ = false := hb.frzK; (first | (have nx := hx.trK hb; clear hx) | have nx := hb); clear hb; try clear hs; try clear g0; try clear g1; try clear g2; try clear g3; try clear g4; try clear g5; try clear g6; try clear g7; try clear g8; try clear g9; try clear g10; try clear g11; try clear z0; try clear z1; have hx := nx; clear nx; have hs := ns; clear ns; have g0 := n0; clear n0; have g1 := n1; clear n1; have g2 := n2; clear n2; have g3 := n3; clear n3; have g4 := n4; clear n4; have g5 := n5; clear n5; have g6 := n6; clear n6; have g7 := n7; clear n7; have g8 := n8; clear n8; have g9 := n9; clear n9; have g10 := n10; clear n10; have g11 := n11; clear n11; have z0 := nz0; clear nz0; have z1 := nz1; clear nz1)))
          all_goals go_wp2_with (first | (go_at_call 71; (with_reducible refine (DV4.out _).mono ?_); rintro rv w1 ⟨rfl, hb⟩; have ns : wo.heap.size < w1.heap.size := hb.ltK; have n0 : w1.cell? ⟨w.heap.size, 0, none⟩ = some (.int .i64 e) := hb.cellK; have n1 : w1.cell? ⟨w.heap.size, 1, none⟩ = some (.int .i64 f) := hb.cellK; have n2 : w1.cell? ⟨w.heap.size + 1, 0, none⟩ = some (.int .i64 a) := hb.cellK; have n3 : w1.cell? ⟨w.heap.size + 1, 1, none⟩ = some (.int .i64 b) := hb.cellK; have n4 : w1.cell? ⟨w.heap.size + 2, 0, none⟩ = some (.int .i64 c) := hb.cellK; have n5 : w1.cell? ⟨w.heap.size + 2, 1, none⟩ = some (.int .i64 d) := hb.cellK; have n6 : w1.cell? ⟨w.heap.size + 4, 0, none⟩ = some (.int .i64 a) := hb.cellK; have n7 : w1.cell? ⟨w.heap.size + 4, 1, none⟩ = some (.int .i64 b) := hb.cellK; have n8 : w1.cell? ⟨wo.heap.size, 0, none⟩ = some (.int .i64 c) := hb.cellK; have n9 : w1.cell? ⟨wo.heap.size, 1, none⟩ = some (.int .i64 d) := hb.cellK; have n10 : w1.cell? ⟨w.heap.size + 3, 0, none⟩ = some (.int .i64 0) := hb.cellK; have n11 : w1.cell? ⟨w.heap.size + 3, 1, none⟩ = some (.int .i64 0) := hb.cellK; have nz0 : w1.frozen? ⟨w.heap.size + 3, 0, none⟩ = false := hb.frzK; have nz1 : w1.frozen? ⟨w.heap.size + 3, 1, none⟩ = false := hb.frzK; (first | (have nx := hx.trK hb; clear hx) | have nx := hb); clear hb; try clear hs; try clear g0; try clear g1; try clear g2; try clear g3; try clear g4; try clear g5; try clear g6; try clear g7; try clear g8; try clear g9; try clear g10; try clear g11; try clear z0; try clear z1; have hx := nx; clear nx; have hs := ns; clear ns; have g0 := n0; clear n0; have g1 := n1; clear n1; have g2 := n2; clear n2; have g3 := n3; clear n3; have g4 := n4; clear n4; have g5 := n5; clear n5; have g6 := n6; clear n6; have g7 := n7; clear n7; have g8 := n8; clear n8; have g9 := n9; clear n9; have g10 := n10; clear n10; have g11 := n11; clear n11; have z0 := nz0; clear nz0; have z1 := nz1; clear nz1) | (go_at_call 71; (with_reducible refine (DV3.out _).mono ?_); rintro rv w1 ⟨rfl, hb⟩; have ns : wo.heap.size < w1.heap.size := hb.ltK; have n0 : w1.cell? ⟨w.heap.size, 0, none⟩ = some (.int .i64 e) := hb.cellK; have n1 : w1.cell? ⟨w.heap.size, 1, none⟩ = some (.int .i64 f) := hb.cellK; have n2 : w1.cell? ⟨w.heap.size + 1, 0, none⟩ = some (.int .i64 a) := hb.cellK; have n3 : w1.cell? ⟨w.heap.size + 1, 1, none⟩ = some (.int .i64 b) := hb.cellK; have n4 : w1.cell? ⟨w.heap.size + 2, 0, none⟩ = some (.int .i64 c) := hb.cellK; have n5 : w1.cell? ⟨w.heap.size + 2, 1, none⟩ = some (.int .i64 d) := hb.cellK; have n6 : w1.cell? ⟨w.heap.size + 4, 0, none⟩ = some (.int .i64 a) := hb.cellK; have n7 : w1.cell? ⟨w.heap.size + 4, 1, none⟩ = some (.int .i64 b) := hb.cellK; have n8 : w1.cell? ⟨wo.heap.size, 0, none⟩ = some (.int .i64 c) := hb.cellK; have n9 : w1.cell? ⟨wo.heap.size, 1, none⟩ = some (.int .i64 d) := hb.cellK; have n10 : w1.cell? ⟨w.heap.size + 3, 0, none⟩ = some (.int .i64 0) := hb.cellK; have n11 : w1.cell? ⟨w.heap.size + 3, 1, none⟩ = some (.int .i64 0) := hb.cellK; have nz0 : w1.frozen? ⟨w.heap.size + 3, 0, none⟩ = false := hb.frzK; have nz1 : w1.frozen? ⟨w.heap.size + 3, 1, none⟩ = false := hb.frzK; (first | (have nx := hx.trK hb; clear hx) | have nx := hb); clear hb; try clear hs; try clear g0; try clear g1; try clear g2; try clear g3; try clear g4; try clear g5; try clear g6; try clear g7; try clear g8; try clear g9; try clear g10; try clear g11; try clear z0; try clear z1; have hx := nx; clear nx; have hs := ns; clear ns; have g0 := n0; clear n0; have g1 := n1; clear n1; have g2 := n2; clear n2; have g3 := n3; clear n3; have g4 := n4; clear n4; have g5 := n5; clear n5; have g6 := n6; clear n6; have g7 := n7; clear n7; have g8 := n8; clear n8; have g9 := n9; clear n9; have g10 := n10; clear n10; have g11 := n11; clear n11; have z0 := nz0; clear nz0; have z1 := nz1; clear nz1) | (go_at_call 77; (with_reducible refine (NK.out _).mono ?_); rintro rv w1 ⟨rfl, hb⟩; have ns : wo.heap.size < w1.heap.size := hb.ltK; have n0 : w1.cell? ⟨w.heap.size, 0, none⟩ = some (.int .i64 e) := hb.cellK; have n1 : w1.cell? ⟨w.heap.size, 1, none⟩ = some (.int .i64 f) := hb.cellK; have n2 : w1.cell? ⟨w.heap.size + 1, 0, none⟩ = some (.int .i64 a) := hb.cellK; have n3 : w1.cell? ⟨w.heap.size + 1, 1, none⟩ = some (.int .i64 b) := hb.cellK; have n4 : w1.cell? ⟨w.heap.size + 2, 0, none⟩ = some (.int .i64 c) := hb.cellK; have n5 : w1.cell? ⟨w.heap.size + 2, 1, none⟩ = some (.int .i64 d) := hb.cellK; have n6 : w1.cell? ⟨w.heap.size + 4, 0, none⟩ = some (.int .i64 a) := hb.cellK; have n7 : w1.cell? ⟨w.heap.size + 4, 1, none⟩ = some (.int .i64 b) := hb.cellK; have n8 : w1.cell? ⟨wo.heap.size, 0, none⟩ = some (.int .i64 c) := hb.cellK; have n9 : w1.cell? ⟨wo.heap.size, 1, none⟩ = some (.int .i64 d) := hb.cellK; have n10 : w1.cell? ⟨w.heap.size + 3, 0, none⟩ = some (.int .i64 0) := hb.cellK; have n11 : w1.cell? ⟨w.heap.size + 3, 1, none⟩ = some (.int .i64 0) := hb.cellK; have nz0 : w1.frozen? ⟨w.heap.size + 3, 0, none⟩ = false := hb.frzK; have nz1 : w1.frozen? ⟨w.heap.size + 3, 1, none⟩ = false := hb.frzK; (first | (have nx := hx.trK hb; clear hx) | have nx := hb); clear hb; try clear hs; try clear g0; try clear g1; try clear g2; try clear g3; try clear g4; try clear g5; try clear g6; try clear g7; try clear g8; try clear g9; try clear g10; try clear g11; try clear z0; try clear z1; have hx := nx; clear nx; have hs := ns; clear ns; have g0 := n0; clear n0; have g1 := n1; clear n1; have g2 := n2; clear n2; have g3 := n3; clear n3; have g4 := n4; clear n4; have g5 := n5; clear n5; have g6 := n6; clear n6; have g7 := n7; clear n7; have g8 := n8; clear n8; have g9 := n9; clear n9; have g10 := n10; clear n10; have g11 := n11; clear n11; have z0 := nz0; clear nz0; have z1 := nz1; clear nz1) | (go_at_call 51; (with_reducible refine (LL.out _).mono ?_); rintro rv w1 ⟨rfl, hb⟩; have ns : wo.heap.size < w1.heap.size := hb.ltK; have n0 : w1.cell? ⟨w.heap.size, 0, none⟩ = some (.int .i64 e) := hb.cellK; have n1 : w1.cell? ⟨w.heap.size, 1, none⟩ = some (.int .i64 f) := hb.cellK; have n2 : w1.cell? ⟨w.heap.size + 1, 0, none⟩ = some (.int .i64 a) := hb.cellK; have n3 : w1.cell? ⟨w.heap.size + 1, 1, none⟩ = some (.int .i64 b) := hb.cellK; have n4 : w1.cell? ⟨w.heap.size + 2, 0, none⟩ = some (.int .i64 c) := hb.cellK; have n5 : w1.cell? ⟨w.heap.size + 2, 1, none⟩ = some (.int .i64 d) := hb.cellK; have n6 : w1.cell? ⟨w.heap.size + 4, 0, none⟩ = some (.int .i64 a) := hb.cellK; have n7 : w1.cell? ⟨w.heap.size + 4, 1, none⟩ = some (.int .i64 b) := hb.cellK; have n8 : w1.cell? ⟨wo.heap.size, 0, none⟩ = some (.int .i64 c) := hb.cellK; have n9 : w1.cell? ⟨wo.heap.size, 1, none⟩ = some (.int .i64 d) := hb.cellK; have n10 : w1.cell? ⟨w.heap.size + 3, 0, none⟩ = some (.int .i64 0) := hb.cellK; have n11 : w1.cell? ⟨w.heap.size + 3, 1, none⟩ = some (.int .i64 0) := hb.cellK; have nz0 : w1.frozen? ⟨w.heap.size + 3, 0, none⟩ = false := hb.frzK; have nz1 : w1.frozen? ⟨w.heap.size + 3, 1, none⟩ = false := hb.frzK; (first | (have nx := hx.trK hb; clear hx) | have nx := hb); clear hb; try clear hs; try clear g0; try clear g1; try clear g2; try clear g3; try clear g4; try clear g5; try clear g6; try clear g7; try clear g8; try clear g9; try clear g10; try clear g11; try clear z0; try clear z1; have hx := nx; clear nx; have hs := ns; clear ns; have g0 := n0; clear n0; have g1 := n1; clear n1; have g2 := n2; clear n2; have g3 := n3; clear n3; have g4 := n4; clear n4; have g5 := n5; clear n5; have g6 := n6; clear n6; have g7 := n7; clear n7; have g8 := n8; clear n8; have g9 := n9; clear n9; have g10 := n10; clear n10; have g11 := n11; clear n11; have z0 := nz0; clear nz0; have z1 := nz1; clear nz1) | (go_at_call 51; (with_reducible refine (LH.out _).mono ?_); rintro rv w1 ⟨rfl, hb⟩; have ns : wo.heap.size < w1.heap.size := hb.ltK; have n0 : w1.cell? ⟨w.heap.size, 0, none⟩ = some (.int .i64 e) := hb.cellK; have n1 : w1.cell? ⟨w.heap.size, 1, none⟩ = some (.int .i64 f) := hb.cellK; have n2 : w1.cell? ⟨w.heap.size + 1, 0, none⟩ = some (.int .i64 a) := hb.cellK; have n3 : w1.cell? ⟨w.heap.size + 1, 1, none⟩ = some (.int .i64 b) := hb.cellK; have n4 : w1.cell? ⟨w.heap.size + 2, 0, none⟩ = some (.int .i64 c) := hb.cellK; have n5 : w1.cell? ⟨w.heap.size + 2, 1, none⟩ = some (.int .i64 d) := hb.cellK; have n6 : w1.cell? ⟨w.heap.size + 4, 0, none⟩ = some (.int .i64 a) := hb.cellK; have n7 : w1.cell? ⟨w.heap.size + 4, 1, none⟩ = some (.int .i64 b) := hb.cellK; have n8 : w1.cell? ⟨wo.heap.size, 0, none⟩ = some (.int .i64 c) := hb.cellK; have n9 : w1.cell? ⟨wo.heap.size, 1, none⟩ = some (.int .i64 d) := hb.cellK; have n10 : w1.cell? ⟨w.heap.size + 3, 0, none⟩ = some (.int .i64 0) := hb.cellK; have n11 : w1.cell? ⟨w.heap.size + 3, 1, none⟩ = some (.int .i64 0) := hb.cellK; have nz0 : w1.frozen? ⟨w.heap.size + 3, 0, none⟩ = false := hb.frzK; have nz1 : w1.frozen? ⟨w.heap.size + 3, 1, none⟩ = false := hb.frzK; (first | (have nx := hx.trK hb; clear hx) | have nx := hb); clear hb; try clear hs; try clear g0; try clear g1; try clear g2; try clear g3; try clear g4; try clear g5; try clear g6; try clear g7; try clear g8; try clear g9; try clear g10; try clear g11; try clear z0; try clear z1; have hx := nx; clear nx; have hs := ns; clear ns; have g0 := n0; clear n0; have g1 := n1; clear n1; have g2 := n2; clear n2; have g3 := n3; clear n3; have g4 := n4; clear n4; have g5 := n5; clear n5; have g6 := n6; clear n6; have g7 := n7; clear n7; have g8 := n8; clear n8; have g9 := n9; clear n9; have g10 := n10; clear n10; have g11 := n11; clear n11; have z0 := nz0; clear nz0; have z1 := nz1; clear nz1))
          all_goals go_roundw
          all_goals first | (simp [intOf]; done) | (simp [intOf]; omega) | exact ⟨j + 1, _, _, rfl, rfl, by simp, by omega, HL2, HH2, by with_reducible assumption, by with_reducible assumption, by with_reducible assumption, by with_reducible assumption, by with_reducible assumption, by with_reducible assumption, by with_reducible assumption, by with_reducible assumption, by with_reducible assumption, by with_reducible assumption, by with_reducible assumption, by with_reducible assumption, by with_reducible assumption, by with_reducible assumption, by omega, Ext.auK⟩
        · have j1 : ¬ ((j : Nat) : Int) < 2 := by omega
          have ej : j = 2 := by omega
          have HL2 : RowKit.Hid (loI e f D (2 * (k + 1)) lo) := by rw [ej, show 2 * k + 2 = 2 * (k + 1) by omega] at HL; exact HL
          have HH2 : RowKit.Hid (hiI e f U (2 * (k + 1)) hi) := by rw [ej, show 2 * k + 2 = 2 * (k + 1) by omega] at HH; exact HH
          go_wp2_with go_in
          go_roundw
          all_goals first | (simp [intOf]; done) | (simp [intOf]; omega) | exact ⟨k + 1, lo, hi, rfl, rfl, by simp, by omega, HL2, HH2, by with_reducible assumption, by with_reducible assumption, by with_reducible assumption, by with_reducible assumption, by with_reducible assumption, by with_reducible assumption, by with_reducible assumption, by with_reducible assumption, by with_reducible assumption, by with_reducible assumption, by with_reducible assumption, by with_reducible assumption, by omega, hx⟩
    · have k1 : ¬ ((k : Nat) : Int) < 2 := by omega
      have ek : k = 2 := by omega
      have L2 : loI e f D 4 lo := by have := HL.out; rw [ek] at this; exact this
      have H2 : hiI e f U 4 hi := by have := HH.out; rw [ek] at this; exact this
      rcases L2 with ⟨q, _⟩ | ⟨_, _, plo, i1, i2, i3, i4⟩
      · omega
      rcases H2 with ⟨q, _⟩ | ⟨_, _, phi, i5, i6, i7, i8⟩
      · omega
      have IO := fun w => ivOf_any e f lo hi plo phi w
      rw [i3, i7] at IO
      have IO := Lib.hid IO
      have R1 : RowKit.Hid ((∃ i, i < 4 ∧ enV e f (D i1) = enV e f (D i) ∧ ∀ s, s < 4 → sfV e f (enV e f (D i)) ≤ sfV e f (enV e f (D s))) ∧ (∃ i, i < 4 ∧ enV e f (U i5) = enV e f (U i) ∧ ∀ s, s < 4 → sfV e f (enV e f (U s)) ≤ sfV e f (enV e f (U i)))) := Lib.hid ⟨⟨i1, i2, rfl, i4⟩, ⟨i5, i6, rfl, i8⟩⟩
      clear HL HH plo phi i3 i7 i4 i8 ek hDe hUe HCR HDd HUd
      generalize enV e f (D i1) = u at *
      generalize enV e f (U i5) = v at *
      go_wp2_with (go_at_call 52; refine (IO.out _).mono ?_; rintro rv w1 ⟨rfl, hb⟩; have ns : w.heap.size + 4 < w1.heap.size := hb.ltK; have n0 : w1.cell? ⟨w.heap.size, 0, none⟩ = some (.int .i64 e) := hb.cellK; have n1 : w1.cell? ⟨w.heap.size, 1, none⟩ = some (.int .i64 f) := hb.cellK; have n2 : w1.cell? ⟨w.heap.size + 1, 0, none⟩ = some (.int .i64 a) := hb.cellK; have n3 : w1.cell? ⟨w.heap.size + 1, 1, none⟩ = some (.int .i64 b) := hb.cellK; have n4 : w1.cell? ⟨w.heap.size + 2, 0, none⟩ = some (.int .i64 c) := hb.cellK; have n5 : w1.cell? ⟨w.heap.size + 2, 1, none⟩ = some (.int .i64 d) := hb.cellK; have n6 : w1.cell? ⟨w.heap.size + 3, 0, none⟩ = some (.int .i64 0) := hb.cellK; have n7 : w1.cell? ⟨w.heap.size + 3, 1, none⟩ = some (.int .i64 0) := hb.cellK; have nz0 : w1.frozen? ⟨w.heap.size + 3, 0, none⟩ = false := hb.frzK; have nz1 : w1.frozen? ⟨w.heap.size + 3, 1, none⟩ = false := hb.frzK; (first | (have nx := hx.trK hb; clear hx) | have nx := hb); clear hb; try clear hs; try clear g0; try clear g1; try clear g2; try clear g3; try clear g4; try clear g5; try clear g6; try clear g7; try clear z0; try clear z1; have hx := nx; clear nx; have hs := ns; clear ns; have g0 := n0; clear n0; have g1 := n1; clear n1; have g2 := n2; clear n2; have g3 := n3; clear n3; have g4 := n4; clear n4; have g5 := n5; clear n5; have g6 := n6; clear n6; have g7 := n7; clear n7; have z0 := nz0; clear nz0; have z1 := nz1; clear nz1)
      exact bodyPost_ret (v := two u v) (by simp [results, Tryz.results45, go_sem, *]) rfl ⟨⟨u, v, rfl, R1.out.1, R1.out.2⟩, Ext.auK⟩
end Go.Proofs.YtfgbndjhaiigbaaGreatDoor

