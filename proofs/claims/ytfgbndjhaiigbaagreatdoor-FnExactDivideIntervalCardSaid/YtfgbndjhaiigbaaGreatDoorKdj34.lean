/-
  Contracts of the functions that the laws reach, and the plain facts that they rest on, each under the conditions that its line names; part 34.
-/
import Derived.Test.YtfgbndjhaiigbaaGreatDoorKdj1
import Derived.Test.YtfgbndjhaiigbaaGreatDoorKdj2
import Derived.Test.YtfgbndjhaiigbaaGreatDoorKdj3
import Derived.Test.YtfgbndjhaiigbaaGreatDoorKdj4
import Derived.Test.YtfgbndjhaiigbaaGreatDoorKdj5
import Derived.Test.YtfgbndjhaiigbaaGreatDoorKdj6
import Derived.Test.YtfgbndjhaiigbaaGreatDoorKdj7
import Derived.Test.YtfgbndjhaiigbaaGreatDoorKdj8
import Derived.Test.YtfgbndjhaiigbaaGreatDoorKdj9
import Derived.Test.YtfgbndjhaiigbaaGreatDoorKdj10
import Derived.Test.YtfgbndjhaiigbaaGreatDoorKdj11
import Derived.Test.YtfgbndjhaiigbaaGreatDoorKdj12
import Derived.Test.YtfgbndjhaiigbaaGreatDoorKdj13
import Derived.Test.YtfgbndjhaiigbaaGreatDoorKdj14
import Derived.Test.YtfgbndjhaiigbaaGreatDoorKdj15
import Derived.Test.YtfgbndjhaiigbaaGreatDoorKdj16
import Derived.Test.YtfgbndjhaiigbaaGreatDoorKdj17
import Derived.Test.YtfgbndjhaiigbaaGreatDoorKdj18
import Derived.Test.YtfgbndjhaiigbaaGreatDoorKdj19
import Derived.Test.YtfgbndjhaiigbaaGreatDoorKdj20
import Derived.Test.YtfgbndjhaiigbaaGreatDoorKdj21
import Derived.Test.YtfgbndjhaiigbaaGreatDoorKdj22
import Derived.Test.YtfgbndjhaiigbaaGreatDoorKdj23
import Derived.Test.YtfgbndjhaiigbaaGreatDoorKdj24
import Derived.Test.YtfgbndjhaiigbaaGreatDoorKdj25
import Derived.Test.YtfgbndjhaiigbaaGreatDoorKdj26
import Derived.Test.YtfgbndjhaiigbaaGreatDoorKdj27
import Derived.Test.YtfgbndjhaiigbaaGreatDoorKdj28
import Derived.Test.YtfgbndjhaiigbaaGreatDoorKdj29
import Derived.Test.YtfgbndjhaiigbaaGreatDoorKdj30
import Derived.Test.YtfgbndjhaiigbaaGreatDoorKdj31
import Derived.Test.YtfgbndjhaiigbaaGreatDoorKdj32
import Derived.Test.YtfgbndjhaiigbaaGreatDoorKdj33
import Derived.Test.YtfgbndjhaiigbaaGreatDoorRows
import Derived.WalkKit
import Derived.LoopTactic
import Derived.Laws.Bits64b
import Derived.WalkSpells
import Derived.WalkLawsBesides
import Derived.StillTactics
import Derived.Laws.Pointers
import Derived.Deep.RegionHeld3
import Derived.Deep.QuietTactic
import Derived.BigQuiet
import Derived.Outline
import Derived.Lib.Hide
import Derived.RowKit3
import Derived.Carry
import Derived.IntWalk
import Derived.Handy
import Derived.LoopN
import Derived.Laws.OwnMore
import Derived.OwnWalk
import Derived.Deep.AppendLies
import Derived.Laws.EntriesVeiled
namespace Go.Proofs.YtfgbndjhaiigbaaGreatDoor
open Go Go.RowKit
set_option linter.unusedSimpArgs false
set_option linter.unusedVariables false
set_option maxRecDepth 100000

theorem sm_num {e f s m : Int} (hg : goodB e f = true) (s0 : 0 ≤ s) (s1 : s ≤ inV e f) (hm : m = 0 ∨ m = 1) : numB e f (s + m * pw (e + f)) = true := by
  obtain ⟨i0, i1, i2⟩ := in_bd hg
  rcases hm with rfl | rfl
  · rw [Int.zero_mul, Int.add_zero]
    exact num_mag.2 ⟨pat_iff.2 ⟨hg, s0, by omega⟩, by rw [Int.emod_eq_of_lt s0 (by omega)]; exact s1⟩
  · rw [Int.one_mul]
    exact num_mag.2 ⟨pat_iff.2 ⟨hg, by omega, by omega⟩, by rw [Int.add_emod_right, Int.emod_eq_of_lt s0 (by omega)]; exact s1⟩

theorem num_kind {e f p : Int} (hn : numB e f p = true) : kindV e f p ≠ 4 := by
  have := (kind_lt e f p (num_mag.1 hn).1).2
  rw [hn, decide_eq_true_eq] at this
  omega

theorem in_gr (e f : Int) : inV e f = grV e f + 1 := by unfold inV grV; omega

theorem rnd_top2 {e f X D mode s : Int} {neg : Bool} (h : IsRnd f (grV e f) X D mode neg s) : 0 ≤ s ∧ s ≤ grV e f + 1 := by
  obtain ⟨p, ⟨p0, p1, _⟩, rfl⟩ := h
  unfold rndP
  split
  · omega
  · split <;> omega

theorem sign_or {e f p : Int} (hp : patB e f p = true) : p / pw (e + f) = 0 ∨ p / pw (e + f) = 1 := by
  rcases (pat_parts hp).2 with ⟨_, _, h, _⟩ | ⟨_, _, h, _⟩
  · exact .inl h
  · exact .inr h
end Go.Proofs.YtfgbndjhaiigbaaGreatDoor

namespace Go.Proofs.YtfgbndjhaiigbaaGreatDoor
open Go Go.RowKit
set_option linter.unusedSimpArgs false
set_option linter.unusedVariables false
set_option maxRecDepth 100000

theorem kind3 {e f p : Int} (hp : patB e f p = true) (h : kindV e f p = 3) : p % pw (e + f) = inV e f := by
  have q := kind_lt e f p hp
  rw [h] at q
  have n1 := (num_mag.1 (show numB e f p = true from q.2 ▸ rfl)).2
  have n2 : ¬ p % pw (e + f) < inV e f := fun hl => by
    have := fin_mag2.2 ⟨hp, hl⟩
    rw [← q.1] at this; cases this
  omega

/-- An infinite Low is minus infinite, an infinite High plus infinite. -/
theorem low_sign {e f a b : Int} (h : ivB e f a b = true) (hk : kindV e f a = 3) : a / pw (e + f) = 1 := by
  obtain ⟨ha, hb, hle, hne⟩ := iv_parts h
  have pa := (iv_pats h).1
  have m := kind3 pa hk
  have nf : finB e f a = false := by rw [← (kind_lt e f a pa).1, hk]; rfl
  rw [nf] at hne
  have hne2 : ¬ a = b := by rcases hne with q | q; · simpa using q
                            · cases q
  obtain ⟨hg, _, _, ca⟩ := en_parts ha
  obtain ⟨_, _, _, cb⟩ := en_parts hb
  obtain ⟨i0, i1, i2⟩ := in_bd hg
  rcases (pat_parts pa).2 with ⟨p0, p1, p2, p3⟩ | ⟨p0, p1, p2, p3⟩
  · exfalso
    rcases ca with ⟨_, _, ea, _, _, _⟩ | ⟨q, _⟩
    · rcases cb with ⟨_, _, eb, _, _, _⟩ | ⟨_, _, eb, _, _⟩ <;> omega
    · omega
  · exact p2

theorem high_sign {e f a b : Int} (h : ivB e f a b = true) (hk : kindV e f b = 3) : b / pw (e + f) = 0 := by
  obtain ⟨ha, hb, hle, hne⟩ := iv_parts h
  have pb := (iv_pats h).2
  have m := kind3 pb hk
  obtain ⟨hg, _, _, ca⟩ := en_parts ha
  obtain ⟨_, _, _, cb⟩ := en_parts hb
  obtain ⟨i0, i1, i2⟩ := in_bd hg
  rcases (pat_parts pb).2 with ⟨p0, p1, p2, p3⟩ | ⟨p0, p1, p2, p3⟩
  · exact p2
  · exfalso
    have hab : a = b := by
      rcases ca with ⟨_, _, ea, _, _, _⟩ | ⟨_, _, ea, _, _⟩ <;> rcases cb with ⟨_, _, eb, _, _, _⟩ | ⟨_, _, eb, _, _⟩ <;> omega
    rw [hab] at hne
    have nf : finB e f b = false := by rw [← (kind_lt e f b pb).1, hk]; rfl
    rw [nf] at hne
    rcases hne with q | q
    · simp at q
    · cases q

theorem end_kind {e f p : Int} (h : enB e f p = true) : kindV e f p ≠ 4 := num_kind (en_parts h).2.1

theorem en_zero {e f p : Int} (hp : patB e f p = true) (hz : p % pw (e + f) = 0) : enV e f p = 0 := by
  unfold enV; rw [zer_mag.2 ⟨hp, hz⟩]; rfl
end Go.Proofs.YtfgbndjhaiigbaaGreatDoor

