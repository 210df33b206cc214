/-
  Contracts of the functions that put a pattern together, each under the conditions that its line names.
-/
import Derived.Test.YtadehelclgpnfaaRows
import Derived.Test.YtadehelclgpnfaaPlain
import Derived.Test.YtadehelclgpnfaaWalkA
import Derived.Test.YtadehelclgpnfaaWalkF
import Derived.Test.YtadehelclgpnfaaWalkC
import Derived.Test.YtadehelclgpnfaaWalkD
import Derived.Test.YtadehelclgpnfaaWalkE
import Derived.WalkKit
import Derived.WalkSpells
import Derived.WalkLawsBesides
import Derived.StillTactics
import Derived.Laws.Pointers
import Derived.Deep.RegionHeld3
import Derived.Deep.QuietTactic
import Derived.BigQuiet
import Derived.Outline
import Derived.Lib.Hide
import Derived.RowKit3
import Derived.Carry
import Derived.IntWalk
namespace Go.Proofs.Ytadehelclgpnfaa
open Go Go.RowKit
set_option linter.unusedSimpArgs false
set_option linter.unusedVariables false

/-- There are a format and fields of it. -/
def fldB (e f s x r : Int) : Bool := goodB e f && decide ((0 ≤ s ∧ s ≤ 1) ∧ (0 ≤ x ∧ x < pw e) ∧ (0 ≤ r ∧ r < pw f))
theorem fld_iff {e f s x r : Int} : fldB e f s x r = true ↔ goodB e f = true ∧ (0 ≤ s ∧ s ≤ 1) ∧ (0 ≤ x ∧ x < pw e) ∧ (0 ≤ r ∧ r < pw f) := by unfold fldB; simp

set_option maxHeartbeats 800000 in
theorem sPatternOf_no (e f s x r : Int) (hg : fldB e f s x r = false) (w : World) : Calls Try.prog 22 #[fmt e f, .int .i64 s, .int .i64 x, .int .i64 r] w fun rv w' => rv = .returned (.tuple #[.int .i64 0, .bool false]) ∧ Ext w w' := by
  have hg' : ¬ (goodB e f = true ∧ (0 ≤ s ∧ s ≤ 1) ∧ (0 ≤ x ∧ x < pw e) ∧ (0 ≤ r ∧ r < pw f)) := by rw [← fld_iff, hg]; simp
  have Hg := Lib.hid hg'; clear hg hg'
  cases h0 : goodB e f
  · clear Hg
    go_enter Try.func22, Try.ntmps22
    go_wp2_with (first | (go_at_call 37; refine (fmGood_any e f _).mono ?_; rintro rv w1 ⟨rfl, hb⟩; have hc := hb.cells; have hz := hb.frz; have hs : w.heap.size < w1.heap.size := hb.lt (by first | assumption | omega | (simp; done) | (simp; omega)); have g0 : w1.cell? ⟨w.heap.size, 0, none⟩ = some (.int .i64 e) := (hc _ _ (by first | assumption | omega | (simp; done) | (simp; omega))).trans (by first | assumption | (simp; done)); have g1 : w1.cell? ⟨w.heap.size, 1, none⟩ = some (.int .i64 f) := (hc _ _ (by first | assumption | omega | (simp; done) | (simp; omega))).trans (by first | assumption | (simp; done)); clear hc hz) | (go_at_call 46; refine (l1In_any _ _ _ _).mono ?_; rintro rv w1 ⟨rfl, rfl⟩) | (go_at_call 47; refine (fmOnes_any e f h0 _).mono ?_; rintro rv w1 ⟨rfl, hb⟩; have hc := hb.cells; have hz := hb.frz; have hs : w.heap.size < w1.heap.size := hb.lt (by first | assumption | omega | (simp; done) | (simp; omega)); have g0 : w1.cell? ⟨w.heap.size, 0, none⟩ = some (.int .i64 e) := (hc _ _ (by first | assumption | omega | (simp; done) | (simp; omega))).trans (by first | assumption | (simp; done)); have g1 : w1.cell? ⟨w.heap.size, 1, none⟩ = some (.int .i64 f) := (hc _ _ (by first | assumption | omega | (simp; done) | (simp; omega))).trans (by first | assumption | (simp; done)); clear hc hz))
    go_ret2
    exact ⟨rfl, (by repeat (first | exact Ext.refl _ | assumption | apply Ext.alloc | apply Ext.drew | apply Ext.drewN | (refine Ext.setCell ?_ (by simp) _) | (refine Ext.trans ?_ (by assumption))))⟩
  · obtain ⟨h1, h2, h3, h4⟩ := good_iff.1 h0
    obtain ⟨⟨a1, a2⟩, ⟨b1, b2⟩, ⟨c1, c2⟩, hmul⟩ := pw_facts h1 h2 h3 h4
    clear hmul
    have k1 := pw_of f
    by_cases t1 : 0 ≤ s ∧ s ≤ 1
    · by_cases t2 : 0 ≤ x ∧ x ≤ pw e - 1
      · have t3 : ¬ (0 ≤ r ∧ r ≤ pw f - 1) := fun t3 => Hg.out ⟨h0, t1, by omega, by omega⟩
        have e1 : decide (0 ≤ s ∧ s ≤ 1) = true := by simpa using t1
        have e2 : decide (0 ≤ x ∧ x ≤ pw e - 1) = true := by simpa using t2
        have e3 : decide (0 ≤ r ∧ r ≤ pw f - 1) = false := by simpa using t3
        clear Hg t1 t2 t3
        go_enter Try.func22, Try.ntmps22
        go_wp2_with (first | (go_at_call 37; refine (fmGood_any e f _).mono ?_; rintro rv w1 ⟨rfl, hb⟩; have hc := hb.cells; have hz := hb.frz; have hs : w.heap.size < w1.heap.size := hb.lt (by first | assumption | omega | (simp; done) | (simp; omega)); have g0 : w1.cell? ⟨w.heap.size, 0, none⟩ = some (.int .i64 e) := (hc _ _ (by first | assumption | omega | (simp; done) | (simp; omega))).trans (by first | assumption | (simp; done)); have g1 : w1.cell? ⟨w.heap.size, 1, none⟩ = some (.int .i64 f) := (hc _ _ (by first | assumption | omega | (simp; done) | (simp; omega))).trans (by first | assumption | (simp; done)); clear hc hz) | (go_at_call 46; refine (l1In_any _ _ _ _).mono ?_; rintro rv w1 ⟨rfl, rfl⟩) | (go_at_call 47; refine (fmOnes_any e f h0 _).mono ?_; rintro rv w1 ⟨rfl, hb⟩; have hc := hb.cells; have hz := hb.frz; have hs : w.heap.size < w1.heap.size := hb.lt (by first | assumption | omega | (simp; done) | (simp; omega)); have g0 : w1.cell? ⟨w.heap.size, 0, none⟩ = some (.int .i64 e) := (hc _ _ (by first | assumption | omega | (simp; done) | (simp; omega))).trans (by first | assumption | (simp; done)); have g1 : w1.cell? ⟨w.heap.size, 1, none⟩ = some (.int .i64 f) := (hc _ _ (by first | assumption | omega | (simp; done) | (simp; omega))).trans (by first | assumption | (simp; done)); clear hc hz))
        go_ret2
        exact ⟨rfl, (by repeat (first | exact Ext.refl _ | assumption | apply Ext.alloc | apply Ext.drew | apply Ext.drewN | (refine Ext.setCell ?_ (by simp) _) | (refine Ext.trans ?_ (by assumption))))⟩
      · have e1 : decide (0 ≤ s ∧ s ≤ 1) = true := by simpa using t1
        have e2 : decide (0 ≤ x ∧ x ≤ pw e - 1) = false := by simpa using t2
        clear Hg t1 t2
        go_enter Try.func22, Try.ntmps22
        go_wp2_with (first | (go_at_call 37; refine (fmGood_any e f _).mono ?_; rintro rv w1 ⟨rfl, hb⟩; have hc := hb.cells; have hz := hb.frz; have hs : w.heap.size < w1.heap.size := hb.lt (by first | assumption | omega | (simp; done) | (simp; omega)); have g0 : w1.cell? ⟨w.heap.size, 0, none⟩ = some (.int .i64 e) := (hc _ _ (by first | assumption | omega | (simp; done) | (simp; omega))).trans (by first | assumption | (simp; done)); have g1 : w1.cell? ⟨w.heap.size, 1, none⟩ = some (.int .i64 f) := (hc _ _ (by first | assumption | omega | (simp; done) | (simp; omega))).trans (by first | assumption | (simp; done)); clear hc hz) | (go_at_call 46; refine (l1In_any _ _ _ _).mono ?_; rintro rv w1 ⟨rfl, rfl⟩) | (go_at_call 47; refine (fmOnes_any e f h0 _).mono ?_; rintro rv w1 ⟨rfl, hb⟩; have hc := hb.cells; have hz := hb.frz; have hs : w.heap.size < w1.heap.size := hb.lt (by first | assumption | omega | (simp; done) | (simp; omega)); have g0 : w1.cell? ⟨w.heap.size, 0, none⟩ = some (.int .i64 e) := (hc _ _ (by first | assumption | omega | (simp; done) | (simp; omega))).trans (by first | assumption | (simp; done)); have g1 : w1.cell? ⟨w.heap.size, 1, none⟩ = some (.int .i64 f) := (hc _ _ (by first | assumption | omega | (simp; done) | (simp; omega))).trans (by first | assumption | (simp; done)); clear hc hz))
        go_ret2
        exact ⟨rfl, (by repeat (first | exact Ext.refl _ | assumption | apply Ext.alloc | apply Ext.drew | apply Ext.drewN | (refine Ext.setCell ?_ (by simp) _) | (refine Ext.trans ?_ (by assumption))))⟩
    · have e1 : decide (0 ≤ s ∧ s ≤ 1) = false := by simpa using t1
      clear Hg t1
      go_enter Try.func22, Try.ntmps22
      go_wp2_with (first | (go_at_call 37; refine (fmGood_any e f _).mono ?_; rintro rv w1 ⟨rfl, hb⟩; have hc := hb.cells; have hz := hb.frz; have hs : w.heap.size < w1.heap.size := hb.lt (by first | assumption | omega | (simp; done) | (simp; omega)); have g0 : w1.cell? ⟨w.heap.size, 0, none⟩ = some (.int .i64 e) := (hc _ _ (by first | assumption | omega | (simp; done) | (simp; omega))).trans (by first | assumption | (simp; done)); have g1 : w1.cell? ⟨w.heap.size, 1, none⟩ = some (.int .i64 f) := (hc _ _ (by first | assumption | omega | (simp; done) | (simp; omega))).trans (by first | assumption | (simp; done)); clear hc hz) | (go_at_call 46; refine (l1In_any _ _ _ _).mono ?_; rintro rv w1 ⟨rfl, rfl⟩) | (go_at_call 47; refine (fmOnes_any e f h0 _).mono ?_; rintro rv w1 ⟨rfl, hb⟩; have hc := hb.cells; have hz := hb.frz; have hs : w.heap.size < w1.heap.size := hb.lt (by first | assumption | omega | (simp; done) | (simp; omega)); have g0 : w1.cell? ⟨w.heap.size, 0, none⟩ = some (.int .i64 e) := (hc _ _ (by first | assumption | omega | (simp; done) | (simp; omega))).trans (by first | assumption | (simp; done)); have g1 : w1.cell? ⟨w.heap.size, 1, none⟩ = some (.int .i64 f) := (hc _ _ (by first | assumption | omega | (simp; done) | (simp; omega))).trans (by first | assumption | (simp; done)); clear hc hz))
      go_ret2
      exact ⟨rfl, (by repeat (first | exact Ext.refl _ | assumption | apply Ext.alloc | apply Ext.drew | apply Ext.drewN | (refine Ext.setCell ?_ (by simp) _) | (refine Ext.trans ?_ (by assumption))))⟩

set_option maxHeartbeats 800000 in
theorem sPatternOf_yes (e f s x r : Int) (hg : fldB e f s x r = true) (w : World) : Calls Try.prog 22 #[fmt e f, .int .i64 s, .int .i64 x, .int .i64 r] w fun rv w' => rv = .returned (.tuple #[.int .i64 (s * pw (e + f) + (x * pw f + r)), .bool true]) ∧ Ext w w' := by
  obtain ⟨h0, t1, t2, t3⟩ := fld_iff.1 hg
  obtain ⟨h1, h2, h3, h4⟩ := good_iff.1 h0
  obtain ⟨⟨a1, a2⟩, ⟨b1, b2⟩, ⟨c1, c2⟩, hmul⟩ := pw_facts h1 h2 h3 h4
  obtain ⟨⟨m1, m2⟩, ⟨m3, m4⟩, ⟨m5, m6⟩, hm, m7, m8⟩ := fields_facts h1 h2 h3 h4 t1.1 t1.2 t2.1 t2.2 t3.1 t3.2
  clear hmul hm
  have k1 := pw_of f
  have e1 : decide (0 ≤ s ∧ s ≤ 1) = true := by simpa using t1
  have e2 : decide (0 ≤ x ∧ x ≤ pw e - 1) = true := by simp; omega
  have e3 : decide (0 ≤ r ∧ r ≤ pw f - 1) = true := by simp; omega
  obtain ⟨t4, t5⟩ := t1
  obtain ⟨t6, t7⟩ := t2
  obtain ⟨t8, t9⟩ := t3
  have t10 : x ≤ pw e - 1 := by omega
  have t11 : r ≤ pw f - 1 := by omega
  have k2 : IntKind.i64.wrap (x * pw f) = x * pw f := IntWalk.i64_in _ (by omega)
  have k3 : IntKind.i64.wrap (x * pw f + r) = x * pw f + r := IntWalk.i64_in _ (by omega)
  have hg0 := h0
  go_enter Try.func22, Try.ntmps22
  go_wp2_with (first | (go_at_call 37; refine (fmGood_any e f _).mono ?_; rintro rv w1 ⟨rfl, hb⟩; have hc := hb.cells; have hz := hb.frz; have hs : w.heap.size < w1.heap.size := hb.lt (by first | assumption | omega | (simp; done) | (simp; omega)); have g0 : w1.cell? ⟨w.heap.size, 0, none⟩ = some (.int .i64 e) := (hc _ _ (by first | assumption | omega | (simp; done) | (simp; omega))).trans (by first | assumption | (simp; done)); have g1 : w1.cell? ⟨w.heap.size, 1, none⟩ = some (.int .i64 f) := (hc _ _ (by first | assumption | omega | (simp; done) | (simp; omega))).trans (by first | assumption | (simp; done)); clear hc hz) | (go_at_call 46; refine (l1In_any _ _ _ _).mono ?_; rintro rv w1 ⟨rfl, rfl⟩) | (go_at_call 47; refine (fmOnes_any e f h0 _).mono ?_; rintro rv w1 ⟨rfl, hb⟩; have hc := hb.cells; have hz := hb.frz; have hs : w.heap.size < w1.heap.size := hb.lt (by first | assumption | omega | (simp; done) | (simp; omega)); have g0 : w1.cell? ⟨w.heap.size, 0, none⟩ = some (.int .i64 e) := (hc _ _ (by first | assumption | omega | (simp; done) | (simp; omega))).trans (by first | assumption | (simp; done)); have g1 : w1.cell? ⟨w.heap.size, 1, none⟩ = some (.int .i64 f) := (hc _ _ (by first | assumption | omega | (simp; done) | (simp; omega))).trans (by first | assumption | (simp; done)); clear hc hz))
  go_region_held3 (fun w' => w'.cell? ⟨w.heap.size, 0, none⟩ = some (.int .i64 e) ∧ w'.cell? ⟨w.heap.size, 1, none⟩ = some (.int .i64 f) ∧ w.heap.size < w'.heap.size) ((refine ⟨?_, ?_, ?_⟩ <;> first | assumption | (simp; done) | (simp [go_sem, World.cell?_alloc_past, World.cell?_setCell_far, *]; done) | (simp; omega))) ((first | (go_at_call 48; refine (fmOf_any e f _ _ hg0 (by omega) (by omega) (by omega) (by omega) _).mono ?_; rintro rv w1 ⟨rfl, hb⟩; have hc := hb.cells; have hz := hb.frz; have hs : w.heap.size < w1.heap.size := hb.lt (by first | assumption | omega | (simp; done) | (simp; omega)); have g0 : w1.cell? ⟨w.heap.size, 0, none⟩ = some (.int .i64 e) := (hc _ _ (by first | assumption | omega | (simp; done) | (simp; omega))).trans (by first | assumption | (simp; done)); have g1 : w1.cell? ⟨w.heap.size, 1, none⟩ = some (.int .i64 f) := (hc _ _ (by first | assumption | omega | (simp; done) | (simp; omega))).trans (by first | assumption | (simp; done)); clear hc hz)))
  go_wp2
  go_ret2
  exact ⟨rfl, (by repeat (first | exact Ext.refl _ | assumption | apply Ext.alloc | apply Ext.drew | apply Ext.drewN | (refine Ext.setCell ?_ (by simp) _) | (refine Ext.trans ?_ (by assumption))))⟩

set_option maxHeartbeats 1600000 in
theorem iPatternOf_no (e f s x r : Int) (hg : fldB e f s x r = false) (w : World) : Calls Try.prog 23 #[fmt e f, .int .i64 s, .int .i64 x, .int .i64 r] w fun rv w' => rv = .returned (.tuple #[.int .i64 0, .bool false]) ∧ Ext w w' := by
  have hg' : ¬ (goodB e f = true ∧ (0 ≤ s ∧ s ≤ 1) ∧ (0 ≤ x ∧ x < pw e) ∧ (0 ≤ r ∧ r < pw f)) := by rw [← fld_iff, hg]; simp
  have Hg := Lib.hid hg'; clear hg hg'
  cases h0 : goodB e f
  · clear Hg
    go_enter Try.func23, Try.ntmps23
    go_wp2_with (first | (go_at_call 15; refine (isFormat_any e f _).mono ?_; rintro rv w1 ⟨rfl, hb⟩; have hc := hb.cells; have hz := hb.frz; have hs : w.heap.size < w1.heap.size := hb.lt (by first | assumption | omega | (simp; done) | (simp; omega)); have g0 : w1.cell? ⟨w.heap.size, 0, none⟩ = some (.int .i64 e) := (hc _ _ (by first | assumption | omega | (simp; done) | (simp; omega))).trans (by first | assumption | (simp; done)); have g1 : w1.cell? ⟨w.heap.size, 1, none⟩ = some (.int .i64 f) := (hc _ _ (by first | assumption | omega | (simp; done) | (simp; omega))).trans (by first | assumption | (simp; done)); clear hc hz) | (go_at_call 49; refine (exponentOnes_any e f h0 _).mono ?_; rintro rv w1 ⟨rfl, hb⟩; have hc := hb.cells; have hz := hb.frz; have hs : w.heap.size < w1.heap.size := hb.lt (by first | assumption | omega | (simp; done) | (simp; omega)); have g0 : w1.cell? ⟨w.heap.size, 0, none⟩ = some (.int .i64 e) := (hc _ _ (by first | assumption | omega | (simp; done) | (simp; omega))).trans (by first | assumption | (simp; done)); have g1 : w1.cell? ⟨w.heap.size, 1, none⟩ = some (.int .i64 f) := (hc _ _ (by first | assumption | omega | (simp; done) | (simp; omega))).trans (by first | assumption | (simp; done)); clear hc hz) | (go_at_call 50; refine (fractionOnes_any e f h0 _).mono ?_; rintro rv w1 ⟨rfl, hb⟩; have hc := hb.cells; have hz := hb.frz; have hs : w.heap.size < w1.heap.size := hb.lt (by first | assumption | omega | (simp; done) | (simp; omega)); have g0 : w1.cell? ⟨w.heap.size, 0, none⟩ = some (.int .i64 e) := (hc _ _ (by first | assumption | omega | (simp; done) | (simp; omega))).trans (by first | assumption | (simp; done)); have g1 : w1.cell? ⟨w.heap.size, 1, none⟩ = some (.int .i64 f) := (hc _ _ (by first | assumption | omega | (simp; done) | (simp; omega))).trans (by first | assumption | (simp; done)); clear hc hz))
    go_ret2
    exact ⟨rfl, (by repeat (first | exact Ext.refl _ | assumption | apply Ext.alloc | apply Ext.drew | apply Ext.drewN | (refine Ext.setCell ?_ (by simp) _) | (refine Ext.trans ?_ (by assumption))))⟩
  · obtain ⟨h1, h2, h3, h4⟩ := good_iff.1 h0
    obtain ⟨⟨a1, a2⟩, ⟨b1, b2⟩, ⟨c1, c2⟩, hmul⟩ := pw_facts h1 h2 h3 h4
    clear hmul
    by_cases s0 : 0 ≤ s
    · by_cases s1 : s ≤ 1
      · by_cases x0 : 0 ≤ x
        · by_cases x1 : x ≤ pw e - 1
          · by_cases r0 : 0 ≤ r
            · have r1 : ¬ r ≤ pw f - 1 := fun t3 => Hg.out ⟨h0, by omega, by omega, by omega⟩
              clear Hg
              go_enter Try.func23, Try.ntmps23
              go_wp2_with (first | (go_at_call 15; refine (isFormat_any e f _).mono ?_; rintro rv w1 ⟨rfl, hb⟩; have hc := hb.cells; have hz := hb.frz; have hs : w.heap.size < w1.heap.size := hb.lt (by first | assumption | omega | (simp; done) | (simp; omega)); have g0 : w1.cell? ⟨w.heap.size, 0, none⟩ = some (.int .i64 e) := (hc _ _ (by first | assumption | omega | (simp; done) | (simp; omega))).trans (by first | assumption | (simp; done)); have g1 : w1.cell? ⟨w.heap.size, 1, none⟩ = some (.int .i64 f) := (hc _ _ (by first | assumption | omega | (simp; done) | (simp; omega))).trans (by first | assumption | (simp; done)); clear hc hz) | (go_at_call 49; refine (exponentOnes_any e f h0 _).mono ?_; rintro rv w1 ⟨rfl, hb⟩; have hc := hb.cells; have hz := hb.frz; have hs : w.heap.size < w1.heap.size := hb.lt (by first | assumption | omega | (simp; done) | (simp; omega)); have g0 : w1.cell? ⟨w.heap.size, 0, none⟩ = some (.int .i64 e) := (hc _ _ (by first | assumption | omega | (simp; done) | (simp; omega))).trans (by first | assumption | (simp; done)); have g1 : w1.cell? ⟨w.heap.size, 1, none⟩ = some (.int .i64 f) := (hc _ _ (by first | assumption | omega | (simp; done) | (simp; omega))).trans (by first | assumption | (simp; done)); clear hc hz) | (go_at_call 50; refine (fractionOnes_any e f h0 _).mono ?_; rintro rv w1 ⟨rfl, hb⟩; have hc := hb.cells; have hz := hb.frz; have hs : w.heap.size < w1.heap.size := hb.lt (by first | assumption | omega | (simp; done) | (simp; omega)); have g0 : w1.cell? ⟨w.heap.size, 0, none⟩ = some (.int .i64 e) := (hc _ _ (by first | assumption | omega | (simp; done) | (simp; omega))).trans (by first | assumption | (simp; done)); have g1 : w1.cell? ⟨w.heap.size, 1, none⟩ = some (.int .i64 f) := (hc _ _ (by first | assumption | omega | (simp; done) | (simp; omega))).trans (by first | assumption | (simp; done)); clear hc hz))
              go_ret2
              exact ⟨rfl, (by repeat (first | exact Ext.refl _ | assumption | apply Ext.alloc | apply Ext.drew | apply Ext.drewN | (refine Ext.setCell ?_ (by simp) _) | (refine Ext.trans ?_ (by assumption))))⟩
            · clear Hg
              go_enter Try.func23, Try.ntmps23
              go_wp2_with (first | (go_at_call 15; refine (isFormat_any e f _).mono ?_; rintro rv w1 ⟨rfl, hb⟩; have hc := hb.cells; have hz := hb.frz; have hs : w.heap.size < w1.heap.size := hb.lt (by first | assumption | omega | (simp; done) | (simp; omega)); have g0 : w1.cell? ⟨w.heap.size, 0, none⟩ = some (.int .i64 e) := (hc _ _ (by first | assumption | omega | (simp; done) | (simp; omega))).trans (by first | assumption | (simp; done)); have g1 : w1.cell? ⟨w.heap.size, 1, none⟩ = some (.int .i64 f) := (hc _ _ (by first | assumption | omega | (simp; done) | (simp; omega))).trans (by first | assumption | (simp; done)); clear hc hz) | (go_at_call 49; refine (exponentOnes_any e f h0 _).mono ?_; rintro rv w1 ⟨rfl, hb⟩; have hc := hb.cells; have hz := hb.frz; have hs : w.heap.size < w1.heap.size := hb.lt (by first | assumption | omega | (simp; done) | (simp; omega)); have g0 : w1.cell? ⟨w.heap.size, 0, none⟩ = some (.int .i64 e) := (hc _ _ (by first | assumption | omega | (simp; done) | (simp; omega))).trans (by first | assumption | (simp; done)); have g1 : w1.cell? ⟨w.heap.size, 1, none⟩ = some (.int .i64 f) := (hc _ _ (by first | assumption | omega | (simp; done) | (simp; omega))).trans (by first | assumption | (simp; done)); clear hc hz) | (go_at_call 50; refine (fractionOnes_any e f h0 _).mono ?_; rintro rv w1 ⟨rfl, hb⟩; have hc := hb.cells; have hz := hb.frz; have hs : w.heap.size < w1.heap.size := hb.lt (by first | assumption | omega | (simp; done) | (simp; omega)); have g0 : w1.cell? ⟨w.heap.size, 0, none⟩ = some (.int .i64 e) := (hc _ _ (by first | assumption | omega | (simp; done) | (simp; omega))).trans (by first | assumption | (simp; done)); have g1 : w1.cell? ⟨w.heap.size, 1, none⟩ = some (.int .i64 f) := (hc _ _ (by first | assumption | omega | (simp; done) | (simp; omega))).trans (by first | assumption | (simp; done)); clear hc hz))
              go_ret2
              exact ⟨rfl, (by repeat (first | exact Ext.refl _ | assumption | apply Ext.alloc | apply Ext.drew | apply Ext.drewN | (refine Ext.setCell ?_ (by simp) _) | (refine Ext.trans ?_ (by assumption))))⟩
          · clear Hg
            go_enter Try.func23, Try.ntmps23
            go_wp2_with (first | (go_at_call 15; refine (isFormat_any e f _).mono ?_; rintro rv w1 ⟨rfl, hb⟩; have hc := hb.cells; have hz := hb.frz; have hs : w.heap.size < w1.heap.size := hb.lt (by first | assumption | omega | (simp; done) | (simp; omega)); have g0 : w1.cell? ⟨w.heap.size, 0, none⟩ = some (.int .i64 e) := (hc _ _ (by first | assumption | omega | (simp; done) | (simp; omega))).trans (by first | assumption | (simp; done)); have g1 : w1.cell? ⟨w.heap.size, 1, none⟩ = some (.int .i64 f) := (hc _ _ (by first | assumption | omega | (simp; done) | (simp; omega))).trans (by first | assumption | (simp; done)); clear hc hz) | (go_at_call 49; refine (exponentOnes_any e f h0 _).mono ?_; rintro rv w1 ⟨rfl, hb⟩; have hc := hb.cells; have hz := hb.frz; have hs : w.heap.size < w1.heap.size := hb.lt (by first | assumption | omega | (simp; done) | (simp; omega)); have g0 : w1.cell? ⟨w.heap.size, 0, none⟩ = some (.int .i64 e) := (hc _ _ (by first | assumption | omega | (simp; done) | (simp; omega))).trans (by first | assumption | (simp; done)); have g1 : w1.cell? ⟨w.heap.size, 1, none⟩ = some (.int .i64 f) := (hc _ _ (by first | assumption | omega | (simp; done) | (simp; omega))).trans (by first | assumption | (simp; done)); clear hc hz) | (go_at_call 50; refine (fractionOnes_any e f h0 _).mono ?_; rintro rv w1 ⟨rfl, hb⟩; have hc := hb.cells; have hz := hb.frz; have hs : w.heap.size < w1.heap.size := hb.lt (by first | assumption | omega | (simp; done) | (simp; omega)); have g0 : w1.cell? ⟨w.heap.size, 0, none⟩ = some (.int .i64 e) := (hc _ _ (by first | assumption | omega | (simp; done) | (simp; omega))).trans (by first | assumption | (simp; done)); have g1 : w1.cell? ⟨w.heap.size, 1, none⟩ = some (.int .i64 f) := (hc _ _ (by first | assumption | omega | (simp; done) | (simp; omega))).trans (by first | assumption | (simp; done)); clear hc hz))
            go_ret2
            exact ⟨rfl, (by repeat (first | exact Ext.refl _ | assumption | apply Ext.alloc | apply Ext.drew | apply Ext.drewN | (refine Ext.setCell ?_ (by simp) _) | (refine Ext.trans ?_ (by assumption))))⟩
        · clear Hg
          go_enter Try.func23, Try.ntmps23
          go_wp2_with (first | (go_at_call 15; refine (isFormat_any e f _).mono ?_; rintro rv w1 ⟨rfl, hb⟩; have hc := hb.cells; have hz := hb.frz; have hs : w.heap.size < w1.heap.size := hb.lt (by first | assumption | omega | (simp; done) | (simp; omega)); have g0 : w1.cell? ⟨w.heap.size, 0, none⟩ = some (.int .i64 e) := (hc _ _ (by first | assumption | omega | (simp; done) | (simp; omega))).trans (by first | assumption | (simp; done)); have g1 : w1.cell? ⟨w.heap.size, 1, none⟩ = some (.int .i64 f) := (hc _ _ (by first | assumption | omega | (simp; done) | (simp; omega))).trans (by first | assumption | (simp; done)); clear hc hz) | (go_at_call 49; refine (exponentOnes_any e f h0 _).mono ?_; rintro rv w1 ⟨rfl, hb⟩; have hc := hb.cells; have hz := hb.frz; have hs : w.heap.size < w1.heap.size := hb.lt (by first | assumption | omega | (simp; done) | (simp; omega)); have g0 : w1.cell? ⟨w.heap.size, 0, none⟩ = some (.int .i64 e) := (hc _ _ (by first | assumption | omega | (simp; done) | (simp; omega))).trans (by first | assumption | (simp; done)); have g1 : w1.cell? ⟨w.heap.size, 1, none⟩ = some (.int .i64 f) := (hc _ _ (by first | assumption | omega | (simp; done) | (simp; omega))).trans (by first | assumption | (simp; done)); clear hc hz) | (go_at_call 50; refine (fractionOnes_any e f h0 _).mono ?_; rintro rv w1 ⟨rfl, hb⟩; have hc := hb.cells; have hz := hb.frz; have hs : w.heap.size < w1.heap.size := hb.lt (by first | assumption | omega | (simp; done) | (simp; omega)); have g0 : w1.cell? ⟨w.heap.size, 0, none⟩ = some (.int .i64 e) := (hc _ _ (by first | assumption | omega | (simp; done) | (simp; omega))).trans (by first | assumption | (simp; done)); have g1 : w1.cell? ⟨w.heap.size, 1, none⟩ = some (.int .i64 f) := (hc _ _ (by first | assumption | omega | (simp; done) | (simp; omega))).trans (by first | assumption | (simp; done)); clear hc hz))
          go_ret2
          exact ⟨rfl, (by repeat (first | exact Ext.refl _ | assumption | apply Ext.alloc | apply Ext.drew | apply Ext.drewN | (refine Ext.setCell ?_ (by simp) _) | (refine Ext.trans ?_ (by assumption))))⟩
      · clear Hg
        go_enter Try.func23, Try.ntmps23
        go_wp2_with (first | (go_at_call 15; refine (isFormat_any e f _).mono ?_; rintro rv w1 ⟨rfl, hb⟩; have hc := hb.cells; have hz := hb.frz; have hs : w.heap.size < w1.heap.size := hb.lt (by first | assumption | omega | (simp; done) | (simp; omega)); have g0 : w1.cell? ⟨w.heap.size, 0, none⟩ = some (.int .i64 e) := (hc _ _ (by first | assumption | omega | (simp; done) | (simp; omega))).trans (by first | assumption | (simp; done)); have g1 : w1.cell? ⟨w.heap.size, 1, none⟩ = some (.int .i64 f) := (hc _ _ (by first | assumption | omega | (simp; done) | (simp; omega))).trans (by first | assumption | (simp; done)); clear hc hz) | (go_at_call 49; refine (exponentOnes_any e f h0 _).mono ?_; rintro rv w1 ⟨rfl, hb⟩; have hc := hb.cells; have hz := hb.frz; have hs : w.heap.size < w1.heap.size := hb.lt (by first | assumption | omega | (simp; done) | (simp; omega)); have g0 : w1.cell? ⟨w.heap.size, 0, none⟩ = some (.int .i64 e) := (hc _ _ (by first | assumption | omega | (simp; done) | (simp; omega))).trans (by first | assumption | (simp; done)); have g1 : w1.cell? ⟨w.heap.size, 1, none⟩ = some (.int .i64 f) := (hc _ _ (by first | assumption | omega | (simp; done) | (simp; omega))).trans (by first | assumption | (simp; done)); clear hc hz) | (go_at_call 50; refine (fractionOnes_any e f h0 _).mono ?_; rintro rv w1 ⟨rfl, hb⟩; have hc := hb.cells; have hz := hb.frz; have hs : w.heap.size < w1.heap.size := hb.lt (by first | assumption | omega | (simp; done) | (simp; omega)); have g0 : w1.cell? ⟨w.heap.size, 0, none⟩ = some (.int .i64 e) := (hc _ _ (by first | assumption | omega | (simp; done) | (simp; omega))).trans (by first | assumption | (simp; done)); have g1 : w1.cell? ⟨w.heap.size, 1, none⟩ = some (.int .i64 f) := (hc _ _ (by first | assumption | omega | (simp; done) | (simp; omega))).trans (by first | assumption | (simp; done)); clear hc hz))
        go_ret2
        exact ⟨rfl, (by repeat (first | exact Ext.refl _ | assumption | apply Ext.alloc | apply Ext.drew | apply Ext.drewN | (refine Ext.setCell ?_ (by simp) _) | (refine Ext.trans ?_ (by assumption))))⟩
    · clear Hg
      go_enter Try.func23, Try.ntmps23
      go_wp2_with (first | (go_at_call 15; refine (isFormat_any e f _).mono ?_; rintro rv w1 ⟨rfl, hb⟩; have hc := hb.cells; have hz := hb.frz; have hs : w.heap.size < w1.heap.size := hb.lt (by first | assumption | omega | (simp; done) | (simp; omega)); have g0 : w1.cell? ⟨w.heap.size, 0, none⟩ = some (.int .i64 e) := (hc _ _ (by first | assumption | omega | (simp; done) | (simp; omega))).trans (by first | assumption | (simp; done)); have g1 : w1.cell? ⟨w.heap.size, 1, none⟩ = some (.int .i64 f) := (hc _ _ (by first | assumption | omega | (simp; done) | (simp; omega))).trans (by first | assumption | (simp; done)); clear hc hz) | (go_at_call 49; refine (exponentOnes_any e f h0 _).mono ?_; rintro rv w1 ⟨rfl, hb⟩; have hc := hb.cells; have hz := hb.frz; have hs : w.heap.size < w1.heap.size := hb.lt (by first | assumption | omega | (simp; done) | (simp; omega)); have g0 : w1.cell? ⟨w.heap.size, 0, none⟩ = some (.int .i64 e) := (hc _ _ (by first | assumption | omega | (simp; done) | (simp; omega))).trans (by first | assumption | (simp; done)); have g1 : w1.cell? ⟨w.heap.size, 1, none⟩ = some (.int .i64 f) := (hc _ _ (by first | assumption | omega | (simp; done) | (simp; omega))).trans (by first | assumption | (simp; done)); clear hc hz) | (go_at_call 50; refine (fractionOnes_any e f h0 _).mono ?_; rintro rv w1 ⟨rfl, hb⟩; have hc := hb.cells; have hz := hb.frz; have hs : w.heap.size < w1.heap.size := hb.lt (by first | assumption | omega | (simp; done) | (simp; omega)); have g0 : w1.cell? ⟨w.heap.size, 0, none⟩ = some (.int .i64 e) := (hc _ _ (by first | assumption | omega | (simp; done) | (simp; omega))).trans (by first | assumption | (simp; done)); have g1 : w1.cell? ⟨w.heap.size, 1, none⟩ = some (.int .i64 f) := (hc _ _ (by first | assumption | omega | (simp; done) | (simp; omega))).trans (by first | assumption | (simp; done)); clear hc hz))
      go_ret2
      exact ⟨rfl, (by repeat (first | exact Ext.refl _ | assumption | apply Ext.alloc | apply Ext.drew | apply Ext.drewN | (refine Ext.setCell ?_ (by simp) _) | (refine Ext.trans ?_ (by assumption))))⟩

set_option maxHeartbeats 1600000 in
theorem iPatternOf_yes (e f s x r : Int) (hg : fldB e f s x r = true) (w : World) : Calls Try.prog 23 #[fmt e f, .int .i64 s, .int .i64 x, .int .i64 r] w fun rv w' => rv = .returned (.tuple #[.int .i64 (s * pw (e + f) + (x * pw f + r)), .bool true]) ∧ Ext w w' := by
  obtain ⟨h0, ⟨s0, s1⟩, ⟨x0, x1⟩, ⟨r0, r1⟩⟩ := fld_iff.1 hg
  obtain ⟨h1, h2, h3, h4⟩ := good_iff.1 h0
  obtain ⟨⟨a1, a2⟩, ⟨b1, b2⟩, ⟨c1, c2⟩, hmul⟩ := pw_facts h1 h2 h3 h4
  clear hmul
  have x2 : x ≤ pw e - 1 := by omega
  have r2 : r ≤ pw f - 1 := by omega
  go_enter Try.func23, Try.ntmps23
  go_wp2_with (first | (go_at_call 15; refine (isFormat_any e f _).mono ?_; rintro rv w1 ⟨rfl, hb⟩; have hc := hb.cells; have hz := hb.frz; have hs : w.heap.size < w1.heap.size := hb.lt (by first | assumption | omega | (simp; done) | (simp; omega)); have g0 : w1.cell? ⟨w.heap.size, 0, none⟩ = some (.int .i64 e) := (hc _ _ (by first | assumption | omega | (simp; done) | (simp; omega))).trans (by first | assumption | (simp; done)); have g1 : w1.cell? ⟨w.heap.size, 1, none⟩ = some (.int .i64 f) := (hc _ _ (by first | assumption | omega | (simp; done) | (simp; omega))).trans (by first | assumption | (simp; done)); clear hc hz) | (go_at_call 49; refine (exponentOnes_any e f h0 _).mono ?_; rintro rv w1 ⟨rfl, hb⟩; have hc := hb.cells; have hz := hb.frz; have hs : w.heap.size < w1.heap.size := hb.lt (by first | assumption | omega | (simp; done) | (simp; omega)); have g0 : w1.cell? ⟨w.heap.size, 0, none⟩ = some (.int .i64 e) := (hc _ _ (by first | assumption | omega | (simp; done) | (simp; omega))).trans (by first | assumption | (simp; done)); have g1 : w1.cell? ⟨w.heap.size, 1, none⟩ = some (.int .i64 f) := (hc _ _ (by first | assumption | omega | (simp; done) | (simp; omega))).trans (by first | assumption | (simp; done)); clear hc hz) | (go_at_call 50; refine (fractionOnes_any e f h0 _).mono ?_; rintro rv w1 ⟨rfl, hb⟩; have hc := hb.cells; have hz := hb.frz; have hs : w.heap.size < w1.heap.size := hb.lt (by first | assumption | omega | (simp; done) | (simp; omega)); have g0 : w1.cell? ⟨w.heap.size, 0, none⟩ = some (.int .i64 e) := (hc _ _ (by first | assumption | omega | (simp; done) | (simp; omega))).trans (by first | assumption | (simp; done)); have g1 : w1.cell? ⟨w.heap.size, 1, none⟩ = some (.int .i64 f) := (hc _ _ (by first | assumption | omega | (simp; done) | (simp; omega))).trans (by first | assumption | (simp; done)); clear hc hz) | (go_at_call 51; refine (patternOf_any e f _ _ _ h0 (by omega) (by omega) (by omega) (by omega) (by omega) (by omega) _).mono ?_; rintro rv w1 ⟨rfl, hb⟩; have hc := hb.cells; have hz := hb.frz; have hs : w.heap.size < w1.heap.size := hb.lt (by first | assumption | omega | (simp; done) | (simp; omega)); have g0 : w1.cell? ⟨w.heap.size, 0, none⟩ = some (.int .i64 e) := (hc _ _ (by first | assumption | omega | (simp; done) | (simp; omega))).trans (by first | assumption | (simp; done)); have g1 : w1.cell? ⟨w.heap.size, 1, none⟩ = some (.int .i64 f) := (hc _ _ (by first | assumption | omega | (simp; done) | (simp; omega))).trans (by first | assumption | (simp; done)); clear hc hz))
  go_ret2
  exact ⟨rfl, (by repeat (first | exact Ext.refl _ | assumption | apply Ext.alloc | apply Ext.drew | apply Ext.drewN | (refine Ext.setCell ?_ (by simp) _) | (refine Ext.trans ?_ (by assumption))))⟩

end Go.Proofs.Ytadehelclgpnfaa
