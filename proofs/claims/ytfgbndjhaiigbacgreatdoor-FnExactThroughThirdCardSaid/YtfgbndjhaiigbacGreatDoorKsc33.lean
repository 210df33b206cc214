/-
  Contracts of the functions that the laws reach, and the plain facts that they rest on, each under the conditions that its line names; part 33.
-/
import Derived.Test.YtfgbndjhaiigbacGreatDoorKsc1
import Derived.Test.YtfgbndjhaiigbacGreatDoorKsc2
import Derived.Test.YtfgbndjhaiigbacGreatDoorKsc3
import Derived.Test.YtfgbndjhaiigbacGreatDoorKsc4
import Derived.Test.YtfgbndjhaiigbacGreatDoorKsc5
import Derived.Test.YtfgbndjhaiigbacGreatDoorKsc6
import Derived.Test.YtfgbndjhaiigbacGreatDoorKsc7
import Derived.Test.YtfgbndjhaiigbacGreatDoorKsc8
import Derived.Test.YtfgbndjhaiigbacGreatDoorKsc9
import Derived.Test.YtfgbndjhaiigbacGreatDoorKsc10
import Derived.Test.YtfgbndjhaiigbacGreatDoorKsc11
import Derived.Test.YtfgbndjhaiigbacGreatDoorKsc12
import Derived.Test.YtfgbndjhaiigbacGreatDoorKsc13
import Derived.Test.YtfgbndjhaiigbacGreatDoorKsc14
import Derived.Test.YtfgbndjhaiigbacGreatDoorKsc15
import Derived.Test.YtfgbndjhaiigbacGreatDoorKsc16
import Derived.Test.YtfgbndjhaiigbacGreatDoorKsc17
import Derived.Test.YtfgbndjhaiigbacGreatDoorKsc18
import Derived.Test.YtfgbndjhaiigbacGreatDoorKsc19
import Derived.Test.YtfgbndjhaiigbacGreatDoorKsc20
import Derived.Test.YtfgbndjhaiigbacGreatDoorKsc21
import Derived.Test.YtfgbndjhaiigbacGreatDoorKsc22
import Derived.Test.YtfgbndjhaiigbacGreatDoorKsc23
import Derived.Test.YtfgbndjhaiigbacGreatDoorKsc24
import Derived.Test.YtfgbndjhaiigbacGreatDoorKsc25
import Derived.Test.YtfgbndjhaiigbacGreatDoorKsc26
import Derived.Test.YtfgbndjhaiigbacGreatDoorKsc27
import Derived.Test.YtfgbndjhaiigbacGreatDoorKsc28
import Derived.Test.YtfgbndjhaiigbacGreatDoorKsc29
import Derived.Test.YtfgbndjhaiigbacGreatDoorKsc30
import Derived.Test.YtfgbndjhaiigbacGreatDoorKsc31
import Derived.Test.YtfgbndjhaiigbacGreatDoorKsc32
import Derived.Test.YtfgbndjhaiigbacGreatDoorRows
import Derived.WalkKit
import Derived.Handy
import Derived.LoopTactic
import Derived.LoopN
import Derived.Laws.OwnMore
import Derived.OwnWalk
import Derived.Deep.AppendLies
import Derived.Laws.Bits64b
import Derived.WalkSpells
import Derived.WalkLawsBesides
import Derived.StillTactics
import Derived.Laws.Pointers
import Derived.Deep.RegionHeld3
import Derived.Deep.QuietTactic
import Derived.BigQuiet
import Derived.Outline
import Derived.Lib.Hide
import Derived.RowKit3
import Derived.Carry
import Derived.IntWalk
import Derived.Laws.EntriesVeiled
namespace Go.Proofs.YtfgbndjhaiigbacGreatDoor
open Go Go.RowKit
set_option linter.unusedSimpArgs false
set_option linter.unusedVariables false
set_option maxRecDepth 100000

/-- What ScaleOf asks for. -/
def scB (e f a k mode : Int) : Bool := patB e f a && (moB mode && decide (-60 ≤ k ∧ k ≤ 60))

theorem sc_iff {e f a k mode : Int} : scB e f a k mode = true ↔ patB e f a = true ∧ (0 ≤ mode ∧ mode ≤ 5) ∧ -60 ≤ k ∧ k ≤ 60 := by
  unfold scB; rw [Bool.and_eq_true, Bool.and_eq_true, mo_iff, decide_eq_true_eq]

/-- What a scaled value is. -/
def ScD (e f a k mode r : Int) : Prop := (kindV e f a = 4 ∧ r = quV e f) ∨ ((kindV e f a = 3 ∨ kindV e f a = 0) ∧ r = a) ∨ ((kindV e f a = 1 ∨ kindV e f a = 2) ∧ ∃ s, r = s + (a / pw (e + f)) * pw (e + f) ∧ RndD e f ((odV (unitsV e f a)).natAbs : Int) ((shE (unitsV e f a) (unV e f)) + k - (unV e f)) mode ((a / pw (e + f)) == 1) s)

theorem sc_one {e f a k mode r r2 : Int} (hg : goodB e f = true) (h : ScD e f a k mode r) (h2 : ScD e f a k mode r2) : r = r2 := by
  have hf := (good_iff.1 hg).2.2.1
  have hp : (0 : Int) < pw 149 := by have := pw_pos 149; omega
  rcases h with ⟨a1, b1⟩ | ⟨a1, b1⟩ | ⟨a1, s, b1, c1⟩ <;> rcases h2 with ⟨a2, b2⟩ | ⟨a2, b2⟩ | ⟨a2, s2, b2, c2⟩ <;> first | omega | (have := rnd_one hf hp c1 c2; omega)

theorem zero_form {e f p : Int} (hp : patB e f p = true) (hk : kindV e f p = 0) : p / pw (e + f) * pw (e + f) = p := by
  have h0 : p % pw (e + f) = 0 := by
    obtain ⟨hg, p0, p1⟩ := pat_iff.1 hp
    obtain ⟨h1, h2, h3, h4⟩ := good_iff.1 hg
    have c1 := pw_pos f
    have c2 := pw_pos (e + f)
    have r0 := Int.emod_nonneg p (show pw (e + f) ≠ 0 by omega)
    have hd : pw (e + f) = pw e * pw f := pw_add e f (by omega) (by omega)
    have hm : p % pw (e + f) % pw f = p % pw f := by
      rw [hd]
      exact Int.emod_emod_of_dvd p ⟨pw e, Int.mul_comm _ _⟩
    have d2 := Int.mul_ediv_add_emod (p % pw (e + f)) (pw f)
    have q0 : 0 ≤ p % pw (e + f) / pw f := Int.ediv_nonneg r0 (by omega)
    have e0 := (pw_facts h1 h2 h3 h4).2.1.1
    have k1 : p % pw (e + f) / pw f = 0 ∧ p % pw f = 0 := by
      unfold kindV at hk
      have rr := Int.emod_nonneg p (show pw f ≠ 0 by omega)
      by_cases h : p % pw (e + f) / pw f = pw e - 1
      · by_cases g : p % pw f = 0 <;> simp [h, g] at hk
      · have : (p % pw (e + f) / pw f == pw e - 1) = false := by simpa using h
        rw [this] at hk
        by_cases g : 0 < p % pw (e + f) / pw f
        · simp [g] at hk
        · by_cases g2 : 0 < p % pw f
          · simp [g, g2] at hk
          · exact ⟨by omega, by omega⟩
    rw [hm, k1.1, k1.2] at d2
    omega
  have d1 := Int.mul_ediv_add_emod p (pw (e + f))
  rw [h0, Int.mul_comm] at d1
  omega

theorem arRound_odd (e f n d mode : Int) (hg : goodB e f = true) (ho : n % 2 = 1) (hn0 : -1048576 < n) (hn1 : n < 1048576) (k0 : -60 ≤ d - unV e f) (k1 : d - unV e f ≤ 149) (hm0 : 0 ≤ mode) (hm1 : mode ≤ 5) (w : World) :
    Calls Tryz.prog 50 #[fmt e f, .int .i64 n, .int .i64 d, .int .i64 mode] w (RRout e f n (d - unV e f) mode w) := by
  have u := un_bd hg
  have rs := fun w => rdShort_any n d (by omega) (by omega) (by omega) (by omega) w
  obtain ⟨o1, o2⟩ := od_odd ho (by omega) (by omega)
  have sh : shE n d = d := by rw [show shE n d = d + tzV n from if_neg (by omega), o2, Int.add_zero]
  rw [o1, sh] at rs
  have RS := Lib.hid rs; clear rs
  go_enter Tryz.func50, Tryz.ntmps50
  go_wp2_with (first | (go_at_call 101; refine (RS.out _).mono ?_; rintro rv w1 ⟨rfl, hb⟩; have ns : w.heap.size < w1.heap.size := hb.ltK; have n0 : w1.cell? ⟨w.heap.size, 0, none⟩ = some (.int .i64 e) := hb.cellK; have n1 : w1.cell? ⟨w.heap.size, 1, none⟩ = some (.int .i64 f) := hb.cellK; (first | (have nx := Ext.trans hx hb; clear hx) | (have nx := Ext.trans (hx.alloc _) hb; clear hx) | (have nx := Ext.trans hx.drew hb; clear hx) | have nx := hb); clear hb; try clear hs; try clear g0; try clear g1; have hx := nx; clear nx; have hs := ns; clear ns; have g0 := n0; clear n0; have g1 := n1; clear n1) | (go_at_call 77; refine (rdRound_any e f n d mode hg ⟨by omega, by omega, fun _ => by omega⟩ hm0 hm1 _).mono ?_; rintro rv w1 ⟨s, rfl, hq, hb⟩; have HQ := Lib.hid hq; clear hq; have ns : w.heap.size < w1.heap.size := hb.ltK; have n0 : w1.cell? ⟨w.heap.size, 0, none⟩ = some (.int .i64 e) := hb.cellK; have n1 : w1.cell? ⟨w.heap.size, 1, none⟩ = some (.int .i64 f) := hb.cellK; (first | (have nx := Ext.trans hx hb; clear hx) | (have nx := Ext.trans (hx.alloc _) hb; clear hx) | (have nx := Ext.trans hx.drew hb; clear hx) | have nx := hb); clear hb; try clear hs; try clear g0; try clear g1; have hx := nx; clear nx; have hs := ns; clear ns; have g0 := n0; clear n0; have g1 := n1; clear n1))
  try (go_region_held3 (fun w' => w'.cell? ⟨w.heap.size, 0, none⟩ = some (.int .i64 e) ∧ w'.cell? ⟨w.heap.size, 1, none⟩ = some (.int .i64 f) ∧ w.heap.size < w'.heap.size) ((refine ⟨?_, ?_, ?_⟩ <;> first | with_reducible assumption | ((rw [cell_setRow_far _ _ _ _ _ (by omega)]); with_reducible assumption) | ((rw [setRow_size]); with_reducible assumption) | ((repeat rw [World.cell?_setCell_far _ _ _ _ (by simp)]); with_reducible assumption) | (simp; done) | (simp [World.setCell]; first | done | omega) | (simp [go_sem, World.cell?_alloc_past, World.cell?_setCell_far, *]; done))) ((first | (go_at_call 101; refine (RS.out _).mono ?_; rintro rv w1 ⟨rfl, hb⟩; have ns : w.heap.size < w1.heap.size := hb.ltK; have n0 : w1.cell? ⟨w.heap.size, 0, none⟩ = some (.int .i64 e) := hb.cellK; have n1 : w1.cell? ⟨w.heap.size, 1, none⟩ = some (.int .i64 f) := hb.cellK; (first | (have nx := Ext.trans hx hb; clear hx) | (have nx := Ext.trans (hx.alloc _) hb; clear hx) | (have nx := Ext.trans hx.drew hb; clear hx) | have nx := hb); clear hb; try clear hs; try clear g0; try clear g1; have hx := nx; clear nx; have hs := ns; clear ns; have g0 := n0; clear n0; have g1 := n1; clear n1) | (go_at_call 77; refine (rdRound_any e f n d mode hg ⟨by omega, by omega, fun _ => by omega⟩ hm0 hm1 _).mono ?_; rintro rv w1 ⟨s, rfl, hq, hb⟩; have HQ := Lib.hid hq; clear hq; have ns : w.heap.size < w1.heap.size := hb.ltK; have n0 : w1.cell? ⟨w.heap.size, 0, none⟩ = some (.int .i64 e) := hb.cellK; have n1 : w1.cell? ⟨w.heap.size, 1, none⟩ = some (.int .i64 f) := hb.cellK; (first | (have nx := Ext.trans hx hb; clear hx) | (have nx := Ext.trans (hx.alloc _) hb; clear hx) | (have nx := Ext.trans hx.drew hb; clear hx) | have nx := hb); clear hb; try clear hs; try clear g0; try clear g1; have hx := nx; clear nx; have hs := ns; clear ns; have g0 := n0; clear n0; have g1 := n1; clear n1))))
  try go_wp2_with (first | (go_at_call 101; refine (RS.out _).mono ?_; rintro rv w1 ⟨rfl, hb⟩; have ns : w.heap.size < w1.heap.size := hb.ltK; have n0 : w1.cell? ⟨w.heap.size, 0, none⟩ = some (.int .i64 e) := hb.cellK; have n1 : w1.cell? ⟨w.heap.size, 1, none⟩ = some (.int .i64 f) := hb.cellK; (first | (have nx := Ext.trans hx hb; clear hx) | (have nx := Ext.trans (hx.alloc _) hb; clear hx) | (have nx := Ext.trans hx.drew hb; clear hx) | have nx := hb); clear hb; try clear hs; try clear g0; try clear g1; have hx := nx; clear nx; have hs := ns; clear ns; have g0 := n0; clear n0; have g1 := n1; clear n1) | (go_at_call 77; refine (rdRound_any e f n d mode hg ⟨by omega, by omega, fun _ => by omega⟩ hm0 hm1 _).mono ?_; rintro rv w1 ⟨s, rfl, hq, hb⟩; have HQ := Lib.hid hq; clear hq; have ns : w.heap.size < w1.heap.size := hb.ltK; have n0 : w1.cell? ⟨w.heap.size, 0, none⟩ = some (.int .i64 e) := hb.cellK; have n1 : w1.cell? ⟨w.heap.size, 1, none⟩ = some (.int .i64 f) := hb.cellK; (first | (have nx := Ext.trans hx hb; clear hx) | (have nx := Ext.trans (hx.alloc _) hb; clear hx) | (have nx := Ext.trans hx.drew hb; clear hx) | have nx := hb); clear hb; try clear hs; try clear g0; try clear g1; have hx := nx; clear nx; have hs := ns; clear ns; have g0 := n0; clear n0; have g1 := n1; clear n1))
  go_ret
  exact ⟨s, rfl, HQ.out, Ext.auK⟩

theorem ab_zero {e f a mode : Int} : abB e f a 0 mode = (patB e f a && moB mode) := by
  unfold abB
  cases h : patB e f a
  · rfl
  · obtain ⟨hg, _, _⟩ := pat_iff.1 h
    have q := pw_pos (e + f)
    rw [show patB e f 0 = true from pat_iff.2 ⟨hg, by omega, by omega⟩]
    simp

theorem sScaleOf_no (e f a k mode : Int) (hg : scB e f a k mode = false) (w : World) : Calls Tryz.prog 14 #[fmt e f, .int .i64 a, .int .i64 k, .int .i64 mode] w fun rv w' => rv = .returned (.tuple #[.int .i64 0, .bool false]) ∧ Ext w w' := by
  have h2 : abB e f a 0 mode = false ∨ (abB e f a 0 mode = true ∧ decide (-60 ≤ k ∧ k ≤ 60) = false) := by
    rw [ab_zero]
    unfold scB at hg
    cases h0 : patB e f a <;> cases h1 : moB mode <;> rw [h0, h1] at hg <;> simp at hg ⊢
    exact hg
  rcases h2 with h0 | ⟨h0, h1⟩
  · go_enter Tryz.func14, Tryz.ntmps14
    go_wp2_with (first | (go_at_call 43; refine (arAsked_any e f a 0 mode _).mono ?_; rintro rv w1 ⟨rfl, hb⟩; have ns : w.heap.size < w1.heap.size := hb.ltK; have n0 : w1.cell? ⟨w.heap.size, 0, none⟩ = some (.int .i64 e) := hb.cellK; have n1 : w1.cell? ⟨w.heap.size, 1, none⟩ = some (.int .i64 f) := hb.cellK; (first | (have nx := Ext.trans hx hb; clear hx) | (have nx := Ext.trans (hx.alloc _) hb; clear hx) | (have nx := Ext.trans hx.drew hb; clear hx) | have nx := hb); clear hb; try clear hs; try clear g0; try clear g1; have hx := nx; clear nx; have hs := ns; clear ns; have g0 := n0; clear n0; have g1 := n1; clear n1) | (go_at_call 44; refine (l1In_any _ _ _ _).mono ?_; rintro rv w1 ⟨rfl, rfl⟩))
    go_ret2
    exact ⟨rfl, Ext.auK⟩
  · go_enter Tryz.func14, Tryz.ntmps14
    go_wp2_with (first | (go_at_call 43; refine (arAsked_any e f a 0 mode _).mono ?_; rintro rv w1 ⟨rfl, hb⟩; have ns : w.heap.size < w1.heap.size := hb.ltK; have n0 : w1.cell? ⟨w.heap.size, 0, none⟩ = some (.int .i64 e) := hb.cellK; have n1 : w1.cell? ⟨w.heap.size, 1, none⟩ = some (.int .i64 f) := hb.cellK; (first | (have nx := Ext.trans hx hb; clear hx) | (have nx := Ext.trans (hx.alloc _) hb; clear hx) | (have nx := Ext.trans hx.drew hb; clear hx) | have nx := hb); clear hb; try clear hs; try clear g0; try clear g1; have hx := nx; clear nx; have hs := ns; clear ns; have g0 := n0; clear n0; have g1 := n1; clear n1) | (go_at_call 44; refine (l1In_any _ _ _ _).mono ?_; rintro rv w1 ⟨rfl, rfl⟩))
    go_ret2
    exact ⟨rfl, Ext.auK⟩

theorem sScaleOf_x (e f a k mode : Int) (hg : scB e f a k mode = true) (ha : kindV e f a = 4) (w : World) : Calls Tryz.prog 14 #[fmt e f, .int .i64 a, .int .i64 k, .int .i64 mode] w (ARboth (ScD e f a k mode) w) := by
  obtain ⟨hap, ⟨m0, m1⟩, hk0, hk1⟩ := sc_iff.1 hg
  have h0 : abB e f a 0 mode = true := by rw [ab_zero, hap, mo_iff.2 ⟨m0, m1⟩]; rfl
  have h1 : decide (-60 ≤ k ∧ k ≤ 60) = true := decide_eq_true ⟨hk0, hk1⟩
  have hgg := (pat_iff.1 hap).1
  have NA := Lib.hid (fun w => arNoK e f a true hap (by simp; omega) w)
  have IA := Lib.hid (fun w => arIsK e f a false hap (by simp; omega) w)
  have ZA := Lib.hid (fun w => arZeroK e f a false hap (by simp; omega) w)
  go_enter Tryz.func14, Tryz.ntmps14
  go_wp2_with (first | (go_at_call 43; refine (arAsked_any e f a 0 mode _).mono ?_; rintro rv w1 ⟨rfl, hb⟩; have ns : w.heap.size < w1.heap.size := hb.ltK; have n0 : w1.cell? ⟨w.heap.size, 0, none⟩ = some (.int .i64 e) := hb.cellK; have n1 : w1.cell? ⟨w.heap.size, 1, none⟩ = some (.int .i64 f) := hb.cellK; (first | (have nx := Ext.trans hx hb; clear hx) | (have nx := Ext.trans (hx.alloc _) hb; clear hx) | (have nx := Ext.trans hx.drew hb; clear hx) | have nx := hb); clear hb; try clear hs; try clear g0; try clear g1; have hx := nx; clear nx; have hs := ns; clear ns; have g0 := n0; clear n0; have g1 := n1; clear n1) | (go_at_call 44; refine (l1In_any _ _ _ _).mono ?_; rintro rv w1 ⟨rfl, rfl⟩) | (go_at_call 45; (with_reducible refine (NA.out _).mono ?_); rintro rv w1 ⟨rfl, hb⟩; have ns : w.heap.size < w1.heap.size := hb.ltK; have n0 : w1.cell? ⟨w.heap.size, 0, none⟩ = some (.int .i64 e) := hb.cellK; have n1 : w1.cell? ⟨w.heap.size, 1, none⟩ = some (.int .i64 f) := hb.cellK; (first | (have nx := Ext.trans hx hb; clear hx) | (have nx := Ext.trans (hx.alloc _) hb; clear hx) | (have nx := Ext.trans hx.drew hb; clear hx) | have nx := hb); clear hb; try clear hs; try clear g0; try clear g1; have hx := nx; clear nx; have hs := ns; clear ns; have g0 := n0; clear n0; have g1 := n1; clear n1) | (go_at_call 47; (with_reducible refine (IA.out _).mono ?_); rintro rv w1 ⟨rfl, hb⟩; have ns : w.heap.size < w1.heap.size := hb.ltK; have n0 : w1.cell? ⟨w.heap.size, 0, none⟩ = some (.int .i64 e) := hb.cellK; have n1 : w1.cell? ⟨w.heap.size, 1, none⟩ = some (.int .i64 f) := hb.cellK; (first | (have nx := Ext.trans hx hb; clear hx) | (have nx := Ext.trans (hx.alloc _) hb; clear hx) | (have nx := Ext.trans hx.drew hb; clear hx) | have nx := hb); clear hb; try clear hs; try clear g0; try clear g1; have hx := nx; clear nx; have hs := ns; clear ns; have g0 := n0; clear n0; have g1 := n1; clear n1) | (go_at_call 48; (with_reducible refine (ZA.out _).mono ?_); rintro rv w1 ⟨rfl, hb⟩; have ns : w.heap.size < w1.heap.size := hb.ltK; have n0 : w1.cell? ⟨w.heap.size, 0, none⟩ = some (.int .i64 e) := hb.cellK; have n1 : w1.cell? ⟨w.heap.size, 1, none⟩ = some (.int .i64 f) := hb.cellK; (first | (have nx := Ext.trans hx hb; clear hx) | (have nx := Ext.trans (hx.alloc _) hb; clear hx) | (have nx := Ext.trans hx.drew hb; clear hx) | have nx := hb); clear hb; try clear hs; try clear g0; try clear g1; have hx := nx; clear nx; have hs := ns; clear ns; have g0 := n0; clear n0; have g1 := n1; clear n1) | (go_at_call 46; refine (arQuiet_any e f hgg _).mono ?_; rintro rv w1 ⟨rfl, hb⟩; have ns : w.heap.size < w1.heap.size := hb.ltK; have n0 : w1.cell? ⟨w.heap.size, 0, none⟩ = some (.int .i64 e) := hb.cellK; have n1 : w1.cell? ⟨w.heap.size, 1, none⟩ = some (.int .i64 f) := hb.cellK; (first | (have nx := Ext.trans hx hb; clear hx) | (have nx := Ext.trans (hx.alloc _) hb; clear hx) | (have nx := Ext.trans hx.drew hb; clear hx) | have nx := hb); clear hb; try clear hs; try clear g0; try clear g1; have hx := nx; clear nx; have hs := ns; clear ns; have g0 := n0; clear n0; have g1 := n1; clear n1))
  go_ret2
  exact ⟨_, rfl, Or.inl ⟨ha, rfl⟩, Ext.auK⟩

theorem sScaleOf_i (e f a k mode : Int) (hg : scB e f a k mode = true) (ha : kindV e f a = 3) (w : World) : Calls Tryz.prog 14 #[fmt e f, .int .i64 a, .int .i64 k, .int .i64 mode] w (ARboth (ScD e f a k mode) w) := by
  obtain ⟨hap, ⟨m0, m1⟩, hk0, hk1⟩ := sc_iff.1 hg
  have h0 : abB e f a 0 mode = true := by rw [ab_zero, hap, mo_iff.2 ⟨m0, m1⟩]; rfl
  have h1 : decide (-60 ≤ k ∧ k ≤ 60) = true := decide_eq_true ⟨hk0, hk1⟩
  have hgg := (pat_iff.1 hap).1
  have NA := Lib.hid (fun w => arNoK e f a false hap (by simp; omega) w)
  have IA := Lib.hid (fun w => arIsK e f a true hap (by simp; omega) w)
  have ZA := Lib.hid (fun w => arZeroK e f a false hap (by simp; omega) w)
  go_enter Tryz.func14, Tryz.ntmps14
  go_wp2_with (first | (go_at_call 43; refine (arAsked_any e f a 0 mode _).mono ?_; rintro rv w1 ⟨rfl, hb⟩; have ns : w.heap.size < w1.heap.size := hb.ltK; have n0 : w1.cell? ⟨w.heap.size, 0, none⟩ = some (.int .i64 e) := hb.cellK; have n1 : w1.cell? ⟨w.heap.size, 1, none⟩ = some (.int .i64 f) := hb.cellK; (first | (have nx := Ext.trans hx hb; clear hx) | (have nx := Ext.trans (hx.alloc _) hb; clear hx) | (have nx := Ext.trans hx.drew hb; clear hx) | have nx := hb); clear hb; try clear hs; try clear g0; try clear g1; have hx := nx; clear nx; have hs := ns; clear ns; have g0 := n0; clear n0; have g1 := n1; clear n1) | (go_at_call 44; refine (l1In_any _ _ _ _).mono ?_; rintro rv w1 ⟨rfl, rfl⟩) | (go_at_call 45; (with_reducible refine (NA.out _).mono ?_); rintro rv w1 ⟨rfl, hb⟩; have ns : w.heap.size < w1.heap.size := hb.ltK; have n0 : w1.cell? ⟨w.heap.size, 0, none⟩ = some (.int .i64 e) := hb.cellK; have n1 : w1.cell? ⟨w.heap.size, 1, none⟩ = some (.int .i64 f) := hb.cellK; (first | (have nx := Ext.trans hx hb; clear hx) | (have nx := Ext.trans (hx.alloc _) hb; clear hx) | (have nx := Ext.trans hx.drew hb; clear hx) | have nx := hb); clear hb; try clear hs; try clear g0; try clear g1; have hx := nx; clear nx; have hs := ns; clear ns; have g0 := n0; clear n0; have g1 := n1; clear n1) | (go_at_call 47; (with_reducible refine (IA.out _).mono ?_); rintro rv w1 ⟨rfl, hb⟩; have ns : w.heap.size < w1.heap.size := hb.ltK; have n0 : w1.cell? ⟨w.heap.size, 0, none⟩ = some (.int .i64 e) := hb.cellK; have n1 : w1.cell? ⟨w.heap.size, 1, none⟩ = some (.int .i64 f) := hb.cellK; (first | (have nx := Ext.trans hx hb; clear hx) | (have nx := Ext.trans (hx.alloc _) hb; clear hx) | (have nx := Ext.trans hx.drew hb; clear hx) | have nx := hb); clear hb; try clear hs; try clear g0; try clear g1; have hx := nx; clear nx; have hs := ns; clear ns; have g0 := n0; clear n0; have g1 := n1; clear n1) | (go_at_call 48; (with_reducible refine (ZA.out _).mono ?_); rintro rv w1 ⟨rfl, hb⟩; have ns : w.heap.size < w1.heap.size := hb.ltK; have n0 : w1.cell? ⟨w.heap.size, 0, none⟩ = some (.int .i64 e) := hb.cellK; have n1 : w1.cell? ⟨w.heap.size, 1, none⟩ = some (.int .i64 f) := hb.cellK; (first | (have nx := Ext.trans hx hb; clear hx) | (have nx := Ext.trans (hx.alloc _) hb; clear hx) | (have nx := Ext.trans hx.drew hb; clear hx) | have nx := hb); clear hb; try clear hs; try clear g0; try clear g1; have hx := nx; clear nx; have hs := ns; clear ns; have g0 := n0; clear n0; have g1 := n1; clear n1))
  go_ret2
  exact ⟨_, rfl, Or.inr (Or.inl ⟨Or.inl ha, rfl⟩), Ext.auK⟩

theorem sScaleOf_z (e f a k mode : Int) (hg : scB e f a k mode = true) (ha : kindV e f a = 0) (w : World) : Calls Tryz.prog 14 #[fmt e f, .int .i64 a, .int .i64 k, .int .i64 mode] w (ARboth (ScD e f a k mode) w) := by
  obtain ⟨hap, ⟨m0, m1⟩, hk0, hk1⟩ := sc_iff.1 hg
  have h0 : abB e f a 0 mode = true := by rw [ab_zero, hap, mo_iff.2 ⟨m0, m1⟩]; rfl
  have h1 : decide (-60 ≤ k ∧ k ≤ 60) = true := decide_eq_true ⟨hk0, hk1⟩
  have hgg := (pat_iff.1 hap).1
  have NA := Lib.hid (fun w => arNoK e f a false hap (by simp; omega) w)
  have IA := Lib.hid (fun w => arIsK e f a false hap (by simp; omega) w)
  have ZA := Lib.hid (fun w => arZeroK e f a true hap (by simp; omega) w)
  go_enter Tryz.func14, Tryz.ntmps14
  go_wp2_with (first | (go_at_call 43; refine (arAsked_any e f a 0 mode _).mono ?_; rintro rv w1 ⟨rfl, hb⟩; have ns : w.heap.size < w1.heap.size := hb.ltK; have n0 : w1.cell? ⟨w.heap.size, 0, none⟩ = some (.int .i64 e) := hb.cellK; have n1 : w1.cell? ⟨w.heap.size, 1, none⟩ = some (.int .i64 f) := hb.cellK; (first | (have nx := Ext.trans hx hb; clear hx) | (have nx := Ext.trans (hx.alloc _) hb; clear hx) | (have nx := Ext.trans hx.drew hb; clear hx) | have nx := hb); clear hb; try clear hs; try clear g0; try clear g1; have hx := nx; clear nx; have hs := ns; clear ns; have g0 := n0; clear n0; have g1 := n1; clear n1) | (go_at_call 44; refine (l1In_any _ _ _ _).mono ?_; rintro rv w1 ⟨rfl, rfl⟩) | (go_at_call 45; (with_reducible refine (NA.out _).mono ?_); rintro rv w1 ⟨rfl, hb⟩; have ns : w.heap.size < w1.heap.size := hb.ltK; have n0 : w1.cell? ⟨w.heap.size, 0, none⟩ = some (.int .i64 e) := hb.cellK; have n1 : w1.cell? ⟨w.heap.size, 1, none⟩ = some (.int .i64 f) := hb.cellK; (first | (have nx := Ext.trans hx hb; clear hx) | (have nx := Ext.trans (hx.alloc _) hb; clear hx) | (have nx := Ext.trans hx.drew hb; clear hx) | have nx := hb); clear hb; try clear hs; try clear g0; try clear g1; have hx := nx; clear nx; have hs := ns; clear ns; have g0 := n0; clear n0; have g1 := n1; clear n1) | (go_at_call 47; (with_reducible refine (IA.out _).mono ?_); rintro rv w1 ⟨rfl, hb⟩; have ns : w.heap.size < w1.heap.size := hb.ltK; have n0 : w1.cell? ⟨w.heap.size, 0, none⟩ = some (.int .i64 e) := hb.cellK; have n1 : w1.cell? ⟨w.heap.size, 1, none⟩ = some (.int .i64 f) := hb.cellK; (first | (have nx := Ext.trans hx hb; clear hx) | (have nx := Ext.trans (hx.alloc _) hb; clear hx) | (have nx := Ext.trans hx.drew hb; clear hx) | have nx := hb); clear hb; try clear hs; try clear g0; try clear g1; have hx := nx; clear nx; have hs := ns; clear ns; have g0 := n0; clear n0; have g1 := n1; clear n1) | (go_at_call 48; (with_reducible refine (ZA.out _).mono ?_); rintro rv w1 ⟨rfl, hb⟩; have ns : w.heap.size < w1.heap.size := hb.ltK; have n0 : w1.cell? ⟨w.heap.size, 0, none⟩ = some (.int .i64 e) := hb.cellK; have n1 : w1.cell? ⟨w.heap.size, 1, none⟩ = some (.int .i64 f) := hb.cellK; (first | (have nx := Ext.trans hx hb; clear hx) | (have nx := Ext.trans (hx.alloc _) hb; clear hx) | (have nx := Ext.trans hx.drew hb; clear hx) | have nx := hb); clear hb; try clear hs; try clear g0; try clear g1; have hx := nx; clear nx; have hs := ns; clear ns; have g0 := n0; clear n0; have g1 := n1; clear n1))
  go_ret2
  exact ⟨_, rfl, Or.inr (Or.inl ⟨Or.inr ha, rfl⟩), Ext.auK⟩

theorem sc_neg {e f a : Int} (hap : patB e f a = true) (na : (unitsV e f a) ≠ 0) : decide (odV (unitsV e f a) < 0) = ((a / pw (e + f)) == 1) := by
  have ub := units_bd e f a hap
  have os := od_sign (S := (unitsV e f a)) (by omega) (by omega)
  rw [← (sg_units (P := 0) (s := 0) hap na).2, decide_eq_decide]
  exact os.1

theorem sc_sg {e f a s : Int} (hap : patB e f a = true) (na : (unitsV e f a) ≠ 0) : sgP e f (odV (unitsV e f a)) s = s + (a / pw (e + f)) * pw (e + f) := by
  have ub := units_bd e f a hap
  have os := od_sign (S := (unitsV e f a)) (by omega) (by omega)
  rw [← (sg_units (P := pw (e + f)) (s := s) hap na).1]
  unfold sgP
  by_cases h : (unitsV e f a) < 0
  · rw [if_pos h, if_pos (os.1.2 h)]
  · rw [if_neg h, if_neg (fun g => h (os.1.1 g))]

set_option maxHeartbeats 3200000 in
theorem sScaleOf_f (e f a k mode : Int) (hg : scB e f a k mode = true) (ha : kindV e f a = 1 ∨ kindV e f a = 2) (w : World) : Calls Tryz.prog 14 #[fmt e f, .int .i64 a, .int .i64 k, .int .i64 mode] w (ARboth (ScD e f a k mode) w) := by
  obtain ⟨hap, ⟨m0, m1⟩, hk0, hk1⟩ := sc_iff.1 hg
  have h0 : abB e f a 0 mode = true := by rw [ab_zero, hap, mo_iff.2 ⟨m0, m1⟩]; rfl
  have h1 : decide (-60 ≤ k ∧ k ≤ 60) = true := decide_eq_true ⟨hk0, hk1⟩
  have hgg := (pat_iff.1 hap).1
  have NA := Lib.hid (fun w => arNoK e f a false hap (by simp; omega) w)
  have IA := Lib.hid (fun w => arIsK e f a false hap (by simp; omega) w)
  have ZA := Lib.hid (fun w => arZeroK e f a false hap (by simp; omega) w)
  have fa : finB e f a = true := by rcases kind_parts hap with ⟨k, _⟩ | ⟨k, _⟩ | ⟨_, q, _⟩ | ⟨_, q, _⟩ <;> first | exact q | omega
  have na : unitsV e f a ≠ 0 := (kind_units hap).2.1 ha
  have u1 := un_bd hgg
  obtain ⟨ua1, ua2, ua3, ua4, _⟩ := un_small hap
  have ua5 := ua4 na
  have ub := units_bd e f a hap
  obtain ⟨t0, t1, t2, t3⟩ := tz_spec (unitsV e f a) na (by omega) (by omega)
  have kx : IntKind.i64.wrap ((shE (unitsV e f a) (unV e f)) + k) = (shE (unitsV e f a) (unV e f)) + k := IntWalk.i64_in _ (by omega)
  have os := od_sign (S := (unitsV e f a)) (by omega) (by omega)
  clear ua4
  clear os t0 t1 t2
  go_enter Tryz.func14, Tryz.ntmps14
  go_wp2_with (first | (go_at_call 43; refine (arAsked_any e f a 0 mode _).mono ?_; rintro rv w1 ⟨rfl, hb⟩; have ns : w.heap.size < w1.heap.size := hb.ltK; have n0 : w1.cell? ⟨w.heap.size, 0, none⟩ = some (.int .i64 e) := hb.cellK; have n1 : w1.cell? ⟨w.heap.size, 1, none⟩ = some (.int .i64 f) := hb.cellK; (first | (have nx := Ext.trans hx hb; clear hx) | (have nx := Ext.trans (hx.alloc _) hb; clear hx) | (have nx := Ext.trans hx.drew hb; clear hx) | have nx := hb); clear hb; try clear hs; try clear g0; try clear g1; have hx := nx; clear nx; have hs := ns; clear ns; have g0 := n0; clear n0; have g1 := n1; clear n1) | (go_at_call 44; refine (l1In_any _ _ _ _).mono ?_; rintro rv w1 ⟨rfl, rfl⟩) | (go_at_call 45; (with_reducible refine (NA.out _).mono ?_); rintro rv w1 ⟨rfl, hb⟩; have ns : w.heap.size < w1.heap.size := hb.ltK; have n0 : w1.cell? ⟨w.heap.size, 0, none⟩ = some (.int .i64 e) := hb.cellK; have n1 : w1.cell? ⟨w.heap.size, 1, none⟩ = some (.int .i64 f) := hb.cellK; (first | (have nx := Ext.trans hx hb; clear hx) | (have nx := Ext.trans (hx.alloc _) hb; clear hx) | (have nx := Ext.trans hx.drew hb; clear hx) | have nx := hb); clear hb; try clear hs; try clear g0; try clear g1; have hx := nx; clear nx; have hs := ns; clear ns; have g0 := n0; clear n0; have g1 := n1; clear n1) | (go_at_call 47; (with_reducible refine (IA.out _).mono ?_); rintro rv w1 ⟨rfl, hb⟩; have ns : w.heap.size < w1.heap.size := hb.ltK; have n0 : w1.cell? ⟨w.heap.size, 0, none⟩ = some (.int .i64 e) := hb.cellK; have n1 : w1.cell? ⟨w.heap.size, 1, none⟩ = some (.int .i64 f) := hb.cellK; (first | (have nx := Ext.trans hx hb; clear hx) | (have nx := Ext.trans (hx.alloc _) hb; clear hx) | (have nx := Ext.trans hx.drew hb; clear hx) | have nx := hb); clear hb; try clear hs; try clear g0; try clear g1; have hx := nx; clear nx; have hs := ns; clear ns; have g0 := n0; clear n0; have g1 := n1; clear n1) | (go_at_call 48; (with_reducible refine (ZA.out _).mono ?_); rintro rv w1 ⟨rfl, hb⟩; have ns : w.heap.size < w1.heap.size := hb.ltK; have n0 : w1.cell? ⟨w.heap.size, 0, none⟩ = some (.int .i64 e) := hb.cellK; have n1 : w1.cell? ⟨w.heap.size, 1, none⟩ = some (.int .i64 f) := hb.cellK; (first | (have nx := Ext.trans hx hb; clear hx) | (have nx := Ext.trans (hx.alloc _) hb; clear hx) | (have nx := Ext.trans hx.drew hb; clear hx) | have nx := hb); clear hb; try clear hs; try clear g0; try clear g1; have hx := nx; clear nx; have hs := ns; clear ns; have g0 := n0; clear n0; have g1 := n1; clear n1) | (go_at_call 49; refine (rdValue_any e f a fa _).mono ?_; rintro rv wv ⟨rfl, hb⟩; have hv : w.heap.size < wv.heap.size := hb.ltK; have ns : w.heap.size < wv.heap.size := hb.ltK; have n0 : wv.cell? ⟨w.heap.size, 0, none⟩ = some (.int .i64 e) := hb.cellK; have n1 : wv.cell? ⟨w.heap.size, 1, none⟩ = some (.int .i64 f) := hb.cellK; (first | (have nx := Ext.trans hx hb; clear hx) | (have nx := Ext.trans (hx.alloc _) hb; clear hx) | (have nx := Ext.trans hx.drew hb; clear hx) | have nx := hb); clear hb; try clear hs; try clear g0; try clear g1; have hx := nx; clear nx; have hs := ns; clear ns; have g0 := n0; clear n0; have g1 := n1; clear n1) | (go_at_call 50; refine (arRound_odd e f (odV (unitsV e f a)) ((shE (unitsV e f a) (unV e f)) + k) mode hgg t3 (by omega) (by omega) (by omega) (by omega) m0 m1 _).mono ?_; rintro rv w3 ⟨s, rfl, hq, hb⟩; have HQ := Lib.hid hq; clear hq; have ns : wv.heap.size < w3.heap.size := hb.ltK; have n0 : w3.cell? ⟨w.heap.size, 0, none⟩ = some (.int .i64 e) := hb.cellK; have n1 : w3.cell? ⟨w.heap.size, 1, none⟩ = some (.int .i64 f) := hb.cellK; have n2 : w3.cell? ⟨wv.heap.size, 0, none⟩ = some (.int .i64 (odV (unitsV e f a))) := hb.cellK; have n3 : w3.cell? ⟨wv.heap.size, 1, none⟩ = some (.int .i64 (shE (unitsV e f a) (unV e f))) := hb.cellK; (first | (have nx := Ext.trans hx hb; clear hx) | (have nx := Ext.trans (hx.alloc _) hb; clear hx) | (have nx := Ext.trans hx.drew hb; clear hx) | have nx := hb); clear hb; try clear hs; try clear g0; try clear g1; try clear g2; try clear g3; have hx := nx; clear nx; have hs := ns; clear ns; have g0 := n0; clear n0; have g1 := n1; clear n1; have g2 := n2; clear n2; have g3 := n3; clear n3))
  try (go_region_held3 (fun w' => w'.cell? ⟨w.heap.size, 0, none⟩ = some (.int .i64 e) ∧ w'.cell? ⟨w.heap.size, 1, none⟩ = some (.int .i64 f) ∧ w'.cell? ⟨wv.heap.size, 0, none⟩ = some (.int .i64 (odV (unitsV e f a))) ∧ w'.cell? ⟨wv.heap.size, 1, none⟩ = some (.int .i64 (shE (unitsV e f a) (unV e f))) ∧ wv.heap.size < w'.heap.size) ((refine ⟨?_, ?_, ?_, ?_, ?_⟩ <;> first | with_reducible assumption | ((repeat first | rw [cell_set_far _ _ _ _ _ _ (by omega)] | rw [cell_alloc_before _ _ _ _ (by omega)] | rw [cell_alloc_drew _ _ _ _ (by omega)] | rw [cell_drew]); with_reducible assumption) | ((rw [cell_setRow_far _ _ _ _ _ (by omega)]); with_reducible assumption) | ((rw [setRow_size]); with_reducible assumption) | (simp; done) | (simp [World.setCell]; first | done | omega) | (simp [go_sem, World.cell?_alloc_past, World.cell?_setCell_far, *]; done))) ((first | (go_at_call 50; refine (arRound_odd e f (odV (unitsV e f a)) ((shE (unitsV e f a) (unV e f)) + k) mode hgg t3 (by omega) (by omega) (by omega) (by omega) m0 m1 _).mono ?_; rintro rv w3 ⟨s, rfl, hq, hb⟩; have HQ := Lib.hid hq; clear hq; have ns : wv.heap.size < w3.heap.size := hb.ltK; have n0 : w3.cell? ⟨w.heap.size, 0, none⟩ = some (.int .i64 e) := hb.cellK; have n1 : w3.cell? ⟨w.heap.size, 1, none⟩ = some (.int .i64 f) := hb.cellK; have n2 : w3.cell? ⟨wv.heap.size, 0, none⟩ = some (.int .i64 (odV (unitsV e f a))) := hb.cellK; have n3 : w3.cell? ⟨wv.heap.size, 1, none⟩ = some (.int .i64 (shE (unitsV e f a) (unV e f))) := hb.cellK; (first | (have nx := Ext.trans hx hb; clear hx) | (have nx := Ext.trans (hx.alloc _) hb; clear hx) | (have nx := Ext.trans hx.drew hb; clear hx) | have nx := hb); clear hb; try clear hs; try clear g0; try clear g1; try clear g2; try clear g3; have hx := nx; clear nx; have hs := ns; clear ns; have g0 := n0; clear n0; have g1 := n1; clear n1; have g2 := n2; clear n2; have g3 := n3; clear n3))))
  try go_wp2_with (go_at_call 50; refine (arRound_odd e f (odV (unitsV e f a)) ((shE (unitsV e f a) (unV e f)) + k) mode hgg t3 (by omega) (by omega) (by omega) (by omega) m0 m1 _).mono ?_; rintro rv w3 ⟨s, rfl, hq, hb⟩; have HQ := Lib.hid hq; clear hq; have ns : wv.heap.size < w3.heap.size := hb.ltK; have n0 : w3.cell? ⟨w.heap.size, 0, none⟩ = some (.int .i64 e) := hb.cellK; have n1 : w3.cell? ⟨w.heap.size, 1, none⟩ = some (.int .i64 f) := hb.cellK; have n2 : w3.cell? ⟨wv.heap.size, 0, none⟩ = some (.int .i64 (odV (unitsV e f a))) := hb.cellK; have n3 : w3.cell? ⟨wv.heap.size, 1, none⟩ = some (.int .i64 (shE (unitsV e f a) (unV e f))) := hb.cellK; (first | (have nx := Ext.trans hx hb; clear hx) | (have nx := Ext.trans (hx.alloc _) hb; clear hx) | (have nx := Ext.trans hx.drew hb; clear hx) | have nx := hb); clear hb; try clear hs; try clear g0; try clear g1; try clear g2; try clear g3; have hx := nx; clear nx; have hs := ns; clear ns; have g0 := n0; clear n0; have g1 := n1; clear n1; have g2 := n2; clear n2; have g3 := n3; clear n3)
  go_ret2
  exact ⟨_, rfl, Or.inr (Or.inr ⟨ha, s, by rw [sc_sg hap na], by rw [← sc_neg hap na]; exact HQ.out⟩), Ext.auK⟩

theorem sScaleOf_yes (e f a k mode : Int) (hg : scB e f a k mode = true) (w : World) : Calls Tryz.prog 14 #[fmt e f, .int .i64 a, .int .i64 k, .int .i64 mode] w (ARboth (ScD e f a k mode) w) := by
  rcases kind_parts (sc_iff.1 hg).1 with ⟨h, _⟩ | ⟨h, _⟩ | ⟨h, _⟩ | ⟨h, _⟩
  · exact sScaleOf_x e f a k mode hg h w
  · exact sScaleOf_i e f a k mode hg h w
  · exact sScaleOf_z e f a k mode hg h w
  · exact sScaleOf_f e f a k mode hg h w

theorem iScaleOf_no (e f a k mode : Int) (hg : scB e f a k mode = false) (w : World) (hT : TW w) : Calls Tryz.prog 16 #[fmt e f, .int .i64 a, .int .i64 k, .int .i64 mode] w fun rv w' => rv = .returned (.tuple #[.int .i64 0, .bool false]) ∧ Ext w w' := by
  have hmf : ∀ (fn : Fn) (first cap : Array Value) (w : World), (Instr.makeFunc fn first cap).run Tryz.prog w = .ok (.func fn first cap) w := fun _ _ _ _ => rfl
  have h2 : decide (-60 ≤ k ∧ k ≤ 60) = false ∨ (decide (-60 ≤ k ∧ k ≤ 60) = true ∧ moB mode = false) ∨ (decide (-60 ≤ k ∧ k ≤ 60) = true ∧ moB mode = true ∧ patB e f a = false) := by
    unfold scB at hg
    cases h0 : patB e f a <;> cases h1 : moB mode <;> cases h2 : decide (-60 ≤ k ∧ k ≤ 60) <;> rw [h0, h1, h2] at hg <;> simp at hg ⊢
  rcases h2 with h0 | ⟨h1, h0⟩ | ⟨h1, h0, h2⟩
  · go_enter Tryz.func16, Tryz.ntmps16
    go_wp2_with (go_at_call 51; refine (isSizeAtMost_any _ _ (by omega) (by omega) _).mono ?_; rintro rv w1 ⟨rfl, rfl⟩)
    go_ret2
    exact ⟨rfl, Ext.auK⟩
  · go_enter Tryz.func16, Tryz.ntmps16
    go_wp2_with (first | (go_at_call 51; refine (isSizeAtMost_any _ _ (by omega) (by omega) _).mono ?_; rintro rv w1 ⟨rfl, rfl⟩) | (go_at_call 52; (with_reducible refine (ofFinite_bad0 e f a mode _ h0 _ (hT.ext Ext.auK)).mono ?_); rintro rv w1 ⟨rfl, hb⟩; have hx : Ext w w1 := Ext.trans Ext.auK hb; clear hb))
    go_ret2
    exact ⟨rfl, hx⟩
  · go_enter Tryz.func16, Tryz.ntmps16
    go_wp2_with (first | (go_at_call 51; refine (isSizeAtMost_any _ _ (by omega) (by omega) _).mono ?_; rintro rv w1 ⟨rfl, rfl⟩) | (go_at_call 52; (with_reducible refine (ofFinite_bad1 e f a mode _ h0 h2 _ (hT.ext Ext.auK)).mono ?_); rintro rv w1 ⟨rfl, hb⟩; have hx : Ext w w1 := Ext.trans Ext.auK hb; clear hb))
    go_ret2
    exact ⟨rfl, hx⟩

theorem iScaleOf_no2 (e f a k mode : Int) (hg : scB e f a k mode = true) (ka : kindV e f a = 4) (fa : finB e f a = false) (na : numB e f a = false) (w : World) (hT : TW w) : Calls Tryz.prog 16 #[fmt e f, .int .i64 a, .int .i64 k, .int .i64 mode] w (ARboth (ScD e f a k mode) w) := by
  obtain ⟨hap, ⟨m0, m1⟩, hk0, hk1⟩ := sc_iff.1 hg
  have h1 : decide (-60 ≤ k ∧ k ≤ 60) = true := decide_eq_true ⟨hk0, hk1⟩
  have hgg := (pat_iff.1 hap).1
  have sga := sign_01 hap
  have hmf : ∀ (fn : Fn) (first cap : Array Value) (w : World), (Instr.makeFunc fn first cap).run Tryz.prog w = .ok (.func fn first cap) w := fun _ _ _ _ => rfl
  go_enter Tryz.func16, Tryz.ntmps16
  go_wp2_with (first | (go_at_call 51; refine (isSizeAtMost_any _ _ (by omega) (by omega) _).mono ?_; rintro rv w1 ⟨rfl, rfl⟩) | (go_at_call 52; (with_reducible refine (ofFinite_no e f a mode _ hap m0 m1 fa na _ (hT.ext Ext.auK)).mono ?_); rintro rv w1 ⟨rfl, hb⟩; have hx : Ext w w1 := Ext.trans Ext.auK hb; clear hb))
  go_ret2
  exact ⟨_, rfl, Or.inl ⟨ka, rfl⟩, hx⟩

theorem iScaleOf_inf (e f a k mode : Int) (hg : scB e f a k mode = true) (ka : kindV e f a = 3) (fa : finB e f a = false) (na : numB e f a = true) (w : World) (hT : TW w) : Calls Tryz.prog 16 #[fmt e f, .int .i64 a, .int .i64 k, .int .i64 mode] w (ARboth (ScD e f a k mode) w) := by
  obtain ⟨hap, ⟨m0, m1⟩, hk0, hk1⟩ := sc_iff.1 hg
  have h1 : decide (-60 ≤ k ∧ k ≤ 60) = true := decide_eq_true ⟨hk0, hk1⟩
  have hgg := (pat_iff.1 hap).1
  have sga := sign_01 hap
  have hmf : ∀ (fn : Fn) (first cap : Array Value) (w : World), (Instr.makeFunc fn first cap).run Tryz.prog w = .ok (.func fn first cap) w := fun _ _ _ _ => rfl
  go_enter Tryz.func16, Tryz.ntmps16
  go_wp2_with (first | (go_at_call 51; refine (isSizeAtMost_any _ _ (by omega) (by omega) _).mono ?_; rintro rv w1 ⟨rfl, rfl⟩) | (go_at_call 52; (with_reducible refine (ofFinite_inf e f a mode _ hap m0 m1 fa na _ (hT.ext Ext.auK)).mono ?_); rintro rv w1 ⟨rfl, hb⟩; have hx : Ext w w1 := Ext.trans Ext.auK hb; clear hb))
  go_ret2
  exact ⟨_, rfl, Or.inr (Or.inl ⟨Or.inl ka, inf_form hap ka⟩), hx⟩

theorem iScaleOf_fin (e f a k mode : Int) (hg : scB e f a k mode = true) (ka : kindV e f a < 3) (fa : finB e f a = true) (w : World) (hT : TW w) : Calls Tryz.prog 16 #[fmt e f, .int .i64 a, .int .i64 k, .int .i64 mode] w (ARboth (ScD e f a k mode) w) := by
  obtain ⟨hap, ⟨m0, m1⟩, hk0, hk1⟩ := sc_iff.1 hg
  have h1 : decide (-60 ≤ k ∧ k ≤ 60) = true := decide_eq_true ⟨hk0, hk1⟩
  have hgg := (pat_iff.1 hap).1
  have sga := sign_01 hap
  have hmf : ∀ (fn : Fn) (first cap : Array Value) (w : World), (Instr.makeFunc fn first cap).run Tryz.prog w = .ok (.func fn first cap) w := fun _ _ _ _ => rfl
  obtain ⟨ua1, ua2, ua3, ua4, ua5⟩ := un_small hap
  have u1 := un_bd hgg
  have xb : unV e f ≤ (shE (unitsV e f a) (unV e f)) ∧ (shE (unitsV e f a) (unV e f)) ≤ unV e f + 42 := by
    by_cases h : (unitsV e f a) = 0
    · have := ua5 h; omega
    · have := ua4 h; omega
  have kx : IntKind.i64.wrap ((shE (unitsV e f a) (unV e f)) + k) = (shE (unitsV e f a) (unV e f)) + k := IntWalk.i64_in _ (by omega)
  have OC := Lib.hid (fun (gK : Nat) (w : World) (hT : TW w) q0 lK => ofScale_fin e f a k mode (a / pw (e + f)) ((odV (unitsV e f a)).natAbs : Int) ((shE (unitsV e f a) (unV e f)) + k) gK hap m0 m1 fa sga (by omega) (by omega) (by omega) (by omega) (fun w l c => cl_scale _ _ _ k gK kx w l c) w hT q0 lK)
  clear kx xb ua1 ua2 ua3 ua4 ua5 u1
  go_enter Tryz.func16, Tryz.ntmps16
  go_wp2_with (first | (go_at_call 51; refine (isSizeAtMost_any _ _ (by omega) (by omega) _).mono ?_; rintro rv w1 ⟨rfl, rfl⟩) | (go_at_call 52; (with_reducible refine (OC.out _ _ (hT.ext Ext.auK) (by first | with_reducible assumption | (simp; done) | (simp [go_sem]; done) | (simp [go_sem, *]; done)) (by simp; try omega)).mono ?_); rintro rv w1 ⟨s, rfl, hq, hb⟩; have hx : Ext w w1 := Ext.trans Ext.auK hb; clear hb))
  go_ret2
  have k3 := (kind_units hap).2.2
  by_cases hz : kindV e f a = 0
  · refine ⟨_, rfl, Or.inr (Or.inl ⟨Or.inr hz, ?_⟩), hx⟩
    rw [(kind_units hap).1 hz, od_zero] at hq
    rw [pls_zero hgg hq, Int.zero_add]
    exact zero_form hap hz
  · exact ⟨_, rfl, Or.inr (Or.inr ⟨by omega, s, rfl, hq⟩), hx⟩

theorem iScaleOf_yes (e f a k mode : Int) (hg : scB e f a k mode = true) (w : World) (hT : TW w) : Calls Tryz.prog 16 #[fmt e f, .int .i64 a, .int .i64 k, .int .i64 mode] w (ARboth (ScD e f a k mode) w) := by
  rcases kind_parts (sc_iff.1 hg).1 with ⟨h, f1, n1⟩ | ⟨h, f1, n1⟩ | ⟨h, f1, _⟩ | ⟨h, f1, _⟩
  · exact iScaleOf_no2 e f a k mode hg h f1 n1 w hT
  · exact iScaleOf_inf e f a k mode hg h f1 n1 w hT
  · exact iScaleOf_fin e f a k mode hg (by omega) f1 w hT
  · exact iScaleOf_fin e f a k mode hg (by omega) f1 w hT
end Go.Proofs.YtfgbndjhaiigbacGreatDoor

