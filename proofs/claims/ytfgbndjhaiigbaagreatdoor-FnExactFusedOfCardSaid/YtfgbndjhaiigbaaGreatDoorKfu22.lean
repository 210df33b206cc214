/-
  Contracts of the functions that the laws reach, and the plain facts that they rest on, each under the conditions that its line names; part 22.
-/
import Derived.Test.YtfgbndjhaiigbaaGreatDoorKfu1
import Derived.Test.YtfgbndjhaiigbaaGreatDoorKfu2
import Derived.Test.YtfgbndjhaiigbaaGreatDoorKfu3
import Derived.Test.YtfgbndjhaiigbaaGreatDoorKfu4
import Derived.Test.YtfgbndjhaiigbaaGreatDoorKfu5
import Derived.Test.YtfgbndjhaiigbaaGreatDoorKfu6
import Derived.Test.YtfgbndjhaiigbaaGreatDoorKfu7
import Derived.Test.YtfgbndjhaiigbaaGreatDoorKfu8
import Derived.Test.YtfgbndjhaiigbaaGreatDoorKfu9
import Derived.Test.YtfgbndjhaiigbaaGreatDoorKfu10
import Derived.Test.YtfgbndjhaiigbaaGreatDoorKfu11
import Derived.Test.YtfgbndjhaiigbaaGreatDoorKfu12
import Derived.Test.YtfgbndjhaiigbaaGreatDoorKfu13
import Derived.Test.YtfgbndjhaiigbaaGreatDoorKfu14
import Derived.Test.YtfgbndjhaiigbaaGreatDoorKfu15
import Derived.Test.YtfgbndjhaiigbaaGreatDoorKfu16
import Derived.Test.YtfgbndjhaiigbaaGreatDoorKfu17
import Derived.Test.YtfgbndjhaiigbaaGreatDoorKfu18
import Derived.Test.YtfgbndjhaiigbaaGreatDoorKfu19
import Derived.Test.YtfgbndjhaiigbaaGreatDoorKfu20
import Derived.Test.YtfgbndjhaiigbaaGreatDoorKfu21
import Derived.Test.YtfgbndjhaiigbaaGreatDoorRows
import Derived.WalkKit
import Derived.LoopTactic
import Derived.Laws.Bits64b
import Derived.WalkSpells
import Derived.WalkLawsBesides
import Derived.StillTactics
import Derived.Laws.Pointers
import Derived.Deep.RegionHeld3
import Derived.Deep.QuietTactic
import Derived.BigQuiet
import Derived.Outline
import Derived.Lib.Hide
import Derived.RowKit3
import Derived.Carry
import Derived.IntWalk
namespace Go.Proofs.YtfgbndjhaiigbaaGreatDoor
open Go Go.RowKit
set_option linter.unusedSimpArgs false
set_option linter.unusedVariables false

theorem rounded_any (p mode : Int) (R S : Nat) (neg : Bool) (p0 : 0 ≤ p) (p1 : p ≤ 1152921504606846976) (okR : Ok Ieee.single R) (ltR : R < 2 ^ 192) (okS : Ok Ieee.single S) (m0 : 0 ≤ mode) (m1 : mode ≤ 5) (w : World) :
    Calls Tryz.prog 160 #[.agg #[.int .i64 p, .float .f32 (fw Ieee.single R), .float .f32 (fw Ieee.single S)], .int .i64 mode, .bool neg] w fun rv w' => rv = .returned (.int .i64 (rndP (R : Int) (S : Int) p mode neg)) ∧ Ext w w' := by
  have oz : FloatKind.f32.format.order (fw Ieee.single R) 0 = some (if R = 0 then .eq else .gt) := order_zero okR
  by_cases hR : R = 0
  · rw [if_pos hR] at oz
    have e : rndP (R : Int) (S : Int) p mode neg = p := by unfold rndP; rw [if_pos (by omega)]
    rw [e]
    exact rounded_zero p _ _ mode neg p0 p1 oz w
  · rw [if_neg hR] at oz
    have hm := mul_two okR
    have ok2 := ok_two okR ltR
    have hc0 := fun w => compare_fw (2 * R) S ok2 okS w
    have e0 : rndP (R : Int) (S : Int) p mode neg = if upR (R : Int) (S : Int) p mode neg = true then p + 1 else p := by unfold rndP; rw [if_neg (show ¬ (R : Int) = 0 by omega)]
    rw [e0]
    have par : p % 2 = 0 ∨ p % 2 = 1 := by omega
    have hmode : mode = 0 ∨ mode = 1 ∨ mode = 2 ∨ mode = 3 ∨ mode = 4 ∨ mode = 5 := by omega
    rcases hmode with rfl | rfl | rfl | rfl | rfl | rfl
    · have u : upR (R : Int) (S : Int) p 0 neg = decide ((S : Int) < 2 * (R : Int) ∨ (2 * (R : Int) = S ∧ p % 2 = 1)) := rfl
      rw [u]
      rcases Nat.lt_trichotomy (2 * R) S with g | g | g
      · rw [decide_eq_false (by omega)]
        rw [sg_neg (show ((2 * R : Nat) : Int) - S < 0 by omega)] at hc0
        exact rounded_evenL p _ _ neg p0 p1 oz _ hm hc0 w
      · rw [sg_zero (show ((2 * R : Nat) : Int) - S = 0 by omega)] at hc0
        rcases par with h | h
        · rw [decide_eq_false (by omega)]
          exact rounded_evenE p _ _ neg p0 p1 oz _ hm hc0 h w
        · rw [decide_eq_true (by omega)]
          exact rounded_evenO p _ _ neg p0 p1 oz _ hm hc0 h w
      · rw [decide_eq_true (by omega)]
        rw [sg_pos (show 0 < ((2 * R : Nat) : Int) - S by omega)] at hc0
        exact rounded_evenG p _ _ neg p0 p1 oz _ hm hc0 w
    · have u : upR (R : Int) (S : Int) p 1 neg = decide ((S : Int) ≤ 2 * (R : Int)) := rfl
      rw [u]
      rcases Nat.lt_trichotomy (2 * R) S with g | g | g
      · rw [decide_eq_false (by omega)]
        rw [sg_neg (show ((2 * R : Nat) : Int) - S < 0 by omega)] at hc0
        exact rounded_awayL p _ _ neg p0 p1 oz _ hm hc0 w
      · rw [sg_zero (show ((2 * R : Nat) : Int) - S = 0 by omega)] at hc0
        rw [decide_eq_true (by omega)]
        exact rounded_awayM p _ _ neg p0 p1 oz _ hm hc0 w
      · rw [decide_eq_true (by omega)]
        rw [sg_pos (show 0 < ((2 * R : Nat) : Int) - S by omega)] at hc0
        exact rounded_awayG p _ _ neg p0 p1 oz _ hm hc0 w
    · exact rounded_cut p _ _ neg p0 p1 oz w
    · cases neg
      · exact rounded_upP p _ _ p0 p1 oz w
      · exact rounded_upN p _ _ p0 p1 oz w
    · cases neg
      · exact rounded_downP p _ _ p0 p1 oz w
      · exact rounded_downN p _ _ p0 p1 oz w
    · have u : upR (R : Int) (S : Int) p 5 neg = decide (p % 2 = 0) := rfl
      rw [u]
      rcases par with h | h
      · rw [decide_eq_true h]
        exact rounded_oddE p _ _ neg p0 p1 oz h w
      · rw [decide_eq_false (by omega)]
        exact rounded_oddO p _ _ neg p0 p1 oz h w

/-- Out of what a float holds: the rounding of the number. -/
theorem rnd_back {e f n k mode r : Int} {neg : Bool} (hg : goodB e f = true) (h0 : 0 ≤ n) (h1 : n < 4611686018427387904) (hk : -149 ≤ k)
    (h : IsRnd f (grV e f) (flV n k : Int) (pw 149) mode neg r) : RndD e f n k mode neg r := by
  have hf := (good_iff.1 hg).2.2.1
  have hX : 0 ≤ n * pw (k + 149) := Int.mul_nonneg h0 (by have := pw_pos (k + 149); omega)
  obtain ⟨p, hp⟩ := belowq_ex f (n * pw (k + 149)) (pw 149) hf hX (grV e f).toNat
  rw [Int.toNat_of_nonneg (by have := (gr_bd2 hg).1; omega)] at hp
  have h2 : RndD e f n k mode neg (rndP (n * pw (k + 149) - mgV f p * pw 149) (stV f p * pw 149) p mode neg) := ⟨p, hp, rfl⟩
  have h3 := rnd_cap hg h0 (by omega) hk h2
  have e1 : ((flV n k : Nat) : Int) = min (kpV n * pw (k + 149)) (pw 190) := by
    obtain ⟨c, b, ek, _⟩ := kp_parts h0 h1
    have k0 : 0 ≤ kpV n * pw (k + 149) := by
      rw [ek]
      exact Int.mul_nonneg (Int.mul_nonneg (by omega) (by have := pw_pos (b : Int); omega)) (by have := pw_pos (k + 149); omega)
    have k1 := pw_pos 190
    unfold flV
    omega
  rw [e1] at h
  rw [rnd_one hf (by have := pw_pos 149; omega) h h3]
  exact h2

/-- A size is rounded, and gets a sign. -/
def RSout (e f m n k mode : Int) (w : World) (rv : Ending) (w' : World) : Prop := ∃ s : Int, rv = .returned (.int .i64 (s + m * pw (e + f))) ∧ RndD e f n k mode (m == 1) s ∧ Ext w w'

theorem rnd_bd2 {e f X D mode s : Int} {neg : Bool} (hg : goodB e f = true) (h : IsRnd f (grV e f) X D mode neg s) : 0 ≤ s ∧ s ≤ 32768 := by
  obtain ⟨p, ⟨p0, p1, _, _⟩, rfl⟩ := h
  obtain ⟨_, _, g2⟩ := gr_bd2 hg
  unfold rndP
  split
  · omega
  · split <;> omega

/-- The spot of what a float holds, rounded. -/
def SPout (e f n k mode : Int) (neg : Bool) (w : World) (rv : Ending) (w' : World) : Prop := ∃ s : Int, rv = .returned (.int .i64 s) ∧ RndD e f n k mode neg s ∧ (0 ≤ s ∧ s ≤ 32768) ∧ Ext w w'

theorem rounded_spot (e f n k mode p : Int) (neg : Bool) (hg : goodB e f = true) (n0 : 0 ≤ n) (n1 : n < 4611686018427387904) (hk : -149 ≤ k) (m0 : 0 ≤ mode) (m1 : mode ≤ 5)
    (hp : BelowQ f (grV e f) (flV n k : Int) (pw 149) p) (w : World) :
    Calls Tryz.prog 160 #[.agg #[.int .i64 p, .float .f32 (fw Ieee.single (flV n k - mgN f p)), .float .f32 (fw Ieee.single (stN f p))], .int .i64 mode, .bool neg] w (SPout e f n k mode neg w) := by
  obtain ⟨okY, leY⟩ := fl_ok n0 n1 hk
  have p0 := hp.1
  have p1 := hp.2.1
  have hl := hp.2.2.1
  have hY : flV n k < 2 ^ 191 := by
    have h190 : (pw 190).toNat = 2 ^ 190 := by decide
    have : (2 : Nat) ^ 191 = 2 * 2 ^ 190 := by decide
    rw [h190] at leY
    omega
  have c := mgN_cast f p (mg_bd hg p0 p1).1
  have hl2 : mgN f p ≤ flV n k := by omega
  obtain ⟨R, okR, ltR, eR, hR⟩ := rest_ok hg okY hY p0 p1 hl2
  obtain ⟨okS, _⟩ := stN_ok hg p0 p1
  obtain ⟨_, _, g2⟩ := gr_bd2 hg
  rw [eR]
  refine (rounded_any p mode R (stN f p) neg p0 (by omega) okR ltR okS m0 m1 w).mono ?_
  rintro rv w' ⟨rfl, hb⟩
  have hi : IsRnd f (grV e f) (flV n k : Int) (pw 149) mode neg (rndP (R : Int) (stN f p : Int) p mode neg) := ⟨p, hp, rnd_rest hg p0 p1 hl2 hR⟩
  exact ⟨_, rfl, rnd_back hg n0 n1 hk hi, rnd_bd2 hg hi, hb⟩

theorem roundSize_any (e f m n d mode : Int) (hg : goodB e f = true) (hm : m = 0 ∨ m = 1) (v0 : 0 ≤ n) (v1 : n < 4611686018427387904) (k0 : -149 ≤ (d - unV e f)) (k1 : (d - unV e f) ≤ 149) (m0 : 0 ≤ mode) (m1 : mode ≤ 5) (w : World) :
    Calls Tryz.prog 159 #[fmt e f, .int .i64 m, .int .i64 n, .int .i64 d, .int .i64 mode] w (RSout e f m n (d - unV e f) mode w) := by
  have OKY := Lib.hid (fl_ok v0 v1 k0).1
  obtain ⟨h1, h2, h3, h4⟩ := good_iff.1 hg
  obtain ⟨⟨a1, a2⟩, ⟨b1, b2⟩, ⟨c1, c2⟩, hmul⟩ := pw_facts h1 h2 h3 h4
  have pe : 1 ≤ pw (e + f) := pw_pos _
  have pe2 : pw (e + f) ≤ 32768 := pw_le 15 32768 rfl (by omega)
  clear hmul a1 a2 b1 b2 c1 c2
  rcases hm with rfl | rfl
  · go_enter Tryz.func159, Tryz.ntmps159
    go_wp2_with fail
    go_region_held3 (fun w' => w'.cell? ⟨w.heap.size, 0, none⟩ = some (.int .i64 e) ∧ w'.cell? ⟨w.heap.size, 1, none⟩ = some (.int .i64 f) ∧ w.heap.size < w'.heap.size) ((refine ⟨?_, ?_, ?_⟩ <;> first | with_reducible assumption | ((rw [cell_setRow_far _ _ _ _ _ (by omega)]); with_reducible assumption) | ((rw [setRow_size]); with_reducible assumption) | ((repeat rw [World.cell?_setCell_far _ _ _ _ (by simp)]); with_reducible assumption) | (simp; done) | (simp [World.setCell]; first | done | omega) | (simp [go_sem, World.cell?_alloc_past, World.cell?_setCell_far, *]; done))) ((first | (go_at_call 171; refine (floatUnits_any e f n d hg v0 v1 k0 k1 _).mono ?_; rintro rv w1 ⟨rfl, hb⟩; have ns : w.heap.size < w1.heap.size := hb.ltK; have n0 : w1.cell? ⟨w.heap.size, 0, none⟩ = some (.int .i64 e) := hb.cellK; have n1 : w1.cell? ⟨w.heap.size, 1, none⟩ = some (.int .i64 f) := hb.cellK; (first | (have nx := Ext.trans hx hb; clear hx) | (have nx := Ext.trans (hx.alloc _) hb; clear hx) | (have nx := Ext.trans hx.drew hb; clear hx) | have nx := hb); clear hb; try clear hs; try clear g0; try clear g1; have hx := nx; clear nx; have hs := ns; clear ns; have g0 := n0; clear n0; have g1 := n1; clear n1) | (go_at_call 170; refine (spotOf_any e f _ hg OKY.out _).mono ?_; rintro rv w1 ⟨p, rfl, hp, hb⟩; have HP := Lib.hid hp; clear hp; have ns : w.heap.size < w1.heap.size := hb.ltK; have n0 : w1.cell? ⟨w.heap.size, 0, none⟩ = some (.int .i64 e) := hb.cellK; have n1 : w1.cell? ⟨w.heap.size, 1, none⟩ = some (.int .i64 f) := hb.cellK; (first | (have nx := Ext.trans hx hb; clear hx) | (have nx := Ext.trans (hx.alloc _) hb; clear hx) | (have nx := Ext.trans hx.drew hb; clear hx) | have nx := hb); clear hb; try clear hs; try clear g0; try clear g1; have hx := nx; clear nx; have hs := ns; clear ns; have g0 := n0; clear n0; have g1 := n1; clear n1) | (go_at_call 160; refine (rounded_spot e f n (d - unV e f) mode p false hg v0 v1 k0 m0 m1 HP.out _).mono ?_; rintro rv w1 ⟨s, rfl, hq, ⟨s0, s1⟩, hb⟩; have HQ := Lib.hid hq; clear hq; have ns : w.heap.size < w1.heap.size := hb.ltK; have n0 : w1.cell? ⟨w.heap.size, 0, none⟩ = some (.int .i64 e) := hb.cellK; have n1 : w1.cell? ⟨w.heap.size, 1, none⟩ = some (.int .i64 f) := hb.cellK; (first | (have nx := Ext.trans hx hb; clear hx) | (have nx := Ext.trans (hx.alloc _) hb; clear hx) | (have nx := Ext.trans hx.drew hb; clear hx) | have nx := hb); clear hb; try clear hs; try clear g0; try clear g1; have hx := nx; clear nx; have hs := ns; clear ns; have g0 := n0; clear n0; have g1 := n1; clear n1)))
    go_wp2_with (go_at_call 107; refine (signBit_any e f hg _).mono ?_; rintro rv w1 ⟨rfl, hb⟩; have ns : w.heap.size < w1.heap.size := hb.ltK; have n0 : w1.cell? ⟨w.heap.size, 0, none⟩ = some (.int .i64 e) := hb.cellK; have n1 : w1.cell? ⟨w.heap.size, 1, none⟩ = some (.int .i64 f) := hb.cellK; (first | (have nx := Ext.trans hx hb; clear hx) | (have nx := Ext.trans (hx.alloc _) hb; clear hx) | (have nx := Ext.trans hx.drew hb; clear hx) | have nx := hb); clear hb; try clear hs; try clear g0; try clear g1; have hx := nx; clear nx; have hs := ns; clear ns; have g0 := n0; clear n0; have g1 := n1; clear n1)
    go_ret
    exact ⟨s, ret_int (by first | rfl | (simp; done) | omega), HQ.out, Ext.auK⟩
  · go_enter Tryz.func159, Tryz.ntmps159
    go_wp2_with fail
    go_region_held3 (fun w' => w'.cell? ⟨w.heap.size, 0, none⟩ = some (.int .i64 e) ∧ w'.cell? ⟨w.heap.size, 1, none⟩ = some (.int .i64 f) ∧ w.heap.size < w'.heap.size) ((refine ⟨?_, ?_, ?_⟩ <;> first | with_reducible assumption | ((rw [cell_setRow_far _ _ _ _ _ (by omega)]); with_reducible assumption) | ((rw [setRow_size]); with_reducible assumption) | ((repeat rw [World.cell?_setCell_far _ _ _ _ (by simp)]); with_reducible assumption) | (simp; done) | (simp [World.setCell]; first | done | omega) | (simp [go_sem, World.cell?_alloc_past, World.cell?_setCell_far, *]; done))) ((first | (go_at_call 171; refine (floatUnits_any e f n d hg v0 v1 k0 k1 _).mono ?_; rintro rv w1 ⟨rfl, hb⟩; have ns : w.heap.size < w1.heap.size := hb.ltK; have n0 : w1.cell? ⟨w.heap.size, 0, none⟩ = some (.int .i64 e) := hb.cellK; have n1 : w1.cell? ⟨w.heap.size, 1, none⟩ = some (.int .i64 f) := hb.cellK; (first | (have nx := Ext.trans hx hb; clear hx) | (have nx := Ext.trans (hx.alloc _) hb; clear hx) | (have nx := Ext.trans hx.drew hb; clear hx) | have nx := hb); clear hb; try clear hs; try clear g0; try clear g1; have hx := nx; clear nx; have hs := ns; clear ns; have g0 := n0; clear n0; have g1 := n1; clear n1) | (go_at_call 170; refine (spotOf_any e f _ hg OKY.out _).mono ?_; rintro rv w1 ⟨p, rfl, hp, hb⟩; have HP := Lib.hid hp; clear hp; have ns : w.heap.size < w1.heap.size := hb.ltK; have n0 : w1.cell? ⟨w.heap.size, 0, none⟩ = some (.int .i64 e) := hb.cellK; have n1 : w1.cell? ⟨w.heap.size, 1, none⟩ = some (.int .i64 f) := hb.cellK; (first | (have nx := Ext.trans hx hb; clear hx) | (have nx := Ext.trans (hx.alloc _) hb; clear hx) | (have nx := Ext.trans hx.drew hb; clear hx) | have nx := hb); clear hb; try clear hs; try clear g0; try clear g1; have hx := nx; clear nx; have hs := ns; clear ns; have g0 := n0; clear n0; have g1 := n1; clear n1) | (go_at_call 160; refine (rounded_spot e f n (d - unV e f) mode p true hg v0 v1 k0 m0 m1 HP.out _).mono ?_; rintro rv w1 ⟨s, rfl, hq, ⟨s0, s1⟩, hb⟩; have HQ := Lib.hid hq; clear hq; have ns : w.heap.size < w1.heap.size := hb.ltK; have n0 : w1.cell? ⟨w.heap.size, 0, none⟩ = some (.int .i64 e) := hb.cellK; have n1 : w1.cell? ⟨w.heap.size, 1, none⟩ = some (.int .i64 f) := hb.cellK; (first | (have nx := Ext.trans hx hb; clear hx) | (have nx := Ext.trans (hx.alloc _) hb; clear hx) | (have nx := Ext.trans hx.drew hb; clear hx) | have nx := hb); clear hb; try clear hs; try clear g0; try clear g1; have hx := nx; clear nx; have hs := ns; clear ns; have g0 := n0; clear n0; have g1 := n1; clear n1)))
    go_wp2_with (go_at_call 107; refine (signBit_any e f hg _).mono ?_; rintro rv w1 ⟨rfl, hb⟩; have ns : w.heap.size < w1.heap.size := hb.ltK; have n0 : w1.cell? ⟨w.heap.size, 0, none⟩ = some (.int .i64 e) := hb.cellK; have n1 : w1.cell? ⟨w.heap.size, 1, none⟩ = some (.int .i64 f) := hb.cellK; (first | (have nx := Ext.trans hx hb; clear hx) | (have nx := Ext.trans (hx.alloc _) hb; clear hx) | (have nx := Ext.trans hx.drew hb; clear hx) | have nx := hb); clear hb; try clear hs; try clear g0; try clear g1; have hx := nx; clear nx; have hs := ns; clear ns; have g0 := n0; clear n0; have g1 := n1; clear n1)
    go_ret
    exact ⟨s, ret_int (by first | rfl | (simp; done) | omega), HQ.out, Ext.auK⟩
end Go.Proofs.YtfgbndjhaiigbaaGreatDoor

namespace Go.Proofs.YtfgbndjhaiigbaaGreatDoor
open Go Go.RowKit
set_option linter.unusedSimpArgs false
set_option linter.unusedVariables false

theorem isMode_any (m : Int) (w : World) : Calls Tryz.prog 119 #[.int .i64 m] w fun rv w' => rv = .returned (.bool (moB m)) ∧ w = w' := by
  by_cases h1 : 0 ≤ m <;> by_cases h2 : m ≤ 5
  all_goals
    have hk : moB m = decide (0 ≤ m ∧ m ≤ 5) := rfl
    have Hk := Lib.hid hk; clear hk
    go_enter Tryz.func119, Tryz.ntmps119
    go_wp2
    go_ret
    exact ⟨ret_bool (by rw [Hk.out]; first | (simp [h1, h2]; done) | (simp; omega)), rfl⟩
end Go.Proofs.YtfgbndjhaiigbaaGreatDoor

namespace Go.Proofs.YtfgbndjhaiigbaaGreatDoor
open Go Go.RowKit
set_option linter.unusedSimpArgs false
set_option linter.unusedVariables false

/-- A number brought into lowest terms is rounded as it is. -/
theorem rdRound_short (e f n d mode : Int) (hg : goodB e f = true) (n0 : -1152921504606846976 < n) (n1 : n < 1152921504606846976) (k0 : -60 ≤ (d - unV e f)) (k1 : (d - unV e f) ≤ 88) (hm0 : 0 ≤ mode) (hm1 : mode ≤ 5) (w : World) :
    Calls Tryz.prog 129 #[fmt e f, two (odV n) (shE n d), .int .i64 mode] w (RRout e f n (d - unV e f) mode w) := by
  refine (rdRound_any e f (odV n) (shE n d) mode hg (rd_short hg n0 n1 k0 k1) hm0 hm1 w).mono ?_
  rintro rv w' ⟨s, rfl, hq, hb⟩
  obtain ⟨s1, s2⟩ := od_sign (S := n) (by omega) (by omega)
  have hq2 := rnd_short n0 n1 k0 hq
  rw [show decide (odV n < 0) = decide (n < 0) by rw [decide_eq_decide]; exact s1] at hq2
  refine ⟨s, ?_, hq2, hb⟩
  unfold sgP
  by_cases ha : n < 0
  · rw [if_pos ha, if_pos (s1.2 ha)]
  · rw [if_neg ha, if_neg (fun h => ha (s1.1 h))]
end Go.Proofs.YtfgbndjhaiigbaaGreatDoor

namespace Go.Proofs.YtfgbndjhaiigbaaGreatDoor
open Go Go.RowKit
set_option linter.unusedSimpArgs false
set_option linter.unusedVariables false

/-- Twice a quotient, and the odd number behind it if something is left. -/
def oqV (n d : Int) : Int := 2 * n.tdiv d + sgV (n.tmod d)

theorem tdiv_bd {n d b : Int} (_ : 0 < d) (h1 : -b ≤ n) (h2 : n ≤ b) : -b ≤ n.tdiv d ∧ n.tdiv d ≤ b := by
  have h := Int.natAbs_tdiv_le_natAbs n d
  omega

theorem oq_bd {n d b : Int} (hd : 0 < d) (h1 : -b ≤ n) (h2 : n ≤ b) : -(2 * b + 1) ≤ oqV n d ∧ oqV n d ≤ 2 * b + 1 := by
  have h := tdiv_bd hd h1 h2
  have s := sg_bd (n.tmod d)
  unfold oqV
  omega

theorem oq_pos {n d : Int} (hd : 0 < d) (h : 0 ≤ n) : oqV n d = 2 * (n / d) + (if n % d = 0 then 0 else 1) := by
  unfold oqV
  rw [Int.tdiv_eq_ediv_of_nonneg h, Int.tmod_eq_emod_of_nonneg h]
  have r0 := Int.emod_nonneg n (show d ≠ 0 by omega)
  by_cases hz : n % d = 0
  · rw [if_pos hz, sg_zero hz]
  · rw [if_neg hz, sg_pos (by omega)]

theorem oq_neg {n d : Int} : oqV (-n) d = -oqV n d := by
  unfold oqV
  rw [Int.neg_tdiv, Int.neg_tmod]
  have s : sgV (-(n.tmod d)) = -sgV (n.tmod d) := by
    rcases Int.lt_trichotomy (n.tmod d) 0 with g | g | g
    · rw [sg_neg g, sg_pos (by omega)]; rfl
    · rw [sg_zero g, sg_zero (by omega)]; rfl
    · rw [sg_pos g, sg_neg (by omega)]
  rw [s]
  omega

theorem oq_zero (d : Int) : oqV 0 d = 0 := by unfold oqV; simp [sgV]

theorem quiet_same {P : Program} {f : FuncId} {args : Array Value} {w : World} {n : Nat} {v : Value}
    (h : Calls P f args (w.drewN n) fun e w' => e = .returned v ∧ w.drewN n = w') : Calls P f args (w.drewN n) fun e w'' => e = .returned v ∧ ∃ m, w'' = w.drewN m :=
  h.mono fun _ _ ⟨he, hm⟩ => ⟨he, n, hm.symm⟩

theorem oddQuotient_any (n d : Int) (hd : 0 < d) (h1 : -2305843009213693952 ≤ n) (h2 : n ≤ 2305843009213693952) (w : World) : Calls Tryz.prog 153 #[.int .i64 n, .int .i64 d] w fun rv w' => rv = .returned (.int .i64 (oqV n d)) ∧ Ext w w' := by
  have b := tdiv_bd hd h1 h2
  have s := sg_bd (n.tmod d)
  have dz : ¬ d = 0 := by omega
  have dz2 : (d == 0) = false := by simpa using dz
  have dm : ¬ d = -1 := by omega
  have k1 : IntKind.i64.wrap (n.tdiv d) = n.tdiv d := IntWalk.i64_in _ (by omega)
  have k2 : IntKind.i64.wrap (2 * n.tdiv d) = 2 * n.tdiv d := IntWalk.i64_in _ (by omega)
  have k3 : IntKind.i64.wrap (2 * n.tdiv d + sgV (n.tmod d)) = 2 * n.tdiv d + sgV (n.tmod d) := IntWalk.i64_in _ (by omega)
  have k4 : n.tmod d - 0 = n.tmod d := by omega
  have hk : oqV n d = 2 * n.tdiv d + sgV (n.tmod d) := rfl
  have Hk := Lib.hid hk; clear hk
  go_enter Tryz.func153, Tryz.ntmps153
  go_wp2_with fail
  go_quiet ((first | (go_at_call 157; exact quiet_same (compare_sg _ _ _))))
  go_wp2_with fail
  go_ret
  exact ⟨ret_int (by rw [Hk.out]; try rw [k4]), Ext.auK⟩

theorem quarterPower_any (e f : Int) (hg : goodB e f = true) (w : World) : Calls Tryz.prog 150 #[fmt e f] w fun rv w' => rv = .returned (.int .i64 (unV e f - 2)) ∧ Ext w w' := by
  obtain ⟨u1, u2, u3, u4⟩ := un_bd hg
  have k1 : IntKind.i64.wrap (unV e f - 2) = unV e f - 2 := IntWalk.i64_in _ (by omega)
  go_enter Tryz.func150, Tryz.ntmps150
  go_wp2_with (go_at_call 165; refine (unitPower_any e f hg _).mono ?_; rintro rv w1 ⟨rfl, hb⟩; have ns : w.heap.size < w1.heap.size := hb.ltK; have n0 : w1.cell? ⟨w.heap.size, 0, none⟩ = some (.int .i64 e) := hb.cellK; have n1 : w1.cell? ⟨w.heap.size, 1, none⟩ = some (.int .i64 f) := hb.cellK; (first | (have nx := Ext.trans hx hb; clear hx) | (have nx := Ext.trans (hx.alloc _) hb; clear hx) | (have nx := Ext.trans hx.drew hb; clear hx) | have nx := hb); clear hb; try clear hs; try clear g0; try clear g1; have hx := nx; clear nx; have hs := ns; clear ns; have g0 := n0; clear n0; have g1 := n1; clear n1)
  go_ret
  exact ⟨rfl, Ext.auK⟩
end Go.Proofs.YtfgbndjhaiigbaaGreatDoor

namespace Go.Proofs.YtfgbndjhaiigbaaGreatDoor
open Go Go.RowKit
set_option linter.unusedSimpArgs false
set_option linter.unusedVariables false

theorem fu_up {f g X D mode s m : Int} {neg : Bool} (hm : 0 < m) (h : IsRnd f g X D mode neg s) : IsRnd f g (X * m) (D * m) mode neg s := rnd_move (fun T _ => (sg_up hm).symm) h

theorem fu_down {f g X D mode s m : Int} {neg : Bool} (hm : 0 < m) (h : IsRnd f g (X * m) (D * m) mode neg s) : IsRnd f g X D mode neg s := rnd_move (fun T _ => sg_up hm) h

/-- What the model rounds, in deep units: 2^U of these are a unit. -/
theorem fu_rnd {e f n k U S mode s : Int} {neg : Bool} (u0 : U ≤ 0) (u1 : -24 ≤ U) (hk : U ≤ k) (hS : n * pw (k - U) = S) (h : RndD e f n k mode neg s) : IsRnd f (grV e f) S (pw (-U)) mode neg s := by
  have q := pw_pos (U + 149)
  refine fu_down (m := pw (U + 149)) (by omega) ?_
  rw [← pw_add _ _ (by omega) (by omega), show -U + (U + 149) = 149 by omega, ← hS, Int.mul_assoc, ← pw_add _ _ (by omega) (by omega), show k - U + (U + 149) = k + 149 by omega]
  exact h

/-- A number of quarters. -/
theorem fu_quart {e f q mode s : Int} {neg : Bool} (h : RndD e f q (-2) mode neg s) : IsRnd f (grV e f) q 4 mode neg s := by
  have q0 := pw_pos 147
  refine fu_down (m := pw 147) (by omega) ?_
  rw [show 4 * pw 147 = pw 149 by decide +kernel]
  exact h

theorem fu_exact {f g q S D mode s : Int} {neg : Bool} (hD : 0 < D) (hS : 4 * S = q * D) (h : IsRnd f g q 4 mode neg s) : IsRnd f g S D mode neg s := by
  have h2 := fu_up hD h
  refine fu_down (m := 4) (by omega) ?_
  rw [Int.mul_comm S, hS, Int.mul_comm D]
  exact h2

theorem fu_cutp {A o r p T : Int} (hA : A % 2 = 0) (ho : o = 1 ∨ o = -1) (hr0 : 0 < r) (hr : r < 2 * p) : sgV (2 * (A + o) - T * 4) = sgV (2 * (p * A + o * r) - T * (4 * p)) := by
  have e : 2 * (p * A + o * r) - T * (4 * p) = 2 * (p * (A - 2 * T)) + 2 * (o * r) := by
    rw [Int.mul_sub, Int.mul_add, show p * (2 * T) = 2 * (T * p) by rw [Int.mul_comm p, Int.mul_assoc], show T * (4 * p) = 4 * (T * p) by rw [← Int.mul_assoc, Int.mul_comm T 4, Int.mul_assoc]]
    omega
  rw [e]
  obtain ⟨B, hB⟩ : ∃ B, A - 2 * T = B := ⟨_, rfl⟩
  rw [hB, show 2 * (A + o) - T * 4 = 2 * B + 2 * o by omega]
  have hB2 : B % 2 = 0 := by omega
  have k1 : 2 ≤ B → 2 * p ≤ p * B := fun h => by
    have := Int.mul_le_mul_of_nonneg_left h (show 0 ≤ p by omega)
    omega
  have k2 : B ≤ -2 → p * B ≤ -(2 * p) := fun h => by
    have := Int.mul_le_mul_of_nonneg_left h (show 0 ≤ p by omega)
    rw [Int.mul_neg] at this
    omega
  rcases ho with rfl | rfl
  · rcases Int.lt_trichotomy B 0 with h | h | h
    · have := k2 (by omega); rw [sg_neg (by omega), sg_neg (by omega)]
    · rw [h, Int.mul_zero]; rw [sg_pos (by omega), sg_pos (by omega)]
    · have := k1 (by omega); rw [sg_pos (by omega), sg_pos (by omega)]
  · rcases Int.lt_trichotomy B 0 with h | h | h
    · have := k2 (by omega); rw [sg_neg (by omega), sg_neg (by omega)]
    · rw [h, Int.mul_zero]; rw [sg_neg (by omega), sg_neg (by omega)]
    · have := k1 (by omega); rw [sg_pos (by omega), sg_pos (by omega)]

theorem fu_sign {A o r p : Int} (hA : A % 2 = 0) (ho : o = 1 ∨ o = -1) (hr0 : 0 < r) (hr : r < 2 * p) : (A + o < 0 ↔ p * A + o * r < 0) ∧ p * A + o * r ≠ 0 ∧ A + o ≠ 0 := by
  have h := fu_cutp (T := 0) hA ho hr0 hr
  have z : A + o ≠ 0 := by omega
  rw [Int.zero_mul, Int.zero_mul, Int.sub_zero, Int.sub_zero] at h
  rcases Int.lt_trichotomy (A + o) 0 with g | g | g
  · rw [sg_neg (by omega)] at h
    have : p * A + o * r < 0 := by
      rcases Int.lt_trichotomy (p * A + o * r) 0 with k | k | k
      · exact k
      · rw [sg_zero (by omega)] at h; omega
      · rw [sg_pos (by omega)] at h; omega
    exact ⟨⟨fun _ => this, fun _ => g⟩, by omega, z⟩
  · exact absurd g z
  · rw [sg_pos (by omega)] at h
    have : 0 < p * A + o * r := by
      rcases Int.lt_trichotomy (p * A + o * r) 0 with k | k | k
      · rw [sg_neg (by omega)] at h; omega
      · rw [sg_zero (by omega)] at h; omega
      · exact k
    exact ⟨⟨fun _ => by omega, fun _ => by omega⟩, by omega, z⟩

/-- A sum whose product is cut at quarters, an odd number of these. -/
theorem fu_cut {f g A o r p mode s : Int} {neg : Bool} (hA : A % 2 = 0) (ho : o = 1 ∨ o = -1) (hr0 : 0 < r) (hr : r < 2 * p) (h : IsRnd f g ((A + o).natAbs : Int) 4 mode neg s) : IsRnd f g ((p * A + o * r).natAbs : Int) (4 * p) mode neg s := by
  obtain ⟨s1, s2, s3⟩ := fu_sign hA ho hr0 hr
  refine rnd_move (fun T _ => ?_) h
  by_cases g : A + o < 0
  · have g2 := s1.1 g
    have e := fu_cutp (A := -A) (o := -o) (T := T) (by omega) (by omega) hr0 hr
    have e1 : ((A + o).natAbs : Int) = -A + -o := by omega
    have e2 : ((p * A + o * r).natAbs : Int) = p * -A + -o * r := by rw [Int.mul_neg, Int.neg_mul]; omega
    rw [e1, e2]
    exact e
  · have g2 : ¬ p * A + o * r < 0 := fun k => g (s1.2 k)
    have e := fu_cutp (A := A) (o := o) (T := T) hA ho hr0 hr
    have e1 : ((A + o).natAbs : Int) = A + o := by omega
    have e2 : ((p * A + o * r).natAbs : Int) = p * A + o * r := by omega
    rw [e1, e2]
    exact e

/-- A multiple of a power and a threshold are the same, or far from each other. -/
theorem fu_far {n E M t : Int} (hE : 14 ≤ E) (n1 : 1 ≤ n) (ht : 0 ≤ t) (M0 : 0 ≤ M) (M1 : M < 4096) : n * pw E - M * pw t = 0 ∨ pw (E - 13) ≤ n * pw E - M * pw t ∨ n * pw E - M * pw t ≤ -pw (E - 13) := by
  have q := pw_pos (E - 13)
  by_cases h : E - 13 ≤ t
  · have e1 : n * pw E = n * pw 13 * pw (E - 13) := by
      rw [Int.mul_assoc, ← pw_add _ _ (by omega) (by omega)]
      congr 2
      omega
    have e2 : M * pw t = M * pw (t - (E - 13)) * pw (E - 13) := by
      rw [Int.mul_assoc, ← pw_add _ _ (by omega) (by omega)]
      congr 2
      omega
    rw [e1, e2, ← Int.sub_mul]
    generalize n * pw 13 - M * pw (t - (E - 13)) = k
    rcases Int.lt_trichotomy k 0 with g | g | g
    · right; right
      have := Int.mul_le_mul_of_nonneg_right (show k ≤ -1 by omega) (show 0 ≤ pw (E - 13) by omega)
      omega
    · left; rw [g, Int.zero_mul]
    · right; left
      have := Int.mul_le_mul_of_nonneg_right (show 1 ≤ k by omega) (show 0 ≤ pw (E - 13) by omega)
      omega
  · right; left
    have a1 : M * pw t ≤ 4096 * pw (E - 14) := Int.mul_le_mul (by omega) (pw_mono (by omega)) (by have := pw_pos t; omega) (by omega)
    have a2 : 4096 * pw (E - 14) = pw (E - 2) := by
      rw [show (4096 : Int) = pw 12 from rfl, ← pw_add _ _ (by omega) (by omega)]
      congr 1
      omega
    have a3 : pw E = 4 * pw (E - 2) := by
      rw [show (4 : Int) = pw 2 from rfl, ← pw_add _ _ (by omega) (by omega)]
      congr 1
      omega
    have a4 : pw (E - 13) ≤ pw (E - 2) := pw_mono (by omega)
    have a5 := Int.mul_le_mul_of_nonneg_right n1 (show 0 ≤ pw E by have := pw_pos E; omega)
    omega

/-- What is far below a number counts by its sign alone. -/
theorem fu_near {e f n E d d2 U mode s : Int} {neg : Bool} (hg : goodB e f = true) (u0 : U ≤ -1) (hE : 14 ≤ E) (n1 : 1 ≤ n) (hd : -pw (E - 13) < d ∧ d < pw (E - 13)) (hd2 : -pw (E - 13) < d2 ∧ d2 < pw (E - 13)) (hs : (0 < d ∧ 0 < d2) ∨ (d < 0 ∧ d2 < 0)) (h : IsRnd f (grV e f) (n * pw E + d) (pw (-U)) mode neg s) : IsRnd f (grV e f) (n * pw E + d2) (pw (-U)) mode neg s := by
  refine rnd_move (fun T hT => ?_) h
  obtain ⟨M, t, rfl, M0, M1, t0, t1⟩ := pt_few hg hT
  have e1 : M * pw t * pw (-U) = 2 * (M * pw (t + (-U - 1))) := by
    rw [Int.mul_assoc, ← pw_add _ _ (by omega) (by omega), ← Int.mul_assoc, Int.mul_comm 2 M, Int.mul_assoc]
    congr 1
    rw [← pw_succ (t + (-U - 1)) (by omega)]
    congr 1
    omega
  rw [e1]
  rcases fu_far (t := t + (-U - 1)) hE n1 (by omega) M0 M1 with k | k | k
  · rcases hs with ⟨g1, g2⟩ | ⟨g1, g2⟩
    · rw [sg_pos (by omega), sg_pos (by omega)]
    · rw [sg_neg (by omega), sg_neg (by omega)]
  · rw [sg_pos (by omega), sg_pos (by omega)]
  · rw [sg_neg (by omega), sg_neg (by omega)]

theorem ab_mul {n q : Int} (hq : 0 < q) : ((n * q).natAbs : Int) = (n.natAbs : Int) * q := by
  rw [Int.natAbs_mul, Int.natCast_mul, Int.natAbs_of_nonneg (show 0 ≤ q by omega)]

theorem lt_mul {n q : Int} (hq : 0 < q) : (n * q < 0 ↔ n < 0) ∧ (n * q = 0 ↔ n = 0) := by
  constructor
  · constructor
    · intro h
      rcases (show n < 0 ∨ 0 ≤ n by omega) with g | g
      · exact g
      · have := Int.mul_nonneg g (show 0 ≤ q by omega); omega
    · intro h; exact Int.mul_neg_of_neg_of_pos h hq
  · constructor
    · intro h; rcases Int.mul_eq_zero.1 h with g | g
      · exact g
      · omega
    · intro h; rw [h, Int.zero_mul]

/-- The model's sum where the powers are near each other. -/
theorem fu_sum_l {e f p1 q1 p2 q2 U mode s : Int} (u0 : U ≤ 0) (u1 : -24 ≤ U) (hq : q2 ≤ q1) (h2 : 2 * U ≤ q2) (h : RndD e f ((p1 * pw (q1 - q2) + p2).natAbs : Int) (q2 - U) mode (decide (p1 * pw (q1 - q2) + p2 < 0)) s) :
    IsRnd f (grV e f) ((p1 * pw (q1 - 2 * U) + p2 * pw (q2 - 2 * U)).natAbs : Int) (pw (-U)) mode (decide (p1 * pw (q1 - 2 * U) + p2 * pw (q2 - 2 * U) < 0)) s := by
  have q := pw_pos (q2 - 2 * U)
  have e1 : p1 * pw (q1 - 2 * U) + p2 * pw (q2 - 2 * U) = (p1 * pw (q1 - q2) + p2) * pw (q2 - 2 * U) := by
    rw [Int.add_mul, Int.mul_assoc p1, ← pw_add _ _ (by omega) (by omega)]
    congr 3
    omega
  rw [e1, ab_mul (by omega), show decide ((p1 * pw (q1 - q2) + p2) * pw (q2 - 2 * U) < 0) = decide (p1 * pw (q1 - q2) + p2 < 0) from decide_eq_decide.2 (lt_mul (by omega)).1]
  exact fu_rnd u0 u1 (by omega) (by congr 2; omega) h

theorem fu_zero_l {p1 q1 p2 q2 U : Int} (hq : q2 ≤ q1) (h2 : 2 * U ≤ q2) : (p1 * pw (q1 - 2 * U) + p2 * pw (q2 - 2 * U) = 0 ↔ p1 * pw (q1 - q2) + p2 = 0) ∧ (p1 * pw (q1 - 2 * U) + p2 * pw (q2 - 2 * U) < 0 ↔ p1 * pw (q1 - q2) + p2 < 0) := by
  have q := pw_pos (q2 - 2 * U)
  have e1 : p1 * pw (q1 - 2 * U) + p2 * pw (q2 - 2 * U) = (p1 * pw (q1 - q2) + p2) * pw (q2 - 2 * U) := by
    rw [Int.add_mul, Int.mul_assoc p1, ← pw_add _ _ (by omega) (by omega)]
    congr 3
    omega
  rw [e1]
  exact ⟨(lt_mul (by omega)).2, (lt_mul (by omega)).1⟩

/-- A number and what is far below it: their sum has the number's sign. -/
theorem fu_abs {n d P : Int} (hP : 0 < P) (hn : n ≠ 0) (h0 : -P < d) (h1 : d < P) : (n * P + d < 0 ↔ n < 0) ∧ ((n * P + d).natAbs : Int) = (n.natAbs : Int) * P + (if n < 0 then -d else d) := by
  rcases Int.lt_or_gt_of_ne hn with g | g
  · have := Int.mul_le_mul_of_nonneg_right (show n ≤ -1 by omega) (show 0 ≤ P by omega)
    have e : (n.natAbs : Int) * P = -(n * P) := by rw [show (n.natAbs : Int) = -n by omega, Int.neg_mul]
    rw [if_pos g, e]
    omega
  · have := Int.mul_le_mul_of_nonneg_right (show 1 ≤ n by omega) (show 0 ≤ P by omega)
    have e : (n.natAbs : Int) * P = n * P := by rw [show (n.natAbs : Int) = n by omega]
    rw [if_neg (by omega), e]
    omega

/-- The model's sum where one power is far above the other. -/
theorem fu_sum_g {e f p1 q1 p2 q2 U mode s : Int} (hg : goodB e f = true) (u0 : U ≤ -1) (u1 : -24 ≤ U) (hq : 35 < q1 - q2) (h2 : 2 * U ≤ q2) (n1 : p1 ≠ 0) (n2 : p2 ≠ 0) (b1 : -4194304 ≤ p2) (b2 : p2 ≤ 4194304) (h : RndD e f ((p1 * 1073741824 + sgV p2).natAbs : Int) (q1 - 30 - U) mode (decide (p1 * 1073741824 + sgV p2 < 0)) s) :
    IsRnd f (grV e f) ((p1 * pw (q1 - 2 * U) + p2 * pw (q2 - 2 * U)).natAbs : Int) (pw (-U)) mode (decide (p1 * pw (q1 - 2 * U) + p2 * pw (q2 - 2 * U) < 0)) s ∧ (p1 * pw (q1 - 2 * U) + p2 * pw (q2 - 2 * U) < 0 ↔ p1 < 0) ∧ p1 * pw (q1 - 2 * U) + p2 * pw (q2 - 2 * U) ≠ 0 ∧ (p1 * 1073741824 + sgV p2 < 0 ↔ p1 < 0) := by
  have qE := pw_pos (q1 - 2 * U)
  have q2p := pw_pos (q2 - 2 * U)
  have q13 := pw_pos (q1 - 2 * U - 13)
  have sb := sg_bd p2
  have m1 : 4194304 * pw (q2 - 2 * U) ≤ pw (q1 - 2 * U - 14) := by
    rw [show (4194304 : Int) = pw 22 from rfl, ← pw_add _ _ (by omega) (by omega)]
    exact pw_mono (by omega)
  have m2 : pw (q1 - 2 * U - 13) = 2 * pw (q1 - 2 * U - 14) := by
    rw [← pw_succ _ (by omega)]
    congr 1
    omega
  have m3 : pw (q1 - 2 * U - 13) ≤ pw (q1 - 2 * U) := pw_mono (by omega)
  have d1 : p2 * pw (q2 - 2 * U) ≤ 4194304 * pw (q2 - 2 * U) := Int.mul_le_mul_of_nonneg_right b2 (by omega)
  have d2 : -4194304 * pw (q2 - 2 * U) ≤ p2 * pw (q2 - 2 * U) := Int.mul_le_mul_of_nonneg_right b1 (by omega)
  obtain ⟨a1, a2⟩ := fu_abs (n := p1) (d := p2 * pw (q2 - 2 * U)) (P := pw (q1 - 2 * U)) (by omega) n1 (by omega) (by omega)
  obtain ⟨c1, c2⟩ := fu_abs (n := p1) (d := sgV p2) (P := 1073741824) (by omega) n1 (by omega) (by omega)
  have nz : p1 * pw (q1 - 2 * U) + p2 * pw (q2 - 2 * U) ≠ 0 := by
    have := Int.mul_le_mul_of_nonneg_right (show 1 ≤ (p1.natAbs : Int) by omega) (show 0 ≤ pw (q1 - 2 * U) by omega)
    intro z
    rw [z] at a2
    split at a2 <;> omega
  refine ⟨?_, a1, nz, c1⟩
  rw [a2, show decide (p1 * pw (q1 - 2 * U) + p2 * pw (q2 - 2 * U) < 0) = decide (p1 * 1073741824 + sgV p2 < 0) from decide_eq_decide.2 (a1.trans c1.symm)]
  have k := fu_rnd (S := (p1.natAbs : Int) * pw (q1 - 2 * U) + (if p1 < 0 then -(sgV p2) else sgV p2) * pw (q1 - 30 - 2 * U)) (by omega) u1 (by omega) (by
    rw [c2, Int.add_mul, Int.mul_assoc, show (1073741824 : Int) = pw 30 from rfl, ← pw_add _ _ (by omega) (by omega), show 30 + (q1 - 30 - U - U) = q1 - 2 * U by omega, show q1 - 30 - U - U = q1 - 30 - 2 * U by omega]) h
  have q30 := pw_pos (q1 - 30 - 2 * U)
  have m4 : pw (q1 - 30 - 2 * U) ≤ pw (q1 - 2 * U - 14) := pw_mono (by omega)
  refine fu_near hg u0 (by omega) (by omega) ?_ ?_ ?_ k
  · have s3 : sgV p2 = 1 ∨ sgV p2 = -1 := by
      rcases Int.lt_or_gt_of_ne n2 with g | g
      · right; exact sg_neg g
      · left; exact sg_pos g
    rcases s3 with z | z <;> rw [z] <;> split <;> omega
  · split <;> omega
  · rcases Int.lt_or_gt_of_ne n2 with g | g
    · have z := sg_neg g
      have := Int.mul_neg_of_neg_of_pos g (show 0 < pw (q2 - 2 * U) by omega)
      rw [z]
      by_cases y : p1 < 0
      · rw [if_pos y, if_pos y]; left; constructor <;> omega
      · rw [if_neg y, if_neg y]; right; constructor <;> omega
    · have z := sg_pos g
      have := Int.mul_pos g (show 0 < pw (q2 - 2 * U) by omega)
      rw [z]
      by_cases y : p1 < 0
      · rw [if_pos y, if_pos y]; right; constructor <;> omega
      · rw [if_neg y, if_neg y]; left; constructor <;> omega

theorem fu_abs_eq {S Q D : Int} (hD : 0 < D) (h : 4 * S = Q * D) : 4 * (S.natAbs : Int) = (Q.natAbs : Int) * D ∧ (S < 0 ↔ Q < 0) ∧ (S = 0 ↔ Q = 0) := by
  have e := ab_mul (n := Q) hD
  have l := lt_mul (n := Q) hD
  rw [← h] at e l
  refine ⟨by omega, ?_, ?_⟩
  · rw [← l.1]; omega
  · rw [← l.2]; omega

theorem fu_code_x {e f S Q U mode s : Int} (h4 : 4 * S = Q * pw (-U)) (h : RndD e f (Q.natAbs : Int) (-2) mode (decide (Q < 0)) s) :
    IsRnd f (grV e f) (S.natAbs : Int) (pw (-U)) mode (decide (S < 0)) s := by
  have q := pw_pos (-U)
  obtain ⟨e1, e2, _⟩ := fu_abs_eq (by omega) h4
  rw [decide_eq_decide.2 e2]
  exact fu_exact (by omega) e1 (fu_quart h)

theorem oq_two (n : Int) (h : 0 ≤ n) : oqV n 2 = n := by
  rw [oq_pos (by decide) h]
  split <;> omega

theorem oq_twos (n : Int) : oqV n 2 = n := by
  rcases (show 0 ≤ n ∨ n < 0 by omega) with h | h
  · exact oq_two n h
  · have := oq_two (-n) (by omega)
    rw [oq_neg] at this
    omega

/-- The program's sum where the product is a whole number of quarters. -/
theorem fu_code_p {n x C U : Int} (u0 : U ≤ 0) (hx : U - 2 ≤ x) (hx2 : 2 * U ≤ x) : 4 * (n * pw (x - 2 * U) + C * pw (-U)) = (oqV (n * pw (x - (U - 2))) 2 + 4 * C) * pw (-U) := by
  rw [oq_twos, Int.add_mul, Int.mul_assoc n, ← pw_add _ _ (by omega) (by omega), show x - (U - 2) + -U = 2 + (x - 2 * U) by omega, pw_add 2 _ (by decide) (by omega), show pw 2 = 4 from rfl, Int.mul_add, Int.mul_assoc 4 C]
  congr 1
  rw [← Int.mul_assoc, ← Int.mul_assoc, Int.mul_comm 4 n]

/-- The program's sum where the product is cut at quarters. -/
theorem fu_code_n {e f n x C U mode s : Int} (u0 : U ≤ 0) (hx : x < U - 2) (hx2 : 2 * U ≤ x) (h : RndD e f ((oqV n (2 * pw (U - 2 - x)) + 4 * C).natAbs : Int) (-2) mode (decide (oqV n (2 * pw (U - 2 - x)) + 4 * C < 0)) s) :
    IsRnd f (grV e f) ((n * pw (x - 2 * U) + C * pw (-U)).natAbs : Int) (pw (-U)) mode (decide (n * pw (x - 2 * U) + C * pw (-U) < 0)) s ∧ (n * pw (x - 2 * U) + C * pw (-U) < 0 ↔ oqV n (2 * pw (U - 2 - x)) + 4 * C < 0) ∧ (n * pw (x - 2 * U) + C * pw (-U) = 0 ↔ oqV n (2 * pw (U - 2 - x)) + 4 * C = 0) := by
  have m0 := pw_pos (x - 2 * U)
  have c0 := pw_pos (U - 2 - x)
  have eU : pw (-U) = 4 * pw (U - 2 - x) * pw (x - 2 * U) := by
    rw [show (4 : Int) = pw 2 from rfl, ← pw_add _ _ (by omega) (by omega), ← pw_add _ _ (by omega) (by omega)]
    congr 1
    omega
  have eF : n * pw (x - 2 * U) + C * pw (-U) = (n + 4 * C * pw (U - 2 - x)) * pw (x - 2 * U) := by
    rw [eU, Int.add_mul]
    congr 1
    rw [← Int.mul_assoc, ← Int.mul_assoc, Int.mul_comm C 4]
  generalize pw (x - 2 * U) = m at *
  generalize pw (U - 2 - x) = p at *
  -- n is an even number of p and a rest
  have key : ∃ A o r : Int, A % 2 = 0 ∧ (o = 1 ∨ o = -1) ∧ 0 ≤ r ∧ r < 2 * p ∧ n + 4 * C * p = p * A + o * r ∧ oqV n (2 * p) + 4 * C = A + (if r = 0 then 0 else o) := by
    have pos : ∀ k : Int, 0 ≤ k → ∃ g r : Int, 0 ≤ r ∧ r < 2 * p ∧ k = p * (2 * g) + r ∧ oqV k (2 * p) = 2 * g + (if r = 0 then 0 else 1) := fun k hk => by
      refine ⟨k / (2 * p), k % (2 * p), Int.emod_nonneg _ (by omega), Int.emod_lt_of_pos _ (by omega), ?_, oq_pos (by omega) hk⟩
      have := Int.mul_ediv_add_emod k (2 * p)
      rw [← Int.mul_assoc, Int.mul_comm p 2]
      omega
    have eC : 4 * C * p = p * (4 * C) := Int.mul_comm _ _
    rcases (show 0 ≤ n ∨ n < 0 by omega) with hn | hn
    · obtain ⟨g, r, r0, r1, k1, k2⟩ := pos n hn
      refine ⟨2 * g + 4 * C, 1, r, by omega, Or.inl rfl, r0, r1, ?_, ?_⟩
      · rw [Int.mul_add, eC]; omega
      · rw [k2]; omega
    · obtain ⟨g, r, r0, r1, k1, k2⟩ := pos (-n) (by omega)
      refine ⟨-(2 * g) + 4 * C, -1, r, by omega, Or.inr rfl, r0, r1, ?_, ?_⟩
      · rw [Int.mul_add, Int.mul_neg, eC]; omega
      · rw [oq_neg] at k2; split at k2 <;> split <;> omega
  obtain ⟨A, o, r, hA, ho, r0, r1, eW, eQ⟩ := key
  rw [eF, eW]
  rw [eQ] at h ⊢
  have l := lt_mul (n := p * A + o * r) (q := m) (by omega)
  by_cases hr : r = 0
  · subst hr
    rw [if_pos rfl, Int.add_zero] at h ⊢
    rw [Int.mul_zero, Int.add_zero] at l ⊢
    have h4 : 4 * (p * A * m) = A * pw (-U) := by
      rw [eU, Int.mul_comm A, Int.mul_assoc, Int.mul_assoc 4, Int.mul_assoc 4, Int.mul_assoc p m, Int.mul_comm m A]
    have z := fu_abs_eq (by rw [eU]; exact Int.mul_pos (by omega) (by omega)) h4
    exact ⟨fu_code_x h4 h, z.2.1, z.2.2⟩
  · rw [if_neg hr] at h ⊢
    obtain ⟨s1, s2, s3⟩ := fu_sign hA ho (by omega) r1
    refine ⟨?_, by rw [l.1]; exact s1.symm, by rw [l.2]; exact ⟨fun z => absurd z s2, fun z => absurd z s3⟩⟩
    rw [ab_mul (by omega), decide_eq_decide.2 (l.1.trans s1.symm), eU]
    exact fu_up (by omega) (fu_cut hA ho (by omega) r1 (fu_quart h))
end Go.Proofs.YtfgbndjhaiigbaaGreatDoor

