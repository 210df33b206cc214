/-
  Contracts of the functions that the laws reach, and the plain facts that they rest on, each under the conditions that its line names; part 22.
-/
import Derived.Test.YtfgbndjhaiigbaaGreatDoorKdj1
import Derived.Test.YtfgbndjhaiigbaaGreatDoorKdj2
import Derived.Test.YtfgbndjhaiigbaaGreatDoorKdj3
import Derived.Test.YtfgbndjhaiigbaaGreatDoorKdj4
import Derived.Test.YtfgbndjhaiigbaaGreatDoorKdj5
import Derived.Test.YtfgbndjhaiigbaaGreatDoorKdj6
import Derived.Test.YtfgbndjhaiigbaaGreatDoorKdj7
import Derived.Test.YtfgbndjhaiigbaaGreatDoorKdj8
import Derived.Test.YtfgbndjhaiigbaaGreatDoorKdj9
import Derived.Test.YtfgbndjhaiigbaaGreatDoorKdj10
import Derived.Test.YtfgbndjhaiigbaaGreatDoorKdj11
import Derived.Test.YtfgbndjhaiigbaaGreatDoorKdj12
import Derived.Test.YtfgbndjhaiigbaaGreatDoorKdj13
import Derived.Test.YtfgbndjhaiigbaaGreatDoorKdj14
import Derived.Test.YtfgbndjhaiigbaaGreatDoorKdj15
import Derived.Test.YtfgbndjhaiigbaaGreatDoorKdj16
import Derived.Test.YtfgbndjhaiigbaaGreatDoorKdj17
import Derived.Test.YtfgbndjhaiigbaaGreatDoorKdj18
import Derived.Test.YtfgbndjhaiigbaaGreatDoorKdj19
import Derived.Test.YtfgbndjhaiigbaaGreatDoorKdj20
import Derived.Test.YtfgbndjhaiigbaaGreatDoorKdj21
import Derived.Test.YtfgbndjhaiigbaaGreatDoorRows
import Derived.WalkKit
import Derived.LoopTactic
import Derived.Laws.Bits64b
import Derived.WalkSpells
import Derived.WalkLawsBesides
import Derived.StillTactics
import Derived.Laws.Pointers
import Derived.Deep.RegionHeld3
import Derived.Deep.QuietTactic
import Derived.BigQuiet
import Derived.Outline
import Derived.Lib.Hide
import Derived.RowKit3
import Derived.Carry
import Derived.IntWalk
namespace Go.Proofs.YtfgbndjhaiigbaaGreatDoor
open Go Go.RowKit
set_option linter.unusedSimpArgs false
set_option linter.unusedVariables false

theorem rounded_any (p mode : Int) (R S : Nat) (neg : Bool) (p0 : 0 ≤ p) (p1 : p ≤ 1152921504606846976) (okR : Ok Ieee.single R) (ltR : R < 2 ^ 192) (okS : Ok Ieee.single S) (m0 : 0 ≤ mode) (m1 : mode ≤ 5) (w : World) :
    Calls Tryz.prog 160 #[.agg #[.int .i64 p, .float .f32 (fw Ieee.single R), .float .f32 (fw Ieee.single S)], .int .i64 mode, .bool neg] w fun rv w' => rv = .returned (.int .i64 (rndP (R : Int) (S : Int) p mode neg)) ∧ Ext w w' := by
  have oz : FloatKind.f32.format.order (fw Ieee.single R) 0 = some (if R = 0 then .eq else .gt) := order_zero okR
  by_cases hR : R = 0
  · rw [if_pos hR] at oz
    have e : rndP (R : Int) (S : Int) p mode neg = p := by unfold rndP; rw [if_pos (by omega)]
    rw [e]
    exact rounded_zero p _ _ mode neg p0 p1 oz w
  · rw [if_neg hR] at oz
    have hm := mul_two okR
    have ok2 := ok_two okR ltR
    have hc0 := fun w => compare_fw (2 * R) S ok2 okS w
    have e0 : rndP (R : Int) (S : Int) p mode neg = if upR (R : Int) (S : Int) p mode neg = true then p + 1 else p := by unfold rndP; rw [if_neg (show ¬ (R : Int) = 0 by omega)]
    rw [e0]
    have par : p % 2 = 0 ∨ p % 2 = 1 := by omega
    have hmode : mode = 0 ∨ mode = 1 ∨ mode = 2 ∨ mode = 3 ∨ mode = 4 ∨ mode = 5 := by omega
    rcases hmode with rfl | rfl | rfl | rfl | rfl | rfl
    · have u : upR (R : Int) (S : Int) p 0 neg = decide ((S : Int) < 2 * (R : Int) ∨ (2 * (R : Int) = S ∧ p % 2 = 1)) := rfl
      rw [u]
      rcases Nat.lt_trichotomy (2 * R) S with g | g | g
      · rw [decide_eq_false (by omega)]
        rw [sg_neg (show ((2 * R : Nat) : Int) - S < 0 by omega)] at hc0
        exact rounded_evenL p _ _ neg p0 p1 oz _ hm hc0 w
      · rw [sg_zero (show ((2 * R : Nat) : Int) - S = 0 by omega)] at hc0
        rcases par with h | h
        · rw [decide_eq_false (by omega)]
          exact rounded_evenE p _ _ neg p0 p1 oz _ hm hc0 h w
        · rw [decide_eq_true (by omega)]
          exact rounded_evenO p _ _ neg p0 p1 oz _ hm hc0 h w
      · rw [decide_eq_true (by omega)]
        rw [sg_pos (show 0 < ((2 * R : Nat) : Int) - S by omega)] at hc0
        exact rounded_evenG p _ _ neg p0 p1 oz _ hm hc0 w
    · have u : upR (R : Int) (S : Int) p 1 neg = decide ((S : Int) ≤ 2 * (R : Int)) := rfl
      rw [u]
      rcases Nat.lt_trichotomy (2 * R) S with g | g | g
      · rw [decide_eq_false (by omega)]
        rw [sg_neg (show ((2 * R : Nat) : Int) - S < 0 by omega)] at hc0
        exact rounded_awayL p _ _ neg p0 p1 oz _ hm hc0 w
      · rw [sg_zero (show ((2 * R : Nat) : Int) - S = 0 by omega)] at hc0
        rw [decide_eq_true (by omega)]
        exact rounded_awayM p _ _ neg p0 p1 oz _ hm hc0 w
      · rw [decide_eq_true (by omega)]
        rw [sg_pos (show 0 < ((2 * R : Nat) : Int) - S by omega)] at hc0
        exact rounded_awayG p _ _ neg p0 p1 oz _ hm hc0 w
    · exact rounded_cut p _ _ neg p0 p1 oz w
    · cases neg
      · exact rounded_upP p _ _ p0 p1 oz w
      · exact rounded_upN p _ _ p0 p1 oz w
    · cases neg
      · exact rounded_downP p _ _ p0 p1 oz w
      · exact rounded_downN p _ _ p0 p1 oz w
    · have u : upR (R : Int) (S : Int) p 5 neg = decide (p % 2 = 0) := rfl
      rw [u]
      rcases par with h | h
      · rw [decide_eq_true h]
        exact rounded_oddE p _ _ neg p0 p1 oz h w
      · rw [decide_eq_false (by omega)]
        exact rounded_oddO p _ _ neg p0 p1 oz h w

/-- Out of what a float holds: the rounding of the number. -/
theorem rnd_back {e f n k mode r : Int} {neg : Bool} (hg : goodB e f = true) (h0 : 0 ≤ n) (h1 : n < 4611686018427387904) (hk : -149 ≤ k)
    (h : IsRnd f (grV e f) (flV n k : Int) (pw 149) mode neg r) : RndD e f n k mode neg r := by
  have hf := (good_iff.1 hg).2.2.1
  have hX : 0 ≤ n * pw (k + 149) := Int.mul_nonneg h0 (by have := pw_pos (k + 149); omega)
  obtain ⟨p, hp⟩ := belowq_ex f (n * pw (k + 149)) (pw 149) hf hX (grV e f).toNat
  rw [Int.toNat_of_nonneg (by have := (gr_bd2 hg).1; omega)] at hp
  have h2 : RndD e f n k mode neg (rndP (n * pw (k + 149) - mgV f p * pw 149) (stV f p * pw 149) p mode neg) := ⟨p, hp, rfl⟩
  have h3 := rnd_cap hg h0 (by omega) hk h2
  have e1 : ((flV n k : Nat) : Int) = min (kpV n * pw (k + 149)) (pw 190) := by
    obtain ⟨c, b, ek, _⟩ := kp_parts h0 h1
    have k0 : 0 ≤ kpV n * pw (k + 149) := by
      rw [ek]
      exact Int.mul_nonneg (Int.mul_nonneg (by omega) (by have := pw_pos (b : Int); omega)) (by have := pw_pos (k + 149); omega)
    have k1 := pw_pos 190
    unfold flV
    omega
  rw [e1] at h
  rw [rnd_one hf (by have := pw_pos 149; omega) h h3]
  exact h2

/-- A size is rounded, and gets a sign. -/
def RSout (e f m n k mode : Int) (w : World) (rv : Ending) (w' : World) : Prop := ∃ s : Int, rv = .returned (.int .i64 (s + m * pw (e + f))) ∧ RndD e f n k mode (m == 1) s ∧ Ext w w'

theorem rnd_bd2 {e f X D mode s : Int} {neg : Bool} (hg : goodB e f = true) (h : IsRnd f (grV e f) X D mode neg s) : 0 ≤ s ∧ s ≤ 32768 := by
  obtain ⟨p, ⟨p0, p1, _, _⟩, rfl⟩ := h
  obtain ⟨_, _, g2⟩ := gr_bd2 hg
  unfold rndP
  split
  · omega
  · split <;> omega

/-- The spot of what a float holds, rounded. -/
def SPout (e f n k mode : Int) (neg : Bool) (w : World) (rv : Ending) (w' : World) : Prop := ∃ s : Int, rv = .returned (.int .i64 s) ∧ RndD e f n k mode neg s ∧ (0 ≤ s ∧ s ≤ 32768) ∧ Ext w w'

theorem rounded_spot (e f n k mode p : Int) (neg : Bool) (hg : goodB e f = true) (n0 : 0 ≤ n) (n1 : n < 4611686018427387904) (hk : -149 ≤ k) (m0 : 0 ≤ mode) (m1 : mode ≤ 5)
    (hp : BelowQ f (grV e f) (flV n k : Int) (pw 149) p) (w : World) :
    Calls Tryz.prog 160 #[.agg #[.int .i64 p, .float .f32 (fw Ieee.single (flV n k - mgN f p)), .float .f32 (fw Ieee.single (stN f p))], .int .i64 mode, .bool neg] w (SPout e f n k mode neg w) := by
  obtain ⟨okY, leY⟩ := fl_ok n0 n1 hk
  have p0 := hp.1
  have p1 := hp.2.1
  have hl := hp.2.2.1
  have hY : flV n k < 2 ^ 191 := by
    have h190 : (pw 190).toNat = 2 ^ 190 := by decide
    have : (2 : Nat) ^ 191 = 2 * 2 ^ 190 := by decide
    rw [h190] at leY
    omega
  have c := mgN_cast f p (mg_bd hg p0 p1).1
  have hl2 : mgN f p ≤ flV n k := by omega
  obtain ⟨R, okR, ltR, eR, hR⟩ := rest_ok hg okY hY p0 p1 hl2
  obtain ⟨okS, _⟩ := stN_ok hg p0 p1
  obtain ⟨_, _, g2⟩ := gr_bd2 hg
  rw [eR]
  refine (rounded_any p mode R (stN f p) neg p0 (by omega) okR ltR okS m0 m1 w).mono ?_
  rintro rv w' ⟨rfl, hb⟩
  have hi : IsRnd f (grV e f) (flV n k : Int) (pw 149) mode neg (rndP (R : Int) (stN f p : Int) p mode neg) := ⟨p, hp, rnd_rest hg p0 p1 hl2 hR⟩
  exact ⟨_, rfl, rnd_back hg n0 n1 hk hi, rnd_bd2 hg hi, hb⟩

theorem roundSize_any (e f m n d mode : Int) (hg : goodB e f = true) (hm : m = 0 ∨ m = 1) (v0 : 0 ≤ n) (v1 : n < 4611686018427387904) (k0 : -149 ≤ (d - unV e f)) (k1 : (d - unV e f) ≤ 149) (m0 : 0 ≤ mode) (m1 : mode ≤ 5) (w : World) :
    Calls Tryz.prog 159 #[fmt e f, .int .i64 m, .int .i64 n, .int .i64 d, .int .i64 mode] w (RSout e f m n (d - unV e f) mode w) := by
  have OKY := Lib.hid (fl_ok v0 v1 k0).1
  obtain ⟨h1, h2, h3, h4⟩ := good_iff.1 hg
  obtain ⟨⟨a1, a2⟩, ⟨b1, b2⟩, ⟨c1, c2⟩, hmul⟩ := pw_facts h1 h2 h3 h4
  have pe : 1 ≤ pw (e + f) := pw_pos _
  have pe2 : pw (e + f) ≤ 32768 := pw_le 15 32768 rfl (by omega)
  clear hmul a1 a2 b1 b2 c1 c2
  rcases hm with rfl | rfl
  · go_enter Tryz.func159, Tryz.ntmps159
    go_wp2_with fail
    go_region_held3 (fun w' => w'.cell? ⟨w.heap.size, 0, none⟩ = some (.int .i64 e) ∧ w'.cell? ⟨w.heap.size, 1, none⟩ = some (.int .i64 f) ∧ w.heap.size < w'.heap.size) ((refine ⟨?_, ?_, ?_⟩ <;> first | with_reducible assumption | ((rw [cell_setRow_far _ _ _ _ _ (by omega)]); with_reducible assumption) | ((rw [setRow_size]); with_reducible assumption) | ((repeat rw [World.cell?_setCell_far _ _ _ _ (by simp)]); with_reducible assumption) | (simp; done) | (simp [World.setCell]; first | done | omega) | (simp [go_sem, World.cell?_alloc_past, World.cell?_setCell_far, *]; done))) ((first | (go_at_call 171; refine (floatUnits_any e f n d hg v0 v1 k0 k1 _).mono ?_; rintro rv w1 ⟨rfl, hb⟩; have ns : w.heap.size < w1.heap.size := hb.ltK; have n0 : w1.cell? ⟨w.heap.size, 0, none⟩ = some (.int .i64 e) := hb.cellK; have n1 : w1.cell? ⟨w.heap.size, 1, none⟩ = some (.int .i64 f) := hb.cellK; (first | (have nx := hx.trK hb; clear hx) | have nx := hb); clear hb; try clear hs; try clear g0; try clear g1; have hx := nx; clear nx; have hs := ns; clear ns; have g0 := n0; clear n0; have g1 := n1; clear n1) | (go_at_call 170; refine (spotOf_any e f _ hg OKY.out _).mono ?_; rintro rv w1 ⟨p, rfl, hp, hb⟩; have HP := Lib.hid hp; clear hp; have ns : w.heap.size < w1.heap.size := hb.ltK; have n0 : w1.cell? ⟨w.heap.size, 0, none⟩ = some (.int .i64 e) := hb.cellK; have n1 : w1.cell? ⟨w.heap.size, 1, none⟩ = some (.int .i64 f) := hb.cellK; (first | (have nx := hx.trK hb; clear hx) | have nx := hb); clear hb; try clear hs; try clear g0; try clear g1; have hx := nx; clear nx; have hs := ns; clear ns; have g0 := n0; clear n0; have g1 := n1; clear n1) | (go_at_call 160; refine (rounded_spot e f n (d - unV e f) mode p false hg v0 v1 k0 m0 m1 HP.out _).mono ?_; rintro rv w1 ⟨s, rfl, hq, ⟨s0, s1⟩, hb⟩; have HQ := Lib.hid hq; clear hq; have ns : w.heap.size < w1.heap.size := hb.ltK; have n0 : w1.cell? ⟨w.heap.size, 0, none⟩ = some (.int .i64 e) := hb.cellK; have n1 : w1.cell? ⟨w.heap.size, 1, none⟩ = some (.int .i64 f) := hb.cellK; (first | (have nx := hx.trK hb; clear hx) | have nx := hb); clear hb; try clear hs; try clear g0; try clear g1; have hx := nx; clear nx; have hs := ns; clear ns; have g0 := n0; clear n0; have g1 := n1; clear n1)))
    go_wp2_with (go_at_call 107; refine (signBit_any e f hg _).mono ?_; rintro rv w1 ⟨rfl, hb⟩; have ns : w.heap.size < w1.heap.size := hb.ltK; have n0 : w1.cell? ⟨w.heap.size, 0, none⟩ = some (.int .i64 e) := hb.cellK; have n1 : w1.cell? ⟨w.heap.size, 1, none⟩ = some (.int .i64 f) := hb.cellK; (first | (have nx := hx.trK hb; clear hx) | have nx := hb); clear hb; try clear hs; try clear g0; try clear g1; have hx := nx; clear nx; have hs := ns; clear ns; have g0 := n0; clear n0; have g1 := n1; clear n1)
    go_ret
    exact ⟨s, ret_int (by first | rfl | (simp; done) | omega), HQ.out, Ext.auK⟩
  · go_enter Tryz.func159, Tryz.ntmps159
    go_wp2_with fail
    go_region_held3 (fun w' => w'.cell? ⟨w.heap.size, 0, none⟩ = some (.int .i64 e) ∧ w'.cell? ⟨w.heap.size, 1, none⟩ = some (.int .i64 f) ∧ w.heap.size < w'.heap.size) ((refine ⟨?_, ?_, ?_⟩ <;> first | with_reducible assumption | ((rw [cell_setRow_far _ _ _ _ _ (by omega)]); with_reducible assumption) | ((rw [setRow_size]); with_reducible assumption) | ((repeat rw [World.cell?_setCell_far _ _ _ _ (by simp)]); with_reducible assumption) | (simp; done) | (simp [World.setCell]; first | done | omega) | (simp [go_sem, World.cell?_alloc_past, World.cell?_setCell_far, *]; done))) ((first | (go_at_call 171; refine (floatUnits_any e f n d hg v0 v1 k0 k1 _).mono ?_; rintro rv w1 ⟨rfl, hb⟩; have ns : w.heap.size < w1.heap.size := hb.ltK; have n0 : w1.cell? ⟨w.heap.size, 0, none⟩ = some (.int .i64 e) := hb.cellK; have n1 : w1.cell? ⟨w.heap.size, 1, none⟩ = some (.int .i64 f) := hb.cellK; (first | (have nx := hx.trK hb; clear hx) | have nx := hb); clear hb; try clear hs; try clear g0; try clear g1; have hx := nx; clear nx; have hs := ns; clear ns; have g0 := n0; clear n0; have g1 := n1; clear n1) | (go_at_call 170; refine (spotOf_any e f _ hg OKY.out _).mono ?_; rintro rv w1 ⟨p, rfl, hp, hb⟩; have HP := Lib.hid hp; clear hp; have ns : w.heap.size < w1.heap.size := hb.ltK; have n0 : w1.cell? ⟨w.heap.size, 0, none⟩ = some (.int .i64 e) := hb.cellK; have n1 : w1.cell? ⟨w.heap.size, 1, none⟩ = some (.int .i64 f) := hb.cellK; (first | (have nx := hx.trK hb; clear hx) | have nx := hb); clear hb; try clear hs; try clear g0; try clear g1; have hx := nx; clear nx; have hs := ns; clear ns; have g0 := n0; clear n0; have g1 := n1; clear n1) | (go_at_call 160; refine (rounded_spot e f n (d - unV e f) mode p true hg v0 v1 k0 m0 m1 HP.out _).mono ?_; rintro rv w1 ⟨s, rfl, hq, ⟨s0, s1⟩, hb⟩; have HQ := Lib.hid hq; clear hq; have ns : w.heap.size < w1.heap.size := hb.ltK; have n0 : w1.cell? ⟨w.heap.size, 0, none⟩ = some (.int .i64 e) := hb.cellK; have n1 : w1.cell? ⟨w.heap.size, 1, none⟩ = some (.int .i64 f) := hb.cellK; (first | (have nx := hx.trK hb; clear hx) | have nx := hb); clear hb; try clear hs; try clear g0; try clear g1; have hx := nx; clear nx; have hs := ns; clear ns; have g0 := n0; clear n0; have g1 := n1; clear n1)))
    go_wp2_with (go_at_call 107; refine (signBit_any e f hg _).mono ?_; rintro rv w1 ⟨rfl, hb⟩; have ns : w.heap.size < w1.heap.size := hb.ltK; have n0 : w1.cell? ⟨w.heap.size, 0, none⟩ = some (.int .i64 e) := hb.cellK; have n1 : w1.cell? ⟨w.heap.size, 1, none⟩ = some (.int .i64 f) := hb.cellK; (first | (have nx := hx.trK hb; clear hx) | have nx := hb); clear hb; try clear hs; try clear g0; try clear g1; have hx := nx; clear nx; have hs := ns; clear ns; have g0 := n0; clear n0; have g1 := n1; clear n1)
    go_ret
    exact ⟨s, ret_int (by first | rfl | (simp; done) | omega), HQ.out, Ext.auK⟩
end Go.Proofs.YtfgbndjhaiigbaaGreatDoor

namespace Go.Proofs.YtfgbndjhaiigbaaGreatDoor
open Go Go.RowKit
set_option linter.unusedSimpArgs false
set_option linter.unusedVariables false

theorem isMode_any (m : Int) (w : World) : Calls Tryz.prog 119 #[.int .i64 m] w fun rv w' => rv = .returned (.bool (moB m)) ∧ w = w' := by
  by_cases h1 : 0 ≤ m <;> by_cases h2 : m ≤ 5
  all_goals
    have hk : moB m = decide (0 ≤ m ∧ m ≤ 5) := rfl
    have Hk := Lib.hid hk; clear hk
    go_enter Tryz.func119, Tryz.ntmps119
    go_wp2
    go_ret
    exact ⟨ret_bool (by rw [Hk.out]; first | (simp [h1, h2]; done) | (simp; omega)), rfl⟩
end Go.Proofs.YtfgbndjhaiigbaaGreatDoor

namespace Go.Proofs.YtfgbndjhaiigbaaGreatDoor
open Go Go.RowKit
set_option linter.unusedSimpArgs false
set_option linter.unusedVariables false

/-- A number brought into lowest terms is rounded as it is. -/
theorem rdRound_short (e f n d mode : Int) (hg : goodB e f = true) (n0 : -1152921504606846976 < n) (n1 : n < 1152921504606846976) (k0 : -60 ≤ (d - unV e f)) (k1 : (d - unV e f) ≤ 88) (hm0 : 0 ≤ mode) (hm1 : mode ≤ 5) (w : World) :
    Calls Tryz.prog 129 #[fmt e f, two (odV n) (shE n d), .int .i64 mode] w (RRout e f n (d - unV e f) mode w) := by
  refine (rdRound_any e f (odV n) (shE n d) mode hg (rd_short hg n0 n1 k0 k1) hm0 hm1 w).mono ?_
  rintro rv w' ⟨s, rfl, hq, hb⟩
  obtain ⟨s1, s2⟩ := od_sign (S := n) (by omega) (by omega)
  have hq2 := rnd_short n0 n1 k0 hq
  rw [show decide (odV n < 0) = decide (n < 0) by rw [decide_eq_decide]; exact s1] at hq2
  refine ⟨s, ?_, hq2, hb⟩
  unfold sgP
  by_cases ha : n < 0
  · rw [if_pos ha, if_pos (s1.2 ha)]
  · rw [if_neg ha, if_neg (fun h => ha (s1.1 h))]
end Go.Proofs.YtfgbndjhaiigbaaGreatDoor

namespace Go.Proofs.YtfgbndjhaiigbaaGreatDoor
open Go Go.RowKit
set_option linter.unusedSimpArgs false
set_option linter.unusedVariables false

/-- Twice a quotient, and the odd number behind it if something is left. -/
def oqV (n d : Int) : Int := 2 * n.tdiv d + sgV (n.tmod d)

theorem tdiv_bd {n d b : Int} (_ : 0 < d) (h1 : -b ≤ n) (h2 : n ≤ b) : -b ≤ n.tdiv d ∧ n.tdiv d ≤ b := by
  have h := Int.natAbs_tdiv_le_natAbs n d
  omega

theorem oq_bd {n d b : Int} (hd : 0 < d) (h1 : -b ≤ n) (h2 : n ≤ b) : -(2 * b + 1) ≤ oqV n d ∧ oqV n d ≤ 2 * b + 1 := by
  have h := tdiv_bd hd h1 h2
  have s := sg_bd (n.tmod d)
  unfold oqV
  omega

theorem oq_pos {n d : Int} (hd : 0 < d) (h : 0 ≤ n) : oqV n d = 2 * (n / d) + (if n % d = 0 then 0 else 1) := by
  unfold oqV
  rw [Int.tdiv_eq_ediv_of_nonneg h, Int.tmod_eq_emod_of_nonneg h]
  have r0 := Int.emod_nonneg n (show d ≠ 0 by omega)
  by_cases hz : n % d = 0
  · rw [if_pos hz, sg_zero hz]
  · rw [if_neg hz, sg_pos (by omega)]

theorem oq_zero (d : Int) : oqV 0 d = 0 := by unfold oqV; simp [sgV]

theorem quiet_same {P : Program} {f : FuncId} {args : Array Value} {w : World} {n : Nat} {v : Value}
    (h : Calls P f args (w.drewN n) fun e w' => e = .returned v ∧ w.drewN n = w') : Calls P f args (w.drewN n) fun e w'' => e = .returned v ∧ ∃ m, w'' = w.drewN m :=
  h.mono fun _ _ ⟨he, hm⟩ => ⟨he, n, hm.symm⟩

theorem oddQuotient_any (n d : Int) (hd : 0 < d) (h1 : -2305843009213693952 ≤ n) (h2 : n ≤ 2305843009213693952) (w : World) : Calls Tryz.prog 153 #[.int .i64 n, .int .i64 d] w fun rv w' => rv = .returned (.int .i64 (oqV n d)) ∧ Ext w w' := by
  have b := tdiv_bd hd h1 h2
  have s := sg_bd (n.tmod d)
  have dz : ¬ d = 0 := by omega
  have dz2 : (d == 0) = false := by simpa using dz
  have dm : ¬ d = -1 := by omega
  have k1 : IntKind.i64.wrap (n.tdiv d) = n.tdiv d := IntWalk.i64_in _ (by omega)
  have k2 : IntKind.i64.wrap (2 * n.tdiv d) = 2 * n.tdiv d := IntWalk.i64_in _ (by omega)
  have k3 : IntKind.i64.wrap (2 * n.tdiv d + sgV (n.tmod d)) = 2 * n.tdiv d + sgV (n.tmod d) := IntWalk.i64_in _ (by omega)
  have k4 : n.tmod d - 0 = n.tmod d := by omega
  have hk : oqV n d = 2 * n.tdiv d + sgV (n.tmod d) := rfl
  have Hk := Lib.hid hk; clear hk
  go_enter Tryz.func153, Tryz.ntmps153
  go_wp2_with fail
  go_quiet ((first | (go_at_call 157; exact quiet_same (compare_sg _ _ _))))
  go_wp2_with fail
  go_ret
  exact ⟨ret_int (by rw [Hk.out]; try rw [k4]), Ext.auK⟩
end Go.Proofs.YtfgbndjhaiigbaaGreatDoor

namespace Go.Proofs.YtfgbndjhaiigbaaGreatDoor
open Go Go.RowKit
set_option linter.unusedSimpArgs false
set_option linter.unusedVariables false

theorem quot_sg {d r D P TQ : Int} (hD : 0 < D) (hP : 0 < P) (hr0 : 0 < r) (hr1 : r < D) (hz : 2 * d * P < TQ → 2 * (d + 1) * P ≤ TQ) :
    sgV (2 * (d * D + r) * P - TQ * D) = sgV ((2 * d + 1) * P - TQ) := by
  have e1 : 2 * (d * D + r) * P - TQ * D = D * (2 * d * P - TQ) + 2 * (r * P) := by
    rw [Int.mul_sub, Int.mul_comm D TQ]
    have : 2 * (d * D + r) * P = D * (2 * d * P) + 2 * (r * P) := by
      rw [Int.mul_add, Int.add_mul, Int.mul_assoc 2 r P]
      congr 1
      rw [Int.mul_comm d D, ← Int.mul_assoc 2 D d, Int.mul_comm 2 D, Int.mul_assoc D 2 d, Int.mul_assoc]
    omega
  have e2 : (2 * d + 1) * P - TQ = (2 * d * P - TQ) + P := by rw [Int.add_mul, Int.one_mul]; omega
  rw [e1, e2]
  obtain ⟨Z, hZd⟩ : ∃ Z, 2 * d * P - TQ = Z := ⟨_, rfl⟩
  rw [hZd]
  have rp : 0 < r * P := Int.mul_pos hr0 hP
  by_cases h : 2 * d * P < TQ
  · have h2 := hz h
    rw [Int.mul_add, Int.add_mul, Int.mul_one] at h2
    have hZ : Z ≤ -(2 * P) := by omega
    have h3 : D * Z ≤ D * -(2 * P) := Int.mul_le_mul_of_nonneg_left hZ (by omega)
    have h4 : r * P < D * P := Int.mul_lt_mul_of_pos_right hr1 hP
    have h5 : D * -(2 * P) = -(2 * (D * P)) := by rw [Int.mul_neg, ← Int.mul_assoc, Int.mul_comm D 2, Int.mul_assoc]
    rw [h5] at h3
    have h6 : D * Z + 2 * (r * P) < 0 := by omega
    have h7 : Z + P < 0 := by omega
    rw [sg_neg h6, sg_neg h7]
  · have hZ : 0 ≤ Z := by omega
    have h3 : 0 ≤ D * Z := Int.mul_nonneg (by omega) hZ
    rw [sg_pos (by omega), sg_pos (by omega)]

theorem quot_gap {d P k M s : Int} (hP : P = pw (k + 149)) (hk : -149 ≤ k) (hd : 2048 ≤ d) (hM : 0 ≤ M) (hM2 : M < 4096) (hs : 0 ≤ s) (h : 2 * d * P < M * pw s * pw 149) : 2 * (d + 1) * P ≤ M * pw s * pw 149 := by
  have pp : 1 ≤ P := by rw [hP]; exact pw_pos _
  by_cases g : k + 1 ≤ s
  · have e1 : M * pw s * pw 149 = M * pw (s - k - 1) * (2 * P) := by
      have : pw s * pw 149 = pw (s - k - 1) * (2 * P) := by
        rw [hP, ← pw_succ (k + 149) (by omega), ← pw_add _ _ hs (by omega), ← pw_add _ _ (by omega) (by omega)]
        congr 1
        omega
      rw [Int.mul_assoc, this, Int.mul_assoc]
    rw [e1] at h ⊢
    rw [show 2 * d * P = d * (2 * P) by rw [Int.mul_comm 2 d, Int.mul_assoc]] at h
    rw [show 2 * (d + 1) * P = (d + 1) * (2 * P) by rw [Int.mul_comm 2 (d + 1), Int.mul_assoc]]
    have : d < M * pw (s - k - 1) := Int.lt_of_mul_lt_mul_right h (by omega)
    exact Int.mul_le_mul_of_nonneg_right (by omega) (by omega)
  · exfalso
    have e1 : pw s * pw 149 ≤ P := by
      rw [hP, ← pw_add _ _ hs (by omega)]
      have : pw (k + 149) = pw (k - s) * pw (s + 149) := by
        rw [← pw_add _ _ (by omega) (by omega)]
        congr 1
        omega
      rw [this]
      have q := pw_pos (k - s)
      have q2 := pw_pos (s + 149)
      have := Int.mul_le_mul_of_nonneg_right (show 1 ≤ pw (k - s) from q) (show 0 ≤ pw (s + 149) by omega)
      omega
    have e2 : M * (pw s * pw 149) ≤ M * P := Int.mul_le_mul_of_nonneg_left e1 hM
    have e3 : M * P ≤ 4096 * P := Int.mul_le_mul_of_nonneg_right (by omega) (by omega)
    have e4 : 4096 * P ≤ 2 * d * P := Int.mul_le_mul_of_nonneg_right (by omega) (by omega)
    have h' : 2 * d * P < M * (pw s * pw 149) := by rw [← Int.mul_assoc]; exact h
    omega

/-- A quotient is rounded as the size that tells it. -/
theorem rnd_quot {e f X D k mode s : Int} {neg : Bool} (hg : goodB e f = true) (hD : 0 < D) (hX : 2048 * D ≤ X) (hk : -148 ≤ k) (hr : IsRnd f (grV e f) (X * pw (k + 149)) (D * pw 149) mode neg s) : RndD e f (oqV X D) (k - 1) mode neg s := by
  refine rnd_move (fun T hT => ?_) hr
  obtain ⟨M, t, rfl, hM, hM2, ht, _⟩ := pt_few hg hT
  have hX0 : 0 ≤ X := by omega
  have dm := Int.mul_ediv_add_emod X D
  have r0 := Int.emod_nonneg X (show D ≠ 0 by omega)
  have r1 := Int.emod_lt_of_pos X hD
  have hd : 2048 ≤ X / D := Int.le_ediv_of_mul_le hD hX
  have e0 : 2 * (oqV X D * pw (k - 1 + 149)) = oqV X D * pw (k + 149) := by
    have := pw_succ (k - 1 + 149) (by omega)
    rw [show k - 1 + 149 + 1 = k + 149 by omega] at this
    rw [this, ← Int.mul_assoc, ← Int.mul_assoc, Int.mul_comm 2]
  have e1 : 2 * (X * pw (k + 149)) - M * pw t * (D * pw 149) = 2 * X * pw (k + 149) - M * pw t * pw 149 * D := by
    rw [Int.mul_comm D, ← Int.mul_assoc, ← Int.mul_assoc]
  rw [e0, e1, oq_pos hD hX0]
  have hX2 : X / D * D + X % D = X := by rw [Int.mul_comm]; exact dm
  by_cases h : X % D = 0
  · rw [if_pos h]
    rw [h] at hX2
    have : 2 * X * pw (k + 149) - M * pw t * pw 149 * D = ((2 * (X / D) + 0) * pw (k + 149) - M * pw t * pw 149) * D := by
      rw [Int.sub_mul]
      congr 1
      rw [show X = X / D * D by omega]
      rw [Int.mul_ediv_cancel _ (by omega), Int.add_zero, Int.mul_assoc 2 _ _, Int.mul_assoc 2 _ _, Int.mul_assoc 2 _ _, Int.mul_assoc, Int.mul_assoc, Int.mul_comm D]
    rw [this, sg_mul hD]
  · rw [if_neg h]
    have := quot_sg (d := X / D) (r := X % D) (TQ := M * pw t * pw 149) hD (show 0 < pw (k + 149) by have := pw_pos (k + 149); omega) (by omega) r1 (quot_gap rfl (by omega) hd hM hM2 ht)
    rw [hX2] at this
    exact this
end Go.Proofs.YtfgbndjhaiigbaaGreatDoor

