/-
  Contracts of the functions that the laws reach, and the plain facts that they rest on, each under the conditions that its line names; part 26.
-/
import Derived.Test.YtmddlbphanlfhaaGreatDoorKps1
import Derived.Test.YtmddlbphanlfhaaGreatDoorKps2
import Derived.Test.YtmddlbphanlfhaaGreatDoorKps3
import Derived.Test.YtmddlbphanlfhaaGreatDoorKps4
import Derived.Test.YtmddlbphanlfhaaGreatDoorKps5
import Derived.Test.YtmddlbphanlfhaaGreatDoorKps11
import Derived.Test.YtmddlbphanlfhaaGreatDoorKps12
import Derived.Test.YtmddlbphanlfhaaGreatDoorKps13
import Derived.Test.YtmddlbphanlfhaaGreatDoorKps14
import Derived.Test.YtmddlbphanlfhaaGreatDoorKps15
import Derived.Test.YtmddlbphanlfhaaGreatDoorKps16
import Derived.Test.YtmddlbphanlfhaaGreatDoorKps17
import Derived.Test.YtmddlbphanlfhaaGreatDoorKps18
import Derived.Test.YtmddlbphanlfhaaGreatDoorKps19
import Derived.Test.YtmddlbphanlfhaaGreatDoorKps20
import Derived.Test.YtmddlbphanlfhaaGreatDoorKps21
import Derived.Test.YtmddlbphanlfhaaGreatDoorKps22
import Derived.Test.YtmddlbphanlfhaaGreatDoorKps23
import Derived.Test.YtmddlbphanlfhaaGreatDoorKps24
import Derived.Test.YtmddlbphanlfhaaGreatDoorKps25
import Derived.Test.YtmddlbphanlfhaaGreatDoorRows
import Derived.WalkKit
import Derived.LoopTactic
import Derived.Laws.Bits64b
import Derived.WalkSpells
import Derived.WalkLawsBesides
import Derived.StillTactics
import Derived.Laws.Pointers
import Derived.Deep.RegionHeld3
import Derived.Deep.QuietTactic
import Derived.BigQuiet
import Derived.Outline
import Derived.Lib.Hide
import Derived.RowKit3
import Derived.Carry
import Derived.IntWalk
namespace Go.Proofs.YtmddlbphanlfhaaGreatDoor
open Go Go.RowKit
set_option linter.unusedSimpArgs false
set_option linter.unusedVariables false

theorem rounded_any (p mode : Int) (R S : Nat) (neg : Bool) (p0 : 0 ≤ p) (p1 : p ≤ 1152921504606846976) (okR : Ok Ieee.single R) (ltR : R < 2 ^ 192) (okS : Ok Ieee.single S) (m0 : 0 ≤ mode) (m1 : mode ≤ 5) (w : World) :
    Calls Tryz.prog 180 #[.agg #[.int .i64 p, .float .f32 (fw Ieee.single R), .float .f32 (fw Ieee.single S)], .int .i64 mode, .bool neg] w fun rv w' => rv = .returned (.int .i64 (rndP (R : Int) (S : Int) p mode neg)) ∧ Ext w w' := by
  have oz : FloatKind.f32.format.order (fw Ieee.single R) 0 = some (if R = 0 then .eq else .gt) := order_zero okR
  by_cases hR : R = 0
  · rw [if_pos hR] at oz
    have e : rndP (R : Int) (S : Int) p mode neg = p := by unfold rndP; rw [if_pos (by omega)]
    rw [e]
    exact rounded_zero p _ _ mode neg p0 p1 oz w
  · rw [if_neg hR] at oz
    have hm := mul_two okR
    have ok2 := ok_two okR ltR
    have hc0 := fun w => compare_fw (2 * R) S ok2 okS w
    have e0 : rndP (R : Int) (S : Int) p mode neg = if upR (R : Int) (S : Int) p mode neg = true then p + 1 else p := by unfold rndP; rw [if_neg (show ¬ (R : Int) = 0 by omega)]
    rw [e0]
    have par : p % 2 = 0 ∨ p % 2 = 1 := by omega
    have hmode : mode = 0 ∨ mode = 1 ∨ mode = 2 ∨ mode = 3 ∨ mode = 4 ∨ mode = 5 := by omega
    rcases hmode with rfl | rfl | rfl | rfl | rfl | rfl
    · have u : upR (R : Int) (S : Int) p 0 neg = decide ((S : Int) < 2 * (R : Int) ∨ (2 * (R : Int) = S ∧ p % 2 = 1)) := rfl
      rw [u]
      rcases Nat.lt_trichotomy (2 * R) S with g | g | g
      · rw [decide_eq_false (by omega)]
        rw [sg_neg (show ((2 * R : Nat) : Int) - S < 0 by omega)] at hc0
        exact rounded_evenL p _ _ neg p0 p1 oz _ hm hc0 w
      · rw [sg_zero (show ((2 * R : Nat) : Int) - S = 0 by omega)] at hc0
        rcases par with h | h
        · rw [decide_eq_false (by omega)]
          exact rounded_evenE p _ _ neg p0 p1 oz _ hm hc0 h w
        · rw [decide_eq_true (by omega)]
          exact rounded_evenO p _ _ neg p0 p1 oz _ hm hc0 h w
      · rw [decide_eq_true (by omega)]
        rw [sg_pos (show 0 < ((2 * R : Nat) : Int) - S by omega)] at hc0
        exact rounded_evenG p _ _ neg p0 p1 oz _ hm hc0 w
    · have u : upR (R : Int) (S : Int) p 1 neg = decide ((S : Int) ≤ 2 * (R : Int)) := rfl
      rw [u]
      rcases Nat.lt_trichotomy (2 * R) S with g | g | g
      · rw [decide_eq_false (by omega)]
        rw [sg_neg (show ((2 * R : Nat) : Int) - S < 0 by omega)] at hc0
        exact rounded_awayL p _ _ neg p0 p1 oz _ hm hc0 w
      · rw [sg_zero (show ((2 * R : Nat) : Int) - S = 0 by omega)] at hc0
        rw [decide_eq_true (by omega)]
        exact rounded_awayM p _ _ neg p0 p1 oz _ hm hc0 w
      · rw [decide_eq_true (by omega)]
        rw [sg_pos (show 0 < ((2 * R : Nat) : Int) - S by omega)] at hc0
        exact rounded_awayG p _ _ neg p0 p1 oz _ hm hc0 w
    · exact rounded_cut p _ _ neg p0 p1 oz w
    · cases neg
      · exact rounded_upP p _ _ p0 p1 oz w
      · exact rounded_upN p _ _ p0 p1 oz w
    · cases neg
      · exact rounded_downP p _ _ p0 p1 oz w
      · exact rounded_downN p _ _ p0 p1 oz w
    · have u : upR (R : Int) (S : Int) p 5 neg = decide (p % 2 = 0) := rfl
      rw [u]
      rcases par with h | h
      · rw [decide_eq_true h]
        exact rounded_oddE p _ _ neg p0 p1 oz h w
      · rw [decide_eq_false (by omega)]
        exact rounded_oddO p _ _ neg p0 p1 oz h w

/-- Out of what a float holds: the rounding of the number. -/
theorem rnd_back {e f n k mode r : Int} {neg : Bool} (hg : goodB e f = true) (h0 : 0 ≤ n) (h1 : n < 4611686018427387904) (hk : -149 ≤ k)
    (h : IsRnd f (grV e f) (flV n k : Int) (pw 149) mode neg r) : RndD e f n k mode neg r := by
  have hf := (good_iff.1 hg).2.2.1
  have hX : 0 ≤ n * pw (k + 149) := Int.mul_nonneg h0 (by have := pw_pos (k + 149); omega)
  obtain ⟨p, hp⟩ := belowq_ex f (n * pw (k + 149)) (pw 149) hf hX (grV e f).toNat
  rw [Int.toNat_of_nonneg (by have := (gr_bd2 hg).1; omega)] at hp
  have h2 : RndD e f n k mode neg (rndP (n * pw (k + 149) - mgV f p * pw 149) (stV f p * pw 149) p mode neg) := ⟨p, hp, rfl⟩
  have h3 := rnd_cap hg h0 (by omega) hk h2
  have e1 : ((flV n k : Nat) : Int) = min (kpV n * pw (k + 149)) (pw 190) := by
    obtain ⟨c, b, ek, _⟩ := kp_parts h0 h1
    have k0 : 0 ≤ kpV n * pw (k + 149) := by
      rw [ek]
      exact Int.mul_nonneg (Int.mul_nonneg (by omega) (by have := pw_pos (b : Int); omega)) (by have := pw_pos (k + 149); omega)
    have k1 := pw_pos 190
    unfold flV
    omega
  rw [e1] at h
  rw [rnd_one hf (by have := pw_pos 149; omega) h h3]
  exact h2

/-- A size is rounded, and gets a sign. -/
def RSout (e f m n k mode : Int) (w : World) (rv : Ending) (w' : World) : Prop := ∃ s : Int, rv = .returned (.int .i64 (s + m * pw (e + f))) ∧ RndD e f n k mode (m == 1) s ∧ Ext w w'

theorem rnd_bd2 {e f X D mode s : Int} {neg : Bool} (hg : goodB e f = true) (h : IsRnd f (grV e f) X D mode neg s) : 0 ≤ s ∧ s ≤ 32768 := by
  obtain ⟨p, ⟨p0, p1, _, _⟩, rfl⟩ := h
  obtain ⟨_, _, g2⟩ := gr_bd2 hg
  unfold rndP
  split
  · omega
  · split <;> omega

/-- The spot of what a float holds, rounded. -/
def SPout (e f n k mode : Int) (neg : Bool) (w : World) (rv : Ending) (w' : World) : Prop := ∃ s : Int, rv = .returned (.int .i64 s) ∧ RndD e f n k mode neg s ∧ (0 ≤ s ∧ s ≤ 32768) ∧ Ext w w'

theorem rounded_spot (e f n k mode p : Int) (neg : Bool) (hg : goodB e f = true) (n0 : 0 ≤ n) (n1 : n < 4611686018427387904) (hk : -149 ≤ k) (m0 : 0 ≤ mode) (m1 : mode ≤ 5)
    (hp : BelowQ f (grV e f) (flV n k : Int) (pw 149) p) (w : World) :
    Calls Tryz.prog 180 #[.agg #[.int .i64 p, .float .f32 (fw Ieee.single (flV n k - mgN f p)), .float .f32 (fw Ieee.single (stN f p))], .int .i64 mode, .bool neg] w (SPout e f n k mode neg w) := by
  obtain ⟨okY, leY⟩ := fl_ok n0 n1 hk
  have p0 := hp.1
  have p1 := hp.2.1
  have hl := hp.2.2.1
  have hY : flV n k < 2 ^ 191 := by
    have h190 : (pw 190).toNat = 2 ^ 190 := by decide
    have : (2 : Nat) ^ 191 = 2 * 2 ^ 190 := by decide
    rw [h190] at leY
    omega
  have c := mgN_cast f p (mg_bd hg p0 p1).1
  have hl2 : mgN f p ≤ flV n k := by omega
  obtain ⟨R, okR, ltR, eR, hR⟩ := rest_ok hg okY hY p0 p1 hl2
  obtain ⟨okS, _⟩ := stN_ok hg p0 p1
  obtain ⟨_, _, g2⟩ := gr_bd2 hg
  rw [eR]
  refine (rounded_any p mode R (stN f p) neg p0 (by omega) okR ltR okS m0 m1 w).mono ?_
  rintro rv w' ⟨rfl, hb⟩
  have hi : IsRnd f (grV e f) (flV n k : Int) (pw 149) mode neg (rndP (R : Int) (stN f p : Int) p mode neg) := ⟨p, hp, rnd_rest hg p0 p1 hl2 hR⟩
  exact ⟨_, rfl, rnd_back hg n0 n1 hk hi, rnd_bd2 hg hi, hb⟩

theorem roundSize_any (e f m n d mode : Int) (hg : goodB e f = true) (hm : m = 0 ∨ m = 1) (v0 : 0 ≤ n) (v1 : n < 4611686018427387904) (k0 : -149 ≤ (d - unV e f)) (k1 : (d - unV e f) ≤ 149) (m0 : 0 ≤ mode) (m1 : mode ≤ 5) (w : World) :
    Calls Tryz.prog 156 #[fmt e f, .int .i64 m, .int .i64 n, .int .i64 d, .int .i64 mode] w (RSout e f m n (d - unV e f) mode w) := by
  have OKY := Lib.hid (fl_ok v0 v1 k0).1
  obtain ⟨h1, h2, h3, h4⟩ := good_iff.1 hg
  obtain ⟨⟨a1, a2⟩, ⟨b1, b2⟩, ⟨c1, c2⟩, hmul⟩ := pw_facts h1 h2 h3 h4
  have pe : 1 ≤ pw (e + f) := pw_pos _
  have pe2 : pw (e + f) ≤ 32768 := pw_le 15 32768 rfl (by omega)
  clear hmul a1 a2 b1 b2 c1 c2
  rcases hm with rfl | rfl
  · go_enter Tryz.func156, Tryz.ntmps156
    go_wp2_with fail
    go_region_held3 (fun w' => w'.cell? ⟨w.heap.size, 0, none⟩ = some (.int .i64 e) ∧ w'.cell? ⟨w.heap.size, 1, none⟩ = some (.int .i64 f) ∧ w.heap.size < w'.heap.size) ((refine ⟨?_, ?_, ?_⟩ <;> first | with_reducible assumption | ((rw [cell_setRow_far _ _ _ _ _ (by omega)]); with_reducible assumption) | ((rw [setRow_size]); with_reducible assumption) | ((repeat rw [World.cell?_setCell_far _ _ _ _ (by simp)]); with_reducible assumption) | (simp; done) | (simp [World.setCell]; first | done | omega) | (simp [go_sem, World.cell?_alloc_past, World.cell?_setCell_far, *]; done))) ((first | (go_at_call 179; refine (floatUnits_any e f n d hg v0 v1 k0 k1 _).mono ?_; rintro rv w1 ⟨rfl, hb⟩; have ns : w.heap.size < w1.heap.size := hb.ltK; have n0 : w1.cell? ⟨w.heap.size, 0, none⟩ = some (.int .i64 e) := hb.cellK; have n1 : w1.cell? ⟨w.heap.size, 1, none⟩ = some (.int .i64 f) := hb.cellK; (first | (have nx := hx.trK hb; clear hx) | have nx := hb); clear hb; try clear hs; try clear g0; try clear g1; have hx := nx; clear nx; have hs := ns; clear ns; have g0 := n0; clear n0; have g1 := n1; clear n1) | (go_at_call 178; refine (spotOf_any e f _ hg OKY.out _).mono ?_; rintro rv w1 ⟨p, rfl, hp, hb⟩; have HP := Lib.hid hp; clear hp; have ns : w.heap.size < w1.heap.size := hb.ltK; have n0 : w1.cell? ⟨w.heap.size, 0, none⟩ = some (.int .i64 e) := hb.cellK; have n1 : w1.cell? ⟨w.heap.size, 1, none⟩ = some (.int .i64 f) := hb.cellK; (first | (have nx := hx.trK hb; clear hx) | have nx := hb); clear hb; try clear hs; try clear g0; try clear g1; have hx := nx; clear nx; have hs := ns; clear ns; have g0 := n0; clear n0; have g1 := n1; clear n1) | (go_at_call 180; refine (rounded_spot e f n (d - unV e f) mode p false hg v0 v1 k0 m0 m1 HP.out _).mono ?_; rintro rv w1 ⟨s, rfl, hq, ⟨s0, s1⟩, hb⟩; have HQ := Lib.hid hq; clear hq; have ns : w.heap.size < w1.heap.size := hb.ltK; have n0 : w1.cell? ⟨w.heap.size, 0, none⟩ = some (.int .i64 e) := hb.cellK; have n1 : w1.cell? ⟨w.heap.size, 1, none⟩ = some (.int .i64 f) := hb.cellK; (first | (have nx := hx.trK hb; clear hx) | have nx := hb); clear hb; try clear hs; try clear g0; try clear g1; have hx := nx; clear nx; have hs := ns; clear ns; have g0 := n0; clear n0; have g1 := n1; clear n1)))
    go_wp2_with (go_at_call 93; refine (signBit_any e f hg _).mono ?_; rintro rv w1 ⟨rfl, hb⟩; have ns : w.heap.size < w1.heap.size := hb.ltK; have n0 : w1.cell? ⟨w.heap.size, 0, none⟩ = some (.int .i64 e) := hb.cellK; have n1 : w1.cell? ⟨w.heap.size, 1, none⟩ = some (.int .i64 f) := hb.cellK; (first | (have nx := hx.trK hb; clear hx) | have nx := hb); clear hb; try clear hs; try clear g0; try clear g1; have hx := nx; clear nx; have hs := ns; clear ns; have g0 := n0; clear n0; have g1 := n1; clear n1)
    go_ret
    exact ⟨s, ret_int (by first | rfl | (simp; done) | omega), HQ.out, Ext.auK⟩
  · go_enter Tryz.func156, Tryz.ntmps156
    go_wp2_with fail
    go_region_held3 (fun w' => w'.cell? ⟨w.heap.size, 0, none⟩ = some (.int .i64 e) ∧ w'.cell? ⟨w.heap.size, 1, none⟩ = some (.int .i64 f) ∧ w.heap.size < w'.heap.size) ((refine ⟨?_, ?_, ?_⟩ <;> first | with_reducible assumption | ((rw [cell_setRow_far _ _ _ _ _ (by omega)]); with_reducible assumption) | ((rw [setRow_size]); with_reducible assumption) | ((repeat rw [World.cell?_setCell_far _ _ _ _ (by simp)]); with_reducible assumption) | (simp; done) | (simp [World.setCell]; first | done | omega) | (simp [go_sem, World.cell?_alloc_past, World.cell?_setCell_far, *]; done))) ((first | (go_at_call 179; refine (floatUnits_any e f n d hg v0 v1 k0 k1 _).mono ?_; rintro rv w1 ⟨rfl, hb⟩; have ns : w.heap.size < w1.heap.size := hb.ltK; have n0 : w1.cell? ⟨w.heap.size, 0, none⟩ = some (.int .i64 e) := hb.cellK; have n1 : w1.cell? ⟨w.heap.size, 1, none⟩ = some (.int .i64 f) := hb.cellK; (first | (have nx := hx.trK hb; clear hx) | have nx := hb); clear hb; try clear hs; try clear g0; try clear g1; have hx := nx; clear nx; have hs := ns; clear ns; have g0 := n0; clear n0; have g1 := n1; clear n1) | (go_at_call 178; refine (spotOf_any e f _ hg OKY.out _).mono ?_; rintro rv w1 ⟨p, rfl, hp, hb⟩; have HP := Lib.hid hp; clear hp; have ns : w.heap.size < w1.heap.size := hb.ltK; have n0 : w1.cell? ⟨w.heap.size, 0, none⟩ = some (.int .i64 e) := hb.cellK; have n1 : w1.cell? ⟨w.heap.size, 1, none⟩ = some (.int .i64 f) := hb.cellK; (first | (have nx := hx.trK hb; clear hx) | have nx := hb); clear hb; try clear hs; try clear g0; try clear g1; have hx := nx; clear nx; have hs := ns; clear ns; have g0 := n0; clear n0; have g1 := n1; clear n1) | (go_at_call 180; refine (rounded_spot e f n (d - unV e f) mode p true hg v0 v1 k0 m0 m1 HP.out _).mono ?_; rintro rv w1 ⟨s, rfl, hq, ⟨s0, s1⟩, hb⟩; have HQ := Lib.hid hq; clear hq; have ns : w.heap.size < w1.heap.size := hb.ltK; have n0 : w1.cell? ⟨w.heap.size, 0, none⟩ = some (.int .i64 e) := hb.cellK; have n1 : w1.cell? ⟨w.heap.size, 1, none⟩ = some (.int .i64 f) := hb.cellK; (first | (have nx := hx.trK hb; clear hx) | have nx := hb); clear hb; try clear hs; try clear g0; try clear g1; have hx := nx; clear nx; have hs := ns; clear ns; have g0 := n0; clear n0; have g1 := n1; clear n1)))
    go_wp2_with (go_at_call 93; refine (signBit_any e f hg _).mono ?_; rintro rv w1 ⟨rfl, hb⟩; have ns : w.heap.size < w1.heap.size := hb.ltK; have n0 : w1.cell? ⟨w.heap.size, 0, none⟩ = some (.int .i64 e) := hb.cellK; have n1 : w1.cell? ⟨w.heap.size, 1, none⟩ = some (.int .i64 f) := hb.cellK; (first | (have nx := hx.trK hb; clear hx) | have nx := hb); clear hb; try clear hs; try clear g0; try clear g1; have hx := nx; clear nx; have hs := ns; clear ns; have g0 := n0; clear n0; have g1 := n1; clear n1)
    go_ret
    exact ⟨s, ret_int (by first | rfl | (simp; done) | omega), HQ.out, Ext.auK⟩

/-- A number is rounded. -/
def RScal (e f n k mode : Int) (w : World) (rv : Ending) (w' : World) : Prop := ∃ s : Int, rv = .returned (.int .i64 (sgP e f n s)) ∧ RndD e f (n.natAbs : Int) k mode (decide (n < 0)) s ∧ Ext w w'

theorem roundScaled_any (e f n d mode : Int) (hg : goodB e f = true) (n0 : -4611686018427387904 < n) (n1 : n < 4611686018427387904) (k0 : -149 ≤ (d - unV e f)) (k1 : (d - unV e f) ≤ 149) (m0 : 0 ≤ mode) (m1 : mode ≤ 5) (w : World) :
    Calls Tryz.prog 132 #[fmt e f, .int .i64 n, .int .i64 d, .int .i64 mode] w (RScal e f n (d - unV e f) mode w) := by
  by_cases hn : n < 0
  · have hk : IntKind.i64.wrap (-n) = -n := IntWalk.i64_in _ (by omega)
    go_enter Tryz.func132, Tryz.ntmps132
    go_wp2_with (go_at_call 156; refine (roundSize_any e f 1 (-n) d mode hg (by omega) (by omega) (by omega) k0 k1 m0 m1 _).mono ?_; rintro rv w1 ⟨s, rfl, hq, hb⟩; have HQ := Lib.hid hq; clear hq; have ns : w.heap.size < w1.heap.size := hb.ltK; have n0 : w1.cell? ⟨w.heap.size, 0, none⟩ = some (.int .i64 e) := hb.cellK; have n1 : w1.cell? ⟨w.heap.size, 1, none⟩ = some (.int .i64 f) := hb.cellK; (first | (have nx := hx.trK hb; clear hx) | have nx := hb); clear hb; try clear hs; try clear g0; try clear g1; have hx := nx; clear nx; have hs := ns; clear ns; have g0 := n0; clear n0; have g1 := n1; clear n1)
    go_ret
    exact ⟨s, ret_int (by unfold sgP; rw [if_pos hn]; try omega), by rw [decide_eq_true hn, show (n.natAbs : Int) = -n by omega]; exact HQ.out, Ext.auK⟩
  · go_enter Tryz.func132, Tryz.ntmps132
    go_wp2_with (go_at_call 156; refine (roundSize_any e f 0 n d mode hg (by omega) (by omega) (by omega) k0 k1 m0 m1 _).mono ?_; rintro rv w1 ⟨s, rfl, hq, hb⟩; have HQ := Lib.hid hq; clear hq; have ns : w.heap.size < w1.heap.size := hb.ltK; have n0 : w1.cell? ⟨w.heap.size, 0, none⟩ = some (.int .i64 e) := hb.cellK; have n1 : w1.cell? ⟨w.heap.size, 1, none⟩ = some (.int .i64 f) := hb.cellK; (first | (have nx := hx.trK hb; clear hx) | have nx := hb); clear hb; try clear hs; try clear g0; try clear g1; have hx := nx; clear nx; have hs := ns; clear ns; have g0 := n0; clear n0; have g1 := n1; clear n1)
    go_ret
    exact ⟨s, ret_int (by unfold sgP; rw [if_neg (show ¬ n < 0 by omega)]; try omega), by rw [decide_eq_false (show ¬ n < 0 by omega), show (n.natAbs : Int) = n by omega]; exact HQ.out, Ext.auK⟩
end Go.Proofs.YtmddlbphanlfhaaGreatDoor

namespace Go.Proofs.YtmddlbphanlfhaaGreatDoor
open Go Go.RowKit
set_option linter.unusedSimpArgs false
set_option linter.unusedVariables false

theorem isMode_any (m : Int) (w : World) : Calls Tryz.prog 95 #[.int .i64 m] w fun rv w' => rv = .returned (.bool (moB m)) ∧ w = w' := by
  by_cases h1 : 0 ≤ m <;> by_cases h2 : m ≤ 5
  all_goals
    have hk : moB m = decide (0 ≤ m ∧ m ≤ 5) := rfl
    have Hk := Lib.hid hk; clear hk
    go_enter Tryz.func95, Tryz.ntmps95
    go_wp2
    go_ret
    exact ⟨ret_bool (by rw [Hk.out]; first | (simp [h1, h2]; done) | (simp; omega)), rfl⟩
end Go.Proofs.YtmddlbphanlfhaaGreatDoor

namespace Go.Proofs.YtmddlbphanlfhaaGreatDoor
open Go Go.RowKit
set_option linter.unusedSimpArgs false
set_option linter.unusedVariables false

/-- Twice a quotient, and the odd number behind it if something is left. -/
def oqV (n d : Int) : Int := 2 * n.tdiv d + sgV (n.tmod d)

theorem tdiv_bd {n d b : Int} (_ : 0 < d) (h1 : -b ≤ n) (h2 : n ≤ b) : -b ≤ n.tdiv d ∧ n.tdiv d ≤ b := by
  have h := Int.natAbs_tdiv_le_natAbs n d
  omega

theorem oq_bd {n d b : Int} (hd : 0 < d) (h1 : -b ≤ n) (h2 : n ≤ b) : -(2 * b + 1) ≤ oqV n d ∧ oqV n d ≤ 2 * b + 1 := by
  have h := tdiv_bd hd h1 h2
  have s := sg_bd (n.tmod d)
  unfold oqV
  omega

theorem oq_pos {n d : Int} (hd : 0 < d) (h : 0 ≤ n) : oqV n d = 2 * (n / d) + (if n % d = 0 then 0 else 1) := by
  unfold oqV
  rw [Int.tdiv_eq_ediv_of_nonneg h, Int.tmod_eq_emod_of_nonneg h]
  have r0 := Int.emod_nonneg n (show d ≠ 0 by omega)
  by_cases hz : n % d = 0
  · rw [if_pos hz, sg_zero hz]
  · rw [if_neg hz, sg_pos (by omega)]

/-- Of four times a number over twice another one. -/
theorem oq_four {X D : Int} (hD : 0 < D) (h : 0 ≤ X) : oqV (4 * X) (2 * D) = 2 * (2 * X / D) + (if 2 * X % D = 0 then 0 else 1) := by
  rw [oq_pos (by omega) (by omega)]
  have e : 4 * X = 2 * (2 * X) := by omega
  have e1 : 4 * X / (2 * D) = 2 * X / D := by rw [e]; exact Int.mul_ediv_mul_of_pos (a := 2) (2 * X) D (by decide)
  have e2 : 4 * X % (2 * D) = 2 * (2 * X % D) := by rw [e]; exact Int.mul_emod_mul_of_pos (a := 2) (2 * X) D (by decide)
  rw [e1, e2]
  congr 1
  by_cases hz : 2 * X % D = 0
  · rw [if_pos hz, if_pos (by omega)]
  · rw [if_neg hz, if_neg (by omega)]

theorem quiet_same {P : Program} {f : FuncId} {args : Array Value} {w : World} {n : Nat} {v : Value}
    (h : Calls P f args (w.drewN n) fun e w' => e = .returned v ∧ w.drewN n = w') : Calls P f args (w.drewN n) fun e w'' => e = .returned v ∧ ∃ m, w'' = w.drewN m :=
  h.mono fun _ _ ⟨he, hm⟩ => ⟨he, n, hm.symm⟩

theorem oddQuotient_any (n d : Int) (hd : 0 < d) (h1 : -2305843009213693952 ≤ n) (h2 : n ≤ 2305843009213693952) (w : World) : Calls Tryz.prog 181 #[.int .i64 n, .int .i64 d] w fun rv w' => rv = .returned (.int .i64 (oqV n d)) ∧ Ext w w' := by
  have b := tdiv_bd hd h1 h2
  have s := sg_bd (n.tmod d)
  have dz : ¬ d = 0 := by omega
  have dz2 : (d == 0) = false := by simpa using dz
  have dm : ¬ d = -1 := by omega
  have k1 : IntKind.i64.wrap (n.tdiv d) = n.tdiv d := IntWalk.i64_in _ (by omega)
  have k2 : IntKind.i64.wrap (2 * n.tdiv d) = 2 * n.tdiv d := IntWalk.i64_in _ (by omega)
  have k3 : IntKind.i64.wrap (2 * n.tdiv d + sgV (n.tmod d)) = 2 * n.tdiv d + sgV (n.tmod d) := IntWalk.i64_in _ (by omega)
  have k4 : n.tmod d - 0 = n.tmod d := by omega
  have hk : oqV n d = 2 * n.tdiv d + sgV (n.tmod d) := rfl
  have Hk := Lib.hid hk; clear hk
  go_enter Tryz.func181, Tryz.ntmps181
  go_wp2_with fail
  go_quiet ((first | (go_at_call 194; exact quiet_same (compare_sg _ _ _))))
  go_wp2_with fail
  go_ret
  exact ⟨ret_int (by rw [Hk.out]; try rw [k4]), Ext.auK⟩

theorem quarterPower_any (e f : Int) (hg : goodB e f = true) (w : World) : Calls Tryz.prog 134 #[fmt e f] w fun rv w' => rv = .returned (.int .i64 (unV e f - 2)) ∧ Ext w w' := by
  obtain ⟨u1, u2, u3, u4⟩ := un_bd hg
  have k1 : IntKind.i64.wrap (unV e f - 2) = unV e f - 2 := IntWalk.i64_in _ (by omega)
  go_enter Tryz.func134, Tryz.ntmps134
  go_wp2_with (go_at_call 159; refine (unitPower_any e f hg _).mono ?_; rintro rv w1 ⟨rfl, hb⟩; have ns : w.heap.size < w1.heap.size := hb.ltK; have n0 : w1.cell? ⟨w.heap.size, 0, none⟩ = some (.int .i64 e) := hb.cellK; have n1 : w1.cell? ⟨w.heap.size, 1, none⟩ = some (.int .i64 f) := hb.cellK; (first | (have nx := hx.trK hb; clear hx) | have nx := hb); clear hb; try clear hs; try clear g0; try clear g1; have hx := nx; clear nx; have hs := ns; clear ns; have g0 := n0; clear n0; have g1 := n1; clear n1)
  go_ret
  exact ⟨rfl, Ext.auK⟩

/-- How many quarters of a unit stand for a fraction. -/
def qrV (e f n d : Int) : Int := oqV (n * pw (2 - unV e f)) (2 * d)

theorem quartersOf_any (e f n d : Int) (hg : goodB e f = true) (n0 : -1000000000 ≤ n) (n1 : n ≤ 1000000000) (d0 : 0 < d) (d1 : d ≤ 1152921504606846976) (w : World) : Calls Tryz.prog 157 #[fmt e f, .int .i64 n, .int .i64 d] w fun rv w' => rv = .returned (.int .i64 (qrV e f n d)) ∧ Ext w w' := by
  obtain ⟨u1, u2, u3, u4⟩ := un_bd hg
  obtain ⟨q, hq⟩ : ∃ q, q = unV e f - 2 := ⟨_, rfl⟩
  have QPC := Lib.hid (fun w => by have := quarterPower_any e f hg w; rw [← hq] at this; exact this)
  have p1 := pw_pos (-q)
  have p2 := pw_le (a := -q) 26 67108864 rfl (by omega)
  have hs : 2 - unV e f = -q := by omega
  have m1 : n * pw (-q) ≤ 67108864000000000 := by
    rcases Int.le_total n 0 with h | h
    · have := Int.mul_nonneg (show 0 ≤ -n by omega) (show 0 ≤ pw (-q) by omega)
      rw [Int.neg_mul] at this
      omega
    · have := Int.mul_le_mul n1 p2 (by omega) (by decide)
      omega
  have m0 : -67108864000000000 ≤ n * pw (-q) := by
    rcases Int.le_total n 0 with h | h
    · have := Int.mul_le_mul (show -n ≤ 1000000000 by omega) p2 (by omega) (by decide)
      rw [Int.neg_mul] at this
      omega
    · have := Int.mul_nonneg h (show 0 ≤ pw (-q) by omega)
      omega
  unfold qrV
  rw [hs]
  have OQC := Lib.hid (fun w => oddQuotient_any (n * pw (-q)) (2 * d) (by omega) (by omega) (by omega) w)
  have k1 : IntKind.i64.wrap (-q) = -q := IntWalk.i64_in _ (by omega)
  have k2 : IntKind.i64.wrap (n * pw (-q)) = n * pw (-q) := IntWalk.i64_in _ (by omega)
  have k3 : IntKind.i64.wrap (2 * d) = 2 * d := IntWalk.i64_in _ (by omega)
  have k4 := pw_of (-q)
  have k5 : min (-q).toNat 64 = (-q).toNat := by omega
  have q3 : q ≤ 0 := by omega
  have q4 : 0 ≤ -q := by omega
  generalize oqV (n * pw (-q)) (2 * d) = Z at *
  clear hq hs m0 m1 p2
  go_enter Tryz.func157, Tryz.ntmps157
  go_wp2_with (first | (go_at_call 134; refine (QPC.out _).mono ?_; rintro rv w1 ⟨rfl, hb⟩; have ns : w.heap.size < w1.heap.size := hb.ltK; have n0 : w1.cell? ⟨w.heap.size, 0, none⟩ = some (.int .i64 e) := hb.cellK; have n1 : w1.cell? ⟨w.heap.size, 1, none⟩ = some (.int .i64 f) := hb.cellK; (first | (have nx := hx.trK hb; clear hx) | have nx := hb); clear hb; try clear hs; try clear g0; try clear g1; have hx := nx; clear nx; have hs := ns; clear ns; have g0 := n0; clear n0; have g1 := n1; clear n1) | (go_at_call 181; (with_reducible refine (OQC.out _).mono ?_); rintro rv w1 ⟨rfl, hb⟩; have ns : w.heap.size < w1.heap.size := hb.ltK; have n0 : w1.cell? ⟨w.heap.size, 0, none⟩ = some (.int .i64 e) := hb.cellK; have n1 : w1.cell? ⟨w.heap.size, 1, none⟩ = some (.int .i64 f) := hb.cellK; (first | (have nx := hx.trK hb; clear hx) | have nx := hb); clear hb; try clear hs; try clear g0; try clear g1; have hx := nx; clear nx; have hs := ns; clear ns; have g0 := n0; clear n0; have g1 := n1; clear n1))
  go_ret
  exact ⟨rfl, Ext.auK⟩

theorem qr_bd {e f n d : Int} (hg : goodB e f = true) (n0 : -1000000000 ≤ n) (n1 : n ≤ 1000000000) (d0 : 0 < d) : -1152921504606846976 < qrV e f n d ∧ qrV e f n d < 1152921504606846976 := by
  obtain ⟨u1, u2, u3, u4⟩ := un_bd hg
  have p1 := pw_pos (2 - unV e f)
  have p2 := pw_le (a := 2 - unV e f) 26 67108864 rfl (by omega)
  have m1 : n * pw (2 - unV e f) ≤ 67108864000000000 := by
    rcases Int.le_total n 0 with h | h
    · have := Int.mul_nonneg (show 0 ≤ -n by omega) (show 0 ≤ pw (2 - unV e f) by omega)
      rw [Int.neg_mul] at this
      omega
    · have := Int.mul_le_mul n1 p2 (by omega) (by decide)
      omega
  have m0 : -67108864000000000 ≤ n * pw (2 - unV e f) := by
    rcases Int.le_total n 0 with h | h
    · have := Int.mul_le_mul (show -n ≤ 1000000000 by omega) p2 (by omega) (by decide)
      rw [Int.neg_mul] at this
      omega
    · have := Int.mul_nonneg h (show 0 ≤ pw (2 - unV e f) by omega)
      omega
  have bd := oq_bd (n := n * pw (2 - unV e f)) (d := 2 * d) (b := 67108864000000000) (by omega) (by omega) (by omega)
  unfold qrV
  omega
end Go.Proofs.YtmddlbphanlfhaaGreatDoor

