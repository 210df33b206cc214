/-
  Contracts of the functions that the laws reach, and the plain facts that they rest on, each under the conditions that its line names; part 29.
-/
import Derived.Test.YtfgbndjhaiigbaaGreatDoorKrm1
import Derived.Test.YtfgbndjhaiigbaaGreatDoorKrm2
import Derived.Test.YtfgbndjhaiigbaaGreatDoorKrm3
import Derived.Test.YtfgbndjhaiigbaaGreatDoorKrm4
import Derived.Test.YtfgbndjhaiigbaaGreatDoorKrm5
import Derived.Test.YtfgbndjhaiigbaaGreatDoorKrm6
import Derived.Test.YtfgbndjhaiigbaaGreatDoorKrm7
import Derived.Test.YtfgbndjhaiigbaaGreatDoorKrm8
import Derived.Test.YtfgbndjhaiigbaaGreatDoorKrm9
import Derived.Test.YtfgbndjhaiigbaaGreatDoorKrm10
import Derived.Test.YtfgbndjhaiigbaaGreatDoorKrm11
import Derived.Test.YtfgbndjhaiigbaaGreatDoorKrm12
import Derived.Test.YtfgbndjhaiigbaaGreatDoorKrm13
import Derived.Test.YtfgbndjhaiigbaaGreatDoorKrm14
import Derived.Test.YtfgbndjhaiigbaaGreatDoorKrm15
import Derived.Test.YtfgbndjhaiigbaaGreatDoorKrm16
import Derived.Test.YtfgbndjhaiigbaaGreatDoorKrm17
import Derived.Test.YtfgbndjhaiigbaaGreatDoorKrm18
import Derived.Test.YtfgbndjhaiigbaaGreatDoorKrm19
import Derived.Test.YtfgbndjhaiigbaaGreatDoorKrm20
import Derived.Test.YtfgbndjhaiigbaaGreatDoorKrm21
import Derived.Test.YtfgbndjhaiigbaaGreatDoorKrm22
import Derived.Test.YtfgbndjhaiigbaaGreatDoorKrm23
import Derived.Test.YtfgbndjhaiigbaaGreatDoorKrm24
import Derived.Test.YtfgbndjhaiigbaaGreatDoorKrm25
import Derived.Test.YtfgbndjhaiigbaaGreatDoorKrm26
import Derived.Test.YtfgbndjhaiigbaaGreatDoorKrm27
import Derived.Test.YtfgbndjhaiigbaaGreatDoorKrm28
import Derived.Test.YtfgbndjhaiigbaaGreatDoorRows
import Derived.WalkKit
import Derived.LoopTactic
import Derived.Laws.Bits64b
import Derived.WalkSpells
import Derived.WalkLawsBesides
import Derived.StillTactics
import Derived.Laws.Pointers
import Derived.Deep.RegionHeld3
import Derived.Deep.QuietTactic
import Derived.BigQuiet
import Derived.Outline
import Derived.Lib.Hide
import Derived.RowKit3
import Derived.Carry
import Derived.IntWalk
import Derived.Laws.EntriesVeiled
import Derived.LoopN
namespace Go.Proofs.YtfgbndjhaiigbaaGreatDoor
open Go Go.RowKit
set_option linter.unusedSimpArgs false
set_option linter.unusedVariables false

theorem od_few {e f p : Int} (hp : patB e f p = true) : -2048 < odV (unitsV e f p) ∧ odV (unitsV e f p) < 2048 := by
  obtain ⟨hg, p0, p1⟩ := pat_iff.1 hp
  obtain ⟨h1, h2, h3, h4⟩ := good_iff.1 hg
  have c2 : pw f ≤ 1024 := pw_le 10 1024 rfl h4
  have c1 := pw_pos f
  have r0 := Int.emod_nonneg p (show pw f ≠ 0 by omega)
  have r1 := Int.emod_lt_of_pos p (show 0 < pw f by omega)
  obtain ⟨m0, m1⟩ := mag_bd e f p hp
  have key : 0 ≤ odV (magV e f p) ∧ odV (magV e f p) < 2048 := by
    have hm : magV e f p = if 0 < p % pw (e + f) / pw f then (p % pw f + pw f) * pw (p % pw (e + f) / pw f - 1) else p % pw f := rfl
    by_cases hx : 0 < p % pw (e + f) / pw f
    · rw [if_pos hx] at hm
      have o := od_scale (x := p % pw f + pw f) (j := p % pw (e + f) / pw f - 1) (by omega) (by omega) (by rw [← hm]; omega) (by rw [← hm]; omega)
      rw [hm, o.1]
      have b := od_bd (p % pw f + pw f) 2047 (by decide) (by omega) (by omega)
      have s := (od_sign (S := p % pw f + pw f) (by omega) (by omega)).1
      omega
    · rw [if_neg hx] at hm
      rw [hm]
      have b := od_bd (p % pw f) 2047 (by decide) (by omega) (by omega)
      have s := (od_sign (S := p % pw f) (by omega) (by omega)).1
      omega
  have hn : odV (-magV e f p) = -odV (magV e f p) := by
    by_cases hz : magV e f p = 0
    · rw [hz]; decide
    · obtain ⟨t0, t1, t2, t3⟩ := tz_spec (magV e f p) hz (by omega) (by omega)
      have := tz_of (-magV e f p) (-odV (magV e f p)) (tzV (magV e f p)) t0 (by omega) (by rw [Int.neg_mul, ← t2]) (by omega) (by omega)
      exact this.2
  unfold unitsV
  split
  · rw [hn]; omega
  · omega

theorem op_fin {e f p : Int} (h : finB e f p = true) : (Value.iface (opT e f p) (opX e f p)) = .iface 82 (.agg #[.int .i64 (p / pw (e + f)), .int .i64 ((odV (unitsV e f p)).natAbs : Int), .int .i64 (shE (unitsV e f p) (unV e f))]) := by
  unfold opT opX; rw [if_pos h, if_pos h]

theorem op_inf {e f p : Int} (h : finB e f p = false) (h2 : numB e f p = true) : (Value.iface (opT e f p) (opX e f p)) = .iface 104 (.agg #[.int .i64 (p / pw (e + f))]) := by
  unfold opT opX; rw [h, h2]; rfl

theorem op_no {e f p : Int} (h : finB e f p = false) (h2 : numB e f p = false) : (Value.iface (opT e f p) (opX e f p)) = .iface 107 (.agg #[]) := by
  unfold opT opX; rw [h, h2]; rfl

theorem kind_parts {e f p : Int} (hp : patB e f p = true) : (kindV e f p = 4 ∧ finB e f p = false ∧ numB e f p = false) ∨ (kindV e f p = 3 ∧ finB e f p = false ∧ numB e f p = true) ∨ (kindV e f p = 0 ∧ finB e f p = true ∧ unitsV e f p = 0) ∨ ((kindV e f p = 1 ∨ kindV e f p = 2) ∧ finB e f p = true ∧ unitsV e f p ≠ 0) := by
  obtain ⟨k0, k1, k2, k3⟩ := kind_units hp
  obtain ⟨l1, l2⟩ := kind_lt e f p hp
  have hc : kindV e f p = 0 ∨ kindV e f p = 1 ∨ kindV e f p = 2 ∨ kindV e f p = 3 ∨ kindV e f p = 4 := by omega
  rw [← l1, ← l2]
  rcases hc with h | h | h | h | h
  · exact Or.inr (Or.inr (Or.inl ⟨h, by rw [h]; rfl, k0 h⟩))
  · exact Or.inr (Or.inr (Or.inr ⟨Or.inl h, by rw [h]; rfl, k1 (Or.inl h)⟩))
  · exact Or.inr (Or.inr (Or.inr ⟨Or.inr h, by rw [h]; rfl, k1 (Or.inr h)⟩))
  · exact Or.inr (Or.inl ⟨h, by rw [h]; rfl, by rw [h]; rfl⟩)
  · exact Or.inl ⟨h, by rw [h]; rfl, by rw [h]; rfl⟩

theorem arNoK (e f p : Int) (v : Bool) (hp : patB e f p = true) (hv : (kindV e f p == 4) = v) (w : World) : Calls Tryz.prog 77 #[fmt e f, .int .i64 p] w fun rv w' => rv = .returned (.bool v) ∧ Ext w w' := by
  go_enter Tryz.func77, Tryz.ntmps77
  go_wp2_with (go_at_call 109; refine (fmKind_any e f p hp _).mono ?_; rintro rv w1 ⟨rfl, hb⟩; have ns : w.heap.size < w1.heap.size := hb.ltK; have n0 : w1.cell? ⟨w.heap.size, 0, none⟩ = some (.int .i64 e) := hb.cellK; have n1 : w1.cell? ⟨w.heap.size, 1, none⟩ = some (.int .i64 f) := hb.cellK; (first | (have nx := Ext.trans hx hb; clear hx) | (have nx := Ext.trans (hx.alloc _) hb; clear hx) | (have nx := Ext.trans hx.drew hb; clear hx) | have nx := hb); clear hb; try clear hs; try clear g0; try clear g1; have hx := nx; clear nx; have hs := ns; clear ns; have g0 := n0; clear n0; have g1 := n1; clear n1)
  go_ret
  exact ⟨by first | exact ret_bool hv | rfl | exact ret_bool rfl, Ext.auK⟩

theorem arIsK (e f p : Int) (v : Bool) (hp : patB e f p = true) (hv : (kindV e f p == 3) = v) (w : World) : Calls Tryz.prog 78 #[fmt e f, .int .i64 p] w fun rv w' => rv = .returned (.bool v) ∧ Ext w w' := by
  go_enter Tryz.func78, Tryz.ntmps78
  go_wp2_with (go_at_call 109; refine (fmKind_any e f p hp _).mono ?_; rintro rv w1 ⟨rfl, hb⟩; have ns : w.heap.size < w1.heap.size := hb.ltK; have n0 : w1.cell? ⟨w.heap.size, 0, none⟩ = some (.int .i64 e) := hb.cellK; have n1 : w1.cell? ⟨w.heap.size, 1, none⟩ = some (.int .i64 f) := hb.cellK; (first | (have nx := Ext.trans hx hb; clear hx) | (have nx := Ext.trans (hx.alloc _) hb; clear hx) | (have nx := Ext.trans hx.drew hb; clear hx) | have nx := hb); clear hb; try clear hs; try clear g0; try clear g1; have hx := nx; clear nx; have hs := ns; clear ns; have g0 := n0; clear n0; have g1 := n1; clear n1)
  go_ret
  exact ⟨by first | exact ret_bool hv | rfl | exact ret_bool rfl, Ext.auK⟩

theorem arZeroK (e f p : Int) (v : Bool) (hp : patB e f p = true) (hv : (kindV e f p == 0) = v) (w : World) : Calls Tryz.prog 79 #[fmt e f, .int .i64 p] w fun rv w' => rv = .returned (.bool v) ∧ Ext w w' := by
  go_enter Tryz.func79, Tryz.ntmps79
  go_wp2_with (go_at_call 109; refine (fmKind_any e f p hp _).mono ?_; rintro rv w1 ⟨rfl, hb⟩; have ns : w.heap.size < w1.heap.size := hb.ltK; have n0 : w1.cell? ⟨w.heap.size, 0, none⟩ = some (.int .i64 e) := hb.cellK; have n1 : w1.cell? ⟨w.heap.size, 1, none⟩ = some (.int .i64 f) := hb.cellK; (first | (have nx := Ext.trans hx hb; clear hx) | (have nx := Ext.trans (hx.alloc _) hb; clear hx) | (have nx := Ext.trans hx.drew hb; clear hx) | have nx := hb); clear hb; try clear hs; try clear g0; try clear g1; have hx := nx; clear nx; have hs := ns; clear ns; have g0 := n0; clear n0; have g1 := n1; clear n1)
  go_ret
  exact ⟨by first | exact ret_bool hv | rfl | exact ret_bool rfl, Ext.auK⟩

theorem arRound_any (e f n d mode : Int) (hg : goodB e f = true) (hn0 : -1152921504606846976 < n) (hn1 : n < 1152921504606846976) (k0 : -60 ≤ d - unV e f) (k1 : d - unV e f ≤ 88) (hm0 : 0 ≤ mode) (hm1 : mode ≤ 5) (w : World) :
    Calls Tryz.prog 86 #[fmt e f, .int .i64 n, .int .i64 d, .int .i64 mode] w (RRout e f n (d - unV e f) mode w) := by
  have u := un_bd hg
  go_enter Tryz.func86, Tryz.ntmps86
  go_wp2_with (first | (go_at_call 130; refine (rdShort_any n d (by omega) (by omega) (by omega) (by omega) _).mono ?_; rintro rv w1 ⟨rfl, hb⟩; have ns : w.heap.size < w1.heap.size := hb.ltK; have n0 : w1.cell? ⟨w.heap.size, 0, none⟩ = some (.int .i64 e) := hb.cellK; have n1 : w1.cell? ⟨w.heap.size, 1, none⟩ = some (.int .i64 f) := hb.cellK; (first | (have nx := Ext.trans hx hb; clear hx) | (have nx := Ext.trans (hx.alloc _) hb; clear hx) | (have nx := Ext.trans hx.drew hb; clear hx) | have nx := hb); clear hb; try clear hs; try clear g0; try clear g1; have hx := nx; clear nx; have hs := ns; clear ns; have g0 := n0; clear n0; have g1 := n1; clear n1) | (go_at_call 129; refine (rdRound_short e f n d mode hg hn0 hn1 k0 k1 hm0 hm1 _).mono ?_; rintro rv w1 ⟨s, rfl, hq, hb⟩; have HQ := Lib.hid hq; clear hq; have ns : w.heap.size < w1.heap.size := hb.ltK; have n0 : w1.cell? ⟨w.heap.size, 0, none⟩ = some (.int .i64 e) := hb.cellK; have n1 : w1.cell? ⟨w.heap.size, 1, none⟩ = some (.int .i64 f) := hb.cellK; (first | (have nx := Ext.trans hx hb; clear hx) | (have nx := Ext.trans (hx.alloc _) hb; clear hx) | (have nx := Ext.trans hx.drew hb; clear hx) | have nx := hb); clear hb; try clear hs; try clear g0; try clear g1; have hx := nx; clear nx; have hs := ns; clear ns; have g0 := n0; clear n0; have g1 := n1; clear n1))
  try (go_region_held3 (fun w' => w'.cell? ⟨w.heap.size, 0, none⟩ = some (.int .i64 e) ∧ w'.cell? ⟨w.heap.size, 1, none⟩ = some (.int .i64 f) ∧ w.heap.size < w'.heap.size) ((refine ⟨?_, ?_, ?_⟩ <;> first | with_reducible assumption | ((rw [cell_setRow_far _ _ _ _ _ (by omega)]); with_reducible assumption) | ((rw [setRow_size]); with_reducible assumption) | ((repeat rw [World.cell?_setCell_far _ _ _ _ (by simp)]); with_reducible assumption) | (simp; done) | (simp [World.setCell]; first | done | omega) | (simp [go_sem, World.cell?_alloc_past, World.cell?_setCell_far, *]; done))) ((first | (go_at_call 130; refine (rdShort_any n d (by omega) (by omega) (by omega) (by omega) _).mono ?_; rintro rv w1 ⟨rfl, hb⟩; have ns : w.heap.size < w1.heap.size := hb.ltK; have n0 : w1.cell? ⟨w.heap.size, 0, none⟩ = some (.int .i64 e) := hb.cellK; have n1 : w1.cell? ⟨w.heap.size, 1, none⟩ = some (.int .i64 f) := hb.cellK; (first | (have nx := Ext.trans hx hb; clear hx) | (have nx := Ext.trans (hx.alloc _) hb; clear hx) | (have nx := Ext.trans hx.drew hb; clear hx) | have nx := hb); clear hb; try clear hs; try clear g0; try clear g1; have hx := nx; clear nx; have hs := ns; clear ns; have g0 := n0; clear n0; have g1 := n1; clear n1) | (go_at_call 129; refine (rdRound_short e f n d mode hg hn0 hn1 k0 k1 hm0 hm1 _).mono ?_; rintro rv w1 ⟨s, rfl, hq, hb⟩; have HQ := Lib.hid hq; clear hq; have ns : w.heap.size < w1.heap.size := hb.ltK; have n0 : w1.cell? ⟨w.heap.size, 0, none⟩ = some (.int .i64 e) := hb.cellK; have n1 : w1.cell? ⟨w.heap.size, 1, none⟩ = some (.int .i64 f) := hb.cellK; (first | (have nx := Ext.trans hx hb; clear hx) | (have nx := Ext.trans (hx.alloc _) hb; clear hx) | (have nx := Ext.trans hx.drew hb; clear hx) | have nx := hb); clear hb; try clear hs; try clear g0; try clear g1; have hx := nx; clear nx; have hs := ns; clear ns; have g0 := n0; clear n0; have g1 := n1; clear n1))))
  try go_wp2_with (first | (go_at_call 130; refine (rdShort_any n d (by omega) (by omega) (by omega) (by omega) _).mono ?_; rintro rv w1 ⟨rfl, hb⟩; have ns : w.heap.size < w1.heap.size := hb.ltK; have n0 : w1.cell? ⟨w.heap.size, 0, none⟩ = some (.int .i64 e) := hb.cellK; have n1 : w1.cell? ⟨w.heap.size, 1, none⟩ = some (.int .i64 f) := hb.cellK; (first | (have nx := Ext.trans hx hb; clear hx) | (have nx := Ext.trans (hx.alloc _) hb; clear hx) | (have nx := Ext.trans hx.drew hb; clear hx) | have nx := hb); clear hb; try clear hs; try clear g0; try clear g1; have hx := nx; clear nx; have hs := ns; clear ns; have g0 := n0; clear n0; have g1 := n1; clear n1) | (go_at_call 129; refine (rdRound_short e f n d mode hg hn0 hn1 k0 k1 hm0 hm1 _).mono ?_; rintro rv w1 ⟨s, rfl, hq, hb⟩; have HQ := Lib.hid hq; clear hq; have ns : w.heap.size < w1.heap.size := hb.ltK; have n0 : w1.cell? ⟨w.heap.size, 0, none⟩ = some (.int .i64 e) := hb.cellK; have n1 : w1.cell? ⟨w.heap.size, 1, none⟩ = some (.int .i64 f) := hb.cellK; (first | (have nx := Ext.trans hx hb; clear hx) | (have nx := Ext.trans (hx.alloc _) hb; clear hx) | (have nx := Ext.trans hx.drew hb; clear hx) | have nx := hb); clear hb; try clear hs; try clear g0; try clear g1; have hx := nx; clear nx; have hs := ns; clear ns; have g0 := n0; clear n0; have g1 := n1; clear n1))
  go_ret
  exact ⟨s, rfl, HQ.out, Ext.auK⟩

/-- What operations on two patterns ask for. -/
def abB (e f a b mode : Int) : Bool := patB e f a && (patB e f b && moB mode)

theorem ab_no {e f a b mode : Int} (h : abB e f a b mode = false) : patB e f a = false ∨ (patB e f a = true ∧ patB e f b = false) ∨ (patB e f a = true ∧ patB e f b = true ∧ moB mode = false) := by
  unfold abB at h
  cases h0 : patB e f a
  · exact Or.inl rfl
  · rw [h0] at h
    cases h1 : patB e f b
    · exact Or.inr (Or.inl ⟨rfl, rfl⟩)
    · rw [h1] at h; exact Or.inr (Or.inr ⟨rfl, rfl, by simpa using h⟩)

theorem arAsked_any (e f a b mode : Int) (w : World) : Calls Tryz.prog 62 #[fmt e f, .int .i64 a, .int .i64 b, .int .i64 mode] w fun rv w' => rv = .returned (.bool (abB e f a b mode)) ∧ Ext w w' := by
  unfold abB
  cases h0 : patB e f a
  · go_enter Tryz.func62, Tryz.ntmps62
    go_wp2_with (first | (go_at_call 75; (with_reducible refine (fmIs_any e f a _).mono ?_); rintro rv w1 ⟨rfl, hb⟩; have ns : w.heap.size < w1.heap.size := hb.ltK; have n0 : w1.cell? ⟨w.heap.size, 0, none⟩ = some (.int .i64 e) := hb.cellK; have n1 : w1.cell? ⟨w.heap.size, 1, none⟩ = some (.int .i64 f) := hb.cellK; (first | (have nx := Ext.trans hx hb; clear hx) | (have nx := Ext.trans (hx.alloc _) hb; clear hx) | (have nx := Ext.trans hx.drew hb; clear hx) | have nx := hb); clear hb; try clear hs; try clear g0; try clear g1; have hx := nx; clear nx; have hs := ns; clear ns; have g0 := n0; clear n0; have g1 := n1; clear n1) | (go_at_call 75; (with_reducible refine (fmIs_any e f b _).mono ?_); rintro rv w1 ⟨rfl, hb⟩; have ns : w.heap.size < w1.heap.size := hb.ltK; have n0 : w1.cell? ⟨w.heap.size, 0, none⟩ = some (.int .i64 e) := hb.cellK; have n1 : w1.cell? ⟨w.heap.size, 1, none⟩ = some (.int .i64 f) := hb.cellK; (first | (have nx := Ext.trans hx hb; clear hx) | (have nx := Ext.trans (hx.alloc _) hb; clear hx) | (have nx := Ext.trans hx.drew hb; clear hx) | have nx := hb); clear hb; try clear hs; try clear g0; try clear g1; have hx := nx; clear nx; have hs := ns; clear ns; have g0 := n0; clear n0; have g1 := n1; clear n1) | (go_at_call 111; refine (rdMode_any _ _).mono ?_; rintro rv w1 ⟨rfl, rfl⟩))
    go_ret
    exact ⟨rfl, Ext.auK⟩
  · cases h1 : patB e f b
    · go_enter Tryz.func62, Tryz.ntmps62
      go_wp2_with (first | (go_at_call 75; (with_reducible refine (fmIs_any e f a _).mono ?_); rintro rv w1 ⟨rfl, hb⟩; have ns : w.heap.size < w1.heap.size := hb.ltK; have n0 : w1.cell? ⟨w.heap.size, 0, none⟩ = some (.int .i64 e) := hb.cellK; have n1 : w1.cell? ⟨w.heap.size, 1, none⟩ = some (.int .i64 f) := hb.cellK; (first | (have nx := Ext.trans hx hb; clear hx) | (have nx := Ext.trans (hx.alloc _) hb; clear hx) | (have nx := Ext.trans hx.drew hb; clear hx) | have nx := hb); clear hb; try clear hs; try clear g0; try clear g1; have hx := nx; clear nx; have hs := ns; clear ns; have g0 := n0; clear n0; have g1 := n1; clear n1) | (go_at_call 75; (with_reducible refine (fmIs_any e f b _).mono ?_); rintro rv w1 ⟨rfl, hb⟩; have ns : w.heap.size < w1.heap.size := hb.ltK; have n0 : w1.cell? ⟨w.heap.size, 0, none⟩ = some (.int .i64 e) := hb.cellK; have n1 : w1.cell? ⟨w.heap.size, 1, none⟩ = some (.int .i64 f) := hb.cellK; (first | (have nx := Ext.trans hx hb; clear hx) | (have nx := Ext.trans (hx.alloc _) hb; clear hx) | (have nx := Ext.trans hx.drew hb; clear hx) | have nx := hb); clear hb; try clear hs; try clear g0; try clear g1; have hx := nx; clear nx; have hs := ns; clear ns; have g0 := n0; clear n0; have g1 := n1; clear n1) | (go_at_call 111; refine (rdMode_any _ _).mono ?_; rintro rv w1 ⟨rfl, rfl⟩))
      go_ret
      exact ⟨rfl, Ext.auK⟩
    · go_enter Tryz.func62, Tryz.ntmps62
      go_wp2_with (first | (go_at_call 75; (with_reducible refine (fmIs_any e f a _).mono ?_); rintro rv w1 ⟨rfl, hb⟩; have ns : w.heap.size < w1.heap.size := hb.ltK; have n0 : w1.cell? ⟨w.heap.size, 0, none⟩ = some (.int .i64 e) := hb.cellK; have n1 : w1.cell? ⟨w.heap.size, 1, none⟩ = some (.int .i64 f) := hb.cellK; (first | (have nx := Ext.trans hx hb; clear hx) | (have nx := Ext.trans (hx.alloc _) hb; clear hx) | (have nx := Ext.trans hx.drew hb; clear hx) | have nx := hb); clear hb; try clear hs; try clear g0; try clear g1; have hx := nx; clear nx; have hs := ns; clear ns; have g0 := n0; clear n0; have g1 := n1; clear n1) | (go_at_call 75; (with_reducible refine (fmIs_any e f b _).mono ?_); rintro rv w1 ⟨rfl, hb⟩; have ns : w.heap.size < w1.heap.size := hb.ltK; have n0 : w1.cell? ⟨w.heap.size, 0, none⟩ = some (.int .i64 e) := hb.cellK; have n1 : w1.cell? ⟨w.heap.size, 1, none⟩ = some (.int .i64 f) := hb.cellK; (first | (have nx := Ext.trans hx hb; clear hx) | (have nx := Ext.trans (hx.alloc _) hb; clear hx) | (have nx := Ext.trans hx.drew hb; clear hx) | have nx := hb); clear hb; try clear hs; try clear g0; try clear g1; have hx := nx; clear nx; have hs := ns; clear ns; have g0 := n0; clear n0; have g1 := n1; clear n1) | (go_at_call 111; refine (rdMode_any _ _).mono ?_; rintro rv w1 ⟨rfl, rfl⟩))
      go_ret
      exact ⟨by simp, Ext.auK⟩

def ARboth (D : Int → Prop) (w : World) (rv : Ending) (w' : World) : Prop := ∃ r : Int, rv = .returned (.tuple #[.int .i64 r, .bool true]) ∧ D r ∧ Ext w w'

/-- An operand, rounded, in two values. -/
def OTout (e f m n k mode : Int) (w : World) (rv : Ending) (w' : World) : Prop := ∃ s : Int, rv = .returned (.tuple #[.int .i64 (s + m * pw (e + f)), .bool true]) ∧ RndD e f n k mode (m == 1) s ∧ Ext w w'
end Go.Proofs.YtfgbndjhaiigbaaGreatDoor

namespace Go.Proofs.YtfgbndjhaiigbaaGreatDoor
open Go Go.RowKit
set_option linter.unusedSimpArgs false
set_option linter.unusedVariables false
set_option maxRecDepth 100000

theorem un_small {e f p : Int} (hp : patB e f p = true) : -2048 < odV (unitsV e f p) ∧ odV (unitsV e f p) < 2048 ∧ shE (unitsV e f p) (unV e f) ≤ unV e f + 42 ∧ (unitsV e f p ≠ 0 → unV e f ≤ shE (unitsV e f p) (unV e f)) ∧ (unitsV e f p = 0 → shE (unitsV e f p) (unV e f) = 0) := by
  obtain ⟨o1, o2⟩ := od_few hp
  have ub := units_bd e f p hp
  have u := un_bd (pat_iff.1 hp).1
  refine ⟨o1, o2, ?_⟩
  by_cases h0 : unitsV e f p = 0
  · rw [show shE (unitsV e f p) (unV e f) = 0 from if_pos h0]
    exact ⟨by omega, fun h => absurd h0 h, fun _ => rfl⟩
  · have t := tz_lt (S := unitsV e f p) (b := 43) h0 (by omega) (by omega) (by rw [show pw 43 = 8796093022208 from rfl]; omega)
    rw [show shE (unitsV e f p) (unV e f) = unV e f + tzV (unitsV e f p) from if_neg h0]
    exact ⟨by omega, fun _ => by omega, fun h => absurd h h0⟩
end Go.Proofs.YtfgbndjhaiigbaaGreatDoor

