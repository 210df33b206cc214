/-
  Contracts of the functions that the laws reach, and the plain facts that they rest on, each under the conditions that its line names; part 20.
-/
import Derived.Test.YtmddlbphanlfhaaGreatDoorKps1
import Derived.Test.YtmddlbphanlfhaaGreatDoorKps2
import Derived.Test.YtmddlbphanlfhaaGreatDoorKps3
import Derived.Test.YtmddlbphanlfhaaGreatDoorKps4
import Derived.Test.YtmddlbphanlfhaaGreatDoorKps5
import Derived.Test.YtmddlbphanlfhaaGreatDoorKps11
import Derived.Test.YtmddlbphanlfhaaGreatDoorKps12
import Derived.Test.YtmddlbphanlfhaaGreatDoorKps19
import Derived.Test.YtmddlbphanlfhaaGreatDoorRows
import Derived.WalkKit
import Derived.LoopTactic
import Derived.Laws.Bits64b
import Derived.WalkSpells
import Derived.WalkLawsBesides
import Derived.StillTactics
import Derived.Laws.Pointers
import Derived.Deep.RegionHeld3
import Derived.Deep.QuietTactic
import Derived.BigQuiet
import Derived.Outline
import Derived.Deep.DeepCutAuto
import Derived.Deep.CutBlock
import Derived.Lib.Hide
import Derived.RowKit3
import Derived.Carry
import Derived.IntWalk
namespace Go.Proofs.YtmddlbphanlfhaaGreatDoor
open Go Go.RowKit
set_option linter.unusedSimpArgs false
set_option linter.unusedVariables false

abbrev tri (a b c : Int) : Value := .agg #[.int .i64 (a), .int .i64 (b), .int .i64 (c)]

/-- The size is rounded. -/
def RndOut (e f u r h mode : Int) (neg : Bool) (w : World) (rv : Ending) (w' : World) : Prop := ∃ s : Int, rv = .returned (.int .i64 s) ∧ IsRnd f (grV e f) (u * h + r) h mode neg s ∧ Ext w w'

theorem gr_bd2 {e f : Int} (hg : goodB e f = true) : 0 < grV e f ∧ grV e f < pw (e + f) ∧ grV e f ≤ 32767 := by
  obtain ⟨h1, h2, h3, h4⟩ := good_iff.1 hg
  obtain ⟨⟨a1, a2⟩, ⟨b1, b2⟩, ⟨c1, c2⟩, hmul⟩ := pw_facts h1 h2 h3 h4
  have := Int.mul_le_mul_of_nonneg_right (show 3 ≤ pw e - 1 by omega) (show 0 ≤ pw f by omega)
  unfold grV
  rw [hmul] at a2
  rw [hmul, Int.sub_mul]
  rw [Int.sub_mul] at this
  omega

theorem step_st {e f p : Int} (h0 : 0 ≤ p) (h1 : p < pw (e + f)) : stepV e f p = stV f p := by
  unfold stepV stV
  rw [Int.emod_eq_of_lt h0 h1]

theorem st_bd {e f p : Int} (hg : goodB e f = true) (h0 : 0 ≤ p) (h1 : p ≤ grV e f) : 1 ≤ stV f p ∧ stV f p ≤ 1073741824 := by
  obtain ⟨g1, g2, g3, g4⟩ := good_iff.1 hg
  obtain ⟨⟨a1, a2⟩, ⟨b1, b2⟩, ⟨c1, c2⟩, hmul⟩ := pw_facts g1 g2 g3 g4
  have hx : p / pw f < pw e - 1 := Int.ediv_lt_of_lt_mul (by omega) (by unfold grV at h1; omega)
  unfold stV
  exact ⟨pw_pos _, pw_le 30 1073741824 rfl (by omega)⟩

theorem mg_bd {e f p : Int} (hg : goodB e f = true) (h0 : 0 ≤ p) (h1 : p ≤ grV e f) : 0 ≤ mgV f p ∧ mgV f p < 2199023255552 := by
  obtain ⟨t0, t1⟩ := pt_lt hg ⟨p, h0, h1, Or.inl rfl⟩
  omega

theorem fmUnits_size (e f p : Int) (hp : patB e f p = true) (h : p < pw (e + f)) (w : World) : Calls Tryz.prog 76 #[fmt e f, .int .i64 p] w fun rv w' => rv = .returned (.int .i64 (mgV f p)) ∧ Ext w w' := by
  have := fmUnits_any e f p hp w
  rwa [units_mg e f p hp h] at this

theorem fmStep_size (e f p : Int) (hp : patB e f p = true) (h0 : 0 ≤ p) (h : p < pw (e + f)) (w : World) : Calls Tryz.prog 77 #[fmt e f, .int .i64 p] w fun rv w' => rv = .returned (.int .i64 (stV f p)) ∧ Ext w w' := by
  have := fmStep_any e f p hp w
  rwa [step_st h0 h] at this

theorem hf_val (x r h : Int) : hfV x r h = -1 ∨ hfV x r h = 0 ∨ hfV x r h = 1 := by
  unfold hfV
  split
  · have := sg_bd (2 * r - h); omega
  · split
    · omega
    · have := sg_bd x; omega

theorem hf_abs {u r h m s : Int} : 2 * (u * h + r - m * h) - s * h = (2 * (u - m) - s) * h + 2 * r := by
  rw [Int.sub_mul, Int.mul_assoc, Int.sub_mul]
  omega

set_option maxRecDepth 100000 in
set_option maxHeartbeats 6400000 in
theorem rdSize_any (e f u r h mode : Int) (neg : Bool) (hg : goodB e f = true) (hu0 : 0 ≤ u) (hu1 : u ≤ 1152921504606846976) (hr0 : 0 ≤ r) (hr1 : r < h) (hh : h ≤ 1152921504606846976) (hm0 : 0 ≤ mode) (hm1 : mode ≤ 5) (w : World) : Calls Tryz.prog 39 #[fmt e f, tri u r h, .bool neg, .int .i64 mode] w (RndOut e f u r h mode neg w) := by
  go_enter Tryz.func39, Tryz.ntmps39
  go_wp2_with (go_at_call 75; refine (fmBelow_any e f u hg hu0 _).mono ?_; rintro rv w1 ⟨p, rfl, hq, hb⟩; have ns : w.heap.size + 1 < w1.heap.size := hb.ltK; have n0 : w1.cell? ⟨w.heap.size, 0, none⟩ = some (.int .i64 e) := hb.cellK; have n1 : w1.cell? ⟨w.heap.size, 1, none⟩ = some (.int .i64 f) := hb.cellK; have n2 : w1.cell? ⟨w.heap.size + 1, 0, none⟩ = some (.int .i64 u) := hb.cellK; have n3 : w1.cell? ⟨w.heap.size + 1, 1, none⟩ = some (.int .i64 r) := hb.cellK; have n4 : w1.cell? ⟨w.heap.size + 1, 2, none⟩ = some (.int .i64 h) := hb.cellK; (first | (have nx := hx.trK hb; clear hx) | have nx := hb); clear hb; try clear hs; try clear g0; try clear g1; try clear g2; try clear g3; try clear g4; have hx := nx; clear nx; have hs := ns; clear ns; have g0 := n0; clear n0; have g1 := n1; clear n1; have g2 := n2; clear n2; have g3 := n3; clear n3; have g4 := n4; clear n4)
  have hq2 : IsBelow f (grV e f) u p := hq
  clear hq
  obtain ⟨p0, p1, p2, p3⟩ := hq2
  have HB := Lib.hid (rnd_told (e := e) (f := f) (u := u) (r := r) (h := h) (p := p) (by omega) hr0 hr1 ⟨p0, p1, p2, p3⟩)
  clear p3
  obtain ⟨g0, g1, g2⟩ := gr_bd2 hg
  have hp : patB e f p = true := pat_iff.2 ⟨hg, p0, by omega⟩
  have hlt : p < pw (e + f) := by omega
  obtain ⟨m0, m1⟩ := mg_bd hg p0 p1
  obtain ⟨s0, s1⟩ := st_bd hg p0 p1
  have CU := Lib.hid (fun w => fmUnits_size e f p hp hlt w)
  have CS := Lib.hid (fun w => fmStep_size e f p hp p0 hlt w)
  have k1 : IntKind.i64.wrap (u - mgV f p) = u - mgV f p := IntWalk.i64_in _ (by omega)
  have k2 : IntKind.i64.wrap (2 * (u - mgV f p)) = 2 * (u - mgV f p) := IntWalk.i64_in _ (by omega)
  have k3 : IntKind.i64.wrap (2 * (u - mgV f p) - stV f p) = 2 * (u - mgV f p) - stV f p := IntWalk.i64_in _ (by omega)
  have k4 : IntKind.i64.wrap (2 * r) = 2 * r := IntWalk.i64_in _ (by omega)
  have k5 : IntKind.i64.wrap (2 * r - h) = 2 * r - h := IntWalk.i64_in _ (by omega)
  have HZ := Lib.hid (told_zero (f := f) (u := u) (r := r) (h := h) (p := p) (by omega) hr0 p2)
  have HF := Lib.hid (hf_is (x := (2 * (u - mgV f p) - stV f p)) (r := r) (h := h) (A := u * h + r - mgV f p * h) (B := stV f p * h) hr0 hr1 hf_abs)
  go_region_held3 (fun w' => w'.cell? ⟨w.heap.size, 0, none⟩ = some (.int .i64 e) ∧ w'.cell? ⟨w.heap.size, 1, none⟩ = some (.int .i64 f) ∧ w'.cell? ⟨w.heap.size + 1, 0, none⟩ = some (.int .i64 u) ∧ w'.cell? ⟨w.heap.size + 1, 1, none⟩ = some (.int .i64 r) ∧ w'.cell? ⟨w.heap.size + 1, 2, none⟩ = some (.int .i64 h) ∧ w.heap.size + 1 < w'.heap.size) ((refine ⟨?_, ?_, ?_, ?_, ?_, ?_⟩ <;> first | with_reducible assumption | ((repeat first | rw [cell_set_far _ _ _ _ _ _ (by omega)] | rw [cell_alloc_before _ _ _ _ (by omega)] | rw [cell_alloc_drew _ _ _ _ (by omega)] | rw [cell_drew]); with_reducible assumption) | ((rw [cell_setRow_far _ _ _ _ _ (by omega)]); with_reducible assumption) | ((rw [setRow_size]); with_reducible assumption) | (simp; done) | (simp [World.setCell]; first | done | omega) | (simp [go_sem, World.cell?_alloc_past, World.cell?_setCell_far, *]; done))) ((first | (go_at_call 76; refine (CU.out _).mono ?_; rintro rv w1 ⟨rfl, hb⟩; have ns : w.heap.size + 1 < w1.heap.size := hb.ltK; have n0 : w1.cell? ⟨w.heap.size, 0, none⟩ = some (.int .i64 e) := hb.cellK; have n1 : w1.cell? ⟨w.heap.size, 1, none⟩ = some (.int .i64 f) := hb.cellK; have n2 : w1.cell? ⟨w.heap.size + 1, 0, none⟩ = some (.int .i64 u) := hb.cellK; have n3 : w1.cell? ⟨w.heap.size + 1, 1, none⟩ = some (.int .i64 r) := hb.cellK; have n4 : w1.cell? ⟨w.heap.size + 1, 2, none⟩ = some (.int .i64 h) := hb.cellK; (first | (have nx := hx.trK hb; clear hx) | have nx := hb); clear hb; try clear hs; try clear g0; try clear g1; try clear g2; try clear g3; try clear g4; have hx := nx; clear nx; have hs := ns; clear ns; have g0 := n0; clear n0; have g1 := n1; clear n1; have g2 := n2; clear n2; have g3 := n3; clear n3; have g4 := n4; clear n4) | (go_at_call 77; refine (CS.out _).mono ?_; rintro rv w1 ⟨rfl, hb⟩; have ns : w.heap.size + 1 < w1.heap.size := hb.ltK; have n0 : w1.cell? ⟨w.heap.size, 0, none⟩ = some (.int .i64 e) := hb.cellK; have n1 : w1.cell? ⟨w.heap.size, 1, none⟩ = some (.int .i64 f) := hb.cellK; have n2 : w1.cell? ⟨w.heap.size + 1, 0, none⟩ = some (.int .i64 u) := hb.cellK; have n3 : w1.cell? ⟨w.heap.size + 1, 1, none⟩ = some (.int .i64 r) := hb.cellK; have n4 : w1.cell? ⟨w.heap.size + 1, 2, none⟩ = some (.int .i64 h) := hb.cellK; (first | (have nx := hx.trK hb; clear hx) | have nx := hb); clear hb; try clear hs; try clear g0; try clear g1; try clear g2; try clear g3; try clear g4; have hx := nx; clear nx; have hs := ns; clear ns; have g0 := n0; clear n0; have g1 := n1; clear n1; have g2 := n2; clear n2; have g3 := n3; clear n3; have g4 := n4; clear n4)))
  by_cases hz : mgV f p = u ∧ r = 0
  · have b1 : (mgV f p == u) = true := by simpa using hz.1
    have b2 : (r == 0) = true := by simpa using hz.2
    have hA := HZ.out.2 hz
    have HA := Lib.hid hA; clear hA hz
    go_wp2_with fail
    go_ret
    exact ⟨p, rfl, ⟨p, HB.out, by unfold rndP; rw [if_pos HA.out]⟩, Ext.auK⟩
  · have HA := Lib.hid (fun hA => hz (HZ.out.1 hA))
    have two : ((mgV f p == u) = false) ∨ ((mgV f p == u) = true ∧ (r == 0) = false) := by
      by_cases e1 : mgV f p = u
      · right; exact ⟨by simpa using e1, by simp; omega⟩
      · left; simpa using e1
    clear hz
    rcases two with b1 | ⟨b1, b2⟩
    all_goals
      go_upto_block 0 with (go_at_call 78; refine (rdSignOf_any _ _).mono ?_; rintro rv w1 ⟨rfl, rfl⟩)
      go_cut [12] (fun s12 wx => s12 = .int .i64 (hfV (2 * (u - mgV f p) - stV f p) r h) ∧ Ext w wx)
      case first =>
        by_cases x1 : (2 * (u - mgV f p) - stV f p) = -1
        · have c1 : ((2 * (u - mgV f p) - stV f p) == -1) = true := by simpa using x1
          have hv : hfV (2 * (u - mgV f p) - stV f p) r h = sgV (2 * r - h) := by unfold hfV; rw [if_pos x1]
          have HV := Lib.hid hv; clear hv x1
          go_wp2_with (go_at_call 78; refine (rdSignOf_any _ _).mono ?_; rintro rv w1 ⟨rfl, rfl⟩)
          go_meet
          exact ⟨by rw [HV.out], Ext.auK⟩
        · have c1 : ((2 * (u - mgV f p) - stV f p) == -1) = false := by simpa using x1
          by_cases y : (2 * (u - mgV f p) - stV f p) = 0 ∧ 0 < r
          · have hv : hfV (2 * (u - mgV f p) - stV f p) r h = 1 := by unfold hfV; rw [if_neg x1, if_pos y]
            have d1 : (sgV (2 * (u - mgV f p) - stV f p) == 0) = true := by rw [y.1]; rfl
            have d2 := y.2
            have HV := Lib.hid hv; clear hv x1 y
            go_wp2_with (go_at_call 78; refine (rdSignOf_any _ _).mono ?_; rintro rv w1 ⟨rfl, rfl⟩)
            go_meet
            exact ⟨by rw [HV.out], Ext.auK⟩
          · have hv : hfV (2 * (u - mgV f p) - stV f p) r h = sgV (2 * (u - mgV f p) - stV f p) := by unfold hfV; rw [if_neg x1, if_neg y]
            by_cases y0 : (2 * (u - mgV f p) - stV f p) = 0
            · have d1 : (sgV (2 * (u - mgV f p) - stV f p) == 0) = true := by rw [y0]; rfl
              have d2 : ¬ 0 < r := fun h => y ⟨y0, h⟩
              have HV := Lib.hid hv; clear hv x1 y y0
              go_wp2_with (go_at_call 78; refine (rdSignOf_any _ _).mono ?_; rintro rv w1 ⟨rfl, rfl⟩)
              go_meet
              exact ⟨by rw [HV.out], Ext.auK⟩
            · have d1 : (sgV (2 * (u - mgV f p) - stV f p) == 0) = false := by
                have : sgV (2 * (u - mgV f p) - stV f p) ≠ 0 := by
                  rcases Int.lt_or_gt_of_ne y0 with g | g
                  · rw [sg_neg g]; decide
                  · rw [sg_pos g]; decide
                simpa using this
              have HV := Lib.hid hv; clear hv x1 y y0
              go_wp2_with (go_at_call 78; refine (rdSignOf_any _ _).mono ?_; rintro rv w1 ⟨rfl, rfl⟩)
              go_meet
              exact ⟨by rw [HV.out], Ext.auK⟩
      case rest =>
        obtain ⟨rfl, hx2⟩ := hcut
        go_upto_block 1 with fail
        go_cut [13] (fun s13 wx => s13 = .bool (upR (u * h + r - mgV f p * h) (stV f p * h) p mode neg) ∧ Ext w wx)
        case first =>
          have hv := hf_val (2 * (u - mgV f p) - stV f p) r h
          have hm : mode = 0 ∨ mode = 1 ∨ mode = 2 ∨ mode = 3 ∨ mode = 4 ∨ mode = 5 := by omega
          rcases hm with rfl | rfl | rfl | rfl | rfl | rfl
          · rcases hv with v | v | v
            · have hu : upR (u * h + r - mgV f p * h) (stV f p * h) p 0 neg = false := by
                have q := HF.out
                unfold upR
                simp
                try omega
              have HU := Lib.hid hu; clear hu
              go_wp2_with fail
              go_meet
              exact ⟨by rw [HU.out], hx2⟩
            · by_cases hpar : p % 2 = 1
              · have pr : (p % 2 == 1) = true := by simpa using hpar
                have hu : upR (u * h + r - mgV f p * h) (stV f p * h) p 0 neg = true := by
                  have q := HF.out
                  unfold upR
                  simp
                  try omega
                have HU := Lib.hid hu; clear hu
                go_wp2_with fail
                go_meet
                exact ⟨by rw [HU.out], hx2⟩
              · have pr : (p % 2 == 1) = false := by simpa using hpar
                have hu : upR (u * h + r - mgV f p * h) (stV f p * h) p 0 neg = false := by
                  have q := HF.out
                  unfold upR
                  simp
                  try omega
                have HU := Lib.hid hu; clear hu
                go_wp2_with fail
                go_meet
                exact ⟨by rw [HU.out], hx2⟩
            · have hu : upR (u * h + r - mgV f p * h) (stV f p * h) p 0 neg = true := by
                have q := HF.out
                unfold upR
                simp
                try omega
              have HU := Lib.hid hu; clear hu
              go_wp2_with fail
              go_meet
              exact ⟨by rw [HU.out], hx2⟩
          · rcases hv with v | v | v
            · have hu : upR (u * h + r - mgV f p * h) (stV f p * h) p 1 neg = false := by
                have q := HF.out
                unfold upR
                simp
                try omega
              have HU := Lib.hid hu; clear hu
              go_wp2_with fail
              go_meet
              exact ⟨by rw [HU.out], hx2⟩
            · have hu : upR (u * h + r - mgV f p * h) (stV f p * h) p 1 neg = true := by
                have q := HF.out
                unfold upR
                simp
                try omega
              have HU := Lib.hid hu; clear hu
              go_wp2_with fail
              go_meet
              exact ⟨by rw [HU.out], hx2⟩
            · have hu : upR (u * h + r - mgV f p * h) (stV f p * h) p 1 neg = true := by
                have q := HF.out
                unfold upR
                simp
                try omega
              have HU := Lib.hid hu; clear hu
              go_wp2_with fail
              go_meet
              exact ⟨by rw [HU.out], hx2⟩
          · have hu : upR (u * h + r - mgV f p * h) (stV f p * h) p 2 neg = false := by
              have q := HF.out
              unfold upR
              simp
              try omega
            have HU := Lib.hid hu; clear hu
            go_wp2_with fail
            go_meet
            exact ⟨by rw [HU.out], hx2⟩
          · cases neg
            · have hu : upR (u * h + r - mgV f p * h) (stV f p * h) p 3 false = true := by
                have q := HF.out
                unfold upR
                simp
                try omega
              have HU := Lib.hid hu; clear hu
              go_wp2_with fail
              go_meet
              exact ⟨by rw [HU.out], hx2⟩
            · have hu : upR (u * h + r - mgV f p * h) (stV f p * h) p 3 true = false := by
                have q := HF.out
                unfold upR
                simp
                try omega
              have HU := Lib.hid hu; clear hu
              go_wp2_with fail
              go_meet
              exact ⟨by rw [HU.out], hx2⟩
          · cases neg
            · have hu : upR (u * h + r - mgV f p * h) (stV f p * h) p 4 false = false := by
                have q := HF.out
                unfold upR
                simp
                try omega
              have HU := Lib.hid hu; clear hu
              go_wp2_with fail
              go_meet
              exact ⟨by rw [HU.out], hx2⟩
            · have hu : upR (u * h + r - mgV f p * h) (stV f p * h) p 4 true = true := by
                have q := HF.out
                unfold upR
                simp
                try omega
              have HU := Lib.hid hu; clear hu
              go_wp2_with fail
              go_meet
              exact ⟨by rw [HU.out], hx2⟩
          · by_cases hpar : p % 2 = 0
            · have pr : (p % 2 == 0) = true := by simpa using hpar
              have hu : upR (u * h + r - mgV f p * h) (stV f p * h) p 5 neg = true := by
                have q := HF.out
                unfold upR
                simp
                try omega
              have HU := Lib.hid hu; clear hu
              go_wp2_with fail
              go_meet
              exact ⟨by rw [HU.out], hx2⟩
            · have pr : (p % 2 == 0) = false := by simpa using hpar
              have hu : upR (u * h + r - mgV f p * h) (stV f p * h) p 5 neg = false := by
                have q := HF.out
                unfold upR
                simp
                try omega
              have HU := Lib.hid hu; clear hu
              go_wp2_with fail
              go_meet
              exact ⟨by rw [HU.out], hx2⟩
        case rest =>
          obtain ⟨rfl, hx3⟩ := hcut
          cases hU : upR (u * h + r - mgV f p * h) (stV f p * h) p mode neg
          · have HU := Lib.hid hU
            go_wp2_with fail
            go_ret
            exact ⟨p, rfl, ⟨p, HB.out, by unfold rndP; rw [if_neg HA.out, HU.out]; rfl⟩, hx3⟩
          · have HU := Lib.hid hU
            go_wp2_with fail
            go_ret
            exact ⟨p + 1, rfl, ⟨p, HB.out, by unfold rndP; rw [if_neg HA.out, HU.out]; rfl⟩, hx3⟩
end Go.Proofs.YtmddlbphanlfhaaGreatDoor

namespace Go.Proofs.YtmddlbphanlfhaaGreatDoor
open Go Go.RowKit
set_option linter.unusedSimpArgs false
set_option linter.unusedVariables false

/-- One of the modes. -/
def moB (m : Int) : Bool := decide (0 ≤ m ∧ m ≤ 5)

theorem mo_iff {m : Int} : moB m = true ↔ 0 ≤ m ∧ m ≤ 5 := by unfold moB; simp
end Go.Proofs.YtmddlbphanlfhaaGreatDoor

