/-
  Contracts of the functions that the laws reach, and the plain facts that they rest on, each under the conditions that its line names; part 27.
-/
import Derived.Test.YtmddlbphanlfhaaGreatDoorKps1
import Derived.Test.YtmddlbphanlfhaaGreatDoorKps2
import Derived.Test.YtmddlbphanlfhaaGreatDoorKps3
import Derived.Test.YtmddlbphanlfhaaGreatDoorKps4
import Derived.Test.YtmddlbphanlfhaaGreatDoorKps5
import Derived.Test.YtmddlbphanlfhaaGreatDoorKps11
import Derived.Test.YtmddlbphanlfhaaGreatDoorKps12
import Derived.Test.YtmddlbphanlfhaaGreatDoorKps13
import Derived.Test.YtmddlbphanlfhaaGreatDoorKps14
import Derived.Test.YtmddlbphanlfhaaGreatDoorKps15
import Derived.Test.YtmddlbphanlfhaaGreatDoorKps16
import Derived.Test.YtmddlbphanlfhaaGreatDoorKps17
import Derived.Test.YtmddlbphanlfhaaGreatDoorKps18
import Derived.Test.YtmddlbphanlfhaaGreatDoorKps19
import Derived.Test.YtmddlbphanlfhaaGreatDoorKps20
import Derived.Test.YtmddlbphanlfhaaGreatDoorKps21
import Derived.Test.YtmddlbphanlfhaaGreatDoorKps22
import Derived.Test.YtmddlbphanlfhaaGreatDoorKps23
import Derived.Test.YtmddlbphanlfhaaGreatDoorKps24
import Derived.Test.YtmddlbphanlfhaaGreatDoorKps25
import Derived.Test.YtmddlbphanlfhaaGreatDoorKps26
import Derived.Test.YtmddlbphanlfhaaGreatDoorRows
import Derived.WalkKit
import Derived.LoopTactic
import Derived.LoopN
import Derived.Deep.LoopGhost
import Derived.Laws.Bits64b
import Derived.WalkSpells
import Derived.WalkLawsBesides
import Derived.StillTactics
import Derived.Laws.Pointers
import Derived.Deep.RegionHeld3
import Derived.Deep.QuietTactic
import Derived.BigQuiet
import Derived.Outline
import Derived.Lib.Hide
import Derived.RowKit3
import Derived.Carry
import Derived.IntWalk
namespace Go.Proofs.YtmddlbphanlfhaaGreatDoor
open Go Go.RowKit
set_option linter.unusedSimpArgs false
set_option linter.unusedVariables false
set_option maxRecDepth 100000

/-- A decimal in quarters of a unit. -/
def dqV (e f d t : Int) : Int := qrV e f (numN d t.toNat) (tenN (-t).toNat)

/-- There is a decimal. -/
def dcB (d t : Int) : Bool := decide (0 ≤ d ∧ d ≤ 999999) && decide (-14 ≤ t ∧ t ≤ 14)

theorem dc_iff {d t : Int} : dcB d t = true ↔ (0 ≤ d ∧ d ≤ 999999) ∧ -14 ≤ t ∧ t ≤ 14 := by
  unfold dcB; rw [Bool.and_eq_true, decide_eq_true_eq, decide_eq_true_eq]

theorem dq_bd {e f d t : Int} (hg : goodB e f = true) (hd : dcB d t = true) : 0 ≤ dqV e f d t ∧ dqV e f d t < 1152921504606846976 := by
  obtain ⟨⟨d0, d1⟩, t0, t1⟩ := dc_iff.1 hd
  obtain ⟨n0, n1⟩ := numN_bd (d := d) d0 (by omega) t.toNat
  have p := tenN_pos (-t).toNat
  have b := qr_bd (e := e) (f := f) (n := numN d t.toNat) (d := tenN (-t).toNat) hg (by omega) (by omega) (by omega)
  refine ⟨?_, b.2⟩
  have u := un_bd hg
  have q := pw_pos (2 - unV e f)
  have x0 : 0 ≤ numN d t.toNat * pw (2 - unV e f) := Int.mul_nonneg n0 (by omega)
  unfold dqV qrV
  rw [oq_pos (by omega) x0]
  have := Int.ediv_nonneg x0 (show 0 ≤ 2 * tenN (-t).toNat by omega)
  split <;> omega

theorem tenTo_any (n : Int) (n1 : n ≤ 14) (w : World) : Calls Tryz.prog 158 #[.int .i64 n] w fun rv w' => rv = .returned (.int .i64 (tenN n.toNat)) ∧ Ext w w' := by
  go_enter Tryz.func158, Tryz.ntmps158
  go_wp2
  go_loopw [3, 5] (fun y x wr => ∃ k : Nat, x = .int .i64 (k : Int) ∧ k ≤ n.toNat ∧ y = .int .i64 (tenN k) ∧ Ext w wr) (fun _ x _ => n.toNat - (intOf x).toNat)
  case atStart => exact ⟨0, rfl, by omega, rfl, Ext.auK⟩
  case round =>
    obtain ⟨k, rfl, hk, rfl, hx⟩ := hrel
    by_cases hlt : (k : Int) < n
    · have h1 : ((k : Nat) : Int) < n := hlt
      have h0 : (0 : Int) ≤ (k : Int) := by omega
      have h2 : ((k : Int)).toNat = k := by omega
      have u1 : IntKind.i64.wrap ((k : Int) + 1) = (k : Int) + 1 := IntWalk.i64_in _ (by omega)
      have pk := tenN_pos k
      have pl := tenN_le (k := k) 14 100000000000000 rfl (by omega)
      have kw : IntKind.i64.wrap (tenN k * 10) = tenN k * 10 := IntWalk.i64_in _ (by omega)
      have KS : RowKit.Hid (tenN (k + 1) = tenN k * 10) := Lib.hid rfl
      go_wp2_with fail
      go_roundw
      case rel => exact ⟨k + 1, by simp, by omega, by rw [KS.out], by with_reducible assumption⟩
      case measure => simp [intOf]; omega
    · have h1 : ¬ ((k : Nat) : Int) < n := hlt
      have hkn : k = n.toNat := by omega
      go_wp2_with fail
      go_ret
      subst hkn
      exact ⟨rfl, Ext.auK⟩

set_option maxHeartbeats 1600000 in
theorem quarters_dec (e f d t : Int) (hg : goodB e f = true) (hd : dcB d t = true) (w : World) : Calls Tryz.prog 133 #[two d t, fmt e f] w fun rv w' => rv = .returned (.int .i64 (dqV e f d t)) ∧ Ext w w' := by
  obtain ⟨⟨d0, d1⟩, t0, t1⟩ := dc_iff.1 hd
  have u := un_bd hg
  go_enter Tryz.func133, Tryz.ntmps133
  go_wp2
  go_loopw [5, 10] (fun y x wr => ∃ k : Nat, x = .int .i64 (k : Int) ∧ k ≤ t.toNat ∧ y = .int .i64 (numN d k) ∧ w.heap.size + 1 < wr.heap.size ∧ wr.cell? ⟨w.heap.size, 0, none⟩ = some (.int .i64 d) ∧ wr.cell? ⟨w.heap.size, 1, none⟩ = some (.int .i64 t) ∧ wr.cell? ⟨w.heap.size + 1, 0, none⟩ = some (.int .i64 e) ∧ wr.cell? ⟨w.heap.size + 1, 1, none⟩ = some (.int .i64 f) ∧ Ext w wr) (fun _ x _ => t.toNat - (intOf x).toNat)
  case atStart => exact ⟨0, rfl, by omega, rfl, by simp, by simp [go_sem], by simp [go_sem], by simp [go_sem], by simp [go_sem], Ext.auK⟩
  case round =>
    obtain ⟨k, rfl, hk, rfl, hs, g0, g1, g2, g3, hx⟩ := hrel
    have nb := numN_bd (d := d) d0 (by omega) k
    by_cases hlt : (k : Int) < t
    · have h1 : ((k : Nat) : Int) < t := hlt
      have h0 : (0 : Int) ≤ (k : Int) := by omega
      have h2 : ((k : Int)).toNat = k := by omega
      have u1 : IntKind.i64.wrap ((k : Int) + 1) = (k : Int) + 1 := IntWalk.i64_in _ (by omega)
      have kw : IntKind.i64.wrap (10 * numN d k) = 10 * numN d k := IntWalk.i64_in _ (by omega)
      have KS : RowKit.Hid (numN d (k + 1) = min (10 * numN d k) 1000000) := Lib.hid rfl
      go_wp2_with fail
      go_roundw
      case rel => exact ⟨k + 1, by simp, by omega, by rw [KS.out], by with_reducible assumption, by with_reducible assumption, by with_reducible assumption, by with_reducible assumption, by with_reducible assumption, by with_reducible assumption⟩
      case measure => simp [intOf]; omega
    · have h1 : ¬ ((k : Nat) : Int) < t := hlt
      have hkn : k = t.toNat := by omega
      have kt : IntKind.i64.wrap (-t) = -t := IntWalk.i64_in _ (by omega)
      have pk := tenN_pos (-t).toNat
      have pl := tenN_le (k := (-t).toNat) 14 100000000000000 rfl (by omega)
      have TA := Lib.hid (fun w => tenTo_any (-t) (by omega) w)
      have QA := Lib.hid (fun w => quartersOf_any e f (numN d k) (tenN (-t).toNat) hg (by omega) (by omega) (by omega) (by omega) w)
      have hv : dqV e f d t = qrV e f (numN d k) (tenN (-t).toNat) := by rw [hkn]; rfl
      have HV := Lib.hid hv; clear hv
      clear hkn nb pk pl
      generalize qrV e f (numN d k) (tenN (-t).toNat) = Q at *
      generalize numN d k = N at *
      generalize tenN (-t).toNat = P at *
      go_wp2_with (first | (go_at_call 158; refine (TA.out _).mono ?_; rintro rv w1 ⟨rfl, hb⟩; have ns : w.heap.size + 1 < w1.heap.size := hb.ltK; have n0 : w1.cell? ⟨w.heap.size, 0, none⟩ = some (.int .i64 d) := hb.cellK; have n1 : w1.cell? ⟨w.heap.size, 1, none⟩ = some (.int .i64 t) := hb.cellK; have n2 : w1.cell? ⟨w.heap.size + 1, 0, none⟩ = some (.int .i64 e) := hb.cellK; have n3 : w1.cell? ⟨w.heap.size + 1, 1, none⟩ = some (.int .i64 f) := hb.cellK; (first | (have nx := hx.trK hb; clear hx) | have nx := hb); clear hb; try clear hs; try clear g0; try clear g1; try clear g2; try clear g3; have hx := nx; clear nx; have hs := ns; clear ns; have g0 := n0; clear n0; have g1 := n1; clear n1; have g2 := n2; clear n2; have g3 := n3; clear n3) | (go_at_call 157; refine (QA.out _).mono ?_; rintro rv w1 ⟨rfl, hb⟩; have ns : w.heap.size + 1 < w1.heap.size := hb.ltK; have n0 : w1.cell? ⟨w.heap.size, 0, none⟩ = some (.int .i64 d) := hb.cellK; have n1 : w1.cell? ⟨w.heap.size, 1, none⟩ = some (.int .i64 t) := hb.cellK; have n2 : w1.cell? ⟨w.heap.size + 1, 0, none⟩ = some (.int .i64 e) := hb.cellK; have n3 : w1.cell? ⟨w.heap.size + 1, 1, none⟩ = some (.int .i64 f) := hb.cellK; (first | (have nx := hx.trK hb; clear hx) | have nx := hb); clear hb; try clear hs; try clear g0; try clear g1; try clear g2; try clear g3; have hx := nx; clear nx; have hs := ns; clear ns; have g0 := n0; clear n0; have g1 := n1; clear n1; have g2 := n2; clear n2; have g3 := n3; clear n3))
      try (go_region_held3 (fun w' => w'.cell? ⟨w.heap.size, 0, none⟩ = some (.int .i64 d) ∧ w'.cell? ⟨w.heap.size, 1, none⟩ = some (.int .i64 t) ∧ w'.cell? ⟨w.heap.size + 1, 0, none⟩ = some (.int .i64 e) ∧ w'.cell? ⟨w.heap.size + 1, 1, none⟩ = some (.int .i64 f) ∧ w.heap.size + 1 < w'.heap.size) ((refine ⟨?_, ?_, ?_, ?_, ?_⟩ <;> first | with_reducible assumption | ((rw [cell_setRow_far _ _ _ _ _ (by omega)]); with_reducible assumption) | ((rw [setRow_size]); with_reducible assumption) | ((repeat rw [World.cell?_setCell_far _ _ _ _ (by simp)]); with_reducible assumption) | (simp; done) | (simp [World.setCell]; first | done | omega) | (simp [go_sem, World.cell?_alloc_past, World.cell?_setCell_far, *]; done))) ((first | (go_at_call 158; refine (TA.out _).mono ?_; rintro rv w1 ⟨rfl, hb⟩; have ns : w.heap.size + 1 < w1.heap.size := hb.ltK; have n0 : w1.cell? ⟨w.heap.size, 0, none⟩ = some (.int .i64 d) := hb.cellK; have n1 : w1.cell? ⟨w.heap.size, 1, none⟩ = some (.int .i64 t) := hb.cellK; have n2 : w1.cell? ⟨w.heap.size + 1, 0, none⟩ = some (.int .i64 e) := hb.cellK; have n3 : w1.cell? ⟨w.heap.size + 1, 1, none⟩ = some (.int .i64 f) := hb.cellK; (first | (have nx := hx.trK hb; clear hx) | have nx := hb); clear hb; try clear hs; try clear g0; try clear g1; try clear g2; try clear g3; have hx := nx; clear nx; have hs := ns; clear ns; have g0 := n0; clear n0; have g1 := n1; clear n1; have g2 := n2; clear n2; have g3 := n3; clear n3) | (go_at_call 157; refine (QA.out _).mono ?_; rintro rv w1 ⟨rfl, hb⟩; have ns : w.heap.size + 1 < w1.heap.size := hb.ltK; have n0 : w1.cell? ⟨w.heap.size, 0, none⟩ = some (.int .i64 d) := hb.cellK; have n1 : w1.cell? ⟨w.heap.size, 1, none⟩ = some (.int .i64 t) := hb.cellK; have n2 : w1.cell? ⟨w.heap.size + 1, 0, none⟩ = some (.int .i64 e) := hb.cellK; have n3 : w1.cell? ⟨w.heap.size + 1, 1, none⟩ = some (.int .i64 f) := hb.cellK; (first | (have nx := hx.trK hb; clear hx) | have nx := hb); clear hb; try clear hs; try clear g0; try clear g1; try clear g2; try clear g3; have hx := nx; clear nx; have hs := ns; clear ns; have g0 := n0; clear n0; have g1 := n1; clear n1; have g2 := n2; clear n2; have g3 := n3; clear n3))))
      try go_wp2_with fail
      go_ret
      exact ⟨ret_int (by rw [HV.out]), Ext.auK⟩

theorem rounded_dec (e f d t m : Int) (hg : goodB e f = true) (hd : dcB d t = true) (m0 : 0 ≤ m) (m1 : m ≤ 5) (w : World) : Calls Tryz.prog 96 #[two d t, fmt e f, .int .i64 m] w fun rv w' => ∃ s : Int, rv = .returned (.int .i64 s) ∧ RndD e f (dqV e f d t) (-2) m false s ∧ Ext w w' := by
  have u := un_bd hg
  obtain ⟨q0, q1⟩ := dq_bd hg hd
  have QA := Lib.hid (fun w => quarters_dec e f d t hg hd w)
  have PA := Lib.hid (fun w => quarterPower_any e f hg w)
  have RSC : RowKit.Hid (∀ w, Calls Tryz.prog 132 #[fmt e f, .int .i64 (dqV e f d t), .int .i64 (unV e f - 2), .int .i64 m] w fun rv w' => ∃ s : Int, rv = .returned (.int .i64 s) ∧ RndD e f (dqV e f d t) (-2) m false s ∧ Ext w w') := by
    intro w
    refine (roundScaled_any e f (dqV e f d t) (unV e f - 2) m hg (by omega) (by omega) (by omega) (by omega) m0 m1 w).mono ?_
    rintro rv w' ⟨s, rfl, hq, hb⟩
    rw [show unV e f - 2 - unV e f = -2 by omega, show ((dqV e f d t).natAbs : Int) = dqV e f d t by omega, decide_eq_false (show ¬ dqV e f d t < 0 by omega)] at hq
    refine ⟨s, ?_, hq, hb⟩
    unfold sgP
    rw [if_neg (by omega)]
  generalize dqV e f d t = Q at *
  generalize hU : unV e f - 2 = U at *
  clear hU
  go_enter Tryz.func96, Tryz.ntmps96
  go_wp2_with fail
  go_region_held3 (fun w' => w'.cell? ⟨w.heap.size, 0, none⟩ = some (.int .i64 d) ∧ w'.cell? ⟨w.heap.size, 1, none⟩ = some (.int .i64 t) ∧ w'.cell? ⟨w.heap.size + 1, 0, none⟩ = some (.int .i64 e) ∧ w'.cell? ⟨w.heap.size + 1, 1, none⟩ = some (.int .i64 f) ∧ w.heap.size + 1 < w'.heap.size) ((refine ⟨?_, ?_, ?_, ?_, ?_⟩ <;> first | with_reducible assumption | ((rw [cell_setRow_far _ _ _ _ _ (by omega)]); with_reducible assumption) | ((rw [setRow_size]); with_reducible assumption) | ((repeat rw [World.cell?_setCell_far _ _ _ _ (by simp)]); with_reducible assumption) | (simp; done) | (simp [World.setCell]; first | done | omega) | (simp [go_sem, World.cell?_alloc_past, World.cell?_setCell_far, *]; done))) ((first | (go_at_call 133; refine (QA.out _).mono ?_; rintro rv w1 ⟨rfl, hb⟩; have ns : w.heap.size + 1 < w1.heap.size := hb.ltK; have n0 : w1.cell? ⟨w.heap.size, 0, none⟩ = some (.int .i64 d) := hb.cellK; have n1 : w1.cell? ⟨w.heap.size, 1, none⟩ = some (.int .i64 t) := hb.cellK; have n2 : w1.cell? ⟨w.heap.size + 1, 0, none⟩ = some (.int .i64 e) := hb.cellK; have n3 : w1.cell? ⟨w.heap.size + 1, 1, none⟩ = some (.int .i64 f) := hb.cellK; (first | (have nx := hx.trK hb; clear hx) | have nx := hb); clear hb; try clear hs; try clear g0; try clear g1; try clear g2; try clear g3; have hx := nx; clear nx; have hs := ns; clear ns; have g0 := n0; clear n0; have g1 := n1; clear n1; have g2 := n2; clear n2; have g3 := n3; clear n3) | (go_at_call 134; refine (PA.out _).mono ?_; rintro rv w1 ⟨rfl, hb⟩; have ns : w.heap.size + 1 < w1.heap.size := hb.ltK; have n0 : w1.cell? ⟨w.heap.size, 0, none⟩ = some (.int .i64 d) := hb.cellK; have n1 : w1.cell? ⟨w.heap.size, 1, none⟩ = some (.int .i64 t) := hb.cellK; have n2 : w1.cell? ⟨w.heap.size + 1, 0, none⟩ = some (.int .i64 e) := hb.cellK; have n3 : w1.cell? ⟨w.heap.size + 1, 1, none⟩ = some (.int .i64 f) := hb.cellK; (first | (have nx := hx.trK hb; clear hx) | have nx := hb); clear hb; try clear hs; try clear g0; try clear g1; try clear g2; try clear g3; have hx := nx; clear nx; have hs := ns; clear ns; have g0 := n0; clear n0; have g1 := n1; clear n1; have g2 := n2; clear n2; have g3 := n3; clear n3) | (go_at_call 132; refine (RSC.out _).mono ?_; rintro rv w1 ⟨s, rfl, hq, hb⟩; have HQ := Lib.hid hq; clear hq; have ns : w.heap.size + 1 < w1.heap.size := hb.ltK; have n0 : w1.cell? ⟨w.heap.size, 0, none⟩ = some (.int .i64 d) := hb.cellK; have n1 : w1.cell? ⟨w.heap.size, 1, none⟩ = some (.int .i64 t) := hb.cellK; have n2 : w1.cell? ⟨w.heap.size + 1, 0, none⟩ = some (.int .i64 e) := hb.cellK; have n3 : w1.cell? ⟨w.heap.size + 1, 1, none⟩ = some (.int .i64 f) := hb.cellK; (first | (have nx := hx.trK hb; clear hx) | have nx := hb); clear hb; try clear hs; try clear g0; try clear g1; try clear g2; try clear g3; have hx := nx; clear nx; have hs := ns; clear ns; have g0 := n0; clear n0; have g1 := n1; clear n1; have g2 := n2; clear n2; have g3 := n3; clear n3)))
  all_goals go_wp2_with fail
  all_goals go_ret
  all_goals exact ⟨s, rfl, HQ.out, Ext.auK⟩

theorem isDecimal_any (d t : Int) (w : World) : Calls Tryz.prog 94 #[two d t] w fun rv w' => rv = .returned (.bool (dcB d t)) ∧ Ext w w' := by
  by_cases h1 : 0 ≤ d
  · by_cases h2 : d < 1000000
    · have hk : dcB d t = decide (-14 ≤ t ∧ t ≤ 14) := by unfold dcB; rw [decide_eq_true (show 0 ≤ d ∧ d ≤ 999999 by omega), Bool.true_and]
      rw [hk]; clear hk
      have ISA := Lib.hid (fun w => isSizeAtMost_any t 14 (by omega) (by omega) w)
      generalize decide (-14 ≤ t ∧ t ≤ 14) = B at *
      go_enter Tryz.func94, Tryz.ntmps94
      go_wp2_with (go_at_call 131; refine (ISA.out _).mono ?_; rintro rv w1 ⟨rfl, rfl⟩)
      go_ret
      exact ⟨rfl, Ext.auK⟩
    · have hk : dcB d t = false := by unfold dcB; rw [decide_eq_false (show ¬ (0 ≤ d ∧ d ≤ 999999) by omega)]; rfl
      rw [hk]; clear hk
      go_enter Tryz.func94, Tryz.ntmps94
      go_wp2_with fail
      go_ret
      exact ⟨rfl, Ext.auK⟩
  · have hk : dcB d t = false := by unfold dcB; rw [decide_eq_false (show ¬ (0 ≤ d ∧ d ≤ 999999) by omega)]; rfl
    rw [hk]; clear hk
    go_enter Tryz.func94, Tryz.ntmps94
    go_wp2_with fail
    go_ret
    exact ⟨rfl, Ext.auK⟩

/-- What ReadDecimal asks for. -/
def rcB (e f d t m : Int) : Bool := goodB e f && (dcB d t && moB m)

theorem rc_iff {e f d t m : Int} : rcB e f d t m = true ↔ goodB e f = true ∧ dcB d t = true ∧ 0 ≤ m ∧ m ≤ 5 := by
  unfold rcB; rw [Bool.and_eq_true, Bool.and_eq_true, mo_iff]

/-- The pattern to which a decimal is rounded. -/
noncomputable def rcV (e f d t m : Int) : Int := Classical.epsilon (fun s => RndD e f (dqV e f d t) (-2) m false s)

theorem rc_one {e f d t m s : Int} (hg : goodB e f = true) (h : RndD e f (dqV e f d t) (-2) m false s) : s = rcV e f d t m :=
  rnd_one (good_iff.1 hg).2.2.1 (by have := pw_pos 149; omega) h (Classical.epsilon_spec (p := fun s => RndD e f (dqV e f d t) (-2) m false s) ⟨s, h⟩)

/-- A decimal is rounded. -/
def RCout (e f d t m : Int) (w : World) (rv : Ending) (w' : World) : Prop := ∃ s : Int, rv = .returned (.tuple #[.int .i64 s, .bool true]) ∧ RndD e f (dqV e f d t) (-2) m false s ∧ Ext w w'

theorem iReadDecimal_no (e f d t m : Int) (hg : rcB e f d t m = false) (w : World) : Calls Tryz.prog 52 #[fmt e f, .int .i64 d, .int .i64 t, .int .i64 m] w fun rv w' => rv = .returned (.tuple #[.int .i64 0, .bool false]) ∧ Ext w w' := by
  cases h0 : goodB e f
  · go_enter Tryz.func52, Tryz.ntmps52
    go_wp2_with (go_at_call 22; refine (isFormat_any e f _).mono ?_; rintro rv w1 ⟨rfl, hb⟩; have ns : w.heap.size + 1 < w1.heap.size := hb.ltK; have n0 : w1.cell? ⟨w.heap.size, 0, none⟩ = some (.int .i64 e) := hb.cellK; have n1 : w1.cell? ⟨w.heap.size, 1, none⟩ = some (.int .i64 f) := hb.cellK; have n2 : w1.cell? ⟨w.heap.size + 1, 0, none⟩ = some (.int .i64 d) := hb.cellK; have n3 : w1.cell? ⟨w.heap.size + 1, 1, none⟩ = some (.int .i64 t) := hb.cellK; (first | (have nx := hx.trK hb; clear hx) | have nx := hb); clear hb; try clear hs; try clear g0; try clear g1; try clear g2; try clear g3; have hx := nx; clear nx; have hs := ns; clear ns; have g0 := n0; clear n0; have g1 := n1; clear n1; have g2 := n2; clear n2; have g3 := n3; clear n3)
    go_ret2
    exact ⟨rfl, Ext.auK⟩
  · cases h1 : dcB d t
    · go_enter Tryz.func52, Tryz.ntmps52
      go_wp2_with (first | (go_at_call 22; refine (isFormat_any e f _).mono ?_; rintro rv w1 ⟨rfl, hb⟩; have ns : w.heap.size + 1 < w1.heap.size := hb.ltK; have n0 : w1.cell? ⟨w.heap.size, 0, none⟩ = some (.int .i64 e) := hb.cellK; have n1 : w1.cell? ⟨w.heap.size, 1, none⟩ = some (.int .i64 f) := hb.cellK; have n2 : w1.cell? ⟨w.heap.size + 1, 0, none⟩ = some (.int .i64 d) := hb.cellK; have n3 : w1.cell? ⟨w.heap.size + 1, 1, none⟩ = some (.int .i64 t) := hb.cellK; (first | (have nx := hx.trK hb; clear hx) | have nx := hb); clear hb; try clear hs; try clear g0; try clear g1; try clear g2; try clear g3; have hx := nx; clear nx; have hs := ns; clear ns; have g0 := n0; clear n0; have g1 := n1; clear n1; have g2 := n2; clear n2; have g3 := n3; clear n3) | (go_at_call 94; refine (isDecimal_any d t _).mono ?_; rintro rv w1 ⟨rfl, hb⟩; have ns : w.heap.size + 1 < w1.heap.size := hb.ltK; have n0 : w1.cell? ⟨w.heap.size, 0, none⟩ = some (.int .i64 e) := hb.cellK; have n1 : w1.cell? ⟨w.heap.size, 1, none⟩ = some (.int .i64 f) := hb.cellK; have n2 : w1.cell? ⟨w.heap.size + 1, 0, none⟩ = some (.int .i64 d) := hb.cellK; have n3 : w1.cell? ⟨w.heap.size + 1, 1, none⟩ = some (.int .i64 t) := hb.cellK; (first | (have nx := hx.trK hb; clear hx) | have nx := hb); clear hb; try clear hs; try clear g0; try clear g1; try clear g2; try clear g3; have hx := nx; clear nx; have hs := ns; clear ns; have g0 := n0; clear n0; have g1 := n1; clear n1; have g2 := n2; clear n2; have g3 := n3; clear n3))
      go_ret2
      exact ⟨rfl, Ext.auK⟩
    · have h2 : moB m = false := by unfold rcB at hg; rw [h0, h1] at hg; simpa using hg
      go_enter Tryz.func52, Tryz.ntmps52
      go_wp2_with (first | (go_at_call 22; refine (isFormat_any e f _).mono ?_; rintro rv w1 ⟨rfl, hb⟩; have ns : w.heap.size + 1 < w1.heap.size := hb.ltK; have n0 : w1.cell? ⟨w.heap.size, 0, none⟩ = some (.int .i64 e) := hb.cellK; have n1 : w1.cell? ⟨w.heap.size, 1, none⟩ = some (.int .i64 f) := hb.cellK; have n2 : w1.cell? ⟨w.heap.size + 1, 0, none⟩ = some (.int .i64 d) := hb.cellK; have n3 : w1.cell? ⟨w.heap.size + 1, 1, none⟩ = some (.int .i64 t) := hb.cellK; (first | (have nx := hx.trK hb; clear hx) | have nx := hb); clear hb; try clear hs; try clear g0; try clear g1; try clear g2; try clear g3; have hx := nx; clear nx; have hs := ns; clear ns; have g0 := n0; clear n0; have g1 := n1; clear n1; have g2 := n2; clear n2; have g3 := n3; clear n3) | (go_at_call 94; refine (isDecimal_any d t _).mono ?_; rintro rv w1 ⟨rfl, hb⟩; have ns : w.heap.size + 1 < w1.heap.size := hb.ltK; have n0 : w1.cell? ⟨w.heap.size, 0, none⟩ = some (.int .i64 e) := hb.cellK; have n1 : w1.cell? ⟨w.heap.size, 1, none⟩ = some (.int .i64 f) := hb.cellK; have n2 : w1.cell? ⟨w.heap.size + 1, 0, none⟩ = some (.int .i64 d) := hb.cellK; have n3 : w1.cell? ⟨w.heap.size + 1, 1, none⟩ = some (.int .i64 t) := hb.cellK; (first | (have nx := hx.trK hb; clear hx) | have nx := hb); clear hb; try clear hs; try clear g0; try clear g1; try clear g2; try clear g3; have hx := nx; clear nx; have hs := ns; clear ns; have g0 := n0; clear n0; have g1 := n1; clear n1; have g2 := n2; clear n2; have g3 := n3; clear n3) | (go_at_call 95; refine (isMode_any _ _).mono ?_; rintro rv w1 ⟨rfl, rfl⟩))
      go_ret2
      exact ⟨rfl, Ext.auK⟩

theorem iReadDecimal_yes (e f d t m : Int) (hg : rcB e f d t m = true) (w : World) : Calls Tryz.prog 52 #[fmt e f, .int .i64 d, .int .i64 t, .int .i64 m] w (RCout e f d t m w) := by
  obtain ⟨h0, h1, m0, m1⟩ := rc_iff.1 hg
  have h2 : moB m = true := mo_iff.2 ⟨m0, m1⟩
  have RDA := Lib.hid (fun w => rounded_dec e f d t m h0 h1 m0 m1 w)
  go_enter Tryz.func52, Tryz.ntmps52
  go_wp2_with (first | (go_at_call 22; refine (isFormat_any e f _).mono ?_; rintro rv w1 ⟨rfl, hb⟩; have ns : w.heap.size + 1 < w1.heap.size := hb.ltK; have n0 : w1.cell? ⟨w.heap.size, 0, none⟩ = some (.int .i64 e) := hb.cellK; have n1 : w1.cell? ⟨w.heap.size, 1, none⟩ = some (.int .i64 f) := hb.cellK; have n2 : w1.cell? ⟨w.heap.size + 1, 0, none⟩ = some (.int .i64 d) := hb.cellK; have n3 : w1.cell? ⟨w.heap.size + 1, 1, none⟩ = some (.int .i64 t) := hb.cellK; (first | (have nx := hx.trK hb; clear hx) | have nx := hb); clear hb; try clear hs; try clear g0; try clear g1; try clear g2; try clear g3; have hx := nx; clear nx; have hs := ns; clear ns; have g0 := n0; clear n0; have g1 := n1; clear n1; have g2 := n2; clear n2; have g3 := n3; clear n3) | (go_at_call 94; refine (isDecimal_any d t _).mono ?_; rintro rv w1 ⟨rfl, hb⟩; have ns : w.heap.size + 1 < w1.heap.size := hb.ltK; have n0 : w1.cell? ⟨w.heap.size, 0, none⟩ = some (.int .i64 e) := hb.cellK; have n1 : w1.cell? ⟨w.heap.size, 1, none⟩ = some (.int .i64 f) := hb.cellK; have n2 : w1.cell? ⟨w.heap.size + 1, 0, none⟩ = some (.int .i64 d) := hb.cellK; have n3 : w1.cell? ⟨w.heap.size + 1, 1, none⟩ = some (.int .i64 t) := hb.cellK; (first | (have nx := hx.trK hb; clear hx) | have nx := hb); clear hb; try clear hs; try clear g0; try clear g1; try clear g2; try clear g3; have hx := nx; clear nx; have hs := ns; clear ns; have g0 := n0; clear n0; have g1 := n1; clear n1; have g2 := n2; clear n2; have g3 := n3; clear n3) | (go_at_call 95; refine (isMode_any _ _).mono ?_; rintro rv w1 ⟨rfl, rfl⟩) | (go_at_call 96; refine (RDA.out _).mono ?_; rintro rv w1 ⟨s, rfl, hq, hb⟩; have HQ := Lib.hid hq; clear hq; have ns : w.heap.size + 1 < w1.heap.size := hb.ltK; have n0 : w1.cell? ⟨w.heap.size, 0, none⟩ = some (.int .i64 e) := hb.cellK; have n1 : w1.cell? ⟨w.heap.size, 1, none⟩ = some (.int .i64 f) := hb.cellK; have n2 : w1.cell? ⟨w.heap.size + 1, 0, none⟩ = some (.int .i64 d) := hb.cellK; have n3 : w1.cell? ⟨w.heap.size + 1, 1, none⟩ = some (.int .i64 t) := hb.cellK; (first | (have nx := hx.trK hb; clear hx) | have nx := hb); clear hb; try clear hs; try clear g0; try clear g1; try clear g2; try clear g3; have hx := nx; clear nx; have hs := ns; clear ns; have g0 := n0; clear n0; have g1 := n1; clear n1; have g2 := n2; clear n2; have g3 := n3; clear n3))
  go_ret2
  exact ⟨s, rfl, HQ.out, Ext.auK⟩

theorem iReadDecimal_v (e f d t m : Int) (hg : rcB e f d t m = true) (w : World) : Calls Tryz.prog 52 #[fmt e f, .int .i64 d, .int .i64 t, .int .i64 m] w fun rv w' => rv = .returned (.tuple #[.int .i64 (rcV e f d t m), .bool true]) ∧ Ext w w' := by
  refine (iReadDecimal_yes e f d t m hg w).mono ?_
  rintro rv w' ⟨s, rfl, hq, hb⟩
  rw [rc_one (rc_iff.1 hg).1 hq]
  exact ⟨rfl, hb⟩
end Go.Proofs.YtmddlbphanlfhaaGreatDoor

namespace Go.Proofs.YtmddlbphanlfhaaGreatDoor
open Go Go.RowKit
set_option linter.unusedSimpArgs false
set_option linter.unusedVariables false
set_option maxRecDepth 100000

/-- The decimals whose numbers the model makes. -/
def TcP (d t : Int) : Prop := (0 ≤ d ∧ d ≤ 9999999) ∧ -15 ≤ t ∧ t ≤ 15

theorem dc_tc {d t : Int} (h : dcB d t = true) : TcP d t := by
  obtain ⟨⟨d0, d1⟩, t0, t1⟩ := dc_iff.1 h
  exact ⟨⟨d0, by omega⟩, by omega, by omega⟩

theorem txTen_any (n : Int) (n1 : n ≤ 15) (w : World) : Calls Tryz.prog 81 #[.int .i64 n] w fun rv w' => rv = .returned (.int .i64 (tenN n.toNat)) ∧ Ext w w' := by
  go_enter Tryz.func81, Tryz.ntmps81
  go_wp2
  go_loopw [0, 3] (fun x y wr => ∃ k : Nat, x = .int .i64 (n - (k : Int)) ∧ k ≤ n.toNat ∧ y = .int .i64 (tenN k) ∧ Ext w wr) (fun x _ _ => (intOf x).toNat)
  case atStart => exact ⟨0, by simp, by omega, rfl, Ext.auK⟩
  case round =>
    obtain ⟨k, rfl, hk, rfl, hx⟩ := hrel
    by_cases hlt : 0 < n - (k : Int)
    · have u1 : IntKind.i64.wrap (n - (k : Int) - 1) = n - (k : Int) - 1 := IntWalk.i64_in _ (by omega)
      have pk := tenN_pos k
      have pl := tenN_le (k := k) 15 1000000000000000 rfl (by omega)
      have kw : IntKind.i64.wrap (tenN k * 10) = tenN k * 10 := IntWalk.i64_in _ (by omega)
      have KS : RowKit.Hid (tenN (k + 1) = tenN k * 10) := Lib.hid rfl
      go_wp2_with fail
      go_roundw
      case rel => exact ⟨k + 1, by (first | (simp; done) | (simp; omega) | (push_cast; congr 1; omega)), by omega, by rw [KS.out], by with_reducible assumption⟩
      case measure => simp [intOf]; omega
    · have h1 : ¬ 0 < n - (k : Int) := hlt
      have hkn : k = n.toNat := by omega
      go_wp2_with fail
      go_ret
      subst hkn
      exact ⟨rfl, Ext.auK⟩

theorem txDecimal_any (d t : Int) (w : World) : Calls Tryz.prog 20 #[.int .i64 d, .int .i64 t] w fun rv w' => rv = .returned (.bool (dcB d t)) ∧ Ext w w' := by
  cases h1 : decide (0 ≤ d ∧ d ≤ 999999)
  · have hk : dcB d t = false := by unfold dcB; rw [h1]; rfl
    rw [hk]
    go_enter Tryz.func20, Tryz.ntmps20
    go_wp2_with (go_at_call 36; refine (l1In_any _ _ _ _).mono ?_; rintro rv w1 ⟨rfl, rfl⟩)
    go_ret
    exact ⟨rfl, Ext.auK⟩
  · have hk : dcB d t = decide (-14 ≤ t ∧ t ≤ 14) := by unfold dcB; rw [h1, Bool.true_and]
    rw [hk]
    go_enter Tryz.func20, Tryz.ntmps20
    go_wp2_with (go_at_call 36; refine (l1In_any _ _ _ _).mono ?_; rintro rv w1 ⟨rfl, rfl⟩)
    go_ret
    exact ⟨ret_bool (by first | rfl | (simp; done)), Ext.auK⟩

set_option maxHeartbeats 1600000 in
theorem txNumber_neg (e f d t : Int) (hg : goodB e f = true) (hd : TcP d t) (h : t < 0) (w : World) : Calls Tryz.prog 40 #[fmt e f, .int .i64 d, .int .i64 t] w fun rv w' => rv = .returned (.agg #[.int .i64 ((d * pw (-unV e f)) / (tenN (-t).toNat)), .int .i64 ((d * pw (-unV e f)) % (tenN (-t).toNat)), .int .i64 ((tenN (-t).toNat))]) ∧ Ext w w' := by
  obtain ⟨⟨d0, d1⟩, t0, t1⟩ := hd
  obtain ⟨u1, u2, u3, u4⟩ := un_bd hg
  have p1 := pw_pos (-unV e f)
  have p2 := pw_le (a := -unV e f) 24 16777216 rfl (by omega)
  have RP := Lib.hid (fun w => rdPower_any (-unV e f) (by omega) (by omega) w)
  have ku : IntKind.i64.wrap (-unV e f) = -unV e f := IntWalk.i64_in _ (by omega)
  have x0 : 0 ≤ (d * pw (-unV e f)) := Int.mul_nonneg d0 (by omega)
  have x1 : (d * pw (-unV e f)) ≤ 9999999 * 16777216 := Int.mul_le_mul d1 p2 (by omega) (by omega)
  have pk := tenN_pos (-t).toNat
  have TX := Lib.hid (fun w => txTen_any (-t) (by omega) w)
  have kt : IntKind.i64.wrap (-t) = -t := IntWalk.i64_in _ (by omega)
  have kx : IntKind.i64.wrap (d * pw (-unV e f)) = (d * pw (-unV e f)) := IntWalk.i64_in _ (by omega)
  have dz : ¬ (tenN (-t).toNat) = 0 := by omega
  have dz2 : ((tenN (-t).toNat) == 0) = false := by simpa using dz
  have z1 : (d * pw (-unV e f)).tdiv (tenN (-t).toNat) = (d * pw (-unV e f)) / (tenN (-t).toNat) := Int.tdiv_eq_ediv_of_nonneg x0
  have z2 : (d * pw (-unV e f)).tmod (tenN (-t).toNat) = (d * pw (-unV e f)) % (tenN (-t).toNat) := Int.tmod_eq_emod_of_nonneg x0
  have y0 : 0 ≤ (d * pw (-unV e f)) / (tenN (-t).toNat) := Int.ediv_nonneg x0 (by omega)
  have y1 : (d * pw (-unV e f)) / (tenN (-t).toNat) ≤ (d * pw (-unV e f)) := Int.ediv_le_self _ x0
  have k3 : IntKind.i64.wrap ((d * pw (-unV e f)) / (tenN (-t).toNat)) = (d * pw (-unV e f)) / (tenN (-t).toNat) := IntWalk.i64_in _ (by omega)
  have q : ∀ a b c : Int, ∀ w, (Instr.build 68 #[(0, .int .i64 a), (1, .int .i64 b), (2, .int .i64 c)]).run Tryz.prog w = .ok (.agg #[.int .i64 (a), .int .i64 (b), .int .i64 (c)]) w := fun a b c w => run_build w _ _ _ (by kernel_rfl)
  clear p2 x1 y0 y1
  generalize (tenN (-t).toNat) = D at *
  go_enter Tryz.func40, Tryz.ntmps40
  go_wp2_with (first | (go_at_call 80; refine (rdUnit_any e f hg _).mono ?_; rintro rv w1 ⟨rfl, hb⟩; have ns : w.heap.size + 1 < w1.heap.size := hb.ltK; have n0 : w1.cell? ⟨w.heap.size, 0, none⟩ = some (.int .i64 e) := hb.cellK; have n1 : w1.cell? ⟨w.heap.size, 1, none⟩ = some (.int .i64 f) := hb.cellK; have n2 : w1.cell? ⟨w.heap.size + 1, 0, none⟩ = some (.int .i64 0) := hb.cellK; have n3 : w1.cell? ⟨w.heap.size + 1, 1, none⟩ = some (.int .i64 0) := hb.cellK; have n4 : w1.cell? ⟨w.heap.size + 1, 2, none⟩ = some (.int .i64 0) := hb.cellK; have nz0 : w1.frozen? ⟨w.heap.size + 1, 0, none⟩ = false := hb.frzK; have nz1 : w1.frozen? ⟨w.heap.size + 1, 1, none⟩ = false := hb.frzK; have nz2 : w1.frozen? ⟨w.heap.size + 1, 2, none⟩ = false := hb.frzK; (first | (have nx := hx.trK hb; clear hx) | have nx := hb); clear hb; try clear hs; try clear g0; try clear g1; try clear g2; try clear g3; try clear g4; try clear z0; try clear z1; try clear z2; have hx := nx; clear nx; have hs := ns; clear ns; have g0 := n0; clear n0; have g1 := n1; clear n1; have g2 := n2; clear n2; have g3 := n3; clear n3; have g4 := n4; clear n4; have z0 := nz0; clear nz0; have z1 := nz1; clear nz1; have z2 := nz2; clear nz2) | (go_at_call 79; refine (RP.out _).mono ?_; rintro rv w1 ⟨rfl, rfl⟩))
  try (go_region_held3 (fun w' => w'.cell? ⟨w.heap.size, 0, none⟩ = some (.int .i64 e) ∧ w'.cell? ⟨w.heap.size, 1, none⟩ = some (.int .i64 f) ∧ w.heap.size < w'.heap.size) ((refine ⟨?_, ?_, ?_⟩ <;> first | with_reducible assumption | ((rw [cell_setRow_far _ _ _ _ _ (by omega)]); with_reducible assumption) | ((rw [setRow_size]); with_reducible assumption) | ((repeat rw [World.cell?_setCell_far _ _ _ _ (by simp)]); with_reducible assumption) | (simp; done) | (simp [World.setCell]; first | done | omega) | (simp [go_sem, World.cell?_alloc_past, World.cell?_setCell_far, *]; done))) ((first | (go_at_call 80; refine (rdUnit_any e f hg _).mono ?_; rintro rv w1 ⟨rfl, hb⟩; have ns : w.heap.size + 1 < w1.heap.size := hb.ltK; have n0 : w1.cell? ⟨w.heap.size, 0, none⟩ = some (.int .i64 e) := hb.cellK; have n1 : w1.cell? ⟨w.heap.size, 1, none⟩ = some (.int .i64 f) := hb.cellK; have n2 : w1.cell? ⟨w.heap.size + 1, 0, none⟩ = some (.int .i64 0) := hb.cellK; have n3 : w1.cell? ⟨w.heap.size + 1, 1, none⟩ = some (.int .i64 0) := hb.cellK; have n4 : w1.cell? ⟨w.heap.size + 1, 2, none⟩ = some (.int .i64 0) := hb.cellK; have nz0 : w1.frozen? ⟨w.heap.size + 1, 0, none⟩ = false := hb.frzK; have nz1 : w1.frozen? ⟨w.heap.size + 1, 1, none⟩ = false := hb.frzK; have nz2 : w1.frozen? ⟨w.heap.size + 1, 2, none⟩ = false := hb.frzK; (first | (have nx := hx.trK hb; clear hx) | have nx := hb); clear hb; try clear hs; try clear g0; try clear g1; try clear g2; try clear g3; try clear g4; try clear z0; try clear z1; try clear z2; have hx := nx; clear nx; have hs := ns; clear ns; have g0 := n0; clear n0; have g1 := n1; clear n1; have g2 := n2; clear n2; have g3 := n3; clear n3; have g4 := n4; clear n4; have z0 := nz0; clear nz0; have z1 := nz1; clear nz1; have z2 := nz2; clear nz2) | (go_at_call 79; refine (RP.out _).mono ?_; rintro rv w1 ⟨rfl, rfl⟩))))
  try go_wp2_with (first | (go_at_call 80; refine (rdUnit_any e f hg _).mono ?_; rintro rv w1 ⟨rfl, hb⟩; have ns : w.heap.size + 1 < w1.heap.size := hb.ltK; have n0 : w1.cell? ⟨w.heap.size, 0, none⟩ = some (.int .i64 e) := hb.cellK; have n1 : w1.cell? ⟨w.heap.size, 1, none⟩ = some (.int .i64 f) := hb.cellK; have n2 : w1.cell? ⟨w.heap.size + 1, 0, none⟩ = some (.int .i64 0) := hb.cellK; have n3 : w1.cell? ⟨w.heap.size + 1, 1, none⟩ = some (.int .i64 0) := hb.cellK; have n4 : w1.cell? ⟨w.heap.size + 1, 2, none⟩ = some (.int .i64 0) := hb.cellK; have nz0 : w1.frozen? ⟨w.heap.size + 1, 0, none⟩ = false := hb.frzK; have nz1 : w1.frozen? ⟨w.heap.size + 1, 1, none⟩ = false := hb.frzK; have nz2 : w1.frozen? ⟨w.heap.size + 1, 2, none⟩ = false := hb.frzK; (first | (have nx := hx.trK hb; clear hx) | have nx := hb); clear hb; try clear hs; try clear g0; try clear g1; try clear g2; try clear g3; try clear g4; try clear z0; try clear z1; try clear z2; have hx := nx; clear nx; have hs := ns; clear ns; have g0 := n0; clear n0; have g1 := n1; clear n1; have g2 := n2; clear n2; have g3 := n3; clear n3; have g4 := n4; clear n4; have z0 := nz0; clear nz0; have z1 := nz1; clear nz1; have z2 := nz2; clear nz2) | (go_at_call 79; refine (RP.out _).mono ?_; rintro rv w1 ⟨rfl, rfl⟩) | (go_at_call 81; refine (TX.out _).mono ?_; rintro rv w1 ⟨rfl, hb⟩; have ns : w.heap.size + 1 < w1.heap.size := hb.ltK; have n0 : w1.cell? ⟨w.heap.size, 0, none⟩ = some (.int .i64 e) := hb.cellK; have n1 : w1.cell? ⟨w.heap.size, 1, none⟩ = some (.int .i64 f) := hb.cellK; have n2 : w1.cell? ⟨w.heap.size + 1, 0, none⟩ = some (.int .i64 0) := hb.cellK; have n3 : w1.cell? ⟨w.heap.size + 1, 1, none⟩ = some (.int .i64 0) := hb.cellK; have n4 : w1.cell? ⟨w.heap.size + 1, 2, none⟩ = some (.int .i64 0) := hb.cellK; have nz0 : w1.frozen? ⟨w.heap.size + 1, 0, none⟩ = false := hb.frzK; have nz1 : w1.frozen? ⟨w.heap.size + 1, 1, none⟩ = false := hb.frzK; have nz2 : w1.frozen? ⟨w.heap.size + 1, 2, none⟩ = false := hb.frzK; (first | (have nx := hx.trK hb; clear hx) | have nx := hb); clear hb; try clear hs; try clear g0; try clear g1; try clear g2; try clear g3; try clear g4; try clear z0; try clear z1; try clear z2; have hx := nx; clear nx; have hs := ns; clear ns; have g0 := n0; clear n0; have g1 := n1; clear n1; have g2 := n2; clear n2; have g3 := n3; clear n3; have g4 := n4; clear n4; have z0 := nz0; clear nz0; have z1 := nz1; clear nz1; have z2 := nz2; clear nz2))
  try (go_region_held3 (fun w' => w'.cell? ⟨w.heap.size, 0, none⟩ = some (.int .i64 e) ∧ w'.cell? ⟨w.heap.size, 1, none⟩ = some (.int .i64 f) ∧ w.heap.size < w'.heap.size) ((refine ⟨?_, ?_, ?_⟩ <;> first | with_reducible assumption | ((rw [cell_setRow_far _ _ _ _ _ (by omega)]); with_reducible assumption) | ((rw [setRow_size]); with_reducible assumption) | ((repeat rw [World.cell?_setCell_far _ _ _ _ (by simp)]); with_reducible assumption) | (simp; done) | (simp [World.setCell]; first | done | omega) | (simp [go_sem, World.cell?_alloc_past, World.cell?_setCell_far, *]; done))) ((first | (go_at_call 81; refine (TX.out _).mono ?_; rintro rv w1 ⟨rfl, hb⟩; have ns : w.heap.size + 1 < w1.heap.size := hb.ltK; have n0 : w1.cell? ⟨w.heap.size, 0, none⟩ = some (.int .i64 e) := hb.cellK; have n1 : w1.cell? ⟨w.heap.size, 1, none⟩ = some (.int .i64 f) := hb.cellK; have n2 : w1.cell? ⟨w.heap.size + 1, 0, none⟩ = some (.int .i64 0) := hb.cellK; have n3 : w1.cell? ⟨w.heap.size + 1, 1, none⟩ = some (.int .i64 0) := hb.cellK; have n4 : w1.cell? ⟨w.heap.size + 1, 2, none⟩ = some (.int .i64 0) := hb.cellK; have nz0 : w1.frozen? ⟨w.heap.size + 1, 0, none⟩ = false := hb.frzK; have nz1 : w1.frozen? ⟨w.heap.size + 1, 1, none⟩ = false := hb.frzK; have nz2 : w1.frozen? ⟨w.heap.size + 1, 2, none⟩ = false := hb.frzK; (first | (have nx := hx.trK hb; clear hx) | have nx := hb); clear hb; try clear hs; try clear g0; try clear g1; try clear g2; try clear g3; try clear g4; try clear z0; try clear z1; try clear z2; have hx := nx; clear nx; have hs := ns; clear ns; have g0 := n0; clear n0; have g1 := n1; clear n1; have g2 := n2; clear n2; have g3 := n3; clear n3; have g4 := n4; clear n4; have z0 := nz0; clear nz0; have z1 := nz1; clear nz1; have z2 := nz2; clear nz2))))
  try go_wp2_with fail
  all_goals (try (go_region_held3 (fun w' => w'.cell? ⟨w.heap.size, 0, none⟩ = some (.int .i64 e) ∧ w'.cell? ⟨w.heap.size, 1, none⟩ = some (.int .i64 f) ∧ w.heap.size < w'.heap.size) ((refine ⟨?_, ?_, ?_⟩ <;> first | with_reducible assumption | ((repeat first | rw [cell_set_far _ _ _ _ _ _ (by omega)] | rw [cell_alloc_before _ _ _ _ (by omega)] | rw [cell_alloc_drew _ _ _ _ (by omega)] | rw [cell_drew]); with_reducible assumption) | ((rw [cell_setRow_far _ _ _ _ _ (by omega)]); with_reducible assumption) | ((rw [setRow_size]); with_reducible assumption) | (simp; done) | (simp [World.setCell]; first | done | omega) | (simp [go_sem, World.cell?_alloc_past, World.cell?_setCell_far, *]; done))) (fail)))
  all_goals (try go_wp2_with fail)
  all_goals exact bodyPost_ret (v := .agg #[.int .i64 ((d * pw (-unV e f)) / D), .int .i64 ((d * pw (-unV e f)) % D), .int .i64 (D)]) (by simp [results, Tryz.results40, go_sem, *]) rfl ⟨rfl, Ext.auK⟩

theorem txNumber_zero (e f t : Int) (hg : goodB e f = true) (hd : TcP 0 t) (h : ¬ t < 0) (w : World) : Calls Tryz.prog 40 #[fmt e f, .int .i64 0, .int .i64 t] w fun rv w' => rv = .returned (.agg #[.int .i64 (0), .int .i64 (0), .int .i64 (1)]) ∧ Ext w w' := by
  obtain ⟨⟨d0, d1⟩, t0, t1⟩ := hd
  obtain ⟨u1, u2, u3, u4⟩ := un_bd hg
  have p1 := pw_pos (-unV e f)
  have p2 := pw_le (a := -unV e f) 24 16777216 rfl (by omega)
  have RP := Lib.hid (fun w => rdPower_any (-unV e f) (by omega) (by omega) w)
  have ku : IntKind.i64.wrap (-unV e f) = -unV e f := IntWalk.i64_in _ (by omega)
  have q : ∀ a b c : Int, ∀ w, (Instr.build 68 #[(0, .int .i64 a), (1, .int .i64 b), (2, .int .i64 c)]).run Tryz.prog w = .ok (.agg #[.int .i64 (a), .int .i64 (b), .int .i64 (c)]) w := fun a b c w => run_build w _ _ _ (by kernel_rfl)
  go_enter Tryz.func40, Tryz.ntmps40
  go_wp2_with (first | (go_at_call 80; refine (rdUnit_any e f hg _).mono ?_; rintro rv w1 ⟨rfl, hb⟩; have ns : w.heap.size + 1 < w1.heap.size := hb.ltK; have n0 : w1.cell? ⟨w.heap.size, 0, none⟩ = some (.int .i64 e) := hb.cellK; have n1 : w1.cell? ⟨w.heap.size, 1, none⟩ = some (.int .i64 f) := hb.cellK; have n2 : w1.cell? ⟨w.heap.size + 1, 0, none⟩ = some (.int .i64 0) := hb.cellK; have n3 : w1.cell? ⟨w.heap.size + 1, 1, none⟩ = some (.int .i64 0) := hb.cellK; have n4 : w1.cell? ⟨w.heap.size + 1, 2, none⟩ = some (.int .i64 0) := hb.cellK; have nz0 : w1.frozen? ⟨w.heap.size + 1, 0, none⟩ = false := hb.frzK; have nz1 : w1.frozen? ⟨w.heap.size + 1, 1, none⟩ = false := hb.frzK; have nz2 : w1.frozen? ⟨w.heap.size + 1, 2, none⟩ = false := hb.frzK; (first | (have nx := hx.trK hb; clear hx) | have nx := hb); clear hb; try clear hs; try clear g0; try clear g1; try clear g2; try clear g3; try clear g4; try clear z0; try clear z1; try clear z2; have hx := nx; clear nx; have hs := ns; clear ns; have g0 := n0; clear n0; have g1 := n1; clear n1; have g2 := n2; clear n2; have g3 := n3; clear n3; have g4 := n4; clear n4; have z0 := nz0; clear nz0; have z1 := nz1; clear nz1; have z2 := nz2; clear nz2) | (go_at_call 79; refine (RP.out _).mono ?_; rintro rv w1 ⟨rfl, rfl⟩))
  try (go_region_held3 (fun w' => w'.cell? ⟨w.heap.size, 0, none⟩ = some (.int .i64 e) ∧ w'.cell? ⟨w.heap.size, 1, none⟩ = some (.int .i64 f) ∧ w.heap.size < w'.heap.size) ((refine ⟨?_, ?_, ?_⟩ <;> first | with_reducible assumption | ((rw [cell_setRow_far _ _ _ _ _ (by omega)]); with_reducible assumption) | ((rw [setRow_size]); with_reducible assumption) | ((repeat rw [World.cell?_setCell_far _ _ _ _ (by simp)]); with_reducible assumption) | (simp; done) | (simp [World.setCell]; first | done | omega) | (simp [go_sem, World.cell?_alloc_past, World.cell?_setCell_far, *]; done))) ((first | (go_at_call 80; refine (rdUnit_any e f hg _).mono ?_; rintro rv w1 ⟨rfl, hb⟩; have ns : w.heap.size + 1 < w1.heap.size := hb.ltK; have n0 : w1.cell? ⟨w.heap.size, 0, none⟩ = some (.int .i64 e) := hb.cellK; have n1 : w1.cell? ⟨w.heap.size, 1, none⟩ = some (.int .i64 f) := hb.cellK; have n2 : w1.cell? ⟨w.heap.size + 1, 0, none⟩ = some (.int .i64 0) := hb.cellK; have n3 : w1.cell? ⟨w.heap.size + 1, 1, none⟩ = some (.int .i64 0) := hb.cellK; have n4 : w1.cell? ⟨w.heap.size + 1, 2, none⟩ = some (.int .i64 0) := hb.cellK; have nz0 : w1.frozen? ⟨w.heap.size + 1, 0, none⟩ = false := hb.frzK; have nz1 : w1.frozen? ⟨w.heap.size + 1, 1, none⟩ = false := hb.frzK; have nz2 : w1.frozen? ⟨w.heap.size + 1, 2, none⟩ = false := hb.frzK; (first | (have nx := hx.trK hb; clear hx) | have nx := hb); clear hb; try clear hs; try clear g0; try clear g1; try clear g2; try clear g3; try clear g4; try clear z0; try clear z1; try clear z2; have hx := nx; clear nx; have hs := ns; clear ns; have g0 := n0; clear n0; have g1 := n1; clear n1; have g2 := n2; clear n2; have g3 := n3; clear n3; have g4 := n4; clear n4; have z0 := nz0; clear nz0; have z1 := nz1; clear nz1; have z2 := nz2; clear nz2) | (go_at_call 79; refine (RP.out _).mono ?_; rintro rv w1 ⟨rfl, rfl⟩))))
  try go_wp2_with fail
  all_goals (try (go_region_held3 (fun w' => w'.cell? ⟨w.heap.size, 0, none⟩ = some (.int .i64 e) ∧ w'.cell? ⟨w.heap.size, 1, none⟩ = some (.int .i64 f) ∧ w.heap.size < w'.heap.size) ((refine ⟨?_, ?_, ?_⟩ <;> first | with_reducible assumption | ((repeat first | rw [cell_set_far _ _ _ _ _ _ (by omega)] | rw [cell_alloc_before _ _ _ _ (by omega)] | rw [cell_alloc_drew _ _ _ _ (by omega)] | rw [cell_drew]); with_reducible assumption) | ((rw [cell_setRow_far _ _ _ _ _ (by omega)]); with_reducible assumption) | ((rw [setRow_size]); with_reducible assumption) | (simp; done) | (simp [World.setCell]; first | done | omega) | (simp [go_sem, World.cell?_alloc_past, World.cell?_setCell_far, *]; done))) (fail)))
  all_goals (try go_wp2_with fail)
  all_goals exact bodyPost_ret (v := .agg #[.int .i64 (0), .int .i64 (0), .int .i64 (1)]) (by simp [results, Tryz.results40, go_sem, *]) rfl ⟨rfl, Ext.auK⟩

set_option maxHeartbeats 1600000 in
theorem txNumber_fit (e f d t : Int) (hg : goodB e f = true) (hd : TcP d t) (h : ¬ t < 0) (hz : ¬ d = 0) (h6 : t < 6) (hl : d * (tenN t.toNat) < 262144) (w : World) : Calls Tryz.prog 40 #[fmt e f, .int .i64 d, .int .i64 t] w fun rv w' => rv = .returned (.agg #[.int .i64 (d * (tenN t.toNat) * pw (-unV e f)), .int .i64 (0), .int .i64 (1)]) ∧ Ext w w' := by
  obtain ⟨⟨d0, d1⟩, t0, t1⟩ := hd
  obtain ⟨u1, u2, u3, u4⟩ := un_bd hg
  have p1 := pw_pos (-unV e f)
  have p2 := pw_le (a := -unV e f) 24 16777216 rfl (by omega)
  have RP := Lib.hid (fun w => rdPower_any (-unV e f) (by omega) (by omega) w)
  have ku : IntKind.i64.wrap (-unV e f) = -unV e f := IntWalk.i64_in _ (by omega)
  have pk := tenN_pos t.toNat
  have x0 : 0 ≤ d * (tenN t.toNat) := Int.mul_nonneg d0 (by omega)
  have x1 : d * (tenN t.toNat) * pw (-unV e f) ≤ 262144 * 16777216 := Int.mul_le_mul (by omega) p2 (by omega) (by omega)
  have x2 : 0 ≤ d * (tenN t.toNat) * pw (-unV e f) := Int.mul_nonneg x0 (by omega)
  have TX := Lib.hid (fun w => txTen_any t (by omega) w)
  have kx : IntKind.i64.wrap (d * (tenN t.toNat)) = d * (tenN t.toNat) := IntWalk.i64_in _ (by omega)
  have ky : IntKind.i64.wrap (d * (tenN t.toNat) * pw (-unV e f)) = d * (tenN t.toNat) * pw (-unV e f) := IntWalk.i64_in _ (by omega)
  have hz2 : (d == 0) = false := by simpa using hz
  have q : ∀ a b c : Int, ∀ w, (Instr.build 68 #[(0, .int .i64 a), (1, .int .i64 b), (2, .int .i64 c)]).run Tryz.prog w = .ok (.agg #[.int .i64 (a), .int .i64 (b), .int .i64 (c)]) w := fun a b c w => run_build w _ _ _ (by kernel_rfl)
  clear p2 x0 x1 x2 pk
  generalize (tenN t.toNat) = D at *
  go_enter Tryz.func40, Tryz.ntmps40
  go_wp2_with (first | (go_at_call 80; refine (rdUnit_any e f hg _).mono ?_; rintro rv w1 ⟨rfl, hb⟩; have ns : w.heap.size + 1 < w1.heap.size := hb.ltK; have n0 : w1.cell? ⟨w.heap.size, 0, none⟩ = some (.int .i64 e) := hb.cellK; have n1 : w1.cell? ⟨w.heap.size, 1, none⟩ = some (.int .i64 f) := hb.cellK; have n2 : w1.cell? ⟨w.heap.size + 1, 0, none⟩ = some (.int .i64 0) := hb.cellK; have n3 : w1.cell? ⟨w.heap.size + 1, 1, none⟩ = some (.int .i64 0) := hb.cellK; have n4 : w1.cell? ⟨w.heap.size + 1, 2, none⟩ = some (.int .i64 0) := hb.cellK; have nz0 : w1.frozen? ⟨w.heap.size + 1, 0, none⟩ = false := hb.frzK; have nz1 : w1.frozen? ⟨w.heap.size + 1, 1, none⟩ = false := hb.frzK; have nz2 : w1.frozen? ⟨w.heap.size + 1, 2, none⟩ = false := hb.frzK; (first | (have nx := hx.trK hb; clear hx) | have nx := hb); clear hb; try clear hs; try clear g0; try clear g1; try clear g2; try clear g3; try clear g4; try clear z0; try clear z1; try clear z2; have hx := nx; clear nx; have hs := ns; clear ns; have g0 := n0; clear n0; have g1 := n1; clear n1; have g2 := n2; clear n2; have g3 := n3; clear n3; have g4 := n4; clear n4; have z0 := nz0; clear nz0; have z1 := nz1; clear nz1; have z2 := nz2; clear nz2) | (go_at_call 79; refine (RP.out _).mono ?_; rintro rv w1 ⟨rfl, rfl⟩))
  try (go_region_held3 (fun w' => w'.cell? ⟨w.heap.size, 0, none⟩ = some (.int .i64 e) ∧ w'.cell? ⟨w.heap.size, 1, none⟩ = some (.int .i64 f) ∧ w.heap.size < w'.heap.size) ((refine ⟨?_, ?_, ?_⟩ <;> first | with_reducible assumption | ((rw [cell_setRow_far _ _ _ _ _ (by omega)]); with_reducible assumption) | ((rw [setRow_size]); with_reducible assumption) | ((repeat rw [World.cell?_setCell_far _ _ _ _ (by simp)]); with_reducible assumption) | (simp; done) | (simp [World.setCell]; first | done | omega) | (simp [go_sem, World.cell?_alloc_past, World.cell?_setCell_far, *]; done))) ((first | (go_at_call 80; refine (rdUnit_any e f hg _).mono ?_; rintro rv w1 ⟨rfl, hb⟩; have ns : w.heap.size + 1 < w1.heap.size := hb.ltK; have n0 : w1.cell? ⟨w.heap.size, 0, none⟩ = some (.int .i64 e) := hb.cellK; have n1 : w1.cell? ⟨w.heap.size, 1, none⟩ = some (.int .i64 f) := hb.cellK; have n2 : w1.cell? ⟨w.heap.size + 1, 0, none⟩ = some (.int .i64 0) := hb.cellK; have n3 : w1.cell? ⟨w.heap.size + 1, 1, none⟩ = some (.int .i64 0) := hb.cellK; have n4 : w1.cell? ⟨w.heap.size + 1, 2, none⟩ = some (.int .i64 0) := hb.cellK; have nz0 : w1.frozen? ⟨w.heap.size + 1, 0, none⟩ = false := hb.frzK; have nz1 : w1.frozen? ⟨w.heap.size + 1, 1, none⟩ = false := hb.frzK; have nz2 : w1.frozen? ⟨w.heap.size + 1, 2, none⟩ = false := hb.frzK; (first | (have nx := hx.trK hb; clear hx) | have nx := hb); clear hb; try clear hs; try clear g0; try clear g1; try clear g2; try clear g3; try clear g4; try clear z0; try clear z1; try clear z2; have hx := nx; clear nx; have hs := ns; clear ns; have g0 := n0; clear n0; have g1 := n1; clear n1; have g2 := n2; clear n2; have g3 := n3; clear n3; have g4 := n4; clear n4; have z0 := nz0; clear nz0; have z1 := nz1; clear nz1; have z2 := nz2; clear nz2) | (go_at_call 79; refine (RP.out _).mono ?_; rintro rv w1 ⟨rfl, rfl⟩))))
  try go_wp2_with (first | (go_at_call 80; refine (rdUnit_any e f hg _).mono ?_; rintro rv w1 ⟨rfl, hb⟩; have ns : w.heap.size + 1 < w1.heap.size := hb.ltK; have n0 : w1.cell? ⟨w.heap.size, 0, none⟩ = some (.int .i64 e) := hb.cellK; have n1 : w1.cell? ⟨w.heap.size, 1, none⟩ = some (.int .i64 f) := hb.cellK; have n2 : w1.cell? ⟨w.heap.size + 1, 0, none⟩ = some (.int .i64 0) := hb.cellK; have n3 : w1.cell? ⟨w.heap.size + 1, 1, none⟩ = some (.int .i64 0) := hb.cellK; have n4 : w1.cell? ⟨w.heap.size + 1, 2, none⟩ = some (.int .i64 0) := hb.cellK; have nz0 : w1.frozen? ⟨w.heap.size + 1, 0, none⟩ = false := hb.frzK; have nz1 : w1.frozen? ⟨w.heap.size + 1, 1, none⟩ = false := hb.frzK; have nz2 : w1.frozen? ⟨w.heap.size + 1, 2, none⟩ = false := hb.frzK; (first | (have nx := hx.trK hb; clear hx) | have nx := hb); clear hb; try clear hs; try clear g0; try clear g1; try clear g2; try clear g3; try clear g4; try clear z0; try clear z1; try clear z2; have hx := nx; clear nx; have hs := ns; clear ns; have g0 := n0; clear n0; have g1 := n1; clear n1; have g2 := n2; clear n2; have g3 := n3; clear n3; have g4 := n4; clear n4; have z0 := nz0; clear nz0; have z1 := nz1; clear nz1; have z2 := nz2; clear nz2) | (go_at_call 79; refine (RP.out _).mono ?_; rintro rv w1 ⟨rfl, rfl⟩) | (go_at_call 81; refine (TX.out _).mono ?_; rintro rv w1 ⟨rfl, hb⟩; have ns : w.heap.size + 1 < w1.heap.size := hb.ltK; have n0 : w1.cell? ⟨w.heap.size, 0, none⟩ = some (.int .i64 e) := hb.cellK; have n1 : w1.cell? ⟨w.heap.size, 1, none⟩ = some (.int .i64 f) := hb.cellK; have n2 : w1.cell? ⟨w.heap.size + 1, 0, none⟩ = some (.int .i64 0) := hb.cellK; have n3 : w1.cell? ⟨w.heap.size + 1, 1, none⟩ = some (.int .i64 0) := hb.cellK; have n4 : w1.cell? ⟨w.heap.size + 1, 2, none⟩ = some (.int .i64 0) := hb.cellK; have nz0 : w1.frozen? ⟨w.heap.size + 1, 0, none⟩ = false := hb.frzK; have nz1 : w1.frozen? ⟨w.heap.size + 1, 1, none⟩ = false := hb.frzK; have nz2 : w1.frozen? ⟨w.heap.size + 1, 2, none⟩ = false := hb.frzK; (first | (have nx := hx.trK hb; clear hx) | have nx := hb); clear hb; try clear hs; try clear g0; try clear g1; try clear g2; try clear g3; try clear g4; try clear z0; try clear z1; try clear z2; have hx := nx; clear nx; have hs := ns; clear ns; have g0 := n0; clear n0; have g1 := n1; clear n1; have g2 := n2; clear n2; have g3 := n3; clear n3; have g4 := n4; clear n4; have z0 := nz0; clear nz0; have z1 := nz1; clear nz1; have z2 := nz2; clear nz2))
  try (go_region_held3 (fun w' => w'.cell? ⟨w.heap.size, 0, none⟩ = some (.int .i64 e) ∧ w'.cell? ⟨w.heap.size, 1, none⟩ = some (.int .i64 f) ∧ w.heap.size < w'.heap.size) ((refine ⟨?_, ?_, ?_⟩ <;> first | with_reducible assumption | ((rw [cell_setRow_far _ _ _ _ _ (by omega)]); with_reducible assumption) | ((rw [setRow_size]); with_reducible assumption) | ((repeat rw [World.cell?_setCell_far _ _ _ _ (by simp)]); with_reducible assumption) | (simp; done) | (simp [World.setCell]; first | done | omega) | (simp [go_sem, World.cell?_alloc_past, World.cell?_setCell_far, *]; done))) ((first | (go_at_call 81; refine (TX.out _).mono ?_; rintro rv w1 ⟨rfl, hb⟩; have ns : w.heap.size + 1 < w1.heap.size := hb.ltK; have n0 : w1.cell? ⟨w.heap.size, 0, none⟩ = some (.int .i64 e) := hb.cellK; have n1 : w1.cell? ⟨w.heap.size, 1, none⟩ = some (.int .i64 f) := hb.cellK; have n2 : w1.cell? ⟨w.heap.size + 1, 0, none⟩ = some (.int .i64 0) := hb.cellK; have n3 : w1.cell? ⟨w.heap.size + 1, 1, none⟩ = some (.int .i64 0) := hb.cellK; have n4 : w1.cell? ⟨w.heap.size + 1, 2, none⟩ = some (.int .i64 0) := hb.cellK; have nz0 : w1.frozen? ⟨w.heap.size + 1, 0, none⟩ = false := hb.frzK; have nz1 : w1.frozen? ⟨w.heap.size + 1, 1, none⟩ = false := hb.frzK; have nz2 : w1.frozen? ⟨w.heap.size + 1, 2, none⟩ = false := hb.frzK; (first | (have nx := hx.trK hb; clear hx) | have nx := hb); clear hb; try clear hs; try clear g0; try clear g1; try clear g2; try clear g3; try clear g4; try clear z0; try clear z1; try clear z2; have hx := nx; clear nx; have hs := ns; clear ns; have g0 := n0; clear n0; have g1 := n1; clear n1; have g2 := n2; clear n2; have g3 := n3; clear n3; have g4 := n4; clear n4; have z0 := nz0; clear nz0; have z1 := nz1; clear nz1; have z2 := nz2; clear nz2))))
  try go_wp2_with fail
  all_goals (try (go_region_held3 (fun w' => w'.cell? ⟨w.heap.size, 0, none⟩ = some (.int .i64 e) ∧ w'.cell? ⟨w.heap.size, 1, none⟩ = some (.int .i64 f) ∧ w.heap.size < w'.heap.size) ((refine ⟨?_, ?_, ?_⟩ <;> first | with_reducible assumption | ((repeat first | rw [cell_set_far _ _ _ _ _ _ (by omega)] | rw [cell_alloc_before _ _ _ _ (by omega)] | rw [cell_alloc_drew _ _ _ _ (by omega)] | rw [cell_drew]); with_reducible assumption) | ((rw [cell_setRow_far _ _ _ _ _ (by omega)]); with_reducible assumption) | ((rw [setRow_size]); with_reducible assumption) | (simp; done) | (simp [World.setCell]; first | done | omega) | (simp [go_sem, World.cell?_alloc_past, World.cell?_setCell_far, *]; done))) ((first | (go_at_call 81; refine (TX.out _).mono ?_; rintro rv w1 ⟨rfl, hb⟩; have ns : w.heap.size + 1 < w1.heap.size := hb.ltK; have n0 : w1.cell? ⟨w.heap.size, 0, none⟩ = some (.int .i64 e) := hb.cellK; have n1 : w1.cell? ⟨w.heap.size, 1, none⟩ = some (.int .i64 f) := hb.cellK; have n2 : w1.cell? ⟨w.heap.size + 1, 0, none⟩ = some (.int .i64 0) := hb.cellK; have n3 : w1.cell? ⟨w.heap.size + 1, 1, none⟩ = some (.int .i64 0) := hb.cellK; have n4 : w1.cell? ⟨w.heap.size + 1, 2, none⟩ = some (.int .i64 0) := hb.cellK; have nz0 : w1.frozen? ⟨w.heap.size + 1, 0, none⟩ = false := hb.frzK; have nz1 : w1.frozen? ⟨w.heap.size + 1, 1, none⟩ = false := hb.frzK; have nz2 : w1.frozen? ⟨w.heap.size + 1, 2, none⟩ = false := hb.frzK; (first | (have nx := hx.trK hb; clear hx) | have nx := hb); clear hb; try clear hs; try clear g0; try clear g1; try clear g2; try clear g3; try clear g4; try clear z0; try clear z1; try clear z2; have hx := nx; clear nx; have hs := ns; clear ns; have g0 := n0; clear n0; have g1 := n1; clear n1; have g2 := n2; clear n2; have g3 := n3; clear n3; have g4 := n4; clear n4; have z0 := nz0; clear nz0; have z1 := nz1; clear nz1; have z2 := nz2; clear nz2)))))
  all_goals (try go_wp2_with fail)
  all_goals exact bodyPost_ret (v := .agg #[.int .i64 (d * D * pw (-unV e f)), .int .i64 (0), .int .i64 (1)]) (by simp [results, Tryz.results40, go_sem, *]) rfl ⟨rfl, Ext.auK⟩

set_option maxHeartbeats 1600000 in
theorem txNumber_far (e f d t : Int) (hg : goodB e f = true) (hd : TcP d t) (h : ¬ t < 0) (hz : ¬ d = 0) (hl : ¬ t < 6 ∨ (t < 6 ∧ ¬ d * (tenN t.toNat) < 262144)) (w : World) : Calls Tryz.prog 40 #[fmt e f, .int .i64 d, .int .i64 t] w fun rv w' => rv = .returned (.agg #[.int .i64 (17592186044416), .int .i64 (0), .int .i64 (1)]) ∧ Ext w w' := by
  obtain ⟨⟨d0, d1⟩, t0, t1⟩ := hd
  obtain ⟨u1, u2, u3, u4⟩ := un_bd hg
  have p1 := pw_pos (-unV e f)
  have p2 := pw_le (a := -unV e f) 24 16777216 rfl (by omega)
  have RP := Lib.hid (fun w => rdPower_any (-unV e f) (by omega) (by omega) w)
  have ku : IntKind.i64.wrap (-unV e f) = -unV e f := IntWalk.i64_in _ (by omega)
  have pk := tenN_pos t.toNat
  have x0 : 0 ≤ d * (tenN t.toNat) := Int.mul_nonneg d0 (by omega)
  have TX := Lib.hid (fun w => txTen_any t (by omega) w)
  have hz2 : (d == 0) = false := by simpa using hz
  have q : ∀ a b c : Int, ∀ w, (Instr.build 68 #[(0, .int .i64 a), (1, .int .i64 b), (2, .int .i64 c)]).run Tryz.prog w = .ok (.agg #[.int .i64 (a), .int .i64 (b), .int .i64 (c)]) w := fun a b c w => run_build w _ _ _ (by kernel_rfl)
  rcases hl with h6 | ⟨h6, hl⟩
  · go_enter Tryz.func40, Tryz.ntmps40
    go_wp2_with (first | (go_at_call 80; refine (rdUnit_any e f hg _).mono ?_; rintro rv w1 ⟨rfl, hb⟩; have ns : w.heap.size + 1 < w1.heap.size := hb.ltK; have n0 : w1.cell? ⟨w.heap.size, 0, none⟩ = some (.int .i64 e) := hb.cellK; have n1 : w1.cell? ⟨w.heap.size, 1, none⟩ = some (.int .i64 f) := hb.cellK; have n2 : w1.cell? ⟨w.heap.size + 1, 0, none⟩ = some (.int .i64 0) := hb.cellK; have n3 : w1.cell? ⟨w.heap.size + 1, 1, none⟩ = some (.int .i64 0) := hb.cellK; have n4 : w1.cell? ⟨w.heap.size + 1, 2, none⟩ = some (.int .i64 0) := hb.cellK; have nz0 : w1.frozen? ⟨w.heap.size + 1, 0, none⟩ = false := hb.frzK; have nz1 : w1.frozen? ⟨w.heap.size + 1, 1, none⟩ = false := hb.frzK; have nz2 : w1.frozen? ⟨w.heap.size + 1, 2, none⟩ = false := hb.frzK; (first | (have nx := hx.trK hb; clear hx) | have nx := hb); clear hb; try clear hs; try clear g0; try clear g1; try clear g2; try clear g3; try clear g4; try clear z0; try clear z1; try clear z2; have hx := nx; clear nx; have hs := ns; clear ns; have g0 := n0; clear n0; have g1 := n1; clear n1; have g2 := n2; clear n2; have g3 := n3; clear n3; have g4 := n4; clear n4; have z0 := nz0; clear nz0; have z1 := nz1; clear nz1; have z2 := nz2; clear nz2) | (go_at_call 79; refine (RP.out _).mono ?_; rintro rv w1 ⟨rfl, rfl⟩))
    try (go_region_held3 (fun w' => w'.cell? ⟨w.heap.size, 0, none⟩ = some (.int .i64 e) ∧ w'.cell? ⟨w.heap.size, 1, none⟩ = some (.int .i64 f) ∧ w.heap.size < w'.heap.size) ((refine ⟨?_, ?_, ?_⟩ <;> first | with_reducible assumption | ((rw [cell_setRow_far _ _ _ _ _ (by omega)]); with_reducible assumption) | ((rw [setRow_size]); with_reducible assumption) | ((repeat rw [World.cell?_setCell_far _ _ _ _ (by simp)]); with_reducible assumption) | (simp; done) | (simp [World.setCell]; first | done | omega) | (simp [go_sem, World.cell?_alloc_past, World.cell?_setCell_far, *]; done))) ((first | (go_at_call 80; refine (rdUnit_any e f hg _).mono ?_; rintro rv w1 ⟨rfl, hb⟩; have ns : w.heap.size + 1 < w1.heap.size := hb.ltK; have n0 : w1.cell? ⟨w.heap.size, 0, none⟩ = some (.int .i64 e) := hb.cellK; have n1 : w1.cell? ⟨w.heap.size, 1, none⟩ = some (.int .i64 f) := hb.cellK; have n2 : w1.cell? ⟨w.heap.size + 1, 0, none⟩ = some (.int .i64 0) := hb.cellK; have n3 : w1.cell? ⟨w.heap.size + 1, 1, none⟩ = some (.int .i64 0) := hb.cellK; have n4 : w1.cell? ⟨w.heap.size + 1, 2, none⟩ = some (.int .i64 0) := hb.cellK; have nz0 : w1.frozen? ⟨w.heap.size + 1, 0, none⟩ = false := hb.frzK; have nz1 : w1.frozen? ⟨w.heap.size + 1, 1, none⟩ = false := hb.frzK; have nz2 : w1.frozen? ⟨w.heap.size + 1, 2, none⟩ = false := hb.frzK; (first | (have nx := hx.trK hb; clear hx) | have nx := hb); clear hb; try clear hs; try clear g0; try clear g1; try clear g2; try clear g3; try clear g4; try clear z0; try clear z1; try clear z2; have hx := nx; clear nx; have hs := ns; clear ns; have g0 := n0; clear n0; have g1 := n1; clear n1; have g2 := n2; clear n2; have g3 := n3; clear n3; have g4 := n4; clear n4; have z0 := nz0; clear nz0; have z1 := nz1; clear nz1; have z2 := nz2; clear nz2) | (go_at_call 79; refine (RP.out _).mono ?_; rintro rv w1 ⟨rfl, rfl⟩))))
    try go_wp2_with (first | (go_at_call 80; refine (rdUnit_any e f hg _).mono ?_; rintro rv w1 ⟨rfl, hb⟩; have ns : w.heap.size + 1 < w1.heap.size := hb.ltK; have n0 : w1.cell? ⟨w.heap.size, 0, none⟩ = some (.int .i64 e) := hb.cellK; have n1 : w1.cell? ⟨w.heap.size, 1, none⟩ = some (.int .i64 f) := hb.cellK; have n2 : w1.cell? ⟨w.heap.size + 1, 0, none⟩ = some (.int .i64 0) := hb.cellK; have n3 : w1.cell? ⟨w.heap.size + 1, 1, none⟩ = some (.int .i64 0) := hb.cellK; have n4 : w1.cell? ⟨w.heap.size + 1, 2, none⟩ = some (.int .i64 0) := hb.cellK; have nz0 : w1.frozen? ⟨w.heap.size + 1, 0, none⟩ = false := hb.frzK; have nz1 : w1.frozen? ⟨w.heap.size + 1, 1, none⟩ = false := hb.frzK; have nz2 : w1.frozen? ⟨w.heap.size + 1, 2, none⟩ = false := hb.frzK; (first | (have nx := hx.trK hb; clear hx) | have nx := hb); clear hb; try clear hs; try clear g0; try clear g1; try clear g2; try clear g3; try clear g4; try clear z0; try clear z1; try clear z2; have hx := nx; clear nx; have hs := ns; clear ns; have g0 := n0; clear n0; have g1 := n1; clear n1; have g2 := n2; clear n2; have g3 := n3; clear n3; have g4 := n4; clear n4; have z0 := nz0; clear nz0; have z1 := nz1; clear nz1; have z2 := nz2; clear nz2) | (go_at_call 79; refine (RP.out _).mono ?_; rintro rv w1 ⟨rfl, rfl⟩) | (go_at_call 81; refine (TX.out _).mono ?_; rintro rv w1 ⟨rfl, hb⟩; have ns : w.heap.size + 1 < w1.heap.size := hb.ltK; have n0 : w1.cell? ⟨w.heap.size, 0, none⟩ = some (.int .i64 e) := hb.cellK; have n1 : w1.cell? ⟨w.heap.size, 1, none⟩ = some (.int .i64 f) := hb.cellK; have n2 : w1.cell? ⟨w.heap.size + 1, 0, none⟩ = some (.int .i64 0) := hb.cellK; have n3 : w1.cell? ⟨w.heap.size + 1, 1, none⟩ = some (.int .i64 0) := hb.cellK; have n4 : w1.cell? ⟨w.heap.size + 1, 2, none⟩ = some (.int .i64 0) := hb.cellK; have nz0 : w1.frozen? ⟨w.heap.size + 1, 0, none⟩ = false := hb.frzK; have nz1 : w1.frozen? ⟨w.heap.size + 1, 1, none⟩ = false := hb.frzK; have nz2 : w1.frozen? ⟨w.heap.size + 1, 2, none⟩ = false := hb.frzK; (first | (have nx := hx.trK hb; clear hx) | have nx := hb); clear hb; try clear hs; try clear g0; try clear g1; try clear g2; try clear g3; try clear g4; try clear z0; try clear z1; try clear z2; have hx := nx; clear nx; have hs := ns; clear ns; have g0 := n0; clear n0; have g1 := n1; clear n1; have g2 := n2; clear n2; have g3 := n3; clear n3; have g4 := n4; clear n4; have z0 := nz0; clear nz0; have z1 := nz1; clear nz1; have z2 := nz2; clear nz2))
    all_goals (try (go_region_held3 (fun w' => w'.cell? ⟨w.heap.size, 0, none⟩ = some (.int .i64 e) ∧ w'.cell? ⟨w.heap.size, 1, none⟩ = some (.int .i64 f) ∧ w.heap.size < w'.heap.size) ((refine ⟨?_, ?_, ?_⟩ <;> first | with_reducible assumption | ((repeat first | rw [cell_set_far _ _ _ _ _ _ (by omega)] | rw [cell_alloc_before _ _ _ _ (by omega)] | rw [cell_alloc_drew _ _ _ _ (by omega)] | rw [cell_drew]); with_reducible assumption) | ((rw [cell_setRow_far _ _ _ _ _ (by omega)]); with_reducible assumption) | ((rw [setRow_size]); with_reducible assumption) | (simp; done) | (simp [World.setCell]; first | done | omega) | (simp [go_sem, World.cell?_alloc_past, World.cell?_setCell_far, *]; done))) (fail)))
    all_goals (try go_wp2_with fail)
    all_goals exact bodyPost_ret (v := .agg #[.int .i64 (17592186044416), .int .i64 (0), .int .i64 (1)]) (by simp [results, Tryz.results40, go_sem, *]) rfl ⟨rfl, Ext.auK⟩
  · have pl := tenN_le (k := t.toNat) 5 100000 rfl (by omega)
    have x1 : d * (tenN t.toNat) ≤ 9999999 * 100000 := Int.mul_le_mul d1 pl (by omega) (by omega)
    have kx : IntKind.i64.wrap (d * (tenN t.toNat)) = d * (tenN t.toNat) := IntWalk.i64_in _ (by omega)
    clear p2 x0 x1 pk pl
    generalize (tenN t.toNat) = D at *
    go_enter Tryz.func40, Tryz.ntmps40
    go_wp2_with (first | (go_at_call 80; refine (rdUnit_any e f hg _).mono ?_; rintro rv w1 ⟨rfl, hb⟩; have ns : w.heap.size + 1 < w1.heap.size := hb.ltK; have n0 : w1.cell? ⟨w.heap.size, 0, none⟩ = some (.int .i64 e) := hb.cellK; have n1 : w1.cell? ⟨w.heap.size, 1, none⟩ = some (.int .i64 f) := hb.cellK; have n2 : w1.cell? ⟨w.heap.size + 1, 0, none⟩ = some (.int .i64 0) := hb.cellK; have n3 : w1.cell? ⟨w.heap.size + 1, 1, none⟩ = some (.int .i64 0) := hb.cellK; have n4 : w1.cell? ⟨w.heap.size + 1, 2, none⟩ = some (.int .i64 0) := hb.cellK; have nz0 : w1.frozen? ⟨w.heap.size + 1, 0, none⟩ = false := hb.frzK; have nz1 : w1.frozen? ⟨w.heap.size + 1, 1, none⟩ = false := hb.frzK; have nz2 : w1.frozen? ⟨w.heap.size + 1, 2, none⟩ = false := hb.frzK; (first | (have nx := hx.trK hb; clear hx) | have nx := hb); clear hb; try clear hs; try clear g0; try clear g1; try clear g2; try clear g3; try clear g4; try clear z0; try clear z1; try clear z2; have hx := nx; clear nx; have hs := ns; clear ns; have g0 := n0; clear n0; have g1 := n1; clear n1; have g2 := n2; clear n2; have g3 := n3; clear n3; have g4 := n4; clear n4; have z0 := nz0; clear nz0; have z1 := nz1; clear nz1; have z2 := nz2; clear nz2) | (go_at_call 79; refine (RP.out _).mono ?_; rintro rv w1 ⟨rfl, rfl⟩))
    try (go_region_held3 (fun w' => w'.cell? ⟨w.heap.size, 0, none⟩ = some (.int .i64 e) ∧ w'.cell? ⟨w.heap.size, 1, none⟩ = some (.int .i64 f) ∧ w.heap.size < w'.heap.size) ((refine ⟨?_, ?_, ?_⟩ <;> first | with_reducible assumption | ((rw [cell_setRow_far _ _ _ _ _ (by omega)]); with_reducible assumption) | ((rw [setRow_size]); with_reducible assumption) | ((repeat rw [World.cell?_setCell_far _ _ _ _ (by simp)]); with_reducible assumption) | (simp; done) | (simp [World.setCell]; first | done | omega) | (simp [go_sem, World.cell?_alloc_past, World.cell?_setCell_far, *]; done))) ((first | (go_at_call 80; refine (rdUnit_any e f hg _).mono ?_; rintro rv w1 ⟨rfl, hb⟩; have ns : w.heap.size + 1 < w1.heap.size := hb.ltK; have n0 : w1.cell? ⟨w.heap.size, 0, none⟩ = some (.int .i64 e) := hb.cellK; have n1 : w1.cell? ⟨w.heap.size, 1, none⟩ = some (.int .i64 f) := hb.cellK; have n2 : w1.cell? ⟨w.heap.size + 1, 0, none⟩ = some (.int .i64 0) := hb.cellK; have n3 : w1.cell? ⟨w.heap.size + 1, 1, none⟩ = some (.int .i64 0) := hb.cellK; have n4 : w1.cell? ⟨w.heap.size + 1, 2, none⟩ = some (.int .i64 0) := hb.cellK; have nz0 : w1.frozen? ⟨w.heap.size + 1, 0, none⟩ = false := hb.frzK; have nz1 : w1.frozen? ⟨w.heap.size + 1, 1, none⟩ = false := hb.frzK; have nz2 : w1.frozen? ⟨w.heap.size + 1, 2, none⟩ = false := hb.frzK; (first | (have nx := hx.trK hb; clear hx) | have nx := hb); clear hb; try clear hs; try clear g0; try clear g1; try clear g2; try clear g3; try clear g4; try clear z0; try clear z1; try clear z2; have hx := nx; clear nx; have hs := ns; clear ns; have g0 := n0; clear n0; have g1 := n1; clear n1; have g2 := n2; clear n2; have g3 := n3; clear n3; have g4 := n4; clear n4; have z0 := nz0; clear nz0; have z1 := nz1; clear nz1; have z2 := nz2; clear nz2) | (go_at_call 79; refine (RP.out _).mono ?_; rintro rv w1 ⟨rfl, rfl⟩))))
    try go_wp2_with (first | (go_at_call 80; refine (rdUnit_any e f hg _).mono ?_; rintro rv w1 ⟨rfl, hb⟩; have ns : w.heap.size + 1 < w1.heap.size := hb.ltK; have n0 : w1.cell? ⟨w.heap.size, 0, none⟩ = some (.int .i64 e) := hb.cellK; have n1 : w1.cell? ⟨w.heap.size, 1, none⟩ = some (.int .i64 f) := hb.cellK; have n2 : w1.cell? ⟨w.heap.size + 1, 0, none⟩ = some (.int .i64 0) := hb.cellK; have n3 : w1.cell? ⟨w.heap.size + 1, 1, none⟩ = some (.int .i64 0) := hb.cellK; have n4 : w1.cell? ⟨w.heap.size + 1, 2, none⟩ = some (.int .i64 0) := hb.cellK; have nz0 : w1.frozen? ⟨w.heap.size + 1, 0, none⟩ = false := hb.frzK; have nz1 : w1.frozen? ⟨w.heap.size + 1, 1, none⟩ = false := hb.frzK; have nz2 : w1.frozen? ⟨w.heap.size + 1, 2, none⟩ = false := hb.frzK; (first | (have nx := hx.trK hb; clear hx) | have nx := hb); clear hb; try clear hs; try clear g0; try clear g1; try clear g2; try clear g3; try clear g4; try clear z0; try clear z1; try clear z2; have hx := nx; clear nx; have hs := ns; clear ns; have g0 := n0; clear n0; have g1 := n1; clear n1; have g2 := n2; clear n2; have g3 := n3; clear n3; have g4 := n4; clear n4; have z0 := nz0; clear nz0; have z1 := nz1; clear nz1; have z2 := nz2; clear nz2) | (go_at_call 79; refine (RP.out _).mono ?_; rintro rv w1 ⟨rfl, rfl⟩) | (go_at_call 81; refine (TX.out _).mono ?_; rintro rv w1 ⟨rfl, hb⟩; have ns : w.heap.size + 1 < w1.heap.size := hb.ltK; have n0 : w1.cell? ⟨w.heap.size, 0, none⟩ = some (.int .i64 e) := hb.cellK; have n1 : w1.cell? ⟨w.heap.size, 1, none⟩ = some (.int .i64 f) := hb.cellK; have n2 : w1.cell? ⟨w.heap.size + 1, 0, none⟩ = some (.int .i64 0) := hb.cellK; have n3 : w1.cell? ⟨w.heap.size + 1, 1, none⟩ = some (.int .i64 0) := hb.cellK; have n4 : w1.cell? ⟨w.heap.size + 1, 2, none⟩ = some (.int .i64 0) := hb.cellK; have nz0 : w1.frozen? ⟨w.heap.size + 1, 0, none⟩ = false := hb.frzK; have nz1 : w1.frozen? ⟨w.heap.size + 1, 1, none⟩ = false := hb.frzK; have nz2 : w1.frozen? ⟨w.heap.size + 1, 2, none⟩ = false := hb.frzK; (first | (have nx := hx.trK hb; clear hx) | have nx := hb); clear hb; try clear hs; try clear g0; try clear g1; try clear g2; try clear g3; try clear g4; try clear z0; try clear z1; try clear z2; have hx := nx; clear nx; have hs := ns; clear ns; have g0 := n0; clear n0; have g1 := n1; clear n1; have g2 := n2; clear n2; have g3 := n3; clear n3; have g4 := n4; clear n4; have z0 := nz0; clear nz0; have z1 := nz1; clear nz1; have z2 := nz2; clear nz2))
    try (go_region_held3 (fun w' => w'.cell? ⟨w.heap.size, 0, none⟩ = some (.int .i64 e) ∧ w'.cell? ⟨w.heap.size, 1, none⟩ = some (.int .i64 f) ∧ w.heap.size < w'.heap.size) ((refine ⟨?_, ?_, ?_⟩ <;> first | with_reducible assumption | ((rw [cell_setRow_far _ _ _ _ _ (by omega)]); with_reducible assumption) | ((rw [setRow_size]); with_reducible assumption) | ((repeat rw [World.cell?_setCell_far _ _ _ _ (by simp)]); with_reducible assumption) | (simp; done) | (simp [World.setCell]; first | done | omega) | (simp [go_sem, World.cell?_alloc_past, World.cell?_setCell_far, *]; done))) ((first | (go_at_call 81; refine (TX.out _).mono ?_; rintro rv w1 ⟨rfl, hb⟩; have ns : w.heap.size + 1 < w1.heap.size := hb.ltK; have n0 : w1.cell? ⟨w.heap.size, 0, none⟩ = some (.int .i64 e) := hb.cellK; have n1 : w1.cell? ⟨w.heap.size, 1, none⟩ = some (.int .i64 f) := hb.cellK; have n2 : w1.cell? ⟨w.heap.size + 1, 0, none⟩ = some (.int .i64 0) := hb.cellK; have n3 : w1.cell? ⟨w.heap.size + 1, 1, none⟩ = some (.int .i64 0) := hb.cellK; have n4 : w1.cell? ⟨w.heap.size + 1, 2, none⟩ = some (.int .i64 0) := hb.cellK; have nz0 : w1.frozen? ⟨w.heap.size + 1, 0, none⟩ = false := hb.frzK; have nz1 : w1.frozen? ⟨w.heap.size + 1, 1, none⟩ = false := hb.frzK; have nz2 : w1.frozen? ⟨w.heap.size + 1, 2, none⟩ = false := hb.frzK; (first | (have nx := hx.trK hb; clear hx) | have nx := hb); clear hb; try clear hs; try clear g0; try clear g1; try clear g2; try clear g3; try clear g4; try clear z0; try clear z1; try clear z2; have hx := nx; clear nx; have hs := ns; clear ns; have g0 := n0; clear n0; have g1 := n1; clear n1; have g2 := n2; clear n2; have g3 := n3; clear n3; have g4 := n4; clear n4; have z0 := nz0; clear nz0; have z1 := nz1; clear nz1; have z2 := nz2; clear nz2))))
    try go_wp2_with fail
    all_goals (try (go_region_held3 (fun w' => w'.cell? ⟨w.heap.size, 0, none⟩ = some (.int .i64 e) ∧ w'.cell? ⟨w.heap.size, 1, none⟩ = some (.int .i64 f) ∧ w.heap.size < w'.heap.size) ((refine ⟨?_, ?_, ?_⟩ <;> first | with_reducible assumption | ((repeat first | rw [cell_set_far _ _ _ _ _ _ (by omega)] | rw [cell_alloc_before _ _ _ _ (by omega)] | rw [cell_alloc_drew _ _ _ _ (by omega)] | rw [cell_drew]); with_reducible assumption) | ((rw [cell_setRow_far _ _ _ _ _ (by omega)]); with_reducible assumption) | ((rw [setRow_size]); with_reducible assumption) | (simp; done) | (simp [World.setCell]; first | done | omega) | (simp [go_sem, World.cell?_alloc_past, World.cell?_setCell_far, *]; done))) ((first | (go_at_call 81; refine (TX.out _).mono ?_; rintro rv w1 ⟨rfl, hb⟩; have ns : w.heap.size + 1 < w1.heap.size := hb.ltK; have n0 : w1.cell? ⟨w.heap.size, 0, none⟩ = some (.int .i64 e) := hb.cellK; have n1 : w1.cell? ⟨w.heap.size, 1, none⟩ = some (.int .i64 f) := hb.cellK; have n2 : w1.cell? ⟨w.heap.size + 1, 0, none⟩ = some (.int .i64 0) := hb.cellK; have n3 : w1.cell? ⟨w.heap.size + 1, 1, none⟩ = some (.int .i64 0) := hb.cellK; have n4 : w1.cell? ⟨w.heap.size + 1, 2, none⟩ = some (.int .i64 0) := hb.cellK; have nz0 : w1.frozen? ⟨w.heap.size + 1, 0, none⟩ = false := hb.frzK; have nz1 : w1.frozen? ⟨w.heap.size + 1, 1, none⟩ = false := hb.frzK; have nz2 : w1.frozen? ⟨w.heap.size + 1, 2, none⟩ = false := hb.frzK; (first | (have nx := hx.trK hb; clear hx) | have nx := hb); clear hb; try clear hs; try clear g0; try clear g1; try clear g2; try clear g3; try clear g4; try clear z0; try clear z1; try clear z2; have hx := nx; clear nx; have hs := ns; clear ns; have g0 := n0; clear n0; have g1 := n1; clear n1; have g2 := n2; clear n2; have g3 := n3; clear n3; have g4 := n4; clear n4; have z0 := nz0; clear nz0; have z1 := nz1; clear nz1; have z2 := nz2; clear nz2)))))
    all_goals (try go_wp2_with fail)
    all_goals exact bodyPost_ret (v := .agg #[.int .i64 (17592186044416), .int .i64 (0), .int .i64 (1)]) (by simp [results, Tryz.results40, go_sem, *]) rfl ⟨rfl, Ext.auK⟩

/-- What the model's numbers are: units, what is left, and of what. -/
def TNout (e f d t u r h : Int) : Prop := (0 ≤ u ∧ u ≤ 1125899906842624) ∧ (0 ≤ r ∧ r < h) ∧ h ≤ 1000000000000000 ∧ (∀ m s, d ≤ 999999 → IsRnd f (grV e f) (u * h + r) h m false s → RndD e f (dqV e f d t) (-2) m false s) ∧ ∀ v, v ≤ 65536 * pw (-unV e f) → (if v = u then -sgV r else sgV (v - u)) = tcV e f v d t

theorem dq_frac {e f N D m s : Int} (hg : goodB e f = true) (n0 : 0 ≤ N) (d0 : 0 < D) (h : IsRnd f (grV e f) (N * pw (-unV e f)) D m false s) : RndD e f (qrV e f N D) (-2) m false s := by
  have u := un_bd hg
  have p := pw_pos (-unV e f)
  have x0 : 0 ≤ N * pw (-unV e f) := Int.mul_nonneg n0 (by omega)
  have e1 : N * pw (2 - unV e f) = 4 * (N * pw (-unV e f)) := by
    rw [show 2 - unV e f = 2 + -unV e f by omega, pw_add 2 (-unV e f) (by decide) (by omega), show pw 2 = 4 from rfl, ← Int.mul_assoc, ← Int.mul_assoc, Int.mul_comm 4]
  unfold qrV
  rw [e1, oq_four d0 x0]
  exact rnd_frac d0 x0 h

theorem txNumber_any (e f d t : Int) (hg : goodB e f = true) (hd : TcP d t) (w : World) : Calls Tryz.prog 40 #[fmt e f, .int .i64 d, .int .i64 t] w fun rv w' => ∃ u r h : Int, rv = .returned (.agg #[.int .i64 (u), .int .i64 (r), .int .i64 (h)]) ∧ TNout e f d t u r h ∧ Ext w w' := by
  obtain ⟨⟨d0, d1⟩, t0, t1⟩ := id hd
  have u := un_bd hg
  have p1 := pw_pos (-unV e f)
  have p2 := pw_le (a := -unV e f) 24 16777216 rfl (by omega)
  by_cases h : t < 0
  · refine (txNumber_neg e f d t hg hd h w).mono ?_
    rintro rv w' ⟨rfl, hb⟩
    have x0 : 0 ≤ (d * pw (-unV e f)) := Int.mul_nonneg d0 (by omega)
    have x1 : (d * pw (-unV e f)) ≤ 9999999 * 16777216 := Int.mul_le_mul d1 p2 (by omega) (by omega)
    have pk := tenN_pos (-t).toNat
    have pl := tenN_le (k := (-t).toNat) 15 1000000000000000 rfl (by omega)
    have y0 : 0 ≤ (d * pw (-unV e f)) / (tenN (-t).toNat) := Int.ediv_nonneg x0 (by omega)
    have y1 : (d * pw (-unV e f)) / (tenN (-t).toNat) ≤ (d * pw (-unV e f)) := Int.ediv_le_self _ x0
    have ed := Int.mul_ediv_add_emod (d * pw (-unV e f)) (tenN (-t).toNat)
    rw [Int.mul_comm] at ed
    refine ⟨_, _, _, rfl, ⟨⟨y0, by omega⟩, ⟨Int.emod_nonneg _ (by omega), Int.emod_lt_of_pos _ (by omega)⟩, pl, fun m s d2 hs => ?_, fun v v1 => ?_⟩, hb⟩
    rotate_left
    · rw [tri_cmp ed (Int.emod_nonneg _ (by omega)) (Int.emod_lt_of_pos _ (by omega))]
      unfold tcV
      rw [show t.toNat = 0 by omega, show tenN 0 = 1 from rfl, Int.mul_one]
    rw [ed] at hs
    have e1 : dqV e f d t = qrV e f d (tenN (-t).toNat) := by unfold dqV; rw [show t.toNat = 0 by omega]; rfl
    rw [e1]
    exact dq_frac hg d0 (by omega) hs
  · have e0 : dqV e f d t = qrV e f (numN d t.toNat) 1 := by unfold dqV; rw [show (-t).toNat = 0 by omega]; rfl
    have pk := tenN_pos t.toNat
    by_cases hz : d = 0
    · subst hz
      refine (txNumber_zero e f t hg hd h w).mono ?_
      rintro rv w' ⟨rfl, hb⟩
      refine ⟨_, _, _, rfl, ⟨by decide, by decide, by decide, fun m s d2 hs => ?_, fun v v1 => ?_⟩, hb⟩
      rotate_left
      · rw [tri_cmp (u := 0) (r := 0) (h := 1) (X := 0) (by decide) (by decide) (by decide)]
        unfold tcV
        rw [show (-t).toNat = 0 by omega, show tenN 0 = 1 from rfl, Int.zero_mul, Int.zero_mul]
      rw [e0, numN_val d0 (by omega) t.toNat, Int.zero_mul, show min (0 : Int) 1000000 = 0 from rfl]
      refine dq_frac hg (by decide) (by decide) ?_
      rw [Int.zero_mul]
      exact hs
    · by_cases hl : t < 6 ∧ d * (tenN t.toNat) < 262144
      · refine (txNumber_fit e f d t hg hd h hz hl.1 hl.2 w).mono ?_
        rintro rv w' ⟨rfl, hb⟩
        have x0 : 0 ≤ d * (tenN t.toNat) := Int.mul_nonneg d0 (by omega)
        have x1 : d * (tenN t.toNat) * pw (-unV e f) ≤ 262144 * 16777216 := Int.mul_le_mul (by omega) p2 (by omega) (by omega)
        refine ⟨_, _, _, rfl, ⟨⟨Int.mul_nonneg x0 (by omega), by omega⟩, by decide, by decide, fun m s d2 hs => ?_, fun v v1 => ?_⟩, hb⟩
        rotate_left
        · rw [tri_cmp (u := d * (tenN t.toNat) * pw (-unV e f)) (r := 0) (h := 1) rfl (by decide) (by decide)]
          unfold tcV
          rw [show (-t).toNat = 0 by omega, show tenN 0 = 1 from rfl, Int.mul_one, Int.mul_one, Int.add_zero]
        rw [Int.mul_one, Int.add_zero] at hs
        rw [e0, numN_val d0 (by omega) t.toNat, show min (d * (tenN t.toNat)) 1000000 = d * (tenN t.toNat) by omega]
        exact dq_frac hg x0 (by decide) hs
      · refine (txNumber_far e f d t hg hd h hz (by omega) w).mono ?_
        rintro rv w' ⟨rfl, hb⟩
        have big : 262144 ≤ d * (tenN t.toNat) := by
          by_cases h6 : t < 6
          · have : ¬ d * (tenN t.toNat) < 262144 := fun g => hl ⟨h6, g⟩
            omega
          · have t6 := tenN_ge (k := t.toNat) 6 1000000 rfl (by omega)
            have : 1 * 1000000 ≤ d * (tenN t.toNat) := Int.mul_le_mul (by omega) t6 (by decide) d0
            omega
        refine ⟨_, _, _, rfl, ⟨by decide, by decide, by decide, fun m s d2 hs => ?_, fun v v1 => ?_⟩, hb⟩
        rotate_left
        · rw [tri_cmp (u := 17592186044416) (r := 0) (h := 1) (X := 17592186044416) (by decide) (by decide) (by decide)]
          unfold tcV
          rw [show (-t).toNat = 0 by omega, show tenN 0 = 1 from rfl, Int.mul_one]
          have := Int.mul_le_mul_of_nonneg_right big (show 0 ≤ pw (-unV e f) by omega)
          rw [sg_neg (by omega), sg_neg (by omega)]
        rw [e0, numN_val d0 (by omega) t.toNat]
        have big : 262144 ≤ min (d * (tenN t.toNat)) 1000000 := by omega
        refine dq_frac hg (by omega) (by decide) (rnd_far hg (by decide) (by decide) ?_ ?_ hs)
        · rw [Int.mul_one, Int.mul_one, Int.add_zero]
          have := Int.mul_le_mul_of_nonneg_left p2 (show (0 : Int) ≤ 131072 by decide)
          omega
        · rw [Int.mul_one]
          have := Int.mul_le_mul_of_nonneg_right (show 131072 ≤ min (d * (tenN t.toNat)) 1000000 by omega) (show 0 ≤ pw (-unV e f) by omega)
          exact this

theorem txRead_any (e f d t m : Int) (hg : goodB e f = true) (hd : dcB d t = true) (m0 : 0 ≤ m) (m1 : m ≤ 5) (w : World) : Calls Tryz.prog 21 #[fmt e f, .int .i64 d, .int .i64 t, .int .i64 m] w fun rv w' => ∃ s : Int, rv = .returned (.int .i64 s) ∧ RndD e f (dqV e f d t) (-2) m false s ∧ Ext w w' := by
  have TN := Lib.hid (fun w => txNumber_any e f d t hg (dc_tc hd) w)
  go_enter Tryz.func21, Tryz.ntmps21
  go_wp2_with (go_at_call 40; refine (TN.out _).mono ?_; rintro rv w1 ⟨u, r, h, rfl, htn, hb⟩; have HTN := Lib.hid htn; clear htn; have ns : w.heap.size < w1.heap.size := hb.ltK; have n0 : w1.cell? ⟨w.heap.size, 0, none⟩ = some (.int .i64 e) := hb.cellK; have n1 : w1.cell? ⟨w.heap.size, 1, none⟩ = some (.int .i64 f) := hb.cellK; (first | (have nx := hx.trK hb; clear hx) | have nx := hb); clear hb; try clear hs; try clear g0; try clear g1; have hx := nx; clear nx; have hs := ns; clear ns; have g0 := n0; clear n0; have g1 := n1; clear n1)
  try (go_region_held3 (fun w' => w'.cell? ⟨w.heap.size, 0, none⟩ = some (.int .i64 e) ∧ w'.cell? ⟨w.heap.size, 1, none⟩ = some (.int .i64 f) ∧ w.heap.size < w'.heap.size) ((refine ⟨?_, ?_, ?_⟩ <;> first | with_reducible assumption | ((rw [cell_setRow_far _ _ _ _ _ (by omega)]); with_reducible assumption) | ((rw [setRow_size]); with_reducible assumption) | ((repeat rw [World.cell?_setCell_far _ _ _ _ (by simp)]); with_reducible assumption) | (simp; done) | (simp [World.setCell]; first | done | omega) | (simp [go_sem, World.cell?_alloc_past, World.cell?_setCell_far, *]; done))) ((first | (go_at_call 40; refine (TN.out _).mono ?_; rintro rv w1 ⟨u, r, h, rfl, htn, hb⟩; have HTN := Lib.hid htn; clear htn; have ns : w.heap.size < w1.heap.size := hb.ltK; have n0 : w1.cell? ⟨w.heap.size, 0, none⟩ = some (.int .i64 e) := hb.cellK; have n1 : w1.cell? ⟨w.heap.size, 1, none⟩ = some (.int .i64 f) := hb.cellK; (first | (have nx := hx.trK hb; clear hx) | have nx := hb); clear hb; try clear hs; try clear g0; try clear g1; have hx := nx; clear nx; have hs := ns; clear ns; have g0 := n0; clear n0; have g1 := n1; clear n1) | (go_at_call 39; refine (rdSize_any e f _ _ _ m false hg HTN.out.1.1 (by have := HTN.out.1.2; omega) HTN.out.2.1.1 HTN.out.2.1.2 (by have := HTN.out.2.2.1; omega) m0 m1 _).mono ?_; rintro rv w1 ⟨s, rfl, hq, hb⟩; have HQ := Lib.hid hq; clear hq; have ns : w.heap.size < w1.heap.size := hb.ltK; have n0 : w1.cell? ⟨w.heap.size, 0, none⟩ = some (.int .i64 e) := hb.cellK; have n1 : w1.cell? ⟨w.heap.size, 1, none⟩ = some (.int .i64 f) := hb.cellK; (first | (have nx := hx.trK hb; clear hx) | have nx := hb); clear hb; try clear hs; try clear g0; try clear g1; have hx := nx; clear nx; have hs := ns; clear ns; have g0 := n0; clear n0; have g1 := n1; clear n1))))
  all_goals (try go_wp2_with (go_at_call 39; refine (rdSize_any e f _ _ _ m false hg HTN.out.1.1 (by have := HTN.out.1.2; omega) HTN.out.2.1.1 HTN.out.2.1.2 (by have := HTN.out.2.2.1; omega) m0 m1 _).mono ?_; rintro rv w1 ⟨s, rfl, hq, hb⟩; have HQ := Lib.hid hq; clear hq; have ns : w.heap.size < w1.heap.size := hb.ltK; have n0 : w1.cell? ⟨w.heap.size, 0, none⟩ = some (.int .i64 e) := hb.cellK; have n1 : w1.cell? ⟨w.heap.size, 1, none⟩ = some (.int .i64 f) := hb.cellK; (first | (have nx := hx.trK hb; clear hx) | have nx := hb); clear hb; try clear hs; try clear g0; try clear g1; have hx := nx; clear nx; have hs := ns; clear ns; have g0 := n0; clear n0; have g1 := n1; clear n1))
  all_goals go_ret
  all_goals exact ⟨s, rfl, HTN.out.2.2.2.1 m s (dc_iff.1 hd).1.2 HQ.out, Ext.auK⟩

theorem txRead_v (e f d t m : Int) (hg : goodB e f = true) (hd : dcB d t = true) (m0 : 0 ≤ m) (m1 : m ≤ 5) (w : World) : Calls Tryz.prog 21 #[fmt e f, .int .i64 d, .int .i64 t, .int .i64 m] w fun rv w' => rv = .returned (.int .i64 (rcV e f d t m)) ∧ Ext w w' := by
  refine (txRead_any e f d t m hg hd m0 m1 w).mono ?_
  rintro rv w' ⟨s, rfl, hq, hb⟩
  rw [rc_one hg hq]
  exact ⟨rfl, hb⟩
end Go.Proofs.YtmddlbphanlfhaaGreatDoor

