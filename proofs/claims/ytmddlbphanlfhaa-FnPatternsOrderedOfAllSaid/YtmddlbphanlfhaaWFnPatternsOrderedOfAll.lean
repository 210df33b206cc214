/-
  The law FnPatternsOrderedOfAll holds at every argument; there are no conditions.
-/
import Derived.Test.YtmddlbphanlfhaaRows
import Derived.Test.YtmddlbphanlfhaaKpo1
import Derived.Test.YtmddlbphanlfhaaKpo2
import Derived.Test.YtmddlbphanlfhaaKpo3
import Derived.Test.YtmddlbphanlfhaaKpo4
import Derived.Test.YtmddlbphanlfhaaKpo5
import Derived.Test.YtmddlbphanlfhaaKpo6
import Derived.Test.YtmddlbphanlfhaaKpo7
import Derived.Test.YtmddlbphanlfhaaKpo8
import Derived.Test.YtmddlbphanlfhaaKpo9
import Derived.Test.YtmddlbphanlfhaaKpo10
import Derived.Test.YtmddlbphanlfhaaKpo11
import Derived.Test.YtmddlbphanlfhaaSeatA
import Derived.Test.YtmddlbphanlfhaaSeatB
import Derived.Test.YtmddlbphanlfhaaSeatC
import Derived.WalkKit
import Derived.ProofKit
import Derived.OpenShut
import Derived.Lib.Hide
import Derived.Deep.RegionHeld3
import Derived.Deep.DeepCutAuto
import Derived.Deep.CutBlock
import Derived.Lib.SmallJoins
namespace Go.Proofs.Ytmddlbphanlfhaa.lPatternsOrderedOfAll
open Go.ChangeShapes Go.WideShapes Go.ChangeAt Go.RowKit Go.Joins
set_option linter.unusedVariables false
set_option linter.unusedSimpArgs false

theorem wf_bd {u : Int} (h : (Lit.int .i64 u).wf = true) : -9223372036854775808 ≤ u ∧ u ≤ 9223372036854775807 := by
  simp [Lit.wf, IntKind.min, IntKind.max, IntKind.signed, IntKind.bits] at h
  exact ⟨by omega, by omega⟩

set_option maxRecDepth 100000 in
set_option maxHeartbeats 16000000 in
theorem walk (e f p e2 f2 a b e3 f3 u e4 f4 n : Int) (xn : (Lit.int .i64 n).wf = true) (w : World) : Calls Try.prog 3 #[fmt e f, .int .i64 p, fmt e2 f2, .int .i64 a, .int .i64 b, fmt e3 f3, .int .i64 u, fmt e4 f4, .int .i64 n] w fun rv w' => rv = .returned (.bool true) ∧ Ext w w' := by
  obtain ⟨hw0, hw1⟩ := wf_bd xn
  obtain ⟨x, U, hU, hxU, UI, US⟩ := up_both e f p
  obtain ⟨y, D, hD, hyD, DI, DS⟩ := down_both e f p
  obtain ⟨k, N, hN, hkN, KI, KS⟩ := key_both e f p
  obtain ⟨c, T, hT, hcT, CI, CS⟩ := cmp_both e2 f2 a b
  obtain ⟨r, B, hB, BI, BS⟩ := nb_both e3 f3 u
  obtain ⟨m, G, hG, hmG, GI, GT⟩ := gr_both e3 f3
  obtain ⟨l, G2, hG2, hlG, LI, LS⟩ := ln_both e3 f3
  obtain ⟨z, Z, ZI, ZS⟩ := pu_both e4 f4 n hw0 hw1
  obtain rfl : G2 = G := hG2.trans hG.symm
  have HU : RowKit.Hid (U = upB e f p ∧ (U = true → x = upV e f p)) := Lib.hid ⟨hU, hxU⟩
  have HD : RowKit.Hid (D = downB e f p ∧ (D = true → y = downV e f p)) := Lib.hid ⟨hD, hyD⟩
  have HN : RowKit.Hid (N = numB e f p ∧ (N = true → k = keyV e f p)) := Lib.hid ⟨hN, hkN⟩
  have HT : RowKit.Hid (T = cmpB e2 f2 a b ∧ (T = true → c = cmpV (vkV e2 f2 a) (vkV e2 f2 b))) := Lib.hid ⟨hT, hcT⟩
  have HB : RowKit.Hid (B = true → goodB e3 f3 = true ∧ IsBelow f3 ((pw e3 - 1) * pw f3 - 1) u r) := Lib.hid hB
  have HG : RowKit.Hid (G2 = goodB e3 f3 ∧ (G2 = true → m = (pw e3 - 1) * pw f3 - 1) ∧ (G2 = true → l = pw f3)) := Lib.hid ⟨hG, hmG, hlG⟩
  have UN : RowKit.Hid ((U = true → N = true) ∧ (D = true → N = true)) := Lib.hid ⟨fun h => by rw [hN]; exact (up_told (hU ▸ h)).1, fun h => by rw [hN]; exact (down_told (hD ▸ h)).1⟩
  clear hU hxU hD hyD hN hkN hT hcT hB hG hmG hG2 hlG hw0 hw1 xn
  go_enter Try.func3, Try.ntmps3
  go_upto_region 1 with fail
  generalize hW0 : World.alloc _ _ = W0
  have c0 : W0.cell? ⟨w.heap.size, 0, none⟩ = some (.int .i64 e) := by rw [← hW0]; simp [go_sem]
  have c1 : W0.cell? ⟨w.heap.size, 1, none⟩ = some (.int .i64 f) := by rw [← hW0]; simp [go_sem]
  have c2 : W0.cell? ⟨w.heap.size + 1, 0, none⟩ = some (.int .i64 e2) := by rw [← hW0]; simp [go_sem]
  have c3 : W0.cell? ⟨w.heap.size + 1, 1, none⟩ = some (.int .i64 f2) := by rw [← hW0]; simp [go_sem]
  have c4 : W0.cell? ⟨w.heap.size + 2, 0, none⟩ = some (.int .i64 e3) := by rw [← hW0]; simp [go_sem]
  have c5 : W0.cell? ⟨w.heap.size + 2, 1, none⟩ = some (.int .i64 f3) := by rw [← hW0]; simp [go_sem]
  have c6 : W0.cell? ⟨w.heap.size + 3, 0, none⟩ = some (.int .i64 e4) := by rw [← hW0]; simp [go_sem]
  have c7 : W0.cell? ⟨w.heap.size + 3, 1, none⟩ = some (.int .i64 f4) := by rw [← hW0]; simp [go_sem]
  have l0 : w.heap.size < W0.heap.size := by rw [← hW0]; simp <;> omega
  have l1 : w.heap.size + 1 < W0.heap.size := by rw [← hW0]; simp <;> omega
  have l2 : w.heap.size + 2 < W0.heap.size := by rw [← hW0]; simp <;> omega
  have l3 : w.heap.size + 3 < W0.heap.size := by rw [← hW0]; simp <;> omega
  have hw0 : Ext w W0 := by rw [← hW0]; exact Ext.auK
  clear hW0
  have hx : Ext W0 W0 := Ext.refl _
  have g0 := c0
  have g1 := c1
  have hs := l0
  go_upto_region 7 with (first | (go_at_call 7; (with_reducible refine (UI.out _).mono ?_); rintro rv w1 ⟨rfl, hb⟩; have ns : w.heap.size < w1.heap.size := hb.ltK; have n0 : w1.cell? ⟨w.heap.size, 0, none⟩ = some (.int .i64 e) := hb.cellK; have n1 : w1.cell? ⟨w.heap.size, 1, none⟩ = some (.int .i64 f) := hb.cellK; (first | (have nx := hx.trK hb; clear hx) | have nx := hb); clear hb; try clear hs; try clear g0; try clear g1; have hx := nx; clear nx; have hs := ns; clear ns; have g0 := n0; clear n0; have g1 := n1; clear n1) | (go_at_call 8; (with_reducible refine (US.out _).mono ?_); rintro rv w1 ⟨rfl, hb⟩; have ns : w.heap.size < w1.heap.size := hb.ltK; have n0 : w1.cell? ⟨w.heap.size, 0, none⟩ = some (.int .i64 e) := hb.cellK; have n1 : w1.cell? ⟨w.heap.size, 1, none⟩ = some (.int .i64 f) := hb.cellK; (first | (have nx := hx.trK hb; clear hx) | have nx := hb); clear hb; try clear hs; try clear g0; try clear g1; have hx := nx; clear nx; have hs := ns; clear ns; have g0 := n0; clear n0; have g1 := n1; clear n1) | (go_at_call 9; (with_reducible refine (DI.out _).mono ?_); rintro rv w1 ⟨rfl, hb⟩; have ns : w.heap.size < w1.heap.size := hb.ltK; have n0 : w1.cell? ⟨w.heap.size, 0, none⟩ = some (.int .i64 e) := hb.cellK; have n1 : w1.cell? ⟨w.heap.size, 1, none⟩ = some (.int .i64 f) := hb.cellK; (first | (have nx := hx.trK hb; clear hx) | have nx := hb); clear hb; try clear hs; try clear g0; try clear g1; have hx := nx; clear nx; have hs := ns; clear ns; have g0 := n0; clear n0; have g1 := n1; clear n1) | (go_at_call 10; (with_reducible refine (DS.out _).mono ?_); rintro rv w1 ⟨rfl, hb⟩; have ns : w.heap.size < w1.heap.size := hb.ltK; have n0 : w1.cell? ⟨w.heap.size, 0, none⟩ = some (.int .i64 e) := hb.cellK; have n1 : w1.cell? ⟨w.heap.size, 1, none⟩ = some (.int .i64 f) := hb.cellK; (first | (have nx := hx.trK hb; clear hx) | have nx := hb); clear hb; try clear hs; try clear g0; try clear g1; have hx := nx; clear nx; have hs := ns; clear ns; have g0 := n0; clear n0; have g1 := n1; clear n1) | (go_at_call 11; (with_reducible refine (KI.out _).mono ?_); rintro rv w1 ⟨rfl, hb⟩; have ns : w.heap.size < w1.heap.size := hb.ltK; have n0 : w1.cell? ⟨w.heap.size, 0, none⟩ = some (.int .i64 e) := hb.cellK; have n1 : w1.cell? ⟨w.heap.size, 1, none⟩ = some (.int .i64 f) := hb.cellK; (first | (have nx := hx.trK hb; clear hx) | have nx := hb); clear hb; try clear hs; try clear g0; try clear g1; have hx := nx; clear nx; have hs := ns; clear ns; have g0 := n0; clear n0; have g1 := n1; clear n1) | (go_at_call 12; (with_reducible refine (KS.out _).mono ?_); rintro rv w1 ⟨rfl, hb⟩; have ns : w.heap.size < w1.heap.size := hb.ltK; have n0 : w1.cell? ⟨w.heap.size, 0, none⟩ = some (.int .i64 e) := hb.cellK; have n1 : w1.cell? ⟨w.heap.size, 1, none⟩ = some (.int .i64 f) := hb.cellK; (first | (have nx := hx.trK hb; clear hx) | have nx := hb); clear hb; try clear hs; try clear g0; try clear g1; have hx := nx; clear nx; have hs := ns; clear ns; have g0 := n0; clear n0; have g1 := n1; clear n1))
  go_cut [152] from 111 to 152 (fun s wx => s = .bool false ∧ Ext W0 wx)
  case first => as_aux_lemma =>
    obtain ⟨q1, q2⟩ := UN.out
    have q1' := Lib.hid q1; have q2' := Lib.hid q2
    clear q1 q2
    cases U <;> cases D <;> cases N
    all_goals first
      | (exfalso; have := q1'.out rfl; simp at this; done)
      | (exfalso; have := q2'.out rfl; simp at this; done)
      | (clear q1' q2'
         go_wp2_with fail
         go_meet
         exact ⟨rfl, by with_reducible assumption⟩)
  case rest =>
  obtain ⟨rfl, hx⟩ := hcut
  have g0 : wc.cell? ⟨w.heap.size, 0, none⟩ = some (.int .i64 e) := (hx.cells _ _ l0).trans c0
  have g1 : wc.cell? ⟨w.heap.size, 1, none⟩ = some (.int .i64 f) := (hx.cells _ _ l0).trans c1
  have hs : w.heap.size < wc.heap.size := hx.lt l0
  go_upto_if 153 with fail
  go_cut [] from 154 to 220 (fun wx => Ext W0 wx)
  case first => as_aux_lemma =>
    cases U
    · go_wp2_with fail
      go_meet
      with_reducible assumption
    · have h0 := HU.out
      obtain ⟨h1, h2⟩ := h0
      have h3 := h2 rfl
      have h4 := (HN.out).2 ((UN.out).1 rfl)
      subst h3 h4
      obtain ⟨t1, t2, t3, t4, t5, t6, t7, t8, t9, t10, t11, t12⟩ := up_told h1.symm
      have C1 : RowKit.Hid (∀ w : World, Calls Try.prog 13 #[fmt e f, .int .i64 p, .int .i64 (upV e f p)] w fun rv w' => rv = .returned (.tuple #[.int .i64 (-1), .bool true]) ∧ Ext w w') := Lib.hid (fun w => by have q := iCompareOf_yes e f p (upV e f p) t4 w; rw [t5] at q; exact q)
      have C2 : RowKit.Hid (∀ w : World, Calls Try.prog 11 #[fmt e f, .int .i64 (upV e f p)] w fun rv w' => rv = .returned (.tuple #[.int .i64 (keyV e f (upV e f p)), .bool true]) ∧ Ext w w') := Lib.hid (fun w => iOrderKey_yes e f _ t6 w)
      have AK := Lib.hid (fun w => aKind_any e f p t2 w)
      by_cases hk : kindV e f p = 0
      · have C3 : RowKit.Hid (∀ w : World, Calls Try.prog 9 #[fmt e f, .int .i64 (upV e f p)] w fun rv w' => rv = .returned (.tuple #[.int .i64 (downV e f (upV e f p)), .bool true]) ∧ Ext w w') := Lib.hid (fun w => iNextDown_yes e f _ t9 w)
        have AK2 := Lib.hid (fun w => aKind_any e f _ t10 w)
        rw [t12 hk] at AK2
        rw [hk] at AK
        clear t1 t2 t3 t4 t5 t6 t9 t10 t11 t12 h1 h2 hk HU HD HN UN
        generalize keyV e f (upV e f p) = k2 at *
        generalize downV e f (upV e f p) = y2 at *
        generalize upV e f p = x at *
        generalize keyV e f p = k at *
        go_wp2_with (first | (go_at_call 13; (with_reducible refine (C1.out _).mono ?_); rintro rv w1 ⟨rfl, hb⟩; have ns : w.heap.size < w1.heap.size := hb.ltK; have n0 : w1.cell? ⟨w.heap.size, 0, none⟩ = some (.int .i64 e) := hb.cellK; have n1 : w1.cell? ⟨w.heap.size, 1, none⟩ = some (.int .i64 f) := hb.cellK; (first | (have nx := hx.trK hb; clear hx) | have nx := hb); clear hb; try clear hs; try clear g0; try clear g1; have hx := nx; clear nx; have hs := ns; clear ns; have g0 := n0; clear n0; have g1 := n1; clear n1) | (go_at_call 11; (with_reducible refine (C2.out _).mono ?_); rintro rv w1 ⟨rfl, hb⟩; have ns : w.heap.size < w1.heap.size := hb.ltK; have n0 : w1.cell? ⟨w.heap.size, 0, none⟩ = some (.int .i64 e) := hb.cellK; have n1 : w1.cell? ⟨w.heap.size, 1, none⟩ = some (.int .i64 f) := hb.cellK; (first | (have nx := hx.trK hb; clear hx) | have nx := hb); clear hb; try clear hs; try clear g0; try clear g1; have hx := nx; clear nx; have hs := ns; clear ns; have g0 := n0; clear n0; have g1 := n1; clear n1) | (go_at_call 9; (with_reducible refine (C3.out _).mono ?_); rintro rv w1 ⟨rfl, hb⟩; have ns : w.heap.size < w1.heap.size := hb.ltK; have n0 : w1.cell? ⟨w.heap.size, 0, none⟩ = some (.int .i64 e) := hb.cellK; have n1 : w1.cell? ⟨w.heap.size, 1, none⟩ = some (.int .i64 f) := hb.cellK; (first | (have nx := hx.trK hb; clear hx) | have nx := hb); clear hb; try clear hs; try clear g0; try clear g1; have hx := nx; clear nx; have hs := ns; clear ns; have g0 := n0; clear n0; have g1 := n1; clear n1) | (go_at_call 14; (with_reducible refine (AK.out _).mono ?_); rintro rv w1 ⟨rfl, hb⟩; have ns : w.heap.size < w1.heap.size := hb.ltK; have n0 : w1.cell? ⟨w.heap.size, 0, none⟩ = some (.int .i64 e) := hb.cellK; have n1 : w1.cell? ⟨w.heap.size, 1, none⟩ = some (.int .i64 f) := hb.cellK; (first | (have nx := hx.trK hb; clear hx) | have nx := hb); clear hb; try clear hs; try clear g0; try clear g1; have hx := nx; clear nx; have hs := ns; clear ns; have g0 := n0; clear n0; have g1 := n1; clear n1) | (go_at_call 14; (with_reducible refine (AK2.out _).mono ?_); rintro rv w1 ⟨rfl, hb⟩; have ns : w.heap.size < w1.heap.size := hb.ltK; have n0 : w1.cell? ⟨w.heap.size, 0, none⟩ = some (.int .i64 e) := hb.cellK; have n1 : w1.cell? ⟨w.heap.size, 1, none⟩ = some (.int .i64 f) := hb.cellK; (first | (have nx := hx.trK hb; clear hx) | have nx := hb); clear hb; try clear hs; try clear g0; try clear g1; have hx := nx; clear nx; have hs := ns; clear ns; have g0 := n0; clear n0; have g1 := n1; clear n1))
        go_meet
        with_reducible assumption
      · have C3 : RowKit.Hid (∀ w : World, Calls Try.prog 9 #[fmt e f, .int .i64 (upV e f p)] w fun rv w' => rv = .returned (.tuple #[.int .i64 p, .bool true]) ∧ Ext w w') := Lib.hid (fun w => by have q := iNextDown_yes e f _ t9 w; rw [t11 hk] at q; exact q)
        have kb : (kindV e f p == 0) = false := by rw [beq_eq_false_iff_ne]; exact hk
        clear t1 t2 t3 t4 t5 t6 t9 t10 t11 t12 h1 h2 HU HD HN UN
        generalize keyV e f (upV e f p) = k2 at *
        generalize upV e f p = x at *
        generalize keyV e f p = k at *
        generalize kindV e f p = kk at *
        go_wp2_with (first | (go_at_call 13; (with_reducible refine (C1.out _).mono ?_); rintro rv w1 ⟨rfl, hb⟩; have ns : w.heap.size < w1.heap.size := hb.ltK; have n0 : w1.cell? ⟨w.heap.size, 0, none⟩ = some (.int .i64 e) := hb.cellK; have n1 : w1.cell? ⟨w.heap.size, 1, none⟩ = some (.int .i64 f) := hb.cellK; (first | (have nx := hx.trK hb; clear hx) | have nx := hb); clear hb; try clear hs; try clear g0; try clear g1; have hx := nx; clear nx; have hs := ns; clear ns; have g0 := n0; clear n0; have g1 := n1; clear n1) | (go_at_call 11; (with_reducible refine (C2.out _).mono ?_); rintro rv w1 ⟨rfl, hb⟩; have ns : w.heap.size < w1.heap.size := hb.ltK; have n0 : w1.cell? ⟨w.heap.size, 0, none⟩ = some (.int .i64 e) := hb.cellK; have n1 : w1.cell? ⟨w.heap.size, 1, none⟩ = some (.int .i64 f) := hb.cellK; (first | (have nx := hx.trK hb; clear hx) | have nx := hb); clear hb; try clear hs; try clear g0; try clear g1; have hx := nx; clear nx; have hs := ns; clear ns; have g0 := n0; clear n0; have g1 := n1; clear n1) | (go_at_call 9; (with_reducible refine (C3.out _).mono ?_); rintro rv w1 ⟨rfl, hb⟩; have ns : w.heap.size < w1.heap.size := hb.ltK; have n0 : w1.cell? ⟨w.heap.size, 0, none⟩ = some (.int .i64 e) := hb.cellK; have n1 : w1.cell? ⟨w.heap.size, 1, none⟩ = some (.int .i64 f) := hb.cellK; (first | (have nx := hx.trK hb; clear hx) | have nx := hb); clear hb; try clear hs; try clear g0; try clear g1; have hx := nx; clear nx; have hs := ns; clear ns; have g0 := n0; clear n0; have g1 := n1; clear n1) | (go_at_call 14; (with_reducible refine (AK.out _).mono ?_); rintro rv w1 ⟨rfl, hb⟩; have ns : w.heap.size < w1.heap.size := hb.ltK; have n0 : w1.cell? ⟨w.heap.size, 0, none⟩ = some (.int .i64 e) := hb.cellK; have n1 : w1.cell? ⟨w.heap.size, 1, none⟩ = some (.int .i64 f) := hb.cellK; (first | (have nx := hx.trK hb; clear hx) | have nx := hb); clear hb; try clear hs; try clear g0; try clear g1; have hx := nx; clear nx; have hs := ns; clear ns; have g0 := n0; clear n0; have g1 := n1; clear n1))
        go_meet
        with_reducible assumption
  case rest =>
  have hx := hcut
  clear hcut
  have g0 : wc.cell? ⟨w.heap.size, 0, none⟩ = some (.int .i64 e) := (hx.cells _ _ l0).trans c0
  have g1 : wc.cell? ⟨w.heap.size, 1, none⟩ = some (.int .i64 f) := (hx.cells _ _ l0).trans c1
  have hs : w.heap.size < wc.heap.size := hx.lt l0
  clear UI US DI DS KI KS HU HN UN
  go_upto_if 221 with fail
  go_cut [] from 222 to 254 (fun wx => Ext W0 wx)
  case first => as_aux_lemma =>
    cases D
    · go_wp2_with fail
      go_meet
      with_reducible assumption
    · obtain ⟨h1, h2⟩ := HD.out
      have h3 := h2 rfl
      subst h3
      obtain ⟨t1, t2, t3, t4⟩ := down_told h1.symm
      have C1 : RowKit.Hid (∀ w : World, Calls Try.prog 15 #[fmt e f, .int .i64 p] w fun rv w' => rv = .returned (.tuple #[.int .i64 (negV e f p), .bool true]) ∧ Ext w w') := Lib.hid (fun w => iNegateV_any e f p t2 w)
      have C2 : RowKit.Hid (∀ w : World, Calls Try.prog 7 #[fmt e f, .int .i64 (negV e f p)] w fun rv w' => rv = .returned (.tuple #[.int .i64 (upV e f (negV e f p)), .bool true]) ∧ Ext w w') := Lib.hid (fun w => iNextUp_yes e f _ t3 w)
      have C3 : RowKit.Hid (∀ w : World, Calls Try.prog 15 #[fmt e f, .int .i64 (upV e f (negV e f p))] w fun rv w' => rv = .returned (.tuple #[.int .i64 (downV e f p), .bool true]) ∧ Ext w w') := Lib.hid (fun w => iNegateV_any e f _ t4 w)
      clear t1 t2 t3 t4 h1 h2 HD
      generalize upV e f (negV e f p) = x2 at *
      generalize downV e f p = y at *
      generalize negV e f p = o at *
      go_wp2_with (first | (go_at_call 15; (with_reducible refine (C1.out _).mono ?_); rintro rv w1 ⟨rfl, hb⟩; have ns : w.heap.size < w1.heap.size := hb.ltK; have n0 : w1.cell? ⟨w.heap.size, 0, none⟩ = some (.int .i64 e) := hb.cellK; have n1 : w1.cell? ⟨w.heap.size, 1, none⟩ = some (.int .i64 f) := hb.cellK; (first | (have nx := hx.trK hb; clear hx) | have nx := hb); clear hb; try clear hs; try clear g0; try clear g1; have hx := nx; clear nx; have hs := ns; clear ns; have g0 := n0; clear n0; have g1 := n1; clear n1) | (go_at_call 7; (with_reducible refine (C2.out _).mono ?_); rintro rv w1 ⟨rfl, hb⟩; have ns : w.heap.size < w1.heap.size := hb.ltK; have n0 : w1.cell? ⟨w.heap.size, 0, none⟩ = some (.int .i64 e) := hb.cellK; have n1 : w1.cell? ⟨w.heap.size, 1, none⟩ = some (.int .i64 f) := hb.cellK; (first | (have nx := hx.trK hb; clear hx) | have nx := hb); clear hb; try clear hs; try clear g0; try clear g1; have hx := nx; clear nx; have hs := ns; clear ns; have g0 := n0; clear n0; have g1 := n1; clear n1) | (go_at_call 15; (with_reducible refine (C3.out _).mono ?_); rintro rv w1 ⟨rfl, hb⟩; have ns : w.heap.size < w1.heap.size := hb.ltK; have n0 : w1.cell? ⟨w.heap.size, 0, none⟩ = some (.int .i64 e) := hb.cellK; have n1 : w1.cell? ⟨w.heap.size, 1, none⟩ = some (.int .i64 f) := hb.cellK; (first | (have nx := hx.trK hb; clear hx) | have nx := hb); clear hb; try clear hs; try clear g0; try clear g1; have hx := nx; clear nx; have hs := ns; clear ns; have g0 := n0; clear n0; have g1 := n1; clear n1))
      go_meet
      with_reducible assumption
  case rest =>
  have hx := hcut
  clear hcut
  have g0 : wc.cell? ⟨w.heap.size + 1, 0, none⟩ = some (.int .i64 e2) := (hx.cells _ _ l1).trans c2
  have g1 : wc.cell? ⟨w.heap.size + 1, 1, none⟩ = some (.int .i64 f2) := (hx.cells _ _ l1).trans c3
  have hs : w.heap.size + 1 < wc.heap.size := hx.lt l1
  clear HD
  go_upto_region 23 with (first | (go_at_call 13; (with_reducible refine (CI.out _).mono ?_); rintro rv w1 ⟨rfl, hb⟩; have ns : w.heap.size + 1 < w1.heap.size := hb.ltK; have n0 : w1.cell? ⟨w.heap.size + 1, 0, none⟩ = some (.int .i64 e2) := hb.cellK; have n1 : w1.cell? ⟨w.heap.size + 1, 1, none⟩ = some (.int .i64 f2) := hb.cellK; (first | (have nx := hx.trK hb; clear hx) | have nx := hb); clear hb; try clear hs; try clear g0; try clear g1; have hx := nx; clear nx; have hs := ns; clear ns; have g0 := n0; clear n0; have g1 := n1; clear n1) | (go_at_call 16; (with_reducible refine (CS.out _).mono ?_); rintro rv w1 ⟨rfl, hb⟩; have ns : w.heap.size + 1 < w1.heap.size := hb.ltK; have n0 : w1.cell? ⟨w.heap.size + 1, 0, none⟩ = some (.int .i64 e2) := hb.cellK; have n1 : w1.cell? ⟨w.heap.size + 1, 1, none⟩ = some (.int .i64 f2) := hb.cellK; (first | (have nx := hx.trK hb; clear hx) | have nx := hb); clear hb; try clear hs; try clear g0; try clear g1; have hx := nx; clear nx; have hs := ns; clear ns; have g0 := n0; clear n0; have g1 := n1; clear n1))
  go_cut [276] from 269 to 276 (fun s wx => s = .bool false ∧ Ext W0 wx)
  case first => as_aux_lemma =>
    go_wp2_with fail
    go_meet
    exact ⟨rfl, by with_reducible assumption⟩
  case rest =>
  obtain ⟨rfl, hx⟩ := hcut
  have g0 : wc.cell? ⟨w.heap.size + 1, 0, none⟩ = some (.int .i64 e2) := (hx.cells _ _ l1).trans c2
  have g1 : wc.cell? ⟨w.heap.size + 1, 1, none⟩ = some (.int .i64 f2) := (hx.cells _ _ l1).trans c3
  have hs : w.heap.size + 1 < wc.heap.size := hx.lt l1
  go_upto_if 277 with fail
  go_cut [] from 278 to 326 (fun wx => Ext W0 wx)
  case first => as_aux_lemma =>
    cases T
    · go_wp2_with fail
      go_meet
      with_reducible assumption
    · obtain ⟨h1, h2⟩ := HT.out
      have h3 := h2 rfl
      subst h3
      have t1 : cmpB e2 f2 a b = true := h1.symm
      have t2 : patB e2 f2 a = true ∧ patB e2 f2 b = true := by unfold cmpB at t1; rw [Bool.and_eq_true] at t1; exact ⟨(num_mag.1 t1.1).1, (num_mag.1 t1.2).1⟩
      obtain ⟨t3, t4⟩ := cmp_units t2.1 t2.2
      have C1 : RowKit.Hid (∀ w : World, Calls Try.prog 13 #[fmt e2 f2, .int .i64 b, .int .i64 a] w fun rv w' => rv = .returned (.tuple #[.int .i64 (-cmpV (vkV e2 f2 a) (vkV e2 f2 b)), .bool true]) ∧ Ext w w') := Lib.hid (fun w => by have q := iCompareOf_yes e2 f2 b a (cmpB_turn t1) w; rw [cmp_turn (vkV e2 f2 a) (vkV e2 f2 b)] at q; exact q)
      have hc : cmpV (vkV e2 f2 a) (vkV e2 f2 b) = -1 ∨ cmpV (vkV e2 f2 a) (vkV e2 f2 b) = 0 ∨ cmpV (vkV e2 f2 a) (vkV e2 f2 b) = 1 := by unfold cmpV; (repeat' split) <;> simp
      obtain ⟨x1, V1, hV1, U1⟩ : ∃ (x1 : Int) (V1 : Bool), (V1 = true → x1 = unitsV e2 f2 a) ∧ RowKit.Hid (∀ w : World, Calls Try.prog 17 #[fmt e2 f2, .int .i64 a] w fun rv w' => rv = .returned (.tuple #[.int .i64 x1, .bool V1]) ∧ Ext w w') := by
        cases hf : finB e2 f2 a
        · exact ⟨0, false, fun h => (by cases h), Lib.hid (fun w => iUnitsOf_no e2 f2 a hf w)⟩
        · exact ⟨_, true, fun _ => rfl, Lib.hid (fun w => iUnitsOf_yes e2 f2 a hf w)⟩
      obtain ⟨x2, V2, hV2, U2⟩ : ∃ (x2 : Int) (V2 : Bool), (V2 = true → x2 = unitsV e2 f2 b) ∧ RowKit.Hid (∀ w : World, Calls Try.prog 17 #[fmt e2 f2, .int .i64 b] w fun rv w' => rv = .returned (.tuple #[.int .i64 x2, .bool V2]) ∧ Ext w w') := by
        cases hf : finB e2 f2 b
        · exact ⟨0, false, fun h => (by cases h), Lib.hid (fun w => iUnitsOf_no e2 f2 b hf w)⟩
        · exact ⟨_, true, fun _ => rfl, Lib.hid (fun w => iUnitsOf_yes e2 f2 b hf w)⟩
      have key : V1 = true → V2 = true → decide (x1 < x2) = decide (cmpV (vkV e2 f2 a) (vkV e2 f2 b) < 0) ∧ (x1 == x2) = (cmpV (vkV e2 f2 a) (vkV e2 f2 b) == 0) := fun q1 q2 => by rw [hV1 q1, hV2 q2]; exact ⟨t3, t4⟩
      have KEY := Lib.hid key
      clear t1 t2 t3 t4 h1 h2 HT hV1 hV2 key
      generalize cmpV (vkV e2 f2 a) (vkV e2 f2 b) = c at *
      have wc1 : IntKind.i64.wrap (-c) = -c := IntWalk.i64_in _ (by omega)
      have wc2 : wrap64 (-c) = -c := IntWalk.wrap64_in _ (by omega)
      cases V1
      · clear hc KEY
        go_wp2_with (first | (go_at_call 13; (with_reducible refine (C1.out _).mono ?_); rintro rv w1 ⟨rfl, hb⟩; have ns : w.heap.size + 1 < w1.heap.size := hb.ltK; have n0 : w1.cell? ⟨w.heap.size + 1, 0, none⟩ = some (.int .i64 e2) := hb.cellK; have n1 : w1.cell? ⟨w.heap.size + 1, 1, none⟩ = some (.int .i64 f2) := hb.cellK; (first | (have nx := hx.trK hb; clear hx) | have nx := hb); clear hb; try clear hs; try clear g0; try clear g1; have hx := nx; clear nx; have hs := ns; clear ns; have g0 := n0; clear n0; have g1 := n1; clear n1) | (go_at_call 17; (with_reducible refine (U1.out _).mono ?_); rintro rv w1 ⟨rfl, hb⟩; have ns : w.heap.size + 1 < w1.heap.size := hb.ltK; have n0 : w1.cell? ⟨w.heap.size + 1, 0, none⟩ = some (.int .i64 e2) := hb.cellK; have n1 : w1.cell? ⟨w.heap.size + 1, 1, none⟩ = some (.int .i64 f2) := hb.cellK; (first | (have nx := hx.trK hb; clear hx) | have nx := hb); clear hb; try clear hs; try clear g0; try clear g1; have hx := nx; clear nx; have hs := ns; clear ns; have g0 := n0; clear n0; have g1 := n1; clear n1) | (go_at_call 17; (with_reducible refine (U2.out _).mono ?_); rintro rv w1 ⟨rfl, hb⟩; have ns : w.heap.size + 1 < w1.heap.size := hb.ltK; have n0 : w1.cell? ⟨w.heap.size + 1, 0, none⟩ = some (.int .i64 e2) := hb.cellK; have n1 : w1.cell? ⟨w.heap.size + 1, 1, none⟩ = some (.int .i64 f2) := hb.cellK; (first | (have nx := hx.trK hb; clear hx) | have nx := hb); clear hb; try clear hs; try clear g0; try clear g1; have hx := nx; clear nx; have hs := ns; clear ns; have g0 := n0; clear n0; have g1 := n1; clear n1))
        go_meet
        with_reducible assumption
      · cases V2
        · clear hc KEY
          go_wp2_with (first | (go_at_call 13; (with_reducible refine (C1.out _).mono ?_); rintro rv w1 ⟨rfl, hb⟩; have ns : w.heap.size + 1 < w1.heap.size := hb.ltK; have n0 : w1.cell? ⟨w.heap.size + 1, 0, none⟩ = some (.int .i64 e2) := hb.cellK; have n1 : w1.cell? ⟨w.heap.size + 1, 1, none⟩ = some (.int .i64 f2) := hb.cellK; (first | (have nx := hx.trK hb; clear hx) | have nx := hb); clear hb; try clear hs; try clear g0; try clear g1; have hx := nx; clear nx; have hs := ns; clear ns; have g0 := n0; clear n0; have g1 := n1; clear n1) | (go_at_call 17; (with_reducible refine (U1.out _).mono ?_); rintro rv w1 ⟨rfl, hb⟩; have ns : w.heap.size + 1 < w1.heap.size := hb.ltK; have n0 : w1.cell? ⟨w.heap.size + 1, 0, none⟩ = some (.int .i64 e2) := hb.cellK; have n1 : w1.cell? ⟨w.heap.size + 1, 1, none⟩ = some (.int .i64 f2) := hb.cellK; (first | (have nx := hx.trK hb; clear hx) | have nx := hb); clear hb; try clear hs; try clear g0; try clear g1; have hx := nx; clear nx; have hs := ns; clear ns; have g0 := n0; clear n0; have g1 := n1; clear n1) | (go_at_call 17; (with_reducible refine (U2.out _).mono ?_); rintro rv w1 ⟨rfl, hb⟩; have ns : w.heap.size + 1 < w1.heap.size := hb.ltK; have n0 : w1.cell? ⟨w.heap.size + 1, 0, none⟩ = some (.int .i64 e2) := hb.cellK; have n1 : w1.cell? ⟨w.heap.size + 1, 1, none⟩ = some (.int .i64 f2) := hb.cellK; (first | (have nx := hx.trK hb; clear hx) | have nx := hb); clear hb; try clear hs; try clear g0; try clear g1; have hx := nx; clear nx; have hs := ns; clear ns; have g0 := n0; clear n0; have g1 := n1; clear n1))
          go_meet
          with_reducible assumption
        · obtain ⟨k1, k2⟩ := KEY.out rfl rfl
          clear KEY wc1 wc2
          rcases hc with rfl | rfl | rfl
          · have k3 : x1 < x2 := by simpa using k1
            have k4 : (x1 == x2) = false := by simpa using k2
            clear k1 k2
            go_wp2_with (first | (go_at_call 13; (with_reducible refine (C1.out _).mono ?_); rintro rv w1 ⟨rfl, hb⟩; have ns : w.heap.size + 1 < w1.heap.size := hb.ltK; have n0 : w1.cell? ⟨w.heap.size + 1, 0, none⟩ = some (.int .i64 e2) := hb.cellK; have n1 : w1.cell? ⟨w.heap.size + 1, 1, none⟩ = some (.int .i64 f2) := hb.cellK; (first | (have nx := hx.trK hb; clear hx) | have nx := hb); clear hb; try clear hs; try clear g0; try clear g1; have hx := nx; clear nx; have hs := ns; clear ns; have g0 := n0; clear n0; have g1 := n1; clear n1) | (go_at_call 17; (with_reducible refine (U1.out _).mono ?_); rintro rv w1 ⟨rfl, hb⟩; have ns : w.heap.size + 1 < w1.heap.size := hb.ltK; have n0 : w1.cell? ⟨w.heap.size + 1, 0, none⟩ = some (.int .i64 e2) := hb.cellK; have n1 : w1.cell? ⟨w.heap.size + 1, 1, none⟩ = some (.int .i64 f2) := hb.cellK; (first | (have nx := hx.trK hb; clear hx) | have nx := hb); clear hb; try clear hs; try clear g0; try clear g1; have hx := nx; clear nx; have hs := ns; clear ns; have g0 := n0; clear n0; have g1 := n1; clear n1) | (go_at_call 17; (with_reducible refine (U2.out _).mono ?_); rintro rv w1 ⟨rfl, hb⟩; have ns : w.heap.size + 1 < w1.heap.size := hb.ltK; have n0 : w1.cell? ⟨w.heap.size + 1, 0, none⟩ = some (.int .i64 e2) := hb.cellK; have n1 : w1.cell? ⟨w.heap.size + 1, 1, none⟩ = some (.int .i64 f2) := hb.cellK; (first | (have nx := hx.trK hb; clear hx) | have nx := hb); clear hb; try clear hs; try clear g0; try clear g1; have hx := nx; clear nx; have hs := ns; clear ns; have g0 := n0; clear n0; have g1 := n1; clear n1))
            go_meet
            with_reducible assumption
          · obtain rfl : x1 = x2 := by simpa using k2
            clear k1 k2
            go_wp2_with (first | (go_at_call 13; (with_reducible refine (C1.out _).mono ?_); rintro rv w1 ⟨rfl, hb⟩; have ns : w.heap.size + 1 < w1.heap.size := hb.ltK; have n0 : w1.cell? ⟨w.heap.size + 1, 0, none⟩ = some (.int .i64 e2) := hb.cellK; have n1 : w1.cell? ⟨w.heap.size + 1, 1, none⟩ = some (.int .i64 f2) := hb.cellK; (first | (have nx := hx.trK hb; clear hx) | have nx := hb); clear hb; try clear hs; try clear g0; try clear g1; have hx := nx; clear nx; have hs := ns; clear ns; have g0 := n0; clear n0; have g1 := n1; clear n1) | (go_at_call 17; (with_reducible refine (U1.out _).mono ?_); rintro rv w1 ⟨rfl, hb⟩; have ns : w.heap.size + 1 < w1.heap.size := hb.ltK; have n0 : w1.cell? ⟨w.heap.size + 1, 0, none⟩ = some (.int .i64 e2) := hb.cellK; have n1 : w1.cell? ⟨w.heap.size + 1, 1, none⟩ = some (.int .i64 f2) := hb.cellK; (first | (have nx := hx.trK hb; clear hx) | have nx := hb); clear hb; try clear hs; try clear g0; try clear g1; have hx := nx; clear nx; have hs := ns; clear ns; have g0 := n0; clear n0; have g1 := n1; clear n1) | (go_at_call 17; (with_reducible refine (U2.out _).mono ?_); rintro rv w1 ⟨rfl, hb⟩; have ns : w.heap.size + 1 < w1.heap.size := hb.ltK; have n0 : w1.cell? ⟨w.heap.size + 1, 0, none⟩ = some (.int .i64 e2) := hb.cellK; have n1 : w1.cell? ⟨w.heap.size + 1, 1, none⟩ = some (.int .i64 f2) := hb.cellK; (first | (have nx := hx.trK hb; clear hx) | have nx := hb); clear hb; try clear hs; try clear g0; try clear g1; have hx := nx; clear nx; have hs := ns; clear ns; have g0 := n0; clear n0; have g1 := n1; clear n1))
            go_meet
            with_reducible assumption
          · have k4 : (x1 == x2) = false := by simpa using k2
            have k3 : ¬ x1 < x2 := by simpa using k1
            clear k1 k2
            go_wp2_with (first | (go_at_call 13; (with_reducible refine (C1.out _).mono ?_); rintro rv w1 ⟨rfl, hb⟩; have ns : w.heap.size + 1 < w1.heap.size := hb.ltK; have n0 : w1.cell? ⟨w.heap.size + 1, 0, none⟩ = some (.int .i64 e2) := hb.cellK; have n1 : w1.cell? ⟨w.heap.size + 1, 1, none⟩ = some (.int .i64 f2) := hb.cellK; (first | (have nx := hx.trK hb; clear hx) | have nx := hb); clear hb; try clear hs; try clear g0; try clear g1; have hx := nx; clear nx; have hs := ns; clear ns; have g0 := n0; clear n0; have g1 := n1; clear n1) | (go_at_call 17; (with_reducible refine (U1.out _).mono ?_); rintro rv w1 ⟨rfl, hb⟩; have ns : w.heap.size + 1 < w1.heap.size := hb.ltK; have n0 : w1.cell? ⟨w.heap.size + 1, 0, none⟩ = some (.int .i64 e2) := hb.cellK; have n1 : w1.cell? ⟨w.heap.size + 1, 1, none⟩ = some (.int .i64 f2) := hb.cellK; (first | (have nx := hx.trK hb; clear hx) | have nx := hb); clear hb; try clear hs; try clear g0; try clear g1; have hx := nx; clear nx; have hs := ns; clear ns; have g0 := n0; clear n0; have g1 := n1; clear n1) | (go_at_call 17; (with_reducible refine (U2.out _).mono ?_); rintro rv w1 ⟨rfl, hb⟩; have ns : w.heap.size + 1 < w1.heap.size := hb.ltK; have n0 : w1.cell? ⟨w.heap.size + 1, 0, none⟩ = some (.int .i64 e2) := hb.cellK; have n1 : w1.cell? ⟨w.heap.size + 1, 1, none⟩ = some (.int .i64 f2) := hb.cellK; (first | (have nx := hx.trK hb; clear hx) | have nx := hb); clear hb; try clear hs; try clear g0; try clear g1; have hx := nx; clear nx; have hs := ns; clear ns; have g0 := n0; clear n0; have g1 := n1; clear n1))
            go_meet
            with_reducible assumption
  case rest =>
  have hx := hcut
  clear hcut
  have g0 : wc.cell? ⟨w.heap.size + 2, 0, none⟩ = some (.int .i64 e3) := (hx.cells _ _ l2).trans c4
  have g1 : wc.cell? ⟨w.heap.size + 2, 1, none⟩ = some (.int .i64 f3) := (hx.cells _ _ l2).trans c5
  have hs : w.heap.size + 2 < wc.heap.size := hx.lt l2
  clear HT CI CS
  go_upto_region 37 with (first | (go_at_call 18; (with_reducible refine (BI.out _).mono ?_); rintro rv w1 ⟨rfl, hb⟩; have ns : w.heap.size + 2 < w1.heap.size := hb.ltK; have n0 : w1.cell? ⟨w.heap.size + 2, 0, none⟩ = some (.int .i64 e3) := hb.cellK; have n1 : w1.cell? ⟨w.heap.size + 2, 1, none⟩ = some (.int .i64 f3) := hb.cellK; (first | (have nx := hx.trK hb; clear hx) | have nx := hb); clear hb; try clear hs; try clear g0; try clear g1; have hx := nx; clear nx; have hs := ns; clear ns; have g0 := n0; clear n0; have g1 := n1; clear n1) | (go_at_call 19; (with_reducible refine (BS.out _).mono ?_); rintro rv w1 ⟨rfl, hb⟩; have ns : w.heap.size + 2 < w1.heap.size := hb.ltK; have n0 : w1.cell? ⟨w.heap.size + 2, 0, none⟩ = some (.int .i64 e3) := hb.cellK; have n1 : w1.cell? ⟨w.heap.size + 2, 1, none⟩ = some (.int .i64 f3) := hb.cellK; (first | (have nx := hx.trK hb; clear hx) | have nx := hb); clear hb; try clear hs; try clear g0; try clear g1; have hx := nx; clear nx; have hs := ns; clear ns; have g0 := n0; clear n0; have g1 := n1; clear n1) | (go_at_call 20; (with_reducible refine (GI.out _).mono ?_); rintro rv w1 ⟨rfl, hb⟩; have ns : w.heap.size + 2 < w1.heap.size := hb.ltK; have n0 : w1.cell? ⟨w.heap.size + 2, 0, none⟩ = some (.int .i64 e3) := hb.cellK; have n1 : w1.cell? ⟨w.heap.size + 2, 1, none⟩ = some (.int .i64 f3) := hb.cellK; (first | (have nx := hx.trK hb; clear hx) | have nx := hb); clear hb; try clear hs; try clear g0; try clear g1; have hx := nx; clear nx; have hs := ns; clear ns; have g0 := n0; clear n0; have g1 := n1; clear n1) | (go_at_call 21; (with_reducible refine (GT.out _).mono ?_); rintro rv w1 ⟨rfl, hb⟩; have ns : w.heap.size + 2 < w1.heap.size := hb.ltK; have n0 : w1.cell? ⟨w.heap.size + 2, 0, none⟩ = some (.int .i64 e3) := hb.cellK; have n1 : w1.cell? ⟨w.heap.size + 2, 1, none⟩ = some (.int .i64 f3) := hb.cellK; (first | (have nx := hx.trK hb; clear hx) | have nx := hb); clear hb; try clear hs; try clear g0; try clear g1; have hx := nx; clear nx; have hs := ns; clear ns; have g0 := n0; clear n0; have g1 := n1; clear n1) | (go_at_call 22; (with_reducible refine (LI.out _).mono ?_); rintro rv w1 ⟨rfl, hb⟩; have ns : w.heap.size + 2 < w1.heap.size := hb.ltK; have n0 : w1.cell? ⟨w.heap.size + 2, 0, none⟩ = some (.int .i64 e3) := hb.cellK; have n1 : w1.cell? ⟨w.heap.size + 2, 1, none⟩ = some (.int .i64 f3) := hb.cellK; (first | (have nx := hx.trK hb; clear hx) | have nx := hb); clear hb; try clear hs; try clear g0; try clear g1; have hx := nx; clear nx; have hs := ns; clear ns; have g0 := n0; clear n0; have g1 := n1; clear n1) | (go_at_call 23; (with_reducible refine (LS.out _).mono ?_); rintro rv w1 ⟨rfl, hb⟩; have ns : w.heap.size + 2 < w1.heap.size := hb.ltK; have n0 : w1.cell? ⟨w.heap.size + 2, 0, none⟩ = some (.int .i64 e3) := hb.cellK; have n1 : w1.cell? ⟨w.heap.size + 2, 1, none⟩ = some (.int .i64 f3) := hb.cellK; (first | (have nx := hx.trK hb; clear hx) | have nx := hb); clear hb; try clear hs; try clear g0; try clear g1; have hx := nx; clear nx; have hs := ns; clear ns; have g0 := n0; clear n0; have g1 := n1; clear n1))
  go_cut [386] from 359 to 386 (fun s wx => s = .bool false ∧ Ext W0 wx)
  case first => as_aux_lemma =>
    go_wp2_with fail
    go_meet
    exact ⟨rfl, by with_reducible assumption⟩
  case rest =>
  obtain ⟨rfl, hx⟩ := hcut
  have g0 : wc.cell? ⟨w.heap.size + 2, 0, none⟩ = some (.int .i64 e3) := (hx.cells _ _ l2).trans c4
  have g1 : wc.cell? ⟨w.heap.size + 2, 1, none⟩ = some (.int .i64 f3) := (hx.cells _ _ l2).trans c5
  have hs : w.heap.size + 2 < wc.heap.size := hx.lt l2
  go_upto_if 387 with fail
  go_cut [] from 388 to 433 (fun wx => Ext W0 wx)
  case first => as_aux_lemma =>
    cases B
    · go_wp2_with fail
      go_meet
      with_reducible assumption
    · obtain ⟨h1, h2⟩ := HB.out rfl
      have hmt := (HG.out).2.1 ((HG.out).1.trans h1)
      have u9 := h2.2.2.1
      obtain ⟨t1, t2, t3, t4, t5, t6⟩ := below_told h1 h2
      have C1 : RowKit.Hid (∀ w : World, Calls Try.prog 17 #[fmt e3 f3, .int .i64 r] w fun rv w' => rv = .returned (.tuple #[.int .i64 (mgV f3 r), .bool true]) ∧ Ext w w') := Lib.hid (fun w => by have q := iUnitsOf_yes e3 f3 r t1 w; rw [t2] at q; exact q)
      have C2 : RowKit.Hid (∀ w : World, Calls Try.prog 7 #[fmt e3 f3, .int .i64 r] w fun rv w' => rv = .returned (.tuple #[.int .i64 (r + 1), .bool true]) ∧ Ext w w') := Lib.hid (fun w => by have q := iNextUp_yes e3 f3 r t4 w; rw [t5] at q; exact q)
      rcases t6 with ⟨t6, t7, t8⟩ | ⟨t6, t7⟩
      · have C3 : RowKit.Hid (∀ w : World, Calls Try.prog 17 #[fmt e3 f3, .int .i64 (r + 1)] w fun rv w' => rv = .returned (.tuple #[.int .i64 (mgV f3 (r + 1)), .bool true]) ∧ Ext w w') := Lib.hid (fun w => by have q := iUnitsOf_yes e3 f3 (r + 1) t6 w; rw [t7] at q; exact q)
        clear t1 t2 t4 t5 t6 t7 h1 h2 HB HG hmt
        generalize mgV f3 r = v1 at *
        generalize mgV f3 (r + 1) = v2 at *
        generalize r + 1 = r1 at *
        go_wp2_with (first | (go_at_call 17; (with_reducible refine (C1.out _).mono ?_); rintro rv w1 ⟨rfl, hb⟩; have ns : w.heap.size + 2 < w1.heap.size := hb.ltK; have n0 : w1.cell? ⟨w.heap.size + 2, 0, none⟩ = some (.int .i64 e3) := hb.cellK; have n1 : w1.cell? ⟨w.heap.size + 2, 1, none⟩ = some (.int .i64 f3) := hb.cellK; (first | (have nx := hx.trK hb; clear hx) | have nx := hb); clear hb; try clear hs; try clear g0; try clear g1; have hx := nx; clear nx; have hs := ns; clear ns; have g0 := n0; clear n0; have g1 := n1; clear n1) | (go_at_call 7; (with_reducible refine (C2.out _).mono ?_); rintro rv w1 ⟨rfl, hb⟩; have ns : w.heap.size + 2 < w1.heap.size := hb.ltK; have n0 : w1.cell? ⟨w.heap.size + 2, 0, none⟩ = some (.int .i64 e3) := hb.cellK; have n1 : w1.cell? ⟨w.heap.size + 2, 1, none⟩ = some (.int .i64 f3) := hb.cellK; (first | (have nx := hx.trK hb; clear hx) | have nx := hb); clear hb; try clear hs; try clear g0; try clear g1; have hx := nx; clear nx; have hs := ns; clear ns; have g0 := n0; clear n0; have g1 := n1; clear n1) | (go_at_call 17; (with_reducible refine (C3.out _).mono ?_); rintro rv w1 ⟨rfl, hb⟩; have ns : w.heap.size + 2 < w1.heap.size := hb.ltK; have n0 : w1.cell? ⟨w.heap.size + 2, 0, none⟩ = some (.int .i64 e3) := hb.cellK; have n1 : w1.cell? ⟨w.heap.size + 2, 1, none⟩ = some (.int .i64 f3) := hb.cellK; (first | (have nx := hx.trK hb; clear hx) | have nx := hb); clear hb; try clear hs; try clear g0; try clear g1; have hx := nx; clear nx; have hs := ns; clear ns; have g0 := n0; clear n0; have g1 := n1; clear n1))
        go_meet
        with_reducible assumption
      · have C3 : RowKit.Hid (∀ w : World, Calls Try.prog 17 #[fmt e3 f3, .int .i64 (r + 1)] w fun rv w' => rv = .returned (.tuple #[.int .i64 0, .bool false]) ∧ Ext w w') := Lib.hid (fun w => iUnitsOf_no e3 f3 (r + 1) t6 w)
        obtain rfl : r = m := t7.trans hmt.symm
        clear t1 t2 t4 t5 t6 t7 h1 h2 HB HG hmt
        generalize mgV f3 r = v1 at *
        generalize r + 1 = r1 at *
        go_wp2_with (first | (go_at_call 17; (with_reducible refine (C1.out _).mono ?_); rintro rv w1 ⟨rfl, hb⟩; have ns : w.heap.size + 2 < w1.heap.size := hb.ltK; have n0 : w1.cell? ⟨w.heap.size + 2, 0, none⟩ = some (.int .i64 e3) := hb.cellK; have n1 : w1.cell? ⟨w.heap.size + 2, 1, none⟩ = some (.int .i64 f3) := hb.cellK; (first | (have nx := hx.trK hb; clear hx) | have nx := hb); clear hb; try clear hs; try clear g0; try clear g1; have hx := nx; clear nx; have hs := ns; clear ns; have g0 := n0; clear n0; have g1 := n1; clear n1) | (go_at_call 7; (with_reducible refine (C2.out _).mono ?_); rintro rv w1 ⟨rfl, hb⟩; have ns : w.heap.size + 2 < w1.heap.size := hb.ltK; have n0 : w1.cell? ⟨w.heap.size + 2, 0, none⟩ = some (.int .i64 e3) := hb.cellK; have n1 : w1.cell? ⟨w.heap.size + 2, 1, none⟩ = some (.int .i64 f3) := hb.cellK; (first | (have nx := hx.trK hb; clear hx) | have nx := hb); clear hb; try clear hs; try clear g0; try clear g1; have hx := nx; clear nx; have hs := ns; clear ns; have g0 := n0; clear n0; have g1 := n1; clear n1) | (go_at_call 17; (with_reducible refine (C3.out _).mono ?_); rintro rv w1 ⟨rfl, hb⟩; have ns : w.heap.size + 2 < w1.heap.size := hb.ltK; have n0 : w1.cell? ⟨w.heap.size + 2, 0, none⟩ = some (.int .i64 e3) := hb.cellK; have n1 : w1.cell? ⟨w.heap.size + 2, 1, none⟩ = some (.int .i64 f3) := hb.cellK; (first | (have nx := hx.trK hb; clear hx) | have nx := hb); clear hb; try clear hs; try clear g0; try clear g1; have hx := nx; clear nx; have hs := ns; clear ns; have g0 := n0; clear n0; have g1 := n1; clear n1))
        go_meet
        with_reducible assumption
  case rest =>
  have hx := hcut
  clear hcut
  have g0 : wc.cell? ⟨w.heap.size + 2, 0, none⟩ = some (.int .i64 e3) := (hx.cells _ _ l2).trans c4
  have g1 : wc.cell? ⟨w.heap.size + 2, 1, none⟩ = some (.int .i64 f3) := (hx.cells _ _ l2).trans c5
  have hs : w.heap.size + 2 < wc.heap.size := hx.lt l2
  clear HB BI BS
  go_upto_region 45 with fail
  go_cut [460] from 434 to 460 (fun s wx => s = .bool false ∧ Ext W0 wx)
  case first => as_aux_lemma =>
    cases G2
    · go_wp2_with fail
      go_meet
      exact ⟨rfl, by with_reducible assumption⟩
    · obtain ⟨h1, h2, h3⟩ := HG.out
      have h4 := h2 rfl
      have h5 := h3 rfl
      subst h4 h5
      have hg : goodB e3 f3 = true := h1.symm
      obtain ⟨⟨t1, t2⟩, ⟨t3, t4⟩, ⟨t5, t6⟩, ⟨t7, t8⟩⟩ := ends_kind hg
      have b1 := pat_iff.1 t1
      have b2 := (good_iff.1 hg)
      have b3 := (pw_facts b2.1 b2.2.1 b2.2.2.1 b2.2.2.2)
      have b4 : pw (e3 + f3) ≤ 32768 := b3.1.2
      have b5 : 2 ≤ pw f3 ∧ pw f3 ≤ 1024 := b3.2.2.1
      have C1 : RowKit.Hid (∀ w : World, Calls Try.prog 14 #[fmt e3 f3, .int .i64 ((pw e3 - 1) * pw f3 - 1)] w fun rv w' => rv = .returned (.int .i64 2) ∧ Ext w w') := Lib.hid (fun w => by have q := aKind_any e3 f3 _ t1 w; rw [t2] at q; exact q)
      have C2 : RowKit.Hid (∀ w : World, Calls Try.prog 14 #[fmt e3 f3, .int .i64 ((pw e3 - 1) * pw f3 - 1 + 1)] w fun rv w' => rv = .returned (.int .i64 3) ∧ Ext w w') := Lib.hid (fun w => by have q := aKind_any e3 f3 _ t3 w; rw [t4] at q; rw [Int.sub_add_cancel]; exact q)
      have C3 : RowKit.Hid (∀ w : World, Calls Try.prog 14 #[fmt e3 f3, .int .i64 (pw f3)] w fun rv w' => rv = .returned (.int .i64 2) ∧ Ext w w') := Lib.hid (fun w => by have q := aKind_any e3 f3 _ t5 w; rw [t6] at q; exact q)
      have C4 : RowKit.Hid (∀ w : World, Calls Try.prog 14 #[fmt e3 f3, .int .i64 (pw f3 - 1)] w fun rv w' => rv = .returned (.int .i64 1) ∧ Ext w w') := Lib.hid (fun w => by have q := aKind_any e3 f3 _ t7 w; rw [t8] at q; exact q)
      have b6 : 0 ≤ (pw e3 - 1) * pw f3 - 1 := b1.2.1
      have b7 : (pw e3 - 1) * pw f3 - 1 < 65536 := by have := b1.2.2; omega
      obtain ⟨b8, b9⟩ := b5
      clear t1 t2 t3 t4 t5 t6 t7 t8 b1 b2 b3 b4 h1 h2 h3 hg HG GI GT LI LS
      generalize (pw e3 - 1) * pw f3 - 1 = m at *
      generalize pw f3 = l at *
      go_wp2_with (first | (go_at_call 14; (with_reducible refine (C1.out _).mono ?_); rintro rv w1 ⟨rfl, hb⟩; have ns : w.heap.size + 2 < w1.heap.size := hb.ltK; have n0 : w1.cell? ⟨w.heap.size + 2, 0, none⟩ = some (.int .i64 e3) := hb.cellK; have n1 : w1.cell? ⟨w.heap.size + 2, 1, none⟩ = some (.int .i64 f3) := hb.cellK; (first | (have nx := hx.trK hb; clear hx) | have nx := hb); clear hb; try clear hs; try clear g0; try clear g1; have hx := nx; clear nx; have hs := ns; clear ns; have g0 := n0; clear n0; have g1 := n1; clear n1) | (go_at_call 14; (with_reducible refine (C2.out _).mono ?_); rintro rv w1 ⟨rfl, hb⟩; have ns : w.heap.size + 2 < w1.heap.size := hb.ltK; have n0 : w1.cell? ⟨w.heap.size + 2, 0, none⟩ = some (.int .i64 e3) := hb.cellK; have n1 : w1.cell? ⟨w.heap.size + 2, 1, none⟩ = some (.int .i64 f3) := hb.cellK; (first | (have nx := hx.trK hb; clear hx) | have nx := hb); clear hb; try clear hs; try clear g0; try clear g1; have hx := nx; clear nx; have hs := ns; clear ns; have g0 := n0; clear n0; have g1 := n1; clear n1) | (go_at_call 14; (with_reducible refine (C3.out _).mono ?_); rintro rv w1 ⟨rfl, hb⟩; have ns : w.heap.size + 2 < w1.heap.size := hb.ltK; have n0 : w1.cell? ⟨w.heap.size + 2, 0, none⟩ = some (.int .i64 e3) := hb.cellK; have n1 : w1.cell? ⟨w.heap.size + 2, 1, none⟩ = some (.int .i64 f3) := hb.cellK; (first | (have nx := hx.trK hb; clear hx) | have nx := hb); clear hb; try clear hs; try clear g0; try clear g1; have hx := nx; clear nx; have hs := ns; clear ns; have g0 := n0; clear n0; have g1 := n1; clear n1) | (go_at_call 14; (with_reducible refine (C4.out _).mono ?_); rintro rv w1 ⟨rfl, hb⟩; have ns : w.heap.size + 2 < w1.heap.size := hb.ltK; have n0 : w1.cell? ⟨w.heap.size + 2, 0, none⟩ = some (.int .i64 e3) := hb.cellK; have n1 : w1.cell? ⟨w.heap.size + 2, 1, none⟩ = some (.int .i64 f3) := hb.cellK; (first | (have nx := hx.trK hb; clear hx) | have nx := hb); clear hb; try clear hs; try clear g0; try clear g1; have hx := nx; clear nx; have hs := ns; clear ns; have g0 := n0; clear n0; have g1 := n1; clear n1))
      go_meet
      exact ⟨rfl, by with_reducible assumption⟩
  case rest =>
  obtain ⟨rfl, hx⟩ := hcut
  have g0 : wc.cell? ⟨w.heap.size + 3, 0, none⟩ = some (.int .i64 e4) := (hx.cells _ _ l3).trans c6
  have g1 : wc.cell? ⟨w.heap.size + 3, 1, none⟩ = some (.int .i64 f4) := (hx.cells _ _ l3).trans c7
  have hs : w.heap.size + 3 < wc.heap.size := hx.lt l3
  clear HG GI GT LI LS
  go_upto_region 49 with (first | (go_at_call 24; (with_reducible refine (ZI.out _).mono ?_); rintro rv w1 ⟨rfl, hb⟩; have ns : w.heap.size + 3 < w1.heap.size := hb.ltK; have n0 : w1.cell? ⟨w.heap.size + 3, 0, none⟩ = some (.int .i64 e4) := hb.cellK; have n1 : w1.cell? ⟨w.heap.size + 3, 1, none⟩ = some (.int .i64 f4) := hb.cellK; (first | (have nx := hx.trK hb; clear hx) | have nx := hb); clear hb; try clear hs; try clear g0; try clear g1; have hx := nx; clear nx; have hs := ns; clear ns; have g0 := n0; clear n0; have g1 := n1; clear n1) | (go_at_call 25; (with_reducible refine (ZS.out _).mono ?_); rintro rv w1 ⟨rfl, hb⟩; have ns : w.heap.size + 3 < w1.heap.size := hb.ltK; have n0 : w1.cell? ⟨w.heap.size + 3, 0, none⟩ = some (.int .i64 e4) := hb.cellK; have n1 : w1.cell? ⟨w.heap.size + 3, 1, none⟩ = some (.int .i64 f4) := hb.cellK; (first | (have nx := hx.trK hb; clear hx) | have nx := hb); clear hb; try clear hs; try clear g0; try clear g1; have hx := nx; clear nx; have hs := ns; clear ns; have g0 := n0; clear n0; have g1 := n1; clear n1))
  cases Z
  all_goals
    go_wp2_with fail
    go_ret
    exact ⟨rfl, Ext.auK⟩
end Go.Proofs.Ytmddlbphanlfhaa.lPatternsOrderedOfAll
