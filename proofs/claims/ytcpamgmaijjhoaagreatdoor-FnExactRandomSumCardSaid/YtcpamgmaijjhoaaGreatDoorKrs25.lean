/-
  Contracts of the functions that the laws reach, and the plain facts that they rest on, each under the conditions that its line names; part 25.
-/
import Derived.Test.YtcpamgmaijjhoaaGreatDoorKrs1
import Derived.Test.YtcpamgmaijjhoaaGreatDoorKrs2
import Derived.Test.YtcpamgmaijjhoaaGreatDoorKrs3
import Derived.Test.YtcpamgmaijjhoaaGreatDoorKrs4
import Derived.Test.YtcpamgmaijjhoaaGreatDoorKrs5
import Derived.Test.YtcpamgmaijjhoaaGreatDoorKrs6
import Derived.Test.YtcpamgmaijjhoaaGreatDoorKrs7
import Derived.Test.YtcpamgmaijjhoaaGreatDoorKrs8
import Derived.Test.YtcpamgmaijjhoaaGreatDoorKrs9
import Derived.Test.YtcpamgmaijjhoaaGreatDoorKrs10
import Derived.Test.YtcpamgmaijjhoaaGreatDoorKrs11
import Derived.Test.YtcpamgmaijjhoaaGreatDoorKrs12
import Derived.Test.YtcpamgmaijjhoaaGreatDoorKrs13
import Derived.Test.YtcpamgmaijjhoaaGreatDoorKrs14
import Derived.Test.YtcpamgmaijjhoaaGreatDoorKrs15
import Derived.Test.YtcpamgmaijjhoaaGreatDoorKrs16
import Derived.Test.YtcpamgmaijjhoaaGreatDoorKrs17
import Derived.Test.YtcpamgmaijjhoaaGreatDoorKrs18
import Derived.Test.YtcpamgmaijjhoaaGreatDoorKrs19
import Derived.Test.YtcpamgmaijjhoaaGreatDoorKrs20
import Derived.Test.YtcpamgmaijjhoaaGreatDoorKrs21
import Derived.Test.YtcpamgmaijjhoaaGreatDoorKrs22
import Derived.Test.YtcpamgmaijjhoaaGreatDoorKrs23
import Derived.Test.YtcpamgmaijjhoaaGreatDoorKrs24
import Derived.Test.YtcpamgmaijjhoaaGreatDoorRows
import Derived.WalkKit
import Derived.LoopTactic
import Derived.LoopN
import Derived.Laws.Bits64b
import Derived.WalkSpells
import Derived.WalkLawsBesides
import Derived.StillTactics
import Derived.Laws.Pointers
import Derived.Deep.RegionHeld3
import Derived.Deep.QuietTactic
import Derived.BigQuiet
import Derived.Outline
import Derived.Lib.Hide
import Derived.RowKit3
import Derived.Carry
import Derived.IntWalk
namespace Go.Proofs.YtcpamgmaijjhoaaGreatDoor
open Go Go.RowKit
set_option linter.unusedSimpArgs false
set_option linter.unusedVariables false
set_option maxRecDepth 100000

/-- The next pattern, and whether there is one. -/
noncomputable def raS (e f b c a r : Int) : Int := rrV e f (odV (unitsV e f a + unitsV e f b)) (shE (unitsV e f a + unitsV e f b) (unV e f)) c r

noncomputable def raO (e f b c a : Int) : Bool := okV e f ((((odV (unitsV e f a + unitsV e f b))).natAbs : Int) * pw (((shE (unitsV e f a + unitsV e f b) (unV e f)) - unV e f) + 149))

/-- The pattern behind so many steps, and whether all are there. -/
noncomputable def raI (e f b c a : Int) (V : Nat → Int) : Nat → Int
  | 0 => a
  | k + 1 => raS e f b c (raI e f b c a V k) (V k)

noncomputable def raG (e f b c a : Int) (V : Nat → Int) : Nat → Bool
  | 0 => true
  | k + 1 => raG e f b c a V k && raO e f b c (raI e f b c a V k)

theorem raG_succ {e f b c a : Int} {V : Nat → Int} {k : Nat} : raG e f b c a V (k + 1) = true ↔ raG e f b c a V k = true ∧ raO e f b c (raI e f b c a V k) = true := by
  show (raG e f b c a V k && raO e f b c (raI e f b c a V k)) = true ↔ _
  rw [Bool.and_eq_true]

theorem raG_le {e f b c a : Int} {V : Nat → Int} {k n : Nat} (h : k ≤ n) (hn : raG e f b c a V n = true) : raG e f b c a V k = true := by
  induction n with
  | zero => rwa [show k = 0 by omega]
  | succ n ih =>
    by_cases hk : k = n + 1
    · rwa [hk]
    · exact ih (by omega) (raG_succ.1 hn).1

theorem ra_dy {e f a b : Int} (ha : finB e f a = true) (hb : finB e f b = true) : dyB (odV (unitsV e f a + unitsV e f b)) (shE (unitsV e f a + unitsV e f b) (unV e f)) = true := by
  obtain ⟨s0, s1, s2, s3, s4, s5⟩ := ns_small ha hb
  have hg := (pat_iff.1 (fin_pat ha).1).1
  obtain ⟨u1, u2, u3, u4⟩ := un_bd hg
  obtain ⟨h1, h2, h3⟩ := nf_small (S := (unitsV e f a + unitsV e f b)) (l := unV e f) (by omega) (by omega) (by omega) (by omega)
  by_cases hz : (unitsV e f a + unitsV e f b) = 0
  · rw [hz, od_zero]
    have e0 : shE 0 (unV e f) = 0 := by unfold shE; rw [if_pos rfl]
    rw [e0]; decide
  · unfold nfB at h1
    rw [beq_eq_false_iff_ne.2 hz, Bool.false_or] at h1
    have e1 : shE (unitsV e f a + unitsV e f b) (unV e f) = unV e f + tzV (unitsV e f a + unitsV e f b) := by unfold shE; rw [if_neg hz]
    rw [e1]; exact h1

theorem ra_rc {e f a b c : Int} (ha : finB e f a = true) (hb : finB e f b = true) (c0 : 0 ≤ c) (c1 : c ≤ 12) : fqB e f (odV (unitsV e f a + unitsV e f b)) (shE (unitsV e f a + unitsV e f b) (unV e f)) c = true ∧ rcB e f (odV (unitsV e f a + unitsV e f b)) (shE (unitsV e f a + unitsV e f b) (unV e f)) c = raO e f b c a := by
  have hg := (pat_iff.1 (fin_pat ha).1).1
  have hq : fqB e f (odV (unitsV e f a + unitsV e f b)) (shE (unitsV e f a + unitsV e f b) (unV e f)) c = true := fq_iff.2 ⟨⟨hg, ra_dy ha hb⟩, c0, c1⟩
  refine ⟨hq, ?_⟩
  unfold rcB raO
  rw [hq, Bool.true_and]

theorem ra_fin {e f a b c r : Int} (ha : finB e f a = true) (hb : finB e f b = true) (c0 : 0 ≤ c) (c1 : c ≤ 12) (ok : raO e f b c a = true) : finB e f (raS e f b c a r) = true := by
  obtain ⟨hq, hr⟩ := ra_rc ha hb c0 c1
  rw [ok] at hr
  obtain ⟨h0, ok2, i0, i1, b0, b1⟩ := rc_parts hr
  have X0 : 0 ≤ ((((odV (unitsV e f a + unitsV e f b))).natAbs : Int) * pw (((shE (unitsV e f a + unitsV e f b) (unV e f)) - unV e f) + 149)) := Int.mul_nonneg (by omega) (by have := pw_pos (((shE (unitsV e f a + unitsV e f b) (unV e f)) - unV e f) + 149); omega)
  obtain ⟨f0, f1, f2, f3⟩ := ch_facts i0 X0 b0 b1 ok2
  obtain ⟨l0, l1, _, _⟩ := lo_spec i0 X0
  have fl : ∀ s, 0 ≤ s → s ≤ grV e f → finB e f (sgP e f (odV (unitsV e f a + unitsV e f b)) s) = true := fun s q0 q1 => by
    rw [(fin_sgC (n := (odV (unitsV e f a + unitsV e f b))) i0 q0 (show s ≤ grV e f + 1 by omega)).2.2]
    exact decide_eq_true q1
  unfold raS rrV
  split
  · exact fl _ l0 l1
  · unfold upP
    split
    · rename_i hu
      exact fl _ (by omega) (f3 hu)
    · exact fl _ l0 l1

theorem raI_fin {e f b c a : Int} {V : Nat → Int} {k : Nat} (ha : finB e f a = true) (hb : finB e f b = true) (c0 : 0 ≤ c) (c1 : c ≤ 12) (h : raG e f b c a V k = true) : finB e f (raI e f b c a V k) = true := by
  induction k with
  | zero => exact ha
  | succ k ih =>
    obtain ⟨h1, h2⟩ := raG_succ.1 h
    exact ra_fin (ih h1) hb c0 c1 h2

/-- What RandomSum asks for. -/
def rqB2 (e f a b c : Int) (V : Nat → Int) (n : Nat) : Bool := (finB e f a && finB e f b) && (bitB c && (decide (n ≤ 100) && allR 0 (pw c - 1) V n))

theorem raNext (e f a b c r : Int) (ha : finB e f a = true) (hb : finB e f b = true) (c0 : 0 ≤ c) (c1 : c ≤ 12) (r0 : 0 ≤ r) (r1 : r ≤ pw c - 1) (ok : raO e f b c a = true) (w : World) :
    Calls Tryz.prog 50 #[fmt e f, two (odV (unitsV e f a + unitsV e f b)) (shE (unitsV e f a + unitsV e f b) (unV e f)), .int .i64 c, .int .i64 r] w fun rv w' => rv = .returned (.tuple #[.int .i64 (raS e f b c a r), .bool true]) ∧ Ext w w' := by
  obtain ⟨hq, hr⟩ := ra_rc ha hb c0 c1
  rw [ok] at hr
  exact rnRound_yes e f (odV (unitsV e f a + unitsV e f b)) (shE (unitsV e f a + unitsV e f b) (unV e f)) c r hr r0 r1 w

theorem raStop (e f a b c r : Int) (ha : finB e f a = true) (hb : finB e f b = true) (c0 : 0 ≤ c) (c1 : c ≤ 12) (ok : raO e f b c a = false) (w : World) :
    Calls Tryz.prog 50 #[fmt e f, two (odV (unitsV e f a + unitsV e f b)) (shE (unitsV e f a + unitsV e f b) (unV e f)), .int .i64 c, .int .i64 r] w fun rv w' => rv = .returned (.tuple #[.int .i64 0, .bool false]) ∧ Ext w w' :=
  rnRound_no e f (odV (unitsV e f a + unitsV e f b)) (shE (unitsV e f a + unitsV e f b) (unV e f)) c r (ra_rc ha hb c0 c1).1 ok w

set_option maxHeartbeats 3200000 in
theorem sRandomSum_ask (e f a b c : Int) (V : Nat → Int) (bb n : Nat) (hn : n ≤ 1048576) (hg : rqB2 e f a b c V n = false) (w : World) (h : w.rowIs bb 3 n (fun i => .int .i64 (V i))) : Calls Tryz.prog 9 #[fmt e f, .int .i64 a, .int .i64 b, .int .i64 c, .slice (some ⟨bb, 0, none⟩) n n] w fun rv w' => rv = .returned (.tuple #[.int .i64 0, .bool false]) ∧ Ext w w' := by
  have RB := Lib.hid (fun w => rnBoth_any e f a b w)
  have BC := Lib.hid (fun w => rnBits_any c w)
  cases h0 : (finB e f a && finB e f b)
  · rw [h0] at RB
    go_enter Tryz.func9, Tryz.ntmps9
    go_wp2_with (go_at_call 47; refine (RB.out _).mono ?_; rintro rv w1 ⟨rfl, hb⟩; have ns : w.heap.size < w1.heap.size := hb.lt (by first | with_reducible assumption | omega | (simp; done) | (simp; omega)); have n0 : w1.cell? ⟨w.heap.size, 0, none⟩ = some (.int .i64 e) := (hb.cells _ _ (by first | with_reducible assumption | omega | (simp; done) | (simp; omega))).trans (by first | with_reducible assumption | (simp; done) | (simp; with_reducible assumption) | (rw [cell_alloc_before _ _ _ _ (by omega)]; with_reducible assumption) | (simp [go_sem, *]; done)); have n1 : w1.cell? ⟨w.heap.size, 1, none⟩ = some (.int .i64 f) := (hb.cells _ _ (by first | with_reducible assumption | omega | (simp; done) | (simp; omega))).trans (by first | with_reducible assumption | (simp; done) | (simp; with_reducible assumption) | (rw [cell_alloc_before _ _ _ _ (by omega)]; with_reducible assumption) | (simp [go_sem, *]; done)); (first | (have nx := Ext.trans hx hb; clear hx) | (have nx := Ext.trans (hx.alloc _) hb; clear hx) | (have nx := Ext.trans hx.drew hb; clear hx) | have nx := hb); clear hb; try clear hs; try clear g0; try clear g1; have hx := nx; clear nx; have hs := ns; clear ns; have g0 := n0; clear n0; have g1 := n1; clear n1)
    go_ret2
    exact ⟨rfl, (by repeat (first | exact Ext.refl _ | with_reducible assumption | apply Ext.alloc | apply Ext.drew | apply Ext.drewN | (refine Ext.setRow ?_ (by first | (simp; done) | (simp; omega) | omega) _) | (refine Ext.setCell ?_ (by first | (simp; done) | (simp; omega) | omega) _) | (refine Ext.trans ?_ (by with_reducible assumption))))⟩
  · rw [h0] at RB
    cases h1 : bitB c
    · rw [h1] at BC
      go_enter Tryz.func9, Tryz.ntmps9
      go_wp2_with (first | (go_at_call 47; refine (RB.out _).mono ?_; rintro rv w1 ⟨rfl, hb⟩; have ns : w.heap.size < w1.heap.size := hb.lt (by first | with_reducible assumption | omega | (simp; done) | (simp; omega)); have n0 : w1.cell? ⟨w.heap.size, 0, none⟩ = some (.int .i64 e) := (hb.cells _ _ (by first | with_reducible assumption | omega | (simp; done) | (simp; omega))).trans (by first | with_reducible assumption | (simp; done) | (simp; with_reducible assumption) | (rw [cell_alloc_before _ _ _ _ (by omega)]; with_reducible assumption) | (simp [go_sem, *]; done)); have n1 : w1.cell? ⟨w.heap.size, 1, none⟩ = some (.int .i64 f) := (hb.cells _ _ (by first | with_reducible assumption | omega | (simp; done) | (simp; omega))).trans (by first | with_reducible assumption | (simp; done) | (simp; with_reducible assumption) | (rw [cell_alloc_before _ _ _ _ (by omega)]; with_reducible assumption) | (simp [go_sem, *]; done)); (first | (have nx := Ext.trans hx hb; clear hx) | (have nx := Ext.trans (hx.alloc _) hb; clear hx) | (have nx := Ext.trans hx.drew hb; clear hx) | have nx := hb); clear hb; try clear hs; try clear g0; try clear g1; have hx := nx; clear nx; have hs := ns; clear ns; have g0 := n0; clear n0; have g1 := n1; clear n1) | (go_at_call 48; refine (BC.out _).mono ?_; rintro rv w1 ⟨rfl, rfl⟩))
      go_ret2
      exact ⟨rfl, (by repeat (first | exact Ext.refl _ | with_reducible assumption | apply Ext.alloc | apply Ext.drew | apply Ext.drewN | (refine Ext.setRow ?_ (by first | (simp; done) | (simp; omega) | omega) _) | (refine Ext.setCell ?_ (by first | (simp; done) | (simp; omega) | omega) _) | (refine Ext.trans ?_ (by with_reducible assumption))))⟩
    · rw [h1] at BC
      obtain ⟨c0, c1⟩ := bit_iff.1 h1
      by_cases h2 : n ≤ 100
      · have h3 : allR 0 (pw c - 1) V n = false := by unfold rqB2 at hg; rwa [h0, h1, decide_eq_true h2, Bool.true_and, Bool.true_and, Bool.true_and] at hg
        have AL := Lib.hid (fun w hx => l1All_row 0 (pw c - 1) V bb n hn w (row_ext h hx))
        rw [h3] at AL
        have h4 : ¬ (100 : Int) < (n : Int) := by omega
        have kb := pw_of c
        have kb2 := pw_pos c
        have kb3 := pw_le 12 4096 rfl c1
        have kb4 : min c.toNat 64 = c.toNat := by omega
        have kb5 : IntKind.i64.wrap (pw c) = pw c := IntWalk.i64_in _ (by omega)
        have kb6 : IntKind.i64.wrap (pw c - 1) = pw c - 1 := IntWalk.i64_in _ (by omega)
        clear h2 h3 hg
        go_enter Tryz.func9, Tryz.ntmps9
        go_wp2_with (first | (go_at_call 47; refine (RB.out _).mono ?_; rintro rv w1 ⟨rfl, hb⟩; have ns : w.heap.size < w1.heap.size := hb.lt (by first | with_reducible assumption | omega | (simp; done) | (simp; omega)); have n0 : w1.cell? ⟨w.heap.size, 0, none⟩ = some (.int .i64 e) := (hb.cells _ _ (by first | with_reducible assumption | omega | (simp; done) | (simp; omega))).trans (by first | with_reducible assumption | (simp; done) | (simp; with_reducible assumption) | (rw [cell_alloc_before _ _ _ _ (by omega)]; with_reducible assumption) | (simp [go_sem, *]; done)); have n1 : w1.cell? ⟨w.heap.size, 1, none⟩ = some (.int .i64 f) := (hb.cells _ _ (by first | with_reducible assumption | omega | (simp; done) | (simp; omega))).trans (by first | with_reducible assumption | (simp; done) | (simp; with_reducible assumption) | (rw [cell_alloc_before _ _ _ _ (by omega)]; with_reducible assumption) | (simp [go_sem, *]; done)); (first | (have nx := Ext.trans hx hb; clear hx) | (have nx := Ext.trans (hx.alloc _) hb; clear hx) | (have nx := Ext.trans hx.drew hb; clear hx) | have nx := hb); clear hb; try clear hs; try clear g0; try clear g1; have hx := nx; clear nx; have hs := ns; clear ns; have g0 := n0; clear n0; have g1 := n1; clear n1) | (go_at_call 48; refine (BC.out _).mono ?_; rintro rv w1 ⟨rfl, rfl⟩) | (go_at_call 49; refine (AL.out _ (by repeat (first | exact Ext.refl _ | with_reducible assumption | apply Ext.alloc | apply Ext.drew | apply Ext.drewN | (refine Ext.setRow ?_ (by first | (simp; done) | (simp; omega) | omega) _) | (refine Ext.setCell ?_ (by first | (simp; done) | (simp; omega) | omega) _) | (refine Ext.trans ?_ (by with_reducible assumption))))).mono ?_; rintro rv w1 ⟨rfl, rfl⟩))
        go_ret2
        exact ⟨rfl, (by repeat (first | exact Ext.refl _ | with_reducible assumption | apply Ext.alloc | apply Ext.drew | apply Ext.drewN | (refine Ext.setRow ?_ (by first | (simp; done) | (simp; omega) | omega) _) | (refine Ext.setCell ?_ (by first | (simp; done) | (simp; omega) | omega) _) | (refine Ext.trans ?_ (by with_reducible assumption))))⟩
      · have h4 : (100 : Int) < (n : Int) := by omega
        go_enter Tryz.func9, Tryz.ntmps9
        go_wp2_with (first | (go_at_call 47; refine (RB.out _).mono ?_; rintro rv w1 ⟨rfl, hb⟩; have ns : w.heap.size < w1.heap.size := hb.lt (by first | with_reducible assumption | omega | (simp; done) | (simp; omega)); have n0 : w1.cell? ⟨w.heap.size, 0, none⟩ = some (.int .i64 e) := (hb.cells _ _ (by first | with_reducible assumption | omega | (simp; done) | (simp; omega))).trans (by first | with_reducible assumption | (simp; done) | (simp; with_reducible assumption) | (rw [cell_alloc_before _ _ _ _ (by omega)]; with_reducible assumption) | (simp [go_sem, *]; done)); have n1 : w1.cell? ⟨w.heap.size, 1, none⟩ = some (.int .i64 f) := (hb.cells _ _ (by first | with_reducible assumption | omega | (simp; done) | (simp; omega))).trans (by first | with_reducible assumption | (simp; done) | (simp; with_reducible assumption) | (rw [cell_alloc_before _ _ _ _ (by omega)]; with_reducible assumption) | (simp [go_sem, *]; done)); (first | (have nx := Ext.trans hx hb; clear hx) | (have nx := Ext.trans (hx.alloc _) hb; clear hx) | (have nx := Ext.trans hx.drew hb; clear hx) | have nx := hb); clear hb; try clear hs; try clear g0; try clear g1; have hx := nx; clear nx; have hs := ns; clear ns; have g0 := n0; clear n0; have g1 := n1; clear n1) | (go_at_call 48; refine (BC.out _).mono ?_; rintro rv w1 ⟨rfl, rfl⟩))
        go_ret2
        exact ⟨rfl, (by repeat (first | exact Ext.refl _ | with_reducible assumption | apply Ext.alloc | apply Ext.drew | apply Ext.drewN | (refine Ext.setRow ?_ (by first | (simp; done) | (simp; omega) | omega) _) | (refine Ext.setCell ?_ (by first | (simp; done) | (simp; omega) | omega) _) | (refine Ext.trans ?_ (by with_reducible assumption))))⟩

set_option maxHeartbeats 6400000 in
theorem sRandomSum_yes (e f a b c : Int) (V : Nat → Int) (bb n : Nat) (hg : rqB2 e f a b c V n = true) (ok : raG e f b c a V n = true) (w : World) (h : w.rowIs bb 3 n (fun i => .int .i64 (V i))) : Calls Tryz.prog 9 #[fmt e f, .int .i64 a, .int .i64 b, .int .i64 c, .slice (some ⟨bb, 0, none⟩) n n] w fun rv w' => rv = .returned (.tuple #[.int .i64 (raI e f b c a V n), .bool true]) ∧ Ext w w' := by
  unfold rqB2 at hg
  rw [Bool.and_eq_true, Bool.and_eq_true, Bool.and_eq_true, Bool.and_eq_true, decide_eq_true_eq] at hg
  obtain ⟨⟨ha, hb2⟩, hc, hn, hA⟩ := hg
  obtain ⟨c0, c1⟩ := bit_iff.1 hc
  have RB := Lib.hid (fun w => rnBoth_any e f a b w)
  rw [ha, hb2, Bool.true_and] at RB
  have BC := Lib.hid (fun w => rnBits_any c w)
  rw [hc] at BC
  have AL := Lib.hid (fun w hx => l1All_row 0 (pw c - 1) V bb n (by omega) w (row_ext h hx))
  rw [hA] at AL
  have h4 : ¬ (100 : Int) < (n : Int) := by omega
  have HF := Lib.hid (fun k h => raI_fin (V := V) (k := k) ha hb2 c0 c1 h)
  have HA := Lib.hid (fun k hk => allR_at hA k hk)
  have HB := Lib.hid hb2
  have OK := Lib.hid ok
  have HH := Lib.hid h
  have kb := pw_of c
  have kb2 := pw_pos c
  have kb3 := pw_le 12 4096 rfl c1
  have kb4 : min c.toNat 64 = c.toNat := by omega
  have kb5 : IntKind.i64.wrap (pw c) = pw c := IntWalk.i64_in _ (by omega)
  have kb6 : IntKind.i64.wrap (pw c - 1) = pw c - 1 := IntWalk.i64_in _ (by omega)
  clear ok ha hb2 hc hA h
  go_enter Tryz.func9, Tryz.ntmps9
  go_wp2_with (first | (go_at_call 47; refine (RB.out _).mono ?_; rintro rv w1 ⟨rfl, hb⟩; have ns : w.heap.size < w1.heap.size := hb.lt (by first | with_reducible assumption | omega | (simp; done) | (simp; omega)); have n0 : w1.cell? ⟨w.heap.size, 0, none⟩ = some (.int .i64 e) := (hb.cells _ _ (by first | with_reducible assumption | omega | (simp; done) | (simp; omega))).trans (by first | with_reducible assumption | (simp; done) | (simp; with_reducible assumption) | (rw [cell_alloc_before _ _ _ _ (by omega)]; with_reducible assumption) | (simp [go_sem, *]; done)); have n1 : w1.cell? ⟨w.heap.size, 1, none⟩ = some (.int .i64 f) := (hb.cells _ _ (by first | with_reducible assumption | omega | (simp; done) | (simp; omega))).trans (by first | with_reducible assumption | (simp; done) | (simp; with_reducible assumption) | (rw [cell_alloc_before _ _ _ _ (by omega)]; with_reducible assumption) | (simp [go_sem, *]; done)); (first | (have nx := Ext.trans hx hb; clear hx) | (have nx := Ext.trans (hx.alloc _) hb; clear hx) | (have nx := Ext.trans hx.drew hb; clear hx) | have nx := hb); clear hb; try clear hs; try clear g0; try clear g1; have hx := nx; clear nx; have hs := ns; clear ns; have g0 := n0; clear n0; have g1 := n1; clear n1) | (go_at_call 48; refine (BC.out _).mono ?_; rintro rv w1 ⟨rfl, rfl⟩) | (go_at_call 49; refine (AL.out _ (by repeat (first | exact Ext.refl _ | with_reducible assumption | apply Ext.alloc | apply Ext.drew | apply Ext.drewN | (refine Ext.setRow ?_ (by first | (simp; done) | (simp; omega) | omega) _) | (refine Ext.setCell ?_ (by first | (simp; done) | (simp; omega) | omega) _) | (refine Ext.trans ?_ (by with_reducible assumption))))).mono ?_; rintro rv w1 ⟨rfl, rfl⟩))
  go_loopw [12, 43] (fun x y wr => ∃ k : Nat, y = .int .i64 (k : Int) ∧ k ≤ n ∧ x = .int .i64 (raI e f b c a V k) ∧ raG e f b c a V k = true ∧ wr.cell? ⟨w.heap.size, 0, none⟩ = some (.int .i64 e) ∧ wr.cell? ⟨w.heap.size, 1, none⟩ = some (.int .i64 f) ∧ w.heap.size < wr.heap.size ∧ Ext w wr) (fun _ y _ => n - (intOf y).toNat)
  case atStart => exact ⟨0, rfl, by omega, rfl, rfl, by with_reducible assumption, by with_reducible assumption, by with_reducible assumption, (by repeat (first | exact Ext.refl _ | with_reducible assumption | apply Ext.alloc | apply Ext.drew | apply Ext.drewN | (refine Ext.setRow ?_ (by first | (simp; done) | (simp; omega) | omega) _) | (refine Ext.setCell ?_ (by first | (simp; done) | (simp; omega) | omega) _) | (refine Ext.trans ?_ (by with_reducible assumption))))⟩
  case round =>
    obtain ⟨k, rfl, hk, rfl, G1, g0, g1, hs, hx⟩ := hrel
    have HG := Lib.hid G1
    clear G1
    by_cases hlt : k < n
    · have FK := HF.out k HG.out
      obtain ⟨r0, r1⟩ := HA.out k hlt
      have RS := Lib.hid (fun w => rnSum_any e f (raI e f b c a V k) b FK HB.out w)
      have E1 : RowKit.Hid (raI e f b c a V (k + 1) = raS e f b c (raI e f b c a V k) (V k)) := Lib.hid rfl
      have h1 : ((k : Nat) : Int) < (n : Int) := by omega
      have h0 : (0 : Int) ≤ (k : Int) := by omega
      have h2 : ((k : Int)).toNat = k := by omega
      have u1 : IntKind.i64.wrap ((k : Int) + 1) = (k : Int) + 1 := IntWalk.i64_in _ (by omega)
      have ga : wr.cell? ⟨bb, k, none⟩ = some (.int .i64 (V k)) := (row_ext HH.out hx).cell hlt
      cases hO : raO e f b c (raI e f b c a V k)
      · exfalso
        have := (raG_succ.1 (raG_le (show k + 1 ≤ n by omega) OK.out)).2
        rw [hO] at this
        cases this
      · skip
        have E3 : RowKit.Hid (raG e f b c a V (k + 1) = true) := Lib.hid (raG_succ.2 ⟨HG.out, hO⟩)
        have RE := Lib.hid (fun w => raNext e f (raI e f b c a V k) b c (V k) FK HB.out c0 c1 r0 r1 hO w)
        clear hO FK r0 r1
        generalize raS e f b c (raI e f b c a V k) (V k) = R at *
        generalize odV (unitsV e f (raI e f b c a V k) + unitsV e f b) = on at *
        generalize shE (unitsV e f (raI e f b c a V k) + unitsV e f b) (unV e f) = sn at *
        generalize raI e f b c a V k = P at *
        generalize V k = vk at *
        go_wp2_with fail
        go_region_held3 (fun w' => w'.cell? ⟨w.heap.size, 0, none⟩ = some (.int .i64 e) ∧ w'.cell? ⟨w.heap.size, 1, none⟩ = some (.int .i64 f) ∧ w.heap.size < w'.heap.size) ((refine ⟨?_, ?_, ?_⟩ <;> first | with_reducible assumption | ((repeat first | rw [cell_set_far _ _ _ _ _ _ (by omega)] | rw [cell_alloc_before _ _ _ _ (by omega)] | rw [cell_alloc_drew _ _ _ _ (by omega)] | rw [cell_drew]); with_reducible assumption) | ((rw [cell_setRow_far _ _ _ _ _ (by omega)]); with_reducible assumption) | ((rw [setRow_size]); with_reducible assumption) | (simp; done) | (simp [World.setCell]; first | done | omega) | (simp [go_sem, World.cell?_alloc_past, World.cell?_setCell_far, *]; done))) ((first | (go_at_call 51; refine (RS.out _).mono ?_; rintro rv w1 ⟨rfl, hb⟩; have ns : w.heap.size < w1.heap.size := hb.lt (by first | with_reducible assumption | omega | (simp; done) | (simp; omega)); have n0 : w1.cell? ⟨w.heap.size, 0, none⟩ = some (.int .i64 e) := (hb.cells _ _ (by first | with_reducible assumption | omega | (simp; done) | (simp; omega))).trans (by first | with_reducible assumption | (simp; done) | (simp; with_reducible assumption) | (rw [cell_alloc_before _ _ _ _ (by omega)]; with_reducible assumption) | (simp [go_sem, *]; done)); have n1 : w1.cell? ⟨w.heap.size, 1, none⟩ = some (.int .i64 f) := (hb.cells _ _ (by first | with_reducible assumption | omega | (simp; done) | (simp; omega))).trans (by first | with_reducible assumption | (simp; done) | (simp; with_reducible assumption) | (rw [cell_alloc_before _ _ _ _ (by omega)]; with_reducible assumption) | (simp [go_sem, *]; done)); (first | (have nx := Ext.trans hx hb; clear hx) | (have nx := Ext.trans (hx.alloc _) hb; clear hx) | (have nx := Ext.trans hx.drew hb; clear hx) | have nx := hb); clear hb; try clear hs; try clear g0; try clear g1; have hx := nx; clear nx; have hs := ns; clear ns; have g0 := n0; clear n0; have g1 := n1; clear n1) | (go_at_call 50; refine (RE.out _).mono ?_; rintro rv w1 ⟨rfl, hb⟩; have ns : w.heap.size < w1.heap.size := hb.lt (by first | with_reducible assumption | omega | (simp; done) | (simp; omega)); have n0 : w1.cell? ⟨w.heap.size, 0, none⟩ = some (.int .i64 e) := (hb.cells _ _ (by first | with_reducible assumption | omega | (simp; done) | (simp; omega))).trans (by first | with_reducible assumption | (simp; done) | (simp; with_reducible assumption) | (rw [cell_alloc_before _ _ _ _ (by omega)]; with_reducible assumption) | (simp [go_sem, *]; done)); have n1 : w1.cell? ⟨w.heap.size, 1, none⟩ = some (.int .i64 f) := (hb.cells _ _ (by first | with_reducible assumption | omega | (simp; done) | (simp; omega))).trans (by first | with_reducible assumption | (simp; done) | (simp; with_reducible assumption) | (rw [cell_alloc_before _ _ _ _ (by omega)]; with_reducible assumption) | (simp [go_sem, *]; done)); (first | (have nx := Ext.trans hx hb; clear hx) | (have nx := Ext.trans (hx.alloc _) hb; clear hx) | (have nx := Ext.trans hx.drew hb; clear hx) | have nx := hb); clear hb; try clear hs; try clear g0; try clear g1; have hx := nx; clear nx; have hs := ns; clear ns; have g0 := n0; clear n0; have g1 := n1; clear n1)))
        go_wp2_with fail
        go_roundw
        all_goals first | (simp [intOf]; omega) | exact ⟨k + 1, by simp, by omega, by rw [E1.out], E3.out, by with_reducible assumption, by with_reducible assumption, by with_reducible assumption, (by repeat (first | exact Ext.refl _ | with_reducible assumption | apply Ext.alloc | apply Ext.drew | apply Ext.drewN | (refine Ext.setRow ?_ (by first | (simp; done) | (simp; omega) | omega) _) | (refine Ext.setCell ?_ (by first | (simp; done) | (simp; omega) | omega) _) | (refine Ext.trans ?_ (by with_reducible assumption))))⟩
    · have h1 : ¬ ((k : Nat) : Int) < (n : Int) := by omega
      have hkn : k = n := by omega
      subst hkn
      go_wp2_with fail
      go_ret2
      exact ⟨rfl, (by repeat (first | exact Ext.refl _ | with_reducible assumption | apply Ext.alloc | apply Ext.drew | apply Ext.drewN | (refine Ext.setRow ?_ (by first | (simp; done) | (simp; omega) | omega) _) | (refine Ext.setCell ?_ (by first | (simp; done) | (simp; omega) | omega) _) | (refine Ext.trans ?_ (by with_reducible assumption))))⟩

set_option maxHeartbeats 6400000 in
theorem sRandomSum_no (e f a b c : Int) (V : Nat → Int) (bb n : Nat) (hg : rqB2 e f a b c V n = true) (ok : raG e f b c a V n = false) (w : World) (h : w.rowIs bb 3 n (fun i => .int .i64 (V i))) : Calls Tryz.prog 9 #[fmt e f, .int .i64 a, .int .i64 b, .int .i64 c, .slice (some ⟨bb, 0, none⟩) n n] w fun rv w' => rv = .returned (.tuple #[.int .i64 0, .bool false]) ∧ Ext w w' := by
  unfold rqB2 at hg
  rw [Bool.and_eq_true, Bool.and_eq_true, Bool.and_eq_true, Bool.and_eq_true, decide_eq_true_eq] at hg
  obtain ⟨⟨ha, hb2⟩, hc, hn, hA⟩ := hg
  obtain ⟨c0, c1⟩ := bit_iff.1 hc
  have RB := Lib.hid (fun w => rnBoth_any e f a b w)
  rw [ha, hb2, Bool.true_and] at RB
  have BC := Lib.hid (fun w => rnBits_any c w)
  rw [hc] at BC
  have AL := Lib.hid (fun w hx => l1All_row 0 (pw c - 1) V bb n (by omega) w (row_ext h hx))
  rw [hA] at AL
  have h4 : ¬ (100 : Int) < (n : Int) := by omega
  have HF := Lib.hid (fun k h => raI_fin (V := V) (k := k) ha hb2 c0 c1 h)
  have HA := Lib.hid (fun k hk => allR_at hA k hk)
  have HB := Lib.hid hb2
  have OK := Lib.hid ok
  have HH := Lib.hid h
  have kb := pw_of c
  have kb2 := pw_pos c
  have kb3 := pw_le 12 4096 rfl c1
  have kb4 : min c.toNat 64 = c.toNat := by omega
  have kb5 : IntKind.i64.wrap (pw c) = pw c := IntWalk.i64_in _ (by omega)
  have kb6 : IntKind.i64.wrap (pw c - 1) = pw c - 1 := IntWalk.i64_in _ (by omega)
  clear ok ha hb2 hc hA h
  go_enter Tryz.func9, Tryz.ntmps9
  go_wp2_with (first | (go_at_call 47; refine (RB.out _).mono ?_; rintro rv w1 ⟨rfl, hb⟩; have ns : w.heap.size < w1.heap.size := hb.lt (by first | with_reducible assumption | omega | (simp; done) | (simp; omega)); have n0 : w1.cell? ⟨w.heap.size, 0, none⟩ = some (.int .i64 e) := (hb.cells _ _ (by first | with_reducible assumption | omega | (simp; done) | (simp; omega))).trans (by first | with_reducible assumption | (simp; done) | (simp; with_reducible assumption) | (rw [cell_alloc_before _ _ _ _ (by omega)]; with_reducible assumption) | (simp [go_sem, *]; done)); have n1 : w1.cell? ⟨w.heap.size, 1, none⟩ = some (.int .i64 f) := (hb.cells _ _ (by first | with_reducible assumption | omega | (simp; done) | (simp; omega))).trans (by first | with_reducible assumption | (simp; done) | (simp; with_reducible assumption) | (rw [cell_alloc_before _ _ _ _ (by omega)]; with_reducible assumption) | (simp [go_sem, *]; done)); (first | (have nx := Ext.trans hx hb; clear hx) | (have nx := Ext.trans (hx.alloc _) hb; clear hx) | (have nx := Ext.trans hx.drew hb; clear hx) | have nx := hb); clear hb; try clear hs; try clear g0; try clear g1; have hx := nx; clear nx; have hs := ns; clear ns; have g0 := n0; clear n0; have g1 := n1; clear n1) | (go_at_call 48; refine (BC.out _).mono ?_; rintro rv w1 ⟨rfl, rfl⟩) | (go_at_call 49; refine (AL.out _ (by repeat (first | exact Ext.refl _ | with_reducible assumption | apply Ext.alloc | apply Ext.drew | apply Ext.drewN | (refine Ext.setRow ?_ (by first | (simp; done) | (simp; omega) | omega) _) | (refine Ext.setCell ?_ (by first | (simp; done) | (simp; omega) | omega) _) | (refine Ext.trans ?_ (by with_reducible assumption))))).mono ?_; rintro rv w1 ⟨rfl, rfl⟩))
  go_loopw [12, 43] (fun x y wr => ∃ k : Nat, y = .int .i64 (k : Int) ∧ k ≤ n ∧ x = .int .i64 (raI e f b c a V k) ∧ raG e f b c a V k = true ∧ wr.cell? ⟨w.heap.size, 0, none⟩ = some (.int .i64 e) ∧ wr.cell? ⟨w.heap.size, 1, none⟩ = some (.int .i64 f) ∧ w.heap.size < wr.heap.size ∧ Ext w wr) (fun _ y _ => n - (intOf y).toNat)
  case atStart => exact ⟨0, rfl, by omega, rfl, rfl, by with_reducible assumption, by with_reducible assumption, by with_reducible assumption, (by repeat (first | exact Ext.refl _ | with_reducible assumption | apply Ext.alloc | apply Ext.drew | apply Ext.drewN | (refine Ext.setRow ?_ (by first | (simp; done) | (simp; omega) | omega) _) | (refine Ext.setCell ?_ (by first | (simp; done) | (simp; omega) | omega) _) | (refine Ext.trans ?_ (by with_reducible assumption))))⟩
  case round =>
    obtain ⟨k, rfl, hk, rfl, G1, g0, g1, hs, hx⟩ := hrel
    have HG := Lib.hid G1
    clear G1
    by_cases hlt : k < n
    · have FK := HF.out k HG.out
      obtain ⟨r0, r1⟩ := HA.out k hlt
      have RS := Lib.hid (fun w => rnSum_any e f (raI e f b c a V k) b FK HB.out w)
      have E1 : RowKit.Hid (raI e f b c a V (k + 1) = raS e f b c (raI e f b c a V k) (V k)) := Lib.hid rfl
      have h1 : ((k : Nat) : Int) < (n : Int) := by omega
      have h0 : (0 : Int) ≤ (k : Int) := by omega
      have h2 : ((k : Int)).toNat = k := by omega
      have u1 : IntKind.i64.wrap ((k : Int) + 1) = (k : Int) + 1 := IntWalk.i64_in _ (by omega)
      have ga : wr.cell? ⟨bb, k, none⟩ = some (.int .i64 (V k)) := (row_ext HH.out hx).cell hlt
      cases hO : raO e f b c (raI e f b c a V k)
      · skip
        have RE := Lib.hid (fun w => raStop e f (raI e f b c a V k) b c (V k) FK HB.out c0 c1 hO w)
        clear hO FK r0 r1 E1
        generalize odV (unitsV e f (raI e f b c a V k) + unitsV e f b) = on at *
        generalize shE (unitsV e f (raI e f b c a V k) + unitsV e f b) (unV e f) = sn at *
        generalize raI e f b c a V k = P at *
        generalize V k = vk at *
        go_wp2_with fail
        go_region_held3 (fun w' => w'.cell? ⟨w.heap.size, 0, none⟩ = some (.int .i64 e) ∧ w'.cell? ⟨w.heap.size, 1, none⟩ = some (.int .i64 f) ∧ w.heap.size < w'.heap.size) ((refine ⟨?_, ?_, ?_⟩ <;> first | with_reducible assumption | ((repeat first | rw [cell_set_far _ _ _ _ _ _ (by omega)] | rw [cell_alloc_before _ _ _ _ (by omega)] | rw [cell_alloc_drew _ _ _ _ (by omega)] | rw [cell_drew]); with_reducible assumption) | ((rw [cell_setRow_far _ _ _ _ _ (by omega)]); with_reducible assumption) | ((rw [setRow_size]); with_reducible assumption) | (simp; done) | (simp [World.setCell]; first | done | omega) | (simp [go_sem, World.cell?_alloc_past, World.cell?_setCell_far, *]; done))) ((first | (go_at_call 51; refine (RS.out _).mono ?_; rintro rv w1 ⟨rfl, hb⟩; have ns : w.heap.size < w1.heap.size := hb.lt (by first | with_reducible assumption | omega | (simp; done) | (simp; omega)); have n0 : w1.cell? ⟨w.heap.size, 0, none⟩ = some (.int .i64 e) := (hb.cells _ _ (by first | with_reducible assumption | omega | (simp; done) | (simp; omega))).trans (by first | with_reducible assumption | (simp; done) | (simp; with_reducible assumption) | (rw [cell_alloc_before _ _ _ _ (by omega)]; with_reducible assumption) | (simp [go_sem, *]; done)); have n1 : w1.cell? ⟨w.heap.size, 1, none⟩ = some (.int .i64 f) := (hb.cells _ _ (by first | with_reducible assumption | omega | (simp; done) | (simp; omega))).trans (by first | with_reducible assumption | (simp; done) | (simp; with_reducible assumption) | (rw [cell_alloc_before _ _ _ _ (by omega)]; with_reducible assumption) | (simp [go_sem, *]; done)); (first | (have nx := Ext.trans hx hb; clear hx) | (have nx := Ext.trans (hx.alloc _) hb; clear hx) | (have nx := Ext.trans hx.drew hb; clear hx) | have nx := hb); clear hb; try clear hs; try clear g0; try clear g1; have hx := nx; clear nx; have hs := ns; clear ns; have g0 := n0; clear n0; have g1 := n1; clear n1) | (go_at_call 50; refine (RE.out _).mono ?_; rintro rv w1 ⟨rfl, hb⟩; have ns : w.heap.size < w1.heap.size := hb.lt (by first | with_reducible assumption | omega | (simp; done) | (simp; omega)); have n0 : w1.cell? ⟨w.heap.size, 0, none⟩ = some (.int .i64 e) := (hb.cells _ _ (by first | with_reducible assumption | omega | (simp; done) | (simp; omega))).trans (by first | with_reducible assumption | (simp; done) | (simp; with_reducible assumption) | (rw [cell_alloc_before _ _ _ _ (by omega)]; with_reducible assumption) | (simp [go_sem, *]; done)); have n1 : w1.cell? ⟨w.heap.size, 1, none⟩ = some (.int .i64 f) := (hb.cells _ _ (by first | with_reducible assumption | omega | (simp; done) | (simp; omega))).trans (by first | with_reducible assumption | (simp; done) | (simp; with_reducible assumption) | (rw [cell_alloc_before _ _ _ _ (by omega)]; with_reducible assumption) | (simp [go_sem, *]; done)); (first | (have nx := Ext.trans hx hb; clear hx) | (have nx := Ext.trans (hx.alloc _) hb; clear hx) | (have nx := Ext.trans hx.drew hb; clear hx) | have nx := hb); clear hb; try clear hs; try clear g0; try clear g1; have hx := nx; clear nx; have hs := ns; clear ns; have g0 := n0; clear n0; have g1 := n1; clear n1)))
        go_wp2_with fail
        go_ret2
        exact ⟨rfl, (by repeat (first | exact Ext.refl _ | with_reducible assumption | apply Ext.alloc | apply Ext.drew | apply Ext.drewN | (refine Ext.setRow ?_ (by first | (simp; done) | (simp; omega) | omega) _) | (refine Ext.setCell ?_ (by first | (simp; done) | (simp; omega) | omega) _) | (refine Ext.trans ?_ (by with_reducible assumption))))⟩
      · skip
        have E3 : RowKit.Hid (raG e f b c a V (k + 1) = true) := Lib.hid (raG_succ.2 ⟨HG.out, hO⟩)
        have RE := Lib.hid (fun w => raNext e f (raI e f b c a V k) b c (V k) FK HB.out c0 c1 r0 r1 hO w)
        clear hO FK r0 r1
        generalize raS e f b c (raI e f b c a V k) (V k) = R at *
        generalize odV (unitsV e f (raI e f b c a V k) + unitsV e f b) = on at *
        generalize shE (unitsV e f (raI e f b c a V k) + unitsV e f b) (unV e f) = sn at *
        generalize raI e f b c a V k = P at *
        generalize V k = vk at *
        go_wp2_with fail
        go_region_held3 (fun w' => w'.cell? ⟨w.heap.size, 0, none⟩ = some (.int .i64 e) ∧ w'.cell? ⟨w.heap.size, 1, none⟩ = some (.int .i64 f) ∧ w.heap.size < w'.heap.size) ((refine ⟨?_, ?_, ?_⟩ <;> first | with_reducible assumption | ((repeat first | rw [cell_set_far _ _ _ _ _ _ (by omega)] | rw [cell_alloc_before _ _ _ _ (by omega)] | rw [cell_alloc_drew _ _ _ _ (by omega)] | rw [cell_drew]); with_reducible assumption) | ((rw [cell_setRow_far _ _ _ _ _ (by omega)]); with_reducible assumption) | ((rw [setRow_size]); with_reducible assumption) | (simp; done) | (simp [World.setCell]; first | done | omega) | (simp [go_sem, World.cell?_alloc_past, World.cell?_setCell_far, *]; done))) ((first | (go_at_call 51; refine (RS.out _).mono ?_; rintro rv w1 ⟨rfl, hb⟩; have ns : w.heap.size < w1.heap.size := hb.lt (by first | with_reducible assumption | omega | (simp; done) | (simp; omega)); have n0 : w1.cell? ⟨w.heap.size, 0, none⟩ = some (.int .i64 e) := (hb.cells _ _ (by first | with_reducible assumption | omega | (simp; done) | (simp; omega))).trans (by first | with_reducible assumption | (simp; done) | (simp; with_reducible assumption) | (rw [cell_alloc_before _ _ _ _ (by omega)]; with_reducible assumption) | (simp [go_sem, *]; done)); have n1 : w1.cell? ⟨w.heap.size, 1, none⟩ = some (.int .i64 f) := (hb.cells _ _ (by first | with_reducible assumption | omega | (simp; done) | (simp; omega))).trans (by first | with_reducible assumption | (simp; done) | (simp; with_reducible assumption) | (rw [cell_alloc_before _ _ _ _ (by omega)]; with_reducible assumption) | (simp [go_sem, *]; done)); (first | (have nx := Ext.trans hx hb; clear hx) | (have nx := Ext.trans (hx.alloc _) hb; clear hx) | (have nx := Ext.trans hx.drew hb; clear hx) | have nx := hb); clear hb; try clear hs; try clear g0; try clear g1; have hx := nx; clear nx; have hs := ns; clear ns; have g0 := n0; clear n0; have g1 := n1; clear n1) | (go_at_call 50; refine (RE.out _).mono ?_; rintro rv w1 ⟨rfl, hb⟩; have ns : w.heap.size < w1.heap.size := hb.lt (by first | with_reducible assumption | omega | (simp; done) | (simp; omega)); have n0 : w1.cell? ⟨w.heap.size, 0, none⟩ = some (.int .i64 e) := (hb.cells _ _ (by first | with_reducible assumption | omega | (simp; done) | (simp; omega))).trans (by first | with_reducible assumption | (simp; done) | (simp; with_reducible assumption) | (rw [cell_alloc_before _ _ _ _ (by omega)]; with_reducible assumption) | (simp [go_sem, *]; done)); have n1 : w1.cell? ⟨w.heap.size, 1, none⟩ = some (.int .i64 f) := (hb.cells _ _ (by first | with_reducible assumption | omega | (simp; done) | (simp; omega))).trans (by first | with_reducible assumption | (simp; done) | (simp; with_reducible assumption) | (rw [cell_alloc_before _ _ _ _ (by omega)]; with_reducible assumption) | (simp [go_sem, *]; done)); (first | (have nx := Ext.trans hx hb; clear hx) | (have nx := Ext.trans (hx.alloc _) hb; clear hx) | (have nx := Ext.trans hx.drew hb; clear hx) | have nx := hb); clear hb; try clear hs; try clear g0; try clear g1; have hx := nx; clear nx; have hs := ns; clear ns; have g0 := n0; clear n0; have g1 := n1; clear n1)))
        go_wp2_with fail
        go_roundw
        all_goals first | (simp [intOf]; omega) | exact ⟨k + 1, by simp, by omega, by rw [E1.out], E3.out, by with_reducible assumption, by with_reducible assumption, by with_reducible assumption, (by repeat (first | exact Ext.refl _ | with_reducible assumption | apply Ext.alloc | apply Ext.drew | apply Ext.drewN | (refine Ext.setRow ?_ (by first | (simp; done) | (simp; omega) | omega) _) | (refine Ext.setCell ?_ (by first | (simp; done) | (simp; omega) | omega) _) | (refine Ext.trans ?_ (by with_reducible assumption))))⟩
    · have h1 : ¬ ((k : Nat) : Int) < (n : Int) := by omega
      have hkn : k = n := by omega
      exfalso
      have h1 := HG.out
      rw [hkn, OK.out] at h1
      cases h1
end Go.Proofs.YtcpamgmaijjhoaaGreatDoor

