/-
  Contracts of the functions that the laws reach, and the plain facts that they rest on, each under the conditions that its line names; part 9.
-/
import Derived.Test.YtcpamgmaijjhoaaKbm1
import Derived.Test.YtcpamgmaijjhoaaKbm2
import Derived.Test.YtcpamgmaijjhoaaKbm3
import Derived.Test.YtcpamgmaijjhoaaKbm4
import Derived.Test.YtcpamgmaijjhoaaKbm5
import Derived.Test.YtcpamgmaijjhoaaKbm6
import Derived.Test.YtcpamgmaijjhoaaKbm7
import Derived.Test.YtcpamgmaijjhoaaKbm8
import Derived.Test.YtcpamgmaijjhoaaRows
import Derived.WalkKit
import Derived.LoopTactic
import Derived.LoopN
import Derived.Deep.OwnRows
import Derived.Deep.LoopGhost
import Derived.Laws.Bits64b
import Derived.WalkSpells
import Derived.WalkLawsBesides
import Derived.StillTactics
import Derived.Laws.Pointers
import Derived.Deep.RegionHeld3
import Derived.Deep.QuietTactic
import Derived.BigQuiet
import Derived.Outline
import Derived.Lib.Hide
import Derived.RowKit3
import Derived.Carry
import Derived.IntWalk
import Derived.Laws.OwnMore
import Derived.OwnWalk
import Derived.Deep.AppendLies
import Derived.Deep.DeepCutAuto
import Derived.Deep.CutBlock
import Derived.Lib.BitFns
import Derived.Lib.TrailingZeros
import Derived.Shelf.Small.Bits
import Derived.Shelf.Small.Wraps
import Derived.Shelf.Strconv.Itoa0
import Derived.Ground.Names2Prog
import Derived.Shelf.Slices.SearchI
import Derived.Test.YtcpamgmaijjhoaaProg
import Derived.Laws.FloatArith
import Derived.Laws.BitsAllLaws
import Ieee.Arith
import Derived.ScopeJumps
import Derived.WalkMore
namespace Go.Proofs.Ytcpamgmaijjhoaa
open Go Go.RowKit
set_option linter.unusedSimpArgs false
set_option linter.unusedVariables false
set_option maxRecDepth 100000

theorem set2_cells {w : World} {g : Nat} {a b x y : Value} (h0 : w.cell? ⟨g, 0, none⟩ = some a) (h1 : w.cell? ⟨g, 1, none⟩ = some b) :
    ((w.setCell ⟨g, 0, none⟩ x).setCell ⟨g, 1, none⟩ y).cell? ⟨g, 0, none⟩ = some x ∧ ((w.setCell ⟨g, 0, none⟩ x).setCell ⟨g, 1, none⟩ y).cell? ⟨g, 1, none⟩ = some y := by
  constructor <;> simp [go_sem, h0, h1]

theorem new2_cells (w : World) (x y : Value) (t : TypeId) : (w.alloc (.cells #[x, y] t)).cell? ⟨w.heap.size, 0, none⟩ = some x ∧ (w.alloc (.cells #[x, y] t)).cell? ⟨w.heap.size, 1, none⟩ = some y := by
  constructor <;> simp [go_sem]

set_option maxHeartbeats 12800000 in
theorem wMoveBlock (e f P : Int) (p : Option Addr) (n cap : Nat) (V : Nat → Int) (k0 : Int) (w : World) (hold : HoldsL w p n V) (hmx : n ≤ maxLen) : Calls Try.prog 7 #[fmt e f, blk P p n cap, .int .i64 k0] w fun rv w' => rv = .returned (.bool true) ∧ Ext w w' := by
  by_cases hn : n ≤ 1048576
  · have hn1 : ¬ (1048576 - (n : Int) < 0) := by omega
    have SA := Lib.hid (fun bb w h => sMoveBlock_all e f P k0 V bb n w h)
    have IA := Lib.hid (fun bb w h => iMoveBlock_all e f P k0 V bb n w h)
    have hm : (if mvB e f P k0 V n = true then n else 0) ≤ 1048576 := by split <;> omega
    have EQN := Lib.hid (fun p q c1 c2 w hp hq => eqBlock_own P p q n c1 c2 V hn w hp hq)
    have MKN := Lib.hid (fun p c w hp => markBlock_own P p n c V hn w hp)
    obtain ⟨B0, hB0⟩ : ∃ b : Bool, b = mvB e f P k0 V n := ⟨_, rfl⟩
    generalize (if mvB e f P k0 V n = true then P + k0 else 0) = R at *
    generalize (if mvB e f P k0 V n = true then n else 0) = m at *
    generalize mvB e f P k0 V n = B at *
    have HB := Lib.hid hB0
    clear hB0
    have EQM := Lib.hid (fun p q c1 c2 w hp hq => eqBlock_own R p q m c1 c2 V hm w hp hq)
    have MKM := Lib.hid (fun p c w hp => markBlock_own R p m c V hm w hp)
    have HLM := Lib.hid (fun p c w hp => heldBlock_own R p m c hm w hp)
    obtain ⟨M, hM, hM0⟩ : ∃ M : Int, M = 1 + (m : Int) ∧ ¬ M < 0 := ⟨_, rfl, by omega⟩
    obtain ⟨N, hN, hN0⟩ : ∃ N : Int, N = 1 + (n : Int) ∧ ¬ N < 0 := ⟨_, rfl, by omega⟩
    rw [← hM] at MKM HLM
    rw [← hN] at MKN
    clear hM hN hm
    go_enter Try.func7, Try.ntmps7
    go_wp2_with fail
    go_at_call 23
    refine (szBlock_ok _ _ _ _ hn _).mono ?_
    rintro rv w1 ⟨rfl, hb⟩
    have hb0 : Ext w w1 := Ext.trans (by repeat (first | (with_reducible exact Ext.refl _) | with_reducible assumption | (with_reducible apply Ext.alloc) | (with_reducible apply Ext.drew) | (with_reducible apply Ext.drewN) | (with_reducible refine Ext.setRow ?_ (by first | (simp; done) | (simp; omega) | omega) _) | (with_reducible refine Ext.setCell ?_ (by first | (simp; done) | (simp; omega) | omega) _) | (with_reducible refine Ext.trans ?_ (by with_reducible assumption)))) hb
    have z1 : w.heap.size ≤ w1.heap.size := hb0.size
    have x1 : Ext w w1 := hb0
    have u0_1 : w.heap.size < w1.heap.size := hb.lt (by first | (simp; done) | (simp; omega))
    have c0_0_1 : w1.cell? ⟨w.heap.size, 0, none⟩ = some (.int .i64 e) := (hb.cells _ _ (by first | (simp; done) | (simp; omega))).trans (by first | (simp; done) | (simp [go_sem]; done) | (simp [go_sem, *]; done))
    have c0_1_1 : w1.cell? ⟨w.heap.size, 1, none⟩ = some (.int .i64 f) := (hb.cells _ _ (by first | (simp; done) | (simp; omega))).trans (by first | (simp; done) | (simp [go_sem]; done) | (simp [go_sem, *]; done))
    have u1_1 : w.heap.size + 1 < w1.heap.size := hb.lt (by first | (simp; done) | (simp; omega))
    have c1_0_1 : w1.cell? ⟨w.heap.size + 1, 0, none⟩ = some (.int .i64 P) := (hb.cells _ _ (by first | (simp; done) | (simp; omega))).trans (by first | (simp; done) | (simp [go_sem]; done) | (simp [go_sem, *]; done))
    have c1_1_1 : w1.cell? ⟨w.heap.size + 1, 1, none⟩ = some (.slice p n cap) := (hb.cells _ _ (by first | (simp; done) | (simp; omega))).trans (by first | (simp; done) | (simp [go_sem]; done) | (simp [go_sem, *]; done))
    clear hb hb0
    go_wp2_with fail
    have k0x1 := u0_1
    have k1x1 := u1_1
    go_upto_region 5 with fail
    go_cut [8, 9] (fun sp sb wx => ∃ (gS : Nat) (pS : Option Addr) (cS : Nat), sp = .pointer (some ⟨gS, 0, none⟩) ∧ sb = .bool B0 ∧ Ext w1 wx ∧ wx.cell? ⟨gS, 0, none⟩ = some (.int .i64 R) ∧ wx.cell? ⟨gS, 1, none⟩ = some (.slice pS m cS) ∧ w1.heap.size ≤ gS ∧ gS < wx.heap.size ∧ OwnL wx pS m V ∧ Past pS m (w1.heap.size + 0) ∧ (0 < m → ∀ b, pS = some (⟨b, 0, none⟩ : Addr) → b ≠ gS))
    case first =>
      (try clear KX); (try clear PX); (try clear KG); (try clear PG2); (try clear KS); (try clear EQN); (try clear MKN); (try clear MKM); (try clear EQM); (try clear HLM); (try clear hM0); (try clear hN0)
      go_region_held3 (fun w' => w'.cell? ⟨w.heap.size, 0, none⟩ = some (.int .i64 e) ∧ w'.cell? ⟨w.heap.size, 1, none⟩ = some (.int .i64 f) ∧ w'.cell? ⟨w.heap.size + 1, 0, none⟩ = some (.int .i64 P) ∧ w'.cell? ⟨w.heap.size + 1, 1, none⟩ = some (.slice p n cap) ∧ w.heap.size + 1 < w'.heap.size) ((refine ⟨?_, ?_, ?_, ?_, ?_⟩ <;> first | with_reducible assumption | ((repeat first | rw [cell_set_far _ _ _ _ _ _ (by first | exact Nat.ne_of_lt (by with_reducible assumption) | exact Nat.ne_of_gt (by with_reducible assumption) | omega)] | rw [cell_alloc_drew _ _ _ _ (by first | with_reducible assumption | omega | (simp only [World.size_alloc, World.size_drew]; omega))] | rw [cell_alloc_before _ _ _ _ (by first | with_reducible assumption | omega | (simp only [World.size_alloc, World.size_drew]; omega))] | rw [cell_drew]); with_reducible assumption) | (simp; done) | (simp; with_reducible assumption) | (simp [World.setCell]; first | done | with_reducible assumption | omega))) ((first | (go_at_call 14; refine (toFormat_any e f _).mono ?_; rintro rv w2 ⟨rfl, hb⟩; (first | (have mk := mtz; have o0 := (hb.cells _ _ mtz).trans m0; have o1 := (hb.cells _ _ mtz).trans m1; have oz0 := (hb.frz _ _ mtz).trans mz0; have oz1 := (hb.frz _ _ mtz).trans mz1; have ot := hb.lt mtz; clear m0 m1 mz0 mz1 mtz; have m0 := o0; have m1 := o1; have mz0 := oz0; have mz1 := oz1; have mtz := ot; clear o0 o1 oz0 oz1 ot) | (with_reducible have q2 := Ext.new2 (u := .int .i64 0) (v := .slice none 0 0) hb; obtain ⟨m0, m1, mz0, mz1, mtz⟩ := q2; try simp only [World.size_alloc, World.size_drew, Nat.add_assoc, Nat.reduceAdd] at m0 m1 mz0 mz1 mtz) | (with_reducible have q2 := Ext.new2d (u := .int .i64 0) (v := .slice none 0 0) hb; obtain ⟨m0, m1, mz0, mz1, mtz⟩ := q2; try simp only [World.size_alloc, World.size_drew, Nat.add_assoc, Nat.reduceAdd] at m0 m1 mz0 mz1 mtz) | skip); have hb0 : Ext w1 w2 := Ext.trans (by repeat (first | (with_reducible exact Ext.refl _) | with_reducible assumption | (with_reducible apply Ext.alloc) | (with_reducible apply Ext.drew) | (with_reducible apply Ext.drewN) | (with_reducible refine Ext.setRow ?_ (by first | (simp; done) | (simp; omega) | omega) _) | (with_reducible refine Ext.setCell ?_ (by first | (simp; done) | (simp; omega) | omega) _) | (with_reducible refine Ext.trans ?_ (by with_reducible assumption)))) hb; have xx := hb0; have z2 : w1.heap.size ≤ w2.heap.size := hb0.size; have x2 : Ext w w2 := Ext.trans x1 hb0; have u0_2 : w.heap.size < w2.heap.size := hb0.lt u0_1; have c0_0_2 : w2.cell? ⟨w.heap.size, 0, none⟩ = some (.int .i64 e) := (hb0.cells _ _ u0_1).trans c0_0_1; have c0_1_2 : w2.cell? ⟨w.heap.size, 1, none⟩ = some (.int .i64 f) := (hb0.cells _ _ u0_1).trans c0_1_1; have u1_2 : w.heap.size + 1 < w2.heap.size := hb0.lt u1_1; have c1_0_2 : w2.cell? ⟨w.heap.size + 1, 0, none⟩ = some (.int .i64 P) := (hb0.cells _ _ u1_1).trans c1_0_1; have c1_1_2 : w2.cell? ⟨w.heap.size + 1, 1, none⟩ = some (.slice p n cap) := (hb0.cells _ _ u1_1).trans c1_1_1; clear x1 u0_1 u1_1 c0_0_1 c0_1_1 c1_0_1 c1_1_1; clear hb hb0) | (go_at_call 25; refine (toBlock_any P p n cap V hn _ (hold.ext (by repeat (first | (with_reducible exact Ext.refl _) | with_reducible assumption | (with_reducible apply Ext.alloc) | (with_reducible apply Ext.drew) | (with_reducible apply Ext.drewN) | (with_reducible refine Ext.setRow ?_ (by first | (simp; done) | (simp; omega) | omega) _) | (with_reducible refine Ext.setCell ?_ (by first | (simp; done) | (simp; omega) | omega) _) | (with_reducible refine Ext.trans ?_ (by with_reducible assumption)))))).mono ?_; rintro rv w3 ⟨t3, rfl, _, r3, hb⟩; (first | (have mk := mtz; have o0 := (hb.cells _ _ mtz).trans m0; have o1 := (hb.cells _ _ mtz).trans m1; have oz0 := (hb.frz _ _ mtz).trans mz0; have oz1 := (hb.frz _ _ mtz).trans mz1; have ot := hb.lt mtz; clear m0 m1 mz0 mz1 mtz; have m0 := o0; have m1 := o1; have mz0 := oz0; have mz1 := oz1; have mtz := ot; clear o0 o1 oz0 oz1 ot) | (with_reducible have q2 := Ext.new2 (u := .int .i64 0) (v := .slice none 0 0) hb; obtain ⟨m0, m1, mz0, mz1, mtz⟩ := q2; try simp only [World.size_alloc, World.size_drew, Nat.add_assoc, Nat.reduceAdd] at m0 m1 mz0 mz1 mtz) | (with_reducible have q2 := Ext.new2d (u := .int .i64 0) (v := .slice none 0 0) hb; obtain ⟨m0, m1, mz0, mz1, mtz⟩ := q2; try simp only [World.size_alloc, World.size_drew, Nat.add_assoc, Nat.reduceAdd] at m0 m1 mz0 mz1 mtz) | skip); have hb0 : Ext w2 w3 := Ext.trans (by repeat (first | (with_reducible exact Ext.refl _) | with_reducible assumption | (with_reducible apply Ext.alloc) | (with_reducible apply Ext.drew) | (with_reducible apply Ext.drewN) | (with_reducible refine Ext.setRow ?_ (by first | (simp; done) | (simp; omega) | omega) _) | (with_reducible refine Ext.setCell ?_ (by first | (simp; done) | (simp; omega) | omega) _) | (with_reducible refine Ext.trans ?_ (by with_reducible assumption)))) hb; have xy := Ext.trans xx hb0; clear xx; have xx := xy; clear xy; have z3 : w2.heap.size ≤ w3.heap.size := hb0.size; have x3 : Ext w w3 := Ext.trans x2 hb0; have u0_3 : w.heap.size < w3.heap.size := hb0.lt u0_2; have c0_0_3 : w3.cell? ⟨w.heap.size, 0, none⟩ = some (.int .i64 e) := (hb0.cells _ _ u0_2).trans c0_0_2; have c0_1_3 : w3.cell? ⟨w.heap.size, 1, none⟩ = some (.int .i64 f) := (hb0.cells _ _ u0_2).trans c0_1_2; have u1_3 : w.heap.size + 1 < w3.heap.size := hb0.lt u1_2; have c1_0_3 : w3.cell? ⟨w.heap.size + 1, 0, none⟩ = some (.int .i64 P) := (hb0.cells _ _ u1_2).trans c1_0_2; have c1_1_3 : w3.cell? ⟨w.heap.size + 1, 1, none⟩ = some (.slice p n cap) := (hb0.cells _ _ u1_2).trans c1_1_2; clear x2 u0_2 u1_2 c0_0_2 c0_1_2 c1_0_2 c1_1_2; clear hb hb0) | (go_at_call 24; refine (SA.out _ _ (row_ext r3 (by repeat (first | (with_reducible exact Ext.refl _) | with_reducible assumption | (with_reducible apply Ext.alloc) | (with_reducible apply Ext.drew) | (with_reducible apply Ext.drewN) | (with_reducible refine Ext.setRow ?_ (by first | (simp; done) | (simp; omega) | omega) _) | (with_reducible refine Ext.setCell ?_ (by first | (simp; done) | (simp; omega) | omega) _) | (with_reducible refine Ext.trans ?_ (by with_reducible assumption)))))).mono ?_; rintro rv w4 ⟨pS, cS, rfl, S4, PS4, hb⟩; (first | (have mk := mtz; have o0 := (hb.cells _ _ mtz).trans m0; have o1 := (hb.cells _ _ mtz).trans m1; have oz0 := (hb.frz _ _ mtz).trans mz0; have oz1 := (hb.frz _ _ mtz).trans mz1; have ot := hb.lt mtz; clear m0 m1 mz0 mz1 mtz; have m0 := o0; have m1 := o1; have mz0 := oz0; have mz1 := oz1; have mtz := ot; clear o0 o1 oz0 oz1 ot) | (with_reducible have q2 := Ext.new2 (u := .int .i64 0) (v := .slice none 0 0) hb; obtain ⟨m0, m1, mz0, mz1, mtz⟩ := q2; try simp only [World.size_alloc, World.size_drew, Nat.add_assoc, Nat.reduceAdd] at m0 m1 mz0 mz1 mtz) | (with_reducible have q2 := Ext.new2d (u := .int .i64 0) (v := .slice none 0 0) hb; obtain ⟨m0, m1, mz0, mz1, mtz⟩ := q2; try simp only [World.size_alloc, World.size_drew, Nat.add_assoc, Nat.reduceAdd] at m0 m1 mz0 mz1 mtz) | skip); have hb0 : Ext w3 w4 := Ext.trans (by repeat (first | (with_reducible exact Ext.refl _) | with_reducible assumption | (with_reducible apply Ext.alloc) | (with_reducible apply Ext.drew) | (with_reducible apply Ext.drewN) | (with_reducible refine Ext.setRow ?_ (by first | (simp; done) | (simp; omega) | omega) _) | (with_reducible refine Ext.setCell ?_ (by first | (simp; done) | (simp; omega) | omega) _) | (with_reducible refine Ext.trans ?_ (by with_reducible assumption)))) hb; have xy := Ext.trans xx hb0; clear xx; have xx := xy; clear xy; have z4 : w3.heap.size ≤ w4.heap.size := hb0.size; have x4 : Ext w w4 := Ext.trans x3 hb0; have u0_4 : w.heap.size < w4.heap.size := hb0.lt u0_3; have c0_0_4 : w4.cell? ⟨w.heap.size, 0, none⟩ = some (.int .i64 e) := (hb0.cells _ _ u0_3).trans c0_0_3; have c0_1_4 : w4.cell? ⟨w.heap.size, 1, none⟩ = some (.int .i64 f) := (hb0.cells _ _ u0_3).trans c0_1_3; have u1_4 : w.heap.size + 1 < w4.heap.size := hb0.lt u1_3; have c1_0_4 : w4.cell? ⟨w.heap.size + 1, 0, none⟩ = some (.int .i64 P) := (hb0.cells _ _ u1_3).trans c1_0_3; have c1_1_4 : w4.cell? ⟨w.heap.size + 1, 1, none⟩ = some (.slice p n cap) := (hb0.cells _ _ u1_3).trans c1_1_3; have r4 := row_ext r3 hb0; clear x3 u0_3 u1_3 c0_0_3 c0_1_3 c1_0_3 c1_1_3 r3; clear r4; clear hb hb0)))
      all_goals (go_wp2_with fail; go_meet; exact ⟨_, pS, cS, rfl, (by rw [HB.out]), (by repeat (first | exact xx | apply Ext.alloc | apply Ext.drew | (refine Ext.setRow ?_ (by first | (simp; done) | (simp; with_reducible assumption) | (simp; omega) | omega) _) | (refine Ext.setCell ?_ (by first | (simp; done) | (simp; with_reducible assumption) | (simp; omega) | omega) _))), (by first | exact (set2_cells m0 m1).1 | exact (new2_cells _ _ _ _).1 | (simp [go_sem]; done)), (by first | exact (set2_cells m0 m1).2 | exact (new2_cells _ _ _ _).2 | (simp [go_sem]; done)), (by first | with_reducible assumption | (simp; done) | (simp; with_reducible assumption) | (simp; omega) | omega | (simp; done) | (simp; omega) | (simp [World.setCell]; done) | (simp [World.setCell]; omega)), (by first | with_reducible assumption | (simp; done) | (simp; with_reducible assumption) | (simp; omega) | omega | (simp; done) | (simp; omega) | (simp [World.setCell]; done) | (simp [World.setCell]; omega)), (by first | exact own_far2 S4 PS4 (by first | with_reducible assumption | (simp; done) | (simp; with_reducible assumption) | (simp; omega) | omega | (simp; done) | (simp; omega) | (simp [World.setCell]; done) | (simp [World.setCell]; omega)) | exact S4.ext (by repeat (first | (with_reducible exact Ext.refl _) | with_reducible assumption | (with_reducible apply Ext.alloc) | (with_reducible apply Ext.drew) | (with_reducible apply Ext.drewN) | (with_reducible refine Ext.setRow ?_ (by first | (simp; done) | (simp; omega) | omega) _) | (with_reducible refine Ext.setCell ?_ (by first | (simp; done) | (simp; omega) | omega) _) | (with_reducible refine Ext.trans ?_ (by with_reducible assumption)))) | exact S4), PS4.le (by first | with_reducible assumption | (simp; done) | (simp; with_reducible assumption) | (simp; omega) | omega | (simp; done) | (simp; omega) | (simp [World.setCell]; done) | (simp [World.setCell]; omega)), (fun hn b hb2 => by have h1 := PS4 hn b hb2; have h2 := S4.lt hn hb2; (try simp only [World.size_alloc, World.size_drew] at h1); omega)⟩)
    case rest =>
      obtain ⟨gS, pS, cS, hsp, hsb, hb0, c2_0_2, c2_1_2, y2, u2_2, S2, PS, NS⟩ := hcut
      rw [HB.out] at hsb
      subst hsp
      subst hsb
      obtain ⟨w2, hwq⟩ : ∃ x, x = wc := ⟨_, rfl⟩
      subst hwq
      have z2 : w1.heap.size ≤ w2.heap.size := hb0.size
      have x2 : Ext w w2 := Ext.trans x1 hb0
      have u0_2 : w.heap.size < w2.heap.size := hb0.lt u0_1
      have c0_0_2 : w2.cell? ⟨w.heap.size, 0, none⟩ = some (.int .i64 e) := (hb0.cells _ _ u0_1).trans c0_0_1
      have c0_1_2 : w2.cell? ⟨w.heap.size, 1, none⟩ = some (.int .i64 f) := (hb0.cells _ _ u0_1).trans c0_1_1
      have u1_2 : w.heap.size + 1 < w2.heap.size := hb0.lt u1_1
      have c1_0_2 : w2.cell? ⟨w.heap.size + 1, 0, none⟩ = some (.int .i64 P) := (hb0.cells _ _ u1_1).trans c1_0_1
      have c1_1_2 : w2.cell? ⟨w.heap.size + 1, 1, none⟩ = some (.slice p n cap) := (hb0.cells _ _ u1_1).trans c1_1_1
      clear x1 u0_1 u1_1 c0_0_1 c0_1_1 c1_0_1 c1_1_1
      have QS1 := u1_2
      have QS2 := u2_2
      have KS : 0 < m → ∀ b, pS = some (⟨b, 0, none⟩ : Addr) → b < w2.heap.size := fun hn b hb => S2.lt hn hb
      clear hb0
      go_wp2_with fail
      go_at_call 25
      refine (toBlock_any P p n cap V hn _ (hold.ext (by repeat (first | (with_reducible exact Ext.refl _) | with_reducible assumption | (with_reducible apply Ext.alloc) | (with_reducible apply Ext.drew) | (with_reducible apply Ext.drewN) | (with_reducible refine Ext.setRow ?_ (by first | (simp; done) | (simp; omega) | omega) _) | (with_reducible refine Ext.setCell ?_ (by first | (simp; done) | (simp; omega) | omega) _) | (with_reducible refine Ext.trans ?_ (by with_reducible assumption)))))).mono ?_
      rintro rv w3 ⟨t4, rfl, q4, r3, hb⟩
      have hb0 : Ext w2 w3 := Ext.trans (by repeat (first | (with_reducible exact Ext.refl _) | with_reducible assumption | (with_reducible apply Ext.alloc) | (with_reducible apply Ext.drew) | (with_reducible apply Ext.drewN) | (with_reducible refine Ext.setRow ?_ (by first | (simp; done) | (simp; omega) | omega) _) | (with_reducible refine Ext.setCell ?_ (by first | (simp; done) | (simp; omega) | omega) _) | (with_reducible refine Ext.trans ?_ (by with_reducible assumption)))) hb
      have z3 : w2.heap.size ≤ w3.heap.size := hb0.size
      have x3 : Ext w w3 := Ext.trans x2 hb0
      have u0_3 : w.heap.size < w3.heap.size := hb0.lt u0_2
      have c0_0_3 : w3.cell? ⟨w.heap.size, 0, none⟩ = some (.int .i64 e) := (hb0.cells _ _ u0_2).trans c0_0_2
      have c0_1_3 : w3.cell? ⟨w.heap.size, 1, none⟩ = some (.int .i64 f) := (hb0.cells _ _ u0_2).trans c0_1_2
      have u1_3 : w.heap.size + 1 < w3.heap.size := hb0.lt u1_2
      have c1_0_3 : w3.cell? ⟨w.heap.size + 1, 0, none⟩ = some (.int .i64 P) := (hb0.cells _ _ u1_2).trans c1_0_2
      have c1_1_3 : w3.cell? ⟨w.heap.size + 1, 1, none⟩ = some (.slice p n cap) := (hb0.cells _ _ u1_2).trans c1_1_2
      have u2_3 : gS < w3.heap.size := hb0.lt u2_2
      have c2_0_3 : w3.cell? ⟨gS, 0, none⟩ = some (.int .i64 R) := (hb0.cells _ _ u2_2).trans c2_0_2
      have c2_1_3 : w3.cell? ⟨gS, 1, none⟩ = some (.slice pS m cS) := (hb0.cells _ _ u2_2).trans c2_1_2
      have S3 := S2.ext hb0
      clear x2 u0_2 u1_2 u2_2 c0_0_2 c0_1_2 c1_0_2 c1_1_2 c2_0_2 c2_1_2 S2
      have X3 := row_own r3
      have q4b : w2.heap.size ≤ t4 := by first | exact q4 | (simp at q4; omega)
      have q4c := r3.lt
      clear q4
      clear hb hb0
      go_wp2_with fail
      try clear PS
      try clear NS
      try clear k0x0
      try clear k0x1
      try clear k0x2
      try clear k0x3
      try clear k1x0
      try clear k1x1
      try clear k1x2
      try clear k1x3
      try clear k2x0
      try clear k2x1
      try clear k2x2
      try clear k2x3
      try clear k3x0
      try clear k3x1
      try clear k3x2
      try clear k3x3
      try clear k4x0
      try clear k4x1
      try clear k4x2
      try clear k4x3
      try clear k5x0
      try clear k5x1
      try clear k5x2
      try clear k5x3
      have k0x3 := u0_3
      have k1x3 := u1_3
      have k2x3 := u2_3
      go_upto_region 7 with fail
      go_cut [11, 12] (fun sp sb wx => ∃ (gG : Nat) (pG : Option Addr) (cG : Nat), sp = .pointer (some ⟨gG, 0, none⟩) ∧ sb = .bool B0 ∧ Ext w3 wx ∧ wx.cell? ⟨gG, 0, none⟩ = some (.int .i64 R) ∧ wx.cell? ⟨gG, 1, none⟩ = some (.slice pG m cG) ∧ wx.cell? ⟨w3.heap.size, 0, none⟩ = some (.int .i64 P) ∧ wx.cell? ⟨w3.heap.size, 1, none⟩ = some (.slice (some ⟨t4, 0, none⟩) n n) ∧ w3.heap.size < wx.heap.size ∧ w3.heap.size ≤ gG ∧ w3.heap.size < gG ∧ gG < wx.heap.size ∧ OwnL wx pG m V ∧ Past pG m (w3.heap.size + 1) ∧ (0 < m → ∀ b, pG = some (⟨b, 0, none⟩ : Addr) → b ≠ gG))
      case first =>
        clear u1_3
        clear c1_0_3
        clear c1_1_3
        clear u2_3
        clear c2_0_3
        clear c2_1_3
        clear S3
        clear X3
        (try clear KX); (try clear PX); (try clear KG); (try clear PG2); (try clear KS); (try clear EQN); (try clear MKN); (try clear MKM); (try clear EQM); (try clear HLM); (try clear hM0); (try clear hN0)
        go_region_held3 (fun w' => w'.cell? ⟨w.heap.size, 0, none⟩ = some (.int .i64 e) ∧ w'.cell? ⟨w.heap.size, 1, none⟩ = some (.int .i64 f) ∧ w'.cell? ⟨w3.heap.size, 0, none⟩ = some (.int .i64 P) ∧ w'.cell? ⟨w3.heap.size, 1, none⟩ = some (.slice (some ⟨t4, 0, none⟩) n n) ∧ w3.heap.size < w'.heap.size) ((refine ⟨?_, ?_, ?_, ?_, ?_⟩ <;> first | with_reducible assumption | ((repeat first | rw [cell_set_far _ _ _ _ _ _ (by first | exact Nat.ne_of_lt (by with_reducible assumption) | exact Nat.ne_of_gt (by with_reducible assumption) | omega)] | rw [cell_alloc_drew _ _ _ _ (by first | with_reducible assumption | omega | (simp only [World.size_alloc, World.size_drew]; omega))] | rw [cell_alloc_before _ _ _ _ (by first | with_reducible assumption | omega | (simp only [World.size_alloc, World.size_drew]; omega))] | rw [cell_drew]); with_reducible assumption) | (simp; done) | (simp; with_reducible assumption) | (simp [World.setCell]; first | done | with_reducible assumption | omega))) ((first | (go_at_call 14; refine (toFormat_any e f _).mono ?_; rintro rv w4 ⟨rfl, hb⟩; (first | (have mk := mtz; have o0 := (hb.cells _ _ mtz).trans m0; have o1 := (hb.cells _ _ mtz).trans m1; have oz0 := (hb.frz _ _ mtz).trans mz0; have oz1 := (hb.frz _ _ mtz).trans mz1; have ot := hb.lt mtz; clear m0 m1 mz0 mz1 mtz; have m0 := o0; have m1 := o1; have mz0 := oz0; have mz1 := oz1; have mtz := ot; clear o0 o1 oz0 oz1 ot) | (with_reducible have q2 := Ext.new2 (u := .int .i64 0) (v := .slice none 0 0) hb; obtain ⟨m0, m1, mz0, mz1, mtz⟩ := q2; try simp only [World.size_alloc, World.size_drew, Nat.add_assoc, Nat.reduceAdd] at m0 m1 mz0 mz1 mtz) | (with_reducible have q2 := Ext.new2d (u := .int .i64 0) (v := .slice none 0 0) hb; obtain ⟨m0, m1, mz0, mz1, mtz⟩ := q2; try simp only [World.size_alloc, World.size_drew, Nat.add_assoc, Nat.reduceAdd] at m0 m1 mz0 mz1 mtz) | skip); have hb0 : Ext w3 w4 := Ext.trans (by repeat (first | (with_reducible exact Ext.refl _) | with_reducible assumption | (with_reducible apply Ext.alloc) | (with_reducible apply Ext.drew) | (with_reducible apply Ext.drewN) | (with_reducible refine Ext.setRow ?_ (by first | (simp; done) | (simp; omega) | omega) _) | (with_reducible refine Ext.setCell ?_ (by first | (simp; done) | (simp; omega) | omega) _) | (with_reducible refine Ext.trans ?_ (by with_reducible assumption)))) hb; have xx := hb0; have z4 : w3.heap.size ≤ w4.heap.size := hb0.size; have x4 : Ext w w4 := Ext.trans x3 hb0; have u0_4 : w.heap.size < w4.heap.size := hb0.lt u0_3; have c0_0_4 : w4.cell? ⟨w.heap.size, 0, none⟩ = some (.int .i64 e) := (hb0.cells _ _ u0_3).trans c0_0_3; have c0_1_4 : w4.cell? ⟨w.heap.size, 1, none⟩ = some (.int .i64 f) := (hb0.cells _ _ u0_3).trans c0_1_3; have r4 := row_ext r3 hb0; clear x3 u0_3 c0_0_3 c0_1_3 r3; have u1_4 : w3.heap.size < w4.heap.size := hb.lt (by first | (simp; done) | (simp; omega)); have c1_0_4 : w4.cell? ⟨w3.heap.size, 0, none⟩ = some (.int .i64 P) := (hb.cells _ _ (by first | (simp; done) | (simp; omega))).trans (by first | (simp; done) | (simp [go_sem]; done) | (simp [go_sem, *]; done)); have c1_1_4 : w4.cell? ⟨w3.heap.size, 1, none⟩ = some (.slice (some ⟨t4, 0, none⟩) n n) := (hb.cells _ _ (by first | (simp; done) | (simp; omega))).trans (by first | (simp; done) | (simp [go_sem]; done) | (simp [go_sem, *]; done)); clear hb hb0; have kp0 := u1_4) | (go_at_call 26; refine (IA.out _ _ (row_ext r4 (by repeat (first | (with_reducible exact Ext.refl _) | with_reducible assumption | (with_reducible apply Ext.alloc) | (with_reducible apply Ext.drew) | (with_reducible apply Ext.drewN) | (with_reducible refine Ext.setRow ?_ (by first | (simp; done) | (simp; omega) | omega) _) | (with_reducible refine Ext.setCell ?_ (by first | (simp; done) | (simp; omega) | omega) _) | (with_reducible refine Ext.trans ?_ (by with_reducible assumption)))))).mono ?_; rintro rv w5 ⟨pG, cG, rfl, G5, PG5, hb⟩; (first | (have mk := mtz; have o0 := (hb.cells _ _ mtz).trans m0; have o1 := (hb.cells _ _ mtz).trans m1; have oz0 := (hb.frz _ _ mtz).trans mz0; have oz1 := (hb.frz _ _ mtz).trans mz1; have ot := hb.lt mtz; clear m0 m1 mz0 mz1 mtz; have m0 := o0; have m1 := o1; have mz0 := oz0; have mz1 := oz1; have mtz := ot; clear o0 o1 oz0 oz1 ot) | (with_reducible have q2 := Ext.new2 (u := .int .i64 0) (v := .slice none 0 0) hb; obtain ⟨m0, m1, mz0, mz1, mtz⟩ := q2; try simp only [World.size_alloc, World.size_drew, Nat.add_assoc, Nat.reduceAdd] at m0 m1 mz0 mz1 mtz) | (with_reducible have q2 := Ext.new2d (u := .int .i64 0) (v := .slice none 0 0) hb; obtain ⟨m0, m1, mz0, mz1, mtz⟩ := q2; try simp only [World.size_alloc, World.size_drew, Nat.add_assoc, Nat.reduceAdd] at m0 m1 mz0 mz1 mtz) | skip); have hb0 : Ext w4 w5 := Ext.trans (by repeat (first | (with_reducible exact Ext.refl _) | with_reducible assumption | (with_reducible apply Ext.alloc) | (with_reducible apply Ext.drew) | (with_reducible apply Ext.drewN) | (with_reducible refine Ext.setRow ?_ (by first | (simp; done) | (simp; omega) | omega) _) | (with_reducible refine Ext.setCell ?_ (by first | (simp; done) | (simp; omega) | omega) _) | (with_reducible refine Ext.trans ?_ (by with_reducible assumption)))) hb; have xy := Ext.trans xx hb0; clear xx; have xx := xy; clear xy; have z5 : w4.heap.size ≤ w5.heap.size := hb0.size; have x5 : Ext w w5 := Ext.trans x4 hb0; have u0_5 : w.heap.size < w5.heap.size := hb0.lt u0_4; have c0_0_5 : w5.cell? ⟨w.heap.size, 0, none⟩ = some (.int .i64 e) := (hb0.cells _ _ u0_4).trans c0_0_4; have c0_1_5 : w5.cell? ⟨w.heap.size, 1, none⟩ = some (.int .i64 f) := (hb0.cells _ _ u0_4).trans c0_1_4; have u1_5 : w3.heap.size < w5.heap.size := hb0.lt u1_4; have c1_0_5 : w5.cell? ⟨w3.heap.size, 0, none⟩ = some (.int .i64 P) := (hb0.cells _ _ u1_4).trans c1_0_4; have c1_1_5 : w5.cell? ⟨w3.heap.size, 1, none⟩ = some (.slice (some ⟨t4, 0, none⟩) n n) := (hb0.cells _ _ u1_4).trans c1_1_4; have r5 := row_ext r4 hb0; clear x4 u0_4 u1_4 c0_0_4 c0_1_4 c1_0_4 c1_1_4 r4; clear r5; clear hb hb0)))
        all_goals (go_wp2_with fail; go_meet; exact ⟨_, pG, cG, rfl, (by rw [HB.out]), (by repeat (first | exact xx | apply Ext.alloc | apply Ext.drew | (refine Ext.setRow ?_ (by first | (simp; done) | (simp; with_reducible assumption) | (simp; omega) | omega) _) | (refine Ext.setCell ?_ (by first | (simp; done) | (simp; with_reducible assumption) | (simp; omega) | omega) _))), (by first | exact (set2_cells m0 m1).1 | exact (new2_cells _ _ _ _).1 | (simp [go_sem]; done)), (by first | exact (set2_cells m0 m1).2 | exact (new2_cells _ _ _ _).2 | (simp [go_sem]; done)), (by first | with_reducible assumption | ((repeat first | rw [cell_set_far _ _ _ _ _ _ (by first | exact Nat.ne_of_lt (by with_reducible assumption) | exact Nat.ne_of_gt (by with_reducible assumption) | omega)] | rw [cell_alloc_drew _ _ _ _ (by first | with_reducible assumption | omega | (simp only [World.size_alloc, World.size_drew]; omega))] | rw [cell_alloc_before _ _ _ _ (by first | with_reducible assumption | omega | (simp only [World.size_alloc, World.size_drew]; omega))] | rw [cell_drew]); with_reducible assumption)), (by first | with_reducible assumption | ((repeat first | rw [cell_set_far _ _ _ _ _ _ (by first | exact Nat.ne_of_lt (by with_reducible assumption) | exact Nat.ne_of_gt (by with_reducible assumption) | omega)] | rw [cell_alloc_drew _ _ _ _ (by first | with_reducible assumption | omega | (simp only [World.size_alloc, World.size_drew]; omega))] | rw [cell_alloc_before _ _ _ _ (by first | with_reducible assumption | omega | (simp only [World.size_alloc, World.size_drew]; omega))] | rw [cell_drew]); with_reducible assumption)), (by first | with_reducible assumption | (simp; done) | (simp; with_reducible assumption) | (simp; omega) | omega | (simp; done) | (simp; omega) | (simp [World.setCell]; done) | (simp [World.setCell]; omega)), (by first | with_reducible assumption | (simp; done) | (simp; with_reducible assumption) | (simp; omega) | omega | (simp; done) | (simp; omega) | (simp [World.setCell]; done) | (simp [World.setCell]; omega)), (by first | with_reducible assumption | (simp; done) | (simp; with_reducible assumption) | (simp; omega) | omega | (simp; done) | (simp; omega) | (simp [World.setCell]; done) | (simp [World.setCell]; omega)), (by first | with_reducible assumption | (simp; done) | (simp; with_reducible assumption) | (simp; omega) | omega | (simp; done) | (simp; omega) | (simp [World.setCell]; done) | (simp [World.setCell]; omega)), (by first | exact own_far2 G5 PG5 (by first | with_reducible assumption | (simp; done) | (simp; with_reducible assumption) | (simp; omega) | omega | (simp; done) | (simp; omega) | (simp [World.setCell]; done) | (simp [World.setCell]; omega)) | exact G5.ext (by repeat (first | (with_reducible exact Ext.refl _) | with_reducible assumption | (with_reducible apply Ext.alloc) | (with_reducible apply Ext.drew) | (with_reducible apply Ext.drewN) | (with_reducible refine Ext.setRow ?_ (by first | (simp; done) | (simp; omega) | omega) _) | (with_reducible refine Ext.setCell ?_ (by first | (simp; done) | (simp; omega) | omega) _) | (with_reducible refine Ext.trans ?_ (by with_reducible assumption)))) | exact G5), PG5.le (by first | with_reducible assumption | (simp; done) | (simp; with_reducible assumption) | (simp; omega) | omega | (simp; done) | (simp; omega) | (simp [World.setCell]; done) | (simp [World.setCell]; omega)), (fun hn b hb2 => by have h1 := PG5 hn b hb2; have h2 := G5.lt hn hb2; (try simp only [World.size_alloc, World.size_drew] at h1); omega)⟩)
      case rest =>
        obtain ⟨gG, pG, cG, hsp, hsb, hb0, c4_0_4, c4_1_4, c3_0_4, c3_1_4, u3_4, y4, v4_0, u4_4, G4, PG, NG⟩ := hcut
        rw [HB.out] at hsb
        subst hsp
        subst hsb
        obtain ⟨w4, hwq⟩ : ∃ x, x = wc := ⟨_, rfl⟩
        subst hwq
        have z4 : w3.heap.size ≤ w4.heap.size := hb0.size
        have x4 : Ext w w4 := Ext.trans x3 hb0
        have u0_4 : w.heap.size < w4.heap.size := hb0.lt u0_3
        have c0_0_4 : w4.cell? ⟨w.heap.size, 0, none⟩ = some (.int .i64 e) := (hb0.cells _ _ u0_3).trans c0_0_3
        have c0_1_4 : w4.cell? ⟨w.heap.size, 1, none⟩ = some (.int .i64 f) := (hb0.cells _ _ u0_3).trans c0_1_3
        have u1_4 : w.heap.size + 1 < w4.heap.size := hb0.lt u1_3
        have c1_0_4 : w4.cell? ⟨w.heap.size + 1, 0, none⟩ = some (.int .i64 P) := (hb0.cells _ _ u1_3).trans c1_0_3
        have c1_1_4 : w4.cell? ⟨w.heap.size + 1, 1, none⟩ = some (.slice p n cap) := (hb0.cells _ _ u1_3).trans c1_1_3
        have u2_4 : gS < w4.heap.size := hb0.lt u2_3
        have c2_0_4 : w4.cell? ⟨gS, 0, none⟩ = some (.int .i64 R) := (hb0.cells _ _ u2_3).trans c2_0_3
        have c2_1_4 : w4.cell? ⟨gS, 1, none⟩ = some (.slice pS m cS) := (hb0.cells _ _ u2_3).trans c2_1_3
        have S4 := S3.ext hb0
        have X4 := X3.ext hb0
        have r4 := row_ext r3 hb0
        clear x3 u0_3 u1_3 u2_3 c0_0_3 c0_1_3 c1_0_3 c1_1_3 c2_0_3 c2_1_3 S3 X3 r3
        have KX : 0 < n → ∀ b, (some (⟨t4, 0, none⟩ : Addr)) = some ⟨b, 0, none⟩ → w2.heap.size ≤ b ∧ b < w3.heap.size := fun hn b hb => (by cases hb; omega)
        have PX : Past (some (⟨t4, 0, none⟩ : Addr)) n w.heap.size := fun hn b hb => (by have := KX hn b hb; omega)
        have KG : 0 < m → ∀ b, pG = some (⟨b, 0, none⟩ : Addr) → w3.heap.size ≤ b ∧ w3.heap.size < b ∧ b ≠ gG ∧ b < w4.heap.size := fun hn b hb => ⟨by have := PG hn b hb; omega, by have := PG hn b hb; omega, NG hn b hb, G4.lt hn hb⟩
        have PG2 : Past pG m w.heap.size := PG.le (by omega)
        clear hb0
        go_wp2_with fail
        go_at_call 27
        refine (EQM.out _ _ _ _ _ (G4.ext (by repeat (first | (with_reducible exact Ext.refl _) | with_reducible assumption | (with_reducible apply Ext.alloc) | (with_reducible apply Ext.drew) | (with_reducible apply Ext.drewN) | (with_reducible refine Ext.setRow ?_ (by first | (simp; done) | (simp; omega) | omega) _) | (with_reducible refine Ext.setCell ?_ (by first | (simp; done) | (simp; omega) | omega) _) | (with_reducible refine Ext.trans ?_ (by with_reducible assumption))))) (S4.ext (by repeat (first | (with_reducible exact Ext.refl _) | with_reducible assumption | (with_reducible apply Ext.alloc) | (with_reducible apply Ext.drew) | (with_reducible apply Ext.drewN) | (with_reducible refine Ext.setRow ?_ (by first | (simp; done) | (simp; omega) | omega) _) | (with_reducible refine Ext.setCell ?_ (by first | (simp; done) | (simp; omega) | omega) _) | (with_reducible refine Ext.trans ?_ (by with_reducible assumption)))))).mono ?_
        rintro rv w5 ⟨rfl, hb⟩
        have hb0 : Ext w4 w5 := Ext.trans (by repeat (first | (with_reducible exact Ext.refl _) | with_reducible assumption | (with_reducible apply Ext.alloc) | (with_reducible apply Ext.drew) | (with_reducible apply Ext.drewN) | (with_reducible refine Ext.setRow ?_ (by first | (simp; done) | (simp; omega) | omega) _) | (with_reducible refine Ext.setCell ?_ (by first | (simp; done) | (simp; omega) | omega) _) | (with_reducible refine Ext.trans ?_ (by with_reducible assumption)))) hb
        have z5 : w4.heap.size ≤ w5.heap.size := hb0.size
        have x5 : Ext w w5 := Ext.trans x4 hb0
        have u0_5 : w.heap.size < w5.heap.size := hb0.lt u0_4
        have c0_0_5 : w5.cell? ⟨w.heap.size, 0, none⟩ = some (.int .i64 e) := (hb0.cells _ _ u0_4).trans c0_0_4
        have c0_1_5 : w5.cell? ⟨w.heap.size, 1, none⟩ = some (.int .i64 f) := (hb0.cells _ _ u0_4).trans c0_1_4
        have u1_5 : w.heap.size + 1 < w5.heap.size := hb0.lt u1_4
        have c1_0_5 : w5.cell? ⟨w.heap.size + 1, 0, none⟩ = some (.int .i64 P) := (hb0.cells _ _ u1_4).trans c1_0_4
        have c1_1_5 : w5.cell? ⟨w.heap.size + 1, 1, none⟩ = some (.slice p n cap) := (hb0.cells _ _ u1_4).trans c1_1_4
        have u2_5 : gS < w5.heap.size := hb0.lt u2_4
        have c2_0_5 : w5.cell? ⟨gS, 0, none⟩ = some (.int .i64 R) := (hb0.cells _ _ u2_4).trans c2_0_4
        have c2_1_5 : w5.cell? ⟨gS, 1, none⟩ = some (.slice pS m cS) := (hb0.cells _ _ u2_4).trans c2_1_4
        have u3_5 : w3.heap.size < w5.heap.size := hb0.lt u3_4
        have c3_0_5 : w5.cell? ⟨w3.heap.size, 0, none⟩ = some (.int .i64 P) := (hb0.cells _ _ u3_4).trans c3_0_4
        have c3_1_5 : w5.cell? ⟨w3.heap.size, 1, none⟩ = some (.slice (some ⟨t4, 0, none⟩) n n) := (hb0.cells _ _ u3_4).trans c3_1_4
        have u4_5 : gG < w5.heap.size := hb0.lt u4_4
        have c4_0_5 : w5.cell? ⟨gG, 0, none⟩ = some (.int .i64 R) := (hb0.cells _ _ u4_4).trans c4_0_4
        have c4_1_5 : w5.cell? ⟨gG, 1, none⟩ = some (.slice pG m cG) := (hb0.cells _ _ u4_4).trans c4_1_4
        have S5 := S4.ext hb0
        have X5 := X4.ext hb0
        have G5 := G4.ext hb0
        clear x4 u0_4 u1_4 u2_4 u3_4 u4_4 c0_0_4 c0_1_4 c1_0_4 c1_1_4 c2_0_4 c2_1_4 c3_0_4 c3_1_4 c4_0_4 c4_1_4 S4 X4 G4
        clear hb hb0
        go_wp2_with fail
        go_region_held3 (fun w' => w'.cell? ⟨w.heap.size, 0, none⟩ = some (.int .i64 e) ∧ w'.cell? ⟨w.heap.size, 1, none⟩ = some (.int .i64 f) ∧ w'.cell? ⟨w.heap.size + 1, 0, none⟩ = some (.int .i64 P) ∧ w'.cell? ⟨w.heap.size + 1, 1, none⟩ = some (.slice p n cap) ∧ w'.cell? ⟨gS, 0, none⟩ = some (.int .i64 R) ∧ w'.cell? ⟨gS, 1, none⟩ = some (.slice pS m cS) ∧ w'.cell? ⟨w3.heap.size, 0, none⟩ = some (.int .i64 P) ∧ w'.cell? ⟨w3.heap.size, 1, none⟩ = some (.slice (some ⟨t4, 0, none⟩) n n) ∧ w'.cell? ⟨gG, 0, none⟩ = some (.int .i64 R) ∧ w'.cell? ⟨gG, 1, none⟩ = some (.slice pG m cG) ∧ gG < w'.heap.size) ((refine ⟨?_, ?_, ?_, ?_, ?_, ?_, ?_, ?_, ?_, ?_, ?_⟩ <;> first | with_reducible assumption | ((repeat first | rw [cell_set_far _ _ _ _ _ _ (by omega)] | rw [cell_alloc_before _ _ _ _ (by omega)] | rw [cell_alloc_drew _ _ _ _ (by omega)] | rw [cell_drew]); with_reducible assumption) | ((rw [cell_setRow_far _ _ _ _ _ (by omega)]); with_reducible assumption) | ((rw [setRow_size]); with_reducible assumption) | (simp; done) | (simp [World.setCell]; first | done | omega) | (simp [go_sem, World.cell?_alloc_past, World.cell?_setCell_far, *]; done))) ((first | (go_at_call 25; refine (toBlock_any P p n cap V hn _ (hold.ext (by repeat (first | (with_reducible exact Ext.refl _) | with_reducible assumption | (with_reducible apply Ext.alloc) | (with_reducible apply Ext.drew) | (with_reducible apply Ext.drewN) | (with_reducible refine Ext.setRow ?_ (by first | (simp; done) | (simp; omega) | omega) _) | (with_reducible refine Ext.setCell ?_ (by first | (simp; done) | (simp; omega) | omega) _) | (with_reducible refine Ext.trans ?_ (by with_reducible assumption)))))).mono ?_; rintro rv w6 ⟨t6, rfl, _, r6, hb⟩; have hb0 : Ext w5 w6 := Ext.trans (by repeat (first | (with_reducible exact Ext.refl _) | with_reducible assumption | (with_reducible apply Ext.alloc) | (with_reducible apply Ext.drew) | (with_reducible apply Ext.drewN) | (with_reducible refine Ext.setRow ?_ (by first | (simp; done) | (simp; omega) | omega) _) | (with_reducible refine Ext.setCell ?_ (by first | (simp; done) | (simp; omega) | omega) _) | (with_reducible refine Ext.trans ?_ (by with_reducible assumption)))) hb; have z6 : w5.heap.size ≤ w6.heap.size := hb0.size; have x6 : Ext w w6 := Ext.trans x5 hb0; have u0_6 : w.heap.size < w6.heap.size := hb0.lt u0_5; have c0_0_6 : w6.cell? ⟨w.heap.size, 0, none⟩ = some (.int .i64 e) := (hb0.cells _ _ u0_5).trans c0_0_5; have c0_1_6 : w6.cell? ⟨w.heap.size, 1, none⟩ = some (.int .i64 f) := (hb0.cells _ _ u0_5).trans c0_1_5; have u1_6 : w.heap.size + 1 < w6.heap.size := hb0.lt u1_5; have c1_0_6 : w6.cell? ⟨w.heap.size + 1, 0, none⟩ = some (.int .i64 P) := (hb0.cells _ _ u1_5).trans c1_0_5; have c1_1_6 : w6.cell? ⟨w.heap.size + 1, 1, none⟩ = some (.slice p n cap) := (hb0.cells _ _ u1_5).trans c1_1_5; have u2_6 : gS < w6.heap.size := hb0.lt u2_5; have c2_0_6 : w6.cell? ⟨gS, 0, none⟩ = some (.int .i64 R) := (hb0.cells _ _ u2_5).trans c2_0_5; have c2_1_6 : w6.cell? ⟨gS, 1, none⟩ = some (.slice pS m cS) := (hb0.cells _ _ u2_5).trans c2_1_5; have u3_6 : w3.heap.size < w6.heap.size := hb0.lt u3_5; have c3_0_6 : w6.cell? ⟨w3.heap.size, 0, none⟩ = some (.int .i64 P) := (hb0.cells _ _ u3_5).trans c3_0_5; have c3_1_6 : w6.cell? ⟨w3.heap.size, 1, none⟩ = some (.slice (some ⟨t4, 0, none⟩) n n) := (hb0.cells _ _ u3_5).trans c3_1_5; have u4_6 : gG < w6.heap.size := hb0.lt u4_5; have c4_0_6 : w6.cell? ⟨gG, 0, none⟩ = some (.int .i64 R) := (hb0.cells _ _ u4_5).trans c4_0_5; have c4_1_6 : w6.cell? ⟨gG, 1, none⟩ = some (.slice pG m cG) := (hb0.cells _ _ u4_5).trans c4_1_5; have S6 := S5.ext hb0; have X6 := X5.ext hb0; have G6 := G5.ext hb0; clear x5 u0_5 u1_5 u2_5 u3_5 u4_5 c0_0_5 c0_1_5 c1_0_5 c1_1_5 c2_0_5 c2_1_5 c3_0_5 c3_1_5 c4_0_5 c4_1_5 S5 X5 G5; clear hb hb0) | (go_at_call 27; refine (EQN.out _ _ _ _ _ (X6.ext (by repeat (first | (with_reducible exact Ext.refl _) | with_reducible assumption | (with_reducible apply Ext.alloc) | (with_reducible apply Ext.drew) | (with_reducible apply Ext.drewN) | (with_reducible refine Ext.setRow ?_ (by first | (simp; done) | (simp; omega) | omega) _) | (with_reducible refine Ext.setCell ?_ (by first | (simp; done) | (simp; omega) | omega) _) | (with_reducible refine Ext.trans ?_ (by with_reducible assumption))))) ((row_own r6).ext (by repeat (first | (with_reducible exact Ext.refl _) | with_reducible assumption | (with_reducible apply Ext.alloc) | (with_reducible apply Ext.drew) | (with_reducible apply Ext.drewN) | (with_reducible refine Ext.setRow ?_ (by first | (simp; done) | (simp; omega) | omega) _) | (with_reducible refine Ext.setCell ?_ (by first | (simp; done) | (simp; omega) | omega) _) | (with_reducible refine Ext.trans ?_ (by with_reducible assumption)))))).mono ?_; rintro rv w7 ⟨rfl, hb⟩; have hb0 : Ext w6 w7 := Ext.trans (by repeat (first | (with_reducible exact Ext.refl _) | with_reducible assumption | (with_reducible apply Ext.alloc) | (with_reducible apply Ext.drew) | (with_reducible apply Ext.drewN) | (with_reducible refine Ext.setRow ?_ (by first | (simp; done) | (simp; omega) | omega) _) | (with_reducible refine Ext.setCell ?_ (by first | (simp; done) | (simp; omega) | omega) _) | (with_reducible refine Ext.trans ?_ (by with_reducible assumption)))) hb; have z7 : w6.heap.size ≤ w7.heap.size := hb0.size; have x7 : Ext w w7 := Ext.trans x6 hb0; have u0_7 : w.heap.size < w7.heap.size := hb0.lt u0_6; have c0_0_7 : w7.cell? ⟨w.heap.size, 0, none⟩ = some (.int .i64 e) := (hb0.cells _ _ u0_6).trans c0_0_6; have c0_1_7 : w7.cell? ⟨w.heap.size, 1, none⟩ = some (.int .i64 f) := (hb0.cells _ _ u0_6).trans c0_1_6; have u1_7 : w.heap.size + 1 < w7.heap.size := hb0.lt u1_6; have c1_0_7 : w7.cell? ⟨w.heap.size + 1, 0, none⟩ = some (.int .i64 P) := (hb0.cells _ _ u1_6).trans c1_0_6; have c1_1_7 : w7.cell? ⟨w.heap.size + 1, 1, none⟩ = some (.slice p n cap) := (hb0.cells _ _ u1_6).trans c1_1_6; have u2_7 : gS < w7.heap.size := hb0.lt u2_6; have c2_0_7 : w7.cell? ⟨gS, 0, none⟩ = some (.int .i64 R) := (hb0.cells _ _ u2_6).trans c2_0_6; have c2_1_7 : w7.cell? ⟨gS, 1, none⟩ = some (.slice pS m cS) := (hb0.cells _ _ u2_6).trans c2_1_6; have u3_7 : w3.heap.size < w7.heap.size := hb0.lt u3_6; have c3_0_7 : w7.cell? ⟨w3.heap.size, 0, none⟩ = some (.int .i64 P) := (hb0.cells _ _ u3_6).trans c3_0_6; have c3_1_7 : w7.cell? ⟨w3.heap.size, 1, none⟩ = some (.slice (some ⟨t4, 0, none⟩) n n) := (hb0.cells _ _ u3_6).trans c3_1_6; have u4_7 : gG < w7.heap.size := hb0.lt u4_6; have c4_0_7 : w7.cell? ⟨gG, 0, none⟩ = some (.int .i64 R) := (hb0.cells _ _ u4_6).trans c4_0_6; have c4_1_7 : w7.cell? ⟨gG, 1, none⟩ = some (.slice pG m cG) := (hb0.cells _ _ u4_6).trans c4_1_6; have S7 := S6.ext hb0; have X7 := X6.ext hb0; have G7 := G6.ext hb0; have r7 := row_ext r6 hb0; clear x6 u0_6 u1_6 u2_6 u3_6 u4_6 c0_0_6 c0_1_6 c1_0_6 c1_1_6 c2_0_6 c2_1_6 c3_0_6 c3_1_6 c4_0_6 c4_1_6 S6 X6 G6 r6; clear r7; clear hb hb0)))
        go_wp2_with fail
        go_at_call 28
        refine (MKN.out _ _ _ X7).mono ?_
        rintro rv w8 ⟨rfl, hm0⟩
        have hm := hm0
        clear hm0
        have z8 : w7.heap.size ≤ w8.heap.size := hm.size
        have x8 : Ext w w8 := markB_ext x7 hm PX
        have u0_8 : w.heap.size < w8.heap.size := by omega
        have f0_8 : w8.heap[w.heap.size]? = w7.heap[w.heap.size]? := hm.far _ u0_7 (fun hn b hb2 => by have hbb := KX hn b hb2; omega)
        have c0_0_8 : w8.cell? ⟨w.heap.size, 0, none⟩ = some (.int .i64 e) := (World.cell?_of_block f0_8).trans c0_0_7
        have c0_1_8 : w8.cell? ⟨w.heap.size, 1, none⟩ = some (.int .i64 f) := (World.cell?_of_block f0_8).trans c0_1_7
        have u1_8 : w.heap.size + 1 < w8.heap.size := by omega
        have f1_8 : w8.heap[w.heap.size + 1]? = w7.heap[w.heap.size + 1]? := hm.far _ u1_7 (fun hn b hb2 => by have hbb := KX hn b hb2; omega)
        have c1_0_8 : w8.cell? ⟨w.heap.size + 1, 0, none⟩ = some (.int .i64 P) := (World.cell?_of_block f1_8).trans c1_0_7
        have c1_1_8 : w8.cell? ⟨w.heap.size + 1, 1, none⟩ = some (.slice p n cap) := (World.cell?_of_block f1_8).trans c1_1_7
        have u2_8 : gS < w8.heap.size := by omega
        have f2_8 : w8.heap[gS]? = w7.heap[gS]? := hm.far _ u2_7 (fun hn b hb2 => by have hbb := KX hn b hb2; omega)
        have c2_0_8 : w8.cell? ⟨gS, 0, none⟩ = some (.int .i64 R) := (World.cell?_of_block f2_8).trans c2_0_7
        have c2_1_8 : w8.cell? ⟨gS, 1, none⟩ = some (.slice pS m cS) := (World.cell?_of_block f2_8).trans c2_1_7
        have u3_8 : w3.heap.size < w8.heap.size := by omega
        have f3_8 : w8.heap[w3.heap.size]? = w7.heap[w3.heap.size]? := hm.far _ u3_7 (fun hn b hb2 => by have hbb := KX hn b hb2; omega)
        have c3_0_8 : w8.cell? ⟨w3.heap.size, 0, none⟩ = some (.int .i64 P) := (World.cell?_of_block f3_8).trans c3_0_7
        have c3_1_8 : w8.cell? ⟨w3.heap.size, 1, none⟩ = some (.slice (some ⟨t4, 0, none⟩) n n) := (World.cell?_of_block f3_8).trans c3_1_7
        have u4_8 : gG < w8.heap.size := by omega
        have f4_8 : w8.heap[gG]? = w7.heap[gG]? := hm.far _ u4_7 (fun hn b hb2 => by have hbb := KX hn b hb2; omega)
        have c4_0_8 : w8.cell? ⟨gG, 0, none⟩ = some (.int .i64 R) := (World.cell?_of_block f4_8).trans c4_0_7
        have c4_1_8 : w8.cell? ⟨gG, 1, none⟩ = some (.slice pG m cG) := (World.cell?_of_block f4_8).trans c4_1_7
        have S8 := S7.block (fun hn b hb2 => hm.far _ (S7.lt hn hb2) (fun hn2 b2 hb3 => by have hbb := KX hn2 b2 hb3; have hbc := KS hn b hb2; omega))
        have G8 := G7.block (fun hn b hb2 => hm.far _ (G7.lt hn hb2) (fun hn2 b2 hb3 => by have hbb := KX hn2 b2 hb3; have hbc := KG hn b hb2; omega))
        clear hm x7 u0_7 u1_7 u2_7 u3_7 u4_7 f0_8 f1_8 f2_8 f3_8 f4_8 c0_0_7 c0_1_7 c1_0_7 c1_1_7 c2_0_7 c2_1_7 c3_0_7 c3_1_7 c4_0_7 c4_1_7 S7 X7 G7
        go_wp2_with fail
        go_at_call 27
        refine (EQM.out _ _ _ _ _ (G8.ext (by repeat (first | (with_reducible exact Ext.refl _) | with_reducible assumption | (with_reducible apply Ext.alloc) | (with_reducible apply Ext.drew) | (with_reducible apply Ext.drewN) | (with_reducible refine Ext.setRow ?_ (by first | (simp; done) | (simp; omega) | omega) _) | (with_reducible refine Ext.setCell ?_ (by first | (simp; done) | (simp; omega) | omega) _) | (with_reducible refine Ext.trans ?_ (by with_reducible assumption))))) (S8.ext (by repeat (first | (with_reducible exact Ext.refl _) | with_reducible assumption | (with_reducible apply Ext.alloc) | (with_reducible apply Ext.drew) | (with_reducible apply Ext.drewN) | (with_reducible refine Ext.setRow ?_ (by first | (simp; done) | (simp; omega) | omega) _) | (with_reducible refine Ext.setCell ?_ (by first | (simp; done) | (simp; omega) | omega) _) | (with_reducible refine Ext.trans ?_ (by with_reducible assumption)))))).mono ?_
        rintro rv w9 ⟨rfl, hb⟩
        have hb0 : Ext w8 w9 := Ext.trans (by repeat (first | (with_reducible exact Ext.refl _) | with_reducible assumption | (with_reducible apply Ext.alloc) | (with_reducible apply Ext.drew) | (with_reducible apply Ext.drewN) | (with_reducible refine Ext.setRow ?_ (by first | (simp; done) | (simp; omega) | omega) _) | (with_reducible refine Ext.setCell ?_ (by first | (simp; done) | (simp; omega) | omega) _) | (with_reducible refine Ext.trans ?_ (by with_reducible assumption)))) hb
        have z9 : w8.heap.size ≤ w9.heap.size := hb0.size
        have x9 : Ext w w9 := Ext.trans x8 hb0
        have u0_9 : w.heap.size < w9.heap.size := hb0.lt u0_8
        have c0_0_9 : w9.cell? ⟨w.heap.size, 0, none⟩ = some (.int .i64 e) := (hb0.cells _ _ u0_8).trans c0_0_8
        have c0_1_9 : w9.cell? ⟨w.heap.size, 1, none⟩ = some (.int .i64 f) := (hb0.cells _ _ u0_8).trans c0_1_8
        have u1_9 : w.heap.size + 1 < w9.heap.size := hb0.lt u1_8
        have c1_0_9 : w9.cell? ⟨w.heap.size + 1, 0, none⟩ = some (.int .i64 P) := (hb0.cells _ _ u1_8).trans c1_0_8
        have c1_1_9 : w9.cell? ⟨w.heap.size + 1, 1, none⟩ = some (.slice p n cap) := (hb0.cells _ _ u1_8).trans c1_1_8
        have u2_9 : gS < w9.heap.size := hb0.lt u2_8
        have c2_0_9 : w9.cell? ⟨gS, 0, none⟩ = some (.int .i64 R) := (hb0.cells _ _ u2_8).trans c2_0_8
        have c2_1_9 : w9.cell? ⟨gS, 1, none⟩ = some (.slice pS m cS) := (hb0.cells _ _ u2_8).trans c2_1_8
        have u3_9 : w3.heap.size < w9.heap.size := hb0.lt u3_8
        have c3_0_9 : w9.cell? ⟨w3.heap.size, 0, none⟩ = some (.int .i64 P) := (hb0.cells _ _ u3_8).trans c3_0_8
        have c3_1_9 : w9.cell? ⟨w3.heap.size, 1, none⟩ = some (.slice (some ⟨t4, 0, none⟩) n n) := (hb0.cells _ _ u3_8).trans c3_1_8
        have u4_9 : gG < w9.heap.size := hb0.lt u4_8
        have c4_0_9 : w9.cell? ⟨gG, 0, none⟩ = some (.int .i64 R) := (hb0.cells _ _ u4_8).trans c4_0_8
        have c4_1_9 : w9.cell? ⟨gG, 1, none⟩ = some (.slice pG m cG) := (hb0.cells _ _ u4_8).trans c4_1_8
        have S9 := S8.ext hb0
        have G9 := G8.ext hb0
        clear x8 u0_8 u1_8 u2_8 u3_8 u4_8 c0_0_8 c0_1_8 c1_0_8 c1_1_8 c2_0_8 c2_1_8 c3_0_8 c3_1_8 c4_0_8 c4_1_8 S8 G8
        clear hb hb0
        go_wp2_with fail
        go_at_call 28
        refine (MKM.out _ _ _ G9).mono ?_
        rintro rv w10 ⟨rfl, hm0⟩
        have hm := hm0
        clear hm0
        have z10 : w9.heap.size ≤ w10.heap.size := hm.size
        have x10 : Ext w w10 := markB_ext x9 hm PG2
        have u0_10 : w.heap.size < w10.heap.size := by omega
        have f0_10 : w10.heap[w.heap.size]? = w9.heap[w.heap.size]? := hm.far _ u0_9 (fun hn b hb2 => by have hbb := KG hn b hb2; omega)
        have c0_0_10 : w10.cell? ⟨w.heap.size, 0, none⟩ = some (.int .i64 e) := (World.cell?_of_block f0_10).trans c0_0_9
        have c0_1_10 : w10.cell? ⟨w.heap.size, 1, none⟩ = some (.int .i64 f) := (World.cell?_of_block f0_10).trans c0_1_9
        have u1_10 : w.heap.size + 1 < w10.heap.size := by omega
        have f1_10 : w10.heap[w.heap.size + 1]? = w9.heap[w.heap.size + 1]? := hm.far _ u1_9 (fun hn b hb2 => by have hbb := KG hn b hb2; omega)
        have c1_0_10 : w10.cell? ⟨w.heap.size + 1, 0, none⟩ = some (.int .i64 P) := (World.cell?_of_block f1_10).trans c1_0_9
        have c1_1_10 : w10.cell? ⟨w.heap.size + 1, 1, none⟩ = some (.slice p n cap) := (World.cell?_of_block f1_10).trans c1_1_9
        have u2_10 : gS < w10.heap.size := by omega
        have f2_10 : w10.heap[gS]? = w9.heap[gS]? := hm.far _ u2_9 (fun hn b hb2 => by have hbb := KG hn b hb2; omega)
        have c2_0_10 : w10.cell? ⟨gS, 0, none⟩ = some (.int .i64 R) := (World.cell?_of_block f2_10).trans c2_0_9
        have c2_1_10 : w10.cell? ⟨gS, 1, none⟩ = some (.slice pS m cS) := (World.cell?_of_block f2_10).trans c2_1_9
        have u3_10 : w3.heap.size < w10.heap.size := by omega
        have f3_10 : w10.heap[w3.heap.size]? = w9.heap[w3.heap.size]? := hm.far _ u3_9 (fun hn b hb2 => by have hbb := KG hn b hb2; omega)
        have c3_0_10 : w10.cell? ⟨w3.heap.size, 0, none⟩ = some (.int .i64 P) := (World.cell?_of_block f3_10).trans c3_0_9
        have c3_1_10 : w10.cell? ⟨w3.heap.size, 1, none⟩ = some (.slice (some ⟨t4, 0, none⟩) n n) := (World.cell?_of_block f3_10).trans c3_1_9
        have u4_10 : gG < w10.heap.size := by omega
        have f4_10 : w10.heap[gG]? = w9.heap[gG]? := hm.far _ u4_9 (fun hn b hb2 => by have hbb := KG hn b hb2; omega)
        have c4_0_10 : w10.cell? ⟨gG, 0, none⟩ = some (.int .i64 R) := (World.cell?_of_block f4_10).trans c4_0_9
        have c4_1_10 : w10.cell? ⟨gG, 1, none⟩ = some (.slice pG m cG) := (World.cell?_of_block f4_10).trans c4_1_9
        have S10 := S9.block (fun hn b hb2 => hm.far _ (S9.lt hn hb2) (fun hn2 b2 hb3 => by have hbb := KG hn2 b2 hb3; have hbc := KS hn b hb2; omega))
        have G10 := hm.row
        clear hm x9 u0_9 u1_9 u2_9 u3_9 u4_9 f0_10 f1_10 f2_10 f3_10 f4_10 c0_0_9 c0_1_9 c1_0_9 c1_1_9 c2_0_9 c2_1_9 c3_0_9 c3_1_9 c4_0_9 c4_1_9 S9 G9
        go_wp2_with fail
        go_at_call 29
        refine (HLM.out _ _ _ (G10.ext (by repeat (first | (with_reducible exact Ext.refl _) | with_reducible assumption | (with_reducible apply Ext.alloc) | (with_reducible apply Ext.drew) | (with_reducible apply Ext.drewN) | (with_reducible refine Ext.setRow ?_ (by first | (simp; done) | (simp; omega) | omega) _) | (with_reducible refine Ext.setCell ?_ (by first | (simp; done) | (simp; omega) | omega) _) | (with_reducible refine Ext.trans ?_ (by with_reducible assumption)))))).mono ?_
        rintro rv w11 ⟨rfl, hb⟩
        have hb0 : Ext w10 w11 := Ext.trans (by repeat (first | (with_reducible exact Ext.refl _) | with_reducible assumption | (with_reducible apply Ext.alloc) | (with_reducible apply Ext.drew) | (with_reducible apply Ext.drewN) | (with_reducible refine Ext.setRow ?_ (by first | (simp; done) | (simp; omega) | omega) _) | (with_reducible refine Ext.setCell ?_ (by first | (simp; done) | (simp; omega) | omega) _) | (with_reducible refine Ext.trans ?_ (by with_reducible assumption)))) hb
        have z11 : w10.heap.size ≤ w11.heap.size := hb0.size
        have x11 : Ext w w11 := Ext.trans x10 hb0
        have u0_11 : w.heap.size < w11.heap.size := hb0.lt u0_10
        have c0_0_11 : w11.cell? ⟨w.heap.size, 0, none⟩ = some (.int .i64 e) := (hb0.cells _ _ u0_10).trans c0_0_10
        have c0_1_11 : w11.cell? ⟨w.heap.size, 1, none⟩ = some (.int .i64 f) := (hb0.cells _ _ u0_10).trans c0_1_10
        have u1_11 : w.heap.size + 1 < w11.heap.size := hb0.lt u1_10
        have c1_0_11 : w11.cell? ⟨w.heap.size + 1, 0, none⟩ = some (.int .i64 P) := (hb0.cells _ _ u1_10).trans c1_0_10
        have c1_1_11 : w11.cell? ⟨w.heap.size + 1, 1, none⟩ = some (.slice p n cap) := (hb0.cells _ _ u1_10).trans c1_1_10
        have u2_11 : gS < w11.heap.size := hb0.lt u2_10
        have c2_0_11 : w11.cell? ⟨gS, 0, none⟩ = some (.int .i64 R) := (hb0.cells _ _ u2_10).trans c2_0_10
        have c2_1_11 : w11.cell? ⟨gS, 1, none⟩ = some (.slice pS m cS) := (hb0.cells _ _ u2_10).trans c2_1_10
        have u3_11 : w3.heap.size < w11.heap.size := hb0.lt u3_10
        have c3_0_11 : w11.cell? ⟨w3.heap.size, 0, none⟩ = some (.int .i64 P) := (hb0.cells _ _ u3_10).trans c3_0_10
        have c3_1_11 : w11.cell? ⟨w3.heap.size, 1, none⟩ = some (.slice (some ⟨t4, 0, none⟩) n n) := (hb0.cells _ _ u3_10).trans c3_1_10
        have u4_11 : gG < w11.heap.size := hb0.lt u4_10
        have c4_0_11 : w11.cell? ⟨gG, 0, none⟩ = some (.int .i64 R) := (hb0.cells _ _ u4_10).trans c4_0_10
        have c4_1_11 : w11.cell? ⟨gG, 1, none⟩ = some (.slice pG m cG) := (hb0.cells _ _ u4_10).trans c4_1_10
        have S11 := S10.ext hb0
        have G11 := G10.ext hb0
        clear x10 u0_10 u1_10 u2_10 u3_10 u4_10 c0_0_10 c0_1_10 c1_0_10 c1_1_10 c2_0_10 c2_1_10 c3_0_10 c3_1_10 c4_0_10 c4_1_10 S10 G10
        clear hb hb0
        go_wp2_with fail
        try clear KX
        try clear PX
        try clear KG
        try clear PG2
        try clear KS
        try clear PG
        try clear NG
        try clear PS
        try clear NS
        try clear q4b
        try clear q4c
        try clear QS1
        try clear QS2
        try clear EQN
        try clear MKN
        try clear MKM
        try clear SA
        try clear z1
        try clear z2
        try clear z3
        try clear z4
        try clear z5
        try clear z6
        try clear z7
        try clear z8
        try clear z9
        try clear z10
        try clear z11
        try clear y1
        try clear y2
        try clear y3
        try clear y4
        try clear y5
        try clear y6
        try clear y7
        try clear y8
        try clear y9
        try clear y10
        try clear y11
        try clear v1_0
        try clear v2_0
        try clear v3_0
        try clear v4_0
        try clear v5_0
        try clear v6_0
        try clear v7_0
        try clear v8_0
        try clear v9_0
        try clear v10_0
        try clear v11_0
        try clear k0x0
        try clear k0x1
        try clear k0x2
        try clear k0x3
        try clear k0x4
        try clear k0x5
        try clear k0x6
        try clear k0x7
        try clear k0x8
        try clear k0x9
        try clear k0x10
        try clear k0x11
        try clear k1x0
        try clear k1x1
        try clear k1x2
        try clear k1x3
        try clear k1x4
        try clear k1x5
        try clear k1x6
        try clear k1x7
        try clear k1x8
        try clear k1x9
        try clear k1x10
        try clear k1x11
        try clear k2x0
        try clear k2x1
        try clear k2x2
        try clear k2x3
        try clear k2x4
        try clear k2x5
        try clear k2x6
        try clear k2x7
        try clear k2x8
        try clear k2x9
        try clear k2x10
        try clear k2x11
        try clear k3x0
        try clear k3x1
        try clear k3x2
        try clear k3x3
        try clear k3x4
        try clear k3x5
        try clear k3x6
        try clear k3x7
        try clear k3x8
        try clear k3x9
        try clear k3x10
        try clear k3x11
        try clear k4x0
        try clear k4x1
        try clear k4x2
        try clear k4x3
        try clear k4x4
        try clear k4x5
        try clear k4x6
        try clear k4x7
        try clear k4x8
        try clear k4x9
        try clear k4x10
        try clear k4x11
        try clear k5x0
        try clear k5x1
        try clear k5x2
        try clear k5x3
        try clear k5x4
        try clear k5x5
        try clear k5x6
        try clear k5x7
        try clear k5x8
        try clear k5x9
        try clear k5x10
        try clear k5x11
        have k0x11 := u0_11
        have k1x11 := u1_11
        have k2x11 := u2_11
        have k3x11 := u3_11
        have k4x11 := u4_11
        go_upto_region 24 with fail
        go_cut [16, 17] (fun sp sb wx => ∃ (gH : Nat) (pH : Option Addr) (cH : Nat), sp = .pointer (some ⟨gH, 0, none⟩) ∧ sb = .bool B0 ∧ Ext w11 wx ∧ wx.cell? ⟨gH, 0, none⟩ = some (.int .i64 R) ∧ wx.cell? ⟨gH, 1, none⟩ = some (.slice pH m cH) ∧ w11.heap.size ≤ gH ∧ gH < wx.heap.size ∧ OwnL wx pH m V ∧ Past pH m (w11.heap.size + 0) ∧ (0 < m → ∀ b, pH = some (⟨b, 0, none⟩ : Addr) → b ≠ gH))
        case first =>
          clear u2_11
          clear c2_0_11
          clear c2_1_11
          clear u3_11
          clear c3_0_11
          clear c3_1_11
          clear u4_11
          clear c4_0_11
          clear c4_1_11
          clear S11
          clear G11
          (try clear KX); (try clear PX); (try clear KG); (try clear PG2); (try clear KS); (try clear EQN); (try clear MKN); (try clear MKM); (try clear EQM); (try clear HLM); (try clear hM0); (try clear hN0)
          go_region_held3 (fun w' => w'.cell? ⟨w.heap.size, 0, none⟩ = some (.int .i64 e) ∧ w'.cell? ⟨w.heap.size, 1, none⟩ = some (.int .i64 f) ∧ w'.cell? ⟨w.heap.size + 1, 0, none⟩ = some (.int .i64 P) ∧ w'.cell? ⟨w.heap.size + 1, 1, none⟩ = some (.slice p n cap) ∧ w.heap.size + 1 < w'.heap.size) ((refine ⟨?_, ?_, ?_, ?_, ?_⟩ <;> first | with_reducible assumption | ((repeat first | rw [cell_set_far _ _ _ _ _ _ (by first | exact Nat.ne_of_lt (by with_reducible assumption) | exact Nat.ne_of_gt (by with_reducible assumption) | omega)] | rw [cell_alloc_drew _ _ _ _ (by first | with_reducible assumption | omega | (simp only [World.size_alloc, World.size_drew]; omega))] | rw [cell_alloc_before _ _ _ _ (by first | with_reducible assumption | omega | (simp only [World.size_alloc, World.size_drew]; omega))] | rw [cell_drew]); with_reducible assumption) | (simp; done) | (simp; with_reducible assumption) | (simp [World.setCell]; first | done | with_reducible assumption | omega))) ((first | (go_at_call 14; refine (toFormat_any e f _).mono ?_; rintro rv w12 ⟨rfl, hb⟩; (first | (have mk := mtz; have o0 := (hb.cells _ _ mtz).trans m0; have o1 := (hb.cells _ _ mtz).trans m1; have oz0 := (hb.frz _ _ mtz).trans mz0; have oz1 := (hb.frz _ _ mtz).trans mz1; have ot := hb.lt mtz; clear m0 m1 mz0 mz1 mtz; have m0 := o0; have m1 := o1; have mz0 := oz0; have mz1 := oz1; have mtz := ot; clear o0 o1 oz0 oz1 ot) | (with_reducible have q2 := Ext.new2 (u := .int .i64 0) (v := .slice none 0 0) hb; obtain ⟨m0, m1, mz0, mz1, mtz⟩ := q2; try simp only [World.size_alloc, World.size_drew, Nat.add_assoc, Nat.reduceAdd] at m0 m1 mz0 mz1 mtz) | (with_reducible have q2 := Ext.new2d (u := .int .i64 0) (v := .slice none 0 0) hb; obtain ⟨m0, m1, mz0, mz1, mtz⟩ := q2; try simp only [World.size_alloc, World.size_drew, Nat.add_assoc, Nat.reduceAdd] at m0 m1 mz0 mz1 mtz) | skip); have hb0 : Ext w11 w12 := Ext.trans (by repeat (first | (with_reducible exact Ext.refl _) | with_reducible assumption | (with_reducible apply Ext.alloc) | (with_reducible apply Ext.drew) | (with_reducible apply Ext.drewN) | (with_reducible refine Ext.setRow ?_ (by first | (simp; done) | (simp; omega) | omega) _) | (with_reducible refine Ext.setCell ?_ (by first | (simp; done) | (simp; omega) | omega) _) | (with_reducible refine Ext.trans ?_ (by with_reducible assumption)))) hb; have xx := hb0; have z12 : w11.heap.size ≤ w12.heap.size := hb0.size; have x12 : Ext w w12 := Ext.trans x11 hb0; have u0_12 : w.heap.size < w12.heap.size := hb0.lt u0_11; have c0_0_12 : w12.cell? ⟨w.heap.size, 0, none⟩ = some (.int .i64 e) := (hb0.cells _ _ u0_11).trans c0_0_11; have c0_1_12 : w12.cell? ⟨w.heap.size, 1, none⟩ = some (.int .i64 f) := (hb0.cells _ _ u0_11).trans c0_1_11; have u1_12 : w.heap.size + 1 < w12.heap.size := hb0.lt u1_11; have c1_0_12 : w12.cell? ⟨w.heap.size + 1, 0, none⟩ = some (.int .i64 P) := (hb0.cells _ _ u1_11).trans c1_0_11; have c1_1_12 : w12.cell? ⟨w.heap.size + 1, 1, none⟩ = some (.slice p n cap) := (hb0.cells _ _ u1_11).trans c1_1_11; clear x11 u0_11 u1_11 c0_0_11 c0_1_11 c1_0_11 c1_1_11; clear hb hb0) | (go_at_call 25; refine (toBlock_any P p n cap V hn _ (hold.ext (by repeat (first | (with_reducible exact Ext.refl _) | with_reducible assumption | (with_reducible apply Ext.alloc) | (with_reducible apply Ext.drew) | (with_reducible apply Ext.drewN) | (with_reducible refine Ext.setRow ?_ (by first | (simp; done) | (simp; omega) | omega) _) | (with_reducible refine Ext.setCell ?_ (by first | (simp; done) | (simp; omega) | omega) _) | (with_reducible refine Ext.trans ?_ (by with_reducible assumption)))))).mono ?_; rintro rv w13 ⟨t13, rfl, _, r13, hb⟩; (first | (have mk := mtz; have o0 := (hb.cells _ _ mtz).trans m0; have o1 := (hb.cells _ _ mtz).trans m1; have oz0 := (hb.frz _ _ mtz).trans mz0; have oz1 := (hb.frz _ _ mtz).trans mz1; have ot := hb.lt mtz; clear m0 m1 mz0 mz1 mtz; have m0 := o0; have m1 := o1; have mz0 := oz0; have mz1 := oz1; have mtz := ot; clear o0 o1 oz0 oz1 ot) | (with_reducible have q2 := Ext.new2 (u := .int .i64 0) (v := .slice none 0 0) hb; obtain ⟨m0, m1, mz0, mz1, mtz⟩ := q2; try simp only [World.size_alloc, World.size_drew, Nat.add_assoc, Nat.reduceAdd] at m0 m1 mz0 mz1 mtz) | (with_reducible have q2 := Ext.new2d (u := .int .i64 0) (v := .slice none 0 0) hb; obtain ⟨m0, m1, mz0, mz1, mtz⟩ := q2; try simp only [World.size_alloc, World.size_drew, Nat.add_assoc, Nat.reduceAdd] at m0 m1 mz0 mz1 mtz) | skip); have hb0 : Ext w12 w13 := Ext.trans (by repeat (first | (with_reducible exact Ext.refl _) | with_reducible assumption | (with_reducible apply Ext.alloc) | (with_reducible apply Ext.drew) | (with_reducible apply Ext.drewN) | (with_reducible refine Ext.setRow ?_ (by first | (simp; done) | (simp; omega) | omega) _) | (with_reducible refine Ext.setCell ?_ (by first | (simp; done) | (simp; omega) | omega) _) | (with_reducible refine Ext.trans ?_ (by with_reducible assumption)))) hb; have xy := Ext.trans xx hb0; clear xx; have xx := xy; clear xy; have z13 : w12.heap.size ≤ w13.heap.size := hb0.size; have x13 : Ext w w13 := Ext.trans x12 hb0; have u0_13 : w.heap.size < w13.heap.size := hb0.lt u0_12; have c0_0_13 : w13.cell? ⟨w.heap.size, 0, none⟩ = some (.int .i64 e) := (hb0.cells _ _ u0_12).trans c0_0_12; have c0_1_13 : w13.cell? ⟨w.heap.size, 1, none⟩ = some (.int .i64 f) := (hb0.cells _ _ u0_12).trans c0_1_12; have u1_13 : w.heap.size + 1 < w13.heap.size := hb0.lt u1_12; have c1_0_13 : w13.cell? ⟨w.heap.size + 1, 0, none⟩ = some (.int .i64 P) := (hb0.cells _ _ u1_12).trans c1_0_12; have c1_1_13 : w13.cell? ⟨w.heap.size + 1, 1, none⟩ = some (.slice p n cap) := (hb0.cells _ _ u1_12).trans c1_1_12; clear x12 u0_12 u1_12 c0_0_12 c0_1_12 c1_0_12 c1_1_12; clear hb hb0) | (go_at_call 26; refine (IA.out _ _ (row_ext r13 (by repeat (first | (with_reducible exact Ext.refl _) | with_reducible assumption | (with_reducible apply Ext.alloc) | (with_reducible apply Ext.drew) | (with_reducible apply Ext.drewN) | (with_reducible refine Ext.setRow ?_ (by first | (simp; done) | (simp; omega) | omega) _) | (with_reducible refine Ext.setCell ?_ (by first | (simp; done) | (simp; omega) | omega) _) | (with_reducible refine Ext.trans ?_ (by with_reducible assumption)))))).mono ?_; rintro rv w14 ⟨pH, cH, rfl, H14, PH14, hb⟩; (first | (have mk := mtz; have o0 := (hb.cells _ _ mtz).trans m0; have o1 := (hb.cells _ _ mtz).trans m1; have oz0 := (hb.frz _ _ mtz).trans mz0; have oz1 := (hb.frz _ _ mtz).trans mz1; have ot := hb.lt mtz; clear m0 m1 mz0 mz1 mtz; have m0 := o0; have m1 := o1; have mz0 := oz0; have mz1 := oz1; have mtz := ot; clear o0 o1 oz0 oz1 ot) | (with_reducible have q2 := Ext.new2 (u := .int .i64 0) (v := .slice none 0 0) hb; obtain ⟨m0, m1, mz0, mz1, mtz⟩ := q2; try simp only [World.size_alloc, World.size_drew, Nat.add_assoc, Nat.reduceAdd] at m0 m1 mz0 mz1 mtz) | (with_reducible have q2 := Ext.new2d (u := .int .i64 0) (v := .slice none 0 0) hb; obtain ⟨m0, m1, mz0, mz1, mtz⟩ := q2; try simp only [World.size_alloc, World.size_drew, Nat.add_assoc, Nat.reduceAdd] at m0 m1 mz0 mz1 mtz) | skip); have hb0 : Ext w13 w14 := Ext.trans (by repeat (first | (with_reducible exact Ext.refl _) | with_reducible assumption | (with_reducible apply Ext.alloc) | (with_reducible apply Ext.drew) | (with_reducible apply Ext.drewN) | (with_reducible refine Ext.setRow ?_ (by first | (simp; done) | (simp; omega) | omega) _) | (with_reducible refine Ext.setCell ?_ (by first | (simp; done) | (simp; omega) | omega) _) | (with_reducible refine Ext.trans ?_ (by with_reducible assumption)))) hb; have xy := Ext.trans xx hb0; clear xx; have xx := xy; clear xy; have z14 : w13.heap.size ≤ w14.heap.size := hb0.size; have x14 : Ext w w14 := Ext.trans x13 hb0; have u0_14 : w.heap.size < w14.heap.size := hb0.lt u0_13; have c0_0_14 : w14.cell? ⟨w.heap.size, 0, none⟩ = some (.int .i64 e) := (hb0.cells _ _ u0_13).trans c0_0_13; have c0_1_14 : w14.cell? ⟨w.heap.size, 1, none⟩ = some (.int .i64 f) := (hb0.cells _ _ u0_13).trans c0_1_13; have u1_14 : w.heap.size + 1 < w14.heap.size := hb0.lt u1_13; have c1_0_14 : w14.cell? ⟨w.heap.size + 1, 0, none⟩ = some (.int .i64 P) := (hb0.cells _ _ u1_13).trans c1_0_13; have c1_1_14 : w14.cell? ⟨w.heap.size + 1, 1, none⟩ = some (.slice p n cap) := (hb0.cells _ _ u1_13).trans c1_1_13; have r14 := row_ext r13 hb0; clear x13 u0_13 u1_13 c0_0_13 c0_1_13 c1_0_13 c1_1_13 r13; clear r14; clear hb hb0)))
          all_goals (go_wp2_with fail; go_meet; exact ⟨_, pH, cH, rfl, (by rw [HB.out]), (by repeat (first | exact xx | apply Ext.alloc | apply Ext.drew | (refine Ext.setRow ?_ (by first | (simp; done) | (simp; with_reducible assumption) | (simp; omega) | omega) _) | (refine Ext.setCell ?_ (by first | (simp; done) | (simp; with_reducible assumption) | (simp; omega) | omega) _))), (by first | exact (set2_cells m0 m1).1 | exact (new2_cells _ _ _ _).1 | (simp [go_sem]; done)), (by first | exact (set2_cells m0 m1).2 | exact (new2_cells _ _ _ _).2 | (simp [go_sem]; done)), (by first | with_reducible assumption | (simp; done) | (simp; with_reducible assumption) | (simp; omega) | omega | (simp; done) | (simp; omega) | (simp [World.setCell]; done) | (simp [World.setCell]; omega)), (by first | with_reducible assumption | (simp; done) | (simp; with_reducible assumption) | (simp; omega) | omega | (simp; done) | (simp; omega) | (simp [World.setCell]; done) | (simp [World.setCell]; omega)), (by first | exact own_far2 H14 PH14 (by first | with_reducible assumption | (simp; done) | (simp; with_reducible assumption) | (simp; omega) | omega | (simp; done) | (simp; omega) | (simp [World.setCell]; done) | (simp [World.setCell]; omega)) | exact H14.ext (by repeat (first | (with_reducible exact Ext.refl _) | with_reducible assumption | (with_reducible apply Ext.alloc) | (with_reducible apply Ext.drew) | (with_reducible apply Ext.drewN) | (with_reducible refine Ext.setRow ?_ (by first | (simp; done) | (simp; omega) | omega) _) | (with_reducible refine Ext.setCell ?_ (by first | (simp; done) | (simp; omega) | omega) _) | (with_reducible refine Ext.trans ?_ (by with_reducible assumption)))) | exact H14), PH14.le (by first | with_reducible assumption | (simp; done) | (simp; with_reducible assumption) | (simp; omega) | omega | (simp; done) | (simp; omega) | (simp [World.setCell]; done) | (simp [World.setCell]; omega)), (fun hn b hb2 => by have h1 := PH14 hn b hb2; have h2 := H14.lt hn hb2; (try simp only [World.size_alloc, World.size_drew] at h1); omega)⟩)
        case rest =>
          obtain ⟨gH, pH, cH, hsp, hsb, hb0, c5_0_12, c5_1_12, y12, u5_12, H12, PH, NH⟩ := hcut
          rw [HB.out] at hsb
          subst hsp
          subst hsb
          obtain ⟨w12, hwq⟩ : ∃ x, x = wc := ⟨_, rfl⟩
          subst hwq
          have z12 : w11.heap.size ≤ w12.heap.size := hb0.size
          have x12 : Ext w w12 := Ext.trans x11 hb0
          have u0_12 : w.heap.size < w12.heap.size := hb0.lt u0_11
          have c0_0_12 : w12.cell? ⟨w.heap.size, 0, none⟩ = some (.int .i64 e) := (hb0.cells _ _ u0_11).trans c0_0_11
          have c0_1_12 : w12.cell? ⟨w.heap.size, 1, none⟩ = some (.int .i64 f) := (hb0.cells _ _ u0_11).trans c0_1_11
          have u1_12 : w.heap.size + 1 < w12.heap.size := hb0.lt u1_11
          have c1_0_12 : w12.cell? ⟨w.heap.size + 1, 0, none⟩ = some (.int .i64 P) := (hb0.cells _ _ u1_11).trans c1_0_11
          have c1_1_12 : w12.cell? ⟨w.heap.size + 1, 1, none⟩ = some (.slice p n cap) := (hb0.cells _ _ u1_11).trans c1_1_11
          have u2_12 : gS < w12.heap.size := hb0.lt u2_11
          have c2_0_12 : w12.cell? ⟨gS, 0, none⟩ = some (.int .i64 R) := (hb0.cells _ _ u2_11).trans c2_0_11
          have c2_1_12 : w12.cell? ⟨gS, 1, none⟩ = some (.slice pS m cS) := (hb0.cells _ _ u2_11).trans c2_1_11
          have u3_12 : w3.heap.size < w12.heap.size := hb0.lt u3_11
          have c3_0_12 : w12.cell? ⟨w3.heap.size, 0, none⟩ = some (.int .i64 P) := (hb0.cells _ _ u3_11).trans c3_0_11
          have c3_1_12 : w12.cell? ⟨w3.heap.size, 1, none⟩ = some (.slice (some ⟨t4, 0, none⟩) n n) := (hb0.cells _ _ u3_11).trans c3_1_11
          have u4_12 : gG < w12.heap.size := hb0.lt u4_11
          have c4_0_12 : w12.cell? ⟨gG, 0, none⟩ = some (.int .i64 R) := (hb0.cells _ _ u4_11).trans c4_0_11
          have c4_1_12 : w12.cell? ⟨gG, 1, none⟩ = some (.slice pG m cG) := (hb0.cells _ _ u4_11).trans c4_1_11
          have S12 := S11.ext hb0
          have G12 := G11.ext hb0
          clear x11 u0_11 u1_11 u2_11 u3_11 u4_11 c0_0_11 c0_1_11 c1_0_11 c1_1_11 c2_0_11 c2_1_11 c3_0_11 c3_1_11 c4_0_11 c4_1_11 S11 G11
          clear hb0
          go_wp2_with fail
          go_at_call 27
          refine (EQM.out _ _ _ _ _ (H12.ext (by repeat (first | (with_reducible exact Ext.refl _) | with_reducible assumption | (with_reducible apply Ext.alloc) | (with_reducible apply Ext.drew) | (with_reducible apply Ext.drewN) | (with_reducible refine Ext.setRow ?_ (by first | (simp; done) | (simp; omega) | omega) _) | (with_reducible refine Ext.setCell ?_ (by first | (simp; done) | (simp; omega) | omega) _) | (with_reducible refine Ext.trans ?_ (by with_reducible assumption))))) (S12.ext (by repeat (first | (with_reducible exact Ext.refl _) | with_reducible assumption | (with_reducible apply Ext.alloc) | (with_reducible apply Ext.drew) | (with_reducible apply Ext.drewN) | (with_reducible refine Ext.setRow ?_ (by first | (simp; done) | (simp; omega) | omega) _) | (with_reducible refine Ext.setCell ?_ (by first | (simp; done) | (simp; omega) | omega) _) | (with_reducible refine Ext.trans ?_ (by with_reducible assumption)))))).mono ?_
          rintro rv w13 ⟨rfl, hb⟩
          have hb0 : Ext w12 w13 := Ext.trans (by repeat (first | (with_reducible exact Ext.refl _) | with_reducible assumption | (with_reducible apply Ext.alloc) | (with_reducible apply Ext.drew) | (with_reducible apply Ext.drewN) | (with_reducible refine Ext.setRow ?_ (by first | (simp; done) | (simp; omega) | omega) _) | (with_reducible refine Ext.setCell ?_ (by first | (simp; done) | (simp; omega) | omega) _) | (with_reducible refine Ext.trans ?_ (by with_reducible assumption)))) hb
          have z13 : w12.heap.size ≤ w13.heap.size := hb0.size
          have x13 : Ext w w13 := Ext.trans x12 hb0
          have u0_13 : w.heap.size < w13.heap.size := hb0.lt u0_12
          have c0_0_13 : w13.cell? ⟨w.heap.size, 0, none⟩ = some (.int .i64 e) := (hb0.cells _ _ u0_12).trans c0_0_12
          have c0_1_13 : w13.cell? ⟨w.heap.size, 1, none⟩ = some (.int .i64 f) := (hb0.cells _ _ u0_12).trans c0_1_12
          have u1_13 : w.heap.size + 1 < w13.heap.size := hb0.lt u1_12
          have c1_0_13 : w13.cell? ⟨w.heap.size + 1, 0, none⟩ = some (.int .i64 P) := (hb0.cells _ _ u1_12).trans c1_0_12
          have c1_1_13 : w13.cell? ⟨w.heap.size + 1, 1, none⟩ = some (.slice p n cap) := (hb0.cells _ _ u1_12).trans c1_1_12
          have u2_13 : gS < w13.heap.size := hb0.lt u2_12
          have c2_0_13 : w13.cell? ⟨gS, 0, none⟩ = some (.int .i64 R) := (hb0.cells _ _ u2_12).trans c2_0_12
          have c2_1_13 : w13.cell? ⟨gS, 1, none⟩ = some (.slice pS m cS) := (hb0.cells _ _ u2_12).trans c2_1_12
          have u3_13 : w3.heap.size < w13.heap.size := hb0.lt u3_12
          have c3_0_13 : w13.cell? ⟨w3.heap.size, 0, none⟩ = some (.int .i64 P) := (hb0.cells _ _ u3_12).trans c3_0_12
          have c3_1_13 : w13.cell? ⟨w3.heap.size, 1, none⟩ = some (.slice (some ⟨t4, 0, none⟩) n n) := (hb0.cells _ _ u3_12).trans c3_1_12
          have u4_13 : gG < w13.heap.size := hb0.lt u4_12
          have c4_0_13 : w13.cell? ⟨gG, 0, none⟩ = some (.int .i64 R) := (hb0.cells _ _ u4_12).trans c4_0_12
          have c4_1_13 : w13.cell? ⟨gG, 1, none⟩ = some (.slice pG m cG) := (hb0.cells _ _ u4_12).trans c4_1_12
          have u5_13 : gH < w13.heap.size := hb0.lt u5_12
          have c5_0_13 : w13.cell? ⟨gH, 0, none⟩ = some (.int .i64 R) := (hb0.cells _ _ u5_12).trans c5_0_12
          have c5_1_13 : w13.cell? ⟨gH, 1, none⟩ = some (.slice pH m cH) := (hb0.cells _ _ u5_12).trans c5_1_12
          have S13 := S12.ext hb0
          have G13 := G12.ext hb0
          have H13 := H12.ext hb0
          clear x12 u0_12 u1_12 u2_12 u3_12 u4_12 u5_12 c0_0_12 c0_1_12 c1_0_12 c1_1_12 c2_0_12 c2_1_12 c3_0_12 c3_1_12 c4_0_12 c4_1_12 c5_0_12 c5_1_12 S12 G12 H12
          clear hb hb0
          go_wp2_with fail
          go_at_call 29
          refine (HLM.out _ _ _ (G13.ext (by repeat (first | (with_reducible exact Ext.refl _) | with_reducible assumption | (with_reducible apply Ext.alloc) | (with_reducible apply Ext.drew) | (with_reducible apply Ext.drewN) | (with_reducible refine Ext.setRow ?_ (by first | (simp; done) | (simp; omega) | omega) _) | (with_reducible refine Ext.setCell ?_ (by first | (simp; done) | (simp; omega) | omega) _) | (with_reducible refine Ext.trans ?_ (by with_reducible assumption)))))).mono ?_
          rintro rv w14 ⟨rfl, hb⟩
          have hb0 : Ext w13 w14 := Ext.trans (by repeat (first | (with_reducible exact Ext.refl _) | with_reducible assumption | (with_reducible apply Ext.alloc) | (with_reducible apply Ext.drew) | (with_reducible apply Ext.drewN) | (with_reducible refine Ext.setRow ?_ (by first | (simp; done) | (simp; omega) | omega) _) | (with_reducible refine Ext.setCell ?_ (by first | (simp; done) | (simp; omega) | omega) _) | (with_reducible refine Ext.trans ?_ (by with_reducible assumption)))) hb
          have z14 : w13.heap.size ≤ w14.heap.size := hb0.size
          have x14 : Ext w w14 := Ext.trans x13 hb0
          have u0_14 : w.heap.size < w14.heap.size := hb0.lt u0_13
          have c0_0_14 : w14.cell? ⟨w.heap.size, 0, none⟩ = some (.int .i64 e) := (hb0.cells _ _ u0_13).trans c0_0_13
          have c0_1_14 : w14.cell? ⟨w.heap.size, 1, none⟩ = some (.int .i64 f) := (hb0.cells _ _ u0_13).trans c0_1_13
          have u1_14 : w.heap.size + 1 < w14.heap.size := hb0.lt u1_13
          have c1_0_14 : w14.cell? ⟨w.heap.size + 1, 0, none⟩ = some (.int .i64 P) := (hb0.cells _ _ u1_13).trans c1_0_13
          have c1_1_14 : w14.cell? ⟨w.heap.size + 1, 1, none⟩ = some (.slice p n cap) := (hb0.cells _ _ u1_13).trans c1_1_13
          have u2_14 : gS < w14.heap.size := hb0.lt u2_13
          have c2_0_14 : w14.cell? ⟨gS, 0, none⟩ = some (.int .i64 R) := (hb0.cells _ _ u2_13).trans c2_0_13
          have c2_1_14 : w14.cell? ⟨gS, 1, none⟩ = some (.slice pS m cS) := (hb0.cells _ _ u2_13).trans c2_1_13
          have u3_14 : w3.heap.size < w14.heap.size := hb0.lt u3_13
          have c3_0_14 : w14.cell? ⟨w3.heap.size, 0, none⟩ = some (.int .i64 P) := (hb0.cells _ _ u3_13).trans c3_0_13
          have c3_1_14 : w14.cell? ⟨w3.heap.size, 1, none⟩ = some (.slice (some ⟨t4, 0, none⟩) n n) := (hb0.cells _ _ u3_13).trans c3_1_13
          have u4_14 : gG < w14.heap.size := hb0.lt u4_13
          have c4_0_14 : w14.cell? ⟨gG, 0, none⟩ = some (.int .i64 R) := (hb0.cells _ _ u4_13).trans c4_0_13
          have c4_1_14 : w14.cell? ⟨gG, 1, none⟩ = some (.slice pG m cG) := (hb0.cells _ _ u4_13).trans c4_1_13
          have u5_14 : gH < w14.heap.size := hb0.lt u5_13
          have c5_0_14 : w14.cell? ⟨gH, 0, none⟩ = some (.int .i64 R) := (hb0.cells _ _ u5_13).trans c5_0_13
          have c5_1_14 : w14.cell? ⟨gH, 1, none⟩ = some (.slice pH m cH) := (hb0.cells _ _ u5_13).trans c5_1_13
          have S14 := S13.ext hb0
          have G14 := G13.ext hb0
          have H14 := H13.ext hb0
          clear x13 u0_13 u1_13 u2_13 u3_13 u4_13 u5_13 c0_0_13 c0_1_13 c1_0_13 c1_1_13 c2_0_13 c2_1_13 c3_0_13 c3_1_13 c4_0_13 c4_1_13 c5_0_13 c5_1_13 S13 G13 H13
          clear hb hb0
          go_wp2_with fail
          go_ret
          exact ⟨rfl, x14⟩
  · go_enter Try.func7, Try.ntmps7
    go_wp2_with (go_at_call 23; refine (szBlock_big _ _ _ _ hn (by have h := hmx; unfold maxLen at h; omega) _).mono ?_; rintro rv w1 ⟨rfl, hb⟩; have ns : w.heap.size < w1.heap.size := hb.lt (by first | with_reducible assumption | omega | (simp; done) | (simp; omega)); (first | (have nx := Ext.trans hx hb; clear hx) | (have nx := Ext.trans (hx.alloc _) hb; clear hx) | (have nx := Ext.trans hx.drew hb; clear hx) | have nx := hb); clear hb; try clear hs; have hx := nx; clear nx; have hs := ns; clear ns)
    go_ret
    exact ⟨rfl, (by repeat (first | (with_reducible exact Ext.refl _) | with_reducible assumption | (with_reducible apply Ext.alloc) | (with_reducible apply Ext.drew) | (with_reducible apply Ext.drewN) | (with_reducible refine Ext.setRow ?_ (by first | (simp; done) | (simp; omega) | omega) _) | (with_reducible refine Ext.setCell ?_ (by first | (simp; done) | (simp; omega) | omega) _) | (with_reducible refine Ext.trans ?_ (by with_reducible assumption))))⟩
end Go.Proofs.Ytcpamgmaijjhoaa

namespace Go.Proofs.Ytcpamgmaijjhoaa
open Go Go.RowKit
set_option linter.unusedSimpArgs false
set_option linter.unusedVariables false
set_option maxRecDepth 100000

theorem set2m_cells {w : World} {g : Nat} {a b x y : Value} (h0 : w.cell? ⟨g, 0, none⟩ = some a) (h1 : w.cell? ⟨g, 1, none⟩ = some b) :
    ((w.setCell ⟨g, 0, none⟩ x).setCell ⟨g, 1, none⟩ y).cell? ⟨g, 0, none⟩ = some x ∧ ((w.setCell ⟨g, 0, none⟩ x).setCell ⟨g, 1, none⟩ y).cell? ⟨g, 1, none⟩ = some y := by
  constructor <;> simp [go_sem, h0, h1]

theorem new2m_cells (w : World) (x y : Value) (t : TypeId) : (w.alloc (.cells #[x, y] t)).cell? ⟨w.heap.size, 0, none⟩ = some x ∧ (w.alloc (.cells #[x, y] t)).cell? ⟨w.heap.size, 1, none⟩ = some y := by
  constructor <;> simp [go_sem]

theorem ct_len {e f P a b : Int} {V : Nat → Int} {n : Nat} (hn : n ≤ 1048576) : (if ctB e f P a b V n = true then (b.toNat - a.toNat) else 0) ≤ 1048576 := by
  split
  · rename_i h
    unfold ctB at h
    rw [Bool.and_eq_true, Bool.and_eq_true] at h
    have := of_decide_eq_true h.2.2
    omega
  · omega

set_option maxHeartbeats 12800000 in
theorem wCutBlock (e f P : Int) (p : Option Addr) (n cap : Nat) (V : Nat → Int) (a0 b0 : Int) (w : World) (hold : HoldsL w p n V) (hmx : n ≤ maxLen) : Calls Try.prog 8 #[fmt e f, blk P p n cap, .int .i64 a0, .int .i64 b0] w fun rv w' => rv = .returned (.bool true) ∧ Ext w w' := by
  by_cases hn : n ≤ 1048576
  · have hn1 : ¬ (1048576 - (n : Int) < 0) := by omega
    have SA := Lib.hid (fun bb w h => sCutBlock_all e f P a0 b0 V bb n w h)
    have IA := Lib.hid (fun bb w h => iCutBlock_all e f P a0 b0 V bb n w h)
    have hm : (if ctB e f P a0 b0 V n = true then (b0.toNat - a0.toNat) else 0) ≤ 1048576 := ct_len hn
    have EQN := Lib.hid (fun p q c1 c2 w hp hq => eqBlock_own P p q n c1 c2 V hn w hp hq)
    have MKN := Lib.hid (fun p c w hp => markBlock_own P p n c V hn w hp)
    obtain ⟨B0, hB0⟩ : ∃ b : Bool, b = ctB e f P a0 b0 V n := ⟨_, rfl⟩
    generalize fromV V a0 = Q at *
    generalize (if ctB e f P a0 b0 V n = true then P else 0) = R at *
    generalize (if ctB e f P a0 b0 V n = true then (b0.toNat - a0.toNat) else 0) = m at *
    generalize ctB e f P a0 b0 V n = B at *
    have HB := Lib.hid hB0
    clear hB0
    have EQM := Lib.hid (fun p q c1 c2 w hp hq => eqBlock_own R p q m c1 c2 Q hm w hp hq)
    have MKM := Lib.hid (fun p c w hp => markBlock_own R p m c Q hm w hp)
    have HLM := Lib.hid (fun p c w hp => heldBlock_own R p m c hm w hp)
    obtain ⟨M, hM, hM0⟩ : ∃ M : Int, M = 1 + (m : Int) ∧ ¬ M < 0 := ⟨_, rfl, by omega⟩
    obtain ⟨N, hN, hN0⟩ : ∃ N : Int, N = 1 + (n : Int) ∧ ¬ N < 0 := ⟨_, rfl, by omega⟩
    rw [← hM] at MKM HLM
    rw [← hN] at MKN
    clear hM hN hm
    go_enter Try.func8, Try.ntmps8
    go_wp2_with fail
    go_at_call 23
    refine (szBlock_ok _ _ _ _ hn _).mono ?_
    rintro rv w1 ⟨rfl, hb⟩
    have hb0 : Ext w w1 := Ext.trans (by repeat (first | (with_reducible exact Ext.refl _) | with_reducible assumption | (with_reducible apply Ext.alloc) | (with_reducible apply Ext.drew) | (with_reducible apply Ext.drewN) | (with_reducible refine Ext.setRow ?_ (by first | (simp; done) | (simp; omega) | omega) _) | (with_reducible refine Ext.setCell ?_ (by first | (simp; done) | (simp; omega) | omega) _) | (with_reducible refine Ext.trans ?_ (by with_reducible assumption)))) hb
    have z1 : w.heap.size ≤ w1.heap.size := hb0.size
    have x1 : Ext w w1 := hb0
    have u0_1 : w.heap.size < w1.heap.size := hb.lt (by first | (simp; done) | (simp; omega))
    have c0_0_1 : w1.cell? ⟨w.heap.size, 0, none⟩ = some (.int .i64 e) := (hb.cells _ _ (by first | (simp; done) | (simp; omega))).trans (by first | (simp; done) | (simp [go_sem]; done) | (simp [go_sem, *]; done))
    have c0_1_1 : w1.cell? ⟨w.heap.size, 1, none⟩ = some (.int .i64 f) := (hb.cells _ _ (by first | (simp; done) | (simp; omega))).trans (by first | (simp; done) | (simp [go_sem]; done) | (simp [go_sem, *]; done))
    have u1_1 : w.heap.size + 1 < w1.heap.size := hb.lt (by first | (simp; done) | (simp; omega))
    have c1_0_1 : w1.cell? ⟨w.heap.size + 1, 0, none⟩ = some (.int .i64 P) := (hb.cells _ _ (by first | (simp; done) | (simp; omega))).trans (by first | (simp; done) | (simp [go_sem]; done) | (simp [go_sem, *]; done))
    have c1_1_1 : w1.cell? ⟨w.heap.size + 1, 1, none⟩ = some (.slice p n cap) := (hb.cells _ _ (by first | (simp; done) | (simp; omega))).trans (by first | (simp; done) | (simp [go_sem]; done) | (simp [go_sem, *]; done))
    clear hb hb0
    go_wp2_with fail
    have k0x1 := u0_1
    have k1x1 := u1_1
    go_upto_region 5 with fail
    go_cut [10, 11] (fun sp sb wx => ∃ (gS : Nat) (pS : Option Addr) (cS : Nat), sp = .pointer (some ⟨gS, 0, none⟩) ∧ sb = .bool B0 ∧ Ext w1 wx ∧ wx.cell? ⟨gS, 0, none⟩ = some (.int .i64 R) ∧ wx.cell? ⟨gS, 1, none⟩ = some (.slice pS m cS) ∧ w1.heap.size ≤ gS ∧ gS < wx.heap.size ∧ OwnL wx pS m Q ∧ Past pS m (w1.heap.size + 0) ∧ (0 < m → ∀ b, pS = some (⟨b, 0, none⟩ : Addr) → b ≠ gS))
    case first =>
      (try clear KX); (try clear PX); (try clear KG); (try clear PG2); (try clear KS); (try clear EQN); (try clear MKN); (try clear MKM); (try clear EQM); (try clear HLM); (try clear hM0); (try clear hN0)
      go_region_held3 (fun w' => w'.cell? ⟨w.heap.size, 0, none⟩ = some (.int .i64 e) ∧ w'.cell? ⟨w.heap.size, 1, none⟩ = some (.int .i64 f) ∧ w'.cell? ⟨w.heap.size + 1, 0, none⟩ = some (.int .i64 P) ∧ w'.cell? ⟨w.heap.size + 1, 1, none⟩ = some (.slice p n cap) ∧ w.heap.size + 1 < w'.heap.size) ((refine ⟨?_, ?_, ?_, ?_, ?_⟩ <;> first | with_reducible assumption | ((repeat first | rw [cell_set_far _ _ _ _ _ _ (by first | exact Nat.ne_of_lt (by with_reducible assumption) | exact Nat.ne_of_gt (by with_reducible assumption) | omega)] | rw [cell_alloc_drew _ _ _ _ (by first | with_reducible assumption | omega | (simp only [World.size_alloc, World.size_drew]; omega))] | rw [cell_alloc_before _ _ _ _ (by first | with_reducible assumption | omega | (simp only [World.size_alloc, World.size_drew]; omega))] | rw [cell_drew]); with_reducible assumption) | (simp; done) | (simp; with_reducible assumption) | (simp [World.setCell]; first | done | with_reducible assumption | omega))) ((first | (go_at_call 14; refine (toFormat_any e f _).mono ?_; rintro rv w2 ⟨rfl, hb⟩; (first | (have mk := mtz; have o0 := (hb.cells _ _ mtz).trans m0; have o1 := (hb.cells _ _ mtz).trans m1; have oz0 := (hb.frz _ _ mtz).trans mz0; have oz1 := (hb.frz _ _ mtz).trans mz1; have ot := hb.lt mtz; clear m0 m1 mz0 mz1 mtz; have m0 := o0; have m1 := o1; have mz0 := oz0; have mz1 := oz1; have mtz := ot; clear o0 o1 oz0 oz1 ot) | (with_reducible have q2 := Ext.new2 (u := .int .i64 0) (v := .slice none 0 0) hb; obtain ⟨m0, m1, mz0, mz1, mtz⟩ := q2; try simp only [World.size_alloc, World.size_drew, Nat.add_assoc, Nat.reduceAdd] at m0 m1 mz0 mz1 mtz) | (with_reducible have q2 := Ext.new2d (u := .int .i64 0) (v := .slice none 0 0) hb; obtain ⟨m0, m1, mz0, mz1, mtz⟩ := q2; try simp only [World.size_alloc, World.size_drew, Nat.add_assoc, Nat.reduceAdd] at m0 m1 mz0 mz1 mtz) | skip); have hb0 : Ext w1 w2 := Ext.trans (by repeat (first | (with_reducible exact Ext.refl _) | with_reducible assumption | (with_reducible apply Ext.alloc) | (with_reducible apply Ext.drew) | (with_reducible apply Ext.drewN) | (with_reducible refine Ext.setRow ?_ (by first | (simp; done) | (simp; omega) | omega) _) | (with_reducible refine Ext.setCell ?_ (by first | (simp; done) | (simp; omega) | omega) _) | (with_reducible refine Ext.trans ?_ (by with_reducible assumption)))) hb; have xx := hb0; have z2 : w1.heap.size ≤ w2.heap.size := hb0.size; have x2 : Ext w w2 := Ext.trans x1 hb0; have u0_2 : w.heap.size < w2.heap.size := hb0.lt u0_1; have c0_0_2 : w2.cell? ⟨w.heap.size, 0, none⟩ = some (.int .i64 e) := (hb0.cells _ _ u0_1).trans c0_0_1; have c0_1_2 : w2.cell? ⟨w.heap.size, 1, none⟩ = some (.int .i64 f) := (hb0.cells _ _ u0_1).trans c0_1_1; have u1_2 : w.heap.size + 1 < w2.heap.size := hb0.lt u1_1; have c1_0_2 : w2.cell? ⟨w.heap.size + 1, 0, none⟩ = some (.int .i64 P) := (hb0.cells _ _ u1_1).trans c1_0_1; have c1_1_2 : w2.cell? ⟨w.heap.size + 1, 1, none⟩ = some (.slice p n cap) := (hb0.cells _ _ u1_1).trans c1_1_1; clear x1 u0_1 u1_1 c0_0_1 c0_1_1 c1_0_1 c1_1_1; clear hb hb0) | (go_at_call 25; refine (toBlock_any P p n cap V hn _ (hold.ext (by repeat (first | (with_reducible exact Ext.refl _) | with_reducible assumption | (with_reducible apply Ext.alloc) | (with_reducible apply Ext.drew) | (with_reducible apply Ext.drewN) | (with_reducible refine Ext.setRow ?_ (by first | (simp; done) | (simp; omega) | omega) _) | (with_reducible refine Ext.setCell ?_ (by first | (simp; done) | (simp; omega) | omega) _) | (with_reducible refine Ext.trans ?_ (by with_reducible assumption)))))).mono ?_; rintro rv w3 ⟨t3, rfl, _, r3, hb⟩; (first | (have mk := mtz; have o0 := (hb.cells _ _ mtz).trans m0; have o1 := (hb.cells _ _ mtz).trans m1; have oz0 := (hb.frz _ _ mtz).trans mz0; have oz1 := (hb.frz _ _ mtz).trans mz1; have ot := hb.lt mtz; clear m0 m1 mz0 mz1 mtz; have m0 := o0; have m1 := o1; have mz0 := oz0; have mz1 := oz1; have mtz := ot; clear o0 o1 oz0 oz1 ot) | (with_reducible have q2 := Ext.new2 (u := .int .i64 0) (v := .slice none 0 0) hb; obtain ⟨m0, m1, mz0, mz1, mtz⟩ := q2; try simp only [World.size_alloc, World.size_drew, Nat.add_assoc, Nat.reduceAdd] at m0 m1 mz0 mz1 mtz) | (with_reducible have q2 := Ext.new2d (u := .int .i64 0) (v := .slice none 0 0) hb; obtain ⟨m0, m1, mz0, mz1, mtz⟩ := q2; try simp only [World.size_alloc, World.size_drew, Nat.add_assoc, Nat.reduceAdd] at m0 m1 mz0 mz1 mtz) | skip); have hb0 : Ext w2 w3 := Ext.trans (by repeat (first | (with_reducible exact Ext.refl _) | with_reducible assumption | (with_reducible apply Ext.alloc) | (with_reducible apply Ext.drew) | (with_reducible apply Ext.drewN) | (with_reducible refine Ext.setRow ?_ (by first | (simp; done) | (simp; omega) | omega) _) | (with_reducible refine Ext.setCell ?_ (by first | (simp; done) | (simp; omega) | omega) _) | (with_reducible refine Ext.trans ?_ (by with_reducible assumption)))) hb; have xy := Ext.trans xx hb0; clear xx; have xx := xy; clear xy; have z3 : w2.heap.size ≤ w3.heap.size := hb0.size; have x3 : Ext w w3 := Ext.trans x2 hb0; have u0_3 : w.heap.size < w3.heap.size := hb0.lt u0_2; have c0_0_3 : w3.cell? ⟨w.heap.size, 0, none⟩ = some (.int .i64 e) := (hb0.cells _ _ u0_2).trans c0_0_2; have c0_1_3 : w3.cell? ⟨w.heap.size, 1, none⟩ = some (.int .i64 f) := (hb0.cells _ _ u0_2).trans c0_1_2; have u1_3 : w.heap.size + 1 < w3.heap.size := hb0.lt u1_2; have c1_0_3 : w3.cell? ⟨w.heap.size + 1, 0, none⟩ = some (.int .i64 P) := (hb0.cells _ _ u1_2).trans c1_0_2; have c1_1_3 : w3.cell? ⟨w.heap.size + 1, 1, none⟩ = some (.slice p n cap) := (hb0.cells _ _ u1_2).trans c1_1_2; clear x2 u0_2 u1_2 c0_0_2 c0_1_2 c1_0_2 c1_1_2; clear hb hb0) | (go_at_call 30; refine (SA.out _ _ (row_ext r3 (by repeat (first | (with_reducible exact Ext.refl _) | with_reducible assumption | (with_reducible apply Ext.alloc) | (with_reducible apply Ext.drew) | (with_reducible apply Ext.drewN) | (with_reducible refine Ext.setRow ?_ (by first | (simp; done) | (simp; omega) | omega) _) | (with_reducible refine Ext.setCell ?_ (by first | (simp; done) | (simp; omega) | omega) _) | (with_reducible refine Ext.trans ?_ (by with_reducible assumption)))))).mono ?_; rintro rv w4 ⟨pS, cS, rfl, S4, PS4, hb⟩; (first | (have mk := mtz; have o0 := (hb.cells _ _ mtz).trans m0; have o1 := (hb.cells _ _ mtz).trans m1; have oz0 := (hb.frz _ _ mtz).trans mz0; have oz1 := (hb.frz _ _ mtz).trans mz1; have ot := hb.lt mtz; clear m0 m1 mz0 mz1 mtz; have m0 := o0; have m1 := o1; have mz0 := oz0; have mz1 := oz1; have mtz := ot; clear o0 o1 oz0 oz1 ot) | (with_reducible have q2 := Ext.new2 (u := .int .i64 0) (v := .slice none 0 0) hb; obtain ⟨m0, m1, mz0, mz1, mtz⟩ := q2; try simp only [World.size_alloc, World.size_drew, Nat.add_assoc, Nat.reduceAdd] at m0 m1 mz0 mz1 mtz) | (with_reducible have q2 := Ext.new2d (u := .int .i64 0) (v := .slice none 0 0) hb; obtain ⟨m0, m1, mz0, mz1, mtz⟩ := q2; try simp only [World.size_alloc, World.size_drew, Nat.add_assoc, Nat.reduceAdd] at m0 m1 mz0 mz1 mtz) | skip); have hb0 : Ext w3 w4 := Ext.trans (by repeat (first | (with_reducible exact Ext.refl _) | with_reducible assumption | (with_reducible apply Ext.alloc) | (with_reducible apply Ext.drew) | (with_reducible apply Ext.drewN) | (with_reducible refine Ext.setRow ?_ (by first | (simp; done) | (simp; omega) | omega) _) | (with_reducible refine Ext.setCell ?_ (by first | (simp; done) | (simp; omega) | omega) _) | (with_reducible refine Ext.trans ?_ (by with_reducible assumption)))) hb; have xy := Ext.trans xx hb0; clear xx; have xx := xy; clear xy; have z4 : w3.heap.size ≤ w4.heap.size := hb0.size; have x4 : Ext w w4 := Ext.trans x3 hb0; have u0_4 : w.heap.size < w4.heap.size := hb0.lt u0_3; have c0_0_4 : w4.cell? ⟨w.heap.size, 0, none⟩ = some (.int .i64 e) := (hb0.cells _ _ u0_3).trans c0_0_3; have c0_1_4 : w4.cell? ⟨w.heap.size, 1, none⟩ = some (.int .i64 f) := (hb0.cells _ _ u0_3).trans c0_1_3; have u1_4 : w.heap.size + 1 < w4.heap.size := hb0.lt u1_3; have c1_0_4 : w4.cell? ⟨w.heap.size + 1, 0, none⟩ = some (.int .i64 P) := (hb0.cells _ _ u1_3).trans c1_0_3; have c1_1_4 : w4.cell? ⟨w.heap.size + 1, 1, none⟩ = some (.slice p n cap) := (hb0.cells _ _ u1_3).trans c1_1_3; have r4 := row_ext r3 hb0; clear x3 u0_3 u1_3 c0_0_3 c0_1_3 c1_0_3 c1_1_3 r3; clear r4; clear hb hb0)))
      all_goals (go_wp2_with fail; go_meet; exact ⟨_, pS, cS, rfl, (by rw [HB.out]), (by repeat (first | exact xx | apply Ext.alloc | apply Ext.drew | (refine Ext.setRow ?_ (by first | (simp; done) | (simp; with_reducible assumption) | (simp; omega) | omega) _) | (refine Ext.setCell ?_ (by first | (simp; done) | (simp; with_reducible assumption) | (simp; omega) | omega) _))), (by first | exact (set2m_cells m0 m1).1 | exact (new2m_cells _ _ _ _).1 | (simp [go_sem]; done)), (by first | exact (set2m_cells m0 m1).2 | exact (new2m_cells _ _ _ _).2 | (simp [go_sem]; done)), (by first | with_reducible assumption | (simp; done) | (simp; with_reducible assumption) | (simp; omega) | omega | (simp; done) | (simp; omega) | (simp [World.setCell]; done) | (simp [World.setCell]; omega)), (by first | with_reducible assumption | (simp; done) | (simp; with_reducible assumption) | (simp; omega) | omega | (simp; done) | (simp; omega) | (simp [World.setCell]; done) | (simp [World.setCell]; omega)), (by first | exact own_far2 S4 PS4 (by first | with_reducible assumption | (simp; done) | (simp; with_reducible assumption) | (simp; omega) | omega | (simp; done) | (simp; omega) | (simp [World.setCell]; done) | (simp [World.setCell]; omega)) | exact S4.ext (by repeat (first | (with_reducible exact Ext.refl _) | with_reducible assumption | (with_reducible apply Ext.alloc) | (with_reducible apply Ext.drew) | (with_reducible apply Ext.drewN) | (with_reducible refine Ext.setRow ?_ (by first | (simp; done) | (simp; omega) | omega) _) | (with_reducible refine Ext.setCell ?_ (by first | (simp; done) | (simp; omega) | omega) _) | (with_reducible refine Ext.trans ?_ (by with_reducible assumption)))) | exact S4), PS4.le (by first | with_reducible assumption | (simp; done) | (simp; with_reducible assumption) | (simp; omega) | omega | (simp; done) | (simp; omega) | (simp [World.setCell]; done) | (simp [World.setCell]; omega)), (fun hn b hb2 => by have h1 := PS4 hn b hb2; have h2 := S4.lt hn hb2; (try simp only [World.size_alloc, World.size_drew] at h1); omega)⟩)
    case rest =>
      obtain ⟨gS, pS, cS, hsp, hsb, hb0, c2_0_2, c2_1_2, y2, u2_2, S2, PS, NS⟩ := hcut
      rw [HB.out] at hsb
      subst hsp
      subst hsb
      obtain ⟨w2, hwq⟩ : ∃ x, x = wc := ⟨_, rfl⟩
      subst hwq
      have z2 : w1.heap.size ≤ w2.heap.size := hb0.size
      have x2 : Ext w w2 := Ext.trans x1 hb0
      have u0_2 : w.heap.size < w2.heap.size := hb0.lt u0_1
      have c0_0_2 : w2.cell? ⟨w.heap.size, 0, none⟩ = some (.int .i64 e) := (hb0.cells _ _ u0_1).trans c0_0_1
      have c0_1_2 : w2.cell? ⟨w.heap.size, 1, none⟩ = some (.int .i64 f) := (hb0.cells _ _ u0_1).trans c0_1_1
      have u1_2 : w.heap.size + 1 < w2.heap.size := hb0.lt u1_1
      have c1_0_2 : w2.cell? ⟨w.heap.size + 1, 0, none⟩ = some (.int .i64 P) := (hb0.cells _ _ u1_1).trans c1_0_1
      have c1_1_2 : w2.cell? ⟨w.heap.size + 1, 1, none⟩ = some (.slice p n cap) := (hb0.cells _ _ u1_1).trans c1_1_1
      clear x1 u0_1 u1_1 c0_0_1 c0_1_1 c1_0_1 c1_1_1
      have QS1 := u1_2
      have QS2 := u2_2
      have KS : 0 < m → ∀ b, pS = some (⟨b, 0, none⟩ : Addr) → b < w2.heap.size := fun hn b hb => S2.lt hn hb
      clear hb0
      go_wp2_with fail
      go_at_call 25
      refine (toBlock_any P p n cap V hn _ (hold.ext (by repeat (first | (with_reducible exact Ext.refl _) | with_reducible assumption | (with_reducible apply Ext.alloc) | (with_reducible apply Ext.drew) | (with_reducible apply Ext.drewN) | (with_reducible refine Ext.setRow ?_ (by first | (simp; done) | (simp; omega) | omega) _) | (with_reducible refine Ext.setCell ?_ (by first | (simp; done) | (simp; omega) | omega) _) | (with_reducible refine Ext.trans ?_ (by with_reducible assumption)))))).mono ?_
      rintro rv w3 ⟨t4, rfl, q4, r3, hb⟩
      have hb0 : Ext w2 w3 := Ext.trans (by repeat (first | (with_reducible exact Ext.refl _) | with_reducible assumption | (with_reducible apply Ext.alloc) | (with_reducible apply Ext.drew) | (with_reducible apply Ext.drewN) | (with_reducible refine Ext.setRow ?_ (by first | (simp; done) | (simp; omega) | omega) _) | (with_reducible refine Ext.setCell ?_ (by first | (simp; done) | (simp; omega) | omega) _) | (with_reducible refine Ext.trans ?_ (by with_reducible assumption)))) hb
      have z3 : w2.heap.size ≤ w3.heap.size := hb0.size
      have x3 : Ext w w3 := Ext.trans x2 hb0
      have u0_3 : w.heap.size < w3.heap.size := hb0.lt u0_2
      have c0_0_3 : w3.cell? ⟨w.heap.size, 0, none⟩ = some (.int .i64 e) := (hb0.cells _ _ u0_2).trans c0_0_2
      have c0_1_3 : w3.cell? ⟨w.heap.size, 1, none⟩ = some (.int .i64 f) := (hb0.cells _ _ u0_2).trans c0_1_2
      have u1_3 : w.heap.size + 1 < w3.heap.size := hb0.lt u1_2
      have c1_0_3 : w3.cell? ⟨w.heap.size + 1, 0, none⟩ = some (.int .i64 P) := (hb0.cells _ _ u1_2).trans c1_0_2
      have c1_1_3 : w3.cell? ⟨w.heap.size + 1, 1, none⟩ = some (.slice p n cap) := (hb0.cells _ _ u1_2).trans c1_1_2
      have u2_3 : gS < w3.heap.size := hb0.lt u2_2
      have c2_0_3 : w3.cell? ⟨gS, 0, none⟩ = some (.int .i64 R) := (hb0.cells _ _ u2_2).trans c2_0_2
      have c2_1_3 : w3.cell? ⟨gS, 1, none⟩ = some (.slice pS m cS) := (hb0.cells _ _ u2_2).trans c2_1_2
      have S3 := S2.ext hb0
      clear x2 u0_2 u1_2 u2_2 c0_0_2 c0_1_2 c1_0_2 c1_1_2 c2_0_2 c2_1_2 S2
      have X3 := row_own r3
      have q4b : w2.heap.size ≤ t4 := by first | exact q4 | (simp at q4; omega)
      have q4c := r3.lt
      clear q4
      clear hb hb0
      go_wp2_with fail
      try clear PS
      try clear NS
      try clear k0x0
      try clear k0x1
      try clear k0x2
      try clear k0x3
      try clear k1x0
      try clear k1x1
      try clear k1x2
      try clear k1x3
      try clear k2x0
      try clear k2x1
      try clear k2x2
      try clear k2x3
      try clear k3x0
      try clear k3x1
      try clear k3x2
      try clear k3x3
      try clear k4x0
      try clear k4x1
      try clear k4x2
      try clear k4x3
      try clear k5x0
      try clear k5x1
      try clear k5x2
      try clear k5x3
      have k0x3 := u0_3
      have k1x3 := u1_3
      have k2x3 := u2_3
      go_upto_region 7 with fail
      go_cut [13, 14] (fun sp sb wx => ∃ (gG : Nat) (pG : Option Addr) (cG : Nat), sp = .pointer (some ⟨gG, 0, none⟩) ∧ sb = .bool B0 ∧ Ext w3 wx ∧ wx.cell? ⟨gG, 0, none⟩ = some (.int .i64 R) ∧ wx.cell? ⟨gG, 1, none⟩ = some (.slice pG m cG) ∧ wx.cell? ⟨w3.heap.size, 0, none⟩ = some (.int .i64 P) ∧ wx.cell? ⟨w3.heap.size, 1, none⟩ = some (.slice (some ⟨t4, 0, none⟩) n n) ∧ w3.heap.size < wx.heap.size ∧ w3.heap.size ≤ gG ∧ w3.heap.size < gG ∧ gG < wx.heap.size ∧ OwnL wx pG m Q ∧ Past pG m (w3.heap.size + 1) ∧ (0 < m → ∀ b, pG = some (⟨b, 0, none⟩ : Addr) → b ≠ gG))
      case first =>
        clear u1_3
        clear c1_0_3
        clear c1_1_3
        clear u2_3
        clear c2_0_3
        clear c2_1_3
        clear S3
        clear X3
        (try clear KX); (try clear PX); (try clear KG); (try clear PG2); (try clear KS); (try clear EQN); (try clear MKN); (try clear MKM); (try clear EQM); (try clear HLM); (try clear hM0); (try clear hN0)
        go_region_held3 (fun w' => w'.cell? ⟨w.heap.size, 0, none⟩ = some (.int .i64 e) ∧ w'.cell? ⟨w.heap.size, 1, none⟩ = some (.int .i64 f) ∧ w'.cell? ⟨w3.heap.size, 0, none⟩ = some (.int .i64 P) ∧ w'.cell? ⟨w3.heap.size, 1, none⟩ = some (.slice (some ⟨t4, 0, none⟩) n n) ∧ w3.heap.size < w'.heap.size) ((refine ⟨?_, ?_, ?_, ?_, ?_⟩ <;> first | with_reducible assumption | ((repeat first | rw [cell_set_far _ _ _ _ _ _ (by first | exact Nat.ne_of_lt (by with_reducible assumption) | exact Nat.ne_of_gt (by with_reducible assumption) | omega)] | rw [cell_alloc_drew _ _ _ _ (by first | with_reducible assumption | omega | (simp only [World.size_alloc, World.size_drew]; omega))] | rw [cell_alloc_before _ _ _ _ (by first | with_reducible assumption | omega | (simp only [World.size_alloc, World.size_drew]; omega))] | rw [cell_drew]); with_reducible assumption) | (simp; done) | (simp; with_reducible assumption) | (simp [World.setCell]; first | done | with_reducible assumption | omega))) ((first | (go_at_call 14; refine (toFormat_any e f _).mono ?_; rintro rv w4 ⟨rfl, hb⟩; (first | (have mk := mtz; have o0 := (hb.cells _ _ mtz).trans m0; have o1 := (hb.cells _ _ mtz).trans m1; have oz0 := (hb.frz _ _ mtz).trans mz0; have oz1 := (hb.frz _ _ mtz).trans mz1; have ot := hb.lt mtz; clear m0 m1 mz0 mz1 mtz; have m0 := o0; have m1 := o1; have mz0 := oz0; have mz1 := oz1; have mtz := ot; clear o0 o1 oz0 oz1 ot) | (with_reducible have q2 := Ext.new2 (u := .int .i64 0) (v := .slice none 0 0) hb; obtain ⟨m0, m1, mz0, mz1, mtz⟩ := q2; try simp only [World.size_alloc, World.size_drew, Nat.add_assoc, Nat.reduceAdd] at m0 m1 mz0 mz1 mtz) | (with_reducible have q2 := Ext.new2d (u := .int .i64 0) (v := .slice none 0 0) hb; obtain ⟨m0, m1, mz0, mz1, mtz⟩ := q2; try simp only [World.size_alloc, World.size_drew, Nat.add_assoc, Nat.reduceAdd] at m0 m1 mz0 mz1 mtz) | skip); have hb0 : Ext w3 w4 := Ext.trans (by repeat (first | (with_reducible exact Ext.refl _) | with_reducible assumption | (with_reducible apply Ext.alloc) | (with_reducible apply Ext.drew) | (with_reducible apply Ext.drewN) | (with_reducible refine Ext.setRow ?_ (by first | (simp; done) | (simp; omega) | omega) _) | (with_reducible refine Ext.setCell ?_ (by first | (simp; done) | (simp; omega) | omega) _) | (with_reducible refine Ext.trans ?_ (by with_reducible assumption)))) hb; have xx := hb0; have z4 : w3.heap.size ≤ w4.heap.size := hb0.size; have x4 : Ext w w4 := Ext.trans x3 hb0; have u0_4 : w.heap.size < w4.heap.size := hb0.lt u0_3; have c0_0_4 : w4.cell? ⟨w.heap.size, 0, none⟩ = some (.int .i64 e) := (hb0.cells _ _ u0_3).trans c0_0_3; have c0_1_4 : w4.cell? ⟨w.heap.size, 1, none⟩ = some (.int .i64 f) := (hb0.cells _ _ u0_3).trans c0_1_3; have r4 := row_ext r3 hb0; clear x3 u0_3 c0_0_3 c0_1_3 r3; have u1_4 : w3.heap.size < w4.heap.size := hb.lt (by first | (simp; done) | (simp; omega)); have c1_0_4 : w4.cell? ⟨w3.heap.size, 0, none⟩ = some (.int .i64 P) := (hb.cells _ _ (by first | (simp; done) | (simp; omega))).trans (by first | (simp; done) | (simp [go_sem]; done) | (simp [go_sem, *]; done)); have c1_1_4 : w4.cell? ⟨w3.heap.size, 1, none⟩ = some (.slice (some ⟨t4, 0, none⟩) n n) := (hb.cells _ _ (by first | (simp; done) | (simp; omega))).trans (by first | (simp; done) | (simp [go_sem]; done) | (simp [go_sem, *]; done)); clear hb hb0; have kp0 := u1_4) | (go_at_call 31; refine (IA.out _ _ (row_ext r4 (by repeat (first | (with_reducible exact Ext.refl _) | with_reducible assumption | (with_reducible apply Ext.alloc) | (with_reducible apply Ext.drew) | (with_reducible apply Ext.drewN) | (with_reducible refine Ext.setRow ?_ (by first | (simp; done) | (simp; omega) | omega) _) | (with_reducible refine Ext.setCell ?_ (by first | (simp; done) | (simp; omega) | omega) _) | (with_reducible refine Ext.trans ?_ (by with_reducible assumption)))))).mono ?_; rintro rv w5 ⟨pG, cG, rfl, G5, PG5, hb⟩; (first | (have mk := mtz; have o0 := (hb.cells _ _ mtz).trans m0; have o1 := (hb.cells _ _ mtz).trans m1; have oz0 := (hb.frz _ _ mtz).trans mz0; have oz1 := (hb.frz _ _ mtz).trans mz1; have ot := hb.lt mtz; clear m0 m1 mz0 mz1 mtz; have m0 := o0; have m1 := o1; have mz0 := oz0; have mz1 := oz1; have mtz := ot; clear o0 o1 oz0 oz1 ot) | (with_reducible have q2 := Ext.new2 (u := .int .i64 0) (v := .slice none 0 0) hb; obtain ⟨m0, m1, mz0, mz1, mtz⟩ := q2; try simp only [World.size_alloc, World.size_drew, Nat.add_assoc, Nat.reduceAdd] at m0 m1 mz0 mz1 mtz) | (with_reducible have q2 := Ext.new2d (u := .int .i64 0) (v := .slice none 0 0) hb; obtain ⟨m0, m1, mz0, mz1, mtz⟩ := q2; try simp only [World.size_alloc, World.size_drew, Nat.add_assoc, Nat.reduceAdd] at m0 m1 mz0 mz1 mtz) | skip); have hb0 : Ext w4 w5 := Ext.trans (by repeat (first | (with_reducible exact Ext.refl _) | with_reducible assumption | (with_reducible apply Ext.alloc) | (with_reducible apply Ext.drew) | (with_reducible apply Ext.drewN) | (with_reducible refine Ext.setRow ?_ (by first | (simp; done) | (simp; omega) | omega) _) | (with_reducible refine Ext.setCell ?_ (by first | (simp; done) | (simp; omega) | omega) _) | (with_reducible refine Ext.trans ?_ (by with_reducible assumption)))) hb; have xy := Ext.trans xx hb0; clear xx; have xx := xy; clear xy; have z5 : w4.heap.size ≤ w5.heap.size := hb0.size; have x5 : Ext w w5 := Ext.trans x4 hb0; have u0_5 : w.heap.size < w5.heap.size := hb0.lt u0_4; have c0_0_5 : w5.cell? ⟨w.heap.size, 0, none⟩ = some (.int .i64 e) := (hb0.cells _ _ u0_4).trans c0_0_4; have c0_1_5 : w5.cell? ⟨w.heap.size, 1, none⟩ = some (.int .i64 f) := (hb0.cells _ _ u0_4).trans c0_1_4; have u1_5 : w3.heap.size < w5.heap.size := hb0.lt u1_4; have c1_0_5 : w5.cell? ⟨w3.heap.size, 0, none⟩ = some (.int .i64 P) := (hb0.cells _ _ u1_4).trans c1_0_4; have c1_1_5 : w5.cell? ⟨w3.heap.size, 1, none⟩ = some (.slice (some ⟨t4, 0, none⟩) n n) := (hb0.cells _ _ u1_4).trans c1_1_4; have r5 := row_ext r4 hb0; clear x4 u0_4 u1_4 c0_0_4 c0_1_4 c1_0_4 c1_1_4 r4; clear r5; clear hb hb0)))
        all_goals (go_wp2_with fail; go_meet; exact ⟨_, pG, cG, rfl, (by rw [HB.out]), (by repeat (first | exact xx | apply Ext.alloc | apply Ext.drew | (refine Ext.setRow ?_ (by first | (simp; done) | (simp; with_reducible assumption) | (simp; omega) | omega) _) | (refine Ext.setCell ?_ (by first | (simp; done) | (simp; with_reducible assumption) | (simp; omega) | omega) _))), (by first | exact (set2m_cells m0 m1).1 | exact (new2m_cells _ _ _ _).1 | (simp [go_sem]; done)), (by first | exact (set2m_cells m0 m1).2 | exact (new2m_cells _ _ _ _).2 | (simp [go_sem]; done)), (by first | with_reducible assumption | ((repeat first | rw [cell_set_far _ _ _ _ _ _ (by first | exact Nat.ne_of_lt (by with_reducible assumption) | exact Nat.ne_of_gt (by with_reducible assumption) | omega)] | rw [cell_alloc_drew _ _ _ _ (by first | with_reducible assumption | omega | (simp only [World.size_alloc, World.size_drew]; omega))] | rw [cell_alloc_before _ _ _ _ (by first | with_reducible assumption | omega | (simp only [World.size_alloc, World.size_drew]; omega))] | rw [cell_drew]); with_reducible assumption)), (by first | with_reducible assumption | ((repeat first | rw [cell_set_far _ _ _ _ _ _ (by first | exact Nat.ne_of_lt (by with_reducible assumption) | exact Nat.ne_of_gt (by with_reducible assumption) | omega)] | rw [cell_alloc_drew _ _ _ _ (by first | with_reducible assumption | omega | (simp only [World.size_alloc, World.size_drew]; omega))] | rw [cell_alloc_before _ _ _ _ (by first | with_reducible assumption | omega | (simp only [World.size_alloc, World.size_drew]; omega))] | rw [cell_drew]); with_reducible assumption)), (by first | with_reducible assumption | (simp; done) | (simp; with_reducible assumption) | (simp; omega) | omega | (simp; done) | (simp; omega) | (simp [World.setCell]; done) | (simp [World.setCell]; omega)), (by first | with_reducible assumption | (simp; done) | (simp; with_reducible assumption) | (simp; omega) | omega | (simp; done) | (simp; omega) | (simp [World.setCell]; done) | (simp [World.setCell]; omega)), (by first | with_reducible assumption | (simp; done) | (simp; with_reducible assumption) | (simp; omega) | omega | (simp; done) | (simp; omega) | (simp [World.setCell]; done) | (simp [World.setCell]; omega)), (by first | with_reducible assumption | (simp; done) | (simp; with_reducible assumption) | (simp; omega) | omega | (simp; done) | (simp; omega) | (simp [World.setCell]; done) | (simp [World.setCell]; omega)), (by first | exact own_far2 G5 PG5 (by first | with_reducible assumption | (simp; done) | (simp; with_reducible assumption) | (simp; omega) | omega | (simp; done) | (simp; omega) | (simp [World.setCell]; done) | (simp [World.setCell]; omega)) | exact G5.ext (by repeat (first | (with_reducible exact Ext.refl _) | with_reducible assumption | (with_reducible apply Ext.alloc) | (with_reducible apply Ext.drew) | (with_reducible apply Ext.drewN) | (with_reducible refine Ext.setRow ?_ (by first | (simp; done) | (simp; omega) | omega) _) | (with_reducible refine Ext.setCell ?_ (by first | (simp; done) | (simp; omega) | omega) _) | (with_reducible refine Ext.trans ?_ (by with_reducible assumption)))) | exact G5), PG5.le (by first | with_reducible assumption | (simp; done) | (simp; with_reducible assumption) | (simp; omega) | omega | (simp; done) | (simp; omega) | (simp [World.setCell]; done) | (simp [World.setCell]; omega)), (fun hn b hb2 => by have h1 := PG5 hn b hb2; have h2 := G5.lt hn hb2; (try simp only [World.size_alloc, World.size_drew] at h1); omega)⟩)
      case rest =>
        obtain ⟨gG, pG, cG, hsp, hsb, hb0, c4_0_4, c4_1_4, c3_0_4, c3_1_4, u3_4, y4, v4_0, u4_4, G4, PG, NG⟩ := hcut
        rw [HB.out] at hsb
        subst hsp
        subst hsb
        obtain ⟨w4, hwq⟩ : ∃ x, x = wc := ⟨_, rfl⟩
        subst hwq
        have z4 : w3.heap.size ≤ w4.heap.size := hb0.size
        have x4 : Ext w w4 := Ext.trans x3 hb0
        have u0_4 : w.heap.size < w4.heap.size := hb0.lt u0_3
        have c0_0_4 : w4.cell? ⟨w.heap.size, 0, none⟩ = some (.int .i64 e) := (hb0.cells _ _ u0_3).trans c0_0_3
        have c0_1_4 : w4.cell? ⟨w.heap.size, 1, none⟩ = some (.int .i64 f) := (hb0.cells _ _ u0_3).trans c0_1_3
        have u1_4 : w.heap.size + 1 < w4.heap.size := hb0.lt u1_3
        have c1_0_4 : w4.cell? ⟨w.heap.size + 1, 0, none⟩ = some (.int .i64 P) := (hb0.cells _ _ u1_3).trans c1_0_3
        have c1_1_4 : w4.cell? ⟨w.heap.size + 1, 1, none⟩ = some (.slice p n cap) := (hb0.cells _ _ u1_3).trans c1_1_3
        have u2_4 : gS < w4.heap.size := hb0.lt u2_3
        have c2_0_4 : w4.cell? ⟨gS, 0, none⟩ = some (.int .i64 R) := (hb0.cells _ _ u2_3).trans c2_0_3
        have c2_1_4 : w4.cell? ⟨gS, 1, none⟩ = some (.slice pS m cS) := (hb0.cells _ _ u2_3).trans c2_1_3
        have S4 := S3.ext hb0
        have X4 := X3.ext hb0
        have r4 := row_ext r3 hb0
        clear x3 u0_3 u1_3 u2_3 c0_0_3 c0_1_3 c1_0_3 c1_1_3 c2_0_3 c2_1_3 S3 X3 r3
        have KX : 0 < n → ∀ b, (some (⟨t4, 0, none⟩ : Addr)) = some ⟨b, 0, none⟩ → w2.heap.size ≤ b ∧ b < w3.heap.size := fun hn b hb => (by cases hb; omega)
        have PX : Past (some (⟨t4, 0, none⟩ : Addr)) n w.heap.size := fun hn b hb => (by have := KX hn b hb; omega)
        have KG : 0 < m → ∀ b, pG = some (⟨b, 0, none⟩ : Addr) → w3.heap.size ≤ b ∧ w3.heap.size < b ∧ b ≠ gG ∧ b < w4.heap.size := fun hn b hb => ⟨by have := PG hn b hb; omega, by have := PG hn b hb; omega, NG hn b hb, G4.lt hn hb⟩
        have PG2 : Past pG m w.heap.size := PG.le (by omega)
        clear hb0
        go_wp2_with fail
        go_at_call 27
        refine (EQM.out _ _ _ _ _ (G4.ext (by repeat (first | (with_reducible exact Ext.refl _) | with_reducible assumption | (with_reducible apply Ext.alloc) | (with_reducible apply Ext.drew) | (with_reducible apply Ext.drewN) | (with_reducible refine Ext.setRow ?_ (by first | (simp; done) | (simp; omega) | omega) _) | (with_reducible refine Ext.setCell ?_ (by first | (simp; done) | (simp; omega) | omega) _) | (with_reducible refine Ext.trans ?_ (by with_reducible assumption))))) (S4.ext (by repeat (first | (with_reducible exact Ext.refl _) | with_reducible assumption | (with_reducible apply Ext.alloc) | (with_reducible apply Ext.drew) | (with_reducible apply Ext.drewN) | (with_reducible refine Ext.setRow ?_ (by first | (simp; done) | (simp; omega) | omega) _) | (with_reducible refine Ext.setCell ?_ (by first | (simp; done) | (simp; omega) | omega) _) | (with_reducible refine Ext.trans ?_ (by with_reducible assumption)))))).mono ?_
        rintro rv w5 ⟨rfl, hb⟩
        have hb0 : Ext w4 w5 := Ext.trans (by repeat (first | (with_reducible exact Ext.refl _) | with_reducible assumption | (with_reducible apply Ext.alloc) | (with_reducible apply Ext.drew) | (with_reducible apply Ext.drewN) | (with_reducible refine Ext.setRow ?_ (by first | (simp; done) | (simp; omega) | omega) _) | (with_reducible refine Ext.setCell ?_ (by first | (simp; done) | (simp; omega) | omega) _) | (with_reducible refine Ext.trans ?_ (by with_reducible assumption)))) hb
        have z5 : w4.heap.size ≤ w5.heap.size := hb0.size
        have x5 : Ext w w5 := Ext.trans x4 hb0
        have u0_5 : w.heap.size < w5.heap.size := hb0.lt u0_4
        have c0_0_5 : w5.cell? ⟨w.heap.size, 0, none⟩ = some (.int .i64 e) := (hb0.cells _ _ u0_4).trans c0_0_4
        have c0_1_5 : w5.cell? ⟨w.heap.size, 1, none⟩ = some (.int .i64 f) := (hb0.cells _ _ u0_4).trans c0_1_4
        have u1_5 : w.heap.size + 1 < w5.heap.size := hb0.lt u1_4
        have c1_0_5 : w5.cell? ⟨w.heap.size + 1, 0, none⟩ = some (.int .i64 P) := (hb0.cells _ _ u1_4).trans c1_0_4
        have c1_1_5 : w5.cell? ⟨w.heap.size + 1, 1, none⟩ = some (.slice p n cap) := (hb0.cells _ _ u1_4).trans c1_1_4
        have u2_5 : gS < w5.heap.size := hb0.lt u2_4
        have c2_0_5 : w5.cell? ⟨gS, 0, none⟩ = some (.int .i64 R) := (hb0.cells _ _ u2_4).trans c2_0_4
        have c2_1_5 : w5.cell? ⟨gS, 1, none⟩ = some (.slice pS m cS) := (hb0.cells _ _ u2_4).trans c2_1_4
        have u3_5 : w3.heap.size < w5.heap.size := hb0.lt u3_4
        have c3_0_5 : w5.cell? ⟨w3.heap.size, 0, none⟩ = some (.int .i64 P) := (hb0.cells _ _ u3_4).trans c3_0_4
        have c3_1_5 : w5.cell? ⟨w3.heap.size, 1, none⟩ = some (.slice (some ⟨t4, 0, none⟩) n n) := (hb0.cells _ _ u3_4).trans c3_1_4
        have u4_5 : gG < w5.heap.size := hb0.lt u4_4
        have c4_0_5 : w5.cell? ⟨gG, 0, none⟩ = some (.int .i64 R) := (hb0.cells _ _ u4_4).trans c4_0_4
        have c4_1_5 : w5.cell? ⟨gG, 1, none⟩ = some (.slice pG m cG) := (hb0.cells _ _ u4_4).trans c4_1_4
        have S5 := S4.ext hb0
        have X5 := X4.ext hb0
        have G5 := G4.ext hb0
        clear x4 u0_4 u1_4 u2_4 u3_4 u4_4 c0_0_4 c0_1_4 c1_0_4 c1_1_4 c2_0_4 c2_1_4 c3_0_4 c3_1_4 c4_0_4 c4_1_4 S4 X4 G4
        clear hb hb0
        go_wp2_with fail
        go_region_held3 (fun w' => w'.cell? ⟨w.heap.size, 0, none⟩ = some (.int .i64 e) ∧ w'.cell? ⟨w.heap.size, 1, none⟩ = some (.int .i64 f) ∧ w'.cell? ⟨w.heap.size + 1, 0, none⟩ = some (.int .i64 P) ∧ w'.cell? ⟨w.heap.size + 1, 1, none⟩ = some (.slice p n cap) ∧ w'.cell? ⟨gS, 0, none⟩ = some (.int .i64 R) ∧ w'.cell? ⟨gS, 1, none⟩ = some (.slice pS m cS) ∧ w'.cell? ⟨w3.heap.size, 0, none⟩ = some (.int .i64 P) ∧ w'.cell? ⟨w3.heap.size, 1, none⟩ = some (.slice (some ⟨t4, 0, none⟩) n n) ∧ w'.cell? ⟨gG, 0, none⟩ = some (.int .i64 R) ∧ w'.cell? ⟨gG, 1, none⟩ = some (.slice pG m cG) ∧ gG < w'.heap.size) ((refine ⟨?_, ?_, ?_, ?_, ?_, ?_, ?_, ?_, ?_, ?_, ?_⟩ <;> first | with_reducible assumption | ((repeat first | rw [cell_set_far _ _ _ _ _ _ (by omega)] | rw [cell_alloc_before _ _ _ _ (by omega)] | rw [cell_alloc_drew _ _ _ _ (by omega)] | rw [cell_drew]); with_reducible assumption) | ((rw [cell_setRow_far _ _ _ _ _ (by omega)]); with_reducible assumption) | ((rw [setRow_size]); with_reducible assumption) | (simp; done) | (simp [World.setCell]; first | done | omega) | (simp [go_sem, World.cell?_alloc_past, World.cell?_setCell_far, *]; done))) ((first | (go_at_call 25; refine (toBlock_any P p n cap V hn _ (hold.ext (by repeat (first | (with_reducible exact Ext.refl _) | with_reducible assumption | (with_reducible apply Ext.alloc) | (with_reducible apply Ext.drew) | (with_reducible apply Ext.drewN) | (with_reducible refine Ext.setRow ?_ (by first | (simp; done) | (simp; omega) | omega) _) | (with_reducible refine Ext.setCell ?_ (by first | (simp; done) | (simp; omega) | omega) _) | (with_reducible refine Ext.trans ?_ (by with_reducible assumption)))))).mono ?_; rintro rv w6 ⟨t6, rfl, _, r6, hb⟩; have hb0 : Ext w5 w6 := Ext.trans (by repeat (first | (with_reducible exact Ext.refl _) | with_reducible assumption | (with_reducible apply Ext.alloc) | (with_reducible apply Ext.drew) | (with_reducible apply Ext.drewN) | (with_reducible refine Ext.setRow ?_ (by first | (simp; done) | (simp; omega) | omega) _) | (with_reducible refine Ext.setCell ?_ (by first | (simp; done) | (simp; omega) | omega) _) | (with_reducible refine Ext.trans ?_ (by with_reducible assumption)))) hb; have z6 : w5.heap.size ≤ w6.heap.size := hb0.size; have x6 : Ext w w6 := Ext.trans x5 hb0; have u0_6 : w.heap.size < w6.heap.size := hb0.lt u0_5; have c0_0_6 : w6.cell? ⟨w.heap.size, 0, none⟩ = some (.int .i64 e) := (hb0.cells _ _ u0_5).trans c0_0_5; have c0_1_6 : w6.cell? ⟨w.heap.size, 1, none⟩ = some (.int .i64 f) := (hb0.cells _ _ u0_5).trans c0_1_5; have u1_6 : w.heap.size + 1 < w6.heap.size := hb0.lt u1_5; have c1_0_6 : w6.cell? ⟨w.heap.size + 1, 0, none⟩ = some (.int .i64 P) := (hb0.cells _ _ u1_5).trans c1_0_5; have c1_1_6 : w6.cell? ⟨w.heap.size + 1, 1, none⟩ = some (.slice p n cap) := (hb0.cells _ _ u1_5).trans c1_1_5; have u2_6 : gS < w6.heap.size := hb0.lt u2_5; have c2_0_6 : w6.cell? ⟨gS, 0, none⟩ = some (.int .i64 R) := (hb0.cells _ _ u2_5).trans c2_0_5; have c2_1_6 : w6.cell? ⟨gS, 1, none⟩ = some (.slice pS m cS) := (hb0.cells _ _ u2_5).trans c2_1_5; have u3_6 : w3.heap.size < w6.heap.size := hb0.lt u3_5; have c3_0_6 : w6.cell? ⟨w3.heap.size, 0, none⟩ = some (.int .i64 P) := (hb0.cells _ _ u3_5).trans c3_0_5; have c3_1_6 : w6.cell? ⟨w3.heap.size, 1, none⟩ = some (.slice (some ⟨t4, 0, none⟩) n n) := (hb0.cells _ _ u3_5).trans c3_1_5; have u4_6 : gG < w6.heap.size := hb0.lt u4_5; have c4_0_6 : w6.cell? ⟨gG, 0, none⟩ = some (.int .i64 R) := (hb0.cells _ _ u4_5).trans c4_0_5; have c4_1_6 : w6.cell? ⟨gG, 1, none⟩ = some (.slice pG m cG) := (hb0.cells _ _ u4_5).trans c4_1_5; have S6 := S5.ext hb0; have X6 := X5.ext hb0; have G6 := G5.ext hb0; clear x5 u0_5 u1_5 u2_5 u3_5 u4_5 c0_0_5 c0_1_5 c1_0_5 c1_1_5 c2_0_5 c2_1_5 c3_0_5 c3_1_5 c4_0_5 c4_1_5 S5 X5 G5; clear hb hb0) | (go_at_call 27; refine (EQN.out _ _ _ _ _ (X6.ext (by repeat (first | (with_reducible exact Ext.refl _) | with_reducible assumption | (with_reducible apply Ext.alloc) | (with_reducible apply Ext.drew) | (with_reducible apply Ext.drewN) | (with_reducible refine Ext.setRow ?_ (by first | (simp; done) | (simp; omega) | omega) _) | (with_reducible refine Ext.setCell ?_ (by first | (simp; done) | (simp; omega) | omega) _) | (with_reducible refine Ext.trans ?_ (by with_reducible assumption))))) ((row_own r6).ext (by repeat (first | (with_reducible exact Ext.refl _) | with_reducible assumption | (with_reducible apply Ext.alloc) | (with_reducible apply Ext.drew) | (with_reducible apply Ext.drewN) | (with_reducible refine Ext.setRow ?_ (by first | (simp; done) | (simp; omega) | omega) _) | (with_reducible refine Ext.setCell ?_ (by first | (simp; done) | (simp; omega) | omega) _) | (with_reducible refine Ext.trans ?_ (by with_reducible assumption)))))).mono ?_; rintro rv w7 ⟨rfl, hb⟩; have hb0 : Ext w6 w7 := Ext.trans (by repeat (first | (with_reducible exact Ext.refl _) | with_reducible assumption | (with_reducible apply Ext.alloc) | (with_reducible apply Ext.drew) | (with_reducible apply Ext.drewN) | (with_reducible refine Ext.setRow ?_ (by first | (simp; done) | (simp; omega) | omega) _) | (with_reducible refine Ext.setCell ?_ (by first | (simp; done) | (simp; omega) | omega) _) | (with_reducible refine Ext.trans ?_ (by with_reducible assumption)))) hb; have z7 : w6.heap.size ≤ w7.heap.size := hb0.size; have x7 : Ext w w7 := Ext.trans x6 hb0; have u0_7 : w.heap.size < w7.heap.size := hb0.lt u0_6; have c0_0_7 : w7.cell? ⟨w.heap.size, 0, none⟩ = some (.int .i64 e) := (hb0.cells _ _ u0_6).trans c0_0_6; have c0_1_7 : w7.cell? ⟨w.heap.size, 1, none⟩ = some (.int .i64 f) := (hb0.cells _ _ u0_6).trans c0_1_6; have u1_7 : w.heap.size + 1 < w7.heap.size := hb0.lt u1_6; have c1_0_7 : w7.cell? ⟨w.heap.size + 1, 0, none⟩ = some (.int .i64 P) := (hb0.cells _ _ u1_6).trans c1_0_6; have c1_1_7 : w7.cell? ⟨w.heap.size + 1, 1, none⟩ = some (.slice p n cap) := (hb0.cells _ _ u1_6).trans c1_1_6; have u2_7 : gS < w7.heap.size := hb0.lt u2_6; have c2_0_7 : w7.cell? ⟨gS, 0, none⟩ = some (.int .i64 R) := (hb0.cells _ _ u2_6).trans c2_0_6; have c2_1_7 : w7.cell? ⟨gS, 1, none⟩ = some (.slice pS m cS) := (hb0.cells _ _ u2_6).trans c2_1_6; have u3_7 : w3.heap.size < w7.heap.size := hb0.lt u3_6; have c3_0_7 : w7.cell? ⟨w3.heap.size, 0, none⟩ = some (.int .i64 P) := (hb0.cells _ _ u3_6).trans c3_0_6; have c3_1_7 : w7.cell? ⟨w3.heap.size, 1, none⟩ = some (.slice (some ⟨t4, 0, none⟩) n n) := (hb0.cells _ _ u3_6).trans c3_1_6; have u4_7 : gG < w7.heap.size := hb0.lt u4_6; have c4_0_7 : w7.cell? ⟨gG, 0, none⟩ = some (.int .i64 R) := (hb0.cells _ _ u4_6).trans c4_0_6; have c4_1_7 : w7.cell? ⟨gG, 1, none⟩ = some (.slice pG m cG) := (hb0.cells _ _ u4_6).trans c4_1_6; have S7 := S6.ext hb0; have X7 := X6.ext hb0; have G7 := G6.ext hb0; have r7 := row_ext r6 hb0; clear x6 u0_6 u1_6 u2_6 u3_6 u4_6 c0_0_6 c0_1_6 c1_0_6 c1_1_6 c2_0_6 c2_1_6 c3_0_6 c3_1_6 c4_0_6 c4_1_6 S6 X6 G6 r6; clear r7; clear hb hb0)))
        go_wp2_with fail
        go_at_call 28
        refine (MKN.out _ _ _ X7).mono ?_
        rintro rv w8 ⟨rfl, hm0⟩
        have hm := hm0
        clear hm0
        have z8 : w7.heap.size ≤ w8.heap.size := hm.size
        have x8 : Ext w w8 := markB_ext x7 hm PX
        have u0_8 : w.heap.size < w8.heap.size := by omega
        have f0_8 : w8.heap[w.heap.size]? = w7.heap[w.heap.size]? := hm.far _ u0_7 (fun hn b hb2 => by have hbb := KX hn b hb2; omega)
        have c0_0_8 : w8.cell? ⟨w.heap.size, 0, none⟩ = some (.int .i64 e) := (World.cell?_of_block f0_8).trans c0_0_7
        have c0_1_8 : w8.cell? ⟨w.heap.size, 1, none⟩ = some (.int .i64 f) := (World.cell?_of_block f0_8).trans c0_1_7
        have u1_8 : w.heap.size + 1 < w8.heap.size := by omega
        have f1_8 : w8.heap[w.heap.size + 1]? = w7.heap[w.heap.size + 1]? := hm.far _ u1_7 (fun hn b hb2 => by have hbb := KX hn b hb2; omega)
        have c1_0_8 : w8.cell? ⟨w.heap.size + 1, 0, none⟩ = some (.int .i64 P) := (World.cell?_of_block f1_8).trans c1_0_7
        have c1_1_8 : w8.cell? ⟨w.heap.size + 1, 1, none⟩ = some (.slice p n cap) := (World.cell?_of_block f1_8).trans c1_1_7
        have u2_8 : gS < w8.heap.size := by omega
        have f2_8 : w8.heap[gS]? = w7.heap[gS]? := hm.far _ u2_7 (fun hn b hb2 => by have hbb := KX hn b hb2; omega)
        have c2_0_8 : w8.cell? ⟨gS, 0, none⟩ = some (.int .i64 R) := (World.cell?_of_block f2_8).trans c2_0_7
        have c2_1_8 : w8.cell? ⟨gS, 1, none⟩ = some (.slice pS m cS) := (World.cell?_of_block f2_8).trans c2_1_7
        have u3_8 : w3.heap.size < w8.heap.size := by omega
        have f3_8 : w8.heap[w3.heap.size]? = w7.heap[w3.heap.size]? := hm.far _ u3_7 (fun hn b hb2 => by have hbb := KX hn b hb2; omega)
        have c3_0_8 : w8.cell? ⟨w3.heap.size, 0, none⟩ = some (.int .i64 P) := (World.cell?_of_block f3_8).trans c3_0_7
        have c3_1_8 : w8.cell? ⟨w3.heap.size, 1, none⟩ = some (.slice (some ⟨t4, 0, none⟩) n n) := (World.cell?_of_block f3_8).trans c3_1_7
        have u4_8 : gG < w8.heap.size := by omega
        have f4_8 : w8.heap[gG]? = w7.heap[gG]? := hm.far _ u4_7 (fun hn b hb2 => by have hbb := KX hn b hb2; omega)
        have c4_0_8 : w8.cell? ⟨gG, 0, none⟩ = some (.int .i64 R) := (World.cell?_of_block f4_8).trans c4_0_7
        have c4_1_8 : w8.cell? ⟨gG, 1, none⟩ = some (.slice pG m cG) := (World.cell?_of_block f4_8).trans c4_1_7
        have S8 := S7.block (fun hn b hb2 => hm.far _ (S7.lt hn hb2) (fun hn2 b2 hb3 => by have hbb := KX hn2 b2 hb3; have hbc := KS hn b hb2; omega))
        have G8 := G7.block (fun hn b hb2 => hm.far _ (G7.lt hn hb2) (fun hn2 b2 hb3 => by have hbb := KX hn2 b2 hb3; have hbc := KG hn b hb2; omega))
        clear hm x7 u0_7 u1_7 u2_7 u3_7 u4_7 f0_8 f1_8 f2_8 f3_8 f4_8 c0_0_7 c0_1_7 c1_0_7 c1_1_7 c2_0_7 c2_1_7 c3_0_7 c3_1_7 c4_0_7 c4_1_7 S7 X7 G7
        go_wp2_with fail
        go_at_call 27
        refine (EQM.out _ _ _ _ _ (G8.ext (by repeat (first | (with_reducible exact Ext.refl _) | with_reducible assumption | (with_reducible apply Ext.alloc) | (with_reducible apply Ext.drew) | (with_reducible apply Ext.drewN) | (with_reducible refine Ext.setRow ?_ (by first | (simp; done) | (simp; omega) | omega) _) | (with_reducible refine Ext.setCell ?_ (by first | (simp; done) | (simp; omega) | omega) _) | (with_reducible refine Ext.trans ?_ (by with_reducible assumption))))) (S8.ext (by repeat (first | (with_reducible exact Ext.refl _) | with_reducible assumption | (with_reducible apply Ext.alloc) | (with_reducible apply Ext.drew) | (with_reducible apply Ext.drewN) | (with_reducible refine Ext.setRow ?_ (by first | (simp; done) | (simp; omega) | omega) _) | (with_reducible refine Ext.setCell ?_ (by first | (simp; done) | (simp; omega) | omega) _) | (with_reducible refine Ext.trans ?_ (by with_reducible assumption)))))).mono ?_
        rintro rv w9 ⟨rfl, hb⟩
        have hb0 : Ext w8 w9 := Ext.trans (by repeat (first | (with_reducible exact Ext.refl _) | with_reducible assumption | (with_reducible apply Ext.alloc) | (with_reducible apply Ext.drew) | (with_reducible apply Ext.drewN) | (with_reducible refine Ext.setRow ?_ (by first | (simp; done) | (simp; omega) | omega) _) | (with_reducible refine Ext.setCell ?_ (by first | (simp; done) | (simp; omega) | omega) _) | (with_reducible refine Ext.trans ?_ (by with_reducible assumption)))) hb
        have z9 : w8.heap.size ≤ w9.heap.size := hb0.size
        have x9 : Ext w w9 := Ext.trans x8 hb0
        have u0_9 : w.heap.size < w9.heap.size := hb0.lt u0_8
        have c0_0_9 : w9.cell? ⟨w.heap.size, 0, none⟩ = some (.int .i64 e) := (hb0.cells _ _ u0_8).trans c0_0_8
        have c0_1_9 : w9.cell? ⟨w.heap.size, 1, none⟩ = some (.int .i64 f) := (hb0.cells _ _ u0_8).trans c0_1_8
        have u1_9 : w.heap.size + 1 < w9.heap.size := hb0.lt u1_8
        have c1_0_9 : w9.cell? ⟨w.heap.size + 1, 0, none⟩ = some (.int .i64 P) := (hb0.cells _ _ u1_8).trans c1_0_8
        have c1_1_9 : w9.cell? ⟨w.heap.size + 1, 1, none⟩ = some (.slice p n cap) := (hb0.cells _ _ u1_8).trans c1_1_8
        have u2_9 : gS < w9.heap.size := hb0.lt u2_8
        have c2_0_9 : w9.cell? ⟨gS, 0, none⟩ = some (.int .i64 R) := (hb0.cells _ _ u2_8).trans c2_0_8
        have c2_1_9 : w9.cell? ⟨gS, 1, none⟩ = some (.slice pS m cS) := (hb0.cells _ _ u2_8).trans c2_1_8
        have u3_9 : w3.heap.size < w9.heap.size := hb0.lt u3_8
        have c3_0_9 : w9.cell? ⟨w3.heap.size, 0, none⟩ = some (.int .i64 P) := (hb0.cells _ _ u3_8).trans c3_0_8
        have c3_1_9 : w9.cell? ⟨w3.heap.size, 1, none⟩ = some (.slice (some ⟨t4, 0, none⟩) n n) := (hb0.cells _ _ u3_8).trans c3_1_8
        have u4_9 : gG < w9.heap.size := hb0.lt u4_8
        have c4_0_9 : w9.cell? ⟨gG, 0, none⟩ = some (.int .i64 R) := (hb0.cells _ _ u4_8).trans c4_0_8
        have c4_1_9 : w9.cell? ⟨gG, 1, none⟩ = some (.slice pG m cG) := (hb0.cells _ _ u4_8).trans c4_1_8
        have S9 := S8.ext hb0
        have G9 := G8.ext hb0
        clear x8 u0_8 u1_8 u2_8 u3_8 u4_8 c0_0_8 c0_1_8 c1_0_8 c1_1_8 c2_0_8 c2_1_8 c3_0_8 c3_1_8 c4_0_8 c4_1_8 S8 G8
        clear hb hb0
        go_wp2_with fail
        go_at_call 28
        refine (MKM.out _ _ _ G9).mono ?_
        rintro rv w10 ⟨rfl, hm0⟩
        have hm := hm0
        clear hm0
        have z10 : w9.heap.size ≤ w10.heap.size := hm.size
        have x10 : Ext w w10 := markB_ext x9 hm PG2
        have u0_10 : w.heap.size < w10.heap.size := by omega
        have f0_10 : w10.heap[w.heap.size]? = w9.heap[w.heap.size]? := hm.far _ u0_9 (fun hn b hb2 => by have hbb := KG hn b hb2; omega)
        have c0_0_10 : w10.cell? ⟨w.heap.size, 0, none⟩ = some (.int .i64 e) := (World.cell?_of_block f0_10).trans c0_0_9
        have c0_1_10 : w10.cell? ⟨w.heap.size, 1, none⟩ = some (.int .i64 f) := (World.cell?_of_block f0_10).trans c0_1_9
        have u1_10 : w.heap.size + 1 < w10.heap.size := by omega
        have f1_10 : w10.heap[w.heap.size + 1]? = w9.heap[w.heap.size + 1]? := hm.far _ u1_9 (fun hn b hb2 => by have hbb := KG hn b hb2; omega)
        have c1_0_10 : w10.cell? ⟨w.heap.size + 1, 0, none⟩ = some (.int .i64 P) := (World.cell?_of_block f1_10).trans c1_0_9
        have c1_1_10 : w10.cell? ⟨w.heap.size + 1, 1, none⟩ = some (.slice p n cap) := (World.cell?_of_block f1_10).trans c1_1_9
        have u2_10 : gS < w10.heap.size := by omega
        have f2_10 : w10.heap[gS]? = w9.heap[gS]? := hm.far _ u2_9 (fun hn b hb2 => by have hbb := KG hn b hb2; omega)
        have c2_0_10 : w10.cell? ⟨gS, 0, none⟩ = some (.int .i64 R) := (World.cell?_of_block f2_10).trans c2_0_9
        have c2_1_10 : w10.cell? ⟨gS, 1, none⟩ = some (.slice pS m cS) := (World.cell?_of_block f2_10).trans c2_1_9
        have u3_10 : w3.heap.size < w10.heap.size := by omega
        have f3_10 : w10.heap[w3.heap.size]? = w9.heap[w3.heap.size]? := hm.far _ u3_9 (fun hn b hb2 => by have hbb := KG hn b hb2; omega)
        have c3_0_10 : w10.cell? ⟨w3.heap.size, 0, none⟩ = some (.int .i64 P) := (World.cell?_of_block f3_10).trans c3_0_9
        have c3_1_10 : w10.cell? ⟨w3.heap.size, 1, none⟩ = some (.slice (some ⟨t4, 0, none⟩) n n) := (World.cell?_of_block f3_10).trans c3_1_9
        have u4_10 : gG < w10.heap.size := by omega
        have f4_10 : w10.heap[gG]? = w9.heap[gG]? := hm.far _ u4_9 (fun hn b hb2 => by have hbb := KG hn b hb2; omega)
        have c4_0_10 : w10.cell? ⟨gG, 0, none⟩ = some (.int .i64 R) := (World.cell?_of_block f4_10).trans c4_0_9
        have c4_1_10 : w10.cell? ⟨gG, 1, none⟩ = some (.slice pG m cG) := (World.cell?_of_block f4_10).trans c4_1_9
        have S10 := S9.block (fun hn b hb2 => hm.far _ (S9.lt hn hb2) (fun hn2 b2 hb3 => by have hbb := KG hn2 b2 hb3; have hbc := KS hn b hb2; omega))
        have G10 := hm.row
        clear hm x9 u0_9 u1_9 u2_9 u3_9 u4_9 f0_10 f1_10 f2_10 f3_10 f4_10 c0_0_9 c0_1_9 c1_0_9 c1_1_9 c2_0_9 c2_1_9 c3_0_9 c3_1_9 c4_0_9 c4_1_9 S9 G9
        go_wp2_with fail
        go_at_call 29
        refine (HLM.out _ _ _ (G10.ext (by repeat (first | (with_reducible exact Ext.refl _) | with_reducible assumption | (with_reducible apply Ext.alloc) | (with_reducible apply Ext.drew) | (with_reducible apply Ext.drewN) | (with_reducible refine Ext.setRow ?_ (by first | (simp; done) | (simp; omega) | omega) _) | (with_reducible refine Ext.setCell ?_ (by first | (simp; done) | (simp; omega) | omega) _) | (with_reducible refine Ext.trans ?_ (by with_reducible assumption)))))).mono ?_
        rintro rv w11 ⟨rfl, hb⟩
        have hb0 : Ext w10 w11 := Ext.trans (by repeat (first | (with_reducible exact Ext.refl _) | with_reducible assumption | (with_reducible apply Ext.alloc) | (with_reducible apply Ext.drew) | (with_reducible apply Ext.drewN) | (with_reducible refine Ext.setRow ?_ (by first | (simp; done) | (simp; omega) | omega) _) | (with_reducible refine Ext.setCell ?_ (by first | (simp; done) | (simp; omega) | omega) _) | (with_reducible refine Ext.trans ?_ (by with_reducible assumption)))) hb
        have z11 : w10.heap.size ≤ w11.heap.size := hb0.size
        have x11 : Ext w w11 := Ext.trans x10 hb0
        have u0_11 : w.heap.size < w11.heap.size := hb0.lt u0_10
        have c0_0_11 : w11.cell? ⟨w.heap.size, 0, none⟩ = some (.int .i64 e) := (hb0.cells _ _ u0_10).trans c0_0_10
        have c0_1_11 : w11.cell? ⟨w.heap.size, 1, none⟩ = some (.int .i64 f) := (hb0.cells _ _ u0_10).trans c0_1_10
        have u1_11 : w.heap.size + 1 < w11.heap.size := hb0.lt u1_10
        have c1_0_11 : w11.cell? ⟨w.heap.size + 1, 0, none⟩ = some (.int .i64 P) := (hb0.cells _ _ u1_10).trans c1_0_10
        have c1_1_11 : w11.cell? ⟨w.heap.size + 1, 1, none⟩ = some (.slice p n cap) := (hb0.cells _ _ u1_10).trans c1_1_10
        have u2_11 : gS < w11.heap.size := hb0.lt u2_10
        have c2_0_11 : w11.cell? ⟨gS, 0, none⟩ = some (.int .i64 R) := (hb0.cells _ _ u2_10).trans c2_0_10
        have c2_1_11 : w11.cell? ⟨gS, 1, none⟩ = some (.slice pS m cS) := (hb0.cells _ _ u2_10).trans c2_1_10
        have u3_11 : w3.heap.size < w11.heap.size := hb0.lt u3_10
        have c3_0_11 : w11.cell? ⟨w3.heap.size, 0, none⟩ = some (.int .i64 P) := (hb0.cells _ _ u3_10).trans c3_0_10
        have c3_1_11 : w11.cell? ⟨w3.heap.size, 1, none⟩ = some (.slice (some ⟨t4, 0, none⟩) n n) := (hb0.cells _ _ u3_10).trans c3_1_10
        have u4_11 : gG < w11.heap.size := hb0.lt u4_10
        have c4_0_11 : w11.cell? ⟨gG, 0, none⟩ = some (.int .i64 R) := (hb0.cells _ _ u4_10).trans c4_0_10
        have c4_1_11 : w11.cell? ⟨gG, 1, none⟩ = some (.slice pG m cG) := (hb0.cells _ _ u4_10).trans c4_1_10
        have S11 := S10.ext hb0
        have G11 := G10.ext hb0
        clear x10 u0_10 u1_10 u2_10 u3_10 u4_10 c0_0_10 c0_1_10 c1_0_10 c1_1_10 c2_0_10 c2_1_10 c3_0_10 c3_1_10 c4_0_10 c4_1_10 S10 G10
        clear hb hb0
        go_wp2_with fail
        try clear KX
        try clear PX
        try clear KG
        try clear PG2
        try clear KS
        try clear PG
        try clear NG
        try clear PS
        try clear NS
        try clear q4b
        try clear q4c
        try clear QS1
        try clear QS2
        try clear EQN
        try clear MKN
        try clear MKM
        try clear SA
        try clear z1
        try clear z2
        try clear z3
        try clear z4
        try clear z5
        try clear z6
        try clear z7
        try clear z8
        try clear z9
        try clear z10
        try clear z11
        try clear y1
        try clear y2
        try clear y3
        try clear y4
        try clear y5
        try clear y6
        try clear y7
        try clear y8
        try clear y9
        try clear y10
        try clear y11
        try clear v1_0
        try clear v2_0
        try clear v3_0
        try clear v4_0
        try clear v5_0
        try clear v6_0
        try clear v7_0
        try clear v8_0
        try clear v9_0
        try clear v10_0
        try clear v11_0
        try clear k0x0
        try clear k0x1
        try clear k0x2
        try clear k0x3
        try clear k0x4
        try clear k0x5
        try clear k0x6
        try clear k0x7
        try clear k0x8
        try clear k0x9
        try clear k0x10
        try clear k0x11
        try clear k1x0
        try clear k1x1
        try clear k1x2
        try clear k1x3
        try clear k1x4
        try clear k1x5
        try clear k1x6
        try clear k1x7
        try clear k1x8
        try clear k1x9
        try clear k1x10
        try clear k1x11
        try clear k2x0
        try clear k2x1
        try clear k2x2
        try clear k2x3
        try clear k2x4
        try clear k2x5
        try clear k2x6
        try clear k2x7
        try clear k2x8
        try clear k2x9
        try clear k2x10
        try clear k2x11
        try clear k3x0
        try clear k3x1
        try clear k3x2
        try clear k3x3
        try clear k3x4
        try clear k3x5
        try clear k3x6
        try clear k3x7
        try clear k3x8
        try clear k3x9
        try clear k3x10
        try clear k3x11
        try clear k4x0
        try clear k4x1
        try clear k4x2
        try clear k4x3
        try clear k4x4
        try clear k4x5
        try clear k4x6
        try clear k4x7
        try clear k4x8
        try clear k4x9
        try clear k4x10
        try clear k4x11
        try clear k5x0
        try clear k5x1
        try clear k5x2
        try clear k5x3
        try clear k5x4
        try clear k5x5
        try clear k5x6
        try clear k5x7
        try clear k5x8
        try clear k5x9
        try clear k5x10
        try clear k5x11
        have k0x11 := u0_11
        have k1x11 := u1_11
        have k2x11 := u2_11
        have k3x11 := u3_11
        have k4x11 := u4_11
        go_upto_region 24 with fail
        go_cut [18, 19] (fun sp sb wx => ∃ (gH : Nat) (pH : Option Addr) (cH : Nat), sp = .pointer (some ⟨gH, 0, none⟩) ∧ sb = .bool B0 ∧ Ext w11 wx ∧ wx.cell? ⟨gH, 0, none⟩ = some (.int .i64 R) ∧ wx.cell? ⟨gH, 1, none⟩ = some (.slice pH m cH) ∧ w11.heap.size ≤ gH ∧ gH < wx.heap.size ∧ OwnL wx pH m Q ∧ Past pH m (w11.heap.size + 0) ∧ (0 < m → ∀ b, pH = some (⟨b, 0, none⟩ : Addr) → b ≠ gH))
        case first =>
          clear u2_11
          clear c2_0_11
          clear c2_1_11
          clear u3_11
          clear c3_0_11
          clear c3_1_11
          clear u4_11
          clear c4_0_11
          clear c4_1_11
          clear S11
          clear G11
          (try clear KX); (try clear PX); (try clear KG); (try clear PG2); (try clear KS); (try clear EQN); (try clear MKN); (try clear MKM); (try clear EQM); (try clear HLM); (try clear hM0); (try clear hN0)
          go_region_held3 (fun w' => w'.cell? ⟨w.heap.size, 0, none⟩ = some (.int .i64 e) ∧ w'.cell? ⟨w.heap.size, 1, none⟩ = some (.int .i64 f) ∧ w'.cell? ⟨w.heap.size + 1, 0, none⟩ = some (.int .i64 P) ∧ w'.cell? ⟨w.heap.size + 1, 1, none⟩ = some (.slice p n cap) ∧ w.heap.size + 1 < w'.heap.size) ((refine ⟨?_, ?_, ?_, ?_, ?_⟩ <;> first | with_reducible assumption | ((repeat first | rw [cell_set_far _ _ _ _ _ _ (by first | exact Nat.ne_of_lt (by with_reducible assumption) | exact Nat.ne_of_gt (by with_reducible assumption) | omega)] | rw [cell_alloc_drew _ _ _ _ (by first | with_reducible assumption | omega | (simp only [World.size_alloc, World.size_drew]; omega))] | rw [cell_alloc_before _ _ _ _ (by first | with_reducible assumption | omega | (simp only [World.size_alloc, World.size_drew]; omega))] | rw [cell_drew]); with_reducible assumption) | (simp; done) | (simp; with_reducible assumption) | (simp [World.setCell]; first | done | with_reducible assumption | omega))) ((first | (go_at_call 14; refine (toFormat_any e f _).mono ?_; rintro rv w12 ⟨rfl, hb⟩; (first | (have mk := mtz; have o0 := (hb.cells _ _ mtz).trans m0; have o1 := (hb.cells _ _ mtz).trans m1; have oz0 := (hb.frz _ _ mtz).trans mz0; have oz1 := (hb.frz _ _ mtz).trans mz1; have ot := hb.lt mtz; clear m0 m1 mz0 mz1 mtz; have m0 := o0; have m1 := o1; have mz0 := oz0; have mz1 := oz1; have mtz := ot; clear o0 o1 oz0 oz1 ot) | (with_reducible have q2 := Ext.new2 (u := .int .i64 0) (v := .slice none 0 0) hb; obtain ⟨m0, m1, mz0, mz1, mtz⟩ := q2; try simp only [World.size_alloc, World.size_drew, Nat.add_assoc, Nat.reduceAdd] at m0 m1 mz0 mz1 mtz) | (with_reducible have q2 := Ext.new2d (u := .int .i64 0) (v := .slice none 0 0) hb; obtain ⟨m0, m1, mz0, mz1, mtz⟩ := q2; try simp only [World.size_alloc, World.size_drew, Nat.add_assoc, Nat.reduceAdd] at m0 m1 mz0 mz1 mtz) | skip); have hb0 : Ext w11 w12 := Ext.trans (by repeat (first | (with_reducible exact Ext.refl _) | with_reducible assumption | (with_reducible apply Ext.alloc) | (with_reducible apply Ext.drew) | (with_reducible apply Ext.drewN) | (with_reducible refine Ext.setRow ?_ (by first | (simp; done) | (simp; omega) | omega) _) | (with_reducible refine Ext.setCell ?_ (by first | (simp; done) | (simp; omega) | omega) _) | (with_reducible refine Ext.trans ?_ (by with_reducible assumption)))) hb; have xx := hb0; have z12 : w11.heap.size ≤ w12.heap.size := hb0.size; have x12 : Ext w w12 := Ext.trans x11 hb0; have u0_12 : w.heap.size < w12.heap.size := hb0.lt u0_11; have c0_0_12 : w12.cell? ⟨w.heap.size, 0, none⟩ = some (.int .i64 e) := (hb0.cells _ _ u0_11).trans c0_0_11; have c0_1_12 : w12.cell? ⟨w.heap.size, 1, none⟩ = some (.int .i64 f) := (hb0.cells _ _ u0_11).trans c0_1_11; have u1_12 : w.heap.size + 1 < w12.heap.size := hb0.lt u1_11; have c1_0_12 : w12.cell? ⟨w.heap.size + 1, 0, none⟩ = some (.int .i64 P) := (hb0.cells _ _ u1_11).trans c1_0_11; have c1_1_12 : w12.cell? ⟨w.heap.size + 1, 1, none⟩ = some (.slice p n cap) := (hb0.cells _ _ u1_11).trans c1_1_11; clear x11 u0_11 u1_11 c0_0_11 c0_1_11 c1_0_11 c1_1_11; clear hb hb0) | (go_at_call 25; refine (toBlock_any P p n cap V hn _ (hold.ext (by repeat (first | (with_reducible exact Ext.refl _) | with_reducible assumption | (with_reducible apply Ext.alloc) | (with_reducible apply Ext.drew) | (with_reducible apply Ext.drewN) | (with_reducible refine Ext.setRow ?_ (by first | (simp; done) | (simp; omega) | omega) _) | (with_reducible refine Ext.setCell ?_ (by first | (simp; done) | (simp; omega) | omega) _) | (with_reducible refine Ext.trans ?_ (by with_reducible assumption)))))).mono ?_; rintro rv w13 ⟨t13, rfl, _, r13, hb⟩; (first | (have mk := mtz; have o0 := (hb.cells _ _ mtz).trans m0; have o1 := (hb.cells _ _ mtz).trans m1; have oz0 := (hb.frz _ _ mtz).trans mz0; have oz1 := (hb.frz _ _ mtz).trans mz1; have ot := hb.lt mtz; clear m0 m1 mz0 mz1 mtz; have m0 := o0; have m1 := o1; have mz0 := oz0; have mz1 := oz1; have mtz := ot; clear o0 o1 oz0 oz1 ot) | (with_reducible have q2 := Ext.new2 (u := .int .i64 0) (v := .slice none 0 0) hb; obtain ⟨m0, m1, mz0, mz1, mtz⟩ := q2; try simp only [World.size_alloc, World.size_drew, Nat.add_assoc, Nat.reduceAdd] at m0 m1 mz0 mz1 mtz) | (with_reducible have q2 := Ext.new2d (u := .int .i64 0) (v := .slice none 0 0) hb; obtain ⟨m0, m1, mz0, mz1, mtz⟩ := q2; try simp only [World.size_alloc, World.size_drew, Nat.add_assoc, Nat.reduceAdd] at m0 m1 mz0 mz1 mtz) | skip); have hb0 : Ext w12 w13 := Ext.trans (by repeat (first | (with_reducible exact Ext.refl _) | with_reducible assumption | (with_reducible apply Ext.alloc) | (with_reducible apply Ext.drew) | (with_reducible apply Ext.drewN) | (with_reducible refine Ext.setRow ?_ (by first | (simp; done) | (simp; omega) | omega) _) | (with_reducible refine Ext.setCell ?_ (by first | (simp; done) | (simp; omega) | omega) _) | (with_reducible refine Ext.trans ?_ (by with_reducible assumption)))) hb; have xy := Ext.trans xx hb0; clear xx; have xx := xy; clear xy; have z13 : w12.heap.size ≤ w13.heap.size := hb0.size; have x13 : Ext w w13 := Ext.trans x12 hb0; have u0_13 : w.heap.size < w13.heap.size := hb0.lt u0_12; have c0_0_13 : w13.cell? ⟨w.heap.size, 0, none⟩ = some (.int .i64 e) := (hb0.cells _ _ u0_12).trans c0_0_12; have c0_1_13 : w13.cell? ⟨w.heap.size, 1, none⟩ = some (.int .i64 f) := (hb0.cells _ _ u0_12).trans c0_1_12; have u1_13 : w.heap.size + 1 < w13.heap.size := hb0.lt u1_12; have c1_0_13 : w13.cell? ⟨w.heap.size + 1, 0, none⟩ = some (.int .i64 P) := (hb0.cells _ _ u1_12).trans c1_0_12; have c1_1_13 : w13.cell? ⟨w.heap.size + 1, 1, none⟩ = some (.slice p n cap) := (hb0.cells _ _ u1_12).trans c1_1_12; clear x12 u0_12 u1_12 c0_0_12 c0_1_12 c1_0_12 c1_1_12; clear hb hb0) | (go_at_call 31; refine (IA.out _ _ (row_ext r13 (by repeat (first | (with_reducible exact Ext.refl _) | with_reducible assumption | (with_reducible apply Ext.alloc) | (with_reducible apply Ext.drew) | (with_reducible apply Ext.drewN) | (with_reducible refine Ext.setRow ?_ (by first | (simp; done) | (simp; omega) | omega) _) | (with_reducible refine Ext.setCell ?_ (by first | (simp; done) | (simp; omega) | omega) _) | (with_reducible refine Ext.trans ?_ (by with_reducible assumption)))))).mono ?_; rintro rv w14 ⟨pH, cH, rfl, H14, PH14, hb⟩; (first | (have mk := mtz; have o0 := (hb.cells _ _ mtz).trans m0; have o1 := (hb.cells _ _ mtz).trans m1; have oz0 := (hb.frz _ _ mtz).trans mz0; have oz1 := (hb.frz _ _ mtz).trans mz1; have ot := hb.lt mtz; clear m0 m1 mz0 mz1 mtz; have m0 := o0; have m1 := o1; have mz0 := oz0; have mz1 := oz1; have mtz := ot; clear o0 o1 oz0 oz1 ot) | (with_reducible have q2 := Ext.new2 (u := .int .i64 0) (v := .slice none 0 0) hb; obtain ⟨m0, m1, mz0, mz1, mtz⟩ := q2; try simp only [World.size_alloc, World.size_drew, Nat.add_assoc, Nat.reduceAdd] at m0 m1 mz0 mz1 mtz) | (with_reducible have q2 := Ext.new2d (u := .int .i64 0) (v := .slice none 0 0) hb; obtain ⟨m0, m1, mz0, mz1, mtz⟩ := q2; try simp only [World.size_alloc, World.size_drew, Nat.add_assoc, Nat.reduceAdd] at m0 m1 mz0 mz1 mtz) | skip); have hb0 : Ext w13 w14 := Ext.trans (by repeat (first | (with_reducible exact Ext.refl _) | with_reducible assumption | (with_reducible apply Ext.alloc) | (with_reducible apply Ext.drew) | (with_reducible apply Ext.drewN) | (with_reducible refine Ext.setRow ?_ (by first | (simp; done) | (simp; omega) | omega) _) | (with_reducible refine Ext.setCell ?_ (by first | (simp; done) | (simp; omega) | omega) _) | (with_reducible refine Ext.trans ?_ (by with_reducible assumption)))) hb; have xy := Ext.trans xx hb0; clear xx; have xx := xy; clear xy; have z14 : w13.heap.size ≤ w14.heap.size := hb0.size; have x14 : Ext w w14 := Ext.trans x13 hb0; have u0_14 : w.heap.size < w14.heap.size := hb0.lt u0_13; have c0_0_14 : w14.cell? ⟨w.heap.size, 0, none⟩ = some (.int .i64 e) := (hb0.cells _ _ u0_13).trans c0_0_13; have c0_1_14 : w14.cell? ⟨w.heap.size, 1, none⟩ = some (.int .i64 f) := (hb0.cells _ _ u0_13).trans c0_1_13; have u1_14 : w.heap.size + 1 < w14.heap.size := hb0.lt u1_13; have c1_0_14 : w14.cell? ⟨w.heap.size + 1, 0, none⟩ = some (.int .i64 P) := (hb0.cells _ _ u1_13).trans c1_0_13; have c1_1_14 : w14.cell? ⟨w.heap.size + 1, 1, none⟩ = some (.slice p n cap) := (hb0.cells _ _ u1_13).trans c1_1_13; have r14 := row_ext r13 hb0; clear x13 u0_13 u1_13 c0_0_13 c0_1_13 c1_0_13 c1_1_13 r13; clear r14; clear hb hb0)))
          all_goals (go_wp2_with fail; go_meet; exact ⟨_, pH, cH, rfl, (by rw [HB.out]), (by repeat (first | exact xx | apply Ext.alloc | apply Ext.drew | (refine Ext.setRow ?_ (by first | (simp; done) | (simp; with_reducible assumption) | (simp; omega) | omega) _) | (refine Ext.setCell ?_ (by first | (simp; done) | (simp; with_reducible assumption) | (simp; omega) | omega) _))), (by first | exact (set2m_cells m0 m1).1 | exact (new2m_cells _ _ _ _).1 | (simp [go_sem]; done)), (by first | exact (set2m_cells m0 m1).2 | exact (new2m_cells _ _ _ _).2 | (simp [go_sem]; done)), (by first | with_reducible assumption | (simp; done) | (simp; with_reducible assumption) | (simp; omega) | omega | (simp; done) | (simp; omega) | (simp [World.setCell]; done) | (simp [World.setCell]; omega)), (by first | with_reducible assumption | (simp; done) | (simp; with_reducible assumption) | (simp; omega) | omega | (simp; done) | (simp; omega) | (simp [World.setCell]; done) | (simp [World.setCell]; omega)), (by first | exact own_far2 H14 PH14 (by first | with_reducible assumption | (simp; done) | (simp; with_reducible assumption) | (simp; omega) | omega | (simp; done) | (simp; omega) | (simp [World.setCell]; done) | (simp [World.setCell]; omega)) | exact H14.ext (by repeat (first | (with_reducible exact Ext.refl _) | with_reducible assumption | (with_reducible apply Ext.alloc) | (with_reducible apply Ext.drew) | (with_reducible apply Ext.drewN) | (with_reducible refine Ext.setRow ?_ (by first | (simp; done) | (simp; omega) | omega) _) | (with_reducible refine Ext.setCell ?_ (by first | (simp; done) | (simp; omega) | omega) _) | (with_reducible refine Ext.trans ?_ (by with_reducible assumption)))) | exact H14), PH14.le (by first | with_reducible assumption | (simp; done) | (simp; with_reducible assumption) | (simp; omega) | omega | (simp; done) | (simp; omega) | (simp [World.setCell]; done) | (simp [World.setCell]; omega)), (fun hn b hb2 => by have h1 := PH14 hn b hb2; have h2 := H14.lt hn hb2; (try simp only [World.size_alloc, World.size_drew] at h1); omega)⟩)
        case rest =>
          obtain ⟨gH, pH, cH, hsp, hsb, hb0, c5_0_12, c5_1_12, y12, u5_12, H12, PH, NH⟩ := hcut
          rw [HB.out] at hsb
          subst hsp
          subst hsb
          obtain ⟨w12, hwq⟩ : ∃ x, x = wc := ⟨_, rfl⟩
          subst hwq
          have z12 : w11.heap.size ≤ w12.heap.size := hb0.size
          have x12 : Ext w w12 := Ext.trans x11 hb0
          have u0_12 : w.heap.size < w12.heap.size := hb0.lt u0_11
          have c0_0_12 : w12.cell? ⟨w.heap.size, 0, none⟩ = some (.int .i64 e) := (hb0.cells _ _ u0_11).trans c0_0_11
          have c0_1_12 : w12.cell? ⟨w.heap.size, 1, none⟩ = some (.int .i64 f) := (hb0.cells _ _ u0_11).trans c0_1_11
          have u1_12 : w.heap.size + 1 < w12.heap.size := hb0.lt u1_11
          have c1_0_12 : w12.cell? ⟨w.heap.size + 1, 0, none⟩ = some (.int .i64 P) := (hb0.cells _ _ u1_11).trans c1_0_11
          have c1_1_12 : w12.cell? ⟨w.heap.size + 1, 1, none⟩ = some (.slice p n cap) := (hb0.cells _ _ u1_11).trans c1_1_11
          have u2_12 : gS < w12.heap.size := hb0.lt u2_11
          have c2_0_12 : w12.cell? ⟨gS, 0, none⟩ = some (.int .i64 R) := (hb0.cells _ _ u2_11).trans c2_0_11
          have c2_1_12 : w12.cell? ⟨gS, 1, none⟩ = some (.slice pS m cS) := (hb0.cells _ _ u2_11).trans c2_1_11
          have u3_12 : w3.heap.size < w12.heap.size := hb0.lt u3_11
          have c3_0_12 : w12.cell? ⟨w3.heap.size, 0, none⟩ = some (.int .i64 P) := (hb0.cells _ _ u3_11).trans c3_0_11
          have c3_1_12 : w12.cell? ⟨w3.heap.size, 1, none⟩ = some (.slice (some ⟨t4, 0, none⟩) n n) := (hb0.cells _ _ u3_11).trans c3_1_11
          have u4_12 : gG < w12.heap.size := hb0.lt u4_11
          have c4_0_12 : w12.cell? ⟨gG, 0, none⟩ = some (.int .i64 R) := (hb0.cells _ _ u4_11).trans c4_0_11
          have c4_1_12 : w12.cell? ⟨gG, 1, none⟩ = some (.slice pG m cG) := (hb0.cells _ _ u4_11).trans c4_1_11
          have S12 := S11.ext hb0
          have G12 := G11.ext hb0
          clear x11 u0_11 u1_11 u2_11 u3_11 u4_11 c0_0_11 c0_1_11 c1_0_11 c1_1_11 c2_0_11 c2_1_11 c3_0_11 c3_1_11 c4_0_11 c4_1_11 S11 G11
          clear hb0
          go_wp2_with fail
          go_at_call 27
          refine (EQM.out _ _ _ _ _ (H12.ext (by repeat (first | (with_reducible exact Ext.refl _) | with_reducible assumption | (with_reducible apply Ext.alloc) | (with_reducible apply Ext.drew) | (with_reducible apply Ext.drewN) | (with_reducible refine Ext.setRow ?_ (by first | (simp; done) | (simp; omega) | omega) _) | (with_reducible refine Ext.setCell ?_ (by first | (simp; done) | (simp; omega) | omega) _) | (with_reducible refine Ext.trans ?_ (by with_reducible assumption))))) (S12.ext (by repeat (first | (with_reducible exact Ext.refl _) | with_reducible assumption | (with_reducible apply Ext.alloc) | (with_reducible apply Ext.drew) | (with_reducible apply Ext.drewN) | (with_reducible refine Ext.setRow ?_ (by first | (simp; done) | (simp; omega) | omega) _) | (with_reducible refine Ext.setCell ?_ (by first | (simp; done) | (simp; omega) | omega) _) | (with_reducible refine Ext.trans ?_ (by with_reducible assumption)))))).mono ?_
          rintro rv w13 ⟨rfl, hb⟩
          have hb0 : Ext w12 w13 := Ext.trans (by repeat (first | (with_reducible exact Ext.refl _) | with_reducible assumption | (with_reducible apply Ext.alloc) | (with_reducible apply Ext.drew) | (with_reducible apply Ext.drewN) | (with_reducible refine Ext.setRow ?_ (by first | (simp; done) | (simp; omega) | omega) _) | (with_reducible refine Ext.setCell ?_ (by first | (simp; done) | (simp; omega) | omega) _) | (with_reducible refine Ext.trans ?_ (by with_reducible assumption)))) hb
          have z13 : w12.heap.size ≤ w13.heap.size := hb0.size
          have x13 : Ext w w13 := Ext.trans x12 hb0
          have u0_13 : w.heap.size < w13.heap.size := hb0.lt u0_12
          have c0_0_13 : w13.cell? ⟨w.heap.size, 0, none⟩ = some (.int .i64 e) := (hb0.cells _ _ u0_12).trans c0_0_12
          have c0_1_13 : w13.cell? ⟨w.heap.size, 1, none⟩ = some (.int .i64 f) := (hb0.cells _ _ u0_12).trans c0_1_12
          have u1_13 : w.heap.size + 1 < w13.heap.size := hb0.lt u1_12
          have c1_0_13 : w13.cell? ⟨w.heap.size + 1, 0, none⟩ = some (.int .i64 P) := (hb0.cells _ _ u1_12).trans c1_0_12
          have c1_1_13 : w13.cell? ⟨w.heap.size + 1, 1, none⟩ = some (.slice p n cap) := (hb0.cells _ _ u1_12).trans c1_1_12
          have u2_13 : gS < w13.heap.size := hb0.lt u2_12
          have c2_0_13 : w13.cell? ⟨gS, 0, none⟩ = some (.int .i64 R) := (hb0.cells _ _ u2_12).trans c2_0_12
          have c2_1_13 : w13.cell? ⟨gS, 1, none⟩ = some (.slice pS m cS) := (hb0.cells _ _ u2_12).trans c2_1_12
          have u3_13 : w3.heap.size < w13.heap.size := hb0.lt u3_12
          have c3_0_13 : w13.cell? ⟨w3.heap.size, 0, none⟩ = some (.int .i64 P) := (hb0.cells _ _ u3_12).trans c3_0_12
          have c3_1_13 : w13.cell? ⟨w3.heap.size, 1, none⟩ = some (.slice (some ⟨t4, 0, none⟩) n n) := (hb0.cells _ _ u3_12).trans c3_1_12
          have u4_13 : gG < w13.heap.size := hb0.lt u4_12
          have c4_0_13 : w13.cell? ⟨gG, 0, none⟩ = some (.int .i64 R) := (hb0.cells _ _ u4_12).trans c4_0_12
          have c4_1_13 : w13.cell? ⟨gG, 1, none⟩ = some (.slice pG m cG) := (hb0.cells _ _ u4_12).trans c4_1_12
          have u5_13 : gH < w13.heap.size := hb0.lt u5_12
          have c5_0_13 : w13.cell? ⟨gH, 0, none⟩ = some (.int .i64 R) := (hb0.cells _ _ u5_12).trans c5_0_12
          have c5_1_13 : w13.cell? ⟨gH, 1, none⟩ = some (.slice pH m cH) := (hb0.cells _ _ u5_12).trans c5_1_12
          have S13 := S12.ext hb0
          have G13 := G12.ext hb0
          have H13 := H12.ext hb0
          clear x12 u0_12 u1_12 u2_12 u3_12 u4_12 u5_12 c0_0_12 c0_1_12 c1_0_12 c1_1_12 c2_0_12 c2_1_12 c3_0_12 c3_1_12 c4_0_12 c4_1_12 c5_0_12 c5_1_12 S12 G12 H12
          clear hb hb0
          go_wp2_with fail
          go_at_call 29
          refine (HLM.out _ _ _ (G13.ext (by repeat (first | (with_reducible exact Ext.refl _) | with_reducible assumption | (with_reducible apply Ext.alloc) | (with_reducible apply Ext.drew) | (with_reducible apply Ext.drewN) | (with_reducible refine Ext.setRow ?_ (by first | (simp; done) | (simp; omega) | omega) _) | (with_reducible refine Ext.setCell ?_ (by first | (simp; done) | (simp; omega) | omega) _) | (with_reducible refine Ext.trans ?_ (by with_reducible assumption)))))).mono ?_
          rintro rv w14 ⟨rfl, hb⟩
          have hb0 : Ext w13 w14 := Ext.trans (by repeat (first | (with_reducible exact Ext.refl _) | with_reducible assumption | (with_reducible apply Ext.alloc) | (with_reducible apply Ext.drew) | (with_reducible apply Ext.drewN) | (with_reducible refine Ext.setRow ?_ (by first | (simp; done) | (simp; omega) | omega) _) | (with_reducible refine Ext.setCell ?_ (by first | (simp; done) | (simp; omega) | omega) _) | (with_reducible refine Ext.trans ?_ (by with_reducible assumption)))) hb
          have z14 : w13.heap.size ≤ w14.heap.size := hb0.size
          have x14 : Ext w w14 := Ext.trans x13 hb0
          have u0_14 : w.heap.size < w14.heap.size := hb0.lt u0_13
          have c0_0_14 : w14.cell? ⟨w.heap.size, 0, none⟩ = some (.int .i64 e) := (hb0.cells _ _ u0_13).trans c0_0_13
          have c0_1_14 : w14.cell? ⟨w.heap.size, 1, none⟩ = some (.int .i64 f) := (hb0.cells _ _ u0_13).trans c0_1_13
          have u1_14 : w.heap.size + 1 < w14.heap.size := hb0.lt u1_13
          have c1_0_14 : w14.cell? ⟨w.heap.size + 1, 0, none⟩ = some (.int .i64 P) := (hb0.cells _ _ u1_13).trans c1_0_13
          have c1_1_14 : w14.cell? ⟨w.heap.size + 1, 1, none⟩ = some (.slice p n cap) := (hb0.cells _ _ u1_13).trans c1_1_13
          have u2_14 : gS < w14.heap.size := hb0.lt u2_13
          have c2_0_14 : w14.cell? ⟨gS, 0, none⟩ = some (.int .i64 R) := (hb0.cells _ _ u2_13).trans c2_0_13
          have c2_1_14 : w14.cell? ⟨gS, 1, none⟩ = some (.slice pS m cS) := (hb0.cells _ _ u2_13).trans c2_1_13
          have u3_14 : w3.heap.size < w14.heap.size := hb0.lt u3_13
          have c3_0_14 : w14.cell? ⟨w3.heap.size, 0, none⟩ = some (.int .i64 P) := (hb0.cells _ _ u3_13).trans c3_0_13
          have c3_1_14 : w14.cell? ⟨w3.heap.size, 1, none⟩ = some (.slice (some ⟨t4, 0, none⟩) n n) := (hb0.cells _ _ u3_13).trans c3_1_13
          have u4_14 : gG < w14.heap.size := hb0.lt u4_13
          have c4_0_14 : w14.cell? ⟨gG, 0, none⟩ = some (.int .i64 R) := (hb0.cells _ _ u4_13).trans c4_0_13
          have c4_1_14 : w14.cell? ⟨gG, 1, none⟩ = some (.slice pG m cG) := (hb0.cells _ _ u4_13).trans c4_1_13
          have u5_14 : gH < w14.heap.size := hb0.lt u5_13
          have c5_0_14 : w14.cell? ⟨gH, 0, none⟩ = some (.int .i64 R) := (hb0.cells _ _ u5_13).trans c5_0_13
          have c5_1_14 : w14.cell? ⟨gH, 1, none⟩ = some (.slice pH m cH) := (hb0.cells _ _ u5_13).trans c5_1_13
          have S14 := S13.ext hb0
          have G14 := G13.ext hb0
          have H14 := H13.ext hb0
          clear x13 u0_13 u1_13 u2_13 u3_13 u4_13 u5_13 c0_0_13 c0_1_13 c1_0_13 c1_1_13 c2_0_13 c2_1_13 c3_0_13 c3_1_13 c4_0_13 c4_1_13 c5_0_13 c5_1_13 S13 G13 H13
          clear hb hb0
          go_wp2_with fail
          go_ret
          exact ⟨rfl, x14⟩
  · go_enter Try.func8, Try.ntmps8
    go_wp2_with (go_at_call 23; refine (szBlock_big _ _ _ _ hn (by have h := hmx; unfold maxLen at h; omega) _).mono ?_; rintro rv w1 ⟨rfl, hb⟩; have ns : w.heap.size < w1.heap.size := hb.lt (by first | with_reducible assumption | omega | (simp; done) | (simp; omega)); (first | (have nx := Ext.trans hx hb; clear hx) | (have nx := Ext.trans (hx.alloc _) hb; clear hx) | (have nx := Ext.trans hx.drew hb; clear hx) | have nx := hb); clear hb; try clear hs; have hx := nx; clear nx; have hs := ns; clear ns)
    go_ret
    exact ⟨rfl, (by repeat (first | (with_reducible exact Ext.refl _) | with_reducible assumption | (with_reducible apply Ext.alloc) | (with_reducible apply Ext.drew) | (with_reducible apply Ext.drewN) | (with_reducible refine Ext.setRow ?_ (by first | (simp; done) | (simp; omega) | omega) _) | (with_reducible refine Ext.setCell ?_ (by first | (simp; done) | (simp; omega) | omega) _) | (with_reducible refine Ext.trans ?_ (by with_reducible assumption))))⟩
end Go.Proofs.Ytcpamgmaijjhoaa

