/-
  A text is read as a pattern, by program and model.
-/
import Derived.Test.YtfgbndjhaiigbabRows
import Derived.Test.YtfgbndjhaiigbabPlain
import Derived.Test.YtfgbndjhaiigbabBelow
import Derived.Test.YtfgbndjhaiigbabNear
import Derived.Test.YtfgbndjhaiigbabDy
import Derived.Test.YtfgbndjhaiigbabDyC
import Derived.Test.YtfgbndjhaiigbabWalkA
import Derived.Test.YtfgbndjhaiigbabWalkDA
import Derived.Test.YtfgbndjhaiigbabWalkTX1
import Derived.Test.YtfgbndjhaiigbabTxt
import Derived.Test.YtfgbndjhaiigbabBit
import Derived.Test.YtfgbndjhaiigbabWalkTX6
import Derived.Test.YtfgbndjhaiigbabWalkTX7
import Derived.Test.YtfgbndjhaiigbabWalkC
import Derived.Test.YtfgbndjhaiigbabWalkD
import Derived.WalkKit
import Derived.LoopTactic
import Derived.Laws.Bits64b
import Derived.WalkSpells
import Derived.WalkLawsBesides
import Derived.StillTactics
import Derived.Laws.Pointers
import Derived.Deep.RegionHeld3
import Derived.Deep.QuietTactic
import Derived.BigQuiet
import Derived.Outline
import Derived.Lib.Hide
import Derived.RowKit3
import Derived.Carry
import Derived.IntWalk
import Derived.Lib.ItoaNum
import Derived.Laws.BytesString
namespace Go.Proofs.Ytfgbndjhaiigbab
open Go Go.RowKit
set_option linter.unusedSimpArgs false
set_option linter.unusedVariables false

set_option maxRecDepth 100000

set_option maxHeartbeats 3200000 in
theorem fmParse_yes (E G : Nat) (s : ByteArray) (p : Int) (hg : goodB (E : Int) (G : Int) = true) (hy : PtTx (E : Int) (G : Int) s.data.toList p) (w : World) : Calls Try.prog 8 #[fmt (E : Int) (G : Int), .string s] w fun rv w' => rv = .returned (.tuple #[.int .i64 p, .bool true]) ∧ Ext w w' := by
  obtain ⟨p0, p1, hp⟩ := hy
  obtain ⟨b1, b2, b3, b4⟩ := good_iff.1 hg
  have hl : s.data.toList.length = 3 + E + G := by rw [← hp]; exact fmTx_length E G p
  have hs0 : s.size = 3 + E + G := by simpa using hl
  have hmv : mv s.data.toList = p := by rw [← hp]; exact mv_tx E G p p0 p1
  have FW := Lib.hid (fun w => fmWidth_any (E : Int) (G : Int) hg w)
  have FI := fun w => fmIs_any (E : Int) (G : Int) p w
  rw [pat_iff.2 ⟨hg, p0, p1⟩] at FI
  have FI := Lib.hid FI
  have FX := fun w => fmText_any (E : Int) (G : Int) p hg p0 p1 w
  rw [hp] at FX
  have es : (⟨s.data.toList.toArray⟩ : ByteArray) = s := by rfl
  rw [es] at FX
  have FX := Lib.hid FX
  have hsz : (s.size : Int) = 1 + E + G + 2 := by omega
  have kW : IntKind.i64.wrap (1 + (E : Int) + G + 2) = 1 + (E : Int) + G + 2 := IntWalk.i64_in _ (by omega)
  have z18 : s.size ≤ 18 := by omega
  have HMV := Lib.hid hmv
  have hneq : ((s.size : Int) != 1 + (E : Int) + G + 2) = false := by simpa using hsz
  clear hp hl hs0 hsz hg b1 b2 b3 b4 p0 p1 es hmv
  go_enter Try.func8, Try.ntmps8
  go_wp2_with (go_at_call 12; refine (FW.out _).mono ?_; rintro rv w1 ⟨rfl, hb⟩; have ns : w.heap.size < w1.heap.size := hb.lt (by first | with_reducible assumption | omega | (simp; done) | (simp; omega)); have n0 : w1.cell? ⟨w.heap.size, 0, none⟩ = some (.int .i64 (E : Int)) := (hb.cells _ _ (by first | with_reducible assumption | omega | (simp; done) | (simp; omega))).trans (by first | with_reducible assumption | (simp; done) | (simp; with_reducible assumption) | (rw [cell_alloc_before _ _ _ _ (by omega)]; with_reducible assumption) | (simp [go_sem, *]; done)); have n1 : w1.cell? ⟨w.heap.size, 1, none⟩ = some (.int .i64 (G : Int)) := (hb.cells _ _ (by first | with_reducible assumption | omega | (simp; done) | (simp; omega))).trans (by first | with_reducible assumption | (simp; done) | (simp; with_reducible assumption) | (rw [cell_alloc_before _ _ _ _ (by omega)]; with_reducible assumption) | (simp [go_sem, *]; done)); (first | (have nx := Ext.trans hx hb; clear hx) | (have nx := Ext.trans (hx.alloc _) hb; clear hx) | (have nx := Ext.trans hx.drew hb; clear hx) | have nx := hb); clear hb; try clear hs; try clear g0; try clear g1; have hx := nx; clear nx; have hs := ns; clear ns; have g0 := n0; clear n0; have g1 := n1; clear n1)
  go_loopw [6, 7] (fun s6 s7 wr => ∃ k : Nat, s6 = .int .i64 (mv (s.data.toList.take k)) ∧ s7 = .int .i64 (k : Int) ∧ k ≤ s.size ∧ wr.cell? ⟨w.heap.size, 0, none⟩ = some (.int .i64 (E : Int)) ∧ wr.cell? ⟨w.heap.size, 1, none⟩ = some (.int .i64 (G : Int)) ∧ w.heap.size < wr.heap.size ∧ Ext w wr) (fun _ x _ => s.size - (intOf x).toNat)
  case atStart => exact ⟨0, by first | rfl | simp [mv], rfl, by omega, by first | with_reducible assumption | (simp [go_sem, *]; done), by first | with_reducible assumption | (simp [go_sem, *]; done), by first | with_reducible assumption | (simp; done) | (simp; omega), (by repeat (first | exact Ext.refl _ | with_reducible assumption | apply Ext.alloc | apply Ext.drew | apply Ext.drewN | (refine Ext.setRow ?_ (by first | (simp; done) | (simp; omega) | omega) _) | (refine Ext.setCell ?_ (by first | (simp; done) | (simp; omega) | omega) _) | (refine Ext.trans ?_ (by with_reducible assumption))))⟩
  case round =>
    obtain ⟨k, rfl, rfl, kn, g0, g1, hs, hx⟩ := hrel
    by_cases hk : k < s.size
    · have q : (k : Int) < (s.size : Int) := by omega
      obtain ⟨i1, i2⟩ := mv_take s.data.toList k (by simpa using kn)
      have i3 : mv (s.data.toList.take k) < 1099511627776 := by
        have h2 : (2 : Int) ^ k = ((2 ^ k : Nat) : Int) := by simp
        rw [h2] at i2
        have h3 := Nat.pow_le_pow_right (n := 2) (by decide) (show k ≤ 40 by omega)
        have e40 : (2 : Nat) ^ 40 = 1099511627776 := by decide
        omega
      have ev : mv (s.data.toList.take (k + 1)) = mvS (mv (s.data.toList.take k)) (s[k]'hk) := by rw [get_take s k hk, mv_snoc]
      have c8 := UInt8.toNat_lt (s[k]'hk)
      unfold mvS at ev
      clear i2
      by_cases h48 : (s[k]'hk).toNat = 48
      · rw [if_pos (Or.inl h48)] at ev
        generalize mv (s.data.toList.take k) = v at *
        have c1 : (((s[k]'hk).toNat : Int) == 48) = true := by rw [h48]; rfl
        have c3 : (((s[k]'hk).toNat : Int) - 48) % 256 = ((s[k]'hk).toNat : Int) - 48 := by omega
        have kw : IntKind.i64.wrap (2 * v) = 2 * v := IntWalk.i64_in _ (by omega)
        have kw2 : IntKind.i64.wrap (2 * v + (((s[k]'hk).toNat : Int) - 48)) = 2 * v + (((s[k]'hk).toNat : Int) - 48) := IntWalk.i64_in _ (by omega)
        have EV := Lib.hid ev
        clear ev
        go_wp2
        go_roundw
        all_goals first | (simp [intOf]; done) | (simp [intOf]; omega) | exact ⟨k + 1, by first | (rw [EV.out]; done) | (rw [EV.out]; congr 1; omega), by simp, by omega, g0, g1, hs, (by repeat (first | exact Ext.refl _ | with_reducible assumption | apply Ext.alloc | apply Ext.drew | apply Ext.drewN | (refine Ext.setRow ?_ (by first | (simp; done) | (simp; omega) | omega) _) | (refine Ext.setCell ?_ (by first | (simp; done) | (simp; omega) | omega) _) | (refine Ext.trans ?_ (by with_reducible assumption))))⟩
      · by_cases h49 : (s[k]'hk).toNat = 49
        · rw [if_pos (Or.inr h49)] at ev
          generalize mv (s.data.toList.take k) = v at *
          have c1 : (((s[k]'hk).toNat : Int) == 48) = false := by rw [h49]; rfl
          have c2 : (((s[k]'hk).toNat : Int) == 49) = true := by rw [h49]; rfl
          have c3 : (((s[k]'hk).toNat : Int) - 48) % 256 = ((s[k]'hk).toNat : Int) - 48 := by omega
          have kw : IntKind.i64.wrap (2 * v) = 2 * v := IntWalk.i64_in _ (by omega)
          have kw2 : IntKind.i64.wrap (2 * v + (((s[k]'hk).toNat : Int) - 48)) = 2 * v + (((s[k]'hk).toNat : Int) - 48) := IntWalk.i64_in _ (by omega)
          have EV := Lib.hid ev
          clear ev h48
          go_wp2
          go_roundw
          all_goals first | (simp [intOf]; done) | (simp [intOf]; omega) | exact ⟨k + 1, by first | (rw [EV.out]; done) | (rw [EV.out]; congr 1; omega), by simp, by omega, g0, g1, hs, (by repeat (first | exact Ext.refl _ | with_reducible assumption | apply Ext.alloc | apply Ext.drew | apply Ext.drewN | (refine Ext.setRow ?_ (by first | (simp; done) | (simp; omega) | omega) _) | (refine Ext.setCell ?_ (by first | (simp; done) | (simp; omega) | omega) _) | (refine Ext.trans ?_ (by with_reducible assumption))))⟩
        · rw [if_neg (by omega)] at ev
          generalize mv (s.data.toList.take k) = v at *
          have c1 : (((s[k]'hk).toNat : Int) == 48) = false := by rw [beq_eq_false_iff_ne]; omega
          have c2 : (((s[k]'hk).toNat : Int) == 49) = false := by rw [beq_eq_false_iff_ne]; omega
          have EV := Lib.hid ev
          clear ev h48 h49
          go_wp2
          go_roundw
          all_goals first | (simp [intOf]; done) | (simp [intOf]; omega) | exact ⟨k + 1, by first | (rw [EV.out]; done) | (rw [EV.out]; congr 1; omega), by simp, by omega, g0, g1, hs, (by repeat (first | exact Ext.refl _ | with_reducible assumption | apply Ext.alloc | apply Ext.drew | apply Ext.drewN | (refine Ext.setRow ?_ (by first | (simp; done) | (simp; omega) | omega) _) | (refine Ext.setCell ?_ (by first | (simp; done) | (simp; omega) | omega) _) | (refine Ext.trans ?_ (by with_reducible assumption))))⟩
    · have q : ¬ (k : Int) < (s.size : Int) := by omega
      have e0 : s.data.toList.take k = s.data.toList := List.take_of_length_le (by simp; omega)
      rw [e0]
      clear e0
      rw [HMV.out]
      go_wp2_with (first | (go_at_call 13; refine (FI.out _).mono ?_; rintro rv w1 ⟨rfl, hb⟩; have ns : w.heap.size < w1.heap.size := hb.lt (by first | with_reducible assumption | omega | (simp; done) | (simp; omega)); have n0 : w1.cell? ⟨w.heap.size, 0, none⟩ = some (.int .i64 (E : Int)) := (hb.cells _ _ (by first | with_reducible assumption | omega | (simp; done) | (simp; omega))).trans (by first | with_reducible assumption | (simp; done) | (simp; with_reducible assumption) | (rw [cell_alloc_before _ _ _ _ (by omega)]; with_reducible assumption) | (simp [go_sem, *]; done)); have n1 : w1.cell? ⟨w.heap.size, 1, none⟩ = some (.int .i64 (G : Int)) := (hb.cells _ _ (by first | with_reducible assumption | omega | (simp; done) | (simp; omega))).trans (by first | with_reducible assumption | (simp; done) | (simp; with_reducible assumption) | (rw [cell_alloc_before _ _ _ _ (by omega)]; with_reducible assumption) | (simp [go_sem, *]; done)); (first | (have nx := Ext.trans hx hb; clear hx) | (have nx := Ext.trans (hx.alloc _) hb; clear hx) | (have nx := Ext.trans hx.drew hb; clear hx) | have nx := hb); clear hb; try clear hs; try clear g0; try clear g1; have hx := nx; clear nx; have hs := ns; clear ns; have g0 := n0; clear n0; have g1 := n1; clear n1) | (go_at_call 14; refine (FX.out _).mono ?_; rintro rv w1 ⟨rfl, hb⟩; have ns : w.heap.size < w1.heap.size := hb.lt (by first | with_reducible assumption | omega | (simp; done) | (simp; omega)); have n0 : w1.cell? ⟨w.heap.size, 0, none⟩ = some (.int .i64 (E : Int)) := (hb.cells _ _ (by first | with_reducible assumption | omega | (simp; done) | (simp; omega))).trans (by first | with_reducible assumption | (simp; done) | (simp; with_reducible assumption) | (rw [cell_alloc_before _ _ _ _ (by omega)]; with_reducible assumption) | (simp [go_sem, *]; done)); have n1 : w1.cell? ⟨w.heap.size, 1, none⟩ = some (.int .i64 (G : Int)) := (hb.cells _ _ (by first | with_reducible assumption | omega | (simp; done) | (simp; omega))).trans (by first | with_reducible assumption | (simp; done) | (simp; with_reducible assumption) | (rw [cell_alloc_before _ _ _ _ (by omega)]; with_reducible assumption) | (simp [go_sem, *]; done)); (first | (have nx := Ext.trans hx hb; clear hx) | (have nx := Ext.trans (hx.alloc _) hb; clear hx) | (have nx := Ext.trans hx.drew hb; clear hx) | have nx := hb); clear hb; try clear hs; try clear g0; try clear g1; have hx := nx; clear nx; have hs := ns; clear ns; have g0 := n0; clear n0; have g1 := n1; clear n1))
      go_ret2
      exact ⟨rfl, (by repeat (first | exact Ext.refl _ | with_reducible assumption | apply Ext.alloc | apply Ext.drew | apply Ext.drewN | (refine Ext.setRow ?_ (by first | (simp; done) | (simp; omega) | omega) _) | (refine Ext.setCell ?_ (by first | (simp; done) | (simp; omega) | omega) _) | (refine Ext.trans ?_ (by with_reducible assumption))))⟩

set_option maxHeartbeats 3200000 in
theorem fmParse_no (E G : Nat) (s : ByteArray) (hs9 : s.size ≤ 1048576) (hg : goodB (E : Int) (G : Int) = true) (hno : ∀ p, ¬ PtTx (E : Int) (G : Int) s.data.toList p) (w : World) : Calls Try.prog 8 #[fmt (E : Int) (G : Int), .string s] w fun rv w' => rv = .returned (.tuple #[.int .i64 0, .bool false]) ∧ Ext w w' := by
  obtain ⟨b1, b2, b3, b4⟩ := good_iff.1 hg
  have FW := Lib.hid (fun w => fmWidth_any (E : Int) (G : Int) hg w)
  have kW : IntKind.i64.wrap (1 + (E : Int) + G + 2) = 1 + (E : Int) + G + 2 := IntWalk.i64_in _ (by omega)
  by_cases hsz : (s.size : Int) = 1 + E + G + 2
  · have hneq : ((s.size : Int) != 1 + (E : Int) + G + 2) = false := by simpa using hsz
    have z18 : s.size ≤ 18 := by omega
    have FI := fun w => fmIs_any (E : Int) (G : Int) (mv s.data.toList) w
    have FX : patB (E : Int) (G : Int) (mv s.data.toList) = true → ∃ tx : List UInt8, (∀ w, Calls Try.prog 14 #[fmt (E : Int) (G : Int), .int .i64 (mv s.data.toList)] w fun rv w' => rv = .returned (.string ⟨(tx).toArray⟩) ∧ Ext w w') ∧ (tx == s.toList) = false := fun h => by
      obtain ⟨_, p0, p1⟩ := pat_iff.1 h
      refine ⟨_, fun w => fmText_any (E : Int) (G : Int) _ hg p0 p1 w, ?_⟩
      rw [beq_eq_false_iff_ne, ByteArray.toList_eq]
      exact fun e => hno _ ⟨p0, p1, e⟩
    clear hno hsz hg b1 b2 b3 b4
    go_enter Try.func8, Try.ntmps8
    go_wp2_with (go_at_call 12; refine (FW.out _).mono ?_; rintro rv w1 ⟨rfl, hb⟩; have ns : w.heap.size < w1.heap.size := hb.lt (by first | with_reducible assumption | omega | (simp; done) | (simp; omega)); have n0 : w1.cell? ⟨w.heap.size, 0, none⟩ = some (.int .i64 (E : Int)) := (hb.cells _ _ (by first | with_reducible assumption | omega | (simp; done) | (simp; omega))).trans (by first | with_reducible assumption | (simp; done) | (simp; with_reducible assumption) | (rw [cell_alloc_before _ _ _ _ (by omega)]; with_reducible assumption) | (simp [go_sem, *]; done)); have n1 : w1.cell? ⟨w.heap.size, 1, none⟩ = some (.int .i64 (G : Int)) := (hb.cells _ _ (by first | with_reducible assumption | omega | (simp; done) | (simp; omega))).trans (by first | with_reducible assumption | (simp; done) | (simp; with_reducible assumption) | (rw [cell_alloc_before _ _ _ _ (by omega)]; with_reducible assumption) | (simp [go_sem, *]; done)); (first | (have nx := Ext.trans hx hb; clear hx) | (have nx := Ext.trans (hx.alloc _) hb; clear hx) | (have nx := Ext.trans hx.drew hb; clear hx) | have nx := hb); clear hb; try clear hs; try clear g0; try clear g1; have hx := nx; clear nx; have hs := ns; clear ns; have g0 := n0; clear n0; have g1 := n1; clear n1)
    go_loopw [6, 7] (fun s6 s7 wr => ∃ k : Nat, s6 = .int .i64 (mv (s.data.toList.take k)) ∧ s7 = .int .i64 (k : Int) ∧ k ≤ s.size ∧ wr.cell? ⟨w.heap.size, 0, none⟩ = some (.int .i64 (E : Int)) ∧ wr.cell? ⟨w.heap.size, 1, none⟩ = some (.int .i64 (G : Int)) ∧ w.heap.size < wr.heap.size ∧ Ext w wr) (fun _ x _ => s.size - (intOf x).toNat)
    case atStart => exact ⟨0, by first | rfl | simp [mv], rfl, by omega, by first | with_reducible assumption | (simp [go_sem, *]; done), by first | with_reducible assumption | (simp [go_sem, *]; done), by first | with_reducible assumption | (simp; done) | (simp; omega), (by repeat (first | exact Ext.refl _ | with_reducible assumption | apply Ext.alloc | apply Ext.drew | apply Ext.drewN | (refine Ext.setRow ?_ (by first | (simp; done) | (simp; omega) | omega) _) | (refine Ext.setCell ?_ (by first | (simp; done) | (simp; omega) | omega) _) | (refine Ext.trans ?_ (by with_reducible assumption))))⟩
    case round =>
      obtain ⟨k, rfl, rfl, kn, g0, g1, hs, hx⟩ := hrel
      by_cases hk : k < s.size
      · have q : (k : Int) < (s.size : Int) := by omega
        obtain ⟨i1, i2⟩ := mv_take s.data.toList k (by simpa using kn)
        have i3 : mv (s.data.toList.take k) < 1099511627776 := by
          have h2 : (2 : Int) ^ k = ((2 ^ k : Nat) : Int) := by simp
          rw [h2] at i2
          have h3 := Nat.pow_le_pow_right (n := 2) (by decide) (show k ≤ 40 by omega)
          have e40 : (2 : Nat) ^ 40 = 1099511627776 := by decide
          omega
        have ev : mv (s.data.toList.take (k + 1)) = mvS (mv (s.data.toList.take k)) (s[k]'hk) := by rw [get_take s k hk, mv_snoc]
        have c8 := UInt8.toNat_lt (s[k]'hk)
        unfold mvS at ev
        clear i2
        by_cases h48 : (s[k]'hk).toNat = 48
        · rw [if_pos (Or.inl h48)] at ev
          generalize mv (s.data.toList.take k) = v at *
          have c1 : (((s[k]'hk).toNat : Int) == 48) = true := by rw [h48]; rfl
          have c3 : (((s[k]'hk).toNat : Int) - 48) % 256 = ((s[k]'hk).toNat : Int) - 48 := by omega
          have kw : IntKind.i64.wrap (2 * v) = 2 * v := IntWalk.i64_in _ (by omega)
          have kw2 : IntKind.i64.wrap (2 * v + (((s[k]'hk).toNat : Int) - 48)) = 2 * v + (((s[k]'hk).toNat : Int) - 48) := IntWalk.i64_in _ (by omega)
          have EV := Lib.hid ev
          clear ev
          go_wp2
          go_roundw
          all_goals first | (simp [intOf]; done) | (simp [intOf]; omega) | exact ⟨k + 1, by first | (rw [EV.out]; done) | (rw [EV.out]; congr 1; omega), by simp, by omega, g0, g1, hs, (by repeat (first | exact Ext.refl _ | with_reducible assumption | apply Ext.alloc | apply Ext.drew | apply Ext.drewN | (refine Ext.setRow ?_ (by first | (simp; done) | (simp; omega) | omega) _) | (refine Ext.setCell ?_ (by first | (simp; done) | (simp; omega) | omega) _) | (refine Ext.trans ?_ (by with_reducible assumption))))⟩
        · by_cases h49 : (s[k]'hk).toNat = 49
          · rw [if_pos (Or.inr h49)] at ev
            generalize mv (s.data.toList.take k) = v at *
            have c1 : (((s[k]'hk).toNat : Int) == 48) = false := by rw [h49]; rfl
            have c2 : (((s[k]'hk).toNat : Int) == 49) = true := by rw [h49]; rfl
            have c3 : (((s[k]'hk).toNat : Int) - 48) % 256 = ((s[k]'hk).toNat : Int) - 48 := by omega
            have kw : IntKind.i64.wrap (2 * v) = 2 * v := IntWalk.i64_in _ (by omega)
            have kw2 : IntKind.i64.wrap (2 * v + (((s[k]'hk).toNat : Int) - 48)) = 2 * v + (((s[k]'hk).toNat : Int) - 48) := IntWalk.i64_in _ (by omega)
            have EV := Lib.hid ev
            clear ev h48
            go_wp2
            go_roundw
            all_goals first | (simp [intOf]; done) | (simp [intOf]; omega) | exact ⟨k + 1, by first | (rw [EV.out]; done) | (rw [EV.out]; congr 1; omega), by simp, by omega, g0, g1, hs, (by repeat (first | exact Ext.refl _ | with_reducible assumption | apply Ext.alloc | apply Ext.drew | apply Ext.drewN | (refine Ext.setRow ?_ (by first | (simp; done) | (simp; omega) | omega) _) | (refine Ext.setCell ?_ (by first | (simp; done) | (simp; omega) | omega) _) | (refine Ext.trans ?_ (by with_reducible assumption))))⟩
          · rw [if_neg (by omega)] at ev
            generalize mv (s.data.toList.take k) = v at *
            have c1 : (((s[k]'hk).toNat : Int) == 48) = false := by rw [beq_eq_false_iff_ne]; omega
            have c2 : (((s[k]'hk).toNat : Int) == 49) = false := by rw [beq_eq_false_iff_ne]; omega
            have EV := Lib.hid ev
            clear ev h48 h49
            go_wp2
            go_roundw
            all_goals first | (simp [intOf]; done) | (simp [intOf]; omega) | exact ⟨k + 1, by first | (rw [EV.out]; done) | (rw [EV.out]; congr 1; omega), by simp, by omega, g0, g1, hs, (by repeat (first | exact Ext.refl _ | with_reducible assumption | apply Ext.alloc | apply Ext.drew | apply Ext.drewN | (refine Ext.setRow ?_ (by first | (simp; done) | (simp; omega) | omega) _) | (refine Ext.setCell ?_ (by first | (simp; done) | (simp; omega) | omega) _) | (refine Ext.trans ?_ (by with_reducible assumption))))⟩
      · have q : ¬ (k : Int) < (s.size : Int) := by omega
        have e0 : s.data.toList.take k = s.data.toList := List.take_of_length_le (by simp; omega)
        rw [e0]
        clear e0
        generalize mv s.data.toList = v at *
        cases hd : patB (E : Int) (G : Int) v
        · rw [hd] at FI
          have FI := Lib.hid FI
          clear FX hd
          go_wp2_with (first | (go_at_call 13; refine (FI.out _).mono ?_; rintro rv w1 ⟨rfl, hb⟩; have ns : w.heap.size < w1.heap.size := hb.lt (by first | with_reducible assumption | omega | (simp; done) | (simp; omega)); have n0 : w1.cell? ⟨w.heap.size, 0, none⟩ = some (.int .i64 (E : Int)) := (hb.cells _ _ (by first | with_reducible assumption | omega | (simp; done) | (simp; omega))).trans (by first | with_reducible assumption | (simp; done) | (simp; with_reducible assumption) | (rw [cell_alloc_before _ _ _ _ (by omega)]; with_reducible assumption) | (simp [go_sem, *]; done)); have n1 : w1.cell? ⟨w.heap.size, 1, none⟩ = some (.int .i64 (G : Int)) := (hb.cells _ _ (by first | with_reducible assumption | omega | (simp; done) | (simp; omega))).trans (by first | with_reducible assumption | (simp; done) | (simp; with_reducible assumption) | (rw [cell_alloc_before _ _ _ _ (by omega)]; with_reducible assumption) | (simp [go_sem, *]; done)); (first | (have nx := Ext.trans hx hb; clear hx) | (have nx := Ext.trans (hx.alloc _) hb; clear hx) | (have nx := Ext.trans hx.drew hb; clear hx) | have nx := hb); clear hb; try clear hs; try clear g0; try clear g1; have hx := nx; clear nx; have hs := ns; clear ns; have g0 := n0; clear n0; have g1 := n1; clear n1))
          go_ret2
          exact ⟨rfl, (by repeat (first | exact Ext.refl _ | with_reducible assumption | apply Ext.alloc | apply Ext.drew | apply Ext.drewN | (refine Ext.setRow ?_ (by first | (simp; done) | (simp; omega) | omega) _) | (refine Ext.setCell ?_ (by first | (simp; done) | (simp; omega) | omega) _) | (refine Ext.trans ?_ (by with_reducible assumption))))⟩
        · rw [hd] at FI
          have FI := Lib.hid FI
          obtain ⟨tx, FX, hnb⟩ := FX hd
          have FX := Lib.hid FX
          clear hd
          go_wp2_with (first | (go_at_call 13; refine (FI.out _).mono ?_; rintro rv w1 ⟨rfl, hb⟩; have ns : w.heap.size < w1.heap.size := hb.lt (by first | with_reducible assumption | omega | (simp; done) | (simp; omega)); have n0 : w1.cell? ⟨w.heap.size, 0, none⟩ = some (.int .i64 (E : Int)) := (hb.cells _ _ (by first | with_reducible assumption | omega | (simp; done) | (simp; omega))).trans (by first | with_reducible assumption | (simp; done) | (simp; with_reducible assumption) | (rw [cell_alloc_before _ _ _ _ (by omega)]; with_reducible assumption) | (simp [go_sem, *]; done)); have n1 : w1.cell? ⟨w.heap.size, 1, none⟩ = some (.int .i64 (G : Int)) := (hb.cells _ _ (by first | with_reducible assumption | omega | (simp; done) | (simp; omega))).trans (by first | with_reducible assumption | (simp; done) | (simp; with_reducible assumption) | (rw [cell_alloc_before _ _ _ _ (by omega)]; with_reducible assumption) | (simp [go_sem, *]; done)); (first | (have nx := Ext.trans hx hb; clear hx) | (have nx := Ext.trans (hx.alloc _) hb; clear hx) | (have nx := Ext.trans hx.drew hb; clear hx) | have nx := hb); clear hb; try clear hs; try clear g0; try clear g1; have hx := nx; clear nx; have hs := ns; clear ns; have g0 := n0; clear n0; have g1 := n1; clear n1) | (go_at_call 14; refine (FX.out _).mono ?_; rintro rv w1 ⟨rfl, hb⟩; have ns : w.heap.size < w1.heap.size := hb.lt (by first | with_reducible assumption | omega | (simp; done) | (simp; omega)); have n0 : w1.cell? ⟨w.heap.size, 0, none⟩ = some (.int .i64 (E : Int)) := (hb.cells _ _ (by first | with_reducible assumption | omega | (simp; done) | (simp; omega))).trans (by first | with_reducible assumption | (simp; done) | (simp; with_reducible assumption) | (rw [cell_alloc_before _ _ _ _ (by omega)]; with_reducible assumption) | (simp [go_sem, *]; done)); have n1 : w1.cell? ⟨w.heap.size, 1, none⟩ = some (.int .i64 (G : Int)) := (hb.cells _ _ (by first | with_reducible assumption | omega | (simp; done) | (simp; omega))).trans (by first | with_reducible assumption | (simp; done) | (simp; with_reducible assumption) | (rw [cell_alloc_before _ _ _ _ (by omega)]; with_reducible assumption) | (simp [go_sem, *]; done)); (first | (have nx := Ext.trans hx hb; clear hx) | (have nx := Ext.trans (hx.alloc _) hb; clear hx) | (have nx := Ext.trans hx.drew hb; clear hx) | have nx := hb); clear hb; try clear hs; try clear g0; try clear g1; have hx := nx; clear nx; have hs := ns; clear ns; have g0 := n0; clear n0; have g1 := n1; clear n1))
          go_ret2
          exact ⟨rfl, (by repeat (first | exact Ext.refl _ | with_reducible assumption | apply Ext.alloc | apply Ext.drew | apply Ext.drewN | (refine Ext.setRow ?_ (by first | (simp; done) | (simp; omega) | omega) _) | (refine Ext.setCell ?_ (by first | (simp; done) | (simp; omega) | omega) _) | (refine Ext.trans ?_ (by with_reducible assumption))))⟩
  · have hneq : ((s.size : Int) != 1 + (E : Int) + G + 2) = true := by simpa using hsz
    clear hno hsz hg b1 b2 b3 b4
    go_enter Try.func8, Try.ntmps8
    go_wp2_with (go_at_call 12; refine (FW.out _).mono ?_; rintro rv w1 ⟨rfl, hb⟩; have ns : w.heap.size < w1.heap.size := hb.lt (by first | with_reducible assumption | omega | (simp; done) | (simp; omega)); have n0 : w1.cell? ⟨w.heap.size, 0, none⟩ = some (.int .i64 (E : Int)) := (hb.cells _ _ (by first | with_reducible assumption | omega | (simp; done) | (simp; omega))).trans (by first | with_reducible assumption | (simp; done) | (simp; with_reducible assumption) | (rw [cell_alloc_before _ _ _ _ (by omega)]; with_reducible assumption) | (simp [go_sem, *]; done)); have n1 : w1.cell? ⟨w.heap.size, 1, none⟩ = some (.int .i64 (G : Int)) := (hb.cells _ _ (by first | with_reducible assumption | omega | (simp; done) | (simp; omega))).trans (by first | with_reducible assumption | (simp; done) | (simp; with_reducible assumption) | (rw [cell_alloc_before _ _ _ _ (by omega)]; with_reducible assumption) | (simp [go_sem, *]; done)); (first | (have nx := Ext.trans hx hb; clear hx) | (have nx := Ext.trans (hx.alloc _) hb; clear hx) | (have nx := Ext.trans hx.drew hb; clear hx) | have nx := hb); clear hb; try clear hs; try clear g0; try clear g1; have hx := nx; clear nx; have hs := ns; clear ns; have g0 := n0; clear n0; have g1 := n1; clear n1)
    go_ret2
    exact ⟨rfl, (by repeat (first | exact Ext.refl _ | with_reducible assumption | apply Ext.alloc | apply Ext.drew | apply Ext.drewN | (refine Ext.setRow ?_ (by first | (simp; done) | (simp; omega) | omega) _) | (refine Ext.setCell ?_ (by first | (simp; done) | (simp; omega) | omega) _) | (refine Ext.trans ?_ (by with_reducible assumption))))⟩

theorem sParsePattern_bad (e f : Int) (s : ByteArray) (hg : goodB e f = false) (w : World) : Calls Try.prog 4 #[fmt e f, .string s] w fun rv w' => rv = .returned (.tuple #[.int .i64 0, .bool false]) ∧ Ext w w' := by
  have FG := fun w => fmGood_any e f w
  rw [hg] at FG
  have FG := Lib.hid FG
  go_enter Try.func4, Try.ntmps4
  go_wp2_with (go_at_call 7; refine (FG.out _).mono ?_; rintro rv w1 ⟨rfl, hb⟩; have ns : w.heap.size < w1.heap.size := hb.lt (by first | with_reducible assumption | omega | (simp; done) | (simp; omega)); have n0 : w1.cell? ⟨w.heap.size, 0, none⟩ = some (.int .i64 e) := (hb.cells _ _ (by first | with_reducible assumption | omega | (simp; done) | (simp; omega))).trans (by first | with_reducible assumption | (simp; done) | (simp; with_reducible assumption) | (rw [cell_alloc_before _ _ _ _ (by omega)]; with_reducible assumption) | (simp [go_sem, *]; done)); have n1 : w1.cell? ⟨w.heap.size, 1, none⟩ = some (.int .i64 f) := (hb.cells _ _ (by first | with_reducible assumption | omega | (simp; done) | (simp; omega))).trans (by first | with_reducible assumption | (simp; done) | (simp; with_reducible assumption) | (rw [cell_alloc_before _ _ _ _ (by omega)]; with_reducible assumption) | (simp [go_sem, *]; done)); (first | (have nx := Ext.trans hx hb; clear hx) | (have nx := Ext.trans (hx.alloc _) hb; clear hx) | (have nx := Ext.trans hx.drew hb; clear hx) | have nx := hb); clear hb; try clear hs; try clear g0; try clear g1; have hx := nx; clear nx; have hs := ns; clear ns; have g0 := n0; clear n0; have g1 := n1; clear n1)
  go_ret2
  exact ⟨rfl, (by repeat (first | exact Ext.refl _ | with_reducible assumption | apply Ext.alloc | apply Ext.drew | apply Ext.drewN | (refine Ext.setRow ?_ (by first | (simp; done) | (simp; omega) | omega) _) | (refine Ext.setCell ?_ (by first | (simp; done) | (simp; omega) | omega) _) | (refine Ext.trans ?_ (by with_reducible assumption))))⟩

theorem sParsePattern_of (e f : Int) (s : ByteArray) (r : Int) (b : Bool) (hg : goodB e f = true) (H : ∀ w, Calls Try.prog 8 #[fmt e f, .string s] w fun rv w' => rv = .returned (.tuple #[.int .i64 r, .bool b]) ∧ Ext w w') (w : World) : Calls Try.prog 4 #[fmt e f, .string s] w fun rv w' => rv = .returned (.tuple #[.int .i64 r, .bool b]) ∧ Ext w w' := by
  have FG := fun w => fmGood_any e f w
  rw [hg] at FG
  have FG := Lib.hid FG
  have H := Lib.hid H
  go_enter Try.func4, Try.ntmps4
  go_wp2_with (first | (go_at_call 7; refine (FG.out _).mono ?_; rintro rv w1 ⟨rfl, hb⟩; have ns : w.heap.size < w1.heap.size := hb.lt (by first | with_reducible assumption | omega | (simp; done) | (simp; omega)); have n0 : w1.cell? ⟨w.heap.size, 0, none⟩ = some (.int .i64 e) := (hb.cells _ _ (by first | with_reducible assumption | omega | (simp; done) | (simp; omega))).trans (by first | with_reducible assumption | (simp; done) | (simp; with_reducible assumption) | (rw [cell_alloc_before _ _ _ _ (by omega)]; with_reducible assumption) | (simp [go_sem, *]; done)); have n1 : w1.cell? ⟨w.heap.size, 1, none⟩ = some (.int .i64 f) := (hb.cells _ _ (by first | with_reducible assumption | omega | (simp; done) | (simp; omega))).trans (by first | with_reducible assumption | (simp; done) | (simp; with_reducible assumption) | (rw [cell_alloc_before _ _ _ _ (by omega)]; with_reducible assumption) | (simp [go_sem, *]; done)); (first | (have nx := Ext.trans hx hb; clear hx) | (have nx := Ext.trans (hx.alloc _) hb; clear hx) | (have nx := Ext.trans hx.drew hb; clear hx) | have nx := hb); clear hb; try clear hs; try clear g0; try clear g1; have hx := nx; clear nx; have hs := ns; clear ns; have g0 := n0; clear n0; have g1 := n1; clear n1) | (go_at_call 8; refine (H.out _).mono ?_; rintro rv w1 ⟨rfl, hb⟩; have ns : w.heap.size < w1.heap.size := hb.lt (by first | with_reducible assumption | omega | (simp; done) | (simp; omega)); have n0 : w1.cell? ⟨w.heap.size, 0, none⟩ = some (.int .i64 e) := (hb.cells _ _ (by first | with_reducible assumption | omega | (simp; done) | (simp; omega))).trans (by first | with_reducible assumption | (simp; done) | (simp; with_reducible assumption) | (rw [cell_alloc_before _ _ _ _ (by omega)]; with_reducible assumption) | (simp [go_sem, *]; done)); have n1 : w1.cell? ⟨w.heap.size, 1, none⟩ = some (.int .i64 f) := (hb.cells _ _ (by first | with_reducible assumption | omega | (simp; done) | (simp; omega))).trans (by first | with_reducible assumption | (simp; done) | (simp; with_reducible assumption) | (rw [cell_alloc_before _ _ _ _ (by omega)]; with_reducible assumption) | (simp [go_sem, *]; done)); (first | (have nx := Ext.trans hx hb; clear hx) | (have nx := Ext.trans (hx.alloc _) hb; clear hx) | (have nx := Ext.trans hx.drew hb; clear hx) | have nx := hb); clear hb; try clear hs; try clear g0; try clear g1; have hx := nx; clear nx; have hs := ns; clear ns; have g0 := n0; clear n0; have g1 := n1; clear n1))
  go_ret2
  exact ⟨rfl, (by repeat (first | exact Ext.refl _ | with_reducible assumption | apply Ext.alloc | apply Ext.drew | apply Ext.drewN | (refine Ext.setRow ?_ (by first | (simp; done) | (simp; omega) | omega) _) | (refine Ext.setCell ?_ (by first | (simp; done) | (simp; omega) | omega) _) | (refine Ext.trans ?_ (by with_reducible assumption))))⟩

theorem iParsePattern_bad (e f : Int) (s : ByteArray) (hg : goodB e f = false) (w : World) : Calls Try.prog 6 #[fmt e f, .string s] w fun rv w' => rv = .returned (.tuple #[.int .i64 0, .bool false]) ∧ Ext w w' := by
  have WO := Lib.hid (fun w => iWidthOf_no e f hg w)
  go_enter Try.func6, Try.ntmps6
  go_wp2_with (go_at_call 9; refine (WO.out _).mono ?_; rintro rv w1 ⟨rfl, hb⟩; have ns : w.heap.size < w1.heap.size := hb.lt (by first | with_reducible assumption | omega | (simp; done) | (simp; omega)); have n0 : w1.cell? ⟨w.heap.size, 0, none⟩ = some (.int .i64 e) := (hb.cells _ _ (by first | with_reducible assumption | omega | (simp; done) | (simp; omega))).trans (by first | with_reducible assumption | (simp; done) | (simp; with_reducible assumption) | (rw [cell_alloc_before _ _ _ _ (by omega)]; with_reducible assumption) | (simp [go_sem, *]; done)); have n1 : w1.cell? ⟨w.heap.size, 1, none⟩ = some (.int .i64 f) := (hb.cells _ _ (by first | with_reducible assumption | omega | (simp; done) | (simp; omega))).trans (by first | with_reducible assumption | (simp; done) | (simp; with_reducible assumption) | (rw [cell_alloc_before _ _ _ _ (by omega)]; with_reducible assumption) | (simp [go_sem, *]; done)); (first | (have nx := Ext.trans hx hb; clear hx) | (have nx := Ext.trans (hx.alloc _) hb; clear hx) | (have nx := Ext.trans hx.drew hb; clear hx) | have nx := hb); clear hb; try clear hs; try clear g0; try clear g1; have hx := nx; clear nx; have hs := ns; clear ns; have g0 := n0; clear n0; have g1 := n1; clear n1)
  go_ret2
  exact ⟨rfl, (by repeat (first | exact Ext.refl _ | with_reducible assumption | apply Ext.alloc | apply Ext.drew | apply Ext.drewN | (refine Ext.setRow ?_ (by first | (simp; done) | (simp; omega) | omega) _) | (refine Ext.setCell ?_ (by first | (simp; done) | (simp; omega) | omega) _) | (refine Ext.trans ?_ (by with_reducible assumption))))⟩

/-- The text's bits alone. -/
def ptB (s : ByteArray) (E : Nat) : ByteArray := s.extract 0 1 ++ s.extract 2 (2 + E) ++ s.extract (3 + E) s.size
theorem xtB (s : ByteArray) (a b : Nat) : (s.extract a b).data.toList = (s.data.toList.drop a).take (b - a) := by simp [List.extract_eq_take_drop]
theorem ptB_list (s : ByteArray) (E G : Nat) (hs : s.size = 3 + E + G) : (ptB s E).data.toList = s.data.toList.take 1 ++ (s.data.toList.drop 2).take E ++ s.data.toList.drop (3 + E) := by
  unfold ptB
  rw [ByteArray.data_append, ByteArray.data_append, Array.toList_append, Array.toList_append, xtB, xtB, xtB]
  congr 1
  · congr 1
    rw [show 2 + E - 2 = E by omega]
  · exact List.take_of_length_le (by simp)
theorem get_opt (s : ByteArray) (k : Nat) (h : k < s.size) : s.data.toList[k]? = some (s[k]'h) := List.getElem?_eq_getElem (by simpa using h)

set_option maxHeartbeats 3200000 in
theorem iParsePattern_dot (E G : Nat) (s : ByteArray) (r : Int) (b : Bool) (hg : goodB (E : Int) (G : Int) = true) (hsz0 : s.size = 3 + E + G) (h1 : s.data.toList[1]? = some 46) (h2 : s.data.toList[2 + E]? = some 46)
    (PBC : ∀ w, Calls Try.prog 10 #[.string (ptB s E)] w fun rv w' => rv = .returned (.tuple #[.int .i64 r, .bool b]) ∧ Ext w w') (w : World) : Calls Try.prog 6 #[fmt (E : Int) (G : Int), .string s] w fun rv w' => rv = .returned (.tuple #[.int .i64 r, .bool b]) ∧ Ext w w' := by
  obtain ⟨b1, b2, b3, b4⟩ := good_iff.1 hg
  have WO := Lib.hid (fun w => iWidthOf_yes (E : Int) (G : Int) hg w)
  have kW : IntKind.i64.wrap (1 + (E : Int) + G + 2) = 1 + (E : Int) + G + 2 := IntWalk.i64_in _ (by omega)
  have hneq : ((s.size : Int) != 1 + (E : Int) + G + 2) = false := by simp; omega
  have q1 : 1 < s.size := by omega
  have q2 : 2 + E < s.size := by omega
  have d1 : (((s[1]'q1).toNat : Int) != 46) = false := by
    rw [get_opt s 1 q1] at h1; rw [Option.some.inj h1]; rfl
  have d2 : (((s[2 + E]'q2).toNat : Int) != 46) = false := by
    rw [get_opt s _ q2] at h2; rw [Option.some.inj h2]; rfl
  have k2 : IntKind.i64.wrap (2 + (E : Int)) = 2 + (E : Int) := IntWalk.i64_in _ (by omega)
  have k3 : IntKind.i64.wrap (2 + (E : Int) + 1) = 2 + (E : Int) + 1 := IntWalk.i64_in _ (by omega)
  have SL1 : ∀ w, (Instr.slice 9 (.string s) none (some (.int .i64 1)) none).run Try.prog w = .ok (.string (s.extract 0 1)) w := fun w => by rw [run_slice_string_to_if _ _ _ _ _ Try.underlying9, if_pos ⟨by omega, by omega⟩]; rfl
  have SL2 : ∀ w, (Instr.slice 9 (.string s) (some (.int .i64 2)) (some (.int .i64 (2 + (E : Int)))) none).run Try.prog w = .ok (.string (s.extract 2 (2 + E))) w := fun w => by rw [run_slice_string_if _ _ _ _ _ _ _ Try.underlying9, if_pos ⟨by omega, by omega⟩, if_pos ⟨by omega, by omega⟩]; rfl
  have SL3 : ∀ w, (Instr.slice 9 (.string s) (some (.int .i64 (2 + (E : Int) + 1))) none none).run Try.prog w = .ok (.string (s.extract (3 + E) s.size)) w := fun w => by rw [run_slice_string_from_if _ _ _ _ _ Try.underlying9, if_pos ⟨by omega, by omega⟩]; rw [show (2 + (E : Int) + 1).toNat = 3 + E by omega]
  have y1 : (s.extract 0 1).size ≤ 1048576 := by rw [ByteArray.size_extract]; omega
  have y2 : (s.extract 2 (2 + E)).size ≤ 1048576 := by rw [ByteArray.size_extract]; omega
  have y3 : (s.extract (3 + E) s.size).size ≤ 1048576 := by rw [ByteArray.size_extract]; omega
  unfold ptB at PBC
  obtain ⟨x, ex⟩ : ∃ x, s.extract 0 1 = x := ⟨_, rfl⟩
  obtain ⟨y, ey⟩ : ∃ y, s.extract 2 (2 + E) = y := ⟨_, rfl⟩
  obtain ⟨z, ez⟩ : ∃ z, s.extract (3 + E) s.size = z := ⟨_, rfl⟩
  rw [ex] at y1 PBC SL1
  rw [ey] at y2 PBC SL2
  rw [ez] at y3 PBC SL3
  have f1 : (0 : Int) ≤ 2 + (E : Int) ∧ 2 + (E : Int) ≤ (s.size : Int) := by omega
  have f2 : (0 : Int) ≤ 2 ∧ (2 : Int) ≤ 2 + (E : Int) := by omega
  have f3 : (2 + (E : Int)).toNat = 2 + E := by omega
  have f4 : (2 + (E : Int) + 1).toNat = 3 + E := by omega
  have f5 : (0 : Int) ≤ 2 + (E : Int) + 1 ∧ 2 + (E : Int) + 1 ≤ (s.size : Int) := by omega
  have f6 : (0 : Int) ≤ 1 ∧ (1 : Int) ≤ (s.size : Int) := by omega
  have c1 : ¬ 9223372036854775807 < x.size + y.size := by omega
  have c2 : ¬ 9223372036854775807 < x.size + y.size + z.size := by omega
  have PBC := Lib.hid PBC
  clear h1 h2 hg y1 y2 y3
  go_enter Try.func6, Try.ntmps6
  go_wp2_with (go_at_call 9; refine (WO.out _).mono ?_; rintro rv w1 ⟨rfl, hb⟩; have ns : w.heap.size < w1.heap.size := hb.lt (by first | with_reducible assumption | omega | (simp; done) | (simp; omega)); have n0 : w1.cell? ⟨w.heap.size, 0, none⟩ = some (.int .i64 (E : Int)) := (hb.cells _ _ (by first | with_reducible assumption | omega | (simp; done) | (simp; omega))).trans (by first | with_reducible assumption | (simp; done) | (simp; with_reducible assumption) | (rw [cell_alloc_before _ _ _ _ (by omega)]; with_reducible assumption) | (simp [go_sem, *]; done)); have n1 : w1.cell? ⟨w.heap.size, 1, none⟩ = some (.int .i64 (G : Int)) := (hb.cells _ _ (by first | with_reducible assumption | omega | (simp; done) | (simp; omega))).trans (by first | with_reducible assumption | (simp; done) | (simp; with_reducible assumption) | (rw [cell_alloc_before _ _ _ _ (by omega)]; with_reducible assumption) | (simp [go_sem, *]; done)); (first | (have nx := Ext.trans hx hb; clear hx) | (have nx := Ext.trans (hx.alloc _) hb; clear hx) | (have nx := Ext.trans hx.drew hb; clear hx) | have nx := hb); clear hb; try clear hs; try clear g0; try clear g1; have hx := nx; clear nx; have hs := ns; clear ns; have g0 := n0; clear n0; have g1 := n1; clear n1)
  try (go_region)
  all_goals (try go_wp2_with fail)
  all_goals (try (first | (go_region_with (first | (go_at_call 10; refine (PBC.out _).mono ?_; rintro rv w1 ⟨rfl, hb⟩; have ns : w.heap.size < w1.heap.size := hb.lt (by first | with_reducible assumption | omega | (simp; done) | (simp; omega)); have n0 : w1.cell? ⟨w.heap.size, 0, none⟩ = some (.int .i64 (E : Int)) := (hb.cells _ _ (by first | with_reducible assumption | omega | (simp; done) | (simp; omega))).trans (by first | with_reducible assumption | (simp; done) | (simp; with_reducible assumption) | (rw [cell_alloc_before _ _ _ _ (by omega)]; with_reducible assumption) | (simp [go_sem, *]; done)); have n1 : w1.cell? ⟨w.heap.size, 1, none⟩ = some (.int .i64 (G : Int)) := (hb.cells _ _ (by first | with_reducible assumption | omega | (simp; done) | (simp; omega))).trans (by first | with_reducible assumption | (simp; done) | (simp; with_reducible assumption) | (rw [cell_alloc_before _ _ _ _ (by omega)]; with_reducible assumption) | (simp [go_sem, *]; done)); (first | (have nx := Ext.trans hx hb; clear hx) | (have nx := Ext.trans (hx.alloc _) hb; clear hx) | (have nx := Ext.trans hx.drew hb; clear hx) | have nx := hb); clear hb; try clear hs; try clear g0; try clear g1; have hx := nx; clear nx; have hs := ns; clear ns; have g0 := n0; clear n0; have g1 := n1; clear n1))) | fail))
  all_goals (try go_wp2_with fail)
  all_goals go_ret2
  all_goals exact ⟨rfl, (by repeat (first | exact Ext.refl _ | with_reducible assumption | apply Ext.alloc | apply Ext.drew | apply Ext.drewN | (refine Ext.setRow ?_ (by first | (simp; done) | (simp; omega) | omega) _) | (refine Ext.setCell ?_ (by first | (simp; done) | (simp; omega) | omega) _) | (refine Ext.trans ?_ (by with_reducible assumption))))⟩

set_option maxHeartbeats 3200000 in
theorem iParsePattern_size (E G : Nat) (s : ByteArray) (hs9 : s.size ≤ 1048576) (hg : goodB (E : Int) (G : Int) = true) (hz : ¬ s.size = 3 + E + G) (w : World) : Calls Try.prog 6 #[fmt (E : Int) (G : Int), .string s] w fun rv w' => rv = .returned (.tuple #[.int .i64 0, .bool false]) ∧ Ext w w' := by
  obtain ⟨b1, b2, b3, b4⟩ := good_iff.1 hg
  have WO := Lib.hid (fun w => iWidthOf_yes (E : Int) (G : Int) hg w)
  have kW : IntKind.i64.wrap (1 + (E : Int) + G + 2) = 1 + (E : Int) + G + 2 := IntWalk.i64_in _ (by omega)
  have k2 : IntKind.i64.wrap (2 + (E : Int)) = 2 + (E : Int) := IntWalk.i64_in _ (by omega)
  have hneq : ((s.size : Int) != 1 + (E : Int) + G + 2) = true := by simp; omega
  clear hg
  go_enter Try.func6, Try.ntmps6
  go_wp2_with (go_at_call 9; refine (WO.out _).mono ?_; rintro rv w1 ⟨rfl, hb⟩; have ns : w.heap.size < w1.heap.size := hb.lt (by first | with_reducible assumption | omega | (simp; done) | (simp; omega)); have n0 : w1.cell? ⟨w.heap.size, 0, none⟩ = some (.int .i64 (E : Int)) := (hb.cells _ _ (by first | with_reducible assumption | omega | (simp; done) | (simp; omega))).trans (by first | with_reducible assumption | (simp; done) | (simp; with_reducible assumption) | (rw [cell_alloc_before _ _ _ _ (by omega)]; with_reducible assumption) | (simp [go_sem, *]; done)); have n1 : w1.cell? ⟨w.heap.size, 1, none⟩ = some (.int .i64 (G : Int)) := (hb.cells _ _ (by first | with_reducible assumption | omega | (simp; done) | (simp; omega))).trans (by first | with_reducible assumption | (simp; done) | (simp; with_reducible assumption) | (rw [cell_alloc_before _ _ _ _ (by omega)]; with_reducible assumption) | (simp [go_sem, *]; done)); (first | (have nx := Ext.trans hx hb; clear hx) | (have nx := Ext.trans (hx.alloc _) hb; clear hx) | (have nx := Ext.trans hx.drew hb; clear hx) | have nx := hb); clear hb; try clear hs; try clear g0; try clear g1; have hx := nx; clear nx; have hs := ns; clear ns; have g0 := n0; clear n0; have g1 := n1; clear n1)
  try (go_region)
  all_goals (try go_wp2_with fail)
  all_goals go_ret2
  all_goals exact ⟨rfl, (by repeat (first | exact Ext.refl _ | with_reducible assumption | apply Ext.alloc | apply Ext.drew | apply Ext.drewN | (refine Ext.setRow ?_ (by first | (simp; done) | (simp; omega) | omega) _) | (refine Ext.setCell ?_ (by first | (simp; done) | (simp; omega) | omega) _) | (refine Ext.trans ?_ (by with_reducible assumption))))⟩

set_option maxHeartbeats 3200000 in
theorem iParsePattern_one (E G : Nat) (s : ByteArray) (hs9 : s.size ≤ 1048576) (hg : goodB (E : Int) (G : Int) = true) (hsz0 : s.size = 3 + E + G) (h1 : ¬ s.data.toList[1]? = some 46) (w : World) : Calls Try.prog 6 #[fmt (E : Int) (G : Int), .string s] w fun rv w' => rv = .returned (.tuple #[.int .i64 0, .bool false]) ∧ Ext w w' := by
  obtain ⟨b1, b2, b3, b4⟩ := good_iff.1 hg
  have WO := Lib.hid (fun w => iWidthOf_yes (E : Int) (G : Int) hg w)
  have kW : IntKind.i64.wrap (1 + (E : Int) + G + 2) = 1 + (E : Int) + G + 2 := IntWalk.i64_in _ (by omega)
  have k2 : IntKind.i64.wrap (2 + (E : Int)) = 2 + (E : Int) := IntWalk.i64_in _ (by omega)
  have hneq : ((s.size : Int) != 1 + (E : Int) + G + 2) = false := by simp; omega
  have q1 : 1 < s.size := by omega
  have q2 : 2 + E < s.size := by omega
  have d1 : (((s[1]'q1).toNat : Int) != 46) = true := by rw [get_opt s 1 q1] at h1; rw [bne_iff_ne]; intro e; exact h1 (congrArg some (UInt8.toNat_inj.1 (by rw [show (46 : UInt8).toNat = 46 from rfl]; omega)))
  clear hg
  go_enter Try.func6, Try.ntmps6
  go_wp2_with (go_at_call 9; refine (WO.out _).mono ?_; rintro rv w1 ⟨rfl, hb⟩; have ns : w.heap.size < w1.heap.size := hb.lt (by first | with_reducible assumption | omega | (simp; done) | (simp; omega)); have n0 : w1.cell? ⟨w.heap.size, 0, none⟩ = some (.int .i64 (E : Int)) := (hb.cells _ _ (by first | with_reducible assumption | omega | (simp; done) | (simp; omega))).trans (by first | with_reducible assumption | (simp; done) | (simp; with_reducible assumption) | (rw [cell_alloc_before _ _ _ _ (by omega)]; with_reducible assumption) | (simp [go_sem, *]; done)); have n1 : w1.cell? ⟨w.heap.size, 1, none⟩ = some (.int .i64 (G : Int)) := (hb.cells _ _ (by first | with_reducible assumption | omega | (simp; done) | (simp; omega))).trans (by first | with_reducible assumption | (simp; done) | (simp; with_reducible assumption) | (rw [cell_alloc_before _ _ _ _ (by omega)]; with_reducible assumption) | (simp [go_sem, *]; done)); (first | (have nx := Ext.trans hx hb; clear hx) | (have nx := Ext.trans (hx.alloc _) hb; clear hx) | (have nx := Ext.trans hx.drew hb; clear hx) | have nx := hb); clear hb; try clear hs; try clear g0; try clear g1; have hx := nx; clear nx; have hs := ns; clear ns; have g0 := n0; clear n0; have g1 := n1; clear n1)
  try (go_region)
  all_goals (try go_wp2_with fail)
  all_goals go_ret2
  all_goals exact ⟨rfl, (by repeat (first | exact Ext.refl _ | with_reducible assumption | apply Ext.alloc | apply Ext.drew | apply Ext.drewN | (refine Ext.setRow ?_ (by first | (simp; done) | (simp; omega) | omega) _) | (refine Ext.setCell ?_ (by first | (simp; done) | (simp; omega) | omega) _) | (refine Ext.trans ?_ (by with_reducible assumption))))⟩

set_option maxHeartbeats 3200000 in
theorem iParsePattern_two (E G : Nat) (s : ByteArray) (hs9 : s.size ≤ 1048576) (hg : goodB (E : Int) (G : Int) = true) (hsz0 : s.size = 3 + E + G) (h1 : s.data.toList[1]? = some 46) (h2 : ¬ s.data.toList[2 + E]? = some 46) (w : World) : Calls Try.prog 6 #[fmt (E : Int) (G : Int), .string s] w fun rv w' => rv = .returned (.tuple #[.int .i64 0, .bool false]) ∧ Ext w w' := by
  obtain ⟨b1, b2, b3, b4⟩ := good_iff.1 hg
  have WO := Lib.hid (fun w => iWidthOf_yes (E : Int) (G : Int) hg w)
  have kW : IntKind.i64.wrap (1 + (E : Int) + G + 2) = 1 + (E : Int) + G + 2 := IntWalk.i64_in _ (by omega)
  have k2 : IntKind.i64.wrap (2 + (E : Int)) = 2 + (E : Int) := IntWalk.i64_in _ (by omega)
  have hneq : ((s.size : Int) != 1 + (E : Int) + G + 2) = false := by simp; omega
  have q1 : 1 < s.size := by omega
  have q2 : 2 + E < s.size := by omega
  have d1 : (((s[1]'q1).toNat : Int) != 46) = false := by rw [get_opt s _ q1] at h1; rw [Option.some.inj h1]; rfl
  have d2 : (((s[2 + E]'q2).toNat : Int) != 46) = true := by rw [get_opt s _ q2] at h2; rw [bne_iff_ne]; intro e; exact h2 (congrArg some (UInt8.toNat_inj.1 (by rw [show (46 : UInt8).toNat = 46 from rfl]; omega)))
  clear hg
  go_enter Try.func6, Try.ntmps6
  go_wp2_with (go_at_call 9; refine (WO.out _).mono ?_; rintro rv w1 ⟨rfl, hb⟩; have ns : w.heap.size < w1.heap.size := hb.lt (by first | with_reducible assumption | omega | (simp; done) | (simp; omega)); have n0 : w1.cell? ⟨w.heap.size, 0, none⟩ = some (.int .i64 (E : Int)) := (hb.cells _ _ (by first | with_reducible assumption | omega | (simp; done) | (simp; omega))).trans (by first | with_reducible assumption | (simp; done) | (simp; with_reducible assumption) | (rw [cell_alloc_before _ _ _ _ (by omega)]; with_reducible assumption) | (simp [go_sem, *]; done)); have n1 : w1.cell? ⟨w.heap.size, 1, none⟩ = some (.int .i64 (G : Int)) := (hb.cells _ _ (by first | with_reducible assumption | omega | (simp; done) | (simp; omega))).trans (by first | with_reducible assumption | (simp; done) | (simp; with_reducible assumption) | (rw [cell_alloc_before _ _ _ _ (by omega)]; with_reducible assumption) | (simp [go_sem, *]; done)); (first | (have nx := Ext.trans hx hb; clear hx) | (have nx := Ext.trans (hx.alloc _) hb; clear hx) | (have nx := Ext.trans hx.drew hb; clear hx) | have nx := hb); clear hb; try clear hs; try clear g0; try clear g1; have hx := nx; clear nx; have hs := ns; clear ns; have g0 := n0; clear n0; have g1 := n1; clear n1)
  try (go_region)
  all_goals (try go_wp2_with fail)
  all_goals go_ret2
  all_goals exact ⟨rfl, (by repeat (first | exact Ext.refl _ | with_reducible assumption | apply Ext.alloc | apply Ext.drew | apply Ext.drewN | (refine Ext.setRow ?_ (by first | (simp; done) | (simp; omega) | omega) _) | (refine Ext.setCell ?_ (by first | (simp; done) | (simp; omega) | omega) _) | (refine Ext.trans ?_ (by with_reducible assumption))))⟩

theorem iParsePattern_yes (E G : Nat) (s : ByteArray) (p : Int) (hg : goodB (E : Int) (G : Int) = true) (hy : PtTx (E : Int) (G : Int) s.data.toList p) (w : World) : Calls Try.prog 6 #[fmt (E : Int) (G : Int), .string s] w fun rv w' => rv = .returned (.tuple #[.int .i64 p, .bool true]) ∧ Ext w w' := by
  obtain ⟨p0, p1, hp⟩ := hy
  obtain ⟨b1, b2, b3, b4⟩ := good_iff.1 hg
  have hl : s.data.toList.length = 3 + E + G := by rw [← hp]; exact fmTx_length E G p
  have hs0 : s.size = 3 + E + G := by simpa using hl
  have hx : btT (p / pw ((E : Int) + G)) 1 = [UInt8.ofNat (48 + (p / pw ((E : Int) + G) / pw (0 : Nat) % 2).toNat)] := rfl
  obtain ⟨f1, f2, f3, f4, f5⟩ := pt_form (UInt8.ofNat (48 + (p / pw ((E : Int) + G) / pw (0 : Nat) % 2).toNat)) (btT (p % pw ((E : Int) + G) / pw (G : Int)) E) (btT (p % pw (G : Int)) G) E (btT_length _ _)
  have e : s.data.toList = [UInt8.ofNat (48 + (p / pw ((E : Int) + G) / pw (0 : Nat) % 2).toNat)] ++ [46] ++ btT (p % pw ((E : Int) + G) / pw (G : Int)) E ++ [46] ++ btT (p % pw (G : Int)) G := by
    rw [← hp]; unfold fmTx; rw [Int.toNat_natCast, Int.toNat_natCast, hx]
  rw [← e] at f1 f2 f3 f4 f5
  have hb := ptB_list s E G hs0
  rw [f3, f4, f5, ← hx] at hb
  have hbit : ∀ c ∈ (ptB s E).data.toList, isB c := by
    rw [hb]
    intro c hc
    simp only [List.mem_append] at hc
    rcases hc with (hc | hc) | hc
    · exact btT_bits _ _ c hc
    · exact btT_bits _ _ c hc
    · exact btT_bits _ _ c hc
  have hsz : (ptB s E).size ≤ 40 := by
    have : (ptB s E).data.toList.length = 1 + E + G := by rw [hb]; simp only [List.length_append, btT_length]
    have h2 : (ptB s E).size = (ptB s E).data.toList.length := by simp
    omega
  have PB := fun w => parseBits_yes (ptB s E) hsz hbit w
  rw [hb, pt_bits E G p p0 p1] at PB
  exact iParsePattern_dot E G s p true hg hs0 f1 f2 PB w

theorem iParsePattern_no (E G : Nat) (s : ByteArray) (hs9 : s.size ≤ 1048576) (hg : goodB (E : Int) (G : Int) = true) (hno : ∀ p, ¬ PtTx (E : Int) (G : Int) s.data.toList p) (w : World) : Calls Try.prog 6 #[fmt (E : Int) (G : Int), .string s] w fun rv w' => rv = .returned (.tuple #[.int .i64 0, .bool false]) ∧ Ext w w' := by
  obtain ⟨b1, b2, b3, b4⟩ := good_iff.1 hg
  by_cases hz : s.size = 3 + E + G
  · by_cases h1 : s.data.toList[1]? = some 46
    · by_cases h2 : s.data.toList[2 + E]? = some 46
      · have hl : s.data.toList.length = 3 + E + G := by simpa using hz
        have hb := ptB_list s E G hz
        have hsz : (ptB s E).size ≤ 40 := by
          have h3 : (ptB s E).data.toList.length ≤ 1 + E + (3 + E + G) := by
            rw [hb]; simp only [List.length_append, List.length_take, List.length_drop]; omega
          have h2 : (ptB s E).size = (ptB s E).data.toList.length := by simp
          omega
        have hnb : ¬ ∀ c ∈ (ptB s E).data.toList, isB c := by
          intro hall
          obtain ⟨c, hc⟩ := pt_one s.data.toList (by omega)
          have hsp := pt_split s.data.toList E G hl h1 h2
          rw [hc] at hb hsp
          rw [hb] at hall
          have q := pt_of E G c ((s.data.toList.drop 2).take E) (s.data.toList.drop (3 + E)) (by rw [List.length_take, List.length_drop]; omega) (by rw [List.length_drop]; omega) (hall c (by simp)) (fun x hx => hall x (by simp only [List.mem_append]; exact .inl (.inr hx))) (fun x hx => hall x (by simp only [List.mem_append]; exact .inr hx))
          rw [← hsp] at q
          exact hno _ q
        exact iParsePattern_dot E G s 0 false hg hz h1 h2 (fun w => parseBits_no (ptB s E) hsz hnb w) w
      · exact iParsePattern_two E G s hs9 hg hz h1 h2 w
    · exact iParsePattern_one E G s hs9 hg hz h1 w
  · exact iParsePattern_size E G s hs9 hg hz w

end Go.Proofs.Ytfgbndjhaiigbab
