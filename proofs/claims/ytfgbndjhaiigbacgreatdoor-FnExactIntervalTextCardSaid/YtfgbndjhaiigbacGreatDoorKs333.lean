/-
  Contracts of the functions that the laws reach, and the plain facts that they rest on, each under the conditions that its line names; part 33.
-/
import Derived.Test.YtfgbndjhaiigbacGreatDoorKs31
import Derived.Test.YtfgbndjhaiigbacGreatDoorKs32
import Derived.Test.YtfgbndjhaiigbacGreatDoorKs33
import Derived.Test.YtfgbndjhaiigbacGreatDoorKs34
import Derived.Test.YtfgbndjhaiigbacGreatDoorKs35
import Derived.Test.YtfgbndjhaiigbacGreatDoorKs36
import Derived.Test.YtfgbndjhaiigbacGreatDoorKs37
import Derived.Test.YtfgbndjhaiigbacGreatDoorKs38
import Derived.Test.YtfgbndjhaiigbacGreatDoorKs39
import Derived.Test.YtfgbndjhaiigbacGreatDoorKs310
import Derived.Test.YtfgbndjhaiigbacGreatDoorKs311
import Derived.Test.YtfgbndjhaiigbacGreatDoorKs312
import Derived.Test.YtfgbndjhaiigbacGreatDoorKs313
import Derived.Test.YtfgbndjhaiigbacGreatDoorKs314
import Derived.Test.YtfgbndjhaiigbacGreatDoorKs315
import Derived.Test.YtfgbndjhaiigbacGreatDoorKs316
import Derived.Test.YtfgbndjhaiigbacGreatDoorKs317
import Derived.Test.YtfgbndjhaiigbacGreatDoorKs318
import Derived.Test.YtfgbndjhaiigbacGreatDoorKs319
import Derived.Test.YtfgbndjhaiigbacGreatDoorKs320
import Derived.Test.YtfgbndjhaiigbacGreatDoorKs321
import Derived.Test.YtfgbndjhaiigbacGreatDoorKs322
import Derived.Test.YtfgbndjhaiigbacGreatDoorKs323
import Derived.Test.YtfgbndjhaiigbacGreatDoorKs324
import Derived.Test.YtfgbndjhaiigbacGreatDoorKs325
import Derived.Test.YtfgbndjhaiigbacGreatDoorKs326
import Derived.Test.YtfgbndjhaiigbacGreatDoorKs327
import Derived.Test.YtfgbndjhaiigbacGreatDoorKs328
import Derived.Test.YtfgbndjhaiigbacGreatDoorKs329
import Derived.Test.YtfgbndjhaiigbacGreatDoorKs330
import Derived.Test.YtfgbndjhaiigbacGreatDoorKs331
import Derived.Test.YtfgbndjhaiigbacGreatDoorKs332
import Derived.Test.YtfgbndjhaiigbacGreatDoorRows
import Derived.WalkKit
import Derived.Handy
import Derived.LoopTactic
import Derived.LoopN
import Derived.Laws.OwnMore
import Derived.OwnWalk
import Derived.Deep.AppendLies
import Derived.Laws.Bits64b
import Derived.WalkSpells
import Derived.WalkLawsBesides
import Derived.StillTactics
import Derived.Laws.Pointers
import Derived.Deep.RegionHeld3
import Derived.Deep.QuietTactic
import Derived.BigQuiet
import Derived.Outline
import Derived.Lib.Hide
import Derived.RowKit3
import Derived.Carry
import Derived.IntWalk
import Derived.Laws.EntriesVeiled
namespace Go.Proofs.YtfgbndjhaiigbacGreatDoor
open Go Go.RowKit
set_option linter.unusedSimpArgs false
set_option linter.unusedVariables false
set_option maxRecDepth 100000

attribute [local go_sem] ta_finite_finite ta_finite_infinite ta_finite_noNumber ta_infinite_finite ta_infinite_infinite ta_infinite_noNumber ta_noNumber_finite ta_noNumber_infinite ta_noNumber_noNumber

theorem sh_take {e f v p L low t : Int} (hL : 0 < L) (hb : BlC e f v L low t) :
    (rcV e f low t 0 ≠ p → rcV e f (low + 1) t 0 ≠ p → shOk e f v p L = false) ∧
    (rcV e f low t 0 ≠ p → rcV e f (low + 1) t 0 = p → shD e f v p L = low + 1 ∧ shOk e f v p L = true) ∧
    (rcV e f low t 0 = p → rcV e f (low + 1) t 0 ≠ p → shD e f v p L = low ∧ shOk e f v p L = true) ∧
    (rcV e f low t 0 = p → rcV e f (low + 1) t 0 = p → 0 < tcV e f v (10 * low + 5) (t - 1) → shD e f v p L = low + 1 ∧ shOk e f v p L = true) ∧
    (rcV e f low t 0 = p → rcV e f (low + 1) t 0 = p → ¬ 0 < tcV e f v (10 * low + 5) (t - 1) → shD e f v p L = low ∧ shOk e f v p L = true) := by
  have e1 := bl_is hL hb
  have eA : shA e f v p L = decide (rcV e f low t 0 = p) := by unfold shA; rw [e1]
  have eB : shB e f v p L = decide (rcV e f (low + 1) t 0 = p) := by unfold shB; rw [e1]
  have eN : shN e f v L = tcV e f v (10 * low + 5) (t - 1) := by unfold shN; rw [e1]
  refine ⟨fun a b => ?_, fun a b => ?_, fun a b => ?_, fun a b c => ?_, fun a b c => ?_⟩
  · unfold shOk; rw [eA, eB, decide_eq_false a, decide_eq_false b]; rfl
  · rw [decide_eq_false a] at eA; rw [decide_eq_true b] at eB
    refine ⟨?_, by unfold shOk; rw [eA, eB]; rfl⟩
    have hU : shU e f v p L = true := by unfold shU; rw [eA, eB]; split <;> rfl
    unfold shD; rw [hU, e1]; rfl
  · rw [decide_eq_true a] at eA; rw [decide_eq_false b] at eB
    refine ⟨?_, by unfold shOk; rw [eA, eB]; rfl⟩
    have hU : shU e f v p L = false := by unfold shU; rw [eA, eB]; split <;> rfl
    unfold shD; rw [hU, e1]; rfl
  · rw [decide_eq_true a] at eA; rw [decide_eq_true b] at eB
    refine ⟨?_, by unfold shOk; rw [eA, eB]; rfl⟩
    have hU : shU e f v p L = true := by unfold shU; rw [if_pos (by rw [eN]; exact c), eB]
    unfold shD; rw [hU, e1]; rfl
  · rw [decide_eq_true a] at eA; rw [decide_eq_true b] at eB
    refine ⟨?_, by unfold shOk; rw [eA, eB]; rfl⟩
    have hU : shU e f v p L = false := by unfold shU; rw [if_neg (by rw [eN]; exact c), eA]; rfl
    unfold shD; rw [hU, e1]; rfl

theorem txBelow_k {e f a : Int} (hf : finB e f a = true) (hz : unitsV e f a ≠ 0) (k : Nat) (hk : k < 6) (w : World) :
    Calls Tryz.prog 111 #[fmt e f, .int .i64 (a % pw (e + f)), .int .i64 ((k : Int) + 1)] w fun rv w' => ∃ low t : Int, rv = .returned (.tuple #[.int .i64 low, .int .i64 t]) ∧ (BlC e f ((unitsV e f a).natAbs : Int) (tenN k) low t ∧ -14 ≤ t ∧ t ≤ 13) ∧ Ext w w' := by
  obtain ⟨sf, su⟩ := size_fin hf
  have := txBelow_any e f (a % pw (e + f)) ((k : Int) + 1) sf (by rw [su]; omega) (by omega) (by omega) w
  rw [su, show (((((unitsV e f a).natAbs : Int) : Int).natAbs : Nat) : Int) = ((unitsV e f a).natAbs : Int) by omega, show ((k : Int) + 1).toNat = k + 1 by omega] at this
  exact this.mono fun _ _ ⟨low, t, he, ⟨b1, b2, b3, b4, b5, b6⟩, hx⟩ => ⟨low, t, he, ⟨⟨b1, b2, b3, b4⟩, b5, b6⟩, hx⟩

theorem txNear_k {e f a : Int} (hf : finB e f a = true) (d t : Int) (d0 : 0 ≤ d) (d1 : d ≤ 999999) (t0 : -14 ≤ t) (t1 : t ≤ 14) (w : World) : Calls Tryz.prog 112 #[fmt e f, .int .i64 (a % pw (e + f)), .int .i64 d, .int .i64 t] w fun rv w' => rv = .returned (.int .i64 (tcV e f ((unitsV e f a).natAbs : Int) (10 * d + 5) (t - 1))) ∧ Ext w w' := by
  obtain ⟨sf, su⟩ := size_fin hf
  have := txNear_any e f (a % pw (e + f)) d t sf d0 d1 t0 t1 w
  rwa [su, show (((((unitsV e f a).natAbs : Int) : Int).natAbs : Nat) : Int) = ((unitsV e f a).natAbs : Int) by omega] at this

set_option maxHeartbeats 6400000 in
theorem txShort_any (e f a : Int) (hf : finB e f a = true) (hz : unitsV e f a ≠ 0) (w : World) : Calls Tryz.prog 65 #[fmt e f, .int .i64 a] w fun rv w' => rv = .returned (.tuple #[.int .i64 (shF e f ((unitsV e f a).natAbs : Int) (a % pw (e + f))).1, .int .i64 (shF e f ((unitsV e f a).natAbs : Int) (a % pw (e + f))).2]) ∧ Ext w w' := by
  obtain ⟨hg, s0, s1, hu⟩ := fin_size hf
  have hap := (fin_pat hf).1
  have hp0 : 0 < a % pw (e + f) := by
    rcases Int.lt_or_eq_of_le s0 with h | h
    · exact h
    · exfalso
      have : mgV f (a % pw (e + f)) = 0 := by rw [← h]; unfold mgV; simp
      omega
  have FS := Lib.hid (fun w => fmSize_any e f a hg (pat_iff.1 hap).2.1 w)
  have TB := Lib.hid (fun k hk w => txBelow_k hf hz k hk w)
  have TNC := Lib.hid (fun d t d0 d1 t0 t1 w => txNear_k hf d t d0 d1 t0 t1 w)
  have TRC := Lib.hid (fun d t hd w => txRead_v e f d t 0 hg hd (by decide) (by decide) w)
  have BX := Lib.hid (fun P hP => bl_ex hf hz w P hP)
  have S5 := Lib.hid (fun low t h t0 t1 => sh_five (e := e) (f := f) (p := a % pw (e + f)) (low := low) (t := t) hg hp0 s1 h t0 t1)
  rw [← hu] at S5
  have IS := Lib.hid (fun x h => sh_is (e := e) (f := f) (v := ((unitsV e f a).natAbs : Int)) (p := a % pw (e + f)) (x := x) h)
  clear hu hp0 s0 s1 hf hz hg hap
  generalize ((unitsV e f a).natAbs : Int) = v at *
  generalize a % pw (e + f) = p at *
  go_enter Tryz.func65, Tryz.ntmps65
  go_wp2_with (go_at_call 110; refine (FS.out _).mono ?_; rintro rv w1 ⟨rfl, hb⟩; have ns : w.heap.size < w1.heap.size := hb.ltK; have n0 : w1.cell? ⟨w.heap.size, 0, none⟩ = some (.int .i64 e) := hb.cellK; have n1 : w1.cell? ⟨w.heap.size, 1, none⟩ = some (.int .i64 f) := hb.cellK; (first | (have nx := hx.trK hb; clear hx) | have nx := hb); clear hb; try clear hs; try clear g0; try clear g1; have hx := nx; clear nx; have hs := ns; clear ns; have g0 := n0; clear n0; have g1 := n1; clear n1)
  go_loopw [7] (fun s7 wr => ∃ k : Nat, s7 = .int .i64 ((k : Int) + 1) ∧ k < 5 ∧ RowKit.Hid (∀ Q, Q < k → shOk e f v p (tenN Q) = false) ∧ wr.cell? ⟨w.heap.size, 0, none⟩ = some (.int .i64 e) ∧ wr.cell? ⟨w.heap.size, 1, none⟩ = some (.int .i64 f) ∧ w.heap.size < wr.heap.size ∧ Ext w wr) (fun x _ => 7 - (intOf x).toNat)
  case atStart => exact ⟨0, rfl, by decide, Lib.hid (fun Q h => absurd h (by omega)), (by first | with_reducible assumption | (simp [go_sem]; done) | (simp [go_sem, *]; done)), (by first | with_reducible assumption | (simp [go_sem]; done) | (simp [go_sem, *]; done)), (by first | omega | (simp; done) | (simp; omega)), Ext.auK⟩
  case round =>
    obtain ⟨k, rfl, k5, HNO, g0, g1, hs, hx⟩ := hrel
    have q6 : (k : Int) + 1 < 6 := by omega
    have kw : IntKind.i64.wrap ((k : Int) + 1 + 1) = (k : Int) + 1 + 1 := IntWalk.i64_in _ (by omega)
    go_wp2_with (first | (go_at_call 111; refine (TB.out k (by omega) _).mono ?_; rintro rv w1 ⟨low, t, rfl, hbl, hb⟩; have HBL := Lib.hid hbl; clear hbl; have ns : w.heap.size < w1.heap.size := hb.ltK; have n0 : w1.cell? ⟨w.heap.size, 0, none⟩ = some (.int .i64 e) := hb.cellK; have n1 : w1.cell? ⟨w.heap.size, 1, none⟩ = some (.int .i64 f) := hb.cellK; (first | (have nx := hx.trK hb; clear hx) | have nx := hb); clear hb; try clear hs; try clear g0; try clear g1; have hx := nx; clear nx; have hs := ns; clear ns; have g0 := n0; clear n0; have g1 := n1; clear n1))
    obtain ⟨rb, t0, t1⟩ := id HBL.out
    have hL := tenN_pos k
    have hL1 := tenN_le (k := k) 4 10000 rfl (by omega)
    obtain ⟨_, _, b3, b4⟩ := id rb
    have K4 : shOk e f v p (tenN k) = false → k + 1 < 5 ∧ ∀ Q, Q < k + 1 → shOk e f v p (tenN Q) = false := by
      intro h
      constructor
      · rcases Nat.lt_or_eq_of_le (show k ≤ 4 by omega) with g | g
        · omega
        · subst g
          have := S5.out _ _ rb t0 (by omega)
          rw [h] at this; cases this
      · intro Q hQ
        rcases Nat.lt_or_eq_of_le (show Q ≤ k by omega) with g | g
        · exact HNO.out Q g
        · rw [g]; exact h
    have KS := fun h => sh_strip (e := e) (f := f) (v := v) (p := p) k k5 (fun Q hQ => by obtain ⟨l2, t2, c1, c2, c3, c4, _, _⟩ := BX.out Q (by omega); exact ⟨l2, t2, c1, c2, c3, c4⟩) HNO.out h
    rw [bl_is (by omega) rb] at KS
    have KK : ∀ D, shD e f v p (tenN k) = D ∧ shOk e f v p (tenN k) = true → (D % 10 ≠ 0 ∧ shF e f v p = (D, t)) ∨ (D = 10 ∧ shF e f v p = (1, t + 1)) := fun D ⟨h1, h2⟩ => by
      have h3 := IS.out (shX e f v p (tenN k)) ⟨k, k5, h2, HNO.out, rfl⟩
      rcases KS h2 with ⟨q1, q2⟩ | ⟨q1, q2⟩
      · left; rw [← h1]; exact ⟨q1, h3.trans q2⟩
      · right; rw [← h1]; exact ⟨q1, h3.trans q2⟩
    obtain ⟨u1, u2, u3, u4, u5⟩ := sh_take (p := p) (by omega) rb
    have TA := Lib.hid (fun w => TRC.out low t (dc_iff.2 ⟨⟨by omega, by omega⟩, t0, by omega⟩) w)
    have TB2 := Lib.hid (fun w => TRC.out (low + 1) t (dc_iff.2 ⟨⟨by omega, by omega⟩, t0, by omega⟩) w)
    have TN := Lib.hid (fun w => TNC.out low t (by omega) (by omega) t0 (by omega) w)
    have klow : IntKind.i64.wrap (low + 1) = low + 1 := IntWalk.i64_in _ (by omega)
    have l0 : 0 ≤ low := by omega
    have l9 : low ≤ 999999 := by omega
    clear KS rb b3 b4 hL hL1 HBL HNO
    generalize tcV e f v (10 * low + 5) (t - 1) = c at *
    generalize rcV e f low t 0 = ra at *
    generalize rcV e f (low + 1) t 0 = rb at *
    by_cases hA : ra = p
    · have cA : (ra == p) = true := by simpa using hA
      by_cases hB : rb = p
      · have cB : (rb == p) = true := by simpa using hB
        by_cases hc : 0 < c
        · have hq := u4 hA hB hc
          clear u1 u2 u3 u4 u5 hA hB K4
          rcases KK (low + 1) hq with ⟨hd, hR⟩ | ⟨hd, hR⟩
          · have R := Lib.hid hR
            have tm : (low + 1).tmod 10 = (low + 1) % 10 := Int.tmod_eq_emod_of_nonneg (by omega)
            have tz : ((low + 1).tmod 10 == 0) = false := by rw [tm]; simpa using hd
            have kwt : IntKind.i64.wrap ((low + 1).tmod 10) = (low + 1).tmod 10 := IntWalk.i64_in _ (by rw [tm]; omega)
            clear hq hR hd KK
            go_wp2_with (first | (go_at_call 94; (with_reducible refine (TA.out _).mono ?_); rintro rv w1 ⟨rfl, hb⟩; have ns : w.heap.size < w1.heap.size := hb.ltK; have n0 : w1.cell? ⟨w.heap.size, 0, none⟩ = some (.int .i64 e) := hb.cellK; have n1 : w1.cell? ⟨w.heap.size, 1, none⟩ = some (.int .i64 f) := hb.cellK; (first | (have nx := hx.trK hb; clear hx) | have nx := hb); clear hb; try clear hs; try clear g0; try clear g1; have hx := nx; clear nx; have hs := ns; clear ns; have g0 := n0; clear n0; have g1 := n1; clear n1) | (go_at_call 94; (with_reducible refine (TB2.out _).mono ?_); rintro rv w1 ⟨rfl, hb⟩; have ns : w.heap.size < w1.heap.size := hb.ltK; have n0 : w1.cell? ⟨w.heap.size, 0, none⟩ = some (.int .i64 e) := hb.cellK; have n1 : w1.cell? ⟨w.heap.size, 1, none⟩ = some (.int .i64 f) := hb.cellK; (first | (have nx := hx.trK hb; clear hx) | have nx := hb); clear hb; try clear hs; try clear g0; try clear g1; have hx := nx; clear nx; have hs := ns; clear ns; have g0 := n0; clear n0; have g1 := n1; clear n1) | (go_at_call 112; refine (TN.out _).mono ?_; rintro rv w1 ⟨rfl, hb⟩; have ns : w.heap.size < w1.heap.size := hb.ltK; have n0 : w1.cell? ⟨w.heap.size, 0, none⟩ = some (.int .i64 e) := hb.cellK; have n1 : w1.cell? ⟨w.heap.size, 1, none⟩ = some (.int .i64 f) := hb.cellK; (first | (have nx := hx.trK hb; clear hx) | have nx := hb); clear hb; try clear hs; try clear g0; try clear g1; have hx := nx; clear nx; have hs := ns; clear ns; have g0 := n0; clear n0; have g1 := n1; clear n1))
            go_loopw [12, 9] (fun s12 s9 wr => s12 = .int .i64 (low + 1) ∧ s9 = .int .i64 t ∧ wr.cell? ⟨w.heap.size, 0, none⟩ = some (.int .i64 e) ∧ wr.cell? ⟨w.heap.size, 1, none⟩ = some (.int .i64 f) ∧ w.heap.size < wr.heap.size ∧ Ext w wr) (fun _ _ _ => 1)
            case atStart => exact ⟨rfl, rfl, (by first | with_reducible assumption | (simp [go_sem]; done) | (simp [go_sem, *]; done)), (by first | with_reducible assumption | (simp [go_sem]; done) | (simp [go_sem, *]; done)), (by first | omega | (simp; done) | (simp; omega)), Ext.auK⟩
            case round =>
              obtain ⟨rfl, rfl, g0, g1, hs, hx⟩ := hrel
              go_wp2
              go_ret2
              exact ⟨by rw [R.out]; rfl, Ext.auK⟩
          · have R := Lib.hid hR
            have kt1 : IntKind.i64.wrap (t + 1) = t + 1 := IntWalk.i64_in _ (by omega)
            have HD := Lib.hid hd
            clear hq hR KK hd
            go_wp2_with (first | (go_at_call 94; (with_reducible refine (TA.out _).mono ?_); rintro rv w1 ⟨rfl, hb⟩; have ns : w.heap.size < w1.heap.size := hb.ltK; have n0 : w1.cell? ⟨w.heap.size, 0, none⟩ = some (.int .i64 e) := hb.cellK; have n1 : w1.cell? ⟨w.heap.size, 1, none⟩ = some (.int .i64 f) := hb.cellK; (first | (have nx := hx.trK hb; clear hx) | have nx := hb); clear hb; try clear hs; try clear g0; try clear g1; have hx := nx; clear nx; have hs := ns; clear ns; have g0 := n0; clear n0; have g1 := n1; clear n1) | (go_at_call 94; (with_reducible refine (TB2.out _).mono ?_); rintro rv w1 ⟨rfl, hb⟩; have ns : w.heap.size < w1.heap.size := hb.ltK; have n0 : w1.cell? ⟨w.heap.size, 0, none⟩ = some (.int .i64 e) := hb.cellK; have n1 : w1.cell? ⟨w.heap.size, 1, none⟩ = some (.int .i64 f) := hb.cellK; (first | (have nx := hx.trK hb; clear hx) | have nx := hb); clear hb; try clear hs; try clear g0; try clear g1; have hx := nx; clear nx; have hs := ns; clear ns; have g0 := n0; clear n0; have g1 := n1; clear n1) | (go_at_call 112; refine (TN.out _).mono ?_; rintro rv w1 ⟨rfl, hb⟩; have ns : w.heap.size < w1.heap.size := hb.ltK; have n0 : w1.cell? ⟨w.heap.size, 0, none⟩ = some (.int .i64 e) := hb.cellK; have n1 : w1.cell? ⟨w.heap.size, 1, none⟩ = some (.int .i64 f) := hb.cellK; (first | (have nx := hx.trK hb; clear hx) | have nx := hb); clear hb; try clear hs; try clear g0; try clear g1; have hx := nx; clear nx; have hs := ns; clear ns; have g0 := n0; clear n0; have g1 := n1; clear n1))
            go_loopw [12, 9] (fun s12 s9 wr => ∃ b : Bool, s12 = .int .i64 (if b then 10 else 1) ∧ s9 = .int .i64 (if b then t else t + 1) ∧ wr.cell? ⟨w.heap.size, 0, none⟩ = some (.int .i64 e) ∧ wr.cell? ⟨w.heap.size, 1, none⟩ = some (.int .i64 f) ∧ w.heap.size < wr.heap.size ∧ Ext w wr) (fun x _ _ => (intOf x).toNat)
            case atStart => exact ⟨true, by rw [HD.out]; rfl, rfl, (by first | with_reducible assumption | (simp [go_sem]; done) | (simp [go_sem, *]; done)), (by first | with_reducible assumption | (simp [go_sem]; done) | (simp [go_sem, *]; done)), (by first | omega | (simp; done) | (simp; omega)), Ext.auK⟩
            case round =>
              obtain ⟨b, rfl, rfl, g0, g1, hs, hx⟩ := hrel
              clear HD
              cases b
              · go_wp2
                go_ret2
                exact ⟨by rw [R.out]; rfl, Ext.auK⟩
              · go_wp2
                go_roundw
                all_goals first | (simp [intOf]; done) | (simp [intOf]; omega) | exact ⟨false, rfl, rfl, (by first | with_reducible assumption | (simp [go_sem]; done) | (simp [go_sem, *]; done)), (by first | with_reducible assumption | (simp [go_sem]; done) | (simp [go_sem, *]; done)), (by first | omega | (simp; done) | (simp; omega)), Ext.auK⟩
        · have hq := u5 hA hB hc
          clear u1 u2 u3 u4 u5 hA hB K4
          rcases KK (low) hq with ⟨hd, hR⟩ | ⟨hd, hR⟩
          · have R := Lib.hid hR
            have tm : (low).tmod 10 = (low) % 10 := Int.tmod_eq_emod_of_nonneg (by omega)
            have tz : ((low).tmod 10 == 0) = false := by rw [tm]; simpa using hd
            have kwt : IntKind.i64.wrap ((low).tmod 10) = (low).tmod 10 := IntWalk.i64_in _ (by rw [tm]; omega)
            clear hq hR hd KK
            go_wp2_with (first | (go_at_call 94; (with_reducible refine (TA.out _).mono ?_); rintro rv w1 ⟨rfl, hb⟩; have ns : w.heap.size < w1.heap.size := hb.ltK; have n0 : w1.cell? ⟨w.heap.size, 0, none⟩ = some (.int .i64 e) := hb.cellK; have n1 : w1.cell? ⟨w.heap.size, 1, none⟩ = some (.int .i64 f) := hb.cellK; (first | (have nx := hx.trK hb; clear hx) | have nx := hb); clear hb; try clear hs; try clear g0; try clear g1; have hx := nx; clear nx; have hs := ns; clear ns; have g0 := n0; clear n0; have g1 := n1; clear n1) | (go_at_call 94; (with_reducible refine (TB2.out _).mono ?_); rintro rv w1 ⟨rfl, hb⟩; have ns : w.heap.size < w1.heap.size := hb.ltK; have n0 : w1.cell? ⟨w.heap.size, 0, none⟩ = some (.int .i64 e) := hb.cellK; have n1 : w1.cell? ⟨w.heap.size, 1, none⟩ = some (.int .i64 f) := hb.cellK; (first | (have nx := hx.trK hb; clear hx) | have nx := hb); clear hb; try clear hs; try clear g0; try clear g1; have hx := nx; clear nx; have hs := ns; clear ns; have g0 := n0; clear n0; have g1 := n1; clear n1) | (go_at_call 112; refine (TN.out _).mono ?_; rintro rv w1 ⟨rfl, hb⟩; have ns : w.heap.size < w1.heap.size := hb.ltK; have n0 : w1.cell? ⟨w.heap.size, 0, none⟩ = some (.int .i64 e) := hb.cellK; have n1 : w1.cell? ⟨w.heap.size, 1, none⟩ = some (.int .i64 f) := hb.cellK; (first | (have nx := hx.trK hb; clear hx) | have nx := hb); clear hb; try clear hs; try clear g0; try clear g1; have hx := nx; clear nx; have hs := ns; clear ns; have g0 := n0; clear n0; have g1 := n1; clear n1))
            go_loopw [12, 9] (fun s12 s9 wr => s12 = .int .i64 (low) ∧ s9 = .int .i64 t ∧ wr.cell? ⟨w.heap.size, 0, none⟩ = some (.int .i64 e) ∧ wr.cell? ⟨w.heap.size, 1, none⟩ = some (.int .i64 f) ∧ w.heap.size < wr.heap.size ∧ Ext w wr) (fun _ _ _ => 1)
            case atStart => exact ⟨rfl, rfl, (by first | with_reducible assumption | (simp [go_sem]; done) | (simp [go_sem, *]; done)), (by first | with_reducible assumption | (simp [go_sem]; done) | (simp [go_sem, *]; done)), (by first | omega | (simp; done) | (simp; omega)), Ext.auK⟩
            case round =>
              obtain ⟨rfl, rfl, g0, g1, hs, hx⟩ := hrel
              go_wp2
              go_ret2
              exact ⟨by rw [R.out]; rfl, Ext.auK⟩
          · have R := Lib.hid hR
            have kt1 : IntKind.i64.wrap (t + 1) = t + 1 := IntWalk.i64_in _ (by omega)
            have HD := Lib.hid hd
            clear hq hR KK hd
            go_wp2_with (first | (go_at_call 94; (with_reducible refine (TA.out _).mono ?_); rintro rv w1 ⟨rfl, hb⟩; have ns : w.heap.size < w1.heap.size := hb.ltK; have n0 : w1.cell? ⟨w.heap.size, 0, none⟩ = some (.int .i64 e) := hb.cellK; have n1 : w1.cell? ⟨w.heap.size, 1, none⟩ = some (.int .i64 f) := hb.cellK; (first | (have nx := hx.trK hb; clear hx) | have nx := hb); clear hb; try clear hs; try clear g0; try clear g1; have hx := nx; clear nx; have hs := ns; clear ns; have g0 := n0; clear n0; have g1 := n1; clear n1) | (go_at_call 94; (with_reducible refine (TB2.out _).mono ?_); rintro rv w1 ⟨rfl, hb⟩; have ns : w.heap.size < w1.heap.size := hb.ltK; have n0 : w1.cell? ⟨w.heap.size, 0, none⟩ = some (.int .i64 e) := hb.cellK; have n1 : w1.cell? ⟨w.heap.size, 1, none⟩ = some (.int .i64 f) := hb.cellK; (first | (have nx := hx.trK hb; clear hx) | have nx := hb); clear hb; try clear hs; try clear g0; try clear g1; have hx := nx; clear nx; have hs := ns; clear ns; have g0 := n0; clear n0; have g1 := n1; clear n1) | (go_at_call 112; refine (TN.out _).mono ?_; rintro rv w1 ⟨rfl, hb⟩; have ns : w.heap.size < w1.heap.size := hb.ltK; have n0 : w1.cell? ⟨w.heap.size, 0, none⟩ = some (.int .i64 e) := hb.cellK; have n1 : w1.cell? ⟨w.heap.size, 1, none⟩ = some (.int .i64 f) := hb.cellK; (first | (have nx := hx.trK hb; clear hx) | have nx := hb); clear hb; try clear hs; try clear g0; try clear g1; have hx := nx; clear nx; have hs := ns; clear ns; have g0 := n0; clear n0; have g1 := n1; clear n1))
            go_loopw [12, 9] (fun s12 s9 wr => ∃ b : Bool, s12 = .int .i64 (if b then 10 else 1) ∧ s9 = .int .i64 (if b then t else t + 1) ∧ wr.cell? ⟨w.heap.size, 0, none⟩ = some (.int .i64 e) ∧ wr.cell? ⟨w.heap.size, 1, none⟩ = some (.int .i64 f) ∧ w.heap.size < wr.heap.size ∧ Ext w wr) (fun x _ _ => (intOf x).toNat)
            case atStart => exact ⟨true, by rw [HD.out]; rfl, rfl, (by first | with_reducible assumption | (simp [go_sem]; done) | (simp [go_sem, *]; done)), (by first | with_reducible assumption | (simp [go_sem]; done) | (simp [go_sem, *]; done)), (by first | omega | (simp; done) | (simp; omega)), Ext.auK⟩
            case round =>
              obtain ⟨b, rfl, rfl, g0, g1, hs, hx⟩ := hrel
              clear HD
              cases b
              · go_wp2
                go_ret2
                exact ⟨by rw [R.out]; rfl, Ext.auK⟩
              · go_wp2
                go_roundw
                all_goals first | (simp [intOf]; done) | (simp [intOf]; omega) | exact ⟨false, rfl, rfl, (by first | with_reducible assumption | (simp [go_sem]; done) | (simp [go_sem, *]; done)), (by first | with_reducible assumption | (simp [go_sem]; done) | (simp [go_sem, *]; done)), (by first | omega | (simp; done) | (simp; omega)), Ext.auK⟩
      · have cB : (rb == p) = false := by simpa using hB
        have hq := u3 hA hB
        clear u1 u2 u3 u4 u5 hA hB K4
        rcases KK (low) hq with ⟨hd, hR⟩ | ⟨hd, hR⟩
        · have R := Lib.hid hR
          have tm : (low).tmod 10 = (low) % 10 := Int.tmod_eq_emod_of_nonneg (by omega)
          have tz : ((low).tmod 10 == 0) = false := by rw [tm]; simpa using hd
          have kwt : IntKind.i64.wrap ((low).tmod 10) = (low).tmod 10 := IntWalk.i64_in _ (by rw [tm]; omega)
          clear hq hR hd KK
          go_wp2_with (first | (go_at_call 94; (with_reducible refine (TA.out _).mono ?_); rintro rv w1 ⟨rfl, hb⟩; have ns : w.heap.size < w1.heap.size := hb.ltK; have n0 : w1.cell? ⟨w.heap.size, 0, none⟩ = some (.int .i64 e) := hb.cellK; have n1 : w1.cell? ⟨w.heap.size, 1, none⟩ = some (.int .i64 f) := hb.cellK; (first | (have nx := hx.trK hb; clear hx) | have nx := hb); clear hb; try clear hs; try clear g0; try clear g1; have hx := nx; clear nx; have hs := ns; clear ns; have g0 := n0; clear n0; have g1 := n1; clear n1) | (go_at_call 94; (with_reducible refine (TB2.out _).mono ?_); rintro rv w1 ⟨rfl, hb⟩; have ns : w.heap.size < w1.heap.size := hb.ltK; have n0 : w1.cell? ⟨w.heap.size, 0, none⟩ = some (.int .i64 e) := hb.cellK; have n1 : w1.cell? ⟨w.heap.size, 1, none⟩ = some (.int .i64 f) := hb.cellK; (first | (have nx := hx.trK hb; clear hx) | have nx := hb); clear hb; try clear hs; try clear g0; try clear g1; have hx := nx; clear nx; have hs := ns; clear ns; have g0 := n0; clear n0; have g1 := n1; clear n1) | (go_at_call 112; refine (TN.out _).mono ?_; rintro rv w1 ⟨rfl, hb⟩; have ns : w.heap.size < w1.heap.size := hb.ltK; have n0 : w1.cell? ⟨w.heap.size, 0, none⟩ = some (.int .i64 e) := hb.cellK; have n1 : w1.cell? ⟨w.heap.size, 1, none⟩ = some (.int .i64 f) := hb.cellK; (first | (have nx := hx.trK hb; clear hx) | have nx := hb); clear hb; try clear hs; try clear g0; try clear g1; have hx := nx; clear nx; have hs := ns; clear ns; have g0 := n0; clear n0; have g1 := n1; clear n1))
          go_loopw [12, 9] (fun s12 s9 wr => s12 = .int .i64 (low) ∧ s9 = .int .i64 t ∧ wr.cell? ⟨w.heap.size, 0, none⟩ = some (.int .i64 e) ∧ wr.cell? ⟨w.heap.size, 1, none⟩ = some (.int .i64 f) ∧ w.heap.size < wr.heap.size ∧ Ext w wr) (fun _ _ _ => 1)
          case atStart => exact ⟨rfl, rfl, (by first | with_reducible assumption | (simp [go_sem]; done) | (simp [go_sem, *]; done)), (by first | with_reducible assumption | (simp [go_sem]; done) | (simp [go_sem, *]; done)), (by first | omega | (simp; done) | (simp; omega)), Ext.auK⟩
          case round =>
            obtain ⟨rfl, rfl, g0, g1, hs, hx⟩ := hrel
            go_wp2
            go_ret2
            exact ⟨by rw [R.out]; rfl, Ext.auK⟩
        · have R := Lib.hid hR
          have kt1 : IntKind.i64.wrap (t + 1) = t + 1 := IntWalk.i64_in _ (by omega)
          have HD := Lib.hid hd
          clear hq hR KK hd
          go_wp2_with (first | (go_at_call 94; (with_reducible refine (TA.out _).mono ?_); rintro rv w1 ⟨rfl, hb⟩; have ns : w.heap.size < w1.heap.size := hb.ltK; have n0 : w1.cell? ⟨w.heap.size, 0, none⟩ = some (.int .i64 e) := hb.cellK; have n1 : w1.cell? ⟨w.heap.size, 1, none⟩ = some (.int .i64 f) := hb.cellK; (first | (have nx := hx.trK hb; clear hx) | have nx := hb); clear hb; try clear hs; try clear g0; try clear g1; have hx := nx; clear nx; have hs := ns; clear ns; have g0 := n0; clear n0; have g1 := n1; clear n1) | (go_at_call 94; (with_reducible refine (TB2.out _).mono ?_); rintro rv w1 ⟨rfl, hb⟩; have ns : w.heap.size < w1.heap.size := hb.ltK; have n0 : w1.cell? ⟨w.heap.size, 0, none⟩ = some (.int .i64 e) := hb.cellK; have n1 : w1.cell? ⟨w.heap.size, 1, none⟩ = some (.int .i64 f) := hb.cellK; (first | (have nx := hx.trK hb; clear hx) | have nx := hb); clear hb; try clear hs; try clear g0; try clear g1; have hx := nx; clear nx; have hs := ns; clear ns; have g0 := n0; clear n0; have g1 := n1; clear n1) | (go_at_call 112; refine (TN.out _).mono ?_; rintro rv w1 ⟨rfl, hb⟩; have ns : w.heap.size < w1.heap.size := hb.ltK; have n0 : w1.cell? ⟨w.heap.size, 0, none⟩ = some (.int .i64 e) := hb.cellK; have n1 : w1.cell? ⟨w.heap.size, 1, none⟩ = some (.int .i64 f) := hb.cellK; (first | (have nx := hx.trK hb; clear hx) | have nx := hb); clear hb; try clear hs; try clear g0; try clear g1; have hx := nx; clear nx; have hs := ns; clear ns; have g0 := n0; clear n0; have g1 := n1; clear n1))
          go_loopw [12, 9] (fun s12 s9 wr => ∃ b : Bool, s12 = .int .i64 (if b then 10 else 1) ∧ s9 = .int .i64 (if b then t else t + 1) ∧ wr.cell? ⟨w.heap.size, 0, none⟩ = some (.int .i64 e) ∧ wr.cell? ⟨w.heap.size, 1, none⟩ = some (.int .i64 f) ∧ w.heap.size < wr.heap.size ∧ Ext w wr) (fun x _ _ => (intOf x).toNat)
          case atStart => exact ⟨true, by rw [HD.out]; rfl, rfl, (by first | with_reducible assumption | (simp [go_sem]; done) | (simp [go_sem, *]; done)), (by first | with_reducible assumption | (simp [go_sem]; done) | (simp [go_sem, *]; done)), (by first | omega | (simp; done) | (simp; omega)), Ext.auK⟩
          case round =>
            obtain ⟨b, rfl, rfl, g0, g1, hs, hx⟩ := hrel
            clear HD
            cases b
            · go_wp2
              go_ret2
              exact ⟨by rw [R.out]; rfl, Ext.auK⟩
            · go_wp2
              go_roundw
              all_goals first | (simp [intOf]; done) | (simp [intOf]; omega) | exact ⟨false, rfl, rfl, (by first | with_reducible assumption | (simp [go_sem]; done) | (simp [go_sem, *]; done)), (by first | with_reducible assumption | (simp [go_sem]; done) | (simp [go_sem, *]; done)), (by first | omega | (simp; done) | (simp; omega)), Ext.auK⟩
    · have cA : (ra == p) = false := by simpa using hA
      by_cases hB : rb = p
      · have cB : (rb == p) = true := by simpa using hB
        have hq := u2 hA hB
        clear u1 u2 u3 u4 u5 hA hB K4
        rcases KK (low + 1) hq with ⟨hd, hR⟩ | ⟨hd, hR⟩
        · have R := Lib.hid hR
          have tm : (low + 1).tmod 10 = (low + 1) % 10 := Int.tmod_eq_emod_of_nonneg (by omega)
          have tz : ((low + 1).tmod 10 == 0) = false := by rw [tm]; simpa using hd
          have kwt : IntKind.i64.wrap ((low + 1).tmod 10) = (low + 1).tmod 10 := IntWalk.i64_in _ (by rw [tm]; omega)
          clear hq hR hd KK
          go_wp2_with (first | (go_at_call 94; (with_reducible refine (TA.out _).mono ?_); rintro rv w1 ⟨rfl, hb⟩; have ns : w.heap.size < w1.heap.size := hb.ltK; have n0 : w1.cell? ⟨w.heap.size, 0, none⟩ = some (.int .i64 e) := hb.cellK; have n1 : w1.cell? ⟨w.heap.size, 1, none⟩ = some (.int .i64 f) := hb.cellK; (first | (have nx := hx.trK hb; clear hx) | have nx := hb); clear hb; try clear hs; try clear g0; try clear g1; have hx := nx; clear nx; have hs := ns; clear ns; have g0 := n0; clear n0; have g1 := n1; clear n1) | (go_at_call 94; (with_reducible refine (TB2.out _).mono ?_); rintro rv w1 ⟨rfl, hb⟩; have ns : w.heap.size < w1.heap.size := hb.ltK; have n0 : w1.cell? ⟨w.heap.size, 0, none⟩ = some (.int .i64 e) := hb.cellK; have n1 : w1.cell? ⟨w.heap.size, 1, none⟩ = some (.int .i64 f) := hb.cellK; (first | (have nx := hx.trK hb; clear hx) | have nx := hb); clear hb; try clear hs; try clear g0; try clear g1; have hx := nx; clear nx; have hs := ns; clear ns; have g0 := n0; clear n0; have g1 := n1; clear n1) | (go_at_call 112; refine (TN.out _).mono ?_; rintro rv w1 ⟨rfl, hb⟩; have ns : w.heap.size < w1.heap.size := hb.ltK; have n0 : w1.cell? ⟨w.heap.size, 0, none⟩ = some (.int .i64 e) := hb.cellK; have n1 : w1.cell? ⟨w.heap.size, 1, none⟩ = some (.int .i64 f) := hb.cellK; (first | (have nx := hx.trK hb; clear hx) | have nx := hb); clear hb; try clear hs; try clear g0; try clear g1; have hx := nx; clear nx; have hs := ns; clear ns; have g0 := n0; clear n0; have g1 := n1; clear n1))
          go_loopw [12, 9] (fun s12 s9 wr => s12 = .int .i64 (low + 1) ∧ s9 = .int .i64 t ∧ wr.cell? ⟨w.heap.size, 0, none⟩ = some (.int .i64 e) ∧ wr.cell? ⟨w.heap.size, 1, none⟩ = some (.int .i64 f) ∧ w.heap.size < wr.heap.size ∧ Ext w wr) (fun _ _ _ => 1)
          case atStart => exact ⟨rfl, rfl, (by first | with_reducible assumption | (simp [go_sem]; done) | (simp [go_sem, *]; done)), (by first | with_reducible assumption | (simp [go_sem]; done) | (simp [go_sem, *]; done)), (by first | omega | (simp; done) | (simp; omega)), Ext.auK⟩
          case round =>
            obtain ⟨rfl, rfl, g0, g1, hs, hx⟩ := hrel
            go_wp2
            go_ret2
            exact ⟨by rw [R.out]; rfl, Ext.auK⟩
        · have R := Lib.hid hR
          have kt1 : IntKind.i64.wrap (t + 1) = t + 1 := IntWalk.i64_in _ (by omega)
          have HD := Lib.hid hd
          clear hq hR KK hd
          go_wp2_with (first | (go_at_call 94; (with_reducible refine (TA.out _).mono ?_); rintro rv w1 ⟨rfl, hb⟩; have ns : w.heap.size < w1.heap.size := hb.ltK; have n0 : w1.cell? ⟨w.heap.size, 0, none⟩ = some (.int .i64 e) := hb.cellK; have n1 : w1.cell? ⟨w.heap.size, 1, none⟩ = some (.int .i64 f) := hb.cellK; (first | (have nx := hx.trK hb; clear hx) | have nx := hb); clear hb; try clear hs; try clear g0; try clear g1; have hx := nx; clear nx; have hs := ns; clear ns; have g0 := n0; clear n0; have g1 := n1; clear n1) | (go_at_call 94; (with_reducible refine (TB2.out _).mono ?_); rintro rv w1 ⟨rfl, hb⟩; have ns : w.heap.size < w1.heap.size := hb.ltK; have n0 : w1.cell? ⟨w.heap.size, 0, none⟩ = some (.int .i64 e) := hb.cellK; have n1 : w1.cell? ⟨w.heap.size, 1, none⟩ = some (.int .i64 f) := hb.cellK; (first | (have nx := hx.trK hb; clear hx) | have nx := hb); clear hb; try clear hs; try clear g0; try clear g1; have hx := nx; clear nx; have hs := ns; clear ns; have g0 := n0; clear n0; have g1 := n1; clear n1) | (go_at_call 112; refine (TN.out _).mono ?_; rintro rv w1 ⟨rfl, hb⟩; have ns : w.heap.size < w1.heap.size := hb.ltK; have n0 : w1.cell? ⟨w.heap.size, 0, none⟩ = some (.int .i64 e) := hb.cellK; have n1 : w1.cell? ⟨w.heap.size, 1, none⟩ = some (.int .i64 f) := hb.cellK; (first | (have nx := hx.trK hb; clear hx) | have nx := hb); clear hb; try clear hs; try clear g0; try clear g1; have hx := nx; clear nx; have hs := ns; clear ns; have g0 := n0; clear n0; have g1 := n1; clear n1))
          go_loopw [12, 9] (fun s12 s9 wr => ∃ b : Bool, s12 = .int .i64 (if b then 10 else 1) ∧ s9 = .int .i64 (if b then t else t + 1) ∧ wr.cell? ⟨w.heap.size, 0, none⟩ = some (.int .i64 e) ∧ wr.cell? ⟨w.heap.size, 1, none⟩ = some (.int .i64 f) ∧ w.heap.size < wr.heap.size ∧ Ext w wr) (fun x _ _ => (intOf x).toNat)
          case atStart => exact ⟨true, by rw [HD.out]; rfl, rfl, (by first | with_reducible assumption | (simp [go_sem]; done) | (simp [go_sem, *]; done)), (by first | with_reducible assumption | (simp [go_sem]; done) | (simp [go_sem, *]; done)), (by first | omega | (simp; done) | (simp; omega)), Ext.auK⟩
          case round =>
            obtain ⟨b, rfl, rfl, g0, g1, hs, hx⟩ := hrel
            clear HD
            cases b
            · go_wp2
              go_ret2
              exact ⟨by rw [R.out]; rfl, Ext.auK⟩
            · go_wp2
              go_roundw
              all_goals first | (simp [intOf]; done) | (simp [intOf]; omega) | exact ⟨false, rfl, rfl, (by first | with_reducible assumption | (simp [go_sem]; done) | (simp [go_sem, *]; done)), (by first | with_reducible assumption | (simp [go_sem]; done) | (simp [go_sem, *]; done)), (by first | omega | (simp; done) | (simp; omega)), Ext.auK⟩
      · have cB : (rb == p) = false := by simpa using hB
        obtain ⟨k5b, hno⟩ := K4 (u1 hA hB)
        have HNO := Lib.hid hno
        clear u1 u2 u3 u4 u5 hA hB K4 KK hno
        go_wp2_with (first | (go_at_call 94; (with_reducible refine (TA.out _).mono ?_); rintro rv w1 ⟨rfl, hb⟩; have ns : w.heap.size < w1.heap.size := hb.ltK; have n0 : w1.cell? ⟨w.heap.size, 0, none⟩ = some (.int .i64 e) := hb.cellK; have n1 : w1.cell? ⟨w.heap.size, 1, none⟩ = some (.int .i64 f) := hb.cellK; (first | (have nx := hx.trK hb; clear hx) | have nx := hb); clear hb; try clear hs; try clear g0; try clear g1; have hx := nx; clear nx; have hs := ns; clear ns; have g0 := n0; clear n0; have g1 := n1; clear n1) | (go_at_call 94; (with_reducible refine (TB2.out _).mono ?_); rintro rv w1 ⟨rfl, hb⟩; have ns : w.heap.size < w1.heap.size := hb.ltK; have n0 : w1.cell? ⟨w.heap.size, 0, none⟩ = some (.int .i64 e) := hb.cellK; have n1 : w1.cell? ⟨w.heap.size, 1, none⟩ = some (.int .i64 f) := hb.cellK; (first | (have nx := hx.trK hb; clear hx) | have nx := hb); clear hb; try clear hs; try clear g0; try clear g1; have hx := nx; clear nx; have hs := ns; clear ns; have g0 := n0; clear n0; have g1 := n1; clear n1))
        go_roundw
        all_goals first | (simp [intOf]; done) | (simp [intOf]; omega) | exact ⟨k + 1, by first | rfl | simp, k5b, HNO, (by first | with_reducible assumption | (simp [go_sem]; done) | (simp [go_sem, *]; done)), (by first | with_reducible assumption | (simp [go_sem]; done) | (simp [go_sem, *]; done)), (by first | omega | (simp; done) | (simp; omega)), Ext.auK⟩

theorem shortest_zero (G N X e f : Int) (hn : N = 0) (w : World) : Calls Tryz.prog 67 #[.agg #[.int .i64 G, .int .i64 N, .int .i64 X], fmt e f] w fun rv w' => rv = .returned (two 0 0) ∧ Ext w w' := by
  have IZ := Lib.hid (fun w => finZero_t G N X hn w)
  clear hn
  go_enter Tryz.func67, Tryz.ntmps67
  go_wp2_with (go_at_call 113; refine (IZ.out _).mono ?_; rintro rv w1 ⟨rfl, hb⟩; have ns : w.heap.size + 2 < w1.heap.size := hb.ltK; have n0 : w1.cell? ⟨w.heap.size, 0, none⟩ = some (.int .i64 G) := hb.cellK; have n1 : w1.cell? ⟨w.heap.size, 1, none⟩ = some (.int .i64 N) := hb.cellK; have n2 : w1.cell? ⟨w.heap.size, 2, none⟩ = some (.int .i64 X) := hb.cellK; have n3 : w1.cell? ⟨w.heap.size + 1, 0, none⟩ = some (.int .i64 e) := hb.cellK; have n4 : w1.cell? ⟨w.heap.size + 1, 1, none⟩ = some (.int .i64 f) := hb.cellK; have n5 : w1.cell? ⟨w.heap.size + 2, 0, none⟩ = some (.int .i64 0) := hb.cellK; have n6 : w1.cell? ⟨w.heap.size + 2, 1, none⟩ = some (.int .i64 0) := hb.cellK; have nz0 : w1.frozen? ⟨w.heap.size + 2, 0, none⟩ = false := hb.frzK; have nz1 : w1.frozen? ⟨w.heap.size + 2, 1, none⟩ = false := hb.frzK; (first | (have nx := hx.trK hb; clear hx) | have nx := hb); clear hb; try clear hs; try clear g0; try clear g1; try clear g2; try clear g3; try clear g4; try clear g5; try clear g6; try clear z0; try clear z1; have hx := nx; clear nx; have hs := ns; clear ns; have g0 := n0; clear n0; have g1 := n1; clear n1; have g2 := n2; clear n2; have g3 := n3; clear n3; have g4 := n4; clear n4; have g5 := n5; clear n5; have g6 := n6; clear n6; have z0 := nz0; clear nz0; have z1 := nz1; clear nz1)
  exact bodyPost_ret (v := two 0 0) (by simp [results, Tryz.results67, go_sem, *]) rfl ⟨rfl, Ext.auK⟩

/-- What ShortestOf answers. -/
noncomputable def soD (e f a : Int) : Int := if unitsV e f a = 0 then 0 else (shF e f ((unitsV e f a).natAbs : Int) (a % pw (e + f))).1

noncomputable def soT (e f a : Int) : Int := if unitsV e f a = 0 then 0 else (shF e f ((unitsV e f a).natAbs : Int) (a % pw (e + f))).2

/-- The shortest decimal of a finite value, zeros too. -/
theorem shortest_so (e f a : Int) (hf : finB e f a = true) (w : World) : Calls Tryz.prog 67 #[.agg #[.int .i64 (a / pw (e + f)), .int .i64 ((odV (unitsV e f a)).natAbs : Int), .int .i64 (shE (unitsV e f a) (unV e f))], fmt e f] w fun rv w' => rv = .returned (two (soD e f a) (soT e f a)) ∧ Ext w w' := by
  by_cases hz : unitsV e f a = 0
  · have e1 : soD e f a = 0 := if_pos hz
    have e2 : soT e f a = 0 := if_pos hz
    rw [e1, e2]
    exact shortest_zero _ _ _ e f (by rw [hz, od_zero]; rfl) w
  · have e1 : soD e f a = (shF e f ((unitsV e f a).natAbs : Int) (a % pw (e + f))).1 := if_neg hz
    have e2 : soT e f a = (shF e f ((unitsV e f a).natAbs : Int) (a % pw (e + f))).2 := if_neg hz
    rw [e1, e2]
    exact shortest_any e f a hf hz w

theorem iShortestOf_no (e f a : Int) (h0 : finB e f a = false) (w : World) (hT : TW w) : Calls Tryz.prog 26 #[fmt e f, .int .i64 a] w fun rv w' => rv = .returned (.tuple #[.int .i64 0, .int .i64 0, .bool false]) ∧ Ext w w' := by
  go_enter Tryz.func26, Tryz.ntmps26
  go_wp2_with (go_at_call 66; refine (finiteAt_no e f a h0 _).mono ?_; rintro rv w1 ⟨rfl, hb⟩; have ns : w.heap.size < w1.heap.size := hb.ltK; have n0 : w1.cell? ⟨w.heap.size, 0, none⟩ = some (.int .i64 e) := hb.cellK; have n1 : w1.cell? ⟨w.heap.size, 1, none⟩ = some (.int .i64 f) := hb.cellK; (first | (have nx := hx.trK hb; clear hx) | have nx := hb); clear hb; try clear hs; try clear g0; try clear g1; have hx := nx; clear nx; have hs := ns; clear ns; have g0 := n0; clear n0; have g1 := n1; clear n1)
  go_ret3
  exact ⟨rfl, Ext.auK⟩

set_option maxHeartbeats 1600000 in
theorem iShortestOf_yes (e f a : Int) (h0 : finB e f a = true) (w : World) (hT : TW w) : Calls Tryz.prog 26 #[fmt e f, .int .i64 a] w fun rv w' => rv = .returned (.tuple #[.int .i64 (soD e f a), .int .i64 (soT e f a), .bool true]) ∧ Ext w w' := by
  have FY := Lib.hid (fun w hT => finiteAt_yes e f a h0 w hT)
  have SH := Lib.hid (fun w => shortest_so e f a h0 w)
  clear h0
  generalize soD e f a = D at *
  generalize soT e f a = T at *
  generalize (a / pw (e + f)) = G at *
  generalize ((odV (unitsV e f a)).natAbs : Int) = N at *
  generalize (shE (unitsV e f a) (unV e f)) = X at *
  go_enter Tryz.func26, Tryz.ntmps26
  go_wp2_with (first | (go_at_call 66; refine (FY.out _ (hT.ext Ext.auK)).mono ?_; rintro rv w1 ⟨rfl, hb⟩; have ns : w.heap.size < w1.heap.size := hb.ltK; have n0 : w1.cell? ⟨w.heap.size, 0, none⟩ = some (.int .i64 e) := hb.cellK; have n1 : w1.cell? ⟨w.heap.size, 1, none⟩ = some (.int .i64 f) := hb.cellK; (first | (have nx := hx.trK hb; clear hx) | have nx := hb); clear hb; try clear hs; try clear g0; try clear g1; have hx := nx; clear nx; have hs := ns; clear ns; have g0 := n0; clear n0; have g1 := n1; clear n1) | (go_at_call 67; refine (SH.out _).mono ?_; rintro rv w2 ⟨rfl, hb⟩; have ns : w1.heap.size < w2.heap.size := hb.ltK; have n0 : w2.cell? ⟨w.heap.size, 0, none⟩ = some (.int .i64 e) := hb.cellK; have n1 : w2.cell? ⟨w.heap.size, 1, none⟩ = some (.int .i64 f) := hb.cellK; have n2 : w2.cell? ⟨w1.heap.size, 0, none⟩ = some (.int .i64 G) := hb.cellK; have n3 : w2.cell? ⟨w1.heap.size, 1, none⟩ = some (.int .i64 N) := hb.cellK; have n4 : w2.cell? ⟨w1.heap.size, 2, none⟩ = some (.int .i64 X) := hb.cellK; (first | (have nx := hx.trK hb; clear hx) | have nx := hb); clear hb; try clear hs; try clear g0; try clear g1; try clear g2; try clear g3; try clear g4; have hx := nx; clear nx; have hs := ns; clear ns; have g0 := n0; clear n0; have g1 := n1; clear n1; have g2 := n2; clear n2; have g3 := n3; clear n3; have g4 := n4; clear n4))
  all_goals (try go_region)
  all_goals (try go_wp2_with fail)
  all_goals go_ret3
  all_goals exact ⟨rfl, Ext.auK⟩

theorem sShortestOf_no (e f a : Int) (h0 : finB e f a = false) (w : World) : Calls Tryz.prog 25 #[fmt e f, .int .i64 a] w fun rv w' => rv = .returned (.tuple #[.int .i64 0, .int .i64 0, .bool false]) ∧ Ext w w' := by
  go_enter Tryz.func25, Tryz.ntmps25
  go_wp2_with (go_at_call 64; refine (fmFinite_any e f a _).mono ?_; rintro rv w1 ⟨rfl, hb⟩; have ns : w.heap.size < w1.heap.size := hb.ltK; have n0 : w1.cell? ⟨w.heap.size, 0, none⟩ = some (.int .i64 e) := hb.cellK; have n1 : w1.cell? ⟨w.heap.size, 1, none⟩ = some (.int .i64 f) := hb.cellK; (first | (have nx := hx.trK hb; clear hx) | have nx := hb); clear hb; try clear hs; try clear g0; try clear g1; have hx := nx; clear nx; have hs := ns; clear ns; have g0 := n0; clear n0; have g1 := n1; clear n1)
  go_ret3
  exact ⟨rfl, Ext.auK⟩

set_option maxHeartbeats 1600000 in
theorem sShortestOf_yes (e f a : Int) (h0 : finB e f a = true) (w : World) : Calls Tryz.prog 25 #[fmt e f, .int .i64 a] w fun rv w' => rv = .returned (.tuple #[.int .i64 (soD e f a), .int .i64 (soT e f a), .bool true]) ∧ Ext w w' := by
  have hap := (fin_pat h0).1
  have ku := kind_units hap
  have hk : kindV e f a < 3 := of_decide_eq_true (by rw [kind_lt3 hap]; exact h0)
  by_cases hz : unitsV e f a = 0
  · have e1 : soD e f a = 0 := if_pos hz
    have e2 : soT e f a = 0 := if_pos hz
    rw [e1, e2]
    have hk0 : kindV e f a = 0 := by
      rcases ku.2.2 with ⟨k0, k4⟩
      rcases Int.lt_or_eq_of_le k0 with g | g
      · exact absurd hz (ku.2.1 (by omega))
      · exact g.symm
    have AZ := Lib.hid (fun w => arZeroK e f a true hap (by simpa using hk0) w)
    clear e1 e2 hk0 hk ku
    go_enter Tryz.func25, Tryz.ntmps25
    go_wp2_with (first | (go_at_call 64; refine (fmFinite_any e f a _).mono ?_; rintro rv w1 ⟨rfl, hb⟩; have ns : w.heap.size < w1.heap.size := hb.ltK; have n0 : w1.cell? ⟨w.heap.size, 0, none⟩ = some (.int .i64 e) := hb.cellK; have n1 : w1.cell? ⟨w.heap.size, 1, none⟩ = some (.int .i64 f) := hb.cellK; (first | (have nx := hx.trK hb; clear hx) | have nx := hb); clear hb; try clear hs; try clear g0; try clear g1; have hx := nx; clear nx; have hs := ns; clear ns; have g0 := n0; clear n0; have g1 := n1; clear n1) | (go_at_call 48; refine (AZ.out _).mono ?_; rintro rv w1 ⟨rfl, hb⟩; have ns : w.heap.size < w1.heap.size := hb.ltK; have n0 : w1.cell? ⟨w.heap.size, 0, none⟩ = some (.int .i64 e) := hb.cellK; have n1 : w1.cell? ⟨w.heap.size, 1, none⟩ = some (.int .i64 f) := hb.cellK; (first | (have nx := hx.trK hb; clear hx) | have nx := hb); clear hb; try clear hs; try clear g0; try clear g1; have hx := nx; clear nx; have hs := ns; clear ns; have g0 := n0; clear n0; have g1 := n1; clear n1))
    go_ret3
    exact ⟨rfl, Ext.auK⟩
  · have e1 : soD e f a = (shF e f ((unitsV e f a).natAbs : Int) (a % pw (e + f))).1 := if_neg hz
    have e2 : soT e f a = (shF e f ((unitsV e f a).natAbs : Int) (a % pw (e + f))).2 := if_neg hz
    rw [e1, e2]
    have hk0 : ¬ kindV e f a = 0 := fun h => hz (ku.1 h)
    have AZ := Lib.hid (fun w => arZeroK e f a false hap (by simpa using hk0) w)
    have TS := Lib.hid (fun w => txShort_any e f a h0 hz w)
    clear e1 e2 hk0 hk ku hz
    generalize (shF e f ((unitsV e f a).natAbs : Int) (a % pw (e + f))).1 = D at *
    generalize (shF e f ((unitsV e f a).natAbs : Int) (a % pw (e + f))).2 = T at *
    go_enter Tryz.func25, Tryz.ntmps25
    go_wp2_with (first | (go_at_call 64; refine (fmFinite_any e f a _).mono ?_; rintro rv w1 ⟨rfl, hb⟩; have ns : w.heap.size < w1.heap.size := hb.ltK; have n0 : w1.cell? ⟨w.heap.size, 0, none⟩ = some (.int .i64 e) := hb.cellK; have n1 : w1.cell? ⟨w.heap.size, 1, none⟩ = some (.int .i64 f) := hb.cellK; (first | (have nx := hx.trK hb; clear hx) | have nx := hb); clear hb; try clear hs; try clear g0; try clear g1; have hx := nx; clear nx; have hs := ns; clear ns; have g0 := n0; clear n0; have g1 := n1; clear n1) | (go_at_call 48; refine (AZ.out _).mono ?_; rintro rv w1 ⟨rfl, hb⟩; have ns : w.heap.size < w1.heap.size := hb.ltK; have n0 : w1.cell? ⟨w.heap.size, 0, none⟩ = some (.int .i64 e) := hb.cellK; have n1 : w1.cell? ⟨w.heap.size, 1, none⟩ = some (.int .i64 f) := hb.cellK; (first | (have nx := hx.trK hb; clear hx) | have nx := hb); clear hb; try clear hs; try clear g0; try clear g1; have hx := nx; clear nx; have hs := ns; clear ns; have g0 := n0; clear n0; have g1 := n1; clear n1) | (go_at_call 65; refine (TS.out _).mono ?_; rintro rv w1 ⟨rfl, hb⟩; have ns : w.heap.size < w1.heap.size := hb.ltK; have n0 : w1.cell? ⟨w.heap.size, 0, none⟩ = some (.int .i64 e) := hb.cellK; have n1 : w1.cell? ⟨w.heap.size, 1, none⟩ = some (.int .i64 f) := hb.cellK; (first | (have nx := hx.trK hb; clear hx) | have nx := hb); clear hb; try clear hs; try clear g0; try clear g1; have hx := nx; clear nx; have hs := ns; clear ns; have g0 := n0; clear n0; have g1 := n1; clear n1))
    go_ret3
    exact ⟨rfl, Ext.auK⟩
end Go.Proofs.YtfgbndjhaiigbacGreatDoor

